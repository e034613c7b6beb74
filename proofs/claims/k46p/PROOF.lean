import PyProof.Rows.All
import Wide.All
import OpenK.AllK
import Wide.FinOn
import Lean
import PyProof.EqAt
import PyProof.EqKinds
import PyProof.TupleCall
import PySem.Challenge.RW_neverwait_k46_whole_lanes_go_on
set_option Elab.async false
set_option linter.all false
set_option maxRecDepth 100000
set_option maxHeartbeats 8000000
def ai:=@PySem.wpAny_bind
def a8:=@PySem.Heap.get?_push_of_some
def cq:=@List.getD_eq_getElem?_getD
def aP:=@List.length_map
def bU:=@List.mem_cons_of_mem
def bg:=@Option.some.inj
def cZ:=@List.getElem?_eq_getElem
def bV:=@List.mem_cons_self
def aX:=@Nat.le_refl
def aq:=@if_neg
def bq:=@Bool.false_ne_true
def aL:=@PySem.Heap.lt_size
def bz:=@PySem.Heap.get?_push_size
def ak:=@if_pos
def bA:=@Nat.lt_of_lt_of_le
def cW:=@List.getElem?_eq_some_iff
def aV:=@List.mem_cons
def aw:=@PyProof.Rows.wpS_bind
def bJ:=@List.getElem?_map
def aY:=@Nat.ne_of_lt
def bn:=@decide_eq_true
def a9:=@List.mem_map
def bE:=@List.mem_filter
def dh:=@List.mem_of_getElem?
def bj:=@Nat.le_trans
def c_:=@List.size_toArray
def cQ:=@List.length_cons
def aO:=@PyProof.Rows.wpS_pure
def dL:=@List.mem_singleton
def dE:=@List.append_assoc
def dS:=@PySem.W.mg_none_of
def dU:=@List.length_append
def dM:=@of_decide_eq_true
def dN:=@Nat.lt_succ_of_lt
def dq:=@List.nodup_cons
def dW:=@List.length_range
def cR:=@Int.ofNat.inj
def eJ:=@Array.length_toList
def dF:=@decide_eq_false
def dG:=@List.map_append
def dt:=@List.mem_range
def dO:=@List.mem_append
def iF:=@Array.getD_eq_getD_getElem?
def cr:=@Nat.zero_le
def eY:=@Array.toList_append
def eZ:=@Nat.lt_of_le_of_lt
def hX:=@PySem.F.plainAttrs_list
def eH:=@List.not_mem_nil
def d9:=@PySem.PassesOwn.never
def gK:=@List.getElem?_eq_none
def je:=@Array.getElem?_eq_getElem
def cX:=@PySem.wpAny_field
def hZ:=@List.mem_append_right
def e8:=@List.filter_cons
def ee:=@PySem.boot_len
def jf:=@PySem.F.type_list_append
def jg:=@PySem.F.slot_list_append
def jh:=@PyProof.Rows.boot_tuple
def dP:=@getElem?_pos
def gN:=@PySem.F.called_set
def ji:=@List.length_filter_le
def j3:=@PySem.wpAny_callSpecial?_slot
def gm:=@List.take_length
def gn:=@PySem.wpAny_call_entry
def gO:=@List.lookup_cons
def fh:=@PySem.Heap.size_push
def gP:=@Bool.and_eq_true
def e_:=@List.map_cons
def iG:=@decide_eq_true_iff
def nB:=@PyProof.Rows.boot_isinstance
def h_:=@PySem.wpAny_newObj_type
def iH:=@List.take_add_one
def nC:=@Array.perm_iff_toList_perm
def km:=@List.perm_append_comm
def jj:=@PySem.wpAny_setField_rec
def ck:=@Ne.symm
def nE:=@List.getElem?_append_left
def iI:=@List.getElem_mem
def gQ:=@List.nodup_nil
def fj:=@List.map_map
def j4:=@List.filter_append
def gs:=@PySem.wpAny_holding
def uL:=@PyProof.Rows.F.plain_set_update_loop
def fG:=@Nat.lt_or_ge
def kn:=@List.map_congr_left
def fJ:=@Int.zero_add
def iJ:=@List.foldl_cons
def j5:=@List.pairwise_map
def j6:=@PySem.Heap.get?_push_ne
def fK:=@PyProof.Rows.wpS_forRange
def ic:=@PySem.W.mg_of
def ie:=@Nat.lt_irrefl
def nF:=@List.Perm.append_left
def nG:=@Array.getElem?_toList
def uM:=@PyProof.Rows.slot_tuple_getitem
def ra:=@List.getElem?_append_right
def j7:=@PySem.W.kia_one
def j8:=@Nat.not_lt_zero
def ig:=@Nat.ne_of_gt
def kq:=@Nat.lt_succ_self
def ii:=@List.length_take
def ij:=@List.all_eq_true
def fN:=@PySem.wpAny_seqItems
def jC:=@PySem.Around.under_plainId
def gu:=@PySem.codeAny_builtin
def iX:=@Bool.eq_false_iff
def ik:=@Nat.div_add_mod
def il:=@List.range_succ
def im:=@Bool.eq_iff_iff
def et:=@beq_iff_eq
def kr:=@List.mem_append_left
def oA:=@PyProof.Rows.callWith_type1
def l_:=@Nat.lt_of_succ_lt_succ
def md:=@Nat.div_div_eq_div_mul
def oB:=@List.nodup_iff_pairwise_ne
def iY:=@PySem.Heap.size_update
def oC:=@Array.getElem?_eq_some_iff
def ku:=@PySem.mem_of_lookup
def jD:=@PySem.wpAny_setState_of
def me:=@List.length_replicate
def mf:=@List.mem_of_mem_take
def iZ:=@Array.size_map
def ky:=@Array.toList_push
def fQ:=@PySem.wpAny_of_eq
def mh:=@beq_eq_false_iff_ne
def vt:=@PyProof.Rows.F.entry_set_update_loop
def kA:=@Nat.mod_eq_of_lt
def kB:=@Nat.le_add_right
def mi:=@List.mem_filterMap
def mj:=@Bool.false_eq_true
def oE:=@List.take_append_drop
def i6:=@PySem.wpAny_standAt
def rb:=@List.drop_eq_getElem_cons
def eI:=@or_false
def ml:=@decide_eq_true_eq
def mm:=@List.ext_getElem?
def mn:=@Int.toNat_natCast
def d0:=@PyProof.Rows.wpS_mono
def oF:=@PySem.Heap.get?_update_self
def rd:=@List.length_erase_of_mem
def re:=@List.getElem?_take_of_lt
def oG:=@Nat.mul_le_mul_left
def oH:=@List.getElem?_range
def mq:=@PySem.wpAny_truthy_bool
def gv:=@PySem.wpAny_mono
def jE:=@PySem.wpAny_attempt
def i7:=@Nat.mul_add
def rf:=@PyProof.Rows.boot_list
def jF:=@Nat.le_of_lt
def rh:=@List.getElem?_set_self
def oI:=@Int.emod_lt_of_pos
def rj:=@Array.toList_filterMap
def mr:=@List.find?_cons
def kC:=@List.any_cons
def gw:=@PyProof.Rows.wpS_modify
def oJ:=@PySem.wpAny_pyIter_tuple
def rk:=@PySem.Heap.get?_update_other
def mv:=@PySem.wpAny_passesOwn
def rn:=@List.mem_iff_getElem
def rq:=@List.mem_erase_of_ne
def jG:=@List.map_id
def vw:=@Int.fdiv_eq_ediv_of_nonneg
def oK:=@List.nodup_range
def vy:=@Classical.byContradiction
def gy:=@Prod.ext
def mw:=@Nat.mul_assoc
def vz:=@Nat.lt_succ_iff_lt_or_eq
def rA:=@PySem.Heap.get?_none_of_le
def oM:=@ne_of_beq_false
def oN:=@List.forIn_cons
def oO:=@Int.emod_nonneg
def oP:=@PySem.wpAny_isInstance
def kD:=@PySem.codeAny_mono
def jH:=@Nat.mod_lt
def vA:=@decide_eq_false_iff_not
def kF:=@Nat.mul_one
def rB:=@PySem.Heap.get?_update_ne
def vB:=@PySem.wpAny_comprehension_free
def vC:=@Option.map_eq_some_iff
def mx:=@Nat.succ.inj
def vD:=@List.range_succ_eq_map
def rC:=@List.nodup_append
def vE:=@List.length_pos_of_mem
def oQ:=@List.forIn_nil
def vF:=@Array.getElem?_eq_none
def rD:=@PySem.wpAny_Call_Name_kw
def rE:=@PySem.Obj.data_mapFields
def kG:=@PySem.sizeLine_eq
def rF:=@decide_eq_decide
def rG:=@List.zipIdx_cons
def oR:=@not_false_iff
def oU:=@List.cons.inj
def rH:=@PySem.wpAny_pyIter_list
def i8:=@if_false
def vG:=@List.mem_of_mem_drop
def vH:=@List.getElem?_set_ne
def y6:=@List.eq_nil_of_length_eq_zero
def rJ:=@List.of_mem_zip
def rK:=@List.append_nil
def vI:=@PySem.W.hideAll_get
def vJ:=@List.filter_sublist
def rL:=@PySem.wpAny_askSetting
def oW:=@Nat.le_of_eq
def oX:=@PySem.wpAny_onRaise
def vK:=@PySem.wpAny_updateSeq_pair
def vL:=@PySem.codeAny_call_builtin
def vM:=@List.find?_eq_none
def y7:=@Int.fmod_eq_emod_of_nonneg
def rM:=@PySem.pushCells_keeps
def y8:=@List.mem_of_find?_eq_some
def y_:=@Decidable.byContradiction
def oY:=@Nat.mul_pos
def oZ:=@Nat.div_one
def vN:=@List.foldl_append
def vO:=@PySem.Heap.SameBut.update
def vP:=@Bool.not_eq_true'
def gC:=@not_or
def zc:=@PyProof.Rows.boot_sorted
def zd:=@Option.isSome_iff_exists
def rN:=@Nat.add_assoc
def rO:=@Bool.not_true
def kH:=@PyProof.Rows.size_push'
def rP:=@PySem.wpAny_setField
def rQ:=@PySem.isSubtype_stop
def ze:=@Nat.le_mul_of_pos_right
def vQ:=@List.any_eq_true
def vR:=@Array.toList_map
def jI:=@if_true
def zf:=@List.take_of_length_le
def zg:=@List.pairwise_lt_range
def zh:=@List.Perm.append_right
def rR:=@Int.ofNat_lt
def vS:=@List.zipIdx_nil
def vT:=@List.length_set
def vU:=@List.Perm.of_eq
def rS:=@PySem.plainId_quiet
def zi:=@List.mem_of_mem_erase
def io:=@PyProof.Rows.wpS_get
def vV:=@PySem.wpAny_pyIter_zip
def zj:=@Nat.div_lt_of_lt_mul
def zk:=@List.replicate_succ'
def zm:=@List.length_take_le'
def zn:=@Array.toList_reverse
def zo:=@Array.toList_extract
def zq:=@PySem.wpAny_pyNext_list_item
def zu:=@PySem.wpAny_pyIter_rangeiter
def o0:=@PySem.wpAny_Name
def zw:=@PySem.W.plainGet_of
def zx:=@List.filterMap_cons
def vW:=@PySem.wpAny_specialOf
def vX:=@PySem.wpAny_execs_nil
def vY:=@PySem.codeAny_of_tree
def vZ:=@List.all_cons
def zy:=@PySem.wpAny_pyNext_list_end
def zA:=@PySem.W.callWith_K
def zB:=@PySem.Obj.isFreed_of_fields
def zD:=@Nat.eq_zero_or_pos
def zE:=@Nat.add_sub_cancel
def zF:=@List.getElem_range
def zG:=@List.filterMap_map
def v6:=@PySem.wpAny_runValue
def zH:=@PySem.wpAny_loadName_local
def v7:=@PySem.isSubtype_type
def o5:=@and_true
def v8:=@Nat.succ_pos
def v_:=@Nat.sub_self
def wb:=@Nat.lt_trans
def zJ:=@List.reverse_perm
def wc:=@List.map_nil
def zK:=@List.filter_congr
def zL:=@List.any_eq_false
def zM:=@PySem.wpAny_setEntries_of
def zN:=@PySem.wpAny_loadName_free
def zO:=@Nat.succ_le_succ
def zP:=@Nat.le_of_not_lt
def zR:=@Nat.div_eq_of_lt
def zS:=@List.mem_flatMap
def zU:=@List.countP_cons
def wd:=@Nat.one_mul
def Fk:=@Int.mul_le_mul_of_nonneg_left
def rT:=@PySem.wpAny_call
def zV:=@Option.map_some
def zW:=@List.find?_some
def zX:=@PySem.Code.quiet_builtin
def Fl:=@PySem.F.typeOf_object_class
def we:=@PySem.wpAny_typeOf
def zY:=@PySem.wpAny_storeSet_of
def zZ:=@PySem.wpAny_loadPart_at
def z0:=@PySem.wpAny_assign_Name
def z4:=@PySem.Value.isInt_shape
def Fm:=@PySem.F.sub_list_frozenset
def Fn:=@PySem.F.excBase_ValueError
def z5:=@PySem.Obj.cls_mapFields
def Fo:=@Nat.mul_lt_mul_of_pos_left
def z8:=@Nat.mul_le_mul
def Fp:=@List.perm_ext_iff_of_nodup
def z_:=@List.drop_zero
def Fq:=@Array.toList_setIfInBounds
def mz:=@PyProof.Rows.wpS_lift
def Fs:=@Nat.add_mul_mod_self_left
def Ft:=@List.pairwise_iff_getElem
def Fu:=@List.getElem?_eq_none_iff
def Aa:=@PySem.wpAny_eqBool_int
def Fv:=@PySem.F.type_list_remove
def Fw:=@PySem.F.slot_list_remove
def Fx:=@List.filterMap_cons_some
def Ab:=@Bool.and_true
namespace L2
open PySem PySem.Spec PyProof.Rows
def NR(h:Heap)(e:Addr)(cls:Value)(tb:Value):Prop:=∃o vs,h.get? e=some o/\o.cls=cls/\o.data=.fields vs/\vs[1]?=some tb/\vs[2]?=some .none
def RH(h:Heap)(T:Addr)(fl:Value):Prop:=∃o vs,h.get? T=some o/\o.data=.fields vs/\vs[3]?=some fl
structure BM(B:Heap)(l:List Env)(e:Addr)(cls fl:Value)(h:Heap):Prop where
 stays:B.StaysIn h
 new:B.get? e=none
 frames:h.FunFrames B l
 rc:∃T,NR h e cls (.ref T)/\B.get? T=none/\T≠e/\RH h T fl
abbrev Dv(B:Heap)(l:List Env)(e:Addr)(cls:Value)(h:Heap):Prop:=BM B l e cls .none h
section
variable {M:Model} {A:Around} {E:Value->Shared->Prop} {s:Shared} {B:Heap} {l outer:List Env} {env:Env} {e L:Addr} {cls:Value}
theorem wf{h:Heap}{T:Addr}{o:Obj}{vs:Array Value}{f:Array Value->Array Value}(hT:h.get? T=some o)(hd:o.data=.fields vs):
  (∀b,b≠T->(h.update T (Obj.mapFields f)).get? b=h.get? b)/\(h.update T (Obj.mapFields f)).get? T=some (Obj.mapFields f o)/\(Obj.mapFields f o).data=.fields (f vs)/\(Obj.mapFields f o).cls=o.cls/\h.UpToSlots (h.update T (Obj.mapFields f)):=by
 have o1:∀b,b≠T->(h.update T (Obj.mapFields f)).get? b=h.get? b:=fun b n=>rk _ _ (ck n);refine⟨o1,oF _ hT (zB (rE hd _)),rE hd _,z5 _ _,fun b u q nf=>⟨u.slots,?_⟩⟩;by_cases c:b=T
 .subst c;rw[hT] at q;cases q;exact absurd hd (nf vs)
 .rw[o1 b c];exact q
theorem lC{h h':Heap}(F:h.FunFrames B l)(u:h.UpToSlots h'):h'.FunFrames B l:=F.of_keeps fun b o q nf=>let ⟨sl,z⟩:=u b o q nf;⟨_,z,rfl⟩
theorem pV{fl:Value}{Q:Unit->Shared->Prop}(x:BM B l e cls fl s.heap)(q:∀h',Dv B l e cls h'->s.heap.UpToSlots h'->Q () { s with heap:=h' }):wpAny M A (setFlight (.ref e) none) Q E s:=by
 obtain⟨T,⟨o,vs,he,hc,hd,h1,h2⟩,nT,Te,oT,ts,hT,Q6,h3⟩:=x.rc;have z3:3<ts.size:=(oC.mp h3).1;unfold setFlight;refine ai (cX he hd h1 ?_);rw[ak (show (Value.ref T != Value.none)=true from by simp)];refine rP hT Q6 z3 ?_;obtain⟨p1,p2,p3,_,p5⟩:=wf (f:=(·.setIfInBounds 3 ((none:Option Addr).elim Value.none fun f=>rawInt f))) hT Q6;exact q _ ⟨fun b u z=>(p1 b fun c=>by rw[c,nT] at z;cases z).trans (x.stays b u z),x.new,lC x.frames p5,T,⟨o,vs,(p1 e (ck Te)).trans he,hc,hd,h1,h2⟩,nT,Te,_,_,p2,p3,by simp[z3]⟩ p5
theorem uN{o:Obj}{vs:Array Value}{head:Value}{JX:Bool}{Q:Unit->Shared->Prop}(NS:A.frames=some (env::outer))(F:s.heap.FunFrames B (env::outer))(hf:env.frame=some L)(st:B.StaysIn s.heap)(nw:B.get? e=none)(he:s.heap.get? e=some o)(hd:o.data=.fields vs)(z1:1<vs.size)(h2:vs[2]?=some .none)(q:∀h',BM B (env::outer) e o.cls (rawInt L) h'->s.heap.UpToSlots h'->Q () { s with heap:=h' }):
  wpAny M A (do let a <- frameOf env;let pl <- entryPlaceOf L JX;let b <- EntryCells.newEntry head a .none (rawInt L) .none pl;setField (.ref e) 1 b) Q E s:=by
 have ne:e∉(env::outer).filterMap (·.frame):=fun m=>by
  obtain⟨_,u,hu,nf⟩:=F.mem m;rw[he] at hu;cases hu;exact nf vs hd
 refine ai (wpAny_frameOf_fun NS F hf fun h1 so=>?_);refine ai (wpAny_entryPlaceOf fun pl uO=>?_);unfold EntryCells.newEntry newFields;refine ai (h_ ?_ (uO.sizeOk5 _ _ _ _ _));have e1:h1.get? e=some o:=(so.2.1 e ne).trans he;have JY:B.StaysIn h1:=fun b u z=>(so.2.1 b fun m=>by rw[(F.mem m).1] at z;cases z).trans (st b u z);have up1:s.heap.UpToSlots h1:=fun b u z _=>so.2.2 b u z;generalize hTo:({ cls:=.type "traceback",dict:=none,data:=.fields ([head,.ref L,.none,rawInt L,.none]++(if pl.isEmpty then List.replicate 6 Value.none else pl)).toArray }:Obj)=To;have e2:=a8 (h:=h1) To e1;refine rP e2 hd z1 ?_;obtain⟨p1,p2,p3,p4,p5⟩:=wf (f:=(·.setIfInBounds 1 (Value.ref h1.objs.size))) e2 hd;have Te:h1.objs.size≠e:=ig (aL e1);have upP:h1.UpToSlots (h1.push To):=Heap.UpToSlots.of_keeps fun b u z=>a8 _ z;refine q _ ⟨fun b u z=>(p1 b fun c=>by rw[c,nw] at z;cases z).trans (a8 _ (JY b u z)),nw,lC F ((up1.trans upP).trans p5),h1.objs.size,⟨_,_,p2,p4,p3,by simp[z1],by rw[Array.getElem?_setIfInBounds_ne (by decide)];exact h2⟩,?_,Te,To,_,(p1 _ Te).trans (bz h1 (by rw[<-hTo];rfl)),by rw[<-hTo],?_⟩ ((up1.trans upP).trans p5)
 .cases z:B.get? h1.objs.size with
  |none=>rfl
  |some u=>exact absurd (aL (JY _ u z)) (ie _)
 .first|(simp;done)|(rcases uO with rfl|⟨_,_,_,_,_,_,_,rfl⟩ <;> simp)
theorem JZ{Q:Unit->Shared->Prop}(NS:A.frames=some (env::outer))(hf:env.frame=some L)(x:Dv B (env::outer) e cls s.heap)(q:∀h',BM B (env::outer) e cls (rawInt L) h'->s.heap.UpToSlots h'->Q () { s with heap:=h' }):wpAny M A (noteFrame (.ref e) env) Q E s:=by
 obtain⟨T,⟨o,vs,he,hc,hd,h1,h2⟩,nT,Te,oT,ts,hT,Q6,h3⟩:=x.rc;subst hc;unfold noteFrame;simp only[hf];refine ai (cX he hd h1 ?_);rw[ak (show (Value.ref T != Value.none)=true from by simp)];refine ai (cX hT Q6 h3 ?_);rw[aq (show ¬ ((Value.none==rawInt L)=true) from by simp[rawInt])];refine ai (rP hT Q6 (oC.mp h3).1 ?_);obtain⟨p1,p2,p3,p4,p5⟩:=wf (f:=(·.setIfInBounds 3 Value.none)) hT Q6;exact uN NS (lC x.frames p5) hf (fun b u z=>(p1 b fun c=>by rw[c,nT] at z;cases z).trans (x.stays b u z)) x.new ((p1 e (ck Te)).trans he) hd (oC.mp h1).1 h2 fun h' y u=>q h' y (p5.trans u)
theorem Fy{Q:Unit->Shared->Prop}(NS:A.frames=some (env::outer))(hf:env.frame=some L)(x:Dv B (env::outer) e cls s.heap)(q:∀h',Dv B outer e cls h'->s.heap.UpToSlots h'->Q () { s with heap:=h' }):wpAny M A (leaving env (.ref e)) Q E s:=by
 unfold leaving;refine ai (JZ NS hf x fun h1 y u=>?_);refine pV (s:={ s with heap:=h1 }) y fun h2 z v=>q h2 ⟨z.stays,z.new,z.frames.2.2,z.rc⟩ (u.trans v)
theorem Ac{h:Heap}{args:List Value}{Q:Unit->Shared->Prop}(NS:A.frames=some (env::outer))(hf:env.frame=some L)(st:B.StaysIn h)(F:h.FunFrames B (env::outer))(x:Heap.MadeExcOf h s.heap e cls args)(q:∀h',Dv B outer e cls h'->s.heap.UpToSlots h'->Q () { s with heap:=h' }):wpAny M A (leaving env (.ref e)) Q E s:=by
 obtain⟨t,he,_,_⟩:=x.there;have nw:B.get? e=none:=by
  cases z:B.get? e with
  |none=>rfl
  |some u=>have:=st e u z;rw[x.new] at this;cases this
 unfold leaving noteFrame;simp only[hf];refine ai (ai (cX he rfl (x:=.none) rfl ?_));rw[aq (by decide)];refine uN NS (lC F (Heap.UpToSlots.of_keeps x.keeps)) hf (fun b u z=>x.keeps b u (st b u z)) nw he rfl (by simp) rfl fun h1 y u=>?_;exact pV (s:={ s with heap:=h1 }) y fun h2 z v=>q h2 ⟨z.stays,z.new,z.frames.2.2,z.rc⟩ (u.trans v)
end
theorem uv:plainId "proto.unchain"=true:=by decide +kernel
theorem uw:entryFor table "proto.unchain"=some Builtin.«proto.unchain»:=PySem.entryFor_of_fast (by kernel_rfl)
def BO(p:Addr)(h:Heap):Prop:=∃o vs,h.get? p=some o/\o.data=.fields vs/\vs[2]?=some .none
theorem Fz{α:Type}{prog:Program}{w:World}{A:Around}{Q:α->Shared->Prop}{E:Value->Shared->Prop}{s:Shared}{a p:Addr}{o:Obj}{vs:Array Value}(hh:A.handled=some (.ref p))(hp:BO p s.heap)(ne:p≠a)(ha:s.heap.get? a=some o)(hd:o.data=.fields vs)(z2:2<vs.size)(q:E (.ref a) { s with heap:=s.heap.update a (Obj.mapFields (·.setIfInBounds 2 (.ref p))) }):wpAny (model prog w) A (raiseNew (.ref a):Sem α) Q E s:=by
 obtain⟨op,ws,h1,h2,h3⟩:=hp;unfold raiseNew;refine ai (wpAny_handled ?_);rw[hh];dsimp only;rw[ak (show (Value.ref p != Value.ref a)=true from by simp[ne])];refine ai (gs (v6 (gu uw ?_)));rw[jC uv _];show wpAny _ _ (field (.ref p) 2 >>= _) _ _ s;refine ai (cX h1 h2 h3 ?_);rw[ak (by decide)];refine wpAny_pure ?_;show wpAny (model prog w) A (updateField a 2 (Value.ref p) >>= fun _=>throw (Value.ref a)) Q E s;unfold updateField;refine ai (ai (wpAny_load ha ?_));rw[hd];dsimp only;rw[ak z2];exact wpAny_update (by rw[ha]) (wpAny_throw q)
theorem Ae{prog:Program}{w:World}{A:Around}{E:Value->Shared->Prop}{s:Shared}{it p:Addr}{x left step:Int}{Q:Option Value->Shared->Prop}(hh:A.handled=some (.ref p))(hp:BO p s.heap)(iK:IsRangeIter s.heap it x left step)(hl:left<=0)(hQ:∀h',(∀b o,s.heap.get? b=some o->h'.get? b=some o)->Q none { s with heap:=h' }):wpAny (model prog w) A (pyNext (.ref it)) Q E s:=by
 have hT:s.TypeIs (.ref it) "range_iterator":=⟨_,iK,rfl⟩
 unfold pyNext;refine ai (jE (j3 (name:=Str.ofString "__next__") hT F.slot_range_iterator_next
  (gn F.slot_range_iterator_next hT F.entry_range_iterator_next ?_ (F.args_range_iterator_next_1 _))))
 show wpAny _ _ (field (.ref it) 0 >>= _) _ _ s;refine ai (cX iK rfl (x:=rawInt x) rfl ?_);refine ai (cX iK rfl (x:=rawInt left) rfl ?_);refine ai (cX iK rfl (x:=rawInt step) rfl ?_);dsimp only[rawInt];rw[ak hl];refine ai (wpAny_rule ?_);refine ai ?_;show wpAny _ _ (newExc (.type "StopIteration") [] >>= _) _ _ _;refine ai ?_;simp only[newExc,newTuple];refine ai (h_ ?_ (by size_fits));refine ai (m:=firstArgMember _ _) (fQ (a:=Value.none) (by first|rfl|(simp only[firstArgMember];rfl)) ?_);refine h_ ?_ (by size_fits);generalize hTu:({ cls:=.type "tuple",data:=.seq ([]:List Value).toArray }:Obj)=Tu;generalize WR:({ cls:=.type "StopIteration",data:=.fields (#[Value.ref s.heap.objs.size,Value.none,Value.none,Value.none,Value.bool false,Value.none]++ownMembersOf (Value.type "StopIteration") []) }:Obj)=Ex;have dEx:Ex.data=.fields (#[Value.ref s.heap.objs.size,Value.none,Value.none,Value.none,Value.bool false,Value.none]++ownMembersOf (Value.type "StopIteration") []):=by rw[<-WR]
 have cEx:Ex.cls=.type "StopIteration":=by rw[<-WR]
 have k1:∀b o,s.heap.get? b=some o->((s.heap.push Tu).push Ex).get? b=some o:=fun b o e=>a8 _ (a8 _ e);have gE:((s.heap.push Tu).push Ex).get? (s.heap.push Tu).objs.size=some Ex:=bz _ (by rw[<-WR];rfl);have mB:∀b o,s.heap.get? b=some o->b≠(s.heap.push Tu).objs.size:=fun b o e=>aY (aL (a8 Tu e));obtain⟨op,ws,n1,n2,n3⟩:=id hp;refine Fz (A:=A.in1) (p:=p) hh ⟨op,ws,k1 _ _ n1,n2,n3⟩ (mB _ _ n1) gE dEx (by simp;lia) ?_;refine ai (oP (T:="StopIteration") (b:=true) ⟨_,oF _ gE (zB (rE dEx _)),(z5 _ _).trans cEx⟩ rQ ?_);exact wpAny_pure (hQ _ fun b o e=>(rk _ _ (ck (mB b o e))).trans (k1 b o e))
abbrev fR:=Sum Int Str
def uP:fR->Value->Bool
 |.inl k,v=>Value.isInt k v
 |.inr x,v=>Value.isStrOf x v
def WS(w:World):fR->Int
 |.inl k=>hashInt k
 |.inr x=>hashStr w x
theorem du:∀ {k:fR} {v:Value},uP k v=true->(∃i t,k=Sum.inl i/\v=Value.int i t)\/(∃x t,k=Sum.inr x/\v=Value.str x t)
 |.inl i,v,h=>by
  obtain⟨t,e⟩:=z4 (k:=i) (v:=v) h;exact .inl ⟨i,t,rfl,e⟩
 |.inr x,v,h=>by
  obtain⟨t,e⟩:=Value.isStrOf_shape (x:=x) (v:=v) h;exact .inr ⟨x,t,rfl,e⟩
theorem Dw(i:Int)(t:Tok):uP (.inl i) (.int i t)=true:=by simp[uP,Value.isInt]
theorem Dx(x:Str)(t:Tok):uP (.inr x) (.str x t)=true:=by simp[uP,Value.isStrOf]
theorem NU(a b:Int):decide ((Sum.inl a:fR)=Sum.inl b)=(a==b):=by
 by_cases e:a=b
 .subst e;simp
 .have h:¬ (Sum.inl a:fR)=Sum.inl b:=fun q=>e (Sum.inl.inj q);rw[dF h];exact(mh.mpr e).symm
theorem NW(a b:Str):decide ((Sum.inr a:fR)=Sum.inr b)=decide (a=b):=by
 by_cases e:a=b
 .subst e;simp
 .have h:¬ (Sum.inr a:fR)=Sum.inr b:=fun q=>e (Sum.inr.inj q);rw[dF h,dF e]
theorem NX(a:Int)(b:Str):decide ((Sum.inl a:fR)=Sum.inr b)=false:=dF (fun q=>nomatch q)
theorem NY(a:Str)(b:Int):decide ((Sum.inr a:fR)=Sum.inl b)=false:=dF (fun q=>nomatch q)
def dD(prog:Program)(w:World):PySem.KeyKind prog w fR where
 is:=uP
 hash:=WS w
 inj:=fun v a b ha hb=>by
  rcases du ha with ⟨i,t,rfl,rfl⟩|⟨x,t,rfl,rfl⟩
  .rcases du hb with ⟨j,u,rfl,e⟩|⟨y,u,rfl,e⟩
   .injection e with e1 _;rw[e1]
   .exact nomatch e
  .rcases du hb with ⟨j,u,rfl,e⟩|⟨y,u,rfl,e⟩
   .exact nomatch e
   .injection e with e1 _;rw[e1]
 byValue:=fun k v h=>by
  rcases du h with ⟨i,t,rfl,rfl⟩|⟨x,t,rfl,rfl⟩ <;> rfl
 pyHash:=fun hv h=>by
  rcases du hv with ⟨i,t,rfl,rfl⟩|⟨x,t,rfl,rfl⟩
  .exact wpAny_pyHash_int h
  .exact wpAny_pyHash_str h
 eqBool:=fun hu hv h=>by
  rcases du hu with ⟨i,t,rfl,rfl⟩|⟨x,t,rfl,rfl⟩
  .rcases du hv with ⟨j,u,rfl,rfl⟩|⟨y,u,rfl,rfl⟩
   .rw[NU] at h;exact Aa h
   .rw[NX] at h;exact SeqAt.EqAt.int_str i t y u _ _ _ _ h
  .rcases du hv with ⟨j,u,rfl,rfl⟩|⟨y,u,rfl,rfl⟩
   .rw[NY] at h;exact SeqAt.EqAt.str_int x t j u _ _ _ _ h
   .rw[NW] at h;exact wpAny_eqBool_str h
 «strs»:=fun k x t v h=>by
  rcases du h with ⟨i,u,rfl,e⟩|⟨y,u,rfl,e⟩
  .exact nomatch e
  .injection e with e1 _
   subst e1
   cases v <;> rfl
theorem xz(prog:Program)(w:World)(i:Int)(t:Tok):(dD prog w).is (.inl i) (.int i t)=true:=Dw i t
theorem xA(prog:Program)(w:World)(x:Str)(t:Tok):(dD prog w).is (.inr x) (.str x t)=true:=Dx x t
inductive V where
 |bR|bl (b:Bool)|int (i:Int)|str (x:Str)|E5 (b:Array UInt8)|NZ (b:UInt64)|ref (a:Addr)|ty (n:String)
 deriving DecidableEq
def bC:V->Value->Prop
 |.bR,u=>u=Value.none
 |.bl b,u=>u=Value.bool b
 |.int i,u=>∃t,u=Value.int i t
 |.str x,u=>∃t,u=Value.str x t
 |.E5 b,u=>∃t,u=Value.bytes b t
 |.NZ b,u=>∃t,u=Value.float b t
 |.ref a,u=>u=Value.ref a
 |.ty n,u=>u=Value.type n
abbrev aZ:List V->List Value->Prop:=Paired bC
theorem aZ.length(r:aZ xs us):xs.length=us.length:=Paired.length r
theorem aZ.get:∀ {xs:List V} {us:List Value} {i:Nat} {x:V},aZ xs us->xs[i]?=some x->∃u,us[i]?=some u/\bC x u
 |_,_,_,_,.nil,e=>by simp at e
 |_,_,0,_,.cons r _,e=>by simp at e;subst e;exact⟨_,rfl,r⟩
 |_,_,i+1,x,.cons _ t,e=>by
  obtain⟨u,h1,h2⟩:=aZ.get (i:=i) (x:=x) t (by simpa using e);exact⟨u,by simpa using h1,h2⟩
theorem aZ.set(r:bC x u):∀ {xs:List V} {us:List Value} (i:Nat),aZ xs us->aZ (xs.set i x) (us.set i u)
 |_,_,_,.nil=>.nil
 |_,_,0,.cons _ t=>.cons r t
 |_,_,i+1,.cons q t=>.cons q (aZ.set r i t)
theorem aZ.append:∀ {xs ys:List V} {us ws:List Value},aZ xs us->aZ ys ws->aZ (xs++ys) (us++ws)
 |_,_,_,_,.nil,s=>s
 |_,_,_,_,.cons r t,s=>.cons r (aZ.append t s)
theorem aZ.take:∀ {xs:List V} {us:List Value} (n:Nat),aZ xs us->aZ (xs.take n) (us.take n)
 |_,_,0,_=>.nil
 |_,_,_+1,.nil=>.nil
 |_,_,n+1,.cons r t=>.cons r (aZ.take n t)
theorem aZ.drop:∀ {xs:List V} {us:List Value} (n:Nat),aZ xs us->aZ (xs.drop n) (us.drop n)
 |_,_,0,r=>r
 |_,_,_+1,.nil=>.nil
 |_,_,n+1,.cons _ t=>aZ.drop n t
def nI:Option V->Option Value->Prop
 |some v,some u=>bC v u
 |none,none=>True
 |_,_=>False
def KV{κ:Type}:List (κ×V)->List (κ×Value)->Prop:=Paired fun (p:κ×V) (q:κ×Value)=>p.1=q.1/\bC p.2 q.2
def kV:fR->V
 |.inl i=>.int i
 |.inr x=>.str x
inductive HO where
 |lst (xs:List V)
 |tup (xs:List V)
 |dK (kvs:List (fR×V))|dT (kvs:List (List fR×V))
 |set (S:Int->Bool) (n:Nat)
 |ins (C dx:Addr) (fs:List (Str×V))
 |own (x:Addr)
 |xd (fs:List (Str×V))
 |met (f x:Addr)
 |BQ (lo hi:Int)
 |mC (o:Obj) (u:HO)
 |qI (ps:Array Value)
 |ext (φ:Heap->Prop)
abbrev Hp:=Addr->Option HO
def upd(H:Hp)(a:Addr)(o:HO):Hp:=fun b=>if b=a then some o else H b
theorem ag:upd H a o a=some o:=by unfold upd;rw[ak rfl]
theorem al(h:b≠a):upd H a o b=H b:=by unfold upd;rw[aq h]
theorem qJ:upd (upd H a o) a u=upd H a u:=by
 funext b;unfold upd;split <;> rfl
theorem dH{H:Hp}{a b:Addr}{o u:HO}(h:H a=some o)(h':H b=some u)(d:o≠u):a≠b:=by
 intro e;subst e;rw[h] at h';exact d (bg h')
theorem ap{H:Hp}{a b:Addr}{o:HO}(h:H a=some o)(h':H b=none):a≠b:=by
 intro e;subst e;rw[h] at h';cases h'
section
variable (P:Program) (w:World)
def mD(h:Heap)(a:Addr)(items:Array Value):Prop:=∃o,h.get? a=some o/\o.cls=.type "tuple"/\∃n,o.data=.seq items n/\o.dict=none
theorem mD.tup(p:mD h a items):IsTup h a items:=let ⟨o,e,c,n,d,_⟩:=p;⟨o,e,c,n,d⟩
theorem mD.new(h:Heap)(items:Array Value):mD (h.push { cls:=.type "tuple",data:=.seq items }) h.objs.size items:=⟨_,bz _ rfl,rfl,_,rfl,rfl⟩
def ce(H:Hp)(h:Heap)(a:Addr):HO->Prop
 |.lst xs=>xs.length<=sizeLine/\∃ (its:List Value) (n:Nat),aZ xs its/\h.get? a=some { cls:=.type "list",data:=.seq its.toArray n }
 |.tup xs=>xs.length<=sizeLine/\∃its:List Value,aZ xs its/\mD h a its.toArray
 |.dK kvs=>kvs.length<=sizeLine/\(a==sysModules)=false/\∃vs,KV kvs vs/\h.DictOf (dD P w) a vs
 |.dT kvs=>kvs.length<=sizeLine/\(a==sysModules)=false/\∃xs:List (List fR×Addr×Value),
   Paired (fun (p:List fR×V) (q:List fR×Addr×Value)=>p.1=q.1/\H q.2.1=some (.tup (p.1.map kV))/\bC p.2 q.2.2) kvs xs/\
   ∃o es ep,h.get? a=some o/\o.ExactDict/\o.data=.dict es ep/\es.toList=xs.map (entryOfKey (tupleKind (dD P w)))/\(xs.map (·.1)).Nodup
 |.set S n=>h.SetOf (intKind P w) a S n
 |.ins C dx fs=>H dx=some (.own a)/\fs.length<=1000/\dx≠a/\h.get? a=some (PySem.W.instObj C dx)/\
   ∃mA,h.Ns1 dx mA/\(∀f,nI (fs.lookup f) (mA f))/\PySem.Within mA (fs.map (·.1))
 |.own _=>∃o,h.get? a=some o
 |.xd fs=>∃mA,h.Ns1 a mA/\∀f,nI (fs.lookup f) (mA f)
 |.BQ lo hi=>∃t u v,h.get? a=some { cls:=.type "range",data:=.fields #[.int lo t,.int hi u,.int 1 v] }
 |.mC o u=>h.get? a=some o/\ce H h a u
 |.qI ps=>h.get? a=some { cls:=.none,data:=.fields ps }
 |.met f x=>h.get? a=some (PySem.W.methodObj (.ref f) (.ref x))
 |.ext φ=>φ h/\(∃o,h.get? a=some o)/\∀h1 h2:Heap,φ h1->(∀o,h1.get? a=some o->h2.get? a=some o)->φ h2
def kI(H:Hp)(h:Heap):Prop:=∀a o,H a=some o->ce P w H h a o
end
section
variable {P:Program} {w:World} {H H':Hp} {h h':Heap} {a:Addr} {o:HO}
theorem ce.lt(x:ce P w H h a o):a<h.objs.size:=by
 cases o with
 |lst xs=>obtain⟨_,_,_,_,e⟩:=x;exact aL e
 |tup xs=>obtain⟨_,_,_,p⟩:=x;exact p.tup.lt
 |dK kvs=>obtain⟨_,_,_,_,o,_,_,e,_⟩:=x;exact aL e
 |dT kvs=>obtain⟨_,_,_,_,o,_,_,e,_⟩:=x;exact aL e
 |set S n=>obtain⟨o,_,_,_,e,_⟩:=x;exact aL e
 |ins C dx fs=>obtain⟨_,_,_,e,_⟩:=x;exact aL e
 |own y=>obtain⟨_,e⟩:=x;exact aL e
 |xd fs=>obtain⟨_,⟨_,_,_,e,_⟩,_⟩:=x;exact aL e
 |BQ lo hi=>obtain⟨_,_,_,e⟩:=x;exact aL e
 |mC ob u=>obtain⟨e,_⟩:=x;exact aL e
 |qI ps=>exact aL (show h.get? a=some _ from x)
 |met f y=>exact aL (show h.get? a=some _ from x)
 |ext φ=>obtain⟨_,⟨_,e⟩,_⟩:=x;exact aL e
theorem Paired.RJ:∀ {l₁:List α} {l₂:List β},Paired F l₁ l₂->(∀a b,F a b->G a b)->Paired G l₁ l₂
 |_,_,.nil,_=>.nil
 |_,_,.cons r t,f=>.cons (f _ _ r) (Paired.RJ t f)
theorem ce.nJ(x:ce P w H h a o)(k:∀b u,(b=a\/H b=some (.own a))->h.get? b=some u->h'.get? b=some u)(ho:∀b,H b=some (.own a)->H' b=some (.own a))(ht:∀b xs,H b=some (.tup xs)->H' b=some (.tup xs)):ce P w H' h' a o:=by
 induction o with
 |lst xs=>obtain⟨z,its,n,r,e⟩:=x;exact⟨z,its,n,r,k _ _ (.inl rfl) e⟩
 |tup xs=>obtain⟨z,its,r,ob,e,c⟩:=x;exact⟨z,its,r,ob,k _ _ (.inl rfl) e,c⟩
 |dK kvs=>obtain⟨z,y,vs,r,ob,es,ep,e,c⟩:=x;exact⟨z,y,vs,r,ob,es,ep,k _ _ (.inl rfl) e,c⟩
 |dT kvs=>
  obtain⟨z,y,xs,r,ob,es,ep,e,c⟩:=x;exact⟨z,y,xs,Paired.RJ r fun p q z=>⟨z.1,ht _ _ z.2.1,z.2.2⟩,ob,es,ep,k _ _ (.inl rfl) e,c⟩
 |set S n=>obtain⟨ob,es,ep,t,e,c⟩:=x;exact⟨ob,es,ep,t,k _ _ (.inl rfl) e,c⟩
 |ins C dx fs=>
  obtain⟨d,z,ne,e,mA,⟨od,es,ep,e2,c⟩,r⟩:=x;exact⟨ho _ d,z,ne,k _ _ (.inl rfl) e,mA,⟨od,es,ep,k _ _ (.inr d) e2,c⟩,r⟩
 |own y=>obtain⟨ob,e⟩:=x;exact⟨ob,k _ _ (.inl rfl) e⟩
 |xd fs=>obtain⟨mA,⟨od,es,ep,e,c⟩,r⟩:=x;exact⟨mA,⟨od,es,ep,k _ _ (.inl rfl) e,c⟩,r⟩
 |BQ lo hi=>obtain⟨t,u,v,e⟩:=x;exact⟨t,u,v,k _ _ (.inl rfl) e⟩
 |mC ob u ih=>obtain⟨e,q⟩:=x;exact⟨k _ _ (.inl rfl) e,ih q⟩
 |qI ps=>
  have e:h.get? a=some { cls:=.none,data:=.fields ps }:=x;show h'.get? a=some { cls:=.none,data:=.fields ps };exact k a _ (.inl rfl) e
 |met f y=>
  have e:h.get? a=some (PySem.W.methodObj (.ref f) (.ref y)):=x;show h'.get? a=some (PySem.W.methodObj (.ref f) (.ref y));exact k a _ (.inl rfl) e
 |ext φ=>obtain⟨p,⟨o,e⟩,st⟩:=x;exact⟨st _ _ p fun o q=>k _ _ (.inl rfl) q,⟨o,k _ _ (.inl rfl) e⟩,st⟩
theorem kI.lt(x:kI P w H h)(e:H a=some o):a<h.objs.size:=(x a o e).lt
theorem kI.fresh(x:kI P w H h)(e:h.objs.size<=a):H a=none:=by
 cases q:H a with
 |none=>rfl
 |some u=>exact absurd (bA (x.lt q) e) (ie _)
theorem kI.kept(x:kI P w H h)(k:∀b u,h.get? b=some u->h'.get? b=some u):kI P w H h':=fun a o e=>
 (x a o e).nJ (fun b u _ q=>k b u q) (fun _ q=>q) fun _ _ q=>q
theorem kI.laid(x:kI P w H h)(k:∀b u,h.get? b=some u->h'.get? b=some u)(hp:h.objs.size<=a)(new:ce P w (upd H a o) h' a o):kI P w (upd H a o) h':=fun b u e=>by
 have hn:=x.fresh hp;by_cases hb:b=a
 .subst hb;rw[ag] at e;cases e;exact new
 .rw[al hb] at e;exact(x b u e).nJ (fun c v _ q=>k c v q) (fun c q=>by rw[al (ap q hn)];exact q) fun c xs q=>by rw[al (ap q hn)];exact q
end
def Rd(H:Hp)(a:Addr)(u:HO):Prop:=H a=some u\/∃o,H a=some (.mC o u)
theorem Rd.ok(r:Rd H a u)(x:kI P w H h):ce P w H h a u:=by
 rcases r with r|⟨o,r⟩
 .exact x a u r
 .obtain⟨_,q⟩:=x a _ r;exact q
def RK:Option HO->Prop
 |some (.lst _)=>True
 |some (.dK _)=>True
 |some (.dT _)=>True
 |some (.set _ _)=>True
 |some (.ins _ _ _)=>True
 |some (.ext _)=>True
 |_=>False
section
variable {P:Program} {w:World} {H:Hp} {h h':Heap} {x e:Addr} {o':HO}
theorem kI.write(ok:kI P w H h)(mu:RK (H x))(he:e=x\/H e=some (.own x))(k:∀b u,b≠e->h.get? b=some u->h'.get? b=some u)(Q7:∃u,h'.get? e=some u)(new:ce P w (upd H x o') h' x o'):kI P w (upd H x o') h':=fun b u q=>by
 have RL:∀c y,H c=some (.own y)->c≠x:=fun c y r z=>by subst z;rw[r] at mu;exact mu
 have WT:∀c xs,H c=some (.tup xs)->c≠x:=fun c xs r z=>by subst z;rw[r] at mu;exact mu
 by_cases hb:b=x
 .subst hb;rw[ag] at q;cases q;exact new
 .rw[al hb] at q;by_cases JD:b=e
  .have q':H b=some (.own x):=by
    rcases he with z|z
    .exact absurd (JD.trans z) hb
    .rw[JD];exact z
   rw[q] at q';cases q';obtain⟨v,hv⟩:=Q7;exact⟨v,by rw[JD];exact hv⟩
  .refine(ok b u q).nJ (fun c v hc r=>k c v ?_ r) (fun c r=>by rw[al (RL c b r)];exact r) fun c xs r=>by rw[al (WT c xs r)];exact r
   rcases hc with rfl|hc
   .exact JD
   .rintro rfl;rcases he with z|z
    .exact RL c b hc z
    .rw[hc] at z;cases z;exact hb rfl
end
structure Un(fs ex:List Addr)(H H':Hp)(h h':Heap):Prop where
 keep:∀b o,h.get? b=some o->H b=none->b∉fs->b∉ex->h'.get? b=some o
 slot:∀b o,h.get? b=some o->H b=none->b∈fs->b∉ex->∃sl,h'.get? b=some { o with slots:=sl }
 free:∀b o,h.get? b=some o->H b=none->b∉ex->H' b=none
 there:∀b o,h.get? b=some o->b∉ex->∃o',h'.get? b=some o'
 mE:∀b xs,H b=some (.tup xs)->H' b=some (.tup xs)
 o6:∀b o u,H b=some (.mC o u)->H' b=some (.mC o u)
 o7:∀b ps,H b=some (.qI ps)->∃more,H' b=some (.qI (ps++more))
section
variable {fs fs' ex ex':List Addr} {H H1 H2:Hp} {h h1 h2 h':Heap} {a x e:Addr} {o:HO}
theorem Un.any(u:Un fs ex H H1 h h1)(q:h.get? b=some ob)(n:H b=none)(hx:b∉ex):∃sl,h1.get? b=some { ob with slots:=sl }:=by
 by_cases hb:b∈fs
 .exact u.slot b ob q n hb hx
 .exact⟨ob.slots,u.keep b ob q n hb hx⟩
theorem Un.kept(k:∀b u,h.get? b=some u->h'.get? b=some u):Un fs ex H H h h':=
 ⟨fun b ob q _ _ _=>k b ob q,fun b ob q _ _ _=>⟨ob.slots,k b ob q⟩,fun _ _ _ n _=>n,fun b ob q _=>⟨ob,k b ob q⟩,fun _ _ q=>q,fun _ _ _ q=>q,fun _ ps q=>⟨#[],by rw[q];simp⟩⟩
theorem Un.refl:Un fs ex H H h h:=Un.kept fun _ _ q=>q
theorem Un.laid(k:∀b u,h.get? b=some u->h'.get? b=some u)(hp:h.objs.size<=a)(hn:H a=none):Un fs ex H (upd H a o) h h' where
 keep:=fun b u q _ _ _=>k b u q
 slot:=fun b u q _ _ _=>⟨u.slots,k b u q⟩
 free:=fun b u q n _=>by rw[al (aY (bA (aL q) hp))];exact n
 there:=fun b u q _=>⟨u,k b u q⟩
 mE:=fun b xs q=>by rw[al (ap q hn)];exact q
 o6:=fun b u xs q=>by rw[al (ap q hn)];exact q
 o7:=fun b ps q=>⟨#[],by rw[al (ap q hn),q];simp⟩
theorem Un.write(mu:RK (H x))(he:e=x\/H e=some (.own x))(k:∀b u,b≠e->h.get? b=some u->h'.get? b=some u)(Q7:∃u,h'.get? e=some u):Un fs ex H (upd H x o) h h':=by
 have hx:∀b,H b=none->b≠x:=fun b n z=>by subst z;rw[n] at mu;exact mu
 have hb:∀b,H b=none->b≠e:=fun b n z=>by
  subst z;rcases he with r|r
  .exact hx b n r
  .rw[n] at r;cases r
 have hm:∀b u,H b=some u->¬ RK (some u)->b≠x:=fun b u q nm z=>by subst z;rw[q] at mu;exact nm mu
 refine⟨fun b u q n _ _=>k b u (hb b n) q,fun b u q n _ _=>⟨u.slots,k b u (hb b n) q⟩,fun b u q n _=>by rw[al (hx b n)];exact n,fun b u q _=>?_,
  fun b xs q=>by rw[al (hm b _ q fun z=>z)];exact q,fun b u xs q=>by rw[al (hm b _ q fun z=>z)];exact q,fun b ps q=>⟨#[],by rw[al (hm b _ q fun z=>z),q];simp⟩⟩
 by_cases JD:b=e
 .subst JD;exact Q7
 .exact⟨u,k b u JD q⟩
end
def V_(h:Heap)(H:Hp):List Addr:=(List.range h.objs.size).filter fun a=>(H a).isSome
def ux(h:Heap)(H:Hp):Heap:=PySem.W.hideAll h (V_ h H)
theorem Dy(h:Heap)(H:Hp):(ux h H).objs.size=h.objs.size:=PySem.W.hideAll_size _ _
theorem FA(e:h.get? b=some o)(n:H b=none):(ux h H).get? b=some o:=
 vI _ e fun hm=>by
  have q:(H b).isSome=true:=(bE.mp hm).2;rw[n] at q;simp at q
theorem J0(e:(ux h H).get? b=some o):h.get? b=some o/\H b=none:=by
 have e':h.get? b=some o:=PySem.W.of_hideAll (V_ h H) e;refine⟨e',?_⟩;cases q:H b with
 |none=>rfl
 |some x=>
  have hm:b∈V_ h H:=bE.mpr ⟨dt.mpr (aL e'),by simp[q]⟩;have z:(ux h H).get? b=none:=PySem.W.hideAll_none (V_ h H) hm;rw[z] at e;cases e
def iL(g h:Heap)(L:Addr):List (Addr×Obj):=(List.range h.objs.size).filterMap fun a=>if a=L\/(g.get? a).isSome=true then none else (h.get? a).map fun o=>(a,o)
theorem iM(h1:a≠L)(h2:g.get? a=none)(h3:h.get? a=some o):(a,o)∈iL g h L:=
 mi.mpr ⟨a,dt.mpr (aL h3),by simp[h1,h2,h3]⟩
theorem rV(hp:p∈iL g h L):p.1≠L/\g.get? p.1=none/\h.get? p.1=some p.2:=by
 obtain⟨b,_,e⟩:=mi.mp hp;split at e
 .cases e
 .rename_i hn;cases q:h.get? b with
  |none=>rw[q] at e;simp at e
  |some u=>
   rw[q] at e;simp only[zV,Option.some.injEq] at e;subst e;refine⟨fun z=>hn (.inl z),?_,q⟩;show g.get? b=none;cases r:g.get? b with
   |none=>rfl
   |some v=>exact(hn (.inr (by simp[r]))).elim
theorem xB:News g L h (iL g h L):=fun p hp=>let ⟨a,b,c⟩:=rV hp;⟨c,a,b⟩
structure Mod(K:PySem.W.Frag)(mg:Str->Option Value)(base:Heap):Prop where
 Q8:K.In base
 glob:base.Ns mainGlobals mg
 blt:∃mb,base.Ns builtinsNs mb/\∀x:Str,x≠"__name__"->mb x=bootBuiltins x
 nolimit:base.NoLimit
structure Cx where
 prog:Program
 w:World
 K:PySem.W.Frag
 mg:Str->Option Value
 base:Heap
 A:Around
 N:List Str
 s₀:Shared
 H₀:Hp
 env:Env
 outer:List Env
 stack:List Env
 ex:List Addr
 fn:Str->Bool
 calm:Bool
 pn:List (Addr×Obj)
 xe:Value->Shared->Prop
def o8(l:List Env):List Addr:=l.filterMap (·.frame)
abbrev Cx.fs(X:Cx):List Addr:=o8 X.outer
def RM(sc:Scope)(x:Str):Prop:=sc.names.lookup x=some .local\/sc.names.lookup x=some .cell\/sc.names.lookup x=some .free
def RN(sc:Scope)(x:Str):Prop:=sc.names.lookup x=some .local\/sc.names.lookup x=some .cell
def WU(env:Env)(h:Heap)(m:Str->Option Value)(x:Str)(u:Value):Prop:=
 (env.kindOf x=some .local/\m x=some u)\/((env.kindOf x=some .cell\/env.kindOf x=some .free)/\∃c,env.cells.lookup x=some c/\h.IsCell c (some u))
structure Cx.Ok(X:Cx):Prop where
 mod:Mod X.K X.mg X.base
 kind:X.env.scope.kind=.function
 glob:X.env.globals=mainGlobals
 blt:X.env.builtins=builtinsNs
 above:X.s₀.heap.objs.size<=X.env.locals
 inj:∀x y c,X.env.cells.lookup x=some c->X.env.cells.lookup y=some c->x=y
 has:∀x,(X.env.kindOf x=some .cell\/X.env.kindOf x=some .free)->∃c,X.env.cells.lookup x=some c
 RO:∀x c,X.fn x=true->X.env.cells.lookup x=some c->X.s₀.heap.objs.size<=c
 hd:X.calm=true->X.A.handled=none
 frames:X.A.frames=some X.stack
 JE:X.stack=X.outer\/(X.stack=X.env::X.outer/\X.env.frame=some X.env.locals)
 Wa:∀b∈X.ex,b≠X.env.locals/\∀x c,X.env.cells.lookup x=some c->c≠b
 bs:∀b o,X.base.get? b=some o->X.s₀.heap.get? b=some o/\X.H₀ b=none
 JF:X.base.objs.size<=X.s₀.heap.objs.size
 rW:∀b o,X.base.get? b=some o->b∉X.ex
 J1:∀b∈X.ex,b∉X.fs
 nK:X.s₀.heap.FunFrames X.base X.outer
 J2:∀b∈X.fs,X.H₀ b=none
structure aG(X:Cx)(ae:List (Addr×Obj))(σ:List (Option V))(H:Hp)(s:Shared):Prop where
 ok:X.Ok
 os:s.os=X.s₀.os
 bare:AllBare s.gens
 base:Un X.fs X.ex X.H₀ H X.s₀.heap s.heap
 loc:∃m,s.heap.Ns X.env.locals m/\∀ (i:Nat) (x:Str) (v:V),X.N[i]?=some x->σ[i]?=some (some v)->RM X.env.scope x->∃u,bC v u/\WU X.env s.heap m x u
 cell:∀x c,X.env.cells.lookup x=some c->∃v,s.heap.IsCell c v
 free:H X.env.locals=none
 lW:∀x c,X.env.cells.lookup x=some c->H c=none
 pin:∀p∈X.pn++ae,s.heap.get? p.1=some p.2/\H p.1=none/\p.1≠X.env.locals/\p.1∉X.fs/\∀v,p.2.data≠.cell v
 cf:kI X.prog X.w H s.heap
 len:σ.length=X.N.length
section
variable {X:Cx} {ae:List (Addr×Obj)} {σ:List (Option V)} {H H':Hp} {s:Shared} {h':Heap}
theorem Cx.Ok.WV(ok:X.Ok)(e:X.base.get? b=some o):b∉X.fs:=fun hb=>by
 have:=(ok.nK.mem hb).1;rw[e] at this;cases this
theorem aG.bs(I:aG X ae σ H s):∀b o,X.base.get? b=some o->s.heap.get? b=some o/\H b=none:=fun b o e=>
 ⟨I.base.keep b o (I.ok.bs b o e).1 (I.ok.bs b o e).2 (I.ok.WV e) (I.ok.rW b o e),I.base.free b o (I.ok.bs b o e).1 (I.ok.bs b o e).2 (I.ok.rW b o e)⟩
theorem aG.bk(I:aG X ae σ H s):∀b o,X.base.get? b=some o->s.heap.get? b=some o:=fun b o e=>(I.bs b o e).1
theorem aG.mod(I:aG X ae σ H s):Mod X.K X.mg X.base:=I.ok.mod
theorem aG.pW(I:aG X ae σ H s):X.K.In s.heap:=I.ok.mod.Q8.keeps I.bk
theorem aG.fr(I:aG X ae σ H s):∃m,Fr X.base X.env.locals s.heap m:=
 let ⟨m,hn,_⟩:=I.loc
 ⟨m,hn,I.bk,bj I.ok.JF I.ok.above⟩
theorem aG.lt(I:aG X ae σ H s):X.env.locals<s.heap.objs.size:=let ⟨_,hn,_⟩:=I.loc;hn.lt
theorem aG.sz(I:aG X ae σ H s):X.s₀.heap.objs.size<=s.heap.objs.size:=bj I.ok.above (jF I.lt)
theorem aG.WW(I:aG X ae σ H s)(h:s.heap.objs.size<=a):a∉X.fs:=fun hb=>by
 obtain⟨_,o,ho,_⟩:=I.ok.nK.mem hb;exact absurd (bA (aL ho) (bj I.sz h)) (ie _)
theorem aG.N0(I:aG X ae σ H s):∀x c,X.env.cells.lookup x=some c->c≠X.env.locals:=fun x c e z=>by
 obtain⟨v,o,ho,hd⟩:=I.cell x c e;obtain⟨m,⟨o',es,ep,Af,RP,_⟩,_⟩:=I.loc;rw[z,Af] at ho;cases ho;rw[RP] at hd;cases hd
theorem aG.nK(I:aG X ae σ H s):s.heap.FunFrames X.base X.outer:=by
 have all:∀ (l:List Env),(∀b∈o8 l,b∈X.fs)->X.s₀.heap.FunFrames X.base l->s.heap.FunFrames X.base l:=by
  intro l;induction l with
  |nil=>intro _ _;trivial
  |cons env r ih=>
   intro hs hl;obtain⟨hk,⟨L,o,hf,hn,ho,hd⟩,hr⟩:=hl;have hL:L∈X.fs:=hs L (by unfold o8;rw[zx,hf];exact bV);obtain⟨sl,e⟩:=I.base.slot L o ho (I.ok.J2 L hL) hL fun z=>I.ok.J1 L z hL;exact⟨hk,⟨L,_,hf,hn,e,hd⟩,ih (fun b hb=>hs b (by unfold o8;rw[zx,hf];exact bU _ hb)) hr⟩
 exact all X.outer (fun _ hb=>hb) I.ok.nK
theorem aG.stack(I:aG X ae σ H s):s.heap.FunFrames X.base X.stack:=by
 rcases I.ok.JE with e|⟨e,hf⟩
 .rw[e];exact I.nK
 .rw[e];obtain⟨m,hn,_⟩:=I.loc;refine .cons (by rw[I.ok.kind];decide) hf hn ?_ I.nK;exact rA (bj I.ok.JF I.ok.above)
theorem aG.rX(I:aG X ae σ H s):∀b∈o8 X.stack,b∈X.env.locals::X.fs:=fun b hb=>by
 rcases I.ok.JE with e|⟨e,hf⟩
 .rw[e] at hb;exact bU _ hb
 .rw[e] at hb;unfold o8 at hb;rw[zx,hf] at hb;exact hb
theorem aG.wg(I:aG X ae σ H s):∀b∈o8 X.stack,H b=none:=fun b hb=>by
 rcases aV.mp (I.rX b hb) with e|hb
 .rw[e];exact I.free
 .obtain⟨_,o,ho,_⟩:=I.ok.nK.mem hb;exact I.base.free b o ho (I.ok.J2 b hb) fun z=>I.ok.J1 b z hb
theorem aG.step{g':Array GenState}{t':Nat}{d':Drawn}{ch:List Addr}(I:aG X ae σ H s)(JG:∀b∈ch,(b∈X.ex\/X.s₀.heap.objs.size<=b)/\b≠X.env.locals/\(∀x c,X.env.cells.lookup x=some c->c≠b)/\∀p∈X.pn++ae,p.1≠b)(keep:∀b o,b≠X.env.locals->b∉X.fs->b∉ch->s.heap.get? b=some o->H b=none->h'.get? b=some o)(slot:∀b o,b≠X.env.locals->b∈X.fs->b∉ch->s.heap.get? b=some o->H b=none->∃sl,h'.get? b=some { o with slots:=sl })(free:∀b o,b∉ch->s.heap.get? b=some o->H b=none->H' b=none)(there:∀b o,b∉ch->s.heap.get? b=some o->∃o',h'.get? b=some o')(mE:∀b xs,H b=some (.tup xs)->H' b=some (.tup xs))(o6:∀b o u,H b=some (.mC o u)->H' b=some (.mC o u))(o7:∀b ps,H b=some (.qI ps)->∃more,H' b=some (.qI (ps++more)))(ns:∀m,s.heap.Ns X.env.locals m->h'.Ns X.env.locals m)(cf:kI X.prog X.w H' h')(hg:AllBare g'):
  aG X ae σ H' { s with heap:=h',gens:=g',drawn:=d',toks:=t' }:=by
 have neL:∀b o,X.s₀.heap.get? b=some o->b≠X.env.locals:=fun b o e=>aY (bA (aL e) I.ok.above);have Wb:∀b o,X.s₀.heap.get? b=some o->b∉X.ex->b∉ch:=fun b o e hx hb=>by
  rcases(JG b hb).1 with z|z
  .exact hx z
  .exact absurd (bA (aL e) z) (ie _)
 have MG:∀x c,X.env.cells.lookup x=some c->∀v,s.heap.IsCell c v->h'.IsCell c v:=fun x c e v ⟨o,ho,hd⟩=>by
  have RQ:c∉ch:=fun z=>(JG c z).2.2.1 x c e rfl;by_cases hc:c∈X.fs
  .obtain⟨sl,q⟩:=slot c o (I.N0 x c e) hc RQ ho (I.lW x c e);exact⟨_,q,hd⟩
  .exact⟨o,keep c o (I.N0 x c e) hc RQ ho (I.lW x c e),hd⟩
 refine⟨I.ok,I.os,hg,⟨fun b o e n hb hx=>?_,fun b o e n hb hx=>?_,fun b o e n hx=>?_,fun b o e hx=>?_,fun b xs e=>mE b xs (I.base.mE b xs e),fun b o xs e=>o6 b o xs (I.base.o6 b o xs e),fun b ps e=>?_⟩,?_,fun x c e=>?_,?_,fun x c e=>?_,fun p hp=>?_,cf,I.len⟩
 .exact keep b o (neL b o e) hb (Wb b o e hx) (I.base.keep b o e n hb hx) (I.base.free b o e n hx)
 .obtain⟨sl,e1⟩:=I.base.slot b o e n hb hx;obtain⟨WX,e2⟩:=slot b _ (neL b o e) hb (Wb b o e hx) e1 (I.base.free b o e n hx);exact⟨WX,e2⟩
 .obtain⟨o',e1⟩:=I.base.there b o e hx;exact free b o' (Wb b o e hx) e1 (I.base.free b o e n hx)
 .obtain⟨o',e1⟩:=I.base.there b o e hx;exact there b o' (Wb b o e hx) e1
 .obtain⟨m1,e1⟩:=I.base.o7 b ps e;obtain⟨m2,e2⟩:=o7 b _ e1;exact⟨m1++m2,by rw[e2,Array.append_assoc]⟩
 .obtain⟨m,hn,hl⟩:=I.loc;refine⟨m,ns m hn,fun i x v e1 e2 e3=>?_⟩;obtain⟨u,r,l⟩:=hl i x v e1 e2 e3;refine⟨u,r,?_⟩;rcases l with l|⟨k,c,e,z⟩
  .exact .inl l
  .exact .inr ⟨k,c,e,MG x c e _ z⟩
 .obtain⟨v,z⟩:=I.cell x c e;exact⟨v,MG x c e v z⟩
 .obtain⟨m,⟨o,_,_,ho,_⟩,_⟩:=I.loc;exact free _ o (fun z=>(JG _ z).2.1 rfl) ho I.free
 .obtain⟨v,o,ho,hd⟩:=I.cell x c e;exact free c o (fun z=>(JG c z).2.2.1 x c e rfl) ho (I.lW x c e)
 .obtain⟨e,n,ne,nf,d⟩:=I.pin p hp;have RQ:p.1∉ch:=fun z=>(JG p.1 z).2.2.2 p hp rfl;exact⟨keep p.1 p.2 ne nf RQ e n,free p.1 p.2 RQ e n,ne,nf,d⟩
theorem aG.un{t':Nat}(I:aG X ae σ H s)(u:Un X.fs [] H H' s.heap h')(cf:kI X.prog X.w H' h'):aG X ae σ H' { s with heap:=h',toks:=t' }:=by
 obtain⟨m,⟨o,es,ep,ho,r⟩,_⟩:=id I.loc;obtain⟨sl,hL⟩:=u.any ho I.free (by simp);exact I.step (g':=s.gens) (d':=s.drawn) (ch:=[]) (fun _ z=>nomatch z) (fun b o _ hb _ e n=>u.keep b o e n hb (by simp)) (fun b o _ hb _ e n=>u.slot b o e n hb (by simp)) (fun b o _ e n=>u.free b o e n (by simp)) (fun b o _ e=>u.there b o e (by simp)) u.mE u.o6 u.o7 (fun m' hm=>by
  obtain⟨o',es',Q9,Af,r'⟩:=hm;rw[ho] at Af;cases Af;exact⟨_,es',Q9,hL,r'⟩) cf I.bare
theorem aG.call{g':Array GenState}{t':Nat}{d':Drawn}{ch:List Addr}(I:aG X ae σ H s)(u:Un (o8 X.stack) ch H H' s.heap h')(cf:kI X.prog X.w H' h')(hg:AllBare g')(JG:∀b∈ch,(b∈X.ex\/X.s₀.heap.objs.size<=b)/\b≠X.env.locals/\(∀x c,X.env.cells.lookup x=some c->c≠b)/\∀p∈X.pn++ae,p.1≠b):
  aG X ae σ H' { s with heap:=h',gens:=g',drawn:=d',toks:=t' }:=by
 obtain⟨m,⟨o,es,ep,ho,r⟩,_⟩:=id I.loc;obtain⟨sl,hL⟩:=u.any ho I.free fun z=>(JG _ z).2.1 rfl;exact I.step (ch:=ch) JG (fun b o hL hb hc e n=>u.keep b o e n (fun z=>(aV.mp (I.rX b z)).elim hL hb) hc) (fun b o _ _ hc e n=>u.any e n hc) (fun b o hc e n=>u.free b o e n hc) (fun b o hc e=>u.there b o e hc) u.mE u.o6 u.o7 (fun m' hm=>by
  obtain⟨o',es',Q9,Af,r'⟩:=hm;rw[ho] at Af;cases Af;exact⟨_,es',Q9,hL,r'⟩) cf hg
theorem aG.turned{t':Nat}{it:Addr}(I:aG X ae σ H s)(k:∀b o,b≠it->s.heap.get? b=some o->h'.get? b=some o)(hn:H it=none)(hL:it≠X.env.locals)(h1:it∈X.ex\/X.s₀.heap.objs.size<=it)(h2:∀x c,X.env.cells.lookup x=some c->c≠it)(h3:∀p∈X.pn++ae,p.1≠it):aG X ae σ H { s with heap:=h',toks:=t' }:=by
 have MJ:∀b u,H b=some u->b≠it:=fun b u e z=>by rw[z,hn] at e;cases e
 refine I.step (g':=s.gens) (d':=s.drawn) (ch:=[it]) (fun b hb=>?_) (fun b o _ _ hc e _=>k b o (fun z=>hc (by simp[z])) e) (fun b o _ _ hc e _=>⟨o.slots,k b o (fun z=>hc (by simp[z])) e⟩) (fun _ _ _ _ n=>n)
  (fun b o hc e=>⟨o,k b o (fun z=>hc (by simp[z])) e⟩) (fun _ _ e=>e) (fun _ _ _ e=>e) (fun b ps e=>⟨#[],by rw[e];simp⟩) (fun m hm=>?_) (fun b u e=>?_) I.bare
 .have e:b=it:=by simpa using hb
  subst e;exact⟨h1,hL,h2,h3⟩
 .obtain⟨o,es,ep,ho,r⟩:=hm;exact⟨o,es,ep,k _ o (ck hL) ho,r⟩
 .refine(I.cf b u e).nJ (fun c v hc q=>k c v ?_ q) (fun _ q=>q) fun _ _ q=>q;rcases hc with z|z
  .rw[z];exact MJ b u e
  .exact MJ c _ z
theorem aG.tok(I:aG X ae σ H s)(t:Nat):aG X ae σ H { s with toks:=t }:=I.un (h':=s.heap) (t':=t) Un.refl I.cf
theorem aG.kept(I:aG X ae σ H s)(k:∀b u,s.heap.get? b=some u->h'.get? b=some u):aG X ae σ H { s with heap:=h',toks:=t' }:=I.un (Un.kept k) (I.cf.kept k)
theorem aG.laid(I:aG X ae σ H s)(k:∀b u,s.heap.get? b=some u->h'.get? b=some u)(hp:s.heap.objs.size<=a)(new:ce X.prog X.w (upd H a o) h' a o):
  aG X ae σ (upd H a o) { s with heap:=h',toks:=t' }:=I.un (Un.laid k hp (I.cf.fresh hp)) (I.cf.laid k hp new)
theorem aG.write(I:aG X ae σ H s)(mu:RK (H x))(he:e=x\/H e=some (.own x))(k:∀b u,b≠e->s.heap.get? b=some u->h'.get? b=some u)(Q7:∃u,h'.get? e=some u)(new:ce X.prog X.w (upd H x o) h' x o):aG X ae σ (upd H x o) { s with heap:=h',toks:=t' }:=I.un (Un.write mu he k Q7) (I.cf.write mu he k Q7 new)
theorem aG.BR(I:aG X ae σ H s)(h:∀p∈RS,s.heap.get? p.1=some p.2/\H p.1=none/\p.1≠X.env.locals/\p.1∉X.fs/\∀v,p.2.data≠.cell v):aG X RS σ H s:=
 ⟨I.ok,I.os,I.bare,I.base,I.loc,I.cell,I.free,I.lW,fun p hp=>(dO.mp hp).elim (fun z=>I.pin p (kr _ z)) (h p),I.cf,I.len⟩
theorem xC{N:List Str}(hN:N.Nodup){i j:Nat}{x:Str}(a:N[i]?=some x)(b:N[j]?=some x):i=j:=by
 obtain⟨h1,e1⟩:=cW.mp a;obtain⟨h2,e2⟩:=cW.mp b;exact(List.getElem_inj hN).mp (e1.trans e2.symm)
theorem o9{M:Model}{A:Around}{E:Value->Shared->Prop}{i:Nat}{x:Str}{v:V}{u:Value}{Q:Unit->Shared->Prop}(I:aG X ae σ H s)(hN:X.N.Nodup)(hi:X.N[i]?=some x)(hx:RN X.env.scope x)(r:bC v u)(h:∀s',aG X ae (σ.set i (some v)) H s'->(∃a,Heap.SameBut a s.heap s'.heap/\(a=X.env.locals\/X.env.cells.lookup x=some a))->Q () s')(hf:X.fn x=true\/X.env.scope.names.lookup x=some .local:=by first|exact .inl rfl|exact .inr rfl|assumption):wpAny M A (storeName X.env x u) Q E s:=by
 obtain⟨m,hn,hl⟩:=id I.loc;have WY:(X.env.scope.kind==.class||(X.env.scope.kind==.module&&X.env.locals != X.env.globals))=false:=by rw[I.ok.kind];rfl
 have hiσ:i<σ.length:=by rw[I.len];exact(cW.mp hi).1
 have N0:=I.N0;have BU:∀ {a:Addr} {h':Heap},(∃o,s.heap.get? a=some o/\H a=none)->Heap.SameBut a s.heap h'->kI X.prog X.w H h':=fun {a h'} ha hs b ob e=>by
  obtain⟨_,_,ML⟩:=ha;refine(I.cf b ob e).nJ (fun c w' hc q=>(hs.2 c ?_).trans q) (fun _ q=>q) fun _ _ q=>q;rintro rfl;rcases hc with rfl|hc
  .rw[ML] at e;cases e
  .rw[ML] at hc;cases hc
 rcases hx with hk|hk
 .refine wpAny_storeName_local hk hn (fun h' Wc hs=>?_) WY;obtain⟨oL,_,_,E6,_⟩:=id hn;refine h _ ⟨I.ok,I.os,I.bare,⟨fun b o e n hb hx=>?_,fun b o e n hb hx=>?_,I.base.free,fun b o e hx=>?_,I.base.mE,I.base.o6,I.base.o7⟩,⟨_,Wc,fun j y v' e1 e2 e3=>?_⟩,fun y c e=>?_,I.free,I.lW,fun p hp=>?_,BU ⟨oL,E6,I.free⟩ hs,by simpa using I.len⟩ ⟨_,hs,.inl rfl⟩
  .exact(hs.2 b (aY (bA (aL e) I.ok.above))).trans (I.base.keep b o e n hb hx)
  .obtain⟨sl,e1⟩:=I.base.slot b o e n hb hx;exact⟨sl,(hs.2 b (aY (bA (aL e) I.ok.above))).trans e1⟩
  .obtain⟨o',e1⟩:=I.base.there b o e hx;exact⟨o',(hs.2 b (aY (bA (aL e) I.ok.above))).trans e1⟩
  .by_cases hj:j=i
   .subst hj;rw[hi] at e1;cases e1;rw[rh hiσ] at e2;cases e2;exact⟨u,r,.inl ⟨hk,by simp⟩⟩
   .rw[vH (ck hj)] at e2;obtain⟨u',r',q⟩:=hl j y v' e1 e2 e3;refine⟨u',r',?_⟩;rcases q with ⟨k,e⟩|⟨k,c,e,z⟩
    .refine .inl ⟨k,?_⟩;have:y≠x:=fun e=>hj (xC hN e1 (e ▸ hi));simp[this,e]
    .exact .inr ⟨k,c,e,z.sameBut hs (N0 y c e)⟩
  .obtain⟨w',z⟩:=I.cell y c e;exact⟨w',z.sameBut hs (N0 y c e)⟩
  .obtain⟨e,n,ne,nf,d⟩:=I.pin p hp;exact⟨(hs.2 p.1 ne).trans e,n,ne,nf,d⟩
 .have WZ:X.fn x=true:=by
   rcases hf with z|z
   .exact z
   .rw[z] at hk;cases hk
  obtain⟨c,hc⟩:=I.ok.has x (.inl hk);obtain⟨w',z⟩:=I.cell x c hc;refine wpAny_storeName_cell I.ok.kind hk hc z (fun h' N2 hs=>?_);obtain⟨oc,Wd,W0⟩:=id z;refine h { s with heap:=h' } ⟨I.ok,I.os,I.bare,⟨fun b o e n hb hx=>?_,fun b o e n hb hx=>?_,I.base.free,fun b o e hx=>?_,I.base.mE,I.base.o6,I.base.o7⟩,⟨m,hn.sameBut hs (ck (N0 x c hc)),fun j y v' e1 e2 e3=>?_⟩,fun y c' e=>?_,I.free,I.lW,fun p hp=>?_,BU ⟨oc,Wd,I.lW x c hc⟩ hs,by simpa using I.len⟩ ⟨c,hs,.inr hc⟩
  .exact(hs.2 b (aY (bA (aL e) (I.ok.RO x c WZ hc)))).trans (I.base.keep b o e n hb hx)
  .obtain⟨sl,e1⟩:=I.base.slot b o e n hb hx;exact⟨sl,(hs.2 b (aY (bA (aL e) (I.ok.RO x c WZ hc)))).trans e1⟩
  .obtain⟨o',e1⟩:=I.base.there b o e hx;exact⟨o',(hs.2 b (aY (bA (aL e) (I.ok.RO x c WZ hc)))).trans e1⟩
  .by_cases hj:j=i
   .subst hj;rw[hi] at e1;cases e1;rw[rh hiσ] at e2;cases e2;exact⟨u,r,.inr ⟨.inl hk,c,hc,N2⟩⟩
   .rw[vH (ck hj)] at e2;obtain⟨u',r',q⟩:=hl j y v' e1 e2 e3;refine⟨u',r',?_⟩;rcases q with q|⟨k,c',e,z'⟩
    .exact .inl q
    .refine .inr ⟨k,c',e,z'.sameBut hs ?_⟩;rintro rfl;exact hj (xC hN e1 (I.ok.inj _ _ _ e hc ▸ hi))
  .by_cases hcc:c'=c
   .subst hcc;exact⟨_,N2⟩
   .obtain⟨w2,z2⟩:=I.cell y c' e;exact⟨w2,z2.sameBut hs hcc⟩
  .obtain⟨e,n,ne,nf,d⟩:=I.pin p hp;refine⟨(hs.2 p.1 ?_).trans e,n,ne,nf,d⟩;intro q;rw[q,Wd] at e;have q':oc=p.2:=bg e;exact d w' (by rw[<-q'];exact W0)
theorem kJ(I:aG X ae σ H s)(hN:X.N.Nodup)(hi:X.N[i]?=some x)(hx:RN X.env.scope x)(r:bC v u)(h:∀s',aG X ae (σ.set i (some v)) H s'->Q () s')(hf:X.fn x=true\/X.env.scope.names.lookup x=some .local:=by first|exact .inl rfl|exact .inr rfl|assumption):wpAny M A (storeName X.env x u) Q E s:=
 o9 I hN hi hx r (fun s' I' _=>h s' I') hf
theorem aG.RT(I:aG X ae σ H s)(ho:s'.os=s.os)(u:Un (o8 X.stack) ch H H' s.heap s'.heap)(cf:kI X.prog X.w H' s'.heap)(hg:AllBare s'.gens)(JG:∀b∈ch,(b∈X.ex\/X.s₀.heap.objs.size<=b)/\b≠X.env.locals/\(∀x c,X.env.cells.lookup x=some c->c≠b)/\∀p∈X.pn++ae,p.1≠b):aG X ae σ H' s':=by
 obtain⟨h',g',d',t',o'⟩:=s';have e:o'=s.os:=ho;subst e;exact I.call (g':=g') (t':=t') (d':=d') u cf hg JG
end
abbrev XK:=Value->Option Addr->Hp->Prop
abbrev St:=List (Option V)
abbrev VK:=V->Hp->Prop
abbrev TE:=St->Hp->VK->Prop
abbrev TT:=St->Hp->(Bool->Hp->Prop)->Prop
abbrev TA:=St->Hp->(List V->Hp->Prop)->Prop
structure uy where
 nx:St->Hp->Prop
 rt:VK
 bk:St->Hp->Prop:=fun _ _=>False
 ct:St->Hp->Prop:=fun _ _=>False
abbrev TS:=uy->St->Hp->Prop
def EP(X:Cx)(ae:List (Addr×Obj))(σ:St)(Q:VK)(u:Value)(s':Shared):Prop:=∃v H',aG X ae σ H' s'/\bC v u/\Q v H'
def TP(X:Cx)(ae:List (Addr×Obj))(σ:St)(Q:Bool->Hp->Prop)(b:Bool)(s':Shared):Prop:=∃H',aG X ae σ H' s'/\Q b H'
def AP(X:Cx)(ae:List (Addr×Obj))(σ:St)(Q:List V->Hp->Prop)(us:List Value)(s':Shared):Prop:=∃vs H',aG X ae σ H' s'/\aZ vs us/\Q vs H'
def SP(X:Cx)(ae:List (Addr×Obj))(D:uy)(f:Flow)(s':Shared):Prop:=
 match f with
 |.next=>∃σ' H',aG X ae σ' H' s'/\D.nx σ' H'
 |.brk=>∃σ' H',aG X ae σ' H' s'/\D.bk σ' H'
 |.cont=>∃σ' H',aG X ae σ' H' s'/\D.ct σ' H'
 |.ret u=>∃v σ' H',aG X ae σ' H' s'/\bC v u/\D.rt v H'
def PE(X:Cx)(e:Expr)(t:TE):Prop:=
 ∀ (ae:List (Addr×Obj)) (s:Shared) (σ:St) (H:Hp) (Q:VK),aG X ae σ H s->t σ H Q->wpAny (model X.prog X.w) X.A (eval e X.env) (EP X ae σ Q) X.xe s
def PT(X:Cx)(e:Expr)(t:TT):Prop:=
 ∀ (ae:List (Addr×Obj)) (s:Shared) (σ:St) (H:Hp) (Q:Bool->Hp->Prop),aG X ae σ H s->t σ H Q->wpAny (model X.prog X.w) X.A (isTrue e X.env (eval e X.env)) (TP X ae σ Q) X.xe s
def PW(X:Cx)(e:Expr)(t:TT):Prop:=
 ∀ (BV:Sem Value) (ae:List (Addr×Obj)) (s:Shared) (σ:St) (H:Hp) (Q:Bool->Hp->Prop),aG X ae σ H s->t σ H Q->wpAny (model X.prog X.w) X.A (isTrue e X.env BV) (TP X ae σ Q) X.xe s
theorem PW.pt(h:PW X e t):PT X e t:=h _
def PA(X:Cx)(es:List Expr)(t:TA):Prop:=
 ∀ (pos:Pos) (ae:List (Addr×Obj)) (s:Shared) (σ:St) (H:Hp) (Q:List V->Hp->Prop),aG X ae σ H s->t σ H Q->wpAny (model X.prog X.w) X.A (spliced (backTo pos (starEach es X.env))) (AP X ae σ Q) X.xe s
def PS(X:Cx)(st:Stmt)(t:TS):Prop:=
 ∀ (ae:List (Addr×Obj)) (s:Shared) (σ:St) (H:Hp) (D:uy),aG X ae σ H s->t D σ H->wpAny (model X.prog X.w) X.A (exec st X.env) (SP X ae D) X.xe s
def yY(X:Cx)(st:List Stmt)(t:TS):Prop:=
 ∀ (ae:List (Addr×Obj)) (s:Shared) (σ:St) (H:Hp) (D:uy),aG X ae σ H s->t D σ H->wpAny (model X.prog X.w) X.A (execs st X.env) (SP X ae D) X.xe s
theorem cy(h:wpAny M A t Q E s)(hQ:∀a s,Q a s->Q' a s):wpAny M A t Q' E s:=gv h hQ fun _ _ x=>x
section
variable {X:Cx}
def br(i:Nat):TE:=fun σ H Q=>∃v,σ[i]?=some (some v)/\Q v H
def tC(v:V):TE:=fun _ H Q=>Q v H
theorem N3(hN:X.N[i]?=some x)(hv:RM X.env.scope x)(hd:(x==("__debug__":Str))=false:=by decide)(ul:(x==("__classdict__":Str))=false:=by decide):PE X (.Name x pos) (br i):=by
 intro ae s σ H Q I h;obtain⟨v,e,h⟩:=h;obtain⟨m,hn,hl⟩:=I.loc;obtain⟨u,r,l⟩:=hl i x v hN e hv;have cH:EP X ae σ Q u s:=⟨v,H,I,r,h⟩
 rcases l with ⟨hk,hm⟩|⟨hk,c,hc,BW⟩
 .exact o0 (zH I.ok.kind hk hn hm cH) hd
 .rcases hk with hk|hk
  .exact o0 (wpAny_loadName_cell I.ok.kind hk hc BW cH) hd
  .exact o0 (zN I.ok.kind hk hc BW cH ul) hd
theorem aD{i j pos}:PE X (.Constant (.int i) j pos) (tC (.int i)):=fun _ _ _ H _ I h=>wpAny_Constant_int ⟨.int i,H,I.tok _,⟨_,rfl⟩,h⟩
theorem fc{b j pos}:PE X (.Constant (.bool b) j pos) (tC (.bl b)):=fun _ _ _ H _ I h=>Constant_bool ⟨.bl b,H,I,rfl,h⟩
theorem cn{j pos}:PE X (.Constant .none j pos) (tC .bR):=fun _ _ _ H _ I h=>Constant_none ⟨.bR,H,I,rfl,h⟩
theorem rY{x j pos}:PE X (.Constant (.str x) j pos) (tC (.str x)):=fun _ _ _ H _ I h=>Calls.Constant_str ⟨.str x,H,I.tok _,⟨_,rfl⟩,h⟩
def Gl(X:Cx)(x:Str):Prop:=X.env.kindOf x=some .globalImplicit
theorem qK(I:aG X ae σ H s)(hg:Gl X x)(hm:X.mg x=some u)(h:Q u s)(hd:(x==("__debug__":Str))=false:=by decide):wpAny (model X.prog X.w) X.A (eval (.Name x pos) X.env) Q E s:=
 Calls.Name_function_global I.ok.kind hg (Calls.loadGlobal_global (by rw[I.ok.glob];exact I.mod.glob.keeps I.bk) hm h) hd
theorem jJ(I:aG X ae σ H s)(hg:Gl X x)(hm:X.mg x=none)(hv:bootBuiltins x=some u)(h:Q u s)(hn:x≠"__name__":=by decide)(hd:(x==("__debug__":Str))=false:=by decide):wpAny (model X.prog X.w) X.A (eval (.Name x pos) X.env) Q E s:=by
 obtain⟨mb,h1,h2⟩:=I.mod.blt;exact Calls.Name_function_global I.ok.kind hg (Calls.loadGlobal_builtin (by rw[I.ok.glob];exact I.mod.glob.keeps I.bk) hm (by rw[I.ok.blt];exact h1.keeps I.bk) ((h2 x hn).trans hv) h) hd
theorem jK(hg:Gl X x)(hm:X.mg x=some u)(r:bC v u)(hd:(x==("__debug__":Str))=false:=by decide):PE X (.Name x pos) (tC v):=
 fun _ _ _ H _ I h=>qK I hg hm ⟨v,H,I,r,h⟩ hd
theorem gX(hg:Gl X x)(hm:X.mg x=none)(hv:bootBuiltins x=some u)(r:bC v u)(hn:x≠"__name__":=by decide)(hd:(x==("__debug__":Str))=false:=by decide):PE X (.Name x pos) (tC v):=
 fun _ _ _ H _ I h=>jJ I hg hm hv ⟨v,H,I,r,h⟩ hn hd
variable {a b:Expr} {ta tb:TE} {pos:Pos}
def tB(t:TE):TT:=fun σ H Q=>t σ H fun x H1=>∃c,x=.bl c/\Q c H1
theorem cp(h:PE X e t)(he:∀BV,isTrue e X.env BV=(do let v <- BV;standAt e.pos;holding [v] (truthy v)):=by intro _;rfl):PT X e (tB t):=by
 intro ae s σ H Q I hw;refine isTrue_plain (cy (h ae s σ H _ I hw) fun v s1 ⟨x,H1,I1,r1,q1⟩=>?_) (he _);obtain⟨d,rfl,q⟩:=q1;cases r1;exact mq ⟨H1,I1,q⟩
variable {tA We:TT} {bZ:List Expr}
def W1(t u:TT):TT:=fun σ H Q=>t σ H fun c H1=>if c=true then u σ H1 Q else Q false H1
def tOr(t u:TT):TT:=fun σ H Q=>t σ H fun c H1=>if c=true then Q true H1 else u σ H1 Q
def W2(t:TT):TT:=fun σ H Q=>t σ H fun c H1=>Q (!c) H1
theorem J3(ha:PT X a tA):PW X (.BoolOp .And [a] pos) tA:=by
 intro wh ae s σ H Q I h;refine isTrue_and (cy (ha ae s σ H Q I h) fun c s1 e=>?_);cases c with
 |true=>exact isTrue_and_nil e
 |false=>exact e
theorem kK(ha:PT X a tA):PW X (.BoolOp .Or [a] pos) tA:=by
 intro wh ae s σ H Q I h;refine isTrue_or (cy (ha ae s σ H Q I h) fun c s1 e=>?_);cases c with
 |false=>exact isTrue_or_nil e
 |true=>exact e
theorem N4(ha:PT X a tA)(hb:PW X (.BoolOp .And (b::bZ) pos) We):PW X (.BoolOp .And (a::b::bZ) pos) (W1 tA We):=by
 intro wh ae s σ H Q I h;refine isTrue_and (cy (ha ae s σ H _ I h) fun c s1 ⟨H1,I1,q1⟩=>?_);cases c with
 |true=>exact hb wh ae s1 σ H1 Q I1 q1
 |false=>exact⟨H1,I1,q1⟩
theorem nM(ha:PT X a tA)(hb:PW X (.BoolOp .Or (b::bZ) pos) We):PW X (.BoolOp .Or (a::b::bZ) pos) (tOr tA We):=by
 intro wh ae s σ H Q I h;refine isTrue_or (cy (ha ae s σ H _ I h) fun c s1 ⟨H1,I1,q1⟩=>?_);cases c with
 |true=>exact⟨H1,I1,q1⟩
 |false=>exact hb wh ae s1 σ H1 Q I1 q1
theorem cN(ha:PT X a tA):PT X (.UnaryOp .Not a pos) (W2 tA):=by
 intro ae s σ H Q I h;exact isTrue_not (ha ae s σ H (fun c H1=>Q (!c) H1) I h)
def MN(ta tb:TE):TE:=fun σ H Q=>ta σ H fun x H1=>∃c,x=.bl c/\if c=true then tb σ H1 Q else Q (.bl false) H1
def RU(ta:TE):TE:=fun σ H Q=>ta σ H fun x H1=>∃c,x=.bl c/\Q (.bl (!c)) H1
theorem mG{op}(h:PE X a t):PE X (.BoolOp op [a] pos) t:=fun ae s σ H Q I hw=>BoolOp_one (h ae s σ H Q I hw)
theorem kL(ha:PE X a ta)(hb:PE X (.BoolOp .And (b::bZ) pos) tb):PE X (.BoolOp .And (a::b::bZ) pos) (MN ta tb):=by
 intro ae s σ H Q I h;refine BoolOp_and (cy (ha ae s σ H _ I h) fun v s1 ⟨x,H1,I1,r1,q1⟩=>?_);obtain⟨c,rfl,q1⟩:=q1;cases r1;refine mq ?_;cases c with
 |true=>exact hb ae s1 σ H1 Q I1 q1
 |false=>exact⟨.bl false,H1,I1,rfl,q1⟩
theorem N5(ha:PE X a ta):PE X (.UnaryOp .Not a pos) (RU ta):=by
 intro ae s σ H Q I h;refine UnaryOp_ (cy (ha ae s σ H _ I h) fun v s1 ⟨x,H1,I1,r1,q1⟩=>?_);obtain⟨c,rfl,q1⟩:=q1;cases r1;exact not_of (mq ⟨.bl (!c),H1,I1,rfl,q1⟩)
def W3(t:TT)(ta tb:TE):TE:=fun σ H Q=>t σ H fun c H1=>if c=true then ta σ H1 Q else tb σ H1 Q
theorem jl(hc:PT X c tA)(ha:PE X a ta)(hb:PE X b tb):PE X (.IfExp c a b pos) (W3 tA ta tb):=by
 intro ae s σ H Q I h;refine wpAny_IfExp (cy (hc ae s σ H _ I h) fun d s1 ⟨H1,I1,q1⟩=>?_);cases d with
 |true=>exact ha ae s1 σ H1 Q I1 q1
 |false=>exact hb ae s1 σ H1 Q I1 q1
end
def bo(K:PySem.W.Frag)(H:Hp)(a:Addr)(xs:List V):Prop:=
 Rd H a (.lst xs)\/
  ∃ (o:Obj) (its:Array Value) (n:Nat),K.lookup a=some o/\o.cls=.type "list"/\o.dict=none/\o.data=.seq its n/\its.size<=sizeLine/\aZ xs its.toList
def bh(K:PySem.W.Frag)(H:Hp)(a:Addr)(xs:List V):Prop:=
 Rd H a (.tup xs)\/
  ∃ (o:Obj) (its:Array Value) (n:Nat),K.lookup a=some o/\o.cls=.type "tuple"/\o.data=.seq its n/\its.size<=sizeLine/\aZ xs its.toList
def W4:Value->Option V
 |.none=>some .bR
 |.bool b=>some (.bl b)
 |.int i _=>some (.int i)
 |.str x _=>some (.str x)
 |.bytes b _=>some (.E5 b)
 |.float b _=>some (.NZ b)
 |.ref a=>some (.ref a)
 |.type n=>some (.ty n)
 |_=>none
theorem bC.abs(r:bC x u):W4 u=some x:=by
 cases x with
 |bR=>cases r;rfl
 |bl _=>cases r;rfl
 |int _=>obtain⟨t,rfl⟩:=r;rfl
 |str _=>obtain⟨t,rfl⟩:=r;rfl
 |E5 _=>obtain⟨t,rfl⟩:=r;rfl
 |NZ _=>obtain⟨t,rfl⟩:=r;rfl
 |ref _=>cases r;rfl
 |ty _=>cases r;rfl
theorem bC.inj(r:bC x u)(q:bC y u):x=y:=bg (r.abs.symm.trans q.abs)
theorem aZ.inj:∀ {xs ys:List V} {us:List Value},aZ xs us->aZ ys us->xs=ys
 |_,_,_,.nil,.nil=>rfl
 |_,_,_,.cons r t,.cons r' t'=>by rw[r.inj r',aZ.inj t t']
section
variable {X:Cx} {ae:List (Addr×Obj)} {σ:St} {H:Hp} {s:Shared} {a:Addr} {xs ys:List V}
theorem bo.of{K:PySem.W.Frag}(h:H a=some (.lst xs)):bo K H a xs:=.inl (.inl h)
theorem bh.of{K:PySem.W.Frag}(h:H a=some (.tup xs)):bh K H a xs:=.inl (.inl h)
theorem aG.list(I:aG X ae σ H s)(h:bo X.K H a xs):∃its:List Value,aZ xs its/\PlainL s.heap a its.toArray/\xs.length<=sizeLine:=by
 rcases h with h|⟨o,its,n,hk,hc,hd,hs,hz,r⟩
 .obtain⟨z,its,n,r,e⟩:=h.ok I.cf;exact⟨its,r,⟨_,n,e,rfl,rfl,rfl⟩,z⟩
 .refine⟨its.toList,r,⟨o,n,I.pW a o hk,hc,hd,by simpa using hs⟩,?_⟩;have e:=r.length;simp only[eJ] at e;lia
theorem aG.tuple(I:aG X ae σ H s)(h:bh X.K H a xs):∃its:List Value,aZ xs its/\IsTup s.heap a its.toArray/\xs.length<=sizeLine:=by
 rcases h with h|⟨o,its,n,hk,hc,hs,hz,r⟩
 .obtain⟨z,its,r,p⟩:=h.ok I.cf;exact⟨its,r,p.tup,z⟩
 .refine⟨its.toList,r,⟨o,I.pW a o hk,hc,n,by simpa using hs⟩,?_⟩;have e:=r.length;simp only[eJ] at e;lia
theorem aG.xD(I:aG X ae σ H s)(h:bo X.K H a xs)(h':bo X.K H a ys):xs=ys:=by
 obtain⟨its,r,⟨o,n,e,_,_,d⟩,_⟩:=I.list h;obtain⟨its',r',⟨o',n',e',_,_,d'⟩,_⟩:=I.list h';rw[e] at e';cases e';rw[d] at d';injection d' with d1 _;have:its=its':=by simpa using congrArg Array.toList d1
 subst this;exact r.inj r'
theorem aG.ff(I:aG X ae σ H s)(h:bh X.K H a xs)(h':bh X.K H a ys):xs=ys:=by
 obtain⟨its,r,⟨o,e,_,n,d⟩,_⟩:=I.tuple h;obtain⟨its',r',⟨o',e',_,n',d'⟩,_⟩:=I.tuple h';rw[e] at e';cases e';rw[d] at d';injection d' with d1 _;have:its=its':=by simpa using congrArg Array.toList d1
 subst this;exact r.inj r'
end
abbrev Cx.wish(X:Cx)(E:Value->Shared->Prop):Cx:={ X with xe:=E }
abbrev Cx.MQ(X:Cx):Cx:=X.wish fun _ _=>False
theorem Cx.Ok.wish{X:Cx}(ok:X.Ok)(E:Value->Shared->Prop):(X.wish E).Ok:=
 ⟨ok.mod,ok.kind,ok.glob,ok.blt,ok.above,ok.inj,ok.has,ok.RO,ok.hd,ok.frames,ok.JE,ok.Wa,ok.bs,ok.JF,ok.rW,ok.J1,ok.nK,ok.J2⟩
theorem Cx.Ok.kM{X:Cx}{E:Value->Shared->Prop}(ok:(X.wish E).Ok):X.Ok:=
 ⟨ok.mod,ok.kind,ok.glob,ok.blt,ok.above,ok.inj,ok.has,ok.RO,ok.hd,ok.frames,ok.JE,ok.Wa,ok.bs,ok.JF,ok.rW,ok.J1,ok.nK,ok.J2⟩
section
variable {X:Cx} {ae:List (Addr×Obj)} {σ:St} {H:Hp} {s:Shared} {E:Value->Shared->Prop}
theorem aG.wish(I:aG X ae σ H s)(E:Value->Shared->Prop):aG (X.wish E) ae σ H s:=⟨I.ok.wish E,I.os,I.bare,I.base,I.loc,I.cell,I.free,I.lW,I.pin,I.cf,I.len⟩
theorem aG.kM(I:aG (X.wish E) ae σ H s):aG X ae σ H s:=⟨I.ok.kM,I.os,I.bare,I.base,I.loc,I.cell,I.free,I.lW,I.pin,I.cf,I.len⟩
theorem SP.kM(h:SP (X.wish E) ae D f s'):SP X ae D f s':=by
 cases f with
 |next=>obtain⟨σ',H',I,q⟩:=h;exact⟨σ',H',I.kM,q⟩
 |brk=>obtain⟨σ',H',I,q⟩:=h;exact⟨σ',H',I.kM,q⟩
 |cont=>obtain⟨σ',H',I,q⟩:=h;exact⟨σ',H',I.kM,q⟩
 |ret u=>obtain⟨v,σ',H',I,r,q⟩:=h;exact⟨v,σ',H',I.kM,r,q⟩
theorem yY.MQ{st:List Stmt}{t:TS}(h:yY X.MQ st t):yY X st t:=fun ae s σ H D I hw=>
 gv (h ae s σ H D (I.wish _) hw) (fun _ _ q=>q.kM) fun _ _ z=>False.elim z
end
section
variable {X:Cx} {st:Stmt} {bZ:List Stmt} {t u:TS} {e:Expr} {te:TE} {pos:Pos}
def RV:TS:=fun D σ H=>D.nx σ H
def RX(t u:TS):TS:=fun D σ H=>t { D with nx:=u D } σ H
theorem aK:yY X [] RV:=fun _ _ σ H _ I h=>vX ⟨σ,H,I,h⟩
theorem ah(h1:PS X st t)(h2:yY X bZ u):yY X (st::bZ) (RX t u):=by
 intro ae s σ H D I h;refine wpAny_execs_cons (cy (h1 ae s σ H { D with nx:=u D } I h) fun f s1 q=>?_);cases f with
 |next=>
  obtain⟨σ',H',I',q⟩:=q;exact h2 ae s1 σ' H' D I' q
 |ret v=>exact q
 |brk=>exact q
 |cont=>exact q
theorem aj(h1:PS X st t):yY X [st] t:=by
 intro ae s σ H D I h;refine wpAny_execs_cons (cy (h1 ae s σ H D I h) fun f s1 q=>?_);cases f with
 |next=>exact vX q
 |ret v=>exact q
 |brk=>exact q
 |cont=>exact q
theorem aG.quiet(I:aG X ae σ H s):interactive X.env=false:=by simp[interactive,I.ok.kind]
def RY(te:TE):TS:=fun D σ H=>te σ H fun _ H1=>D.nx σ H1
theorem bG(he:PE X e te)(hs:swapsWith e none pos.line X.env=pure false:=by rfl):PS X (.Expr e pos) (RY te):=by
 intro ae s σ H D I h;exact wpAny_Expr_any (cy (he ae s σ H _ I h) fun v s1 ⟨x,H1,I1,r1,q1⟩=>⟨σ,H1,I1,q1⟩) I.quiet hs
def RZ(te:TE):TS:=fun D σ H=>te σ H D.rt
theorem aF(he:PE X e te):PS X (.Return (some e) pos) (RZ te):=by
 intro ae s σ H D I h;exact wpAny_Return_some (cy (he ae s σ H _ I h) fun v s1 ⟨x,H1,I1,r1,q1⟩=>⟨x,σ,H1,I1,r1,q1⟩)
def W5(c:TT)(t u:TS):TS:=fun D σ H=>c σ H fun b H1=>if b=true then t D σ H1 else u D σ H1
theorem bp(hc:PT X c tc)(ha:yY X a t)(hb:yY X b u):PS X (.If c a b pos) (W5 tc t u):=by
 intro ae s σ H D I h;refine wpAny_If (cy (hc ae s σ H _ I h) fun d s1 ⟨H1,I1,q1⟩=>?_);cases d with
 |true=>exact ha ae s1 σ H1 D I1 q1
 |false=>exact hb ae s1 σ H1 D I1 q1
def N6:TS:=fun _ _ _=>False
theorem dk:yY X sts N6:=fun _ _ _ _ _ _ h=>h.elim
end
abbrev TG:=V->St->Hp->(St->Hp->Prop)->Prop
abbrev R0:=List V->St->Hp->(St->Hp->Prop)->Prop
def PG(X:Cx)(N8:Expr)(t:TG):Prop:=
 ∀ (ae:List (Addr×Obj)) (s:Shared) (σ:St) (H:Hp) (v:V) (u:Value) (Q:St->Hp->Prop),aG X ae σ H s->bC v u->t v σ H Q->
  wpAny (model X.prog X.w) X.A (assign N8 X.env u) (fun _ s'=>∃σ' H',aG X ae σ' H' s'/\Q σ' H') X.xe s
def Wf(X:Cx)(ts:List Expr)(t:R0):Prop:=
 ∀ (ae:List (Addr×Obj)) (s:Shared) (σ:St) (H:Hp) (vs:List V) (us:List Value) (Q:St->Hp->Prop),aG X ae σ H s->aZ vs us->t vs σ H Q->
  wpAny (model X.prog X.w) X.A (assignInOrder ((assignEach ts X.env).map (·.2)) us) (fun _ s'=>∃σ' H',aG X ae σ' H' s'/\Q σ' H') X.xe s
abbrev J4:=V->V->V->Hp->(Hp->Prop)->Prop
def N9(X:Cx)(t:J4):Prop:=
 ∀ (ae:List (Addr×Obj)) (s:Shared) (σ:St) (H:Hp) (o i v:V) (ov iv u:Value) (Q:Hp->Prop),aG X ae σ H s->bC o ov->bC i iv->bC v u->t o i v H Q->
  wpAny (model X.prog X.w) X.A (setItem ov iv u) (fun _ s'=>∃H',aG X ae σ H' s'/\Q H') X.xe s
abbrev R1:=V->V->Hp->VK->Prop
def R3(X:Cx)(op:Operator)(t:R1):Prop:=
 ∀ (ae:List (Addr×Obj)) (s:Shared) (σ:St) (H:Hp) (x y:V) (v u:Value) (Q:VK),aG X ae σ H s->bC x v->bC y u->t x y H Q->
  wpAny (model X.prog X.w) X.A (inplaceOp op v u) (EP X ae σ Q) X.xe s
section
variable {X:Cx} {pos:Pos}
def bW(i:Nat):TG:=fun v σ H Q=>Q (σ.set i (some v)) H
theorem au(hN:X.N.Nodup)(hi:X.N[i]?=some x)(hx:RN X.env.scope x)(hf:X.fn x=true\/X.env.scope.names.lookup x=some .local:=by first|exact .inl rfl|exact .inr rfl|assumption):PG X (.Name x pos) (bW i):=by
 intro ae s σ H v u Q I r h;exact z0 (kJ I hN hi hx r (fun s' I'=>⟨_,H,I',h⟩) hf)
def uz:R0:=fun vs σ H Q=>vs=[]/\Q σ H
def fk(t:TG)(u:R0):R0:=fun vs σ H Q=>∃v r,vs=v::r/\t v σ H fun σ' H'=>u r σ' H' Q
theorem dv:Wf X [] uz:=by
 intro ae s σ H vs us Q I r h;obtain⟨e,h⟩:=h;subst e;cases r;exact assignInOrder_nil ⟨σ,H,I,h⟩
theorem aN(h1:PG X e t)(h2:Wf X es u)(hs:(assignEach (e::es) X.env).map (·.2)=assign e X.env::(assignEach es X.env).map (·.2):=by rfl):Wf X (e::es) (fk t u):=by
 intro ae s σ H vs us Q I r h;obtain⟨v,vr,e1,h⟩:=h;subst e1;cases r with
 |cons r rr=>
  rw[hs];refine assignInOrder_cons (cy (h1 ae s σ H _ _ _ I r h) fun _ s1 ⟨σ1,H1,I1,q1⟩=>?_);exact h2 ae s1 σ1 H1 _ _ Q I1 rr q1
def uA(K:PySem.W.Frag)(n:Nat)(t:R0):TG:=fun v σ H Q=>∃a xs,v=.ref a/\bh K H a xs/\xs.length=n/\t xs σ H Q
theorem eA(hc:X.calm=true)(h:Wf X es t)(hn:(assignEach es X.env).length=n:=by rfl)(iC:(assignEach es X.env).findIdx? (·.1)=none:=by rfl):PG X (.Tuple es k pos) (uA X.K n t):=by
 intro ae s σ H v u Q I r hw;obtain⟨a,xs,e1,hq,hl,hw⟩:=hw;subst e1;cases r;obtain⟨its,rv,ht,hz⟩:=I.tuple hq;refine assign_Tuple_tuple (I.ok.hd hc) ht (by simp[hn,<-hl,rv.length]) iC fun h' hx=>?_;have I1:aG X ae σ H { s with heap:=h' }:=I.kept (t':=s.toks) fun b o e=>hx b o (aY (aL e)) e;exact h ae _ σ H xs _ Q I1 (by simpa using rv) hw
def W6(to ti:TE)(t:J4):TG:=fun v σ H Q=>to σ H fun o H1=>ti σ H1 fun i H2=>t o i v H2 fun H3=>Q σ H3
theorem o_(ho:PE X o to)(hi:PE X i ti)(hs:N9 X t)(ha:∀v,assign (.Subscript o i pos) X.env v=(do
   let ov <- holding [v] (eval o X.env)
   let iv <- holding [v,ov] (eval i X.env)
   standAt pos
   holding [v,ov,iv] (setItem ov iv v)
   release [v,ov,iv] []):=by intro _;rfl):PG X (.Subscript o i pos) (W6 to ti t):=by
 intro ae s σ H v u Q I r h;rw[ha];refine ai (gs (cy (ho ae s σ H _ I h) fun ov s1 ⟨x,H1,I1,r1,q1⟩=>?_));refine ai (gs (cy (hi ae s1 σ H1 _ I1 q1) fun iv s2 ⟨y,H2,I2,r2,q2⟩=>?_));refine ai (i6 (ai (gs (cy (hs ae s2 σ H2 x y v ov iv u _ I2 r1 r2 r q2) fun _ s3 ⟨H3,I3,q3⟩=>?_))));exact wpAny_release ⟨σ,H3,I3,q3⟩
def J5(te:TE)(g:TG):TS:=fun D σ H=>te σ H fun x H1=>g x σ H1 D.nx
theorem i9(he:PE X e te)(hg:PG X tg g)(hs:swapsWithSole [tg] e pos.line X.env=pure false:=by rfl)(hw:swappedStores [tg] e X.env=pure none:=by rfl)(h1:(assignEach [tg] X.env).map (·.2)=[assign tg X.env]:=by rfl):PS X (.Assign [tg] e pos) (J5 te g):=by
 intro ae s σ H D I h;refine wpAny_Assign_stores (cy (he ae s σ H _ I h) fun v s1 ⟨x,H1,I1,r1,q1⟩=>?_) hs hw;rw[h1];exact cy (hg ae s1 σ H1 x v _ I1 r1 q1) fun _ s2 q=>q
theorem aW(hN:X.N.Nodup)(hi:X.N[i]?=some x)(hx:RN X.env.scope x)(he:PE X e te)(hs:swapsWith e (some (.Name x Dz)) pos.line X.env=pure false:=by rfl)(hf:X.fn x=true\/X.env.scope.names.lookup x=some .local:=by first|exact .inl rfl|exact .inr rfl|assumption):
  PS X (.Assign [.Name x Dz] e pos) (J5 te (bW i)):=by
 intro ae s σ H D I h;refine wpAny_Assign_Name (cy (he ae s σ H _ I h) fun v s1 ⟨y,H1,I1,r1,q1⟩=>?_) hs;exact kJ I1 hN hi hx r1 (fun s2 I2=>⟨_,H1,I2,q1⟩) hf
def W7(i j:Nat)(ta:TA):TS:=fun D σ H=>ta σ H fun vs H1=>∃v w,vs=[v,w]/\D.nx ((σ.set i (some v)).set j (some w)) H1
theorem N_{kt k2 J6}(hc:X.calm=true)(hN:X.N.Nodup)(hi:X.N[i]?=some x)(hj:X.N[j]?=some y)(hij:i≠j)(hx:X.env.scope.names.lookup x=some .local)(hy:X.env.scope.names.lookup y=some .local)(ha:PA X [a,b] ta)(hw:swappedStores [.Tuple [.Name x px,.Name y py] kt pt] (.Tuple [a,b] k2 J6) X.env=pure (some [x,y]))(hs:swapsWithSole [.Tuple [.Name x px,.Name y py] kt pt] (.Tuple [a,b] k2 J6) pos.line X.env=pure false:=by rfl):
  PS X (.Assign [.Tuple [.Name x px,.Name y py] kt pt] (.Tuple [a,b] k2 J6) pos) (W7 i j ta):=by
 intro ae s σ H D I h;rw[exec_Assign_arm];refine ai (i6 ?_);rw[hs];refine ai (wpAny_pure ?_);rw[aq (by decide)];refine ai (Tuple_ (cy (ha _ ae s σ H _ I h) fun us s1 ⟨vs,H1,I1,r1,q1⟩=>?_));obtain⟨v,w,e1,q1⟩:=q1;subst e1;obtain⟨u1,u2,rfl,rv,DA⟩:∃u1 u2,us=[u1,u2]/\bC v u1/\bC w u2:=by
  cases r1 with
  |cons p q=>
   cases q with
   |cons p' q'=>
    cases q';exact⟨_,_,rfl,p,p'⟩
 refine h_ ?_ (by show 2<=sizeLine;decide);have I2:aG X ae σ H1 { s1 with heap:=s1.heap.push { cls:=.type "tuple",data:=.seq [u1,u2].toArray } }:=I1.kept (t':=s1.toks) fun b o e=>a8 _ e;rw[hw];refine ai (wpAny_pure ?_);show wpAny (model X.prog X.w) X.A (do rule "assign.swapped-stores";let items <- unpackItems (.ref s1.heap.objs.size) 2 none;assignInOrder [fun v=>bindName X.env y v,fun v=>bindName X.env x v] items.reverse;pure Flow.next) _ _ _;refine ai (wpAny_rule (ai (unpackItems_tuple (items:=#[u1,u2]) (I.ok.hd hc) (IsTup.new s1.heap _) fun h' jA=>?_)));have I3:=I2.kept (h':=h') (t':=s1.toks) fun b o e=>jA b o (aY (aL e)) e;show wpAny _ _ (assignInOrder [fun v=>bindName X.env y v,fun v=>bindName X.env x v] [u2,u1] >>= fun _=>pure Flow.next) _ _ _;refine ai (assignInOrder_cons (wpAny_bindName (kJ I3 hN hj (.inl hy) DA (fun s2 I4=>?_) (.inr hy))));refine assignInOrder_cons (wpAny_bindName (kJ I4 hN hi (.inl hx) rv (fun s3 I5=>assignInOrder_nil (wpAny_pure ?_)) (.inr hx)));rw[List.set_comm _ _ (ck hij)] at I5;exact⟨_,H1,I5,q1⟩
def W8(i:Nat)(te:TE)(ti:R1):TS:=fun D σ H=>∃x,σ[i]?=some (some x)/\te σ H fun y H1=>ti x y H1 fun z H2=>D.nx (σ.set i (some z)) H2
theorem pc(hN:X.N.Nodup)(hi:X.N[i]?=some x)(hx:RN X.env.scope x)(he:PE X e te)(ho:R3 X op ti)(hf:X.fn x=true\/X.env.scope.names.lookup x=some .local:=by first|exact .inl rfl|exact .inr rfl|assumption):
  PS X (.AugAssign (.Name x Dz) op e pos) (W8 i te ti):=by
 intro ae s σ H D I h;obtain⟨v,e1,h⟩:=h;obtain⟨m,hn,hl⟩:=I.loc;have W9:RM X.env.scope x:=by rcases hx with k|k;exact .inl k;exact .inr (.inl k)
 obtain⟨u,r,l⟩:=hl i x v hi e1 W9;refine wpAny_AugAssign_Name ?_;have go:wpAny (model X.prog X.w) X.A (eval e X.env) (fun w s₂=>wpAny (model X.prog X.w) X.A (inplaceOp op u w) (fun r s₃=>wpAny (model X.prog X.w) X.A (storeName X.env x r) (fun _=>SP X ae D .next) X.xe s₃) X.xe s₂) X.xe s:=by
  refine cy (he ae s σ H _ I h) fun w s1 ⟨y,H1,I1,r1,q1⟩=>?_;refine cy (ho ae s1 σ H1 v y u w _ I1 r r1 q1) fun z s2 ⟨zv,H2,I2,r2,q2⟩=>?_;exact kJ I2 hN hi hx r2 (fun s3 I3=>⟨_,H2,I3,q2⟩) hf
 rcases l with ⟨hk,hm⟩|⟨hk,c,hc,BW⟩
 .exact zH I.ok.kind hk hn hm go
 .rcases hk with hk|hk
  .exact wpAny_loadName_cell I.ok.kind hk hc BW go
  .rcases hx with k|k
   .have:X.env.scope.names.lookup x=some .free:=hk;rw[k] at this;cases this
   .have:X.env.scope.names.lookup x=some .free:=hk;rw[k] at this;cases this
def R4(to ti te:TE)(J7:V->V->Hp->VK->Prop)(Wg:R1)(J8:J4):TS:=fun D σ H=>to σ H fun o H1=>ti σ H1 fun i H2=>J7 o i H2 fun x H3=>te σ H3 fun y H4=>Wg x y H4 fun z H5=>J8 o i z H5 fun H6=>D.nx σ H6
def R5(X:Cx)(t:V->V->Hp->VK->Prop):Prop:=
 ∀ (ae:List (Addr×Obj)) (s:Shared) (σ:St) (H:Hp) (o i:V) (ov iv:Value) (Q:VK),aG X ae σ H s->bC o ov->bC i iv->t o i H Q->
  wpAny (model X.prog X.w) X.A (getItem ov iv) (EP X ae σ Q) X.xe s
theorem J9{o i e:Expr}{to ti te:TE}{J7:V->V->Hp->VK->Prop}{Wg:R1}{J8:J4}{op:Operator}{xE:Pos}(ho:PE X o to)(hi:PE X i ti)(hg:R5 X J7)(he:PE X e te)(hp:R3 X op Wg)(hs:N9 X J8)(ha:∀ov iv new,augStore i ov iv new=(do holding [new,ov,iv] (setItem ov iv new);release [new,ov,iv] [];pure .next):=by intros;rfl):PS X (.AugAssign (.Subscript o i xE) op e pos) (R4 to ti te J7 Wg J8):=by
 intro ae s σ H D I h;refine wpAny_AugAssign_SubscriptAny (cy (ho ae s σ H _ I h) fun ov s1 ⟨x1,H1,I1,r1,q1⟩=>?_) ha;refine cy (hi ae s1 σ H1 _ I1 q1) fun iv s2 ⟨x2,H2,I2,r2,q2⟩=>?_;refine cy (hg ae s2 σ H2 x1 x2 ov iv _ I2 r1 r2 q2) fun mB s3 ⟨x3,H3,I3,r3,q3⟩=>?_;refine cy (he ae s3 σ H3 _ I3 q3) fun v s4 ⟨x4,H4,I4,r4,q4⟩=>?_;refine cy (hp ae s4 σ H4 x3 x4 mB v _ I4 r3 r4 q4) fun new s5 ⟨x5,H5,I5,r5,q5⟩=>?_;exact cy (hs ae s5 σ H5 x1 x2 x5 ov iv new _ I5 r1 r2 r5 q5) fun _ s6 ⟨H6,I6,q6⟩=>⟨σ,H6,I6,q6⟩
def ipI(f:Int->Int->Int):R1:=fun x y H Q=>∃i j,x=.int i/\y=.int j/\Q (.int (f i j)) H
theorem Ag:R3 X .Add (ipI fun i j=>i+j):=by
 intro ae s σ H x y v u Q I r1 r2 h;obtain⟨i,j,e1,e2,q⟩:=h;subst e1;subst e2;obtain⟨t,rfl⟩:=r1;obtain⟨t',rfl⟩:=r2;exact iadd_int ⟨.int _,H,I.tok _,⟨_,rfl⟩,q⟩
def FB(c:TT)(tb:TS):TS:=fun D σ H=>∃W:Nat->St->Hp->Prop,(∃m,W m σ H)/\∀m σ H,W m σ H->
 c σ H fun b H1=>if b=true then ∃N:St->Hp->Prop,(∀σ' H',N σ' H'->∃m',m'<m/\W m' σ' H')/\tb { D with nx:=N,ct:=N,bk:=D.nx } σ H1 else D.nx σ H1
theorem FE(hp:PassesOwn (model X.prog X.w) X.A X.env X.xe)(hc:PT X c tc)(hb:yY X body tb):PS X (.While c body [] pos) (FB tc tb):=by
 intro ae s σ H D I h;obtain⟨W,⟨m0,w0⟩,Ah⟩:=h;refine wpAny_While (codeAny_whileLoop (fun n s'=>∃σ' H',aG X ae σ' H' s'/\W n σ' H') ?_ m0 ⟨σ,H,I,w0⟩);rintro n s1 ⟨σ1,H1,I1,w1⟩;refine mv hp (cy (hc ae s1 σ1 H1 _ I1 (Ah n σ1 H1 w1)) fun b s2 ⟨H2,I2,q2⟩=>?_);cases b with
 |true=>
  obtain⟨N,hN,q2⟩:=q2;rw[ak rfl];refine mv hp (cy (hb ae s2 σ1 H2 _ I2 q2) fun f s3 q3=>?_);cases f with
  |next=>
   obtain⟨σ3,H3,I3,n3⟩:=q3;obtain⟨m',hm,w3⟩:=hN σ3 H3 n3;exact⟨m',hm,σ3,H3,I3,w3⟩
  |cont=>
   obtain⟨σ3,H3,I3,n3⟩:=q3;obtain⟨m',hm,w3⟩:=hN σ3 H3 n3;exact⟨m',hm,σ3,H3,I3,w3⟩
  |brk=>exact q3
  |ret v=>exact q3
 |false=>
  rw[aq bq];exact vX ⟨σ1,H2,I2,q2⟩
end
structure It where
 go:Nat->Hp->Prop
 FF:Nat->Hp->V->Hp->Prop
 stop:Nat->Hp->Prop
 Wi:Around->Hp->Prop
def fA(X:Cx)(ae:List (Addr×Obj))(H:Hp)(b:Addr):Prop:=
 H b=none/\b≠X.env.locals/\b∉X.fs/\(b∈X.ex\/X.s₀.heap.objs.size<=b)/\(∀x c,X.env.cells.lookup x=some c->c≠b)/\∀p∈X.pn++ae,p.1≠b
theorem aG.uB(I:aG X ae σ H s)(hb:s.heap.objs.size<=b)(hn:H' b=none):fA X ae H' b:=by
 refine⟨hn,ig (bA I.lt hb),I.WW hb,.inr (bj I.sz hb),fun x c e z=>?_,fun p hp z=>?_⟩
 .obtain⟨v,q⟩:=I.cell x c e;exact absurd (bA q.lt (by rw[z];exact hb)) (ie _)
 .exact absurd (bA (aL (I.pin p hp).1) (by rw[z];exact hb)) (ie _)
structure pf(P:Program)(w:World)(K:PySem.W.Frag)(tg:Expr)(J:It)(fp:List Addr)(it:Addr)(tn:Nat->Heap->Prop):Prop where
 mem:it∈fp
 obj:∀i h,tn i h->∀b∈fp,∃o,h.get? b=some o/\∀v,o.data≠.cell v
 keep:∀i h h',tn i h->(∀b∈fp,∀o,h.get? b=some o->h'.get? b=some o)->tn i h'
 item:∀ (X:Cx),X.prog=P->X.w=w->X.K=K->∀ (i:Nat) (ae:List (Addr×Obj)) (s:Shared) (σ:St) (H:Hp) (E:Value->Shared->Prop),(X.calm=true\/J.Wi X.A H)->aG X ae σ H s->(∀b∈fp,fA X ae H b)->tn i s.heap->J.go i H->
  wpAny (model P w) X.A (pyNext (.ref it)) (fun r s1=>∃u,r=some u/\
   wpAny (model P w) X.A (letOwnedTupleGo tg (.ref it) u) (fun _ s2=>∃x H',aG X ae σ H' s2/\bC x u/\J.FF i H x H'/\tn (i+1) s2.heap/\∀b∈fp,H' b=none) E s1) E s
 done:∀ (X:Cx),X.prog=P->X.w=w->X.K=K->∀ (i:Nat) (ae:List (Addr×Obj)) (s:Shared) (σ:St) (H:Hp) (E:Value->Shared->Prop),(X.calm=true\/J.Wi X.A H)->aG X ae σ H s->(∀b∈fp,fA X ae H b)->tn i s.heap->J.stop i H->
  wpAny (model P w) X.A (pyNext (.ref it)) (fun r s1=>r=none/\aG X ae σ H s1) E s
 self:∀ (A:Around) (i:Nat) (s:Shared) (Q:Value->Shared->Prop) (E:Value->Shared->Prop),tn i s.heap->Q (.ref it) s->wpAny (model P w) A (pyIter (.ref it)) Q E s
abbrev TI:=St->Hp->(It->Hp->Prop)->Prop
def W_(X:Cx)(ae:List (Addr×Obj))(σ:St)(tg:Expr)(R:It->Hp->Prop)(Q_:Value)(s2:Shared):Prop:=
 ∃ (it:Addr) (fp:List Addr) (tn:Nat->Heap->Prop) (J:It) (H':Hp),Q_=.ref it/\aG X ae σ H' s2/\pf X.prog X.w X.K tg J fp it tn/\tn 0 s2.heap/\(∀b∈fp,fA X ae H' b)/\R J H'
def PI(X:Cx)(tg iter:Expr)(wi:TI):Prop:=
 ∀ (ae:List (Addr×Obj)) (s:Shared) (σ:St) (H:Hp) (R:It->Hp->Prop),aG X ae σ H s->wi σ H R->
  wpAny (model X.prog X.w) X.A (eval iter X.env) (fun v s1=>wpAny (model X.prog X.w) X.A (pyIter v) (W_ X ae σ tg R) X.xe s1) X.xe s
theorem xF(ho:s.heap.get? it=some o)(hc:o.cls=.type n)(hd:o.data=.fields vs)(hn:["enumerate","zip","dict_itemiterator","dict_reverseitemiterator","odict_iterator","itertools.zip_longest","itertools.pairwise"].contains n=false)(hQ:Q () s):wpAny M A (letOwnedTupleGo tg (.ref it) u) Q E s:=by
 unfold letOwnedTupleGo;cases tg <;> first
  |exact wpAny_pure hQ
  |(cases u <;> first
    |exact wpAny_pure hQ
    |(refine ai (wpAny_load ho ?_);rw[hc,hd];show wpAny M A (if (["enumerate","zip","dict_itemiterator","dict_reverseitemiterator","odict_iterator","itertools.zip_longest","itertools.pairwise"].contains n&&vs[0]?==some (rawInt _))=true then _ else _) Q E s;rw[aq (by intro h;rw[hn,Bool.false_and] at h;cases h)];exact wpAny_pure hQ))
def FG(K:PySem.W.Frag)(a:Addr):It:=
 ⟨fun i H=>∃xs x,bo K H a xs/\xs[i]?=some x,fun i H x H'=>H'=H/\∀xs,bo K H a xs->xs[i]?=some x,fun i H=>∃xs,bo K H a xs/\xs.length<=i,fun _ _=>False⟩
def Ra(K:PySem.W.Frag)(a:Addr):It:=
 ⟨fun i H=>∃xs x,bh K H a xs/\xs[i]?=some x,fun i H x H'=>H'=H/\∀xs,bh K H a xs->xs[i]?=some x,fun i H=>∃xs,bh K H a xs/\xs.length<=i,fun _ _=>False⟩
def J_(lo:Int)(n:Nat):It:=⟨fun i _=>i<n,fun i H x H'=>H'=H/\x=.int (lo+i),fun i _=>n<=i,fun A H=>A.handled=none\/∃p φ,A.handled=some (.ref p)/\H p=some (.ext φ)/\∀h,φ h->BO p h⟩
theorem DB{P:Program}{w:World}{K:PySem.W.Frag}{tg:Expr}(a it:Addr):pf P w K tg (FG K a) [it] it (fun i h=>h.IsListIter it a i) where
 mem:=by simp
 obj:=fun i h st b hb=>by
  have e:b=it:=by simpa using hb
  subst e;obtain⟨o,e,c,d⟩:=st;exact⟨o,e,fun v z=>by rw[d] at z;cases z⟩
 keep:=fun i h h' st k=>st.at fun o e=>k it (by simp) o e
 item:=by
  intro X hP hw hK i ae s σ H E qk I hf st hg;subst hP hw hK;have hc:X.calm=true:=qk.elim id fun z=>(show False from z).elim;obtain⟨xs,x,hq,hx⟩:=hg;obtain⟨its,rv,p,hz⟩:=I.list hq;obtain⟨u,hu,ru⟩:=rv.get hx;obtain⟨f0,f1,f2,f3,f4,f5⟩:=hf it (by simp);refine zq st p.isList (x:=u) (by simpa using hu) fun h' bf sb=>?_;have I1:aG X ae σ H { s with heap:=h' }:=I.turned (t':=s.toks) (fun b o hb e=>(sb.2 b hb).trans e) f0 f1 f3 f4 f5;obtain⟨o,e,c,d⟩:=id bf;exact⟨u,rfl,xF (s:={ s with heap:=h' }) e c d (by decide) ⟨x,H,I1,ru,⟨rfl,fun ys hy=>by rw[I.xD hy hq];exact hx⟩,bf,fun b hb=>(hf b hb).1⟩⟩
 done:=by
  intro X hP hw hK i ae s σ H E qk I hf st hg;subst hP hw hK;have hc:X.calm=true:=qk.elim id fun z=>(show False from z).elim;obtain⟨xs,hq,hx⟩:=hg;obtain⟨its,rv,p,hz⟩:=I.list hq;obtain⟨f0,f1,f2,f3,f4,f5⟩:=hf it (by simp);have hl:=rv.length;exact zy (I.ok.hd hc) st p.isList (by simp;lia) fun h' eb=>⟨rfl,I.turned (t':=s.toks) (fun b o hb e=>eb b o hb e) f0 f1 f3 f4 f5⟩
 self:=fun _ _ _ _ _ st h=>wpAny_pyIter_listiter st h
theorem Ai{P:Program}{w:World}{K:PySem.W.Frag}{tg:Expr}(a it:Addr):pf P w K tg (Ra K a) [it] it (fun i h=>h.IsTupleIter it a i) where
 mem:=by simp
 obj:=fun i h st b hb=>by
  have e:b=it:=by simpa using hb
  subst e;obtain⟨o,e,c,d⟩:=st;exact⟨o,e,fun v z=>by rw[d] at z;cases z⟩
 keep:=fun i h h' st k=>st.at fun o e=>k it (by simp) o e
 item:=by
  intro X hP hw hK i ae s σ H E qk I hf st hg;subst hP hw hK;have hc:X.calm=true:=qk.elim id fun z=>(show False from z).elim;obtain⟨xs,x,hq,hx⟩:=hg;obtain⟨its,rv,p,hz⟩:=I.tuple hq;obtain⟨u,hu,ru⟩:=rv.get hx;obtain⟨f0,f1,f2,f3,f4,f5⟩:=hf it (by simp);refine wpAny_pyNext_tuple_item st (show s.heap.IsTuple a its.toArray from p) (x:=u) (by simpa using hu) fun h' bf sb=>?_;have I1:aG X ae σ H { s with heap:=h' }:=I.turned (t':=s.toks) (fun b o hb e=>(sb.2 b hb).trans e) f0 f1 f3 f4 f5;obtain⟨o,e,c,d⟩:=id bf;exact⟨u,rfl,xF (s:={ s with heap:=h' }) e c d (by decide) ⟨x,H,I1,ru,⟨rfl,fun ys hy=>by rw[I.ff hy hq];exact hx⟩,bf,fun b hb=>(hf b hb).1⟩⟩
 done:=by
  intro X hP hw hK i ae s σ H E qk I hf st hg;subst hP hw hK;have hc:X.calm=true:=qk.elim id fun z=>(show False from z).elim;obtain⟨xs,hq,hx⟩:=hg;obtain⟨its,rv,p,hz⟩:=I.tuple hq;obtain⟨f0,f1,f2,f3,f4,f5⟩:=hf it (by simp);have hl:=rv.length;exact wpAny_pyNext_tuple_end (I.ok.hd hc) st (show s.heap.IsTuple a its.toArray from p) (by simp;lia) fun h' eb=>⟨rfl,I.turned (t':=s.toks) (fun b o hb e=>eb b o hb e) f0 f1 f3 f4 f5⟩
 self:=fun _ _ _ _ _ st h=>wpAny_pyIter_tupleiter st h
theorem Aj{P:Program}{w:World}{K:PySem.W.Frag}{tg:Expr}(it:Addr)(lo:Int)(n:Nat):pf P w K tg (J_ lo n) [it] it (fun i h=>IsRangeIter h it (lo+(i:Nat)*1) ((n:Int)-(i:Nat)) 1) where
 mem:=by simp
 obj:=fun i h st b hb=>by
  have e:b=it:=by simpa using hb
  subst e;exact⟨_,st,fun v z=>by
   have z':Data.fields _=Data.cell v:=z;cases z'⟩
 keep:=fun i h h' st k=>k it (by simp) _ st
 item:=by
  intro X hP hw hK i ae s σ H E hc I hf st hg;subst hP hw hK;obtain⟨f0,f1,f2,f3,f4,f5⟩:=hf it (by simp);refine wpAny_pyNext_range_item st (by have:i<n:=hg;lia) fun h' bf sb=>?_;have I1:aG X ae σ H { s with heap:=h',toks:=s.toks+1 }:=I.turned (fun b o hb e=>(sb.2 b hb).trans e) f0 f1 f3 f4 f5;have ow:IsRangeIter h' it (lo+((i+1:Nat):Int)*1) ((n:Int)-((i+1:Nat):Int)) 1:=by
   rw[show lo+((i+1:Nat):Int)*1=lo+(i:Int)*1+1 by lia,show (n:Int)-((i+1:Nat):Int)=(n:Int)-(i:Int)-1 by lia];exact bf
  exact⟨_,rfl,xF (s:={ s with heap:=h',toks:=s.toks+1 }) (n:="range_iterator") ow rfl rfl (by decide) ⟨.int (lo+i),H,I1,⟨s.toks,by rw[Int.mul_one]⟩,⟨rfl,rfl⟩,ow,fun b hb=>(hf b hb).1⟩⟩
 done:=by
  intro X hP hw hK i ae s σ H E hc I hf st hg;subst hP hw hK;obtain⟨f0,f1,f2,f3,f4,f5⟩:=hf it (by simp);have he:X.A.handled=none\/∃p φ,X.A.handled=some (.ref p)/\H p=some (.ext φ)/\∀h,φ h->BO p h:=hc.elim (fun z=>.inl (I.ok.hd z)) id;rcases he with hn|⟨p,φ,hp,hH,hφ⟩
  .exact wpAny_pyNext_range_end hn st (by have:n<=i:=hg;lia) fun h' eb=>⟨rfl,I.turned (t':=s.toks) (fun b o hb e=>eb b o hb e) f0 f1 f3 f4 f5⟩
  .exact Ae hp (hφ _ (I.cf p _ hH).1) st (by have:n<=i:=hg;lia) fun h' eb=>⟨rfl,I.kept (t':=s.toks) eb⟩
 self:=fun _ _ _ _ _ st h=>zu st h
section
variable {X:Cx} {tg:Expr}
def R6(K:PySem.W.Frag)(tl:TE):TI:=fun σ H R=>tl σ H fun x H1=>∃a,x=.ref a/\(∃xs,bo K H1 a xs)/\R (FG K a) H1
def Xa(K:PySem.W.Frag)(tl:TE):TI:=fun σ H R=>tl σ H fun x H1=>∃a,x=.ref a/\(∃xs,bh K H1 a xs)/\R (Ra K a) H1
theorem cU{l:Expr}{tl:TE}(hl:PE X l tl):PI X tg l (R6 X.K tl):=by
 intro ae s σ H R I h;refine cy (hl ae s σ H _ I h) fun v s1 ⟨x,H1,I1,r1,q1⟩=>?_;obtain⟨a,e,⟨xs,hq⟩,q⟩:=q1;subst e;cases r1;obtain⟨its,rv,p,hz⟩:=I1.list hq;refine rH p.isList ?_;refine⟨s1.heap.objs.size,[s1.heap.objs.size],_,_,H1,rfl,I1.kept (t':=s1.toks) fun b o e=>a8 _ e,DB a _,⟨_,bz _ rfl,rfl,rfl⟩,fun b hb=>?_,q⟩;have e:b=s1.heap.objs.size:=by simpa using hb
 subst e;exact I1.uB (aX _) (I1.cf.fresh (aX _))
theorem mJ{l:Expr}{tl:TE}(hl:PE X l tl):PI X tg l (Xa X.K tl):=by
 intro ae s σ H R I h;refine cy (hl ae s σ H _ I h) fun v s1 ⟨x,H1,I1,r1,q1⟩=>?_;obtain⟨a,e,⟨xs,hq⟩,q⟩:=q1;subst e;cases r1;obtain⟨its,rv,p,hz⟩:=I1.tuple hq;refine oJ (show s1.heap.IsTuple a its.toArray from p) ?_;refine⟨s1.heap.objs.size,[s1.heap.objs.size],_,_,H1,rfl,I1.kept (t':=s1.toks) fun b o e=>a8 _ e,Ai a _,⟨_,bz _ rfl,rfl,rfl⟩,fun b hb=>?_,q⟩;have e:b=s1.heap.objs.size:=by simpa using hb
 subst e;exact I1.uB (aX _) (I1.cf.fresh (aX _))
theorem FH{ae:List (Addr×Obj)}{σ:St}{H:Hp}{s:Shared}{R:It->Hp->Prop}{E:Value->Shared->Prop}{lo hi:Int}{t u v:Tok}{tk:Nat}(I:aG X ae σ H s)(h1:-(2 ^ 62)<=lo)(h2:lo<2 ^ 62)(h3:-(2 ^ 62)<=hi)(h4:hi<2 ^ 62)(q:R (J_ lo (hi-lo).toNat) H):wpAny (model X.prog X.w) X.A (pyIter (.ref s.heap.objs.size)) (W_ X ae σ tg R) E { s with heap:=s.heap.push { cls:=.type "range",data:=.fields #[.int lo t,.int hi u,.int 1 v] },toks:=tk }:=by
 refine wpAny_pyIter_range (IsRange.new ..) (small_one h1 h2 h3 h4) ?_;have I1:aG X ae σ H { s with heap:=s.heap.push { cls:=.type "range",data:=.fields #[.int lo t,.int hi u,.int 1 v] },toks:=tk }:=I.kept fun b o e=>a8 _ e;refine⟨(s.heap.push { cls:=.type "range",data:=.fields #[.int lo t,.int hi u,.int 1 v] }).objs.size,[(s.heap.push { cls:=.type "range",data:=.fields #[.int lo t,.int hi u,.int 1 v] }).objs.size],_,_,H,rfl,
  I1.kept (t':=tk) fun b o e=>a8 _ e,Aj _ lo (hi-lo).toNat,?_,fun b hb=>?_,q⟩
 .have e1:lo+((0:Nat):Int)*1=lo:=by simp
  have e2:(((hi-lo).toNat:Nat):Int)-((0:Nat):Int)=Builtin.Range.rangeSize lo hi 1:=by rw[rangeSize_one];split <;> lia
  show IsRangeIter _ _ (lo+((0:Nat):Int)*1) ((((hi-lo).toNat:Nat):Int)-((0:Nat):Int)) 1;rw[e1,e2];exact bz _ rfl
 .have e:b=(s.heap.push { cls:=.type "range",data:=.fields #[.int lo t,.int hi u,.int 1 v] }).objs.size:=by simpa using hb
  subst e;exact I1.uB (aX _) (I1.cf.fresh (aX _))
def R7(ta:TA):TI:=fun σ H R=>ta σ H fun vs H1=>∃j:Int,vs=[.int j]/\-(2 ^ 62)<=j/\j<2 ^ 62/\R (J_ 0 j.toNat) H1
theorem cj{a:Expr}{ta:TA}{p pos:Pos}(hg:Gl X "range")(hm:X.mg "range"=none)(ha:PA X [a] ta)(hs:starEach [a] X.env=[(false,eval a X.env)]:=by rfl):PI X tg (.Call (.Name "range" p) [a] [] pos) (R7 ta):=by
 intro ae s σ H R I h;refine Call_ (jJ I hg hm boot_range (oA (cy (ha pos ae s σ H _ I h) fun us s1 ⟨vs,H1,I1,r1,q1⟩=>?_) hs rfl));obtain⟨j,e,q1,q2,q⟩:=q1;subst e;cases r1 with
 |cons r rr=>
  cases rr;obtain⟨t,rfl⟩:=r;exact call_range_1 (FH I1 (by lia) (by lia) q1 q2 (by simpa using q))
def Xb(wi:TI)(g:TG)(tb:TS):TS:=fun D σ H=>wi σ H fun J H1=>∃W:Nat->Nat->St->Hp->Prop,(∃m,W 0 m σ H1)/\∀i m σ H,W i m σ H->
 (J.stop i H/\D.nx σ H)\/(J.go i H/\∃N:St->Hp->Prop,(∀σ' H',N σ' H'->∃m',m'<m/\W (i+1) m' σ' H')/\∀x H',J.FF i H x H'->g x σ H' fun σ2 H2=>tb { D with nx:=N,ct:=N,bk:=D.nx } σ2 H2)
def pi(fp:List Addr)(h:Heap):List (Addr×Obj):=fp.filterMap fun b=>(h.get? b).map fun o=>(b,o)
theorem fU(hb:b∈fp)(e:h.get? b=some o):(b,o)∈pi fp h:=mi.mpr ⟨b,hb,by rw[e];rfl⟩
theorem DC(hp:p∈pi fp h):p.1∈fp/\h.get? p.1=some p.2:=by
 obtain⟨b,hb,e⟩:=mi.mp hp;cases q:h.get? b with
 |none=>rw[q] at e;cases e
 |some o=>
  rw[q] at e;have e':(b,o)=p:=bg e;subst e';exact⟨hb,q⟩
theorem aG.pinned(I:aG X ae σ H s)(hf:∀b∈fp,fA X ae H b)(ho:∀b∈fp,∃o,s.heap.get? b=some o/\∀v,o.data≠.cell v):aG X (ae++pi fp s.heap) σ H s:=
 I.BR fun p hp=>(dO.mp hp).elim (fun z=>I.pin p (hZ _ z)) fun z=>by
  obtain⟨hb,e⟩:=DC z;obtain⟨f0,f1,f2,_⟩:=hf p.1 hb;obtain⟨o,e',d⟩:=ho p.1 hb;rw[e] at e';cases e';exact⟨e,f0,f1,f2,d⟩
theorem aG.kN(I:aG X (ae++pl) σ H s):aG X ae σ H s:=I.BR fun p hp=>I.pin p (hZ _ (kr _ hp))
theorem cF(hp:PassesOwn (model X.prog X.w) X.A X.env X.xe)(hc:X.calm=true)(hi:PI X tg iter wi)(hg:PG X tg g)(hb:yY X body tb)(hs:∀x,foldedSetIterable iter X.env x=pure x:=by intro _;rfl):PS X (.For tg iter body [] pos) (Xb wi g tb):=by
 intro ae s σ H D I h;refine wpAny_For (cy (hi ae s σ H _ I h) fun v s1 h1=>cy h1 fun Q_ s2 h2=>?_) hs;obtain⟨it,fp,tn,J,H2,e,I2,T,ow,f2,W,⟨m0,w0⟩,Ah⟩:=h2;subst e;have rZ:∀ {H':Hp},(∀b∈fp,H' b=none)->∀b∈fp,fA X ae H' b:=fun hn b hb=>⟨hn b hb,(f2 b hb).2⟩
 refine codeAny_forLoop_any (fun n s'=>∃i σ' H',aG X ae σ' H' s'/\tn i s'.heap/\(∀b∈fp,H' b=none)/\W i n σ' H') ?_ m0 ⟨0,σ,H2,I2,ow,fun b hb=>(f2 b hb).1,w0⟩;rintro n s3 ⟨i,σ3,H3,I3,xv,JJ,w3⟩;rcases Ah i n σ3 H3 w3 with ⟨stop,qn⟩|⟨go,N,hN,step⟩
 .refine mv hp (cy (T.done X rfl rfl rfl i ae s3 σ3 H3 X.xe (.inl hc) I3 (rZ JJ) xv stop) fun r s4 ⟨hr,I4⟩=>?_);subst hr;exact vX ⟨σ3,H3,I4,qn⟩
 .refine mv hp (cy (T.item X rfl rfl rfl i ae s3 σ3 H3 X.xe (.inl hc) I3 (rZ JJ) xv go) fun r s4 ⟨u,hr,h4⟩=>?_);subst hr;refine mv hp (cy h4 fun _ s5 ⟨x,H5,I5,r5,y5,um,R8⟩=>?_);have R9:=I5.pinned (rZ R8) (T.obj _ _ um);refine mv hp (cy (hg _ s5 σ3 H5 x u _ R9 r5 (step x H5 y5)) fun _ s6 ⟨σ6,H6,I6,q6⟩=>?_);refine mv hp (cy (hb _ s6 σ6 H6 _ I6 q6) fun f s7 q7=>?_);have again:∀ {σ7:St} {H7:Hp},aG X (ae++pi fp s5.heap) σ7 H7 s7->N σ7 H7->∃m,m<n/\∃i σ' H',aG X ae σ' H' s7/\tn i s7.heap/\(∀b∈fp,H' b=none)/\W i m σ' H':=fun {σ7 H7} I7 n7=>by
   obtain⟨m',hm,w7⟩:=hN σ7 H7 n7;refine⟨m',hm,i+1,σ7,H7,I7.kN,T.keep _ _ _ um fun b hb o e=>(I7.pin (b,o) (hZ _ (hZ _ (fU hb e)))).1,fun b hb=>?_,w7⟩;obtain⟨o,e,d⟩:=T.obj _ _ um b hb;exact(I7.pin (b,o) (hZ _ (hZ _ (fU hb e)))).2.1
  cases f with
  |next=>obtain⟨σ7,H7,I7,n7⟩:=q7;exact again I7 n7
  |cont=>obtain⟨σ7,H7,I7,n7⟩:=q7;exact again I7 n7
  |brk=>obtain⟨σ7,H7,I7,q7⟩:=q7;exact⟨σ7,H7,I7.kN,q7⟩
  |ret v=>obtain⟨x7,σ7,H7,I7,r7,q7⟩:=q7;exact⟨x7,σ7,H7,I7.kN,r7,q7⟩
end
theorem jm{K:PySem.W.Frag}{a:Addr}{xs:List V}{g:TG}{tb:TS}{D:uy}{σ:St}{H:Hp}(Pv:Nat->St->Hp->Prop)(h0:Pv 0 σ H)(hl:∀i σ H,i<=xs.length->Pv i σ H->bo K H a xs)(hs:∀i x σ H,xs[i]?=some x->Pv i σ H->g x σ H fun σ2 H2=>tb { D with nx:=Pv (i+1),ct:=Pv (i+1),bk:=D.nx } σ2 H2)(hd:∀σ H,Pv xs.length σ H->D.nx σ H):
  ∃W:Nat->Nat->St->Hp->Prop,(∃m,W 0 m σ H)/\∀i m σ H,W i m σ H->
   ((FG K a).stop i H/\D.nx σ H)\/((FG K a).go i H/\∃N:St->Hp->Prop,(∀σ' H',N σ' H'->∃m',m'<m/\W (i+1) m' σ' H')/\∀x H',(FG K a).FF i H x H'->g x σ H' fun σ2 H2=>tb { D with nx:=N,ct:=N,bk:=D.nx } σ2 H2):=by
 refine⟨fun i m σ H=>m=xs.length-i/\i<=xs.length/\Pv i σ H,⟨xs.length,by simp,cr _,h0⟩,?_⟩;rintro i m σ H ⟨rfl,hi,p⟩;have q:=hl i σ H hi p;by_cases de:i<xs.length
 .refine .inr ⟨⟨xs,xs[i],q,by simp[de]⟩,Pv (i+1),fun σ' H' p'=>⟨xs.length-(i+1),by lia,rfl,de,p'⟩,fun x H' y=>?_⟩;obtain⟨e,y⟩:=y;subst e;exact hs i x σ _ (y xs q) p
 .have e:i=xs.length:=by lia
  subst e;exact .inl ⟨⟨xs,q,aX _⟩,hd σ H p⟩
theorem lD{K:PySem.W.Frag}{a:Addr}{xs:List V}{g:TG}{tb:TS}{D:uy}{σ:St}{H:Hp}(Pv:Nat->St->Hp->Prop)(h0:Pv 0 σ H)(hl:∀i σ H,i<=xs.length->Pv i σ H->bh K H a xs)(hs:∀i x σ H,xs[i]?=some x->Pv i σ H->g x σ H fun σ2 H2=>tb { D with nx:=Pv (i+1),ct:=Pv (i+1),bk:=D.nx } σ2 H2)(hd:∀σ H,Pv xs.length σ H->D.nx σ H):
  ∃W:Nat->Nat->St->Hp->Prop,(∃m,W 0 m σ H)/\∀i m σ H,W i m σ H->
   ((Ra K a).stop i H/\D.nx σ H)\/((Ra K a).go i H/\∃N:St->Hp->Prop,(∀σ' H',N σ' H'->∃m',m'<m/\W (i+1) m' σ' H')/\∀x H',(Ra K a).FF i H x H'->g x σ H' fun σ2 H2=>tb { D with nx:=N,ct:=N,bk:=D.nx } σ2 H2):=by
 refine⟨fun i m σ H=>m=xs.length-i/\i<=xs.length/\Pv i σ H,⟨xs.length,by simp,cr _,h0⟩,?_⟩;rintro i m σ H ⟨rfl,hi,p⟩;have q:=hl i σ H hi p;by_cases de:i<xs.length
 .refine .inr ⟨⟨xs,xs[i],q,by simp[de]⟩,Pv (i+1),fun σ' H' p'=>⟨xs.length-(i+1),by lia,rfl,de,p'⟩,fun x H' y=>?_⟩;obtain⟨e,y⟩:=y;subst e;exact hs i x σ _ (y xs q) p
 .have e:i=xs.length:=by lia
  subst e;exact .inl ⟨⟨xs,q,aX _⟩,hd σ H p⟩
theorem dZ{lo:Int}{n:Nat}{g:TG}{tb:TS}{D:uy}{σ:St}{H:Hp}(Pv:Nat->St->Hp->Prop)(h0:Pv 0 σ H)(hs:∀i σ H,i<n->Pv i σ H->g (.int (lo+i)) σ H fun σ2 H2=>tb { D with nx:=Pv (i+1),ct:=Pv (i+1),bk:=D.nx } σ2 H2)(hd:∀σ H,Pv n σ H->D.nx σ H):
  ∃W:Nat->Nat->St->Hp->Prop,(∃m,W 0 m σ H)/\∀i m σ H,W i m σ H->
   ((J_ lo n).stop i H/\D.nx σ H)\/((J_ lo n).go i H/\∃N:St->Hp->Prop,(∀σ' H',N σ' H'->∃m',m'<m/\W (i+1) m' σ' H')/\∀x H',(J_ lo n).FF i H x H'->g x σ H' fun σ2 H2=>tb { D with nx:=N,ct:=N,bk:=D.nx } σ2 H2):=by
 refine⟨fun i m σ H=>m=n-i/\i<=n/\Pv i σ H,⟨n,by simp,cr _,h0⟩,?_⟩;rintro i m σ H ⟨rfl,hi,p⟩;by_cases de:i<n
 .refine .inr ⟨de,Pv (i+1),fun σ' H' p'=>⟨n-(i+1),by lia,rfl,de,p'⟩,fun x H' y=>?_⟩;obtain⟨e,y⟩:=y;subst e y;exact hs i σ _ de p
 .have e:i=n:=by lia
  subst e;exact .inl ⟨aX _,hd σ H p⟩
theorem FJ(Pv:St->Hp->Prop)(μ:St->Hp->Nat)(h0:Pv σ H)(hs:∀σ H,Pv σ H->c σ H fun b H1=>if b=true then tb { D with nx:=fun σ' H'=>Pv σ' H'/\μ σ' H'<μ σ H,ct:=fun σ' H'=>Pv σ' H'/\μ σ' H'<μ σ H,bk:=D.nx } σ H1 else D.nx σ H1)(mono:∀σ H Q Q',(∀b H1,Q b H1->Q' b H1)->c σ H Q->c σ H Q'):FB c tb D σ H:=by
 refine⟨fun m σ H=>m=μ σ H/\Pv σ H,⟨_,rfl,h0⟩,?_⟩;rintro m σ H ⟨rfl,p⟩;refine mono σ H _ _ (fun b H1 q=>?_) (hs σ H p);cases b with
 |true=>exact⟨_,fun σ' H' ⟨p',l⟩=>⟨_,l,rfl,p'⟩,q⟩
 |false=>exact q
abbrev R2:=V->V->Hp->VK->Prop
def lX(X:Cx)(f:Value->Value->Sem Value)(r:R2):Prop:=
 ∀ (ae:List (Addr×Obj)) (s:Shared) (σ:St) (H:Hp) (x y:V) (v u:Value) (Q:VK),aG X ae σ H s->bC x v->bC y u->r x y H Q->
  wpAny (model X.prog X.w) X.A (f v u) (EP X ae σ Q) X.xe s
def Xc(X:Cx)(f:Value->Sem Value)(r:V->Hp->VK->Prop):Prop:=
 ∀ (ae:List (Addr×Obj)) (s:Shared) (σ:St) (H:Hp) (x:V) (v:Value) (Q:VK),aG X ae σ H s->bC x v->r x H Q->
  wpAny (model X.prog X.w) X.A (f v) (EP X ae σ Q) X.xe s
def fm(X:Cx)(f:Value)(r:List V->Hp->VK->Prop):Prop:=
 ∀ (ae:List (Addr×Obj)) (s:Shared) (σ:St) (H:Hp) (xs:List V) (us:List Value) (Q:VK),aG X ae σ H s->aZ xs us->r xs H Q->
  wpAny (model X.prog X.w) X.A (call f us) (EP X ae σ Q) X.xe s
def oy(r:R2)(ta tb:TE):TE:=fun σ H Q=>ta σ H fun x H1=>tb σ H1 fun y H2=>r x y H2 Q
def tUn(r:V->Hp->VK->Prop)(ta:TE):TE:=fun σ H Q=>ta σ H fun x H1=>r x H1 Q
def rI(C:Int->Int->Prop)(g:Int->Int->V):R2:=fun x y H Q=>∃i j,x=.int i/\y=.int j/\C i j/\Q (g i j) H
def JK(g:Int->Int->V):R2:=fun x y H Q=>∃i j,x=.int i/\y=.int j/\Q (g i j) H
def rU(g:Int->V):V->Hp->VK->Prop:=fun x H Q=>∃i,x=.int i/\Q (g i) H
section
variable {X:Cx} {a b c:Expr} {ta tb tc:TE} {pos:Pos}
theorem Oa(ha:PE X a ta)(hb:PE X b tb){ae:List (Addr×Obj)}{s:Shared}{σ:St}{H:Hp}{R:V->V->Hp->Prop}(I:aG X ae σ H s)(h:ta σ H fun x H1=>tb σ H1 fun y H2=>R x y H2){Q:Value->Shared->Prop}{f:Value->Value->Sem Value}(hf:∀v u s2 x y H2,aG X ae σ H2 s2->bC x v->bC y u->R x y H2->wpAny (model X.prog X.w) X.A (f v u) Q X.xe s2):
  wpAny (model X.prog X.w) X.A (eval a X.env) (fun v s₁=>wpAny (model X.prog X.w) X.A (eval b X.env) (fun u s₂=>wpAny (model X.prog X.w) X.A (f v u) Q X.xe s₂) X.xe s₁) X.xe s:=by
 refine cy (ha ae s σ H _ I h) fun v s1 ⟨x,H1,I1,r1,q1⟩=>?_;refine cy (hb ae s1 σ H1 _ I1 q1) fun u s2 ⟨y,H2,I2,r2,q2⟩=>?_;exact hf v u s2 x y H2 I2 r1 r2 q2
theorem bu{op:Operator}{r:R2}(ho:lX X (binaryOp op) r)(ha:PE X a ta)(hb:PE X b tb):PE X (.BinOp a op b pos) (oy r ta tb):=by
 intro ae s σ H Q I h;exact wpAny_BinOp (Oa ha hb I h fun v u s2 x y H2 I2 rx ry q=>ho ae s2 σ H2 x y v u Q I2 rx ry q)
theorem BY(ho:Xc X (unaryOp op) r)(ha:PE X a ta):PE X (.UnaryOp op a pos) (tUn r ta):=by
 intro ae s σ H Q I h;exact UnaryOp_ (cy (ha ae s σ H _ I h) fun v s1 ⟨x,H1,I1,r1,q1⟩=>ho ae s1 σ H1 x v Q I1 r1 q1)
theorem Rb{f:Value->Value->Sem Value}{C:Int->Int->Prop}{g:Int->Int->Int}(rule:∀ (i j:Int) (t u:Tok) (s:Shared) (Q:Value->Shared->Prop) (E:Value->Shared->Prop),C i j->Q (.int (g i j) s.toks) { s with toks:=s.toks+1 }->wpAny (model X.prog X.w) X.A (f (.int i t) (.int j u)) Q E s):
  lX X f (rI C fun i j=>.int (g i j)):=by
 intro ae s σ H x y v u Q I rx ry h;obtain⟨i,j,rfl,rfl,hc,q⟩:=h;obtain⟨t,rfl⟩:=rx;obtain⟨t',rfl⟩:=ry;exact rule i j t t' s _ _ hc ⟨.int (g i j),H,I.tok _,⟨_,rfl⟩,q⟩
theorem R_{f:Value->Value->Sem Value}{g:Int->Int->Int}(rule:∀ (i j:Int) (t u:Tok) (s:Shared) (Q:Value->Shared->Prop) (E:Value->Shared->Prop),Q (.int (g i j) s.toks) { s with toks:=s.toks+1 }->wpAny (model X.prog X.w) X.A (f (.int i t) (.int j u)) Q E s):
  lX X f (JK fun i j=>.int (g i j)):=by
 intro ae s σ H x y v u Q I rx ry h;obtain⟨i,j,rfl,rfl,q⟩:=h;obtain⟨t,rfl⟩:=rx;obtain⟨t',rfl⟩:=ry;exact rule i j t t' s _ _ ⟨.int (g i j),H,I.tok _,⟨_,rfl⟩,q⟩
theorem Ob{f:Value->Value->Sem Value}{g:Int->Int->Bool}(rule:∀ (i j:Int) (t u:Tok) (s:Shared) (Q:Value->Shared->Prop) (E:Value->Shared->Prop),Q (.bool (g i j)) s->wpAny (model X.prog X.w) X.A (f (.int i t) (.int j u)) Q E s):
  lX X f (JK fun i j=>.bl (g i j)):=by
 intro ae s σ H x y v u Q I rx ry h;obtain⟨i,j,rfl,rfl,q⟩:=h;obtain⟨t,rfl⟩:=rx;obtain⟨t',rfl⟩:=ry;exact rule i j t t' s _ _ ⟨.bl (g i j),H,I,rfl,q⟩
def Oc(i j:Int):Prop:=0<j/\j<1073741824
def Xd(i j:Int):Prop:=0<=j/\j<=1000000/\i.natAbs<2 ^ 64
def FK(i j:Int):Prop:=(-(2 ^ 64)<i/\i<2 ^ 64)\/(-(2 ^ 64)<j/\j<2 ^ 64)
theorem FK.ok(h:FK i j):IntMulOk i j:=by
 rcases h with ⟨h1,h2⟩|⟨h1,h2⟩
 .exact .of_left (intBits_le_64 h1 h2)
 .exact .of_right (intBits_le_64 h1 h2)
theorem eC:lX X (binaryOp .Add) (JK fun i j=>.int (i+j)):=R_ fun _ _ _ _ _ _ _ q=>add_int q
theorem mK:lX X (binaryOp .Sub) (JK fun i j=>.int (i-j)):=R_ fun _ _ _ _ _ _ _ q=>sub_int q
theorem pj:lX X (binaryOp .Mult) (rI FK fun i j=>.int (i*j)):=Rb fun _ _ _ _ _ _ _ hc q=>mul_int q hc.ok
theorem qL:lX X (binaryOp .FloorDiv) (rI Oc fun i j=>.int (i / j)):=Rb fun i j _ _ _ _ _ hc q=>by
 have h1:(0:Int)<j:=hc.1;have h2:j<1073741824:=hc.2;exact floordiv_int (by lia) (by rw[vw i (by lia)];exact q) (.inl (PyProof.noPylong_small (by lia)))
theorem jL:lX X (binaryOp .Mod) (rI (fun _ j=>0<j) fun i j=>.int (i % j)):=Rb fun i j _ _ _ _ _ hc q=>by
 have h1:(0:Int)<j:=hc;exact mod_int' (by lia) (by rw[y7 i (by lia)];exact q)
theorem FL:lX X (binaryOp .Pow) (rI Xd fun i j=>.int (i ^ j.toNat)):=Rb fun _ _ _ _ _ _ _ hc q=>pow_int_small hc.1 hc.2.1 hc.2.2 q
theorem FM:lX X (inplaceOp .FloorDiv) (rI Oc fun i j=>.int (i / j)):=Rb fun i j _ _ _ _ _ hc q=>by
 have h1:(0:Int)<j:=hc.1;have h2:j<1073741824:=hc.2;exact ifloordiv_int (by lia) (by rw[vw i (by lia)];exact q) (.inl (PyProof.noPylong_small (by lia)))
theorem unI{f:Value->Sem Value}{g:Int->Int}(rule:∀ (i:Int) (t:Tok) (s:Shared) (Q:Value->Shared->Prop) (E:Value->Shared->Prop),Q (.int (g i) s.toks) { s with toks:=s.toks+1 }->wpAny (model X.prog X.w) X.A (f (.int i t)) Q E s):
  Xc X f (rU fun i=>.int (g i)):=by
 intro ae s σ H x v Q I rx h;obtain⟨i,rfl,q⟩:=h;obtain⟨t,rfl⟩:=rx;exact rule i t s _ _ ⟨.int (g i),H,I.tok _,⟨_,rfl⟩,q⟩
theorem wj:Xc X (unaryOp .USub) (rU fun i=>.int (-i)):=unI fun _ _ _ _ _ q=>neg_int q
end
def Od:V->V->Bool
 |.bR,.bR=>true|.bR,.int _=>true|.int _,.bR=>true|.bR,.bl _=>true|.bl _,.bR=>true|.bR,.str _=>true|.str _,.bR=>true
 |.int _,.int _=>true|.bl _,.bl _=>true|.str _,.str _=>true|.E5 _,.E5 _=>true
 |.int _,.str _=>true|.str _,.int _=>true|.bl _,.str _=>true|.str _,.bl _=>true
 |_,_=>false
def Sa:R2:=fun x y H Q=>Od x y=true/\Q (.bl (decide (x=y))) H
def Xe:R2:=fun x y H Q=>Od x y=true/\Q (.bl (!decide (x=y))) H
theorem BZ:decide (V.int i=V.int j)=(i==j):=by
 rw[im];simp
theorem FO:decide (V.bl i=V.bl j)=(i==j):=by
 rw[im];simp
theorem B0:decide (V.str i=V.str j)=(i==j):=by
 rw[im];simp
theorem B1:decide (V.E5 i=V.E5 j)=(i.toList==j.toList):=by
 rw[im];cases i;cases j;simp
section
variable {X:Cx} {a b c:Expr} {ta tb tc:TE} {pos:Pos}
theorem bK(I:aG X ae σ H s)(q:Q (.bl k) H)(e:k=k'):EP X ae σ Q (.bool k') s:=by
 subst e;exact⟨.bl k,H,I,rfl,q⟩
theorem jn:lX X (compareOp .Eq) Sa:=by
 intro ae s σ H x y v u Q I rx ry h;obtain⟨hs,q⟩:=h;cases x with
 |bR=>
  cases rx;cases y with
  |bR=>cases ry;exact PySem.EqNone.eq_none_none (bK I q (by simp))
  |bl j=>cases ry;exact PySem.EqNone.eq_none_bool (bK I q (by simp))
  |int j=>obtain⟨t',rfl⟩:=ry;exact PySem.EqNone.eq_none_int (bK I q (by simp))
  |str j=>obtain⟨t',rfl⟩:=ry;exact PySem.EqNone.eq_none_str (bK I q (by simp))
  |_=>exact absurd (show false=true from hs) bq
 |bl i=>
  cases rx;cases y with
  |bR=>cases ry;exact PySem.EqNone.eq_bool_none (bK I q (by simp))
  |bl j=>cases ry;exact eq_bool (bK I q FO)
  |str j=>obtain⟨t',rfl⟩:=ry;exact PySem.EqMixed.eq_bool_str (bK I q (by simp))
  |_=>exact absurd (show false=true from hs) bq
 |int i=>
  obtain⟨t,rfl⟩:=rx;cases y with
  |bR=>cases ry;exact PySem.EqNone.eq_int_none (bK I q (by simp))
  |int j=>obtain⟨t',rfl⟩:=ry;exact eq_int (bK I q BZ)
  |str j=>obtain⟨t',rfl⟩:=ry;exact PySem.EqMixed.eq_int_str (bK I q (by simp))
  |_=>exact absurd (show false=true from hs) bq
 |str i=>
  obtain⟨t,rfl⟩:=rx;cases y with
  |bR=>cases ry;exact PySem.EqNone.eq_str_none (bK I q (by simp))
  |bl j=>cases ry;exact PySem.EqMixed.eq_str_bool (bK I q (by simp))
  |int j=>obtain⟨t',rfl⟩:=ry;exact PySem.EqMixed.eq_str_int (bK I q (by simp))
  |str j=>obtain⟨t',rfl⟩:=ry;exact eq_str (bK I q B0)
  |_=>exact absurd (show false=true from hs) bq
 |E5 i=>
  obtain⟨t,rfl⟩:=rx;cases y with
  |E5 j=>obtain⟨t',rfl⟩:=ry;exact PySem.W.eq_bytes (bK I q B1)
  |_=>exact absurd (show false=true from hs) bq
 |_=>cases y <;> exact absurd (show false=true from hs) bq
theorem pX:lX X (compareOp .NotEq) Xe:=by
 intro ae s σ H x y v u Q I rx ry h;obtain⟨hs,q⟩:=h;cases x with
 |bR=>
  cases rx;cases y with
  |bR=>cases ry;exact PySem.EqNone.ne_none_none (bK I q (by simp))
  |bl j=>cases ry;exact PySem.EqNone.ne_none_bool (bK I q (by simp))
  |int j=>obtain⟨t',rfl⟩:=ry;exact PySem.EqNone.ne_none_int (bK I q (by simp))
  |str j=>obtain⟨t',rfl⟩:=ry;exact PySem.EqNone.ne_none_str (bK I q (by simp))
  |_=>exact absurd (show false=true from hs) bq
 |bl i=>
  cases rx;cases y with
  |bR=>cases ry;exact PySem.EqNone.ne_bool_none (bK I q (by simp))
  |bl j=>cases ry;exact ne_bool (bK I q (congrArg not FO))
  |str j=>obtain⟨t',rfl⟩:=ry;exact PySem.EqMixed.ne_bool_str (bK I q (by simp))
  |_=>exact absurd (show false=true from hs) bq
 |int i=>
  obtain⟨t,rfl⟩:=rx;cases y with
  |bR=>cases ry;exact PySem.EqNone.ne_int_none (bK I q (by simp))
  |int j=>obtain⟨t',rfl⟩:=ry;exact ne_int (bK I q (congrArg not BZ))
  |str j=>obtain⟨t',rfl⟩:=ry;exact PySem.EqMixed.ne_int_str (bK I q (by simp))
  |_=>exact absurd (show false=true from hs) bq
 |str i=>
  obtain⟨t,rfl⟩:=rx;cases y with
  |bR=>cases ry;exact PySem.EqNone.ne_str_none (bK I q (by simp))
  |bl j=>cases ry;exact PySem.EqMixed.ne_str_bool (bK I q (by simp))
  |int j=>obtain⟨t',rfl⟩:=ry;exact PySem.EqMixed.ne_str_int (bK I q (by simp))
  |str j=>obtain⟨t',rfl⟩:=ry;exact ne_str (bK I q (congrArg not B0))
  |_=>exact absurd (show false=true from hs) bq
 |E5 i=>
  obtain⟨t,rfl⟩:=rx;cases y with
  |E5 j=>obtain⟨t',rfl⟩:=ry;exact PySem.W.ne_bytes (bK I q (congrArg not B1))
  |_=>exact absurd (show false=true from hs) bq
 |_=>cases y <;> exact absurd (show false=true from hs) bq
theorem r0:lX X (compareOp .Lt) (JK fun i j=>.bl (decide (i<j))):=Ob fun _ _ _ _ _ _ _ q=>lt_int q
theorem FP:lX X (compareOp .LtE) (JK fun i j=>.bl (decide (i<=j))):=Ob fun _ _ _ _ _ _ _ q=>le_int q
theorem xG:lX X (compareOp .Gt) (JK fun i j=>.bl (decide (j<i))):=Ob fun _ _ _ _ _ _ _ q=>gt_int q
theorem jM:lX X (compareOp .Is) (fun x y H Q=>y=.bR/\Q (.bl (decide (x=.bR))) H):=by
 intro ae s σ H x y v u Q I rx ry h;obtain⟨rfl,q⟩:=h;cases ry;refine is_none_gen (bK I q ?_);cases x <;> first
  |(cases rx;rfl)
  |(obtain⟨t,rfl⟩:=rx;rfl)
theorem lE:lX X (compareOp .IsNot) (fun x y H Q=>y=.bR/\Q (.bl (!decide (x=.bR))) H):=by
 intro ae s σ H x y v u Q I rx ry h;obtain⟨rfl,q⟩:=h;cases ry;refine isnot_none_gen (bK I q ?_);cases x <;> first
  |(cases rx;rfl)
  |(obtain⟨t,rfl⟩:=rx;rfl)
theorem aQ(b:Expr)(h:op≠.In:=by decide)(h2:op≠.NotIn:=by decide):behindInMarks op b=false:=by
 have e1:(op==CmpOp.In)=false:=by cases op <;> first|rfl|exact absurd rfl h
 have e2:(op==CmpOp.NotIn)=false:=by cases op <;> first|rfl|exact absurd rfl h2
 cases b <;> simp[behindInMarks,e1,e2]
theorem ge(ho:lX X (compareOp op) r)(ha:PE X a ta)(hb:PE X b tb)(hm:behindInMarks op b=false):PE X (.Compare a [op] [b] pos) (oy r ta tb):=by
 intro ae s σ H Q I h;exact wpAny_Compare1 (Oa ha hb I h fun v u s2 x y H2 I2 rx ry q=>ho ae s2 σ H2 x y v u Q I2 rx ry q) hm
def kO(t:TE):TT:=fun σ H Q=>t σ H fun x H'=>∃k,x=.bl k/\Q k H'
theorem aJ(ho:lX X (compareOp op) r)(ha:PE X a ta)(hb:PE X b tb)(hm:behindInMarks op b=false):PT X (.Compare a [op] [b] pos) (kO (oy r ta tb)):=by
 intro ae s σ H Q I h;refine wpAny_isTrue_Compare1 (cy (ha ae s σ H _ I h) fun v s1 ⟨x,H1,I1,r1,q1⟩=>cy (hb ae s1 σ H1 _ I1 q1) fun u s2 ⟨y,H2,I2,r2,q2⟩=>
  cy (ho ae s2 σ H2 x y v u _ I2 r1 r2 q2) fun c s3 ⟨z,H3,I3,r3,k,e,q3⟩=>?_) hm
 subst e;cases r3;exact mq ⟨H3,I3,q3⟩
def FQ(r r':R2)(ta tb tc:TE):TE:=fun σ H Q=>ta σ H fun x H1=>tb σ H1 fun y H2=>r x y H2 fun z H3=>∃k,z=.bl k/\
 (if k=true then tc σ H3 fun w' H4=>r' y w' H4 Q else Q (.bl false) H3)
theorem FS(ho:lX X (compareOp op) r)(Af:lX X (compareOp Rc) r')(ha:PE X a ta)(hb:PE X b tb)(hc:PE X c tc)(hm:lastMarks [op,Rc] [b,c]=false:=by with_unfolding_all rfl):PE X (.Compare a [op,Rc] [b,c] pos) (FQ r r' ta tb tc):=by
 intro ae s σ H Q I h;refine Compare_chain (cy (ha ae s σ H _ I h) fun v s1 ⟨x,H1,I1,r1,q1⟩=>chain_link (cy (hb ae s1 σ H1 _ I1 q1) fun u s2 ⟨y,H2,I2,r2,q2⟩=>
  cy (ho ae s2 σ H2 x y v u _ I2 r1 r2 q2) fun d s3 ⟨z,H3,I3,r3,k,e,q3⟩=>?_)) hm
 subst e;cases r3;refine mq ?_;cases k with
 |false=>exact ite_ff ⟨.bl false,H3,I3,rfl,q3⟩
 |true=>exact ite_tt (chain_last (cy (hc ae s3 σ H3 _ I3 q3) fun w' s4 ⟨z',H4,I4,r4,q4⟩=>Af ae s4 σ H4 y z' u w' Q I4 r2 r4 q4))
theorem FU{op Rc:CmpOp}{r r':R2}(ho:lX X (compareOp op) r)(Af:lX X (compareOp Rc) r')(ha:PE X a ta)(hb:PE X b tb)(hc:PE X c tc)(hm:lastMarks [op,Rc] [b,c]=false:=by with_unfolding_all rfl):PT X (.Compare a [op,Rc] [b,c] pos) (kO (FQ r r' ta tb tc)):=by
 intro ae s σ H Q I h;refine isTrue_chain (cy (ha ae s σ H _ I h) fun v s1 ⟨x,H1,I1,r1,q1⟩=>test_link (cy (hb ae s1 σ H1 _ I1 q1) fun u s2 ⟨y,H2,I2,r2,q2⟩=>
  cy (ho ae s2 σ H2 x y v u _ I2 r1 r2 q2) fun d s3 ⟨z,H3,I3,r3,k,e,q3⟩=>?_)) hm
 subst e;cases r3;refine mq ?_;cases k with
 |false=>
  obtain⟨k',e',q'⟩:=q3;cases e';exact ite_ff ⟨H3,I3,q'⟩
 |true=>
  refine ite_tt (test_last (cy (hc ae s3 σ H3 _ I3 q3) fun w' s4 ⟨z',H4,I4,r4,q4⟩=>cy (Af ae s4 σ H4 y z' u w' _ I4 r2 r4 q4) fun d' s5 ⟨z2,H5,I5,r5,k2,e2,q5⟩=>?_));subst e2;cases r5;exact mq ⟨H5,I5,q5⟩
theorem r6:(sizeLine:Nat)<2 ^ 63:=by rw[kG];decide
theorem B3(r:aZ [x] us):∃u,us=[u]/\bC x u:=by
 cases r with
 |cons r1 r2=>cases r2;exact⟨_,rfl,r1⟩
theorem FV(r:aZ [x,y] us):∃u w',us=[u,w']/\bC x u/\bC y w':=by
 cases r with
 |cons r1 r2=>
  cases r2 with
  |cons r3 r4=>cases r4;exact⟨_,_,rfl,r1,r3⟩
theorem FW:fm X (.builtin "abs") (fun xs H Q=>∃i,xs=[.int i]/\Q (.int (if i<0 then -i else i)) H):=by
 intro ae s σ H xs us Q I r h;obtain⟨i,rfl,q⟩:=h;obtain⟨u,rfl,t,rfl⟩:=B3 r;exact call_abs_int fun u tk=>⟨.int (if i<0 then -i else i),H,I.tok _,⟨_,rfl⟩,q⟩
theorem uQ(hc:X.calm=true):fm X (.builtin "max") (fun xs H Q=>∃i j,xs=[.int i,.int j]/\Q (.int (if j > i then j else i)) H):=by
 intro ae s σ H xs us Q I r h;obtain⟨i,j,rfl,q⟩:=h;obtain⟨u,w',rfl,⟨t,rfl⟩,⟨t',rfl⟩⟩:=FV r;refine max_two_ints (I.ok.hd hc) fun h' tk k=>⟨_,H,I.kept k,?_,q⟩
 by_cases hj:j > i
 .rw[ak hj,ak hj];exact⟨_,rfl⟩
 .rw[aq hj,aq hj];exact⟨_,rfl⟩
theorem uR(hc:X.calm=true):fm X (.builtin "min") (fun xs H Q=>∃i j,xs=[.int i,.int j]/\Q (.int (if j<i then j else i)) H):=by
 intro ae s σ H xs us Q I r h;obtain⟨i,j,rfl,q⟩:=h;obtain⟨u,w',rfl,⟨t,rfl⟩,⟨t',rfl⟩⟩:=FV r;refine min_two_ints (I.ok.hd hc) fun h' tk k=>⟨_,H,I.kept k,?_,q⟩
 by_cases hj:j<i
 .rw[ak hj,ak hj];exact⟨_,rfl⟩
 .rw[aq hj,aq hj];exact⟨_,rfl⟩
end
structure Ak(h:Heap)(x dx C:Addr)(mA:Str->Option Value):Prop where
 obj:h.get? x=some (PySem.W.instObj C dx)
 ns:h.Ns1 dx mA
 ne:dx≠x
theorem DD{h:Heap}{dx:Addr}{mA:Str->Option Value}(n:h.Ns1 dx mA):∃od,h.get? dx=some od/\∀name,PySem.W.lookIn name od=some (mA name):=by
 obtain⟨o,es,ep,ho,hd,hk,_,hm⟩:=n;refine⟨o,ho,fun name=>?_⟩;have e:=hm name;unfold nsFind findBy at e;rw[<-Array.find?_toList] at e;unfold PySem.W.lookIn;rw[hd];dsimp only;split
 .rename_i y q;rw[q] at e;exact congrArg some e
 .rename_i q;rw[q] at e;have a:es.toList.any (·.refKey)=false:=by
   rw[zL];intro y hy;obtain⟨z,t,nP⟩:=hk y (Array.mem_toList_iff.mp hy);simp[DictEntry.refKey,nP]
  have a':¬ es.toList.any (·.refKey)=true:=by rw[a];exact bq
  rw[aq a'];exact congrArg some e
theorem Ak.look(I:Ak h x dx C mA):∃od,PySem.W.InstAt h x (PySem.W.instObj C dx) C (some od)/\∀name,PySem.W.lookIn name od=some (mA name):=
 let ⟨od,ho,hl⟩:=DD I.ns
 ⟨od,⟨I.obj,rfl,rfl,ho⟩,hl⟩
section
variable {prog:Program} {w:World} {A:Around} {E:Value->Shared->Prop} {s:Shared} {K:PySem.W.Frag} {x dx C f:Addr} {mA:Str->Option Value} {name:Str} {v:Value}
theorem Ka(X:K.In s.heap)(I:Ak s.heap x dx C mA)(hg:PySem.W.plainGet K C name=true)(hh:PySem.W.hasDictIn K C=true)(ha:PySem.W.findIn K (.ref C) name=some none)(hv:mA name=some v)(Oe:PySem.W.handedIn v=true)(h:Q v { s with toks:=s.toks+1 }):
  wpAny (model prog w) A (getAttr (.ref x) name Kb) Q E s:=by
 obtain⟨od,J,hl⟩:=I.look;exact PySem.W.get_value X J (zw hg).1 (PySem.W.findObj_own hh ha rfl (by rw[hl,hv])) Oe h
theorem FX(X:K.In s.heap)(I:Ak s.heap x dx C mA)(hg:PySem.W.plainGet K C name=true)(hf:PySem.W.findIn K (.ref C) name=some (some (.ref f)))(ht:PySem.W.isFn K (.ref f)=true)(hv:mA name=none)(h:Q (.ref f,[.ref x]) s):
  wpAny (model prog w) A (getMethod (.ref x) name pl) Q E s:=by
 obtain⟨od,J,hl⟩:=I.look;exact PySem.W.method_fn X J (zw hg).1 (zw hg).2 hf (et.mp ht) (by show (PySem.W.lookIn name od).map (·.isSome)=some false;rw[hl,hv];rfl) h
theorem Kc(X:K.In s.heap)(I:Ak s.heap x dx C mA)(hs:PySem.W.findIn K (.ref C) "__setattr__"=some (some (.builtin "object.__setattr__")))(hp:PySem.W.plainOver K C=true)(ht:PySem.W.takerIn K C name=some none)(hh:PySem.W.hasDictIn K C=true)(hw:PySem.Within mA ns)(hsz:ns.length<=sizeLine)(h:∀h',Ak h' x dx C (fun y=>if y=name then some v else mA y)->Heap.SameBut dx s.heap h'->Q () { s with heap:=h',toks:=s.toks+2 }):
  wpAny (model prog w) A (setAttr (.ref x) name v) Q E s:=by
 obtain⟨od,J,hl⟩:=I.look;refine PySem.W.set_plain X J hs (PySem.W.osa_open (s:={ s with toks:=s.toks+1 }) (r:=none) X J hp ht fun b=>?_);obtain⟨cd,hc,RP⟩:=PySem.W.any_some hh;have hx:s.heap.get? x=some ⟨.ref C,some dx,.plain,#[]⟩:=I.obj;refine ai (wpAny_pure (ai (ai (wpAny_loadPart hx (ai (PySem.W.Looks.here (s:={ s with toks:=s.toks+1 }) (PySem.W.looks_clsIn X hc) ?_))))));rw[RP];refine wpAny_pure (a:=some dx) (ai (wpAny_pure (ai ?_)));refine wpAny_nsSet1 (s:={ s with toks:=s.toks+1 }) I.ns fun h' Re uo=>?_;obtain⟨oD,esD,epD,hoD,Sb,Kd⟩:=Re.count (PySem.Within.cons name v hw);refine ai (wpAny_lookBehind hoD (by rw[Sb];exact pastItsLine_dict (bj Kd (by rw[cQ];lia))) ?_);exact wpAny_pure (h _ ⟨(uo.2 _ (ck I.ne)).trans I.obj,Re,I.ne⟩ uo)
theorem FY(X:K.In s.heap)(hm:PySem.W.makesIn K C=true)(hi:PySem.W.findIn K (.ref C) "__init__"=some (some (.ref f)))(hf:PySem.W.typeIn K (.ref f)=some (.type "function"))(h:codeAny (model prog w) (A.under (.builtin "type.__call__" ⟨.ref C::vs,kw⟩)) (.call (.ref f) ⟨.ref (s.heap.objs.size+1)::vs,kw⟩) (PySem.W.InitBack (s.heap.objs.size+1) R)
   { s with heap:=(s.heap.push PySem.W.emptyDict).push (PySem.W.instObj C s.heap.objs.size) }):
  codeAny (model prog w) A (.call (.ref C) ⟨vs,kw⟩) R s:=by
 obtain⟨hh,g,d,t,os⟩:=s;exact PySem.W.make_core (PySem.W.makes_of X hm) (PySem.W.looks_findIn X hi) (fun self=>PySem.W.bind_fn X self hf) (.inl rfl) h
end
def dw(f:Str)(v:V):List (Str×V)->List (Str×V)
 |[]=>[(f,v)]
 |(g,x)::r=>if g=f then (g,v)::r else (g,x)::dw f v r
theorem a7(f g:Str)(v:V):∀fs:List (Str×V),(dw f v fs).lookup g=if g=f then some v else fs.lookup g
 |[]=>by
  show List.lookup g [(f,v)]=_;by_cases h:g=f
  .have hb:(g==f)=true:=et.mpr h;simp only[List.lookup,hb,ak h]
  .have hb:(g==f)=false:=mh.mpr h;simp only[List.lookup,hb,aq h]
 |(k,x)::r=>by
  have ih:=a7 f g v r;rw[show dw f v ((k,x)::r)=(if k=f then (k,v)::r else (k,x)::dw f v r) from rfl];by_cases hk:k=f
  .rw[ak hk];by_cases h:g=k
   .have hb:(g==k)=true:=et.mpr h;simp only[List.lookup,hb,ak (h.trans hk)]
   .have hb:(g==k)=false:=mh.mpr h;simp only[List.lookup,hb,aq (fun e:g=f=>h (e.trans hk.symm))]
  .rw[aq hk];by_cases h:g=k
   .have hb:(g==k)=true:=et.mpr h;simp only[List.lookup,hb,aq (fun e:g=f=>hk (h.symm.trans e))]
   .have hb:(g==k)=false:=mh.mpr h;simp only[List.lookup,hb];exact ih
theorem pq(f:Str)(v:V):∀fs:List (Str×V),f∈(dw f v fs).map (·.1)/\∀g,g∈fs.map (·.1)->g∈(dw f v fs).map (·.1)
 |[]=>⟨by simp[dw],fun g h=>by simp at h⟩
 |(k,x)::r=>by
  obtain⟨i1,i2⟩:=pq f v r;rw[show dw f v ((k,x)::r)=(if k=f then (k,v)::r else (k,x)::dw f v r) from rfl];by_cases hk:k=f
  .rw[ak hk];subst hk;exact⟨by simp,fun g h=>by simpa using h⟩
  .rw[aq hk];refine⟨?_,fun g h=>?_⟩
   .rw[e_];exact bU _ i1
   .rw[e_] at h |-;rcases aV.mp h with e|e
    .exact aV.mpr (.inl e)
    .exact bU _ (i2 g e)
theorem eD(f:Str)(v:V):∀fs:List (Str×V),(dw f v fs).length<=fs.length+1
 |[]=>by simp[dw]
 |(k,x)::r=>by
  have ih:=eD f v r;rw[show dw f v ((k,x)::r)=(if k=f then (k,v)::r else (k,x)::dw f v r) from rfl];by_cases hk:k=f
  .rw[ak hk,cQ,cQ];lia
  .rw[aq hk,cQ,cQ];lia
theorem nI.some_of(r:nI (some v) o):∃u,o=some u/\bC v u:=by
 cases o with
 |none=>exact(show False from r).elim
 |some u=>exact⟨u,rfl,r⟩
theorem nI.none_of(r:nI none o):o=none:=by
 cases o with
 |none=>rfl
 |some u=>exact(show False from r).elim
theorem DE(r:bC v u):PySem.W.handedIn u=true:=by
 cases v with
 |bR=>cases (show u=Value.none from r);rfl
 |bl b=>cases (show u=Value.bool b from r);rfl
 |int i=>obtain⟨t,e⟩:=(show ∃t,u=Value.int i t from r);cases e;rfl
 |str x=>obtain⟨t,e⟩:=(show ∃t,u=Value.str x t from r);cases e;rfl
 |E5 b=>obtain⟨t,e⟩:=(show ∃t,u=Value.bytes b t from r);cases e;rfl
 |NZ b=>obtain⟨t,e⟩:=(show ∃t,u=Value.float b t from r);cases e;rfl
 |ref a=>cases (show u=Value.ref a from r);rfl
 |ty n=>cases (show u=Value.type n from r);rfl
section
variable {P:Program} {w:World} {H H':Hp} {h h':Heap} {a C dx:Addr} {fs fs':List (Str×V)}
theorem qM(cf:kI P w H h)(e:H a=some (.ins C dx fs)):∃mA,Ak h a dx C mA/\(∀f,nI (fs.lookup f) (mA f))/\PySem.Within mA (fs.map (·.1))/\fs.length<=1000/\H dx=some (.own a):=by
 obtain⟨d,z,ne,ob,mA,n,r,q⟩:=(show ce P w H h a (.ins C dx fs) from cf a _ e)
 exact⟨mA,⟨ob,n,ne⟩,r,q,z,d⟩
end
structure E7(K:PySem.W.Frag)(C:Addr):Prop where
 pg:PySem.W.plainGet K C Str.empty=true
 hd:PySem.W.hasDictIn K C=true
 po:PySem.W.plainOver K C=true
 sa:PySem.W.findIn K (.ref C) "__setattr__"=some (some (.builtin "object.__setattr__"))
theorem E7.get{K:PySem.W.Frag}{C:Addr}(c:E7 K C)(f:Str):PySem.W.plainGet K C f=true:=c.pg
def gD(K:PySem.W.Frag)(C:Addr)(f:Str):Prop:=PySem.W.findIn K (.ref C) f=some none
theorem gD.Sc{K:PySem.W.Frag}{C:Addr}{f:Str}(n:gD K C f):PySem.W.takerIn K C f=some none:=by
 unfold PySem.W.takerIn;rw[show PySem.W.findIn K (.ref C) f=some none from n];rfl
structure Ke(K:PySem.W.Frag)(C:Addr)(m:Str)(f:Addr):Prop where
 at_:PySem.W.findIn K (.ref C) m=some (some (.ref f))
 fn:PySem.W.isFn K (.ref f)=true
 kp:PySem.W.keepIn K (.ref f)=true
section
variable {X:Cx} {ae:List (Addr×Obj)} {σ:St} {H:Hp} {s:Shared} {a C dx:Addr} {fs:List (Str×V)} {f:Str} {v:V} {A:Around} {E:Value->Shared->Prop}
theorem Al(I:aG X ae σ H s)(e:H a=some (.ins C dx fs))(c:E7 X.K C)(n:gD X.K C f)(l:fs.lookup f=some v)(h:∀u s',aG X ae σ H s'->bC v u->Q u s'):wpAny (model X.prog X.w) A (getAttr (.ref a) f b) Q E s:=by
 obtain⟨mA,O,r,_,_,_⟩:=qM I.cf e;obtain⟨u,hu,ru⟩:=nI.some_of (v:=v) (o:=mA f) (by rw[<-l];exact r f);exact Ka I.pW O (c.get f) c.hd n hu (DE ru) (h u _ (I.tok _) ru)
theorem r_(I:aG X ae σ H s)(e:H a=some (.ins C dx fs))(c:E7 X.K C)(k:Ke X.K C m g)(l:fs.lookup m=none)(h:Q (.ref g,[.ref a]) s):wpAny (model X.prog X.w) A (getMethod (.ref a) m pl) Q E s:=by
 obtain⟨mA,O,r,_,_,_⟩:=qM I.cf e;have hn:mA m=none:=nI.none_of (by rw[<-l];exact r m);exact FX I.pW O (c.get m) k.at_ k.fn hn h
theorem Am(I:aG X ae σ H s)(e:H a=some (.ins C dx fs))(c:E7 X.K C)(n:gD X.K C f)(hl:fs.length<1000)(ry:bC y u)(h:∀s',aG X ae σ (upd H a (.ins C dx (dw f y fs))) s'->Q () s'):wpAny (model X.prog X.w) A (setAttr (.ref a) f u) Q E s:=by
 obtain⟨mA,O,r,wi,_,ho⟩:=qM I.cf e;have hz:(fs.map (·.1)).length<=sizeLine:=by rw[aP,kG];lia
 refine Kc I.pW O c.sa c.po n.Sc c.hd wi hz fun h' O' sb=>h _ ?_;have hd:∃o,h'.get? dx=some o:=let ⟨o,_,_,e',_⟩:=O'.ns;⟨o,e'⟩;refine I.write (x:=a) (e:=dx) (by rw[e];exact True.intro) (.inr ho) (fun b q hb z=>(sb.2 b hb).trans z) hd ?_;refine⟨by rw[al O.ne];exact ho,?_,O.ne,O'.obj,_,O'.ns,fun g=>?_,fun g hg=>?_⟩
 .have:=eD f y fs;lia
 .show nI ((dw f y fs).lookup g) (if g=f then some u else mA g);rw[a7];by_cases q:g=f
  .rw[ak q,ak q];exact ry
  .rw[aq q,aq q];exact r g
 .by_cases q:g=f
  .rw[q];exact(pq f y fs).1
  .refine(pq f y fs).2 g (wi g fun z=>hg ?_);show (if g=f then some u else mA g)=none;rw[aq q];exact z
theorem aG.made(I:aG X ae σ H s):aG X ae σ (upd (upd H s.heap.objs.size (.own (s.heap.objs.size+1))) (s.heap.objs.size+1) (.ins C s.heap.objs.size []))
  { s with heap:=(s.heap.push PySem.W.emptyDict).push (PySem.W.instObj C s.heap.objs.size) }:=by
 have e1:(s.heap.push PySem.W.emptyDict).get? s.heap.objs.size=some PySem.W.emptyDict:=bz s.heap rfl;have e2:((s.heap.push PySem.W.emptyDict).push (PySem.W.instObj C s.heap.objs.size)).get? (s.heap.objs.size+1)=some (PySem.W.instObj C s.heap.objs.size):=by
  have:=bz (s.heap.push PySem.W.emptyDict) (o:=PySem.W.instObj C s.heap.objs.size) rfl;rwa [fh] at this
 have e3:(s.heap.push PySem.W.emptyDict).Ns s.heap.objs.size (fun _=>none):=⟨PySem.W.emptyDict,#[],_,e1,rfl,(fun e he=>absurd he (by simp)),fun _=>rfl⟩
 have I1:=I.laid (a:=s.heap.objs.size) (o:=.own (s.heap.objs.size+1)) (h':=s.heap.push PySem.W.emptyDict) (t':=s.toks) (fun b u q=>a8 _ q) (aX _) ⟨_,e1⟩;refine I1.laid (a:=s.heap.objs.size+1) (o:=.ins C s.heap.objs.size []) (t':=s.toks) (fun b u q=>a8 _ q) (oW (fh _ _)) ?_;have ne:s.heap.objs.size≠s.heap.objs.size+1:=aY (kq _);refine⟨by rw[al ne,ag],cr _,ne,e2,fun _=>none,(Heap.Ns1.of_empty e3).at fun o q=>a8 _ q,fun _=>True.intro,fun y hy=>absurd rfl hy⟩
theorem Kg(hb:attributeBase e f env (eval e env)=eval e env)(h:wpAny (model prog w) A (eval e env) (fun o s₁=>wpAny (model prog w) A (getAttr o f true) Q E s₁) E s):wpAny (model prog w) A (eval (.Attribute e f pos) env) Q E s:=
 Attribute_any_ h (by rw[arm_eval_Attribute,hb])
end
def Se(K:PySem.W.Frag)(ta:TE)(f:Str):TE:=fun σ H Q=>ta σ H fun x H1=>∃a C dx fs v,x=.ref a/\H1 a=some (.ins C dx fs)/\E7 K C/\gD K C f/\fs.lookup f=some v/\Q v H1
def Xf(K:PySem.W.Frag)(ta tv:TE)(f:Str):TS:=fun D σ H=>tv σ H fun y H1=>ta σ H1 fun x H2=>∃a C dx fs,x=.ref a/\H2 a=some (.ins C dx fs)/\E7 K C/\gD K C f/\fs.length<1000/\
 D.nx σ (upd H2 a (.ins C dx (dw f y fs)))
section
variable {X:Cx} {o e value:Expr} {f:Str} {pos Dz xE:Pos} {ta tv:TE}
theorem gG(he:PE X e ta)(hb:attributeBase e f X.env (eval e X.env)=eval e X.env):PE X (.Attribute e f pos) (Se X.K ta f):=by
 intro ae s σ H Q I h;refine Kg hb (cy (he ae s σ H _ I h) fun u s1 ⟨x,H1,I1,rx,a,C,dx,fs,v,ex,ea,c,n,l,q⟩=>?_);subst ex;obtain rfl:u=Value.ref a:=rx;exact Al I1 ea c n l fun u' s2 I2 ru=>⟨v,H1,I2,ru,q⟩
theorem pz(ha:PE X o ta)(hv:PE X value tv)(hs:swapsWith value (some (.Attribute o f Dz)) pos.line X.env=pure false):PS X (.Assign [.Attribute o f Dz] value pos) (Xf X.K ta tv f):=by
 intro ae s σ H D I h;refine plainObj_wpAny_Assign_Attribute (cy (hv ae s σ H _ I h) fun u s1 ⟨y,H1,I1,ry,q⟩=>cy (ha ae s1 σ H1 _ I1 q) fun ov s2 ⟨x,H2,I2,rx,a,C,dx,fs,ex,ea,c,n,l,q2⟩=>?_) hs;subst ex;obtain rfl:ov=Value.ref a:=rx;exact Am I2 ea c n l ry fun s3 I3=>⟨σ,_,I3,q2⟩
end
section
variable {X:Cx} {ae:List (Addr×Obj)} {σ:St} {H:Hp} {s:Shared} {A:Around} {E:Value->Shared->Prop} {Q:Value->Shared->Prop} {c:Value} {b:Bool}
inductive pB (K:PySem.W.Frag) (H:Hp):V->Value->Prop where
 |bR:pB K H .bR (.type "NoneType")
 |bl (x:Bool):pB K H (.bl x) (.type "bool")
 |int (i:Int):pB K H (.int i) (.type "int")
 |str (x:Str):pB K H (.str x) (.type "str")
 |NZ (x:UInt64):pB K H (.NZ x) (.type "float")
 |lst {a:Addr} {xs:List V} (e:H a=some (.lst xs)):pB K H (.ref a) (.type "list")
 |mC {a:Addr} {o:Obj} {xs:List V} (e:H a=some (.mC o (.lst xs))):pB K H (.ref a) (.type "list")
 |tup {a:Addr} {xs:List V} (e:H a=some (.tup xs)):pB K H (.ref a) (.type "tuple")
 |dK {a:Addr} {kvs:List (fR×V)} (e:H a=some (.dK kvs)):pB K H (.ref a) (.type "dict")
 |dT {a:Addr} {kvs:List (List fR×V)} (e:H a=some (.dT kvs)):pB K H (.ref a) (.type "dict")
 |ins {a C dx:Addr} {fs:List (Str×V)} (e:H a=some (.ins C dx fs)) (cl:E7 K C) (ha:PySem.W.findIn K (.ref C) "__class__"=some (some (.builtin "object.__class__")))
   (hn:PySem.W.specialIn K (.builtin "object.__class__") "__get__"=some (some (.builtin "getset_descriptor.__get__"))) (Xg:PySem.W.takesIn K (.builtin "object.__class__")=some true)
   (hm:PySem.W.mroIn K C (.type "object")=some true):pB K H (.ref a) (.ref C)
theorem DG(I:aG X ae σ H s)(rx:bC x u)(ty:pB X.K H x t)(e:PySem.W.kitOne X.K t c=some b)(h:∀tk,Q (.bool b) { s with toks:=tk }):
  wpAny (model X.prog X.w) A (call (.builtin "isinstance") [u,c]) Q E s:=by
 cases ty with
 |bR=>cases (show u=Value.none from rx);exact j7 PySem.W.kitx_none I.pW True.intro e (fun z=>nomatch z) h
 |bl y=>cases (show u=Value.bool y from rx);exact j7 PySem.W.kitx_bool I.pW True.intro e (fun z=>nomatch z) h
 |int i=>obtain⟨t,q⟩:=(show ∃t,u=Value.int i t from rx);cases q;exact j7 PySem.W.kitx_int I.pW True.intro e (fun z=>nomatch z) h
 |str y=>obtain⟨t,q⟩:=(show ∃t,u=Value.str y t from rx);cases q;exact j7 PySem.W.kitx_str I.pW True.intro e (fun z=>nomatch z) h
 |NZ y=>obtain⟨t,q⟩:=(show ∃t,u=Value.float y t from rx);cases q;exact j7 PySem.W.kitx_float I.pW True.intro e (fun z=>nomatch z) h
 |@lst a xs ea=>
  cases (show u=Value.ref a from rx);obtain⟨_,_,n,_,h1⟩:=(show ce X.prog X.w H s.heap a (.lst xs) from I.cf a _ ea)
  exact j7 PySem.W.kitx_list I.pW ⟨_,h1,rfl⟩ e (fun z=>nomatch z) h
 |@mC a ob xs ea=>
  cases (show u=Value.ref a from rx);obtain⟨_,_,_,n,_,h1⟩:=(show ce X.prog X.w H s.heap a (.mC ob (.lst xs)) from I.cf a _ ea)
  exact j7 PySem.W.kitx_list I.pW ⟨_,h1,rfl⟩ e (fun z=>nomatch z) h
 |@tup a xs ea=>
  cases (show u=Value.ref a from rx);obtain⟨_,_,_,p⟩:=(show ce X.prog X.w H s.heap a (.tup xs) from I.cf a _ ea)
  obtain⟨o,h1,h2,_⟩:=p;exact j7 PySem.W.kitx_tuple I.pW ⟨o,h1,h2⟩ e (fun z=>nomatch z) h
 |@dK a kvs ea=>
  cases (show u=Value.ref a from rx);obtain⟨_,_,vs,_,p⟩:=(show ce X.prog X.w H s.heap a (.dK kvs) from I.cf a _ ea)
  obtain⟨o,es,ep,h1,h2,_⟩:=p;exact j7 PySem.W.kitx_dict I.pW ⟨o,h1,h2.1⟩ e (fun z=>nomatch z) h
 |@dT a kvs ea=>
  cases (show u=Value.ref a from rx);obtain⟨_,_,xs,_,o,es,ep,h1,h2,_⟩:=(show ce X.prog X.w H s.heap a (.dT kvs) from I.cf a _ ea)
  exact j7 PySem.W.kitx_dict I.pW ⟨o,h1,h2.1⟩ e (fun z=>nomatch z) h
 |@ins a C dx fs ea cl ha hn Xg hm=>
  cases (show u=Value.ref a from rx);obtain⟨mA,O,_⟩:=qM I.cf ea;obtain⟨od,J,_⟩:=O.look;exact j7 (PySem.W.kitx_own (cl.get _) cl.hd ha hn Xg hm) I.pW J e (fun z=>nomatch z) h
end
structure bL(k:Nat)(A:Around):Prop where
 hd:A.handled=none
 dp:A.depth+3*k+5<recursionLimit
 un:A.units+16*k+200<cLine
 gd:A.guards=some []
theorem bL.mono(r:bL k A)(h:j<=k):bL j A:=⟨r.hd,by have:=r.dp;lia,by have:=r.un;lia,r.gd⟩
theorem bL.deeper(r:bL (k+1) A)(env:Env):bL k (A.deeper env):=
 ⟨r.hd,by have:=r.dp;show A.depth+1+3*k+5<_;lia,by have:=r.un;show A.units+3+16*k+200<_;lia,r.gd⟩
theorem An{A:Around}{C:Addr}{us:List Value}{kw:List (Str×Value)}:(A.under (.builtin "type.__call__" ⟨.ref C::us,kw⟩)).depth=A.depth+1:=by
 first|rfl|simp[Around.under,Code.weight,Code.isCreation,Code.isGuard,Code.isCaller,Code.frames,Code.isFrame,guardIds]
theorem Ao{A:Around}{C:Addr}{us:List Value}{kw:List (Str×Value)}:(A.under (.builtin "type.__call__" ⟨.ref C::us,kw⟩)).units=A.units+1:=by
 first|rfl|simp[Around.under,Code.cUnits,Code.frames,Code.isFrame]
theorem bL.make(r:bL (k+1) A)(C:Addr)(us:List Value)(kw:List (Str×Value)):bL k (A.under (.builtin "type.__call__" ⟨.ref C::us,kw⟩)):=
 ⟨r.hd,by have:=r.dp;rw[An];lia,by have:=r.un;rw[Ao];lia,r.gd⟩
theorem bL.depth(r:bL k A):A.depth<recursionLimit:=by have:=r.dp;lia
theorem bL.u(r:bL k A)(h:n<=200:=by decide):A.units+n<cLine:=by have:=r.un;lia
def mL:TA:=fun _ H Q=>Q [] H
def eE(ta:TE)(tr:TA):TA:=fun σ H Q=>ta σ H fun x H1=>tr σ H1 fun xs H2=>Q (x::xs) H2
section
variable {X:Cx} {e:Expr} {es:List Expr} {te:TE} {t:TA} {pos:Pos}
theorem af:PA X [] mL:=fun _ _ _ _ H Q I h=>Calls.spliced_nil ⟨[],H,I,.nil,h⟩
theorem aa(ha:PE X e te)(hr:PA X es t)(hs:starEach (e::es) X.env=(false,eval e X.env)::starEach es X.env:=by rfl):PA X (e::es) (eE te t):=by
 intro pos ae s σ H Q I h;rw[hs];show wpAny _ _ (spliced ((false,eval e X.env)::backTo pos (starEach es X.env))) _ _ s;refine Calls.spliced_cons (cy (ha ae s σ H _ I h) fun u s1 ⟨x,H1,I1,r1,q1⟩=>?_);exact cy (hr pos ae s1 σ H1 _ I1 q1) fun us s2 ⟨xs,H2,I2,r2,q2⟩=>⟨x::xs,H2,I2,.cons r1 r2,q2⟩
def Of(t:TA):TE:=fun σ H Q=>t σ H fun xs H1=>xs.length<=sizeLine/\∀p,H1 p=none->Q (.ref p) (upd H1 p (.tup xs))
def Xh(t:TA):TE:=fun σ H Q=>t σ H fun xs H1=>xs.length<=sizeLine/\∀p,H1 p=none->Q (.ref p) (upd H1 p (.lst xs))
theorem fV{x1}(h:PA X es t):PE X (.Tuple es x1 pos) (Of t):=by
 intro ae s σ H Q I hq;refine wpAny_Tuple_spliced (cy (h pos ae s σ H _ I hq) fun us s1 ⟨xs,H1,I1,r,z,q⟩=>⟨by rw[<-r.length];exact z,?_⟩);have hf:H1 s1.heap.objs.size=none:=I1.cf.fresh (aX _);refine⟨.ref s1.heap.objs.size,upd H1 s1.heap.objs.size (.tup xs),I1.laid (t':=s1.toks) (fun b u e=>a8 _ e) (aX _) ?_,rfl,q _ hf⟩;exact⟨z,us,r,⟨_,bz _ rfl,rfl,_,rfl,rfl⟩⟩
theorem eF(h:PA X es t):PE X (.List es pos) (Xh t):=by
 intro ae s σ H Q I hq;refine wpAny_List_spliced (cy (h pos ae s σ H _ I hq) fun us s1 ⟨xs,H1,I1,r,z,q⟩=>⟨by rw[<-r.length];exact z,?_⟩);have hf:H1 s1.heap.objs.size=none:=I1.cf.fresh (aX _);refine⟨.ref s1.heap.objs.size,upd H1 s1.heap.objs.size (.lst xs),I1.laid (t':=s1.toks) (fun b u e=>a8 _ e) (aX _) ?_,rfl,q _ hf⟩;exact⟨z,us,0,r,bz _ rfl⟩
end
abbrev Sp:=List V->Hp->VK->XK->Prop
abbrev xw:=List Env->Hp->Shared->XK->Value->Shared->Prop
structure Ap(P:Program)(w:World)(K:PySem.W.Frag)(mg:Str->Option Value)(base:Heap)(A:Around)(outer:List Env)(s:Shared)(H:Hp):Prop where
 frames:A.frames=some outer
 mod:Mod K mg base
 bs:∀b o,base.get? b=some o->s.heap.get? b=some o/\H b=none
 JF:base.objs.size<=s.heap.objs.size
 nK:s.heap.FunFrames base outer
 J2:∀b∈o8 outer,H b=none
 cf:kI P w H s.heap
 bare:AllBare s.gens
def CE(outer:List Env)(P:Program)(w:World)(H:Hp)(s:Shared)(Q:VK)(u:Value)(s':Shared):Prop:=
 ∃v H',s'.os=s.os/\AllBare s'.gens/\Un (o8 outer) [] H H' s.heap s'.heap/\kI P w H' s'.heap/\bC v u/\Q v H'
def CR(CX:xw)(outer:List Env)(P:Program)(w:World)(H:Hp)(s:Shared)(Q:VK)(E:XK)(r:Result)(s':Shared):Prop:=
 match r with
 |.ok (.ret u)=>CE outer P w H s Q u s'
 |.ok _=>False
 |.error e=>CX outer H s E e s'
structure bi(P:Program)(w:World)(K:PySem.W.Frag)(mg:Str->Option Value)(base:Heap)(CX:xw)(k:Nat)(f:Addr)(fd:FuncData)(ps:List Str)(sp:Sp):Prop where
 len:∀vs H Q E,sp vs H Q E->vs.length=ps.length
 run:∀ (A:Around) (outer:List Env) (s:Shared) (H:Hp) (args:Args) (us:List Value) (vs:List V) (Q:VK) (E:XK),bL k A->Ap P w K mg base A outer s H->BindsTo s fd args (ps.zip us)->aZ vs us->sp vs H Q E->
  codeAny (model P w) A (.call (.ref f) args) (CR CX outer P w H s Q E) s
theorem Ap.make{P:Program}{w:World}{K:PySem.W.Frag}{mg:Str->Option Value}{base:Heap}{A:Around}{outer:List Env}{s:Shared}{H:Hp}(e:Ap P w K mg base A outer s H)(C:Addr)(us:List Value)(kw:List (Str×Value)):
  Ap P w K mg base (A.under (.builtin "type.__call__" ⟨.ref C::us,kw⟩)) outer s H:=⟨by first|exact e.frames|(simpa [Around.under,Code.envs,Code.isFrame,pushEnvs] using e.frames),e.mod,e.bs,e.JF,e.nK,e.J2,e.cf,e.bare⟩
section
variable {X:Cx} {ae:List (Addr×Obj)} {σ:St} {H:Hp} {s s':Shared}
theorem aG.Sf(I:aG X ae σ H s):Ap X.prog X.w X.K X.mg X.base X.A X.stack s H:=
 ⟨I.ok.frames,I.ok.mod,I.bs,bj I.ok.JF I.sz,I.stack,I.wg,I.cf,I.bare⟩
theorem aG.after(I:aG X ae σ H s)(h:CE X.stack X.prog X.w H s Q u s'):EP X ae σ Q u s':=by
 obtain⟨v,H',os,bare,un,cf,r,q⟩:=h;obtain⟨hh,g,d,t,os'⟩:=s';obtain rfl:os'=s.os:=os;exact⟨v,H',I.call (h':=hh) (g':=g) (d':=d) (t':=t) (ch:=[]) un cf bare (fun b z=>absurd z (by simp)),r,q⟩
end
def pY(sp:Sp)(qN:List V)(E:XK)(t:TA):TE:=fun σ H Q=>t σ H fun vs H1=>sp (vs++qN) H1 Q E
def B4(C:Addr)(m:Str)(sp:Sp)(qN:List V)(E:XK)(ta:TE)(t:TA):TE:=fun σ H Q=>ta σ H fun x H1=>∃a dx fs,x=.ref a/\H1 a=some (.ins C dx fs)/\fs.lookup m=none/\
 t σ H1 fun vs H2=>sp (x::(vs++qN)) H2 Q E
def Sg(C:Addr)(sp:Sp)(qN:List V)(E:XK)(t:TA):TE:=fun σ H Q=>t σ H fun vs H1=>∀x dx,H1 x=none->H1 dx=none->dx≠x->
 sp (.ref x::(vs++qN)) (upd (upd H1 dx (.own x)) x (.ins C dx [])) (fun v H2=>v=.bR/\Q (.ref x) H2) E
def jo(K:PySem.W.Frag)(fd:FuncData)(ps:List Str)(ds:List Value):Prop:=
 ∀ (s:Shared) (us:List Value),K.In s.heap->(us++ds).length=ps.length->BindsTo s fd ⟨us,[]⟩ (ps.zip (us++ds))
theorem jo.all{K:PySem.W.Frag}{fd:FuncData}{ps:List Str}(h:∀us:List Value,us.length=ps.length->bindArgs fd ⟨us,[]⟩=pure (ps.zip us)):jo K fd ps []:=fun s us _ hl=>by
 rw[rK] at hl |-;exact .of_eq (h us hl)
def i_(CX:xw)(X:Cx)(E:XK):Prop:=∀ (ae:List (Addr×Obj)) (σ:St) (H:Hp) (s:Shared) (e:Value) (s':Shared),aG X ae σ H s->CX X.stack H s E e s'->X.xe e s'
section
variable {X:Cx} {CX:xw} {k:Nat} {f C:Addr} {fd:FuncData} {ps:List Str} {sp:Sp} {qN:List V} {ds:List Value} {E:XK} {x m:Str} {p pos ql:Pos} {e o:Expr} {es:List Expr} {ta:TE} {t:TA}
theorem Aq(F:bi X.prog X.w X.K X.mg X.base CX k f fd ps sp)(hr:bL k X.A)(hb:jo X.K fd ps ds)(hd:aZ qN ds)(hx:i_ CX X E)(I:aG X ae σ H s)(r:aZ vs us)(h:sp (vs++qN) H Q E):wpAny (model X.prog X.w) X.A (call (.ref f) us) (EP X ae σ Q) X.xe s:=by
 have r2:aZ (vs++qN) (us++ds):=r.append hd;have hl:(us++ds).length=ps.length:=by rw[<-r2.length];exact F.len _ _ _ _ h
 refine rT (kD (F.run X.A X.stack s H ⟨us,[]⟩ (us++ds) (vs++qN) Q E hr I.Sf (hb s us I.pW hl) r2 h) fun r s' hq=>?_);cases r with
 |error e=>exact hx ae σ H s e s' I hq
 |ok fl=>
  cases fl with
  |ret u=>exact I.after hq
  |next=>exact False.elim hq
  |brk=>exact False.elim hq
  |cont=>exact False.elim hq
theorem Kh(F:bi X.prog X.w X.K X.mg X.base CX k f fd ps sp)(hr:bL k X.A)(hg:Gl X x)(hm:X.mg x=some (.ref f))(hk:PySem.W.keepIn X.K (.ref f)=true)(hb:jo X.K fd ps ds)(hd:aZ qN ds)(hx:i_ CX X E)(ha:PA X (e::es) t)(DH:(x==("__debug__":Str))=false:=by decide)(he:starEach (e::es) X.env=(false,eval e X.env)::starEach es X.env:=by rfl)(uO:(backTo pos (starEach es X.env)).any (·.1)=false:=by rfl):
  PE X (.Call (.Name x p) (e::es) [] pos) (pY sp qN E t):=by
 intro ae s σ H Q I h;refine rD (qK I hg hm ?_ DH);refine zA (h₀:=X.base) I.ok.mod.Q8 hk (cy (ha pos ae s σ H _ I h) fun us s1 ⟨vs,H1,I1,r,q⟩=>⟨I1.pW,?_⟩) he uO;exact Aq F hr hb hd hx I1 r q
theorem dg(he:PE X o ta)(c:E7 X.K C)(hm:Ke X.K C m f)(F:bi X.prog X.w X.K X.mg X.base CX k f fd ps sp)(hr:bL k X.A)(hb:jo X.K fd ps ds)(hd:aZ qN ds)(hx:i_ CX X E)(ha:PA X (e::es) t)(iC:starEach (e::es) X.env=(false,eval e X.env)::starEach es X.env:=by rfl)(uO:(backTo pos (starEach es X.env)).any (·.1)=false:=by rfl)(ht:eval (.Call (.Attribute o m ql) (e::es) [] pos) X.env=(do
   let ov <- eval o X.env
   standAt ql.atName
   let (f,first) <- holding [ov] (getMethod ov m pl)
   callWith pos f first (backTo pos (starEach (e::es) X.env)) (backToKw pos (keywordEach [] X.env))):=by rfl):
  PE X (.Call (.Attribute o m ql) (e::es) [] pos) (B4 C m sp qN E ta t):=by
 intro ae s σ H Q I h;refine PySem.W.methodCall_KW (pl:=pl) (cy (he ae s σ H _ I h) fun u s1 ⟨x,H1,I1,rx,a,dx,fs,ex,ea,l,q⟩=>?_) ht;subst ex;obtain rfl:u=Value.ref a:=rx;refine r_ I1 ea c hm l ?_;refine zA (first:=[.ref a]) (h₀:=X.base) I.ok.mod.Q8 hm.kp (cy (ha pos ae s1 σ H1 _ I1 q) fun us s2 ⟨vs,H2,I2,r,q2⟩=>⟨I2.pW,?_⟩) iC uO;exact Aq (us:=.ref a::us) (vs:=.ref a::vs) F hr hb hd hx I2 (.cons rfl r) q2
theorem se{pl:Sem Bool}(he:PE X o ta)(c:E7 X.K C)(hm:Ke X.K C m f)(F:bi X.prog X.w X.K X.mg X.base CX k f fd ps sp)(hr:bL k X.A)(hb:jo X.K fd ps ds)(hd:aZ qN ds)(hx:i_ CX X E)(ht:eval (.Call (.Attribute o m ql) [] [] pos) X.env=(do
   let ov <- eval o X.env
   standAt ql.atName
   let (f,first) <- holding [ov] (getMethod ov m pl)
   callWith pos f first (backTo pos (starEach [] X.env)) (backToKw pos (keywordEach [] X.env))):=by rfl):
  PE X (.Call (.Attribute o m ql) [] [] pos) (B4 C m sp qN E ta mL):=by
 intro ae s σ H Q I h;refine PySem.W.methodCall_KW (pl:=pl) (cy (he ae s σ H _ I h) fun u s1 ⟨x,H1,I1,rx,a,dx,fs,ex,ea,l,q⟩=>?_) ht;subst ex;obtain rfl:u=Value.ref a:=rx;refine r_ I1 ea c hm l ?_;exact PySem.W.callWith_K0 (first:=[.ref a]) I1.pW hm.kp (Aq (us:=[.ref a]) (vs:=[.ref a]) F hr hb hd hx I1 (.cons rfl .nil) q)
structure Mk(K:PySem.W.Frag)(C f:Addr):Prop where
 makes:PySem.W.makesIn K C=true
 init:PySem.W.findIn K (.ref C) "__init__"=some (some (.ref f))
 fn:PySem.W.isFn K (.ref f)=true
 kp:PySem.W.keepIn K (.ref C)=true
theorem FZ(M:Mk X.K C f)(F:bi X.prog X.w X.K X.mg X.base CX k f fd ps sp)(hr:bL (k+1) X.A)(hb:jo X.K fd ps ds)(hd:aZ qN ds)(hx:i_ CX X E)(I:aG X ae σ H s)(r:aZ vs us)(h:∀x dx,H x=none->H dx=none->dx≠x->sp (.ref x::(vs++qN)) (upd (upd H dx (.own x)) x (.ins C dx [])) (fun v H2=>v=.bR/\Q (.ref x) H2) E):
  wpAny (model X.prog X.w) X.A (call (.ref C) us) (EP X ae σ Q) X.xe s:=by
 have hq:=h (s.heap.objs.size+1) s.heap.objs.size (I.cf.fresh (Nat.le_succ _)) (I.cf.fresh (aX _)) (aY (kq _));have I2:=aG.made (C:=C) I;have r2:aZ (V.ref (s.heap.objs.size+1)::(vs++qN)) (Value.ref (s.heap.objs.size+1)::(us++ds)):=.cons rfl (r.append hd);have hl:(Value.ref (s.heap.objs.size+1)::us++ds).length=ps.length:=by
  have e:=r2.length;rw[F.len _ _ _ _ hq] at e;exact e.symm
 refine rT (FY (f:=f) I.pW M.makes M.init (et.mp M.fn) (kD (F.run _ X.stack _ _ ⟨Value.ref (s.heap.objs.size+1)::us,[]⟩ (Value.ref (s.heap.objs.size+1)::(us++ds)) _ _ E (hr.make C us [])
  (I2.Sf.make C us []) (hb _ (Value.ref (s.heap.objs.size+1)::us) I2.pW hl) r2 hq) fun r s' MR=>?_))
 cases r with
 |error e=>exact hx ae σ _ _ e s' I2 MR
 |ok fl=>
  cases fl with
  |ret u=>
   obtain⟨v,H',I3,rv,ev,q3⟩:=I2.after MR;subst ev;exact⟨rv,⟨V.ref (s.heap.objs.size+1),H',I3,rfl,q3⟩⟩
  |next=>exact False.elim MR
  |brk=>exact False.elim MR
  |cont=>exact False.elim MR
theorem B5(M:Mk X.K C f)(F:bi X.prog X.w X.K X.mg X.base CX k f fd ps sp)(hr:bL (k+1) X.A)(hg:Gl X x)(hm:X.mg x=some (.ref C))(hb:jo X.K fd ps ds)(hd:aZ qN ds)(hx:i_ CX X E)(ha:PA X (e::es) t)(DH:(x==("__debug__":Str))=false:=by decide)(he:starEach (e::es) X.env=(false,eval e X.env)::starEach es X.env:=by rfl)(uO:(backTo pos (starEach es X.env)).any (·.1)=false:=by rfl):
  PE X (.Call (.Name x p) (e::es) [] pos) (Sg C sp qN E t):=by
 intro ae s σ H Q I h;refine rD (qK I hg hm ?_ DH);refine zA (h₀:=X.base) I.ok.mod.Q8 M.kp (cy (ha pos ae s σ H _ I h) fun us s1 ⟨vs,H1,I1,r,q⟩=>⟨I1.pW,?_⟩) he uO;exact FZ M F hr hb hd hx I1 r q
end
def PK(X:Cx)(F1:List Keyword)(t:TA):Prop:=
 ∀ (pos:Pos) (ae:List (Addr×Obj)) (s:Shared) (σ:St) (H:Hp) (Q:List V->Hp->Prop),aG X ae σ H s->t σ H Q->wpAny (model X.prog X.w) X.A (evalAll ((backToKw pos (keywordEach F1 X.env)).map (·.2))) (AP X ae σ Q) X.xe s
section
variable {X:Cx} {CX:xw} {k:Nat} {f C:Addr} {fd:FuncData} {ps ks:List Str} {sp:Sp} {E:XK} {x m:Str} {p pos ql Xi:Pos} {e o:Expr} {es:List Expr} {F1:List Keyword} {te ta:TE} {t tk:TA} {nm:Option Str}
theorem Og:PK X [] mL:=fun _ _ _ _ H Q I h=>wpAny_evalAll_nil ⟨[],H,I,.nil,h⟩
theorem Ki(ha:PE X e te)(hr:PK X F1 t):PK X (⟨nm,e,Xi⟩::F1) (eE te t):=by
 intro pos ae s σ H Q I h;show wpAny _ _ (evalAll ((do let v <- eval e X.env;standAt pos;pure v)::(backToKw pos (keywordEach F1 X.env)).map (·.2))) _ _ s;refine wpAny_evalAll_cons (ai (cy (ha ae s σ H _ I h) fun u s1 ⟨x,H1,I1,r1,q1⟩=>ai (i6 (wpAny_pure ?_))));exact cy (hr pos ae s1 σ H1 _ I1 q1) fun us s2 ⟨xs,H2,I2,r2,q2⟩=>⟨x::xs,H2,I2,.cons r1 r2,q2⟩
variable {g:List Value->List Value->List Value} {gV:List V->List V->List V}
end
structure aA(N P:List Str)(sc:Scope):Prop where
 kind:sc.kind=.function
 co:sc.isCoroutine=false
 gen:sc.isGenerator=false
 nd:N.Nodup
 pre:N.take P.length=P
 par:∀x∈P,sc.names.lookup x=some .local\/sc.names.lookup x=some .cell
 Oh:∀y∈sc.names,y.2≠.free
theorem uS{kindOf:Str->Option NameKind}{x:Str}:∀ {binds:List (Str×Value)} {m:Str->Option Value},(∀v,(x,v)∉binds)->bindL kindOf binds m x=m x
 |[],_,_=>rfl
 |(n,v)::r,m,h=>by
  unfold bindL;rw[uS fun w hw=>h w (bU _ hw)];split
  .have:x≠n:=by rintro rfl;exact h v bV
   simp[this]
  .rfl
theorem uT{kindOf:Str->Option NameKind}{x:Str}:∀ {binds:List (Str×Value)} {m:Str->Option Value},(∀v,(x,v)∉binds)->bindC kindOf binds m x=m x
 |[],_,_=>rfl
 |(n,v)::r,m,h=>by
  unfold bindC;rw[uT fun w hw=>h w (bU _ hw)];split
  .rfl
  .have:x≠n:=by rintro rfl;exact h v bV
   simp[this]
theorem uU{kindOf:Str->Option NameKind}{x:Str}{v:Value}:∀ {P:List Str} {vs:List Value} {i:Nat} {m:Str->Option Value},P.Nodup->P[i]?=some x->vs[i]?=some v->kindOf x=some .local->
  bindL kindOf (P.zip vs) m x=some v
 |[],_,_,_,_,h,_,_=>by simp at h
 |_::_,[],_,_,_,_,h,_=>by simp at h
 |p::P,w::vs,0,m,nd,h1,h2,hk=>by
  simp at h1 h2;subst h1;subst h2;show bindL kindOf ((p,w)::P.zip vs) m p=_;unfold bindL;rw[uS fun v hv=>(dq.mp nd).1 (rJ hv).1,ak hk];simp
 |p::P,w::vs,i+1,m,nd,h1,h2,hk=>by
  show bindL kindOf ((p,w)::P.zip vs) m x=_;unfold bindL;exact uU (i:=i) (dq.mp nd).2 (by simpa using h1) (by simpa using h2) hk
theorem uV{kindOf:Str->Option NameKind}{x:Str}{v:Value}:∀ {P:List Str} {vs:List Value} {i:Nat} {m:Str->Option Value},P.Nodup->P[i]?=some x->vs[i]?=some v->kindOf x≠some .local->
  bindC kindOf (P.zip vs) m x=some v
 |[],_,_,_,_,h,_,_=>by simp at h
 |_::_,[],_,_,_,_,h,_=>by simp at h
 |p::P,w::vs,0,m,nd,h1,h2,hk=>by
  simp at h1 h2;subst h1;subst h2;show bindC kindOf ((p,w)::P.zip vs) m p=_;unfold bindC;rw[uT fun v hv=>(dq.mp nd).1 (rJ hv).1,aq hk];simp
 |p::P,w::vs,i+1,m,nd,h1,h2,hk=>by
  show bindC kindOf ((p,w)::P.zip vs) m x=_;unfold bindC;exact uV (i:=i) (dq.mp nd).2 (by simpa using h1) (by simpa using h2) hk
def start(N:List Str)(vs:List V):St:=vs.map some++List.replicate (N.length-vs.length) none
def jN(CX:xw)(P:Program)(w:World)(K:PySem.W.Frag)(mg:Str->Option Value)(base:Heap)(N:List Str)(qual:Str)(scope:Scope)(f:Addr)(cd:Value)(A:Around)(outer:List Env)(s:Shared)(H:Hp)(E:XK):Cx where
 prog:=P
 w:=w
 K:=K
 mg:=mg
 base:=base
 A:=A.deeper (envOfC qual scope s.heap.objs.size f cd)
 N:=N
 s₀:=s
 H₀:=H
 env:=envOfC qual scope s.heap.objs.size f cd
 outer:=outer
 stack:=envOfC qual scope s.heap.objs.size f cd::outer
 ex:=[]
 calm:=true
 fn:=fun _=>true
 pn:=[]
 xe:=fun e s'=>wpAny (model P w) (A.deeper (envOfC qual scope s.heap.objs.size f cd)) (leaving (envOfC qual scope s.heap.objs.size f cd) e) (fun _ F2=>CX outer H s E e F2) (fun e' F2=>CX outer H s E e' F2) s'
theorem xH{sc:Scope}{n:Nat}{x:Str}(h:sc.names.lookup x=some .cell):∃c,(cellsFrom n sc.names []).lookup x=some c:=by
 have q:=PySem.W.cellsFrom_some sc.names n [] (.inl h);exact zd.mp q
theorem DI{CX:xw}{P:Program}{w:World}{K:PySem.W.Frag}{mg:Str->Option Value}{base:Heap}{N ps:List Str}{qual:Str}{scope:Scope}{f:Addr}{cd:Value}{A:Around}{outer:List Env}{s s1:Shared}{H:Hp}{E:XK}{us:List Value}{vs:List V}(S:aA N ps scope)(hd:A.handled=none)(e0:Ap P w K mg base A outer s H)(hl:vs.length=ps.length)(r:aZ vs us)(x:InCallC s s.heap.objs.size (bindL (envOfC qual scope s.heap.objs.size f cd).kindOf (ps.zip us) fun _=>none) (cellsFrom (s.heap.objs.size+1) scope.names []) (bindC (envOfC qual scope s.heap.objs.size f cd).kindOf (ps.zip us) fun _=>none) s1):
  aG (jN CX P w K mg base N qual scope f cd A outer s H E) [] (start N vs) H s1:=by
 have uO:ps.length<=N.length:=by have:=congrArg List.length S.pre;rw[ii] at this;lia
 obtain⟨h1,tk,rfl,hk⟩:=x.done;have Rf:∀b:Addr,b∉(jN CX P w K mg base N qual scope f cd A outer s H E).ex:=fun b z=>absurd (show b∈([]:List Addr) from z) (by simp);refine⟨⟨e0.mod,S.kind,rfl,rfl,aX _,fun y z c h1 h2=>?_,fun y hy=>?_,fun y c _ h=>?_,fun _=>hd,Around.frames_deeper e0.frames,.inr ⟨rfl,rfl⟩,fun b z=>absurd z (Rf b),e0.bs,e0.JF,fun b _ _=>Rf b,fun b z=>absurd z (Rf b),e0.nK,e0.J2⟩,
  rfl,e0.bare,Un.kept hk,⟨_,x.toInCall.ns,fun i y v h1 h2 h3=>?_⟩,fun y c h=>⟨_,x.cell y c h⟩,e0.cf.fresh (aX _),fun y c h=>?_,fun p hp=>absurd (show p∈([]:List (Addr×Obj)) from hp) (by simp),e0.cf.kept hk,?_⟩
 .exact name_of_addr x.apart (ku h1) (ku h2)
 .have hy:scope.names.lookup y=some .cell\/scope.names.lookup y=some .free:=hy;rcases hy with hy|hy
  .exact xH hy
  .exact absurd rfl (S.Oh _ (ku hy))
 .exact jF (x.above y c (ku h))
 .have hi:i<vs.length:=by
   unfold start at h2;by_cases hi:i<vs.length
   .exact hi
   .rw[ra (by simpa using hi)] at h2;rw[List.getElem?_replicate] at h2;split at h2 <;> cases h2
  have ha:vs[i]?=some v:=by
   unfold start at h2;rw[nE (by simpa using hi),bJ] at h2;cases e:vs[i]? with
   |none=>rw[e] at h2;cases h2
   |some a=>rw[e] at h2;cases h2;rfl
  obtain⟨u,hu,rv⟩:=r.get ha;have hp:ps[i]?=some y:=by
   rw[<-S.pre,re (by lia)];exact h1
  have ndP:ps.Nodup:=by rw[<-S.pre];exact S.nd.sublist (List.take_sublist _ _)
  refine⟨u,rv,?_⟩;rcases S.par y (dh hp) with k|k
  .exact .inl ⟨k,uU ndP hp hu k⟩
  .obtain⟨c,e⟩:=xH (n:=s.heap.objs.size+1) k;refine .inr ⟨.inl k,c,e,?_⟩;have q:=x.cell y c e;rw[uV ndP hp hu (by show scope.names.lookup y≠_;rw[k];decide)] at q;exact q
 .exact e0.cf.fresh (jF (x.above y c (ku h)))
 .unfold start;show _=N.length;rw[dU,aP,me];lia
theorem F3{CX:xw}{P:Program}{w:World}{K:PySem.W.Frag}{mg:Str->Option Value}{base:Heap}{k:Nat}{f:Addr}{name qual:Str}{params:Arguments}{body:List Stmt}{scope:Scope}{dV kV ni pm dC ct oc:Value}{an od:Option Addr}{xI:Array (Option Value)}{N ps:List Str}{sp:Sp}(lk:K.lookup f=some ⟨oc,od,.func (PySem.W.fnOf name qual params body scope dV kV ni pm an dC ct),xI⟩)(ul:PySem.W.codeIn K dC qual=true)(S:aA N ps scope)(len:∀vs H Q E,sp vs H Q E->vs.length=ps.length)(sf:∀ (A:Around) (outer:List Env) (s:Shared) (H:Hp) (vs:List V) (Q:VK) (E:XK),bL k (A.deeper (envOfC qual scope s.heap.objs.size f dC))->sp vs H Q E->
   ∃t,yY (jN CX P w K mg base N qual scope f dC A outer s H E) body t/\t { nx:=fun _ H'=>Q .bR H',rt:=Q } (start N vs) H):
  bi P w K mg base CX (k+1) f (PySem.W.fnOf name qual params body scope dV kV ni pm an dC ct) ps sp:=by
 refine⟨len,fun A outer s H args us vs Q E hr e0 hb r E8=>?_⟩;have hl:=len _ _ _ _ E8;have KX:K.In s.heap:=e0.mod.Q8.keeps fun b o e=>(e0.bs b o e).1;have lim:s.heap.NoLimit:=e0.mod.nolimit.keeps fun b o e=>(e0.bs b o e).1;have Sh:∀y∈ps.zip us,scope.names.lookup y.1=some .local\/(scope.names.lookup y.1=some .cell/\((cellsFrom (s.heap.objs.size+1) scope.names []).lookup y.1).isSome=true):=fun ⟨n,v⟩ hy=>by
  rcases S.par n (rJ hy).1 with q|q
  .exact .inl q
  .exact .inr ⟨q,PySem.W.cellsFrom_some _ _ _ (.inl q)⟩
 refine codeAny_call_function hr.depth (KX _ _ lk) rfl S.co S.gen rfl (PySem.W.codeRec_of KX ul) (hb _ _ _ _ ?_);refine wpAny_newFunctionEnv_cells S.kind Sh fun env he s1 x=>?_;subst he;refine⟨lim.keeps x.toInCall.keep,codeAny_func ?_⟩;obtain⟨t,ht,hq⟩:=sf A outer s H vs Q E (hr.deeper _) E8;have I:aG (jN CX P w K mg base N qual scope f dC A outer s H E) [] (start N vs) H s1:=DI S hr.hd e0 hl r x;refine gv (ht [] s1 (start N vs) H _ I hq) (fun fl s' hs=>?_) fun e s' hs=>hs;have cH:∀ {σ':St} {H':Hp} {v:V} {u:Value},aG (jN CX P w K mg base N qual scope f dC A outer s H E) [] σ' H' s'->bC v u->Q v H'->CE outer P w H s Q u s':=
  fun {σ' H' v u} J rv q=>⟨v,H',J.os,J.bare,J.base,J.cf,rv,q⟩
 cases fl with
 |ret u=>
  obtain⟨v,σ',H',J,rv,q⟩:=hs;exact cH J rv q
 |next=>
  obtain⟨σ',H',J,q⟩:=hs;exact cH (v:=V.bR) (u:=Value.none) J rfl q
 |brk=>
  obtain⟨_,_,_,q⟩:=hs;exact False.elim q
 |cont=>
  obtain⟨_,_,_,q⟩:=hs;exact False.elim q
section
variable {X:Cx} {x:Str} {p pos:Pos} {e:Expr} {es:List Expr} {t:TA} {id T:String} {r:List V->Hp->VK->Prop}
def Xj(r:List V->Hp->VK->Prop)(t:TA):TE:=fun σ H Q=>t σ H fun vs H1=>r vs H1 Q
theorem aI(hc:fm X (.builtin id) r)(hg:Gl X x)(hm:X.mg x=none)(hv:bootBuiltins x=some (.builtin id))(ha:PA X (e::es) t)(hn:x≠"__name__":=by decide)(DH:(x==("__debug__":Str))=false:=by decide)(he:starEach (e::es) X.env=(false,eval e X.env)::starEach es X.env:=by rfl)(uO:(backTo pos (starEach es X.env)).any (·.1)=false:=by rfl):PE X (.Call (.Name x p) (e::es) [] pos) (Xj r t):=by
 intro ae s σ H Q I h;refine rD (jJ I hg hm hv ?_ hn DH);exact PyProof.Rows.callWith_builtin1 (cy (ha pos ae s σ H _ I h) fun us s1 ⟨vs,H1,I1,r1,q1⟩=>hc ae s1 σ H1 vs us Q I1 r1 q1) he uO
theorem bX(hc:fm X (.type T) r)(hg:Gl X x)(hm:X.mg x=none)(hv:bootBuiltins x=some (.type T))(ha:PA X (e::es) t)(hn:x≠"__name__":=by decide)(DH:(x==("__debug__":Str))=false:=by decide)(he:starEach (e::es) X.env=(false,eval e X.env)::starEach es X.env:=by rfl)(uO:(backTo pos (starEach es X.env)).any (·.1)=false:=by rfl):PE X (.Call (.Name x p) (e::es) [] pos) (Xj r t):=by
 intro ae s σ H Q I h;refine rD (jJ I hg hm hv ?_ hn DH);exact oA (cy (ha pos ae s σ H _ I h) fun us s1 ⟨vs,H1,I1,r1,q1⟩=>hc ae s1 σ H1 vs us Q I1 r1 q1) he uO
end
end L2
namespace HT
open PySem PyProof.Rows
section
open PySem.SeqAt
open PySem.AutoSeq1 (wpAny_loadPart')
open PySem.MeetsSeq PySem.MeetsSeq2 PySem.MeetsSeq3
end
section
variable {prog:Program} {w:World} {A:Around} {E:Value->Shared->Prop} {s:Shared}
def gf(n d:Nat):Option Int->Nat
 |none=>d
 |some v=>if v<0 then (v+(n:Int)).toNat else min v.toNat n
theorem Oi(n d:Nat)(hd:d<=n)(o:Option Int):gf n d o<=n:=by
 cases o with
 |none=>exact hd
 |some v=>
  show (if v<0 then (v+(n:Int)).toNat else min v.toNat n)<=n;by_cases hv:v<0
  .rw[ak hv];lia
  .rw[aq hv];exact Nat.min_le_right _ _
theorem B6(v:Int)(n d:Nat):(if v<0 then max (v+(n:Int)) 0 else min v (n:Int))=((gf n d (some v):Nat):Int):=by
 show (if v<0 then max (v+(n:Int)) 0 else min v (n:Int))=(((if v<0 then (v+(n:Int)).toNat else min v.toNat n):Nat):Int);by_cases hv:v<0
 .simp only[ak hv];lia
 .simp only[aq hv];lia
theorem Ar(lo hi:Option Int)(n:Nat):Builtin.Slice.sliceAdjust lo hi 1 (n:Int)=(((gf n 0 lo:Nat):Int),((gf n n hi:Nat):Int)):=by
 have h1:¬ ((1:Int)<0):=by lia
 unfold Builtin.Slice.sliceAdjust;simp only[h1,i8];refine gy ?_ ?_
 .cases lo with
  |none=>rfl
  |some v=>exact B6 v n 0
 .cases hi with
  |none=>rfl
  |some v=>exact B6 v n n
theorem As(i j:Nat):Builtin.Slice.slicePlaces (i:Int) (j:Int) 1=j-i:=by
 unfold Builtin.Slice.slicePlaces;have h1:(1:Int) > 0:=by lia
 simp only[h1,jI,Int.ediv_one];split <;> lia
theorem si(p:IsPart v o)(h:Q o s):wpAny (model prog w) A (Builtin.Slice.slicePartIndex v) Q E s:=by
 cases p with
 |none=>exact slicePart_none h
 |int i t=>exact slicePart_int h
theorem jp{sl:Addr}{vl vu:Value}{lo hi:Option Int}{n:Nat}{Q:Int×Int×Nat->Shared->Prop}(hs:s.heap.IsSliceOf sl vl vu .none)(pl:IsPart vl lo)(pu:IsPart vu hi)(h:Q (((gf n 0 lo:Nat):Int),1,gf n n hi-gf n 0 lo) s):wpAny (model prog w) A (Builtin.Slice.sliceApplied (.ref sl) (pure (n:Int))) Q E s:=by
 obtain⟨os,JM,Wj,Si⟩:=id hs;unfold Builtin.Slice.sliceApplied Builtin.Slice.sliceFields;refine ai (ai (cX JM Si (x:=vl) rfl (ai (cX JM Si (x:=vu) rfl (ai (cX JM Si (x:=.none) rfl (wpAny_pure ?_)))))));refine ai (slicePart_none ?_);show wpAny _ _ (if ((1:Int)==0)=true then _ else _) _ _ s;rw[aq (by decide)];refine ai (si pl (ai (si pu (ai (wpAny_pure ?_)))));show wpAny _ _ (match Builtin.Slice.sliceAdjust lo hi 1 (n:Int) with|(lo,hi)=>pure (lo,(1:Int),Builtin.Slice.slicePlaces lo hi 1)) _ _ s;rw[Ar lo hi n];show wpAny _ _ (pure (((gf n 0 lo:Nat):Int),(1:Int),Builtin.Slice.slicePlaces ((gf n 0 lo:Nat):Int) ((gf n n hi:Nat):Int) 1)) _ _ s;rw[As];exact wpAny_pure h
theorem F4(xs:Array Value)(i k:Nat):((List.range k).filterMap fun (m:Nat)=>xs[((i:Int)+(m:Int)*1).toNat]?).toArray=((xs.toList.drop i).take k).toArray:=by
 have e:(fun (m:Nat)=>xs[((i:Int)+(m:Int)*1).toNat]?)=fun m=>xs[i+m]?:=by
  funext m;have:((i:Int)+(m:Int)*1).toNat=i+m:=by lia
  rw[this]
 rw[e];have:=pick_run xs i k;rw[zG] at this;have e2:((fun x=>xs[x]?) ∘ fun x=>i+x)=fun m=>xs[i+m]?:=rfl;rw[e2] at this;rw[this]
theorem nQ{t sl:Addr}{items:Array Value}{vl vu:Value}{lo hi:Option Int}{Q:Value->Shared->Prop}(ht:IsTup s.heap t items)(hs:s.heap.IsSliceOf sl vl vu .none)(pl:IsPart vl lo)(pu:IsPart vu hi)(hw:¬ (gf items.size 0 lo=0/\gf items.size items.size hi=items.size))(h:Q (.ref s.heap.objs.size) { s with heap:=s.heap.push { cls:=.type "tuple",data:=.seq ((items.toList.drop (gf items.size 0 lo)).take (gf items.size items.size hi-gf items.size 0 lo)).toArray } })(hsz:items.size<=sizeLine):wpAny (model prog w) A (getItem (.ref t) (.ref sl)) Q E s:=by
 have B7:sizeOk (.seq ((items.toList.drop (gf items.size 0 lo)).take (gf items.size items.size hi-gf items.size 0 lo)).toArray):=by
  show ((items.toList.drop (gf items.size 0 lo)).take (gf items.size items.size hi-gf items.size 0 lo)).toArray.size<=sizeLine;rw[c_,ii,List.length_drop,eJ];lia
 have hj:gf items.size items.size hi<=items.size:=Oi _ _ (aX _) hi;obtain⟨os,JM,Wj,Si⟩:=id hs;have Xk:s.TypeIs (.ref sl) "slice":=⟨os,JM,Wj⟩
 unfold getItem;try with_reducible refine gs ?_
 first|refine ai (wpAny_pure ?_)|skip
 refine ai (wpAny_sequenceKey ht.typeIs (by decide) ?_);refine ai (j3 (name:=Str.ofString "__getitem__") ht.typeIs uM
  (gn uM ht.typeIs entry_tuple_getitem ?_ (args_tuple_getitem _ _)))
 show wpAny _ _ (Builtin.Tuple.tupleItemsOf (.ref t) >>= _) _ _ s;refine ai (tupleItemsOf_ ht ?_);refine ai (we Xk ?_);rw[ak (by decide)];refine ai (jp hs pl pu ?_);have F5:¬ ((((gf items.size 0 lo:Nat):Int)==0&&(1:Int)==1&&(gf items.size items.size hi-gf items.size 0 lo)==items.size)=true):=by
  intro q;rw[gP,gP] at q;have q1:((gf items.size 0 lo:Nat):Int)=0:=eq_of_beq q.1.1;have q2:gf items.size items.size hi-gf items.size 0 lo=items.size:=eq_of_beq q.2;exact hw ⟨by lia,by lia⟩
 show wpAny _ _ (if (((gf items.size 0 lo:Nat):Int)==0&&(1:Int)==1&&(gf items.size items.size hi-gf items.size 0 lo)==items.size)=true then _ else _) _ _ s;rw[aq F5,F4];first
  |exact ai (m:=Builtin.Tuple.tupleExact _) (h_ (wpAny_pure ⟨_,rfl,wpAny_pure h⟩) B7)
  |exact ai (m:=Builtin.Tuple.tupleExact _) (h_ (ai (wpAny_pure (wpAny_pure ⟨_,rfl,wpAny_pure h⟩))) B7)
  |exact ai (ai (m:=Builtin.Tuple.tupleExact _) (h_ (wpAny_pure (wpAny_pure ⟨_,rfl,wpAny_pure h⟩)) B7))
  |exact ai (ai (m:=Builtin.Tuple.tupleExact _) (h_ (wpAny_pure ⟨_,rfl,wpAny_pure h⟩) B7))
end
end HT
namespace L2
open PySem PySem.Spec PyProof.Rows
abbrev TO:=St->Hp->(Option Int->Hp->Prop)->Prop
def PO(X:Cx)(e:Option Expr)(t:TO):Prop:=
 ∀ (ae:List (Addr×Obj)) (s:Shared) (σ:St) (H:Hp) (Q:Option Int->Hp->Prop),aG X ae σ H s->t σ H Q->
  wpAny (model X.prog X.w) X.A (evalPart e X.env) (fun u s'=>∃o H',aG X ae σ H' s'/\IsPart u o/\Q o H') X.xe s
def B8:TO:=fun _ H Q=>Q none H
def MU(t:TE):TO:=fun σ H Q=>t σ H fun x H1=>∃i,x=.int i/\Q (some i) H1
theorem sj{ns:List Int}:∀ {us:List Value},aZ (ns.map V.int) us->IntsAre us ns:=by
 induction ns with
 |nil=>intro us r;rw[wc] at r;cases r;exact .nil
 |cons n ns ih=>
  intro us r;rw[e_] at r;cases r with
  |cons r1 r2=>
   obtain⟨t,e⟩:=r1;subst e;exact .cons n t (ih r2)
section
variable {X:Cx} {e:Expr} {te:TE} {lo hi:Option Expr} {tl th:TO} {pos p2:Pos}
theorem B9:PO X none B8:=by
 intro ae s σ H Q I h;rw[evalPart_none];exact wpAny_pure ⟨none,H,I,.none,h⟩
theorem B_(h:PE X e te):PO X (some e) (MU te):=by
 intro ae s σ H Q I hw;rw[evalPart_some];refine cy (h ae s σ H _ I hw) fun u s1 ⟨x,H1,I1,r1,q1⟩=>?_;obtain⟨i,rfl,q⟩:=q1;obtain⟨t,rfl⟩:=r1;exact⟨some i,H1,I1,.int i t,q⟩
def Xl(X:Cx)(r:V->Option Int->Option Int->Hp->VK->Prop):Prop:=
 ∀ (ae:List (Addr×Obj)) (s:Shared) (σ:St) (H:Hp) (x:V) (v vl vu:Value) (lo hi:Option Int) (sl:Addr) (Q:VK),aG X ae σ H s->bC x v->s.heap.IsSliceOf sl vl vu .none->IsPart vl lo->IsPart vu hi->r x lo hi H Q->
  ∃T id,typeLookup (.type T) "__getitem__"=pure (some (.builtin id))/\s.TypeIs v T/\wpAny (model X.prog X.w) X.A (getItem v (.ref sl)) (EP X ae σ Q) X.xe s
def tSl(r:V->Option Int->Option Int->Hp->VK->Prop)(te:TE)(tl th:TO):TE:=fun σ H Q=>te σ H fun x H1=>tl σ H1 fun l H2=>th σ H2 fun u H3=>r x l u H3 Q
theorem xJ(hr:Xl X r)(he:PE X e te)(hl:PO X lo tl)(hu:PO X hi th):PE X (.Subscript e (.Slice lo hi none p2) pos) (tSl r te tl th):=by
 intro ae s σ H Q I h;refine Subscript_ (cy (he ae s σ H _ I h) fun v s1 ⟨x,H1,I1,r1,q1⟩=>?_);refine wpAny_Slice (cy (hl ae s1 σ H1 _ I1 q1) fun vl s2 ⟨l,H2,I2,pl,q2⟩=>cy (hu ae s2 σ H2 _ I2 q2) fun vu s3 ⟨u,H3,I3,pu,q3⟩=>?_);rw[evalPart_none];refine wpAny_pure ?_;have I4:aG X ae σ H3 { s3 with heap:=s3.heap.push { cls:=.type "slice",data:=.fields #[vl,vu,.none] } }:=I3.kept (t':=s3.toks) fun b ob q=>a8 _ q;obtain⟨T,id,hT,ht,hg⟩:=hr ae { s3 with heap:=s3.heap.push { cls:=.type "slice",data:=.fields #[vl,vu,.none] } } σ H3 x v vl vu l u s3.heap.objs.size Q I4 r1 (Heap.IsSliceOf.new ..) pl pu q3;show wpAny (model X.prog X.w) X.A (subscriptTail e (.Slice lo hi none p2) v (.ref s3.heap.objs.size)) (EP X ae σ Q) X.xe { s3 with heap:=s3.heap.push { cls:=.type "slice",data:=.fields #[vl,vu,.none] } };exact tail_any (ops:=[.ref s3.heap.objs.size,v]) ht hT hg (by with_unfolding_all rfl)
def wm(xs:List V)(lo hi:Option Int):List V:=(xs.drop (HT.gf xs.length 0 lo)).take (HT.gf xs.length xs.length hi-HT.gf xs.length 0 lo)
theorem xK(xs:List V)(lo hi:Option Int):(wm xs lo hi).length<=xs.length:=by
 unfold wm;rw[ii,List.length_drop];lia
def Xm(K:PySem.W.Frag):V->Option Int->Option Int->Hp->VK->Prop:=fun x lo hi H Q=>∃a xs,x=.ref a/\bh K H a xs/\
 ¬ (HT.gf xs.length 0 lo=0/\HT.gf xs.length xs.length hi=xs.length)/\∀p,H p=none->Q (.ref p) (upd H p (.tup (wm xs lo hi)))
theorem Oj:Xl X (Xm X.K):=by
 intro ae s σ H x v vl vu lo hi sl Q I rx hs pl pu h;obtain⟨a,xs,rfl,hx,hw,q⟩:=h;cases rx;obtain⟨its,r,ht,hz⟩:=I.tuple hx;have cY:its.toArray.size=xs.length:=by rw[c_];exact r.length.symm
 refine⟨"tuple",_,uM.lookup,ht.typeIs,?_⟩;refine HT.nQ ht hs pl pu (by rw[cY];exact hw) ?_ (by rw[cY];exact hz);rw[cY];refine⟨.ref s.heap.objs.size,_,I.laid (t':=s.toks) (o:=.tup (wm xs lo hi)) (fun b ob q=>a8 _ q) (aX _) ?_,rfl,q _ (I.cf.fresh (aX _))⟩;exact⟨bj (xK xs lo hi) hz,_,(r.drop (HT.gf xs.length 0 lo)).take (HT.gf xs.length xs.length hi-HT.gf xs.length 0 lo),mD.new _ _⟩
end
def E9(n:Nat)(i:Int):Option Nat:=if 0<=i then (if i<n then some i.toNat else none) else if -(n:Int)<=i then some (i+n).toNat else none
def F6{α:Type}(xs:List α)(i:Int):Option α:=(E9 xs.length i).bind fun j=>xs[j]?
theorem Ca(h:E9 n i=some j):seqIndex? i n=some j/\j<n/\-(n:Int)<=i/\i<n:=by
 unfold E9 at h;by_cases h0:0<=i
 .rw[ak h0] at h;by_cases h1:i<n
  .rw[ak h1] at h;have e:i.toNat=j:=bg h;exact⟨by rw[seqIndex_of h0 h1,e],by lia,by lia,h1⟩
  .rw[aq h1] at h;cases h
 .rw[aq h0] at h;by_cases h1:-(n:Int)<=i
  .rw[ak h1] at h;have e:(i+n).toNat=j:=bg h;exact⟨by rw[seqIndex_neg (by lia) h1,e],by lia,h1,by lia⟩
  .rw[aq h1] at h;cases h
theorem Cb(h:F6 xs i=some v):∃j,seqIndex? i xs.length=some j/\xs[j]?=some v/\j<xs.length/\-(xs.length:Int)<=i/\i<xs.length:=by
 unfold F6 at h;cases e:E9 xs.length i with
 |none=>rw[e] at h;cases h
 |some j=>
  rw[e] at h;obtain⟨h1,h2,h3,h4⟩:=Ca e;exact⟨j,h1,h,h2,h3,h4⟩
theorem aB{α:Type}{xs:List α}{j:Nat}{v:α}(h:xs[j]?=some v):F6 xs (j:Int)=some v:=by
 have hj:j<xs.length:=(cW.mp h).1;have e:E9 xs.length (j:Int)=some j:=by
  unfold E9;rw[ak (by lia),ak (by lia)];simp
 unfold F6;rw[e];exact h
theorem F7(xs:List α)(v:α):F6 (xs++[v]) (-1)=some v:=by
 have hl:(xs++[v]).length=xs.length+1:=by simp
 have e:E9 (xs++[v]).length (-1)=some xs.length:=by
  unfold E9;rw[hl,aq (by decide),ak (by lia)];congr 1;lia
 unfold F6;rw[e];show (xs++[v])[xs.length]?=some v;simp
def Kj(b:Expr):Prop:=∀o i,subscripted b false o i=operate [o,i] (getItem o i)
def Xn(X:Cx)(r:R2):Prop:=
 ∀ (value slice:Expr) (ae:List (Addr×Obj)) (s:Shared) (σ:St) (H:Hp) (x y:V) (v u:Value) (Q:VK),aG X ae σ H s->bC x v->bC y u->r x y H Q->
  subscripted slice false v u=operate [v,u] (getItem v u)->wpAny (model X.prog X.w) X.A (subscriptTail value slice v u) (EP X ae σ Q) X.xe s
def MtR(X:Cx)(id:String)(r:V->List V->Hp->VK->Prop):Prop:=
 ∀ (ae:List (Addr×Obj)) (s:Shared) (σ:St) (H:Hp) (x:V) (xs:List V) (v:Value) (us:List Value) (Q:VK),aG X ae σ H s->bC x v->aZ xs us->r x xs H Q->
  wpAny (model X.prog X.w) X.A (call (.builtin id) (v::us)) (EP X ae σ Q) X.xe s
section
variable {X:Cx} {a b:Expr} {ta tb:TE} {pos:Pos}
theorem a_(hr:Xn X r)(ha:PE X a ta)(hb:PE X b tb)(hs:Kj b):PE X (.Subscript a b pos) (oy r ta tb):=by
 intro ae s σ H Q I h;exact Subscript_ (Oa ha hb I h fun v u s2 x y H2 I2 rx ry q=>hr a b ae s2 σ H2 x y v u Q I2 rx ry q (hs _ _))
def Ol(K:PySem.W.Frag):R2:=fun x y H Q=>∃p xs i v,x=.ref p/\y=.int i/\bo K H p xs/\F6 xs i=some v/\Q v H
def xL(K:PySem.W.Frag):R2:=fun x y H Q=>∃p xs i v,x=.ref p/\y=.int i/\bh K H p xs/\F6 xs i=some v/\Q v H
theorem bQ:Xn X (Ol X.K):=by
 intro value slice ae s σ H x y v u Q I rx ry h hs;obtain⟨p,xs,i,z,rfl,rfl,hq,he,q⟩:=h;cases rx;obtain⟨t,rfl⟩:=ry;obtain⟨its,r,pl,hz⟩:=I.list hq;obtain⟨j,h1,h2,h3,h4,h5⟩:=Cb he;obtain⟨w,ew,DA⟩:=r.get h2;have hl:=r.length;have hn:=r6;have cH:EP X ae σ Q w s:=⟨z,H,I,DA,q⟩
 by_cases h0:0<=i
 .have hj:i.toNat=j:=by
   rw[seqIndex_of h0 h5] at h1;exact bg h1
  exact item_listR pl.isList h0 (by lia) (by rw[hj];simpa using ew) cH hs
 .have hj:(i+(its.toArray.size:Int)).toNat=j:=by
   rw[seqIndex_neg (by lia) h4] at h1;rw[c_,<-hl];exact bg h1
  exact subscriptTail_builtinR (x:=w) pl.isList.typeIs slot_list_getitem.lookup
   (wpAny_getItem_list_neg (Q:=fun r s'=>r=w/\EP X ae σ Q r s') pl.isList (by lia) (by rw[c_] <;> lia) (by lia) (by rw[hj];simpa using ew) ⟨rfl,cH⟩) hs
theorem bD:Xn X (xL X.K):=by
 intro value slice ae s σ H x y v u Q I rx ry h hs;obtain⟨p,xs,i,z,rfl,rfl,hq,he,q⟩:=h;cases rx;obtain⟨t,rfl⟩:=ry;obtain⟨its,r,pl,hz⟩:=I.tuple hq;obtain⟨j,h1,h2,h3,h4,h5⟩:=Cb he;obtain⟨w,ew,DA⟩:=r.get h2;have hl:=r.length;have hn:=r6;have cH:EP X ae σ Q w s:=⟨z,H,I,DA,q⟩
 exact subscriptTail_builtinR (x:=w) pl.typeIs slot_tuple_getitem.lookup
  (getItem_tuple (j:=j) (Q:=fun r s'=>r=w/\EP X ae σ Q r s') pl (by lia) (by lia) (by rw[c_,<-hl];exact h1) (by simpa using ew) ⟨rfl,cH⟩) hs
theorem At(its:List Value)(n j:Nat)(u:Value):Obj.mapSeq (·.setIfInBounds j u) { cls:=.type "list",data:=.seq its.toArray n }={ cls:=.type "list",data:=.seq (its.set j u).toArray n }:=by
 simp[Obj.mapSeq]
theorem aG.lst(I:aG X ae σ H s)(h:H p=some (.lst xs)):
  ∃ (its:List Value) (n:Nat),aZ xs its/\s.heap.get? p=some { cls:=.type "list",data:=.seq its.toArray n }/\xs.length<=sizeLine:=by
 obtain⟨z,its,n,r,e⟩:=I.cf p _ h;exact⟨its,n,r,e,z⟩
theorem aG.Om{ae:List (Addr×Obj)}{σ:St}{H:Hp}{s:Shared}{p:Addr}{xs ys:List V}{its its':List Value}{n n':Nat}{f:Obj->Obj}(I:aG X ae σ H s)(h:H p=some (.lst xs))(ho:s.heap.get? p=some { cls:=.type "list",data:=.seq its.toArray n })(hf:f { cls:=.type "list",data:=.seq its.toArray n }={ cls:=.type "list",data:=.seq its'.toArray n' })(r:aZ ys its')(hz:ys.length<=sizeLine)(t:Nat):
  aG X ae σ (upd H p (.lst ys)) { s with heap:=s.heap.update p f,toks:=t }:=by
 have e:(s.heap.update p f).get? p=some { cls:=.type "list",data:=.seq its'.toArray n' }:=by
  rw[oF f ho (by rw[hf] <;> rfl),hf]
 refine I.write (x:=p) (e:=p) (by rw[h];trivial) (.inl rfl) (fun b u hb q=>(rk _ _ (ck hb)).trans q) ⟨_,e⟩ ?_;exact⟨hz,its',n',r,e⟩
def Sj:V->V->V->Hp->(Hp->Prop)->Prop:=fun o i v H Q=>∃p xs k j,o=.ref p/\i=.int k/\H p=some (.lst xs)/\E9 xs.length k=some j/\Q (upd H p (.lst (xs.set j v)))
theorem ip:N9 X Sj:=by
 intro ae s σ H o i v ov iv u Q I ro ri rv h;obtain⟨p,xs,k,j,rfl,rfl,hp,hj,q⟩:=h;cases ro;obtain⟨t,rfl⟩:=ri;obtain⟨its,n,r,ho,hz⟩:=I.lst hp;obtain⟨h1,h2,h3,h4⟩:=Ca hj;have hl:=r.length;have hn:=r6;have I':aG X ae σ (upd H p (.lst (xs.set j v))) { s with heap:=s.heap.update p (Obj.mapSeq (·.setIfInBounds j u)) }:=
  I.Om hp ho (At its n j u) (r.set rv j) (by rw[vT];exact hz) s.toks
 by_cases h0:0<=k
 .have hk:k.toNat=j:=by
   rw[seqIndex_of h0 h4] at h1;exact bg h1
  exact PySem.W.ki_setAt ho h0 (by lia) (by rw[c_,<-hl];exact h4) (by rw[hk];exact⟨_,I',q⟩)
 .have hk:(k+(its.toArray.size:Int)).toNat=j:=by
   rw[seqIndex_neg (by lia) h3] at h1;rw[c_,<-hl];exact bg h1
  exact PySem.W.ki_setBack ho (by lia) (by rw[c_,<-hl];exact h3) (by lia) (by rw[hk];exact⟨_,I',q⟩)
def iq:V->Bool
 |.bR=>true
 |.bl _=>true
 |.int _=>true
 |.str _=>true
 |_=>false
def xM:V->V->Bool
 |.bR,.bR=>true
 |.bl a,.bl b=>a==b
 |.bl a,.int b=>(if a then 1 else 0)==b
 |.int a,.bl b=>a==(if b then 1 else 0)
 |.int a,.int b=>a==b
 |.str a,.str b=>a==b
 |_,_=>false
theorem F8(ry:bC y u)(rx:bC x v)(fy:iq y=true)(fx:iq x=true):SeqAt.EqAt A s u v (xM y x):=by
 cases y with
 |bR=>
  cases ry;cases x with
  |bR=>cases rx;exact SeqAt.EqAt.same _
  |bl b=>cases rx;exact SeqAt.EqAt.none_bool b
  |int b=>obtain⟨t,rfl⟩:=rx;exact SeqAt.EqAt.none_int b t
  |str b=>obtain⟨t,rfl⟩:=rx;exact SeqAt.EqAt.none_str b t
  |_=>exact absurd (show false=true from fx) bq
 |bl a=>
  cases ry;cases x with
  |bR=>cases rx;exact SeqAt.EqAt.bool_none a
  |bl b=>cases rx;exact SeqAt.EqAt.bool_bool a b
  |int b=>obtain⟨t,rfl⟩:=rx;exact SeqAt.EqAt.bool_int a b t
  |str b=>obtain⟨t,rfl⟩:=rx;exact SeqAt.EqAt.bool_str a b t
  |_=>exact absurd (show false=true from fx) bq
 |int a=>
  obtain⟨t',rfl⟩:=ry;cases x with
  |bR=>cases rx;exact SeqAt.EqAt.int_none a t'
  |bl b=>cases rx;exact SeqAt.EqAt.int_bool a t' b
  |int b=>obtain⟨t,rfl⟩:=rx;exact SeqAt.EqAt.int_int a t' b t
  |str b=>obtain⟨t,rfl⟩:=rx;exact SeqAt.EqAt.int_str a t' b t
  |_=>exact absurd (show false=true from fx) bq
 |str a=>
  obtain⟨t',rfl⟩:=ry;cases x with
  |bR=>cases rx;exact SeqAt.EqAt.str_none a t'
  |bl b=>cases rx;exact SeqAt.EqAt.str_bool a t' b
  |int b=>obtain⟨t,rfl⟩:=rx;exact SeqAt.EqAt.str_int a t' b t
  |str b=>obtain⟨t,rfl⟩:=rx;exact SeqAt.EqAt.str_str a t' b t
  |_=>exact absurd (show false=true from fx) bq
 |_=>exact absurd (show false=true from fy) bq
def Au(x:V)(u:Value):Bool:=match u with
 |.none=>xM .bR x
 |.bool b=>xM (.bl b) x
 |.int i _=>xM (.int i) x
 |.str z _=>xM (.str z) x
 |_=>false
theorem F9(r:bC y u)(f:iq y=true):Au x u=xM y x:=by
 cases y with
 |bR=>cases r;rfl
 |bl b=>cases r;rfl
 |int i=>obtain⟨t,rfl⟩:=r;rfl
 |str z=>obtain⟨t,rfl⟩:=r;rfl
 |_=>exact absurd (show false=true from f) bq
theorem nR:∀ {xs:List V} {us:List Value},aZ xs us->xs.all iq=true->us.any (Au x)=xs.any fun y=>xM y x
 |_,_,.nil,_=>rfl
 |y::xs,u::us,.cons r t,f=>by
  rw[vZ,gP] at f;rw[kC,kC,F9 r f.1,nR t f.2]
theorem kP(rx:bC x v)(fx:iq x=true):∀ {xs:List V} {us:List Value},aZ xs us->xs.all iq=true->∀u∈us,SeqAt.EqAt A s u v (Au x u)
 |_,_,.nil,_=>fun u hu=>by cases hu
 |y::xs,u::us,.cons r t,f=>fun u' hu=>by
  rw[vZ,gP] at f;rcases aV.mp hu with rfl|hu
  .rw[F9 r f.1];exact F8 r rx f.1 fx
  .exact kP rx fx t f.2 u' hu
def Cc(x:V)(xs:List V):Bool:=xs.any fun y=>xM y x
def Xo(K:PySem.W.Frag)(MV:Bool):R2:=fun x y H Q=>∃p xs,y=.ref p/\(bo K H p xs\/bh K H p xs)/\iq x=true/\xs.all iq=true/\Q (.bl (if MV then !Cc x xs else Cc x xs)) H
theorem hV:lX X (compareOp .In) (Xo X.K false):=by
 intro ae s σ H x y v u Q I rx ry h;obtain⟨p,xs,rfl,hq,fx,fs,q⟩:=h;cases ry;rcases hq with hq|hq
 .obtain⟨its,r,pl,hz⟩:=I.list hq;refine SeqAt.in_listAt (Au x) pl.isList (fun w hw=>kP rx fx r fs w (by simpa using hw)) ⟨.bl _,H,I,rfl,?_⟩;rw[show its.toArray.any (Au x)=its.any (Au x) by simp,nR r fs];exact q
 .obtain⟨its,r,pl,hz⟩:=I.tuple hq;refine SeqAt.in_tupleAt (Au x) pl (fun w hw=>kP rx fx r fs w (by simpa using hw)) ⟨.bl _,H,I,rfl,?_⟩;rw[show its.toArray.any (Au x)=its.any (Au x) by simp,nR r fs];exact q
theorem nU:lX X (compareOp .NotIn) (Xo X.K true):=by
 intro ae s σ H x y v u Q I rx ry h;obtain⟨p,xs,rfl,hq,fx,fs,q⟩:=h;cases ry;rcases hq with hq|hq
 .obtain⟨its,r,pl,hz⟩:=I.list hq;refine SeqAt.notIn_listAt (Au x) pl.isList (fun w hw=>kP rx fx r fs w (by simpa using hw)) ⟨.bl _,H,I,rfl,?_⟩;rw[show its.toArray.any (Au x)=its.any (Au x) by simp,nR r fs];exact q
 .obtain⟨its,r,pl,hz⟩:=I.tuple hq;refine SeqAt.notIn_tupleAt (Au x) pl (fun w hw=>kP rx fx r fs w (by simpa using hw)) ⟨.bl _,H,I,rfl,?_⟩;rw[show its.toArray.any (Au x)=its.any (Au x) by simp,nR r fs];exact q
theorem aM:fm X (.builtin "len") (fun xs H Q=>∃p ys,xs=[.ref p]/\(bo X.K H p ys\/bh X.K H p ys)/\Q (.int ys.length) H):=by
 intro ae s σ H xs us Q I r h;obtain⟨p,ys,rfl,hq,q⟩:=h;obtain⟨u,rfl,rx⟩:=B3 r;cases rx;have hn:=r6;rcases hq with hq|hq
 .obtain⟨its,r',pl,hz⟩:=I.list hq;have cY:=r'.length;exact Calls.call_len_list pl.isList (by simp only[c_] <;> lia) ⟨.int ys.length,H,I.tok _,⟨s.toks+1,by rw[c_,cY]⟩,q⟩
 .obtain⟨its,r',pl,hz⟩:=I.tuple hq;have cY:=r'.length;exact len_tuple pl (by simp only[c_] <;> lia) ⟨.int ys.length,H,I.tok _,⟨s.toks+1,by rw[c_,cY]⟩,q⟩
theorem nV:fm X (.type "list") (fun xs H Q=>∃p ys,xs=[.ref p]/\(bo X.K H p ys\/bh X.K H p ys)/\∀l,H l=none->Q (.ref l) (upd H l (.lst ys))):=by
 intro ae s σ H xs us Q I r h;obtain⟨p,ys,rfl,hq,q⟩:=h;obtain⟨u,rfl,rx⟩:=B3 r;cases rx;have cH:∀ (its:List Value),aZ ys its->ys.length<=sizeLine->∀ (h':Heap) (c':Nat),(∀b o',s.heap.get? b=some o'->h'.get? b=some o')->
   h'.get? s.heap.objs.size=some { cls:=.type "list",dict:=none,data:=.seq its.toArray c',slots:=#[] }->EP X ae σ Q (.ref s.heap.objs.size) { s with heap:=h' }:=fun its r' hz h' c' kp e=>
  ⟨.ref s.heap.objs.size,_,I.laid (t':=s.toks) kp (aX _) (show ce X.prog X.w _ h' _ (.lst ys) from ⟨hz,its,c',r',e⟩),rfl,q _ (I.cf.fresh (aX _))⟩
 rcases hq with hq|hq
 .obtain⟨its,r',pl,hz⟩:=I.list hq;have cY:=r'.length;obtain⟨o,ho,hc,n,hd⟩:=pl.isList;exact call_list_seq p (.inl rfl) ho hc hd (fun h' c' kp e=>cH its r' hz h' c' kp e) (by simp only[c_] <;> lia)
 .obtain⟨its,r',pl,hz⟩:=I.tuple hq;have cY:=r'.length;obtain⟨o,ho,hc,n,hd⟩:=pl;exact call_list_seq p (.inr rfl) ho hc hd (fun h' c' kp e=>cH its r' hz h' c' kp e) (by simp only[c_] <;> lia)
theorem b_:fm X (.type "tuple") (fun xs H Q=>∃p ys,xs=[.ref p]/\((bo X.K H p ys/\∀l,H l=none->Q (.ref l) (upd H l (.tup ys)))\/(bh X.K H p ys/\Q (.ref p) H))):=by
 intro ae s σ H xs us Q I r h;obtain⟨p,ys,rfl,h⟩:=h;obtain⟨u,rfl,rx⟩:=B3 r;cases rx;rcases h with ⟨hq,q⟩|⟨hq,q⟩
 .obtain⟨its,r',pl,hz⟩:=I.list hq;have cY:=r'.length;refine call_tuple_list pl.isList (fun h' kp=>?_) (by simp only[c_] <;> lia);have I1:aG X ae σ H { s with heap:=h' }:=I.kept (t':=s.toks) kp;have I2:aG X ae σ (upd H h'.objs.size (.tup ys)) { s with heap:=h'.push { cls:=.type "tuple",data:=.seq its.toArray } }:=
   I1.laid (t':=s.toks) (fun b o e=>a8 _ e) (aX _) (show ce X.prog X.w _ _ _ (.tup ys) from ⟨hz,its,r',mD.new _ _⟩)
  exact⟨.ref h'.objs.size,_,I2,rfl,q _ (I1.cf.fresh (aX _))⟩
 .obtain⟨its,r',pl,hz⟩:=I.tuple hq;exact call_tuple_same pl ⟨.ref p,H,I,rfl,q⟩
def tyV(K:PySem.W.Frag)(T:String)(x:V)(H:Hp):Prop:=match x with
 |.str _=>T="str"
 |.int _=>T="int"
 |.ref p=>(T="list"/\∃xs,bo K H p xs)\/(T="tuple"/\∃o,K.lookup p=some o/\o.cls=.type "tuple"/\o.dict=none)\/
   (T="dict"/\((∃kvs,H p=some (.dK kvs))\/∃kvs,H p=some (.dT kvs)))\/(T="set"/\∃S n,H p=some (.set S n))
 |_=>False
theorem On(I:aG X ae σ H s)(r:bC x v)(ty:tyV X.K T x H):
  s.TypeIs v T/\∀a,v=.ref a->∃ob,s.heap.get? a=some ob/\ob.dict=none:=by
 cases x with
 |str z=>
  obtain⟨t,rfl⟩:=r;cases (show T="str" from ty);exact⟨typeIs_str s z t,fun _ e=>nomatch e⟩
 |int i=>
  obtain⟨t,rfl⟩:=r;cases (show T="int" from ty);exact⟨typeIs_int s i t,fun _ e=>nomatch e⟩
 |ref p=>
  cases r;rcases ty with ⟨rfl,xs,hq⟩|⟨rfl,o,hk,hc,hd⟩|⟨rfl,hk⟩|⟨rfl,S,n,hk⟩
  .obtain⟨its,_,pl,_⟩:=I.list hq;refine⟨pl.isList.typeIs,fun a e=>?_⟩;cases e;obtain⟨o,n,e,c,hd,_⟩:=pl;exact⟨o,e,hd⟩
  .refine⟨⟨o,I.pW p o hk,hc⟩,fun a e=>?_⟩;cases e;exact⟨o,I.pW _ o hk,hd⟩
  .have z:∃o,s.heap.get? p=some o/\o.ExactDict:=by
    rcases hk with ⟨kvs,hk⟩|⟨kvs,hk⟩
    .obtain⟨_,_,_,_,o,_,_,e,ex,_⟩:=I.cf p _ hk;exact⟨o,e,ex⟩
    .obtain⟨_,_,_,_,o,_,_,e,ex,_⟩:=I.cf p _ hk;exact⟨o,e,ex⟩
   obtain⟨o,e,ex⟩:=z;refine⟨⟨o,e,ex.1⟩,fun a e2=>?_⟩;cases e2;exact⟨o,e,ex.2.1⟩
  .obtain⟨o,_,_,_,e,ex,_⟩:=I.cf p _ hk;refine⟨⟨o,e,ex.1⟩,fun a e2=>?_⟩;cases e2;exact⟨o,e,ex.2.1⟩
 |_=>exact False.elim ty
def tBM(K:PySem.W.Frag)(T:String)(r:V->List V->Hp->VK->Prop)(to:TE)(t:TA):TE:=fun σ H Q=>to σ H fun x H1=>tyV K T x H1/\t σ H1 fun xs H2=>r x xs H2 Q
variable {o e:Expr} {es:List Expr} {to:TE} {t:TA} {name:Str} {ql qm:Pos} {T id:String} {r:V->List V->Hp->VK->Prop}
theorem ir(pa:PlainAttrs T)(slot:Slot T name id)(hty:typeOf (.builtin id)=pure (.type "method_descriptor"))(hm:MtR X id r)(ho:PE X o to)(ha:PA X (e::es) t)(Sk:attributeBase o name X.env (eval o X.env)=eval o X.env:=by rfl)(Xp:((backTo qm (starEach (e::es) X.env)).all (fun x=>!x.1)&&(backToKw qm (keywordEach [] X.env)).all (fun x=>x.1.isSome)
   && decide ((e::es).length+([]:List Keyword).length+(if ([]:List Keyword).isEmpty then 0 else 1)<30))=true:=by rfl)(Sl:(ql.endLine==qm.line)=true:=by rfl)(hs:starEach (e::es) X.env=(false,eval e X.env)::starEach es X.env:=by rfl)(Av:(backTo qm (starEach es X.env)).any (·.1)=false:=by rfl):
  PE X (.Call (.Attribute o name ql) (e::es) [] qm) (tBM X.K T r to t):=by
 intro ae s σ H Q I h;refine wpAny_Call_method_late Sk Xp Sl rfl (cy (ho ae s σ H _ I h) fun v s1 ⟨x,H1,I1,r1,ty,q1⟩=>?_);obtain⟨h1,h2⟩:=On I1 r1 ty;refine⟨T,id,pa,slot,hty,h1,h2,?_⟩;have hA:=ha qm ae s1 σ H1 _ I1 q1;rw[hs] at hA |-;refine Calls.callWith_builtin (by show (false||(backTo qm (starEach es X.env)).any (·.1))=false;rw[Av] <;> rfl) (Calls.evalArgs_plain ?_);exact cy hA fun us s2 ⟨vs,H2,I2,r2,q2⟩=>hm ae s2 σ H2 x vs v us Q I2 r1 r2 q2
end
def MtM(X:Cx)(id:String)(r:V->List V->Hp->VK->Prop):Prop:=
 ∀ (ae:List (Addr×Obj)) (s:Shared) (σ:St) (H:Hp) (x:V) (xs:List V) (v:Value) (us:List Value) (Q:VK),aG X ae σ H s->bC x v->aZ xs us->r x xs H Q->
  wpAny (model X.prog X.w) X.A (call (.builtin id) (v::us)) (EP X ae σ Q) X.xe s
theorem aZ.one{x:V}{us:List Value}(h:aZ [x] us):∃u,us=[u]/\bC x u:=by
 cases h with
 |cons r h=>cases h;exact⟨_,rfl,r⟩
theorem aZ.two{x y:V}{us:List Value}(h:aZ [x,y] us):∃u v,us=[u,v]/\bC x u/\bC y v:=by
 cases h with
 |cons r h=>
  cases h with
  |cons q h=>cases h;exact⟨_,_,rfl,r,q⟩
theorem aZ.eraseIdx:∀ {xs:List V} {us:List Value} (i:Nat),aZ xs us->aZ (xs.eraseIdx i) (us.eraseIdx i)
 |_,_,_,.nil=>.nil
 |_,_,0,.cons _ t=>t
 |_,_,i+1,.cons r t=>.cons r (aZ.eraseIdx i t)
section
variable {X:Cx} {ae:List (Addr×Obj)} {σ:St} {H:Hp} {s:Shared} {l b:Addr} {xs ys zs:List V}
theorem aG.Sm{its its':List Value}{n:Nat}{f:Array Value->Array Value}{t':Nat}(I:aG X ae σ H s)(hH:H l=some (.lst xs))(e:s.heap.get? l=some { cls:=.type "list",data:=.seq its.toArray n })(hf:f its.toArray=its'.toArray)(hv:aZ ys its')(hz:ys.length<=sizeLine):
  aG X ae σ (upd H l (.lst ys)) { s with heap:=s.heap.update l (Obj.mapSeq f),toks:=t' }:=by
 have q:=PySem.IsL.update e f;rw[hf] at q;refine I.write (x:=l) (e:=l) (by rw[hH];exact trivial) (.inl rfl) (fun b' u hb hu=>(rk s.heap (Obj.mapSeq f) (ck hb)).trans hu) ⟨_,q⟩ ?_;exact⟨hz,its',_,hv,q⟩
theorem aG.So(I:aG X ae σ H s)(hv:aZ ys its)(hz:ys.length<=sizeLine):
  aG X ae σ (upd H s.heap.objs.size (.lst ys)) { s with heap:=s.heap.push { cls:=.type "list",data:=.seq its.toArray },toks:=t' }:=
 I.laid (fun _ _ q=>a8 _ q) (aX _) ⟨hz,its,0,hv,bz _ rfl⟩
theorem aG.fresh(I:aG X ae σ H s):H s.heap.objs.size=none:=I.cf.fresh (aX _)
theorem aG.Kk(I:aG X ae σ H s)(hH:H l=some (.lst xs)):xs.length<=sizeLine/\∃ (its:List Value) (n:Nat),aZ xs its/\xs.length=its.length/\s.heap.get? l=some { cls:=.type "list",data:=.seq its.toArray n }:=by
 obtain⟨z,its,n,r,e⟩:=I.cf l _ hH;exact⟨z,its,n,r,r.length,e⟩
end
section
variable {X:Cx}
def Kl:V->List V->Hp->VK->Prop:=fun x vs H Q=>∃l xs y,x=.ref l/\vs=[y]/\H l=some (.lst xs)/\xs.length<sizeLine/\Q .bR (upd H l (.lst (xs++[y])))
theorem cI:MtM X "list.append" Kl:=by
 intro ae s σ H x vs v us Q I rx rv h;obtain⟨l,xs,y,rfl,rfl,hH,hz,q⟩:=h;cases rx;obtain⟨u,rfl,ru⟩:=rv.one;obtain⟨z,its,n,r,hl,e⟩:=I.Kk hH;refine call_meets F.slot_list_append ⟨_,e,rfl⟩ F.entry_list_append (F.args_list_append_2 _ _) (PySem.list_append l its.toArray n u (by rw[c_];lia)) ⟨e,?_⟩;refine⟨.bR,_,I.Sm (its':=its++[u]) hH e (by simp) (r.append (.cons ru .nil)) ?_,rfl,q⟩;rw[dU,List.length_singleton];lia
def Xq:R2:=fun x y H Q=>∃l b xs zs,x=.ref l/\y=.ref b/\H l=some (.lst xs)/\H b=some (.lst zs)/\xs.length+zs.length<=sizeLine/\∀p,H p=none->Q (.ref p) (upd H p (.lst (xs++zs)))
theorem Oo:lX X (binaryOp .Add) Xq:=by
 intro ae s σ H x y v u Q I rx ry h;obtain⟨l,b,xs,zs,rfl,rfl,hH,hB,hz,q⟩:=h;cases rx;cases ry;obtain⟨z,its,n,r,hl,e⟩:=I.Kk hH;obtain⟨z2,F_,n2,r2,hl2,e2⟩:=I.Kk hB;refine PySem.P.add_list e e2 ?_ (by rw[c_,c_];lia);have ea:its.toArray++F_.toArray=(its++F_).toArray:=by simp
 rw[ea];exact⟨.ref _,_,I.So (t':=s.toks) (r.append r2) (by rw[dU];lia),rfl,q _ I.fresh⟩
end
section
variable {prog:Program} {w:World} {A:Around} {E:Value->Shared->Prop} {s:Shared}
end
section
variable {X:Cx}
end
end L2
namespace Att
open PySem PySem.W PySem.Calls PyProof.Rows
theorem qo:∀ (ns:List Int) (vs:List Value),WellAll P h vs (ns.map WData.int)->IntsAre vs ns:=by
 intro ns;induction ns with
 |nil=>
  intro vs w;rw[wc] at w;cases w;exact .nil
 |cons n ns ih=>
  intro vs w;rw[e_] at w;cases w with
  |cons a b=>
   cases a;exact .cons _ _ (ih _ b)
theorem DJ{l:OpenLaw}{n:Nat}(hn:l.most=some n){P:Params}{h:Heap}{args:List WData}{Ga:List Value}(Km:l.row.toRowW.claim.pre args=true)(Xr:WellAll P h Ga args):
  ∃a vs ns,Ga=[Value.ref a]/\args=[WData.list (ns.map WData.int)]/\h.get? a=some { cls:=.type "list",data:=.seq vs.toArray }/\IntsAre vs ns/\ns.length<=n:=by
 have hsh:WShape.hasAll [] args [.list .int]=true:=(pre_splitW Km).1;have hc:l.pre.holds [] { args:=args }=true:=(pre_splitW Km).2;obtain⟨d,r,rfl,h1,h2⟩:=hasAllW_cons hsh;obtain rfl:=hasAllW_nil h2;obtain⟨xs,rfl,h3⟩:=hasW_list h1;obtain⟨ns,rfl⟩:=items_int h3;have cY:ns.length<=n:=by
  unfold OpenLaw.pre at hc;have h4:(WTm.not (.lt (.lit (.int (n:Int))) (.len (.arg 0)))).holds [] { args:=[.list (ns.map .int)] }=true:=by
   have h4:=(holds_andW hc).1;rw[hn] at h4;exact h4
  have h5:=condW_of h4 (w_not (w_lt w_lit (w_len_list (w_arg rfl))));rw[aP] at h5;refine zP fun q=>?_;have q':(n:Int)<((ns.length:Nat):Int):=by lia
  first
   |(rw[bn q'] at h5;exact absurd h5 (by decide))
   |(simp at h5;lia)
 cases Xr with
 |cons w1 w2=>
  cases w2;cases w1 with
  |list ho xN=>exact⟨_,_,ns,rfl,rfl,ho,qo ns _ xN,cY⟩
theorem DK(l:OpenLaw)(args:List WData):l.row.toRowW.claim.post args (.bool true) args=true:=
 postW_of (r:=l.row.toRowW) (X:=(true==true))
  (show WShape.has [] (.bool true) .bool=true by first|rfl|decide|simp[WShape.has,WShape.arms,WShape.armsAll])
  (show (WTm.eq .res (.lit (.bool true))).value [] { args:=args,res:=some (.bool true),after:=args }=some (.bool (true==true)) from w_eq_bool (w_res rfl) w_lit) rfl
theorem xO{l:OpenLaw}{n:Nat}{q:Program}{uW:List Str}{XP:(Str->Option Value)->Heap->Prop}{YP:World->Heap->Prop}{d:DefRec}(hn:l.most=some n)(Sq:d.params.defaults=[])(call:∀ (w:World) (s₀ s₁:Shared) (mg mb:Str->Option Value) (fa:Addr) (o:Obj) (pm cd ni:Value) (a:Addr) (vs:List Value) (ns:List Int),
   Ground q uW [] XP w s₀ mg mb s₁.heap->YP w s₁.heap->
   s₁.heap.get? fa=some o->o.data=.func (docDef d.name d.params d.body d.scope pm cd ni)->s₁.heap.CodeRec cd d.name->mg d.name=some (.ref fa)->
   s₁.heap.get? a=some { cls:=.type "list",data:=.seq vs.toArray }->IntsAre vs ns->ns.length<=n->s₁.gens=#[]->
   codeAny (model l.prog w) callerA (.call (.ref fa) ⟨[.ref a],[]⟩) (fun r s'=>r=.ok (.ret (.bool true))/\OldK s₁.heap s'.heap/\s'.os=s₁.os/\AllBare s'.gens) s₁):
  WalkO q uW XP YP l.row.toRowW d [] (fun f vs=>PySem.call f vs):=by
 intro w s₀ s₁ mg mb G Y fa o pm cd ni dV kV ho hd ul hD Sr hg args Ga as Km abN hrd Xr Wk;obtain rfl:dV=.none:=Dflts.none hD Sq;obtain rfl:kV=.none:=Dflts.noKw hD;obtain⟨a,vs,ns,rfl,rfl,Op,Gb,cY⟩:=DJ hn Km Xr;refine enter_call (kD (call w s₀ s₁ mg mb fa o pm cd ni a vs ns G Y ho (fd_plain hd) ul Sr Op Gb cY hg) fun r s' hq=>?_);obtain⟨rfl,h2,h3,h4⟩:=hq;exact⟨.inl ⟨.bool true,.bool true,[],rfl,fun _=>rfl,.bool true,DK l _,fun _=>⟨List.Pairwise.nil,fun _ hm=>(nomatch hm)⟩⟩,h2,h3,h4⟩
section
variable {prog:Program} {w:World} {A:Around} {E:Value->Shared->Prop} {s:Shared} {K:Frag}
end
end Att
namespace L2
open PySem PySem.Spec PyProof.Rows
theorem pC:∀ {vs:List Value} {ns:List Int},IntsAre vs ns->aZ (ns.map V.int) vs
 |_,_,.nil=>.nil
 |_,_,.cons n t h=>.cons ⟨t,rfl⟩ (pC h)
def eS(s:Stmt)(j:Nat):Stmt:=match s with
 |.ClassDef _ _ _ body _ _ _ _ _ _ _=>body.getD j (.Pass ⟨0,0,0,0⟩)
 |_=>.Pass ⟨0,0,0,0⟩
def dz(s:Stmt):Arguments:=match s with
 |.FunctionDef _ a _ _ _ _ _ _ _ _=>a
 |_=>{ posonlyargs:=[],args:=[],vararg:=none,kwonlyargs:=[],kw_defaults:=[],kwarg:=none,defaults:=[] }
def cz(s:Stmt):List Stmt:=match s with
 |.FunctionDef _ _ b _ _ _ _ _ _ _=>b
 |_=>[]
def ao(s:Stmt):Scope:=match s with
 |.FunctionDef _ _ _ _ _ _ sc _ _ _=>sc
 |_=>{ kind:=.function,names:=[],isGenerator:=false,isCoroutine:=false }
abbrev ba:xw:=fun _ _ _ _ _ _=>False
abbrev E0:XK:=fun _ _ _=>False
theorem aE:i_ ba X E0:=fun _ _ _ _ _ _ _ h=>h.elim
structure eK(K:PySem.W.Frag)(x qual:Str)(st:Stmt)(f:Addr)(fd:FuncData):Prop where
 ex:∃ (oc:Value) (od:Option Addr) (kV ni pm:Value) (an:Option Addr) (dC ct:Value) (xI:Array (Option Value)),
  fd=PySem.W.fnOf x qual (dz st) (cz st) (ao st) .none kV ni pm an dC ct/\K.lookup f=some ⟨oc,od,.func fd,xI⟩/\PySem.W.codeIn K dC qual=true
 kp:PySem.W.keepIn K (.ref f)=true
section
variable {P:Program} {w:World} {K:PySem.W.Frag} {mg:Str->Option Value} {base:Heap}
theorem eK.ok{x qual:Str}{st:Stmt}{f:Addr}{fd:FuncData}{N ps:List Str}{k:Nat}{sp:Sp}(F:eK K x qual st f fd)(S:aA N ps (ao st))(len:∀vs H Q E,sp vs H Q E->vs.length=ps.length)(sf:∀ (dC:Value) (A:Around) (outer:List Env) (s:Shared) (H:Hp) (vs:List V) (Q:VK) (E:XK),bL k (A.deeper (envOfC qual (ao st) s.heap.objs.size f dC))->sp vs H Q E->
   ∃t,yY (jN ba P w K mg base N qual (ao st) f dC A outer s H E).MQ (cz st) t/\t { nx:=fun _ H'=>Q .bR H',rt:=Q } (start N vs) H):bi P w K mg base ba (k+1) f fd ps sp:=by
 obtain⟨oc,od,kV,ni,pm,an,dC,ct,xI,rfl,lk,ul⟩:=F.ex;refine F3 lk ul S len fun A outer s H vs Q E hr E8=>?_;obtain⟨t,h,q⟩:=sf dC A outer s H vs Q E hr E8;exact⟨t,h.MQ,q⟩
theorem eK.binds{x qual:Str}{st:Stmt}{f:Addr}{fd:FuncData}{ps:List Str}(F:eK K x qual st f fd)(h:∀ (kV ni pm:Value) (an:Option Addr) (dC ct:Value) (us:List Value),us.length=ps.length->bindArgs (PySem.W.fnOf x qual (dz st) (cz st) (ao st) .none kV ni pm an dC ct) ⟨us,[]⟩=pure (ps.zip us)):jo K fd ps []:=by
 obtain⟨oc,od,kV,ni,pm,an,dC,ct,xI,rfl,lk,ul⟩:=F.ex;exact .all (h kV ni pm an dC ct)
theorem sk{x qual:Str}{st:Stmt}{f:Addr}{oc:Value}{od an:Option Addr}{xI:Array (Option Value)}{kV ni pm dC ct:Value}(l:K.lookup f=some ⟨oc,od,.func (PySem.W.fnOf x qual (dz st) (cz st) (ao st) .none kV ni pm an dC ct),xI⟩)(c:PySem.W.codeIn K dC qual=true)(k:PySem.W.keepIn K (.ref f)=true):eK K x qual st f (PySem.W.fnOf x qual (dz st) (cz st) (ao st) .none kV ni pm an dC ct):=⟨⟨oc,od,kV,ni,pm,an,dC,ct,xI,rfl,l,c⟩,k⟩
end
section
variable {X:Cx}
theorem pv(i:Nat)(hN:X.N[i]?=some x:=by rfl)(hv:RM X.env.scope x:=by first|exact Or.inl rfl|exact Or.inr (Or.inl rfl)|exact Or.inr (Or.inr rfl))(hd:(x==("__debug__":Str))=false:=by decide)(ul:(x==("__classdict__":Str))=false:=by decide):PE X (.Name x pos) (br i):=N3 hN hv hd ul
end
theorem fW{A B:Prop}(h:B):if false=true then A else B:=by
 rw[aq bq];exact h
theorem gY{A B:Prop}(h:A):if true=true then A else B:=by
 rw[ak rfl];exact h
theorem iD{c A B:Prop}[Decidable c](h1:c->A)(h2:¬ c->B):if c then A else B:=by
 by_cases h:c
 .rw[ak h];exact h1 h
 .rw[aq h];exact h2 h
def az(H H':Hp):Prop:=∀b o,H b=some o->H' b=some o
theorem az.refl(H:Hp):az H H:=fun _ _ h=>h
theorem az.trans(a:az H H1)(b:az H1 H2):az H H2:=fun c o h=>b c o (a c o h)
theorem az.free(e:az H H')(h:H' l=Option.none):H l=Option.none:=by
 cases q:H l with
 |none=>rfl
 |some o=>
  rw[e l o q] at h;cases h
def Gc(src:List (Option Nat))(σ:St):St:=src.map fun o=>match o with|some j=>σ.getD j none|none=>none
theorem Kn{src:List (Option Nat)}{σ:St}{i:Nat}{v:V}(h:(Gc src σ)[i]?=some (some v)):∃j,src[i]?=some (some j)/\σ[j]?=some (some v):=by
 unfold Gc at h;rw[bJ] at h;cases e:src[i]? with
 |none=>rw[e] at h;cases h
 |some o=>
  rw[e] at h;cases o with
  |none=>cases h
  |some j=>
   refine⟨j,rfl,?_⟩;have h':σ.getD j none=some v:=bg h;rw[cq] at h';cases e2:σ[j]? with
   |none=>rw[e2] at h';cases h'
   |some o=>rw[e2] at h';rw[show o=some v from h']
structure eM(NB:List Str)(src:List (Option Nat))(scope:Scope)(X:Cx):Prop where
 kind:scope.kind=.function
 nd:NB.Nodup
 len:src.length=NB.length
 cells:∀y∈scope.names,y.2=.cell->scope.names.lookup y.1=some .cell
 names:∀y∈scope.names,y.2=.local->scope.names.lookup y.1=some .local
 free:∀y∈scope.names,y.2=.free->X.env.scope.names.lookup y.1=some .cell\/X.env.scope.names.lookup y.1=some .free
 src:∀ (i:Nat) (x:Str) (j:Nat),NB[i]?=some x->src[i]?=some (some j)->X.N[j]?=some x/\scope.names.lookup x=some .free
def wn(scope:Scope)(x:Str):Bool:=match scope.names.lookup x with
 |some .cell=>true
 |_=>false
theorem xP:wn scope x=true↔scope.names.lookup x=some .cell:=by
 unfold wn;split
 .rename_i h;exact⟨fun _=>h,fun _=>rfl⟩
 .rename_i h;exact⟨fun z=>(by cases z),fun z=>absurd z h⟩
def nW(X:Cx)(NB:List Str)(scope:Scope)(cl:List (Str×Addr))(C:Addr)(s₃:Shared)(H₃:Hp)(fp:List Addr):Cx:=
 { X with N:=NB,s₀:=s₃,H₀:=H₃,env:=compEnvC scope cl C X.env,outer:=X.stack,stack:=X.stack,ex:=fp,fn:=wn scope,pn:=[],xe:=fun _ _=>False }
theorem mQ:∀ (names:List (Str×NameKind)) (d7:List (Str×Addr)),(∀y∈names,y.2=NameKind.free->∃c,env.cells.lookup y.1=some c)->(∀x c,d7.lookup x=some c->env.cells.lookup x=some c)->
  ∃cl,(forIn names d7 fun x r=>(if (x.2==NameKind.free)=true then (do let a <- cellOf env x.1;pure (ForInStep.yield ((x.1,a)::r))) else pure (ForInStep.yield r):Sem (ForInStep (List (Str×Addr)))))=(pure cl:Sem (List (Str×Addr)))/\
   (∀x c,cl.lookup x=some c->env.cells.lookup x=some c)/\(∀x c,d7.lookup x=some c->∃c',cl.lookup x=some c')/\∀x,(x,NameKind.free)∈names->∃c,cl.lookup x=some c
 |[],d7,_,ha=>⟨d7,by rw[oQ],ha,fun x c h=>⟨c,h⟩,fun x h=>nomatch h⟩
 |(n,k)::r,d7,hf,ha=>by
  by_cases hk:k=NameKind.free
  .subst hk;obtain⟨c,hc⟩:=hf (n,NameKind.free) bV rfl;have Ss:∀x c',((n,c)::d7).lookup x=some c'->env.cells.lookup x=some c':=fun x c' h=>by
    rw[gO] at h;cases hx:x==n with
    |true=>
     rw[hx] at h;cases h;have:x=n:=by simpa using hx
     rw[this];exact hc
    |false=>rw[hx] at h;exact ha x c' h
   obtain⟨cl,e1,e2,e3,e4⟩:=mQ r ((n,c)::d7) (fun y hy=>hf y (bU _ hy)) Ss;refine⟨cl,?_,e2,fun x c' h=>?_,fun x h=>?_⟩
   .rw[oN];have ec:cellOf env n=pure c:=by unfold cellOf;rw[hc]
    have e0:(if ((n,NameKind.free).2==NameKind.free)=true then (do let a <- cellOf env (n,NameKind.free).1;pure (ForInStep.yield (((n,NameKind.free).1,a)::d7))) else pure (ForInStep.yield d7):Sem (ForInStep (List (Str×Addr))))=pure (ForInStep.yield ((n,c)::d7)):=by
     rw[ak (show (NameKind.free==NameKind.free)=true by decide)];show cellOf env n >>= _=_;rw[ec];rfl
    rw[e0];exact e1
   .cases hx:x==n with
    |true=>exact e3 x c (by rw[gO,hx])
    |false=>exact e3 x c' (by rw[gO,hx];exact h)
   .rcases aV.mp h with h|h
    .cases h;exact e3 n c (by rw[gO];simp)
    .exact e4 x h
  .obtain⟨cl,e1,e2,e3,e4⟩:=mQ r d7 (fun y hy=>hf y (bU _ hy)) ha;refine⟨cl,?_,e2,e3,fun x h=>?_⟩
   .rw[oN];have hb:(k==NameKind.free)=false:=by simpa using hk
    have e0:(if ((n,k).2==NameKind.free)=true then (do let a <- cellOf env (n,k).1;pure (ForInStep.yield (((n,k).1,a)::d7))) else pure (ForInStep.yield d7):Sem (ForInStep (List (Str×Addr))))=pure (ForInStep.yield d7):=by
     rw[aq (by show ¬ (k==NameKind.free)=true;rw[hb];decide)]
    rw[e0];exact e1
   .rcases aV.mp h with h|h
    .cases h;exact absurd rfl hk
    .exact e4 x h
theorem iu(ok:X.Ok)(S:eM NB src scope X):
  ∃cl,closureFor scope X.env=pure cl/\(∀x c,cl.lookup x=some c->X.env.cells.lookup x=some c)/\∀x,(x,NameKind.free)∈scope.names->∃c,cl.lookup x=some c:=by
 obtain⟨cl,e1,e2,_,e4⟩:=mQ (env:=X.env) scope.names [] (fun y hy hk=>ok.has y.1 (S.free y hy hk)) (fun x c h=>nomatch h);refine⟨cl,?_,e2,e4⟩;unfold closureFor;simp only[bind_pure];exact e1
theorem wq(h:scope.names.lookup x=some .free):(relabel scope env).names.lookup x=some .cell\/(relabel scope env).names.lookup x=some .free:=by
 have go:∀names:List (Str×NameKind),names.lookup x=some .free->
   (names.map fun (n,k)=>if (k==NameKind.free&&env.scope.kind==.function&&env.kindOf n==some .cell) then (n,NameKind.cell) else (n,k)).lookup x=some .cell\/
   (names.map fun (n,k)=>if (k==NameKind.free&&env.scope.kind==.function&&env.kindOf n==some .cell) then (n,NameKind.cell) else (n,k)).lookup x=some .free:=by
  intro names;induction names with
  |nil=>intro h;simp at h
  |cons y r ih=>
   intro h;obtain⟨n,k⟩:=y;rw[gO] at h;rw[e_];cases hx:x==n with
   |true=>
    rw[hx] at h;cases h;by_cases hc:(NameKind.free==NameKind.free&&env.scope.kind==.function&&env.kindOf n==some .cell)=true
    .left;show List.lookup x ((if _ then _ else _)::_)=_;rw[ak hc,gO,hx]
    .right;show List.lookup x ((if _ then _ else _)::_)=_;rw[aq hc,gO,hx]
   |false=>
    rw[hx] at h;by_cases hc:(k==NameKind.free&&env.scope.kind==.function&&env.kindOf n==some .cell)=true
    .show List.lookup x ((if _ then _ else _)::_)=_\/List.lookup x ((if _ then _ else _)::_)=_;rw[ak hc,gO,hx];exact ih h
    .show List.lookup x ((if _ then _ else _)::_)=_\/List.lookup x ((if _ then _ else _)::_)=_;rw[aq hc,gO,hx];exact ih h
 exact go scope.names h
theorem nX(h:(relabel scope env).names.lookup x=some k)(hk:k=.cell\/k=.free):(x,NameKind.free)∈scope.names\/(x,NameKind.cell)∈scope.names:=by
 have m:=ku h;obtain⟨⟨n,k'⟩,hm,e⟩:=a9.mp m;by_cases q:(k'==NameKind.free&&env.scope.kind==.function&&env.kindOf n==some .cell)=true
 .have e':(n,NameKind.cell)=(x,k):=by simpa [q] using e
  have k1:k'=NameKind.free:=by
   simp only[gP,et] at q;exact q.1.1
  cases e';left;rw[<-k1];exact hm
 .have e':(n,k')=(x,k):=by simpa [q] using e
  cases e';rcases hk with z|z
  .subst z;exact .inr hm
  .subst z;exact .inl hm
theorem lF:∀ (names:List (Str×NameKind)) (h:Heap) (d7:List (Str×Addr)) (x:Str) (c:Addr),(cellsFrom h.objs.size names d7).lookup x=some c->d7.lookup x=some c\/(h.objs.size<=c/\(pushCells h names).IsCell c none)
 |[],_,_,_,_,e=>.inl e
 |(name,kind)::r,h,d7,x,c,e=>by
  unfold cellsFrom at e;unfold pushCells;split at e
  .rename_i hk;rw[ak hk];have hsz:(h.push { cls:=.type "cell",data:=.cell none }).objs.size=h.objs.size+1:=fh ..;rw[<-hsz] at e;rcases lF r _ _ x c e with z|⟨z1,z2⟩
   .rw[gO] at z;cases hx:x==name with
    |true=>
     rw[hx] at z;cases z;exact .inr ⟨aX _,_,rM r _ _ _ (bz _ rfl),rfl⟩
    |false=>rw[hx] at z;exact .inl z
   .exact .inr ⟨by lia,z2⟩
  .rename_i hk;rw[aq hk];exact lF r h d7 x c e
theorem uX:∀ (names:List (Str×NameKind)) (n:Nat) (d7:List (Str×Addr)) (x:Str),(x,NameKind.cell)∈names->∃c,n<=c/\(cellsFrom n names d7).lookup x=some c:=by
 have up:∀ (names:List (Str×NameKind)) (n m:Nat) (d7:List (Str×Addr)) (x:Str) (c:Addr),d7.lookup x=some c->m<=c->m<=n->∃c',m<=c'/\(cellsFrom n names d7).lookup x=some c':=by
  intro names;induction names with
  |nil=>intro n m d7 x c e h _;exact⟨c,h,e⟩
  |cons y r ih=>
   intro n m d7 x c e h hm;obtain⟨name,kind⟩:=y;unfold cellsFrom;split
   .cases hx:x==name with
    |true=>exact ih (n+1) m _ x n (by rw[gO,hx]) hm (by lia)
    |false=>exact ih (n+1) m _ x c (by rw[gO,hx];exact e) h (by lia)
   .exact ih n m d7 x c e h hm
 intro names;induction names with
 |nil=>intro n d7 x h;cases h
 |cons y r ih=>
  intro n d7 x h;obtain⟨name,kind⟩:=y;unfold cellsFrom;rcases aV.mp h with z|z
  .cases z;rw[ak (by decide)];exact up r (n+1) n _ x n (by rw[gO];simp) (aX _) (by lia)
  .split
   .obtain⟨c,h1,h2⟩:=ih (n+1) ((name,n)::d7) x z;exact⟨c,by lia,h2⟩
   .exact ih n d7 x z
theorem lG:∀ (names:List (Str×NameKind)) (n:Nat) (d7:List (Str×Addr)) (x:Str) (c:Addr),d7.lookup x=some c->(x,NameKind.cell)∉names->(cellsFrom n names d7).lookup x=some c
 |[],_,_,_,_,e,_=>e
 |(name,kind)::r,n,d7,x,c,e,h=>by
  have hr:(x,NameKind.cell)∉r:=fun z=>h (bU _ z);unfold cellsFrom;split
  .rename_i hk;have lR:(x==name)=false:=by
    cases hx:x==name with
    |false=>rfl
    |true=>
     have e1:x=name:=by simpa using hx
     have e2:kind=.cell:=by simpa using hk
     exact absurd (by rw[e1,e2];exact bV) h
   exact lG r (n+1) _ x c (by rw[gO,lR];exact e) hr
  .exact lG r n d7 x c e hr
theorem pD:∀ (names:List (Str×NameKind)) (n:Nat) (d7:List (Str×Addr)),(∀x y c,d7.lookup x=some c->d7.lookup y=some c->x=y)->(∀x c,d7.lookup x=some c->c<n)->∀x y c,(cellsFrom n names d7).lookup x=some c->(cellsFrom n names d7).lookup y=some c->x=y
 |[],_,_,hi,_=>hi
 |(name,kind)::r,n,d7,hi,hl=>by
  unfold cellsFrom;split
  .refine pD r (n+1) _ (fun x y c h1 h2=>?_) (fun x c h=>?_)
   .rw[gO] at h1 h2;cases hx:x==name <;> cases hy:y==name <;> rw[hx] at h1 <;> rw[hy] at h2
    .exact hi x y c h1 h2
    .cases h2;exact absurd (hl x _ h1) (ie _)
    .cases h1;exact absurd (hl y _ h2) (ie _)
    .have e1:x=name:=by simpa using hx
     have e2:y=name:=by simpa using hy
     rw[e1,e2]
   .rw[gO] at h;cases hx:x==name <;> rw[hx] at h
    .exact dN (hl x c h)
    .cases h;exact kq _
  .exact pD r n d7 hi hl
section
variable {X:Cx} {ae:List (Addr×Obj)} {σ:St} {H:Hp} {s:Shared} {NB:List Str} {src:List (Option Nat)} {scope:Scope} {cl:List (Str×Addr)} {fp:List Addr} {h₁:Heap} {t₁:Nat}
theorem Cd(I:aG X ae σ H s)(S:eM NB src scope X)(c1:∀x c,cl.lookup x=some c->X.env.cells.lookup x=some c)(c2:∀x,(x,NameKind.free)∈scope.names->∃c,cl.lookup x=some c)(hf:∀b∈fp,fA X ae H b)(Su:∀b∈fp,b<s.heap.objs.size){m:Str->Option Value}(hn:h₁.Ns s.heap.objs.size m)(hk:∀b o,s.heap.get? b=some o->h₁.get? b=some o)(wr:∀x c,(cellsFrom (s.heap.objs.size+1) scope.names cl).lookup x=some c->cl.lookup x=some c\/(s.heap.objs.size<c/\h₁.IsCell c none)):
  aG (nW X NB scope (cellsFrom (s.heap.objs.size+1) scope.names cl) s.heap.objs.size s H fp) [] (Gc src σ) H { s with heap:=h₁,toks:=t₁ }:=by
 have JE:∀b∈o8 X.stack,b∈X.env.locals::X.fs:=I.rX;have Ge:∀x c,cl.lookup x=some c->∃v,s.heap.IsCell c v:=fun x c e=>I.cell x c (c1 x c e);have Xs:∀x c,cl.lookup x=some c->c<s.heap.objs.size:=fun x c e=>by obtain⟨v,o,ho,_⟩:=Ge x c e;exact aL ho
 refine⟨⟨I.ok.mod,S.kind,I.ok.glob,I.ok.blt,aX _,pD _ _ _ (fun x y c e1 e2=>I.ok.inj x y c (c1 x c e1) (c1 y c e2)) (fun x c e=>dN (Xs x c e)),fun x hx=>?_,fun x c z e=>?_,I.ok.hd,I.ok.frames,.inl rfl,fun b hb=>⟨?_,fun x c e=>?_⟩,I.bs,bj I.ok.JF I.sz,fun b o e hb=>?_,fun b hb=>?_,I.stack,I.wg⟩,
  rfl,I.bare,Un.kept hk,⟨m,hn,fun i x v e1 e2 e3=>?_⟩,fun x c e=>?_,I.cf.fresh (aX _),fun x c e=>?_,fun p hp=>absurd (show p∈([]:List (Addr×Obj)) from hp) (by simp),I.cf.kept hk,?_⟩
 .have Ko:(x,NameKind.free)∈scope.names\/(x,NameKind.cell)∈scope.names:=by
   rcases hx with hx|hx
   .exact nX hx (.inl rfl)
   .exact nX hx (.inr rfl)
  by_cases hc:(x,NameKind.cell)∈scope.names
  .obtain⟨c,_,e⟩:=uX scope.names (s.heap.objs.size+1) cl x hc;exact⟨c,e⟩
  .rcases Ko with z|z
   .obtain⟨c,e⟩:=c2 x z;exact⟨c,lG _ _ _ _ _ e hc⟩
   .exact absurd z hc
 .have hm:=ku (xP.mp z);obtain⟨c',h1,h2⟩:=uX scope.names (s.heap.objs.size+1) cl x hm;have e':(cellsFrom (s.heap.objs.size+1) scope.names cl).lookup x=some c:=e;rw[h2] at e';cases e';exact Nat.le_of_succ_le h1
 .exact aY (Su b hb)
 .rcases wr x c e with z|⟨z,_⟩
  .exact(hf b hb).2.2.2.2.1 x c (c1 x c z)
  .exact ig (wb (Su b hb) z)
 .rcases(hf b hb).2.2.2.1 with z|z
  .exact I.ok.rW b o e z
  .exact absurd (bA (aL e) (bj I.ok.JF z)) (ie _)
 .intro z;rcases aV.mp (JE b z) with e|e
  .exact(hf b hb).2.1 e
  .exact(hf b hb).2.2.1 e
 .obtain⟨j,hj,hv⟩:=Kn e2;obtain⟨hN,hF⟩:=S.src i x j e1 hj;obtain⟨m0,JN,hl0⟩:=I.loc;have uC:=ku hF;have kx:=S.free _ uC rfl;have W9:RM X.env.scope x:=by
   rcases kx with z|z
   .exact .inr (.inl z)
   .exact .inr (.inr z)
  obtain⟨u,r,l⟩:=hl0 j x v hN hv W9;refine⟨u,r,.inr ⟨wq hF,?_⟩⟩;obtain⟨c,hc⟩:=c2 x uC;have hnc:(x,NameKind.cell)∉scope.names:=fun z=>by
   have:=S.cells _ z rfl;rw[hF] at this;cases this
  refine⟨c,lG _ _ _ _ _ hc hnc,?_⟩;rcases l with ⟨hk',_⟩|⟨_,c',e,z⟩
  .have Sv:X.env.scope.names.lookup x=some .local:=hk';rcases kx with z|z <;> (rw[z] at Sv;cases Sv)
  .rw[c1 x c hc] at e;cases e;obtain⟨o,ho,hd⟩:=z;exact⟨o,hk _ _ ho,hd⟩
 .rcases wr x c e with z|⟨_,z⟩
  .obtain⟨v,o,ho,hd⟩:=Ge x c z;exact⟨v,o,hk _ _ ho,hd⟩
  .exact⟨none,z⟩
 .rcases wr x c e with z|⟨z,_⟩
  .exact I.lW x c (c1 x c z)
  .exact I.cf.fresh (jF z)
 .show (Gc src σ).length=NB.length;unfold Gc;rw[aP];exact S.len
theorem aG.MW(I:aG X ae σ H s)(J:aG (nW X NB scope cl C s H fp) [] σB H' s')(hf:∀b∈fp,fA X ae H b):aG X ae σ H' s':=by
 refine I.RT (ch:=fp) J.os J.base J.cf J.bare fun b hb=>?_;obtain⟨_,f1,_,f3,f4,f5⟩:=hf b hb;exact⟨f3,f1,f4,f5⟩
end
def JO(X:Cx)(oz:List Expr)(t:TT):Prop:=
 ∀ (ae:List (Addr×Obj)) (s:Shared) (σ:St) (H:Hp) (Q:Bool->Hp->Prop),aG X ae σ H s->t σ H Q->
  wpAny (model X.prog X.w) X.A (forIn oz true fun c r=>if r=true then do let ok <- isTrue c X.env (eval c X.env);pure (ForInStep.yield ok) else pure (ForInStep.yield r)) (TP X ae σ Q) X.xe s
def Gg:TT:=fun _ H Q=>Q true H
theorem d_:JO X [] Gg:=fun _ _ _ H _ I h=>wpAny_tests_nil ⟨H,I,h⟩
theorem eT(h:PT X c t):JO X [c] t:=fun ae s σ H Q I q=>wpAny_tests_one (h ae s σ H Q I q)
def gR(J:It)(g:TG)(tt:TT)(te:TE)(D:Addr)(cH:Hp->Prop)(σB:St)(H1:Hp):Prop:=
 ∃W:Nat->Nat->St->Hp->Prop,(∃m,W 0 m σB H1)/\∀i m σ H,W i m σ H->(J.stop i H/\cH H)\/(J.go i H/\∀x H',J.FF i H x H'->g x σ H' fun σ2 H2=>tt σ2 H2 fun b H3=>
  if b=true then te σ2 H3 fun v H4=>∃ys,H4 D=some (.lst ys)/\ys.length<sizeLine/\∃m',m'<m/\W (i+1) m' σ2 (upd H4 D (.lst (ys++[v]))) else ∃m',m'<m/\W (i+1) m' σ2 H3)
def Aw(G:Hp->Prop)(J:It)(g:TG)(tt:TT)(te:TE)(D:Addr)(cH:Hp->Prop)(σB:St)(H1:Hp):Prop:=
 ∃W:Nat->Nat->St->Hp->Prop,(∃m,W 0 m σB H1)/\∀i m σ H,W i m σ H->G H/\((J.stop i H/\cH H)\/(J.go i H/\∀x H',J.FF i H x H'->g x σ H' fun σ2 H2=>tt σ2 H2 fun b H3=>
  if b=true then te σ2 H3 fun v H4=>∃ys,H4 D=some (.lst ys)/\ys.length<sizeLine/\∃m',m'<m/\W (i+1) m' σ2 (upd H4 D (.lst (ys++[v]))) else ∃m',m'<m/\W (i+1) m' σ2 H3))
theorem gR.g{J:It}{g:TG}{tt:TT}{te:TE}{D:Addr}{cH:Hp->Prop}{σB:St}{H1:Hp}(h:gR J g tt te D cH σB H1):Aw (fun _=>True) J g tt te D cH σB H1:=let ⟨W,a,b⟩:=h;⟨W,a,fun i m σ H w=>⟨trivial,b i m σ H w⟩⟩
theorem DL(hx:B.xe=fun _ _=>False)(hc:∀H,G H->B.calm=true\/J.Wi B.A H)(T:pf B.prog B.w B.K tg J fp it tn)(hg:PG B tg g)(ht:JO B oz tt)(he:PE B E_ te)(I:aG B [] σB H1 s)(st:tn 0 s.heap)(hf:∀b∈fp,fA B [] H1 b)(hw:Aw G J g tt te D cH σB H1)(hR:∀σ' H' s',aG B [] σ' H' s'->cH H'->R (.ok .next) s'):
  codeAny (model B.prog B.w) B.A (.compLoop (.ListComp E_ [⟨tg,iter,oz,0⟩] scope pos) 0 (.ref it) (.ref D) B.env) R s:=by
 obtain⟨W,⟨m0,w0⟩,Ah⟩:=hw;have rZ:∀ {H':Hp},(∀b∈fp,H' b=none)->∀b∈fp,fA B [] H' b:=fun hn b hb=>⟨hn b hb,(hf b hb).2⟩
 refine codeAny_loop rfl (fun n s'=>∃i σ' H',aG B [] σ' H' s'/\tn i s'.heap/\(∀b∈fp,H' b=none)/\W i n σ' H') ?_ m0 ⟨0,σB,H1,I,st,fun b hb=>(hf b hb).1,w0⟩;rintro n s3 ⟨i,σ3,H3,I3,xv,JJ,w3⟩;show wpAny _ B.A ((compTurn (.ListComp E_ [⟨tg,iter,oz,0⟩] scope pos) 0 (.ref it) (.ref D) B.env).onRaise (fun x=>do noteFrame x B.env;theTreesLotGoes x)) _ _ s3;refine wpAny_noted ?_;rw[compTurn_list];have nx:∀ {α:Type} {t:Sem α} {Q:α->Shared->Prop} {E':Value->Shared->Prop} {s:Shared},wpAny (model B.prog B.w) B.A t Q B.xe s->wpAny (model B.prog B.w) B.A t Q E' s:=fun h=>
  gv h (fun _ _ q=>q) fun _ _ z=>by rw[hx] at z;exact z.elim
 obtain⟨hG,Sw⟩:=Ah i n σ3 H3 w3;rcases Sw with ⟨stop,qn⟩|⟨go,step⟩
 .refine ai (i6 (ai (cy (T.done B rfl rfl rfl i [] s3 σ3 H3 _ (hc _ hG) I3 (rZ JJ) xv stop) fun r s4 ⟨hr,I4⟩=>?_)));subst hr;exact wpAny_pure (hR σ3 H3 s4 I4 qn)
 .refine ai (i6 (ai (cy (T.item B rfl rfl rfl i [] s3 σ3 H3 _ (hc _ hG) I3 (rZ JJ) xv go) fun r s4 ⟨u,hr,h4⟩=>?_)));subst hr;refine ai (cy h4 fun _ s5 ⟨x,H5,I5,r5,y5,um,R8⟩=>?_);have R9:=I5.pinned (rZ R8) (T.obj _ _ um);refine ai (nx (cy (hg _ s5 σ3 H5 x u _ R9 r5 (step x H5 y5)) fun _ s6 ⟨σ6,H6,I6,q6⟩=>?_));have back:∀ {σ7:St} {H7:Hp} {s7:Shared} {m':Nat},aG B ([]++pi fp s5.heap) σ7 H7 s7->m'<n->W (i+1) m' σ7 H7->∃m,m<n/\∃i σ' H',aG B [] σ' H' s7/\tn i s7.heap/\(∀b∈fp,H' b=none)/\W i m σ' H':=fun {σ7 H7 s7 m'} I7 hm w7=>by
   refine⟨m',hm,i+1,σ7,H7,I7.kN,T.keep _ _ _ um fun b hb o e=>(I7.pin (b,o) (hZ _ (hZ _ (fU hb e)))).1,fun b hb=>?_,w7⟩;obtain⟨o,e,d⟩:=T.obj _ _ um b hb;exact(I7.pin (b,o) (hZ _ (hZ _ (fU hb e)))).2.1
  refine ai (nx (cy (ht _ s6 σ6 H6 _ I6 q6) fun ok s7 ⟨H7,I7,q7⟩=>?_));cases ok with
  |false=>
   rw[aq bq] at q7;obtain⟨m',hm,w7⟩:=q7;exact wpAny_pure ⟨rfl,back I7 hm w7⟩
  |true=>
   rw[ak rfl] at q7;refine ai (ai (nx (cy (he _ s7 σ6 H7 _ I7 q7) fun v s8 ⟨y,H8,I8,r8,ys,hD,hl,m',hm,w8⟩=>?_)));refine ai (nx (cy (cI _ s8 σ6 H8 (.ref D) [y] (.ref D) [v] (fun _ H9=>H9=upd H8 D (.lst (ys++[y]))) I8 rfl (.cons r8 .nil) ⟨D,ys,y,rfl,rfl,hD,hl,rfl⟩) fun _ s9 ⟨_,H9,I9,_,e9⟩=>?_));subst e9;exact wpAny_pure (wpAny_pure ⟨rfl,back I9 hm w8⟩)
theorem nY(hQ:Q { scope:=scope,locals:=s.heap.objs.size,globals:=globals,cells:=cellsFrom (s.heap.objs.size+1) scope.names cl,qual:=qual,func:=none,code:=outer.code,frame:=outer.frame,builtins:=outer.builtins }
   { s with heap:=pushCells (s.heap.push { cls:=.type "dict",data:=.dict #[] }) scope.names }):
  wpAny M A (newFunctionEnv scope globals cl [] qual none .none (some outer)) Q E s:=by
 simp only[newFunctionEnv,Option.isSome_some,jI];refine ai (wpAny_alloc ?_);refine ai (wpAny_layCells _ (fun name kind cells=>by cases hkc:kind==NameKind.cell <;> simp[hkc]) _ _ _ _ ?_);rw[show ({ s with heap:=s.heap.push { cls:=.type "dict",data:=.dict #[] } }:Shared).heap.objs.size=s.heap.objs.size+1 from fh ..];refine ai ?_;rw[oQ];exact wpAny_pure (wpAny_pure hQ)
section
variable {X:Cx} {E_ tg iter:Expr} {oz:List Expr} {scope:Scope} {pos:Pos} {wi:TI} {g:TG} {tt:TT} {te:TE} {NB:List Str} {src:List (Option Nat)}
def MX(src:List (Option Nat))(wi:TI)(g:TG)(tt:TT)(te:TE):TE:=fun σ H Q=>wi σ H fun J H1=>∀D,H1 D=none->gR J g tt te D (fun H'=>Q (.ref D) H') (Gc src σ) (upd H1 D (.lst []))
theorem sq{ae:List (Addr×Obj)}{σ:St}{H2:Hp}{s2:Shared}{J:It}{fp:List Addr}{it:Addr}{tn:Nat->Heap->Prop}{cl:List (Str×Addr)}{cH:Addr->Hp->Prop}{E':Value->Shared->Prop}{RR:Value->Addr->Result->Shared->Prop}{G:Hp->Prop}(S:eM NB src scope X)(hc:∀H,G H->X.calm=true\/J.Wi X.A H)(c1:∀x c,cl.lookup x=some c->X.env.cells.lookup x=some c)(c2:∀x,(x,NameKind.free)∈scope.names->∃c,cl.lookup x=some c)(hg:∀cl C s₃ H₃ fp,PG (nW X NB scope cl C s₃ H₃ fp) tg g)(ht:∀cl C s₃ H₃ fp,JO (nW X NB scope cl C s₃ H₃ fp) oz tt)(he:∀cl C s₃ H₃ fp,PE (nW X NB scope cl C s₃ H₃ fp) E_ te)(I2:aG X ae σ H2 s2)(T:pf X.prog X.w X.K tg J fp it tn)(ow:tn 0 s2.heap)(f2:∀b∈fp,fA X ae H2 b)(hw:∀D,H2 D=none->Aw G J g tt te D (cH D) (Gc src σ) (upd H2 D (.lst [])))(hR:∀D C H' s',fA X ae H' C->aG X ae σ H' s'->(∃m,s'.heap.Ns C m)->cH D H'->RR (.ref D) C (.ok .next) s'):
  wpAny (model X.prog X.w) X.A (newList []) (fun d7 s₃=>wpAny (model X.prog X.w) X.A (newFunctionEnv scope X.env.globals cl [] X.env.qual none .none (some X.env)) (fun Gh s₄=>
   codeAny (model X.prog X.w) X.A (.compStart (.ListComp E_ [⟨tg,iter,oz,0⟩] scope pos) 0 (.ref it) d7 { Gh with scope:=relabel scope X.env }) (RR d7 Gh.locals) s₄) E' s₃) E' s2:=by
 refine h_ (nY ?_);have I3:=I2.So (ys:=[]) (its:=[]) (t':=s2.toks) .nil (cr _);have hD:H2 s2.heap.objs.size=none:=I2.fresh;have fo:∀b∈fp,b<s2.heap.objs.size:=fun b hb=>by obtain⟨o,e,_⟩:=T.obj _ _ ow b hb;exact aL e
 have up:∀ {b:Addr},b∈fp->upd H2 s2.heap.objs.size (.lst []) b=H2 b:=fun {b} hb=>al (aY (fo b hb));have f3:∀b∈fp,fA X ae (upd H2 s2.heap.objs.size (.lst [])) b:=fun b hb=>⟨by rw[up hb];exact(f2 b hb).1,(f2 b hb).2⟩
 have hsz:(s2.heap.push { cls:=.type "list",data:=.seq ([]:List Value).toArray }).objs.size=s2.heap.objs.size+1:=by rw[fh]
 generalize Xt:({ s2 with heap:=s2.heap.push { cls:=.type "list",data:=.seq ([]:List Value).toArray } }:Shared)=s3 at I3 |-;have Sx:s3.heap=s2.heap.push { cls:=.type "list",data:=.seq ([]:List Value).toArray }:=by rw[<-Xt]
 have Sy:∀b∈fp,b<s3.heap.objs.size:=fun b hb=>by rw[Sx,hsz];exact dN (fo b hb)
 have Gi:(s3.heap.push { cls:=.type "dict",data:=.dict #[] }).objs.size=s3.heap.objs.size+1:=fh ..;have wr:∀x c,(cellsFrom (s3.heap.objs.size+1) scope.names cl).lookup x=some c->cl.lookup x=some c\/(s3.heap.objs.size<c/\(pushCells (s3.heap.push { cls:=.type "dict",data:=.dict #[] }) scope.names).IsCell c none):=fun x c e=>by
  rw[<-Gi] at e;rcases lF _ _ _ _ _ e with z|⟨z1,z2⟩
  .exact .inl z
  .exact .inr ⟨by rw[Gi] at z1;exact z1,z2⟩
 have Gj:=(Heap.Ns.new s3.heap (.type "dict")).keeps (rM scope.names _);have keep:∀b o,s3.heap.get? b=some o->(pushCells (s3.heap.push { cls:=.type "dict",data:=.dict #[] }) scope.names).get? b=some o:=fun b o e=>rM _ _ b o (a8 _ e);generalize hh1:pushCells (s3.heap.push { cls:=.type "dict",data:=.dict #[] }) scope.names=h₁ at wr Gj keep |-;have IB:aG (nW X NB scope (cellsFrom (s3.heap.objs.size+1) scope.names cl) s3.heap.objs.size s3 (upd H2 s2.heap.objs.size (.lst [])) fp) [] (Gc src σ) (upd H2 s2.heap.objs.size (.lst [])) { s3 with heap:=h₁,toks:=s3.toks }:=
  Cd I3 S c1 c2 f3 Sy Gj keep wr
 have Sz:tn 0 h₁:=T.keep 0 s2.heap h₁ ow fun b hb o e=>keep b o (by rw[Sx];exact a8 _ e);have fB:∀b∈fp,fA (nW X NB scope (cellsFrom (s3.heap.objs.size+1) scope.names cl) s3.heap.objs.size s3 (upd H2 s2.heap.objs.size (.lst [])) fp) [] (upd H2 s2.heap.objs.size (.lst [])) b:=fun b hb=>by
  refine⟨(f3 b hb).1,aY (Sy b hb),fun z=>?_,.inl hb,fun x c e=>(IB.ok.Wa b hb).2 x c e,fun p hp=>absurd (show p∈([]:List (Addr×Obj)) from hp) (by simp)⟩;rcases aV.mp (I3.rX b z) with e|e
  .exact(f3 b hb).2.1 e
  .exact(f3 b hb).2.2.1 e
 have loop:codeAny (model X.prog X.w) X.A (.compLoop (.ListComp E_ [⟨tg,iter,oz,0⟩] scope pos) 0 (.ref it) (.ref s2.heap.objs.size) (compEnvC scope (cellsFrom (s3.heap.objs.size+1) scope.names cl) s3.heap.objs.size X.env)) (RR (.ref s2.heap.objs.size) s3.heap.objs.size)
   { s3 with heap:=h₁,toks:=s3.toks }:=by
  refine DL (B:=nW X NB scope (cellsFrom (s3.heap.objs.size+1) scope.names cl) s3.heap.objs.size s3 (upd H2 s2.heap.objs.size (.lst [])) fp) rfl hc T (hg _ _ _ _ _) (ht _ _ _ _ _) (he _ _ _ _ _) IB Sz fB (hw _ hD) fun σ' H' s' J' q=>?_;obtain⟨m,hm,_⟩:=J'.loc;exact hR _ _ H' s' (I3.uB (aX _) J'.free) (I3.MW J' f3) ⟨m,hm⟩ q
 exact codeAny_compStart_list loop (T.self _ 0 _ _ _ Sz loop)
theorem dQ(S:eM NB src scope X)(hc:X.calm=true)(hi:PI X tg iter wi)(hg:∀cl C s₃ H₃ fp,PG (nW X NB scope cl C s₃ H₃ fp) tg g)(ht:∀cl C s₃ H₃ fp,JO (nW X NB scope cl C s₃ H₃ fp) oz tt)(he:∀cl C s₃ H₃ fp,PE (nW X NB scope cl C s₃ H₃ fp) E_ te)(hs:∀x,foldedSetIterable iter X.env x=pure x:=by intro _;rfl):PE X (.ListComp E_ [⟨tg,iter,oz,0⟩] scope pos) (MX src wi g tt te):=by
 intro ae s σ H Q I h;obtain⟨cl,Ax,c1,c2⟩:=iu I.ok S;rw[eval_ListComp];refine vB (use:=none) (cl:=cl) rfl hs Ax S.kind S.names (cy (hi ae s σ H _ I h) fun v s1 h1=>cy h1 fun Q_ s2 h2=>?_);obtain⟨it,fp,tn,J,H2,e,I2,T,ow,f2,hw⟩:=h2;subst e;refine sq (RR:=fun d7 C=>compPost (model X.prog X.w) X.A X.xe none (EP X ae σ Q) d7 C) S (G:=fun _=>True) (fun _ _=>.inl hc) c1 c2 hg ht he I2 T ow f2 (fun D hD=>(hw D hD).g) fun D C H' s' fC I' hm q=>?_;obtain⟨m,hm⟩:=hm;refine⟨m,hm,fun h' sb=>⟨.ref D,H',?_,rfl,q⟩⟩;obtain⟨g0,g1,_,g3,g4,g5⟩:=fC;exact I'.turned (t':=s'.toks) (fun b o hb e=>(sb.2 b hb).trans e) g0 g1 g3 g4 g5
theorem dR{i:Nat}{y:Str}{py Gk:Pos}(S:eM NB src scope X)(hc:X.calm=true)(hi:PI X tg iter wi)(hg:∀cl C s₃ H₃ fp,PG (nW X NB scope cl C s₃ H₃ fp) tg g)(ht:∀cl C s₃ H₃ fp,JO (nW X NB scope cl C s₃ H₃ fp) oz tt)(he:∀cl C s₃ H₃ fp,PE (nW X NB scope cl C s₃ H₃ fp) E_ te)(hN:X.N.Nodup)(Gm:X.N[i]?=some y)(hy:X.env.scope.names.lookup y=some .local)(Xu:swapsWith (.ListComp E_ [⟨tg,iter,oz,0⟩] scope pos) (some (.Name y py)) Gk.line X.env=pure true)(hs:∀x,foldedSetIterable iter X.env x=pure x:=by intro _;rfl):
  PS X (.Assign [.Name y py] (.ListComp E_ [⟨tg,iter,oz,0⟩] scope pos) Gk) (J5 (MX src wi g tt te) (bW i)):=by
 intro ae s σ H D0 I h;obtain⟨cl,Ax,c1,c2⟩:=iu I.ok S;rw[exec_Assign_Name_used _ _ _ _ Xu];refine ai (i6 (ai ?_));show wpAny _ X.A (do let _ <- comprehension (.ListComp E_ [⟨tg,iter,oz,0⟩] scope pos) scope X.env _ (newList []) false (eval iter X.env) (some (assign (.Name y py) X.env))) _ _ s;refine ai (gv (vB (use:=some (assign (.Name y py) X.env)) (Q:=fun _ s'=>SP X ae D0 .next s') (cl:=cl) rfl hs Ax S.kind S.names
  (cy (hi ae s σ H _ I h) fun v s1 h1=>cy h1 fun Q_ s2 h2=>?_)) (fun _ s' hq=>wpAny_pure (wpAny_pure hq)) fun _ _ e=>e)
 obtain⟨it,fp,tn,J,H2,e,I2,T,ow,f2,hw⟩:=h2;subst e;refine sq (RR:=fun d7 C=>compPost (model X.prog X.w) X.A X.xe (some (assign (.Name y py) X.env)) (fun _ s'=>SP X ae D0 .next s') d7 C) S (G:=fun _=>True) (fun _ _=>.inl hc) c1 c2 hg ht he I2 T ow f2 (fun D hD=>(hw D hD).g) fun D C H' s' fC I' hm q=>?_;obtain⟨m,hm⟩:=hm;obtain⟨g0,g1,_,g3,g4,g5⟩:=fC;show wpAny _ X.A (assign (.Name y py) X.env (.ref D)) _ _ _;refine z0 (o9 I' hN Gm (.inl hy) (v:=.ref D) rfl (fun F2 Xv sb=>?_) (.inr hy));obtain⟨a,sb,ha⟩:=sb;have lR:C≠a:=by
  rcases ha with z|z
  .rw[z];exact g1
  .exact fun z'=>g4 y a z z'.symm
 refine⟨m,hm.sameBut sb lR,fun h' Xw=>⟨_,H',Xv.turned (t':=F2.toks) (fun b o hb e=>(Xw.2 b hb).trans e) g0 g1 g3 g4 g5,q⟩⟩
end
structure SA(P:Program)(w:World)(outer:List Env)(H:Hp)(s:Shared)(B:Heap)(p:Addr)(C a0:Value)(H':Hp)(s':Shared):Prop where
 os:s'.os=s.os
 bare:AllBare s'.gens
 cf:kI P w H' B
 keep:∀b o,s.heap.get? b=some o->H b=none->b∉o8 outer->B.get? b=some o/\H' b=none
 frame:∀b o,s.heap.get? b=some o->H b=none->b∈o8 outer->(∃sl,s'.heap.get? b=some { o with slots:=sl })/\H' b=none
 there:∀b o,s.heap.get? b=some o->H b≠none->∃o',B.get? b=some o'
 mE:∀b xs,H b=some (.tup xs)->H' b=some (.tup xs)
 o6:∀b o u,H b=some (.mC o u)->H' b=some (.mC o u)
 o7:∀b ps,H b=some (.qI ps)->∃more,H' b=some (.qI (ps++more))
 fl:Dv B outer p C s'.heap
def iE(P:Program)(w:World):xw:=fun outer H s E e s'=>∃p C a0 B H',e=.ref p/\SA P w outer H s B p C a0 H' s'/\E C none H'
section
variable {P:Program} {w:World} {K:PySem.W.Frag} {mg:Str->Option Value} {base:Heap} {N:List Str} {qual:Str} {scope:Scope} {f:Addr} {cd:Value} {A:Around} {outer:List Env} {s:Shared} {H:Hp} {E:XK}
abbrev Rg(h:Heap)(l:List Env):Heap:=PySem.W.hideAll h (o8 l)
theorem Kp{l:List Env}{H1:Hp}{h:Heap}(ok:kI P w H1 h)(nf:∀b∈o8 l,H1 b=none):kI P w H1 (Rg h l):=fun a o e=>by
 refine(ok a o e).nJ (fun b u hb q=>vI _ q fun z=>?_) (fun _ q=>q) fun _ _ q=>q;have n:=nf b z;rcases hb with rfl|hb
 .rw[n] at e;cases e
 .rw[n] at hb;cases hb
theorem kQ{ae:List (Addr×Obj)}{σ:St}{H1:Hp}{s1:Shared}{h':Heap}{e:Addr}{C:Value}{vs:List Value}(I:aG (jN (iE P w) P w K mg base N qual scope f cd A outer s H E) ae σ H1 s1)(hx:Heap.MadeExcOf s1.heap h' e C vs)(q:E C none H1):
  (jN (iE P w) P w K mg base N qual scope f cd A outer s H E).xe (.ref e) { s1 with heap:=h' }:=by
 have JE:o8 (envOfC qual scope s.heap.objs.size f cd::outer)=s.heap.objs.size::o8 outer:=rfl;have Xx:=I.stack;refine Ac (B:=Rg s1.heap (envOfC qual scope s.heap.objs.size f cd::outer)) (h:=s1.heap) (L:=s.heap.objs.size) I.ok.frames rfl (fun b o z=>PySem.W.of_hideAll _ z)
  (PySem.W.funFrames_hide Xx fun env he b hb=>mi.mpr ⟨env,he,hb⟩) hx fun h2 x1 x4=>?_
 have inB:∀b o,s1.heap.get? b=some o->b∉o8 outer->b<s.heap.objs.size->(Rg s1.heap (envOfC qual scope s.heap.objs.size f cd::outer)).get? b=some o:=fun b o z hb de=>
  vI _ z fun m=>by
   rw[JE] at m;rcases aV.mp m with z'|z'
   .exact absurd de (by rw[z'];exact ie _)
   .exact hb z'
 refine⟨e,C,.none,_,H1,rfl,⟨I.os,I.bare,Kp I.cf I.wg,fun b o z n hb=>⟨inB b o (I.base.keep b o z n hb (by intro m;exact absurd (show b∈([]:List Addr) from m) (by simp))) hb (aL z),I.base.free b o z n (by intro m;exact absurd (show b∈([]:List Addr) from m) (by simp))⟩,
  fun b o z n hb=>⟨?_,I.base.free b o z n (by intro m;exact absurd (show b∈([]:List Addr) from m) (by simp))⟩,fun b o z n=>?_,I.base.mE,I.base.o6,I.base.o7,x1⟩,q⟩
 .obtain⟨sl,z1⟩:=I.base.slot b o z n hb (by intro m;exact absurd (show b∈([]:List Addr) from m) (by simp));obtain⟨_,o',Af,nd⟩:=I.ok.nK.mem hb;have e':o'=o:=bg (Af.symm.trans z);subst e';obtain⟨sl2,z2⟩:=x4 b _ (hx.keeps _ _ z1) nd;exact⟨sl2,z2⟩
 .have nfr:b∉o8 (envOfC qual scope s.heap.objs.size f cd::outer):=fun m=>by
   rw[JE] at m;rcases aV.mp m with z'|z'
   .exact absurd (aL z) (by rw[z'];exact ie _)
   .exact n (I.ok.J2 b z')
  obtain⟨o',z1⟩:=I.base.there b o z (by intro m;exact absurd (show b∈([]:List Addr) from m) (by simp));exact⟨o',vI _ z1 nfr⟩
theorem uY{E':XK}(hE:∀C d H',E' C d H'->E C d H'):i_ (iE P w) (jN (iE P w) P w K mg base N qual scope f cd A outer s H E) E':=by
 intro ae σ H1 s1 e s' I h;obtain⟨p,C,a0,B,H',rfl,F,q⟩:=h;have JE:o8 (envOfC qual scope s.heap.objs.size f cd::outer)=s.heap.objs.size::o8 outer:=rfl;have rW:∀b:Addr,b∉(jN (iE P w) P w K mg base N qual scope f cd A outer s H E).ex:=fun b m=>absurd (show b∈([]:List Addr) from m) (by simp);have nst:∀b o,s.heap.get? b=some o->b∉o8 outer->b∉o8 (jN (iE P w) P w K mg base N qual scope f cd A outer s H E).stack:=fun b o z hb m=>by
  have m':b∈s.heap.objs.size::o8 outer:=m;rcases aV.mp m' with z'|z'
  .exact absurd (aL z) (by rw[z'];exact ie _)
  .exact hb z'
 show wpAny _ _ (leaving (envOfC qual scope s.heap.objs.size f cd) (.ref p)) _ _ s';refine Fy (outer:=outer) (L:=s.heap.objs.size) I.ok.frames rfl F.fl fun h2 x1 x2=>?_;refine⟨p,C,a0,B,H',rfl,⟨F.os.trans I.os,F.bare,F.cf,fun b o z n hb=>?_,fun b o z n hb=>?_,fun b o z n=>?_,fun b xs z=>F.mE b xs (I.base.mE b xs z),fun b o u z=>F.o6 b o u (I.base.o6 b o u z),fun b ps z=>?_,x1⟩,hE _ _ _ q⟩
 .exact F.keep b o (I.base.keep b o z n hb (rW b)) (I.base.free b o z n (rW b)) (nst b o z hb)
 .obtain⟨sl,z1⟩:=I.base.slot b o z n hb (rW b);have jq:b∈o8 (jN (iE P w) P w K mg base N qual scope f cd A outer s H E).stack:=bU _ hb;obtain⟨⟨sl2,z2⟩,n2⟩:=F.frame b _ z1 (I.base.free b o z n (rW b)) jq;obtain⟨_,o',Af,nd⟩:=I.ok.nK.mem hb;have e':o'=o:=bg (Af.symm.trans z);subst e';obtain⟨sl3,z3⟩:=x2 b _ z2 nd;exact⟨⟨sl3,z3⟩,n2⟩
 .obtain⟨o',z1⟩:=I.base.there b o z (rW b);have F5:b∉o8 outer:=fun m=>n (I.ok.J2 b m);cases n1:H1 b with
  |none=>exact⟨o',(F.keep b o' z1 n1 (nst b o z F5)).1⟩
  |some u=>exact F.there b o' z1 (by rw[n1];intro z';cases z')
 .obtain⟨m1,z1⟩:=I.base.o7 b ps z;obtain⟨m2,z2⟩:=F.o7 b _ z1;exact⟨m1++m2,by rw[z2,Array.append_assoc]⟩
theorem Oq:PassesOwn (model P w) (jN (iE P w) P w K mg base N qual scope f cd A outer s H E).A (jN (iE P w) P w K mg base N qual scope f cd A outer s H E).env (jN (iE P w) P w K mg base N qual scope f cd A outer s H E).xe:=by
 intro e s' h;exact PassesOwn.leaving (M:=model P w) (A:=A.deeper (envOfC qual scope s.heap.objs.size f cd)) (env:=envOfC qual scope s.heap.objs.size f cd) (Q₁:=fun e F2=>iE P w outer H s E e F2) (E₁:=fun e' F2=>iE P w outer H s E e' F2) e s' h
end
theorem kR{P:Program}{w:World}{X:Cx}:i_ (iE P w) X E0:=fun _ _ _ _ _ _ _ h=>by
 obtain⟨_,_,_,_,_,_,_,q⟩:=h;exact q.elim
open PySem PySem.Spec PyProof.Rows PySem.W
abbrev bmV:List Value:=[.type "ValueError",.type "Exception",.type "BaseException",.type "object"]
structure qr(K:PySem.W.Frag)(C:Addr):Prop where
 ex:PySem.W.excIn K C bmV "ValueError.__new__"=true
 kp:PySem.W.keepIn K (.ref C)=true
 ga:PySem.W.findIn K (.ref C) "__getattribute__"=some (some (.builtin "BaseException.__getattribute__"))
 gt:PySem.W.findIn K (.ref C) "__getattr__"=some none
 cl:PySem.W.findIn K (.ref C) "__class__"=some (some (.builtin "object.__class__"))
 mo:PySem.W.mroIn K C (.type "object")=some true
 mb:PySem.W.mroIn K C (.type "BaseException")=some true
 ty:(PySem.W.clsIn K C).isSome=true
theorem Gn{K:PySem.W.Frag}{h:Heap}{C:Addr}{bmB:List Value}{MZ:String}(X:K.In h)(q:PySem.W.excIn K C bmB MZ=true):
  ∃bm N nm qn bs hdct sn sub ab col dd k0 k1 k2 k3 k5 mN,h.get? C=some (excClassObj nm qn C N bs bm hdct sn sub ab col dd k0 k1 k2 k3 k5 MZ)/\h.Ns N mN/\mN "__init__"=none/\OwnTail h bmB bm:=by
 unfold PySem.W.excIn at q;split at q
 .rename_i dd cd sl ho;split at q
  .rename_i C' bm k0 k1 k2 k3 n k5 hm hs;simp only[gP,et,vP] at q;obtain⟨⟨⟨⟨⟨rfl,rfl⟩,SB⟩,ht⟩,cf⟩,Wl⟩:=q;obtain⟨nm,bs,mro,ns,qn,hd,sn,sub,ab,col,del⟩:=cd;dsimp only at hm SB cf Wl;subst hm SB;have Rh:sl=#[k0,k1,k2,k3,some (.builtin n),k5]:=by
    obtain⟨l⟩:=sl;simp only at hs;rw[hs]
   subst Rh;exact⟨bm,ns,nm,qn,bs,hd,sn,sub,ab,col,dd,k0,k1,k2,k3,k5,_,X _ _ ho,.of_isNs (isNs_of_in X cf),nsMap_none_of_in X cf Wl,tail_of_in X ht⟩
  .cases q
 .cases q
def Xy(p:Addr)(C:Value)(h:Heap):Prop:=∃o,h.get? p=some o/\o.cls=C/\∃vs,o.data=.fields vs/\vs[2]?=some .none
abbrev Xz(p:Addr)(C:Value):HO:=.ext (Xy p C)
theorem ce.get(x:ce P w H h a o):∃u,h.get? a=some u:=by
 cases o with
 |lst xs=>obtain⟨_,_,_,_,e⟩:=x;exact⟨_,e⟩
 |tup xs=>obtain⟨_,_,_,ob,e,_⟩:=x;exact⟨_,e⟩
 |dK kvs=>obtain⟨_,_,_,_,o,_,_,e,_⟩:=x;exact⟨_,e⟩
 |dT kvs=>obtain⟨_,_,_,_,o,_,_,e,_⟩:=x;exact⟨_,e⟩
 |set S n=>obtain⟨o,_,_,_,e,_⟩:=x;exact⟨_,e⟩
 |ins C dx fs=>obtain⟨_,_,_,e,_⟩:=x;exact⟨_,e⟩
 |own y=>exact x
 |xd fs=>obtain⟨_,⟨_,_,_,e,_⟩,_⟩:=x;exact⟨_,e⟩
 |BQ lo hi=>obtain⟨_,_,_,e⟩:=x;exact⟨_,e⟩
 |mC ob u=>obtain⟨e,_⟩:=x;exact⟨_,e⟩
 |qI ps=>exact⟨_,(show h.get? a=some _ from x)⟩
 |met f y=>exact⟨_,(show h.get? a=some _ from x)⟩
 |ext φ=>exact x.2.1
theorem kI.su(x:kI P w H h)(e:h.get? a=none):H a=none:=by
 cases q:H a with
 |none=>rfl
 |some u=>obtain⟨o,z⟩:=(x a u q).get;rw[e] at z;cases z
theorem aG.xQ(I:aG X ae σ H s)(k:∀b u,s.heap.get? b=some u->h'.get? b=some u)(hp:s.heap.get? a=none)(new:ce X.prog X.w (upd H a o) h' a o):
  aG X ae σ (upd H a o) { s with heap:=h',toks:=t' }:=by
 have hn:=I.cf.su hp;have ne:∀b u,s.heap.get? b=some u->b≠a:=fun b u e z=>by rw[z,hp] at e;cases e
 refine I.un ⟨fun b u e _ _ _=>k b u e,fun b u e _ _ _=>⟨u.slots,k b u e⟩,fun b u e n _=>by rw[al (ne b u e)];exact n,fun b u e _=>⟨u,k b u e⟩,fun b xs e=>by rw[al (ap e hn)];exact e,fun b u v e=>by rw[al (ap e hn)];exact e,fun b ps e=>⟨#[],by rw[al (ap e hn),e];simp⟩⟩ fun b u e=>?_;by_cases hb:b=a
 .subst hb;rw[ag] at e;cases e;exact new
 .rw[al hb] at e;exact(I.cf b u e).nJ (fun c v _ q=>k c v q) (fun c q=>by rw[al (ap q hn)];exact q) fun c xs q=>by rw[al (ap q hn)];exact q
section
variable {prog:Program} {w:World} {A:Around} {E:Value->Shared->Prop} {s:Shared} {K:PySem.W.Frag} {x C:Addr} {ox:Obj}
theorem Ce(hx:h.get? x=some ox)(hc:ox.cls=.ref C):PySem.W.Looks M h (typeOf (.ref x)) (.ref C):=hc ▸ (PySem.W.Looks.ld hx).andThen .now
open Builtin Builtin.ObjectAttr Builtin.Getset_descriptor in
theorem Ay(X:K.In s.heap)(hx:s.heap.get? x=some ox)(hc:ox.cls=.ref C)(hm:PySem.W.mroIn K C (.type "object")=some true)(h:R (.ok (.ret (.ref C))) s):codeAny (model prog w) A (.call (.builtin "getset_descriptor.__get__") ⟨[.builtin "object.__class__",.ref x,tp],[]⟩) R s:=by
 obtain⟨hh,g,dr,t,os⟩:=s;have L0:=Ce (M:=model prog w) hx hc;have L1:=looks_mroIn (M:=model prog w) X hm;refine vL KF.slot_gs.plain KF.entry_gs (KF.slot_gs.check _ _ _ _ _ _ _ _ KF.type_class (KF.args_gs _ _ _) ?_);unfold Builtin.«getset_descriptor.__get__» descrGet;rw[dga_obj];refine ai (wpAny_pure ?_);unfold descrGetter descrCheckInstance descrNameAndClass isInstance;simp only[KF.owner_class];repeat lk
 refine⟨zX _ (by decide +kernel),gu KF.entry_class ?_⟩;unfold Builtin.«object.__class__» shownTypeOf;repeat lk
 exact h
theorem DM{g d t os}(T:qr K C)(X:K.In h)(hx:h.get? x=some ox)(hc:ox.cls=.ref C)(hq:Q (.done (.ret (.ref C))) ⟨h,g,d,t,os⟩):
  wpAny (model prog w) A (Builtin.«object.__getattribute__» ⟨[.ref x,.str "__class__" tk],[]⟩) Q E ⟨h,g,d,t,os⟩:=by
 have f5:=F.typeOf_bexc_args;have hT5:(⟨h,g,d,t,os⟩:Shared).TypeIs (.builtin "object.__class__") "getset_descriptor":=Fl;have f5':=Fl;have f6:=F.slot_gs_get.lookup;have f7:=F.slot_gs_set.lookup;have L1:=looks_findIn (M:=model prog w) X T.cl;repeat (any_goals (first|assumption|(with_reducible refine zZ hx ?_;rw[hc])|with_reducible refine L1.at ?_|wp_step))
 refine Ay (s:=⟨h,g,d,t,os⟩) X hx hc T.mo ?_;repeat (any_goals (first|assumption|wp_step))
theorem DN{g d t os}(T:qr K C)(X:K.In h)(hx:h.get? x=some ox)(hc:ox.cls=.ref C)(hq:Q () ⟨h,g,d,t,os⟩):
  wpAny M A (checkBuiltinCall "BaseException.__getattribute__" ⟨[.ref x,SC],[]⟩) Q E ⟨h,g,d,t,os⟩:=by
 have hk:builtinKind "BaseException.__getattribute__"=some .slot:=by decide +kernel
 have Os:splitId "BaseException.__getattribute__"=some ("BaseException","__getattribute__"):=by decide +kernel
 have ha:=F.args_bexc_ga (.ref x) SC;have L1:=looks_mroIn (M:=M) X T.mb;simp only[checkBuiltinCall,hk,Os];refine ai ?_
 .unfold isInstance;repeat (first|(with_reducible refine zZ hx ?_;rw[hc])|with_reducible refine L1.at ?_|wp_step)
  exact hq
theorem Ot{tk:Tok}{fill Kb:Bool}{Q:Value->Shared->Prop}{h:Heap}{g d t os}(T:qr K C)(X:K.In h)(hx:h.get? x=some ox)(hc:ox.cls=.ref C)(hq:Q (.ref C) ⟨h,g,d,t,os⟩):
  wpAny (model prog w) A (getAttrBy (.ref x) (.str "__class__" tk) fill Kb) Q E ⟨h,g,d,t,os⟩:=by
 have f3:=F.attr_ValueError.ga.bind (.ref x);have hx0:(Kb&&onTheHeap (Value.builtin "BaseException.__getattribute__"))=false:=by cases Kb <;> rfl
 have hx2:(Value.builtin "BaseException.__getattribute__"==Value.builtin "object.__getattribute__")=false:=by decide +kernel
 have hx1:(onTheHeap (Value.ref C)&&Value.builtin "BaseException.__getattribute__"==Value.builtin "object.__getattribute__")=false:=by rw[hx2];rfl
 have L1:=looks_findIn (M:=model prog w) X T.ga;have L2:=looks_findIn (M:=model prog w) X T.gt;repeat (any_goals (first|assumption|(with_reducible refine zZ hx ?_;rw[hc])|with_reducible refine L1.at ?_|with_reducible refine L2.at ?_|wp_step))
 refine vL F.attr_ValueError.ga.plain F.entry_bexc_ga (DN T X hx hc (DM T X hx hc ?_));repeat (any_goals (first|assumption|wp_step))
theorem Go{Q:Option Value->Shared->Prop}{h:Heap}{g d t os}(T:qr K C)(X:K.In h)(hx:h.get? x=some ox)(hc:ox.cls=.ref C)(hq:Q (some (.ref C)) ⟨h,g,d,t+1,os⟩):
  wpAny (model prog w) A (getAttr? (.ref x) "__class__") Q E ⟨h,g,d,t,os⟩:=by
 unfold getAttr?;repeat (any_goals (first|assumption|with_reducible apply Ot T X hx hc|wp_step))
theorem Gp(T:qr K C):PySem.W.KitX K (.ref x) (.ref C) (Xy x (.ref C)) where
 ty:=fun _ _ _ ⟨o,e,c,_⟩=>Ce e c
 it:=fun _ _ X _=>by
  obtain⟨cdD,Kd⟩:=zd.mp T.ty;unfold clsIn at Kd;split at Kd
  .rename_i c' d' cd' WX ho;intro A' Q' E' s' k q;unfold isType loadHead;exact ai (wpAny_loadPart (k _ _ (X _ _ ho)) (wpAny_pure q))
  .cases Kd
 ne:=fun h tp dd its n sl X XA=>by
  obtain⟨cdD,Kd⟩:=zd.mp T.ty;refine iX.mpr fun q=>?_;have e:C=tp:=Value.ref.inj (et.mp q);subst e;unfold clsIn at Kd;split at Kd
  .rename_i c' d' cd' WX ho;have z:=(X _ _ ho).symm.trans XA;cases z
  .cases Kd
 ca:=fun {_ _ _ _ _ s} X ⟨o,e,c,_⟩ k=>by
  obtain⟨h,g,d,t,os⟩:=s;exact Go T X e c k
end
section
variable {X:Cx}
inductive Ri (K:PySem.W.Frag) (H:Hp):V->Value->Prop where
 |of {v:V} {t:Value} (h:pB K H v t):Ri K H v t
 |exc {p C:Addr} (T:qr K C) (e:H p=some (Xz p (.ref C))):Ri K H (.ref p) (.ref C)
def XB(K:PySem.W.Frag):List V->Hp->VK->Prop:=fun xs H Q=>∃x c cv t b,xs=[x,c]/\(c=.ty cv/\PySem.W.kitOne K t (.type cv)=some b)/\Ri K H x t/\Q (.bl b) H
theorem fq:fm X (.builtin "isinstance") (XB X.K):=by
 intro ae s σ H xs us Q I r h;obtain⟨x,c,cv,t,b,rfl,⟨rfl,e⟩,ty,q⟩:=h;obtain⟨u1,u2,rfl,r1,r2⟩:=r.two;obtain rfl:u2=Value.type cv:=r2;cases ty with
 |of ty=>exact DG I r1 ty e fun tk=>⟨.bl b,H,I.tok tk,rfl,q⟩
 |@exc p C T ea=>
  obtain rfl:u1=Value.ref p:=r1;have p1:Xy p (.ref C) s.heap:=(I.cf p _ ea).1;exact j7 (Gp T) I.pW p1 e (fun z=>nomatch z) fun tk=>⟨.bl b,H,I.tok tk,rfl,q⟩
end
section
variable {X:Cx} {x:Str} {C:Addr} {np qm pos:Pos} {e:Expr} {es:List Expr} {t:TA}
def Ou(q:Hp->Prop)(t:TA):TS:=fun _ σ H=>t σ H fun vs H1=>vs.length<=sizeLine/\q H1
theorem kS{q:Hp->Prop}(hc:X.calm=true)(T:qr X.K C)(hg:Gl X x)(hm:X.mg x=some (.ref C))(ha:PA X (e::es) t)(hxe:∀ (ae:List (Addr×Obj)) (σ:St) (H1:Hp) (s1:Shared) (h':Heap) (p:Addr) (vs:List Value),aG X ae σ H1 s1->Heap.MadeExcOf s1.heap h' p (.ref C) vs->q H1->X.xe (.ref p) { s1 with heap:=h' })(DH:(x==("__debug__":Str))=false:=by decide)(he:starEach (e::es) X.env=(false,eval e X.env)::starEach es X.env:=by rfl)(uO:(backTo qm (starEach (e::es) X.env)).any (·.1)=false:=by rfl):
  PS X (.Raise (some (.Call (.Name x np) (e::es) [] qm)) none pos) (Ou q t):=by
 intro ae s σ H D I h;obtain⟨bm,N,nm,qn,bs,hdct,sn,sub,ab,col,dd,k0,k1,k2,k3,k5,mN,hC,hN,Wl,TL⟩:=Gn I.ok.mod.Q8 T.ex;refine wpAny_Raise_call_subT (C:=C) (nm:=nm) (q:=qn) (N:=N) (bs:=bs) (bm:=bm) (hdct:=hdct) (sn:=sn) (sub:=sub) (ab:=ab) (col:=col) (dd:=dd) (k0:=k0) (k1:=k1) (k2:=k2) (k3:=k3) (k5:=k5)
  Fn (mN:=mN) (TL.hasType Fn.hasBase) (I.ok.hd hc) uO Wl (qK I hg hm ⟨rfl,?_⟩ DH)
 have h1:=ha qm ae s σ H _ I h;rw[he] at h1 |-;exact Calls.evalArgs_plain (gv h1 (fun us s2 ⟨vs,H2,I2,r,hl,z⟩=>⟨rfl,(by show us.length<=sizeLine;rw[<-r.length];exact hl),I2.bk _ _ hC,hN.keeps I2.bk,TL.keeps I2.bk,fun h' p m=>hxe ae σ H2 s2 h' p us I2 m z⟩) fun _ _ y=>y)
end
section
variable {X:Cx} {CX:xw} {k:Nat} {f C:Addr} {fd:FuncData} {ps:List Str} {sp:Sp} {qN:List V} {ds:List Value} {E:St->XK} {x m:Str} {p pos ql:Pos} {e o:Expr} {es:List Expr} {ta:TE} {t:TA}
end
section
variable {X:Cx} {CX:xw} {k:Nat} {f:Addr} {fd:FuncData} {ps:List Str} {sp:Sp} {qN:List V} {ds:List Value} {E:XK} {x:Str} {p pos:Pos} {e:Expr} {es:List Expr} {t:TA}
end
section
variable {P:Program} {w:World} {K:PySem.W.Frag} {mg:Str->Option Value} {base:Heap}
theorem eK.M0{x qual:Str}{st:Stmt}{f:Addr}{fd:FuncData}{N ps:List Str}{k:Nat}{sp:Sp}(F:eK K x qual st f fd)(S:aA N ps (ao st))(len:∀vs H Q E,sp vs H Q E->vs.length=ps.length)(sf:∀ (dC:Value) (A:Around) (outer:List Env) (s:Shared) (H:Hp) (vs:List V) (Q:VK) (E:XK),bL k (A.deeper (envOfC qual (ao st) s.heap.objs.size f dC))->sp vs H Q E->
   ∃t,yY (jN (iE P w) P w K mg base N qual (ao st) f dC A outer s H E) (cz st) t/\t { nx:=fun _ H'=>Q .bR H',rt:=Q } (start N vs) H):bi P w K mg base (iE P w) (k+1) f fd ps sp:=by
 obtain⟨oc,od,kV,ni,pm,an,dC,ct,xI,rfl,lk,ul⟩:=F.ex;exact F3 lk ul S len fun A outer s H vs Q E hr E8=>sf dC A outer s H vs Q E hr E8
end
section
variable {X:Cx} {ae:List (Addr×Obj)} {σ:St} {H:Hp} {s:Shared}
end
section
variable {X:Cx} {CX:xw} {k:Nat} {f:Addr} {fd:FuncData} {ps:List Str} {sp:Sp} {qN:List V} {ds:List Value} {E:XK} {x:Str} {p pos:Pos} {e:Expr} {es:List Expr} {t:TA}
end
section
variable {P:Program} {w:World} {K:PySem.W.Frag} {mg:Str->Option Value} {base:Heap}
end
theorem Cf{h:Heap}{a:Addr}{m m':Str->Option Value}(x:h.Ns a m)(y:h.Ns a m'):m=m':=by
 obtain⟨o,es,ep,e,d,_,q⟩:=x;obtain⟨o',es',Q9,e',d',_,q'⟩:=y;rw[e] at e';cases e';rw[d] at d';cases d';funext z;rw[<-q z,q' z]
theorem aG.SD{X:Cx}{ae:List (Addr×Obj)}{σ:St}{H:Hp}{s:Shared}{h':Heap}{m:Str->Option Value}{D:Addr}{o:HO}{t':Nat}(I:aG X ae σ H s)(F:Fr X.base X.env.locals s.heap m)(F':Fr X.base X.env.locals h' m)(N':News X.base X.env.locals h' (iL X.base s.heap X.env.locals))(hD:s.heap.get? D=none)(new:ce X.prog X.w (upd H D o) h' D o):aG X ae σ (upd H D o) { s with heap:=h',toks:=t' }:=by
 have hn:=I.cf.su hD;have ne:∀b u,s.heap.get? b=some u->b≠D:=fun b u e z=>by rw[z,hD] at e;cases e
 have keep:∀b u,b≠X.env.locals->s.heap.get? b=some u->h'.get? b=some u:=fun b u hb e=>by
  cases q:X.base.get? b with
  |some v=>
   have:=I.bk b v q;rw[e] at this;cases this;exact F'.keep b _ q
  |none=>exact(N' (b,u) (iM hb q e)).1
 refine I.step (g':=s.gens) (d':=s.drawn) (ch:=[]) (fun _ z=>absurd z (by simp)) (fun b u hb _ _ e _=>keep b u hb e) (fun b u hb _ _ e _=>⟨u.slots,keep b u hb e⟩) (fun b u _ e n=>by rw[al (ne b u e)];exact n) (fun b u _ e=>?_)
  (fun b xs e=>by rw[al (ap e hn)];exact e) (fun b u v e=>by rw[al (ap e hn)];exact e) (fun b ps e=>⟨#[],by rw[al (ap e hn),e];simp⟩) (fun m1 hm=>by rw[Cf hm F.ns];exact F'.ns) (fun b u e=>?_) I.bare
 .by_cases hb:b=X.env.locals
  .obtain⟨o',_,_,q,_⟩:=F'.ns;exact⟨o',by rw[hb];exact q⟩
  .exact⟨u,keep b u hb e⟩
 .by_cases hb:b=D
  .subst hb;rw[ag] at e;cases e;exact new
  .rw[al hb] at e;refine(I.cf b u e).nJ (fun c v hc q=>keep c v ?_ q) (fun c q=>by rw[al (ap q hn)];exact q) fun c xs q=>by rw[al (ap q hn)];exact q
   rintro rfl;rcases hc with z|hc
   .have f:=I.free;rw[z,e] at f;cases f
   .rw[I.free] at hc;cases hc
theorem uD(I:aG X ae σ H s)(N:News X.base X.env.locals h' ((D,o)::iL X.base s.heap X.env.locals))(de:∀q∈iL X.base s.heap X.env.locals,q.1<D):s.heap.get? D=none:=by
 cases e:s.heap.get? D with
 |none=>rfl
 |some u=>
  obtain⟨_,n1,n2⟩:=N (D,o) bV;exact absurd (de (D,u) (iM n1 n2 e)) (ie _)
def Gq(K:PySem.W.Frag)(H:Hp)(a:Addr)(y:Int×Int):Prop:=bh K H a [.int y.1,.int y.2]
section
variable {X:Cx}
theorem Az(I:aG X ae σ H s)(h:Gq X.K H a y):∃o n t u,s.heap.get? a=some o/\o.cls=.type "tuple"/\o.data=.seq #[.int y.1 t,.int y.2 u] n:=by
 obtain⟨its,r,p,_⟩:=I.tuple h;obtain⟨u1,u2,rfl,r1,r2⟩:=r.two;obtain⟨t,rfl⟩:=r1;obtain⟨t',rfl⟩:=r2;obtain⟨o,e,c,n,d⟩:=p;exact⟨o,n,t,t',e,c,d⟩
end
def Ov(hs:Array Int)(i:Nat):Int:=(hs[i]?).getD 0
def gh(hs:Array Int)(t:SetTable)(h:Int):Option (Array Int×SetTable):=
 if t.gaveWay then none else
 match t.probe (Ov hs) h (t.probeStart h) with
 |some (.empty j none)=>
  let q:=t.put j
  let Gr:=SetTable.insertAt hs q.2 h
  if q.1.fits Gr.size&&decide (Gr.size<=4096) then
   if q.1.tooFull then
    (match q.1.relaid Gr (SetTable.grown (hs.size+1)) with
    |some (t2,order)=>
     let uo:=order.filterMap (Gr[·]?)
     if uo.size==Gr.size&&t2.fits uo.size&&decide (SetTable.sizeAbove (SetTable.grown (hs.size+1))<=4096) then some (uo,t2) else none
    |none=>none)
   else some (Gr,q.1)
  else none
 |_=>none
def wu(led:Bool):List Int->Option (Array Int×SetTable):=fun l=>l.foldlM (fun q h=>gh q.1 q.2 h) (#[],SetTable.fresh 0 0 led)
def kT(h:Heap)(S:Addr)(hs:Array Int)(t:SetTable):Prop:=∃o es ep,h.get? S=some o/\o.cls=.type "set"/\(o.dict=none/\o.slots=#[])/\o.data=.set es ep t/\es.map (·.1)=hs/\t.fits es.size=true
section
variable {prog:Program} {w:World} {A:Around} {E:Value->Shared->Prop} {s:Shared} {S:Addr}
theorem Ow(es:Array (Int×Value)):(fun i=>(es[i]?.map (·.1)).getD 0)=Ov (es.map (·.1)):=by
 funext i;unfold Ov;rw[Array.getElem?_map]
theorem nZ(es:Array (Int×Value))(p:Nat)(x:Int×Value):(SetTable.insertAt es p x).map (·.1)=SetTable.insertAt (es.map (·.1)) p x.1:=by
 unfold SetTable.insertAt;simp
theorem pE(es:Array (Int×Value))(order:Array Nat):(order.filterMap (es[·]?)).map (·.1)=order.filterMap ((es.map (·.1))[·]?):=by
 apply Array.ext';rw[vR,rj,rj,List.map_filterMap];congr 1;funext i;rw[Array.getElem?_map]
theorem AA(hS:kT s.heap S hs t)(hg:t.gaveWay=false)(hp:t.probe (Ov hs) h (t.probeStart h)=some (.empty j none))(q:Q (.free j false) s):
  wpAny (model prog w) A (setSearch S x h true) Q E s:=by
 obtain⟨o,es,ep,ho,hc,hdi,hd,hm,hf⟩:=hS;unfold setSearch setSearchFrom;refine ai (jD ho hd hf ?_);dsimp only;rw[hg,aq bq];have Gs:t.probe (fun i=>(es[i]?.map (·.1)).getD 0) h (t.probeStart h)=some (.empty j none):=by rw[Ow,hm];exact hp
 refine ai (wpAny_pure ?_);erw[Gs];exact wpAny_pure q
theorem DO(ho:s.heap.get? a=some o)(hc:o.cls=.type "tuple")(hd:o.data=.seq #[.int x t,.int y u] n)(q:Q true s):
  wpAny (model prog w) A (hashByValue 8 (.ref a)) Q E s:=by
 have hT:s.TypeIs (.ref a) "tuple":=⟨_,ho,hc⟩
 unfold hashByValue;refine ai (vW hT PySem.F.slot_tuple_hash.lookup ?_);refine ai (fN ho hd ?_);refine ai ?_;show wpAny _ _ (forIn #[Value.int x t,Value.int y u] _ _) _ _ s;rw[<-Array.forIn_toList];refine wpAny_forIn_list _ (fun bZ r s'=>r.1=none/\s'=s/\∀v∈bZ,∃z k,v=Value.int z k) _ ?_ ?_ _ _ ⟨rfl,rfl,fun v hv=>?_⟩
 .rintro v bZ r s' ⟨hr,rfl,xN⟩;obtain⟨z,k,rfl⟩:=xN v bV;refine ai (wpAny_pure ?_);exact wpAny_pure ⟨rfl,rfl,fun u' Cg=>xN u' (bU _ Cg)⟩
 .rintro⟨r1,r2⟩ s' ⟨hr,rfl,_⟩;have Fa:r1=none:=hr;subst Fa;exact wpAny_pure q
 .rcases aV.mp hv with z|z
  .exact⟨_,_,z⟩
  .rcases aV.mp z with z|z
   .exact⟨_,_,z⟩
   .cases z
theorem Ch(hS:kT s.heap S hs t)(hf:t'.fits es'.size=true)(hz:es'.size<=4096)(q:∀h',Heap.SameBut S s.heap h'->kT h' S (es'.map (·.1)) t'->Q () { s with heap:=h' }):wpAny (model prog w) A (storeSet S es' t') Q E s:=by
 obtain⟨o,es,ep,ho,hc,hdi,hd,hm,_⟩:=hS;refine zY ho hd (q _ (vO s.heap S (Obj.putSet es' t')) ?_) (bj hz (by decide));have g:=oF (Obj.putSet es' t') ho (by rw[putSet_of es' t' hd];rfl);rw[putSet_of es' t' hd] at g;exact⟨_,es',ep+1,g,hc,hdi,rfl,rfl,hf⟩
theorem Kq(hu:A.units<cLine)(hS:kT s.heap S hs t)(ho:s.heap.get? a=some o)(hc:o.cls=.type "tuple")(hd:o.data=.seq #[.int x tx,.int y ty] n)(lR:a≠S)(iC:gh hs t (tupleKeyHash (intKind prog w) [x,y])=some (hs',t'))(q:∀h' tk,Heap.SameBut S s.heap h'->kT h' S hs' t'->Q true { s with heap:=h',toks:=tk }):wpAny (model prog w) A (setAdd S (.ref a)) Q E s:=by
 have hk:IsTupleKey (intKind prog w) s.heap [x,y] a:=⟨o,_,n,ho,hc,hd,.cons (intKind_is _ _ _ _) (.cons (intKind_is _ _ _ _) .nil)⟩
 unfold setAdd;refine gs (ai (wpAny_pyHash_tuple hu hk ?_));generalize Xg:s.toks+([x,y].length+1)=tk;generalize hh:tupleKeyHash (intKind prog w) [x,y]=h at iC |-;have hS0:=hS;obtain⟨ob,es,ep,hb,XC,hbd,JD,hm,hf⟩:=hS;unfold setAddHashed setAddHashedIn;refine gs (ai (jD (s:={ s with toks:=tk }) hb JD hf ?_));dsimp only;have Rj:byScan (.ref a) es=false:=by unfold byScan;rfl
 rw[Rj,aq bq];unfold gh at iC;cases hg:t.gaveWay with
 |true=>rw[hg,ak rfl] at iC;cases iC
 |false=>
  rw[hg,aq bq] at iC;split at iC
  .rename_i j hp;dsimp only at iC;split at iC
   .rename_i Wm;rw[gP,ml] at Wm;refine ai (AA (s:={ s with toks:=tk }) hS0 hg hp ?_);dsimp only;refine ai (jD (s:={ s with toks:=tk }) hb JD hf ?_);dsimp only;have byv:∀ {kk:Bool->Sem Bool},wpAny (model prog w) A (kk true) Q E { s with toks:=tk }->wpAny (model prog w) A (if (t.put j).1.plain=true then hashByValue 8 (.ref a) >>= kk else pure true >>= kk) Q E { s with toks:=tk }:=fun {kk} hP=>by
     split
     .exact ai (DO (s:={ s with toks:=tk }) ho hc hd hP)
     .exact ai (wpAny_pure hP)
    refine byv ?_;simp only[jI];have hsz:(SetTable.insertAt es (t.put j).2 (h,Value.ref a)).size=(SetTable.insertAt hs (t.put j).2 h).size:=by
     rw[<-hm,<-nZ es (t.put j).2 (h,Value.ref a),iZ]
    refine ai (Ch (s:={ s with toks:=tk }) hS0 (by rw[hsz];exact Wm.1) (by rw[hsz];exact Wm.2) fun h1 jB S1=>?_);rw[nZ,hm] at S1;split at iC
    .rename_i XD;rw[show (!false&&(t.put j).1.tooFull)=true by rw[XD];rfl,ak rfl];split at iC
     .rename_i t2 order hr;split at iC
      .rename_i hq;rw[gP,gP,ml,et] at hq;obtain⟨⟨M1,Wn⟩,hq3⟩:=hq;cases iC;have hes:es.size=hs.size:=by rw[<-hm,iZ]
       refine ai ?_;unfold setRelay;obtain⟨o1,ja,ep1,g1,g2,g3,g4,g5,g6⟩:=id S1;refine ai (jD (s:={ s with heap:=h1,toks:=tk }) g1 g4 g6 ?_);dsimp only;rw[hes];rw[aq (by (have h4:(4096:Nat)<=sizeLine:=by decide);lia)];refine ai ?_;rw[g5,hr];have pF:(order.filterMap (ja[·]?)).size=ja.size:=by
        have e1:=congrArg Array.size (pE ja order);rw[iZ,g5] at e1;rw[e1,M1,<-g5,iZ]
       refine fQ (show _=(pure (order.filterMap (ja[·]?),t'):Sem (Array (Int×Value)×SetTable)) from ?_) ?_
       .show (do
         let es':=order.filterMap (ja[·]?)
         if es'.size != ja.size then unsupported "internal:set-table-lost-an-element"
         pure (es',t'):Sem (Array (Int×Value)×SetTable))=_
        simp[pF]
       dsimp only;have SE:ja.size<=4096:=by
        have e1:=congrArg Array.size g5;rw[iZ] at e1;rw[e1];exact Wm.2
       have hfm:(order.filterMap (ja[·]?)).size=(order.filterMap ((SetTable.insertAt hs (t.put j).2 h)[·]?)).size:=by
        have e1:=congrArg Array.size (pE ja order);rw[iZ,g5] at e1;exact e1
       refine Ch (s:={ s with heap:=h1,toks:=tk }) S1 (by rw[hfm];exact Wn) (by rw[pF];exact SE) fun h2 iN S2=>?_;rw[pE,g5] at S2;exact wpAny_pure (q h2 tk (jB.trans iN) S2)
      .cases iC
     .cases iC
    .rename_i XD;cases iC;have XE:(t.put j).1.tooFull=false:=by simpa using XD
     rw[show (!false&&(t.put j).1.tooFull)=false by rw[XE];rfl,aq bq];exact wpAny_pure (q h1 tk jB S1)
   .cases iC
  .cases iC
end
section
variable {prog:Program} {w:World} {A:Around} {E:Value->Shared->Prop} {s:Shared} {S Ia l:Addr} {R:Result->Shared->Prop}
def jO(h:Heap)(vs:List Value)(ys:List (Int×Int)):Prop:=vs.length=ys.length/\∀i v,vs[i]?=some v->∃a o n t u,v=.ref a/\h.get? a=some o/\o.cls=.type "tuple"/\o.data=.seq #[.int (ys.getD i (0,0)).1 t,.int (ys.getD i (0,0)).2 u] n
theorem jO.keeps(p:jO h vs ys)(k:∀b o,(∃xs n,o.data=.seq xs n)->h.get? b=some o->h'.get? b=some o):jO h' vs ys:=
 ⟨p.1,fun i v e=>let ⟨a,o,n,t,u,e1,e2,c,d⟩:=p.2 i v e;⟨a,o,n,t,u,e1,k a o ⟨_,_,d⟩ e2,c,d⟩⟩
def ft(prog:Program)(w:World)(y:Int×Int):Int:=tupleKeyHash (intKind prog w) [y.1,y.2]
theorem Gu(hh:A.handled=none)(hu:A.units+1<cLine)(XF:l≠S)(XG:l≠Ia)(DP:S≠Ia):
  ∀ (k i:Nat) (s:Shared) (hs:Array Int) (t:SetTable),vs.length-i=k->i<=vs.length->s.heap.IsListIter Ia l i->s.heap.IsList l vs.toArray->jO s.heap vs ys->kT s.heap S hs t->
   ((ys.drop i).map (ft prog w)).foldlM (fun q h=>gh q.1 q.2 h) (hs,t)=some (hsN,tN)->
   (∀h' tk,(∀b o,b≠S->b≠Ia->s.heap.get? b=some o->h'.get? b=some o)->kT h' S hsN tN->R (.ok (.ret .none)) { s with heap:=h',toks:=tk })->
   codeAny (model prog w) A (.builtin "set.update.loop" ⟨[.ref S,.ref Ia],[]⟩) R s:=by
 intro k;induction k with
 |zero=>
  intro i s hs t hk hi iK hl hp hS hf hR;have e:i=vs.length:=by lia
  refine gu vt ?_;rw[jC uL _];show wpAny _ A.in1 (pyNext (.ref Ia) >>= _) _ _ s;refine ai (zy (show A.in1.handled=none from hh) iK hl (by simp;lia) fun h' eb=>?_);show wpAny _ A.in1 (ret Value.none) _ _ _;have hd:ys.drop i=[]:=by rw[List.drop_eq_nil_iff];have:=hp.1;lia
  rw[hd] at hf;cases hf;obtain⟨o,es,ep,q1,q2⟩:=hS;exact wpAny_pure (hR h' s.toks (fun b o hb Kr e=>eb b o Kr e) ⟨o,es,ep,eb S o DP q1,q2⟩)
 |succ k ih=>
  intro i s hs t hk hi iK hl hp hS hf hR;have de:i<vs.length:=by lia
  refine gu vt ?_;rw[jC uL _];show wpAny _ A.in1 (pyNext (.ref Ia) >>= _) _ _ s;have hv:vs[i]?=some vs[i]:=cZ de;refine ai (zq iK hl (x:=vs[i]) (by simpa using hv) fun h1 Ox jB=>?_);obtain⟨a,o,n,tx,ty,ea,eo,ec,ed⟩:=hp.2 i _ hv;rw[ea];have neI:∀b ob,(∃xs n,ob.data=.seq xs n)->s.heap.get? b=some ob->b≠Ia:=fun b ob ⟨xs,m,z⟩ e z'=>by
   obtain⟨oi,e1,_,d1⟩:=iK;rw[z',e1] at e;cases e;rw[d1] at z;cases z
  have M2:jO h1 vs ys:=hp.keeps fun b ob hb e=>(jB.2 b (neI b ob hb e)).trans e;have Wo:kT h1 S hs t:=by
   obtain⟨oS,es,ep,q1,q2⟩:=hS;exact⟨oS,es,ep,(jB.2 S DP).trans q1,q2⟩
  have Ks:h1.IsList l vs.toArray:=by
   obtain⟨ol,q1,q2⟩:=hl;exact⟨ol,(jB.2 l XG).trans q1,q2⟩
  have eo1:h1.get? a=some o:=(jB.2 a (neI a o ⟨_,_,ed⟩ eo)).trans eo;have neS:∀b ob,(∃xs n,ob.data=.seq xs n)->h1.get? b=some ob->b≠S:=fun b ob ⟨xs,m,z⟩ e z'=>by
   obtain⟨oS,es,ep,q1,_,_,q4,_⟩:=Wo;rw[z',q1] at e;cases e;rw[q4] at z;cases z
  have AB:i<ys.length:=by have:=hp.1;lia
  have XH:ys.drop i=ys[i]::ys.drop (i+1):=rb AB;have XI:ys.getD i (0,0)=ys[i]:=by rw[cq,cZ AB];rfl
  rw[XH,e_,List.foldlM_cons] at hf;cases iC:gh hs t (ft prog w ys[i]) with
  |none=>rw[iC] at hf;cases hf
  |some q=>
   obtain⟨uo,t2⟩:=q;rw[iC] at hf;have hf2:((ys.drop (i+1)).map (ft prog w)).foldlM (fun q h=>gh q.1 q.2 h) (uo,t2)=some (hsN,tN):=hf;show wpAny _ A.in1 (holding [Value.ref a] (setAdd S (.ref a)) >>= _) _ _ _;refine ai (gs (Kq (s:={ s with heap:=h1 }) (by show A.units+1<cLine;exact hu) Wo eo1 ec ed (neS a o ⟨_,_,ed⟩ eo1) (hs':=uo) (t':=t2) (by rw[XI];exact iC) fun h2 tk iN S2=>?_));refine wpAny_pure ⟨rS uL _,?_⟩;refine ih (i+1) { s with heap:=h2,toks:=tk } uo t2 (by lia) de ?_ ?_ (M2.keeps fun b ob hb e=>(iN.2 b (neS b ob hb e)).trans e) S2 hf2 fun h3 XJ k3 S3=>?_
   .obtain⟨oi,q1,q2⟩:=Ox;exact⟨oi,(iN.2 Ia (ck DP)).trans q1,q2⟩
   .obtain⟨ol,q1,q2⟩:=Ks;exact⟨ol,(iN.2 l XF).trans q1,q2⟩
   .exact hR h3 XJ (fun b ob hb Kr e=>k3 b ob hb Kr ((iN.2 b hb).trans ((jB.2 b Kr).trans e))) S3
theorem Gv{vs:List Value}{ys:List (Int×Int)}{hsN:Bool->Array Int}{tN:Bool->SetTable}{Q:Value->Shared->Prop}(hh:A.handled=none)(hu:A.units+8<cLine)(hl:s.heap.IsList l vs.toArray)(hp:jO s.heap vs ys)(DQ:∀led,wu led (ys.map (ft prog w))=some (hsN led,tN led))(h:∀ (led:Bool) (h':Heap) (tk:Nat),kT h' s.heap.objs.size (hsN led) (tN led)->(∀b o,b<s.heap.objs.size->s.heap.get? b=some o->h'.get? b=some o)->Q (.ref s.heap.objs.size) { s with heap:=h',toks:=tk }):
  wpAny (model prog w) A (call (.type "set") [.ref l]) Q E s:=by
 obtain⟨c,tl,XM⟩:=gN.mro;have c1:=gN.made;have c2:=gN.sub;refine rT (vY ?_);show wpAny _ _ (callAny (.type "set") _) _ _ _;refine wpAny_pure ⟨zX _ (by decide +kernel),gu PySem.F.entry_type_call ?_⟩;rw[Around.under_plain (weight_type_call_type "set" [.ref l] []) rfl];have c3:=gN.notType;have c4:=gN.canCreate;have c5:=PySem.F.typeCall_set_1 (.ref l);repeat (any_goals (first|assumption|wp_step))
 refine kD (code_set_new_1 (.ref l) (E:=E) (Q₁:=fun obj s₁=>∃led:Bool,obj=.ref s.heap.objs.size/\s₁={ s with heap:=s.heap.push { cls:=.type "set",dict:=none,data:=.set #[] 0 (.fresh 0 0 led) } }) fun led=>⟨led,rfl,rfl⟩) fun r s₁ hr=>?_;cases r with
 |error e=>exact hr
 |ok fl=>
  cases fl with
  |next=>exact hr.elim
  |brk=>exact hr.elim
  |cont=>exact hr.elim
  |ret obj=>
   obtain⟨led,rfl,rfl⟩:=hr;generalize Oy:s.heap.push { cls:=.type "set",dict:=none,data:=.set #[] 0 (.fresh 0 0 led) }=hS;have hsz:hS.objs.size=s.heap.objs.size+1:=by rw[<-Oy,fh]
   have gS:hS.get? s.heap.objs.size=some { cls:=.type "set",dict:=none,data:=.set #[] 0 (.fresh 0 0 led) }:=by rw[<-Oy];exact bz _ rfl
   have up:∀b o,s.heap.get? b=some o->hS.get? b=some o:=fun b o e=>by rw[<-Oy];exact a8 _ e
   have hT:Shared.TypeIs { s with heap:=hS } (.ref s.heap.objs.size) "set":=⟨_,gS,rfl⟩
   have c6:=gN.init.lookup;have c7:=gN.init.bind (.ref s.heap.objs.size);repeat (any_goals (first|assumption|wp_step))
   refine kD (vL (R:=wants (fun r s₂=>r=.none/\∃h' tk,s₂={ s with heap:=h',toks:=tk }/\kT h' s.heap.objs.size (hsN led) (tN led)/\
     (∀b o,b<s.heap.objs.size->s.heap.get? b=some o->h'.get? b=some o)) E) gN.init.plain PySem.F.entry_set_init (check_set_init_1 hT ?_)) fun r₂ s₂ Gw=>?_
   .obtain⟨ol,Gx,Ax,nl,Oz⟩:=hl;obtain⟨XN,SF,SG,OA⟩:=ol;simp only at Ax Oz;subst Ax;subst Oz;have OB:=up _ _ Gx;have c8:=PySem.F.sub_list_set;have c9:=Fm;have c10:(Value.type "list"==Value.type "dict")=false:=by decide
    have Ks:hS.IsList l vs.toArray:=⟨_,OB,rfl,nl,rfl⟩
    unfold Builtin.«set.__init__» noKeywords Builtin.Frozenset.updateFrom;generalize XO:pyIter=PI
    wp_walk
    subst XO;refine rH Ks ?_;refine ai (v6 ?_);have de:l<s.heap.objs.size:=aL Gx;refine Gu (l:=l) (vs:=vs) (ys:=ys) (hsN:=hsN led) (tN:=tN led) (by simp[hh]) (by simp;lia) (aY de) (by rw[hsz];exact aY (dN de)) (by rw[hsz];exact aY (kq _))
     (vs.length-0) 0 _ #[] (.fresh 0 0 led) rfl (cr _) ⟨_,bz _ rfl,rfl,rfl⟩ (Ks.push _) (hp.keeps fun b o _ e=>a8 _ (up b o e)) ⟨_,#[],0,a8 _ gS,rfl,⟨rfl,rfl⟩,rfl,by simp,rfl⟩ (DQ led) fun h' tk k S'=>?_
    show wpAny _ _ _ _ _ _;refine wpAny_pure ?_;show wpAny _ _ (ret Value.none) _ _ _;refine wpAny_pure ⟨rfl,h',tk,rfl,S',fun b o hb e=>?_⟩;exact k b o (aY hb) (by rw[hsz];exact aY (dN hb)) (a8 _ (up b o e))
   .cases r₂ with
    |error e=>exact Gw
    |ok XQ=>
     cases XQ with
     |next=>exact Gw.elim
     |brk=>exact Gw.elim
     |cont=>exact Gw.elim
     |ret r=>
      obtain⟨rfl,h',tk,rfl,S',k⟩:=Gw;repeat (any_goals (first|assumption|wp_step))
      exact h led h' tk S' k
end
open PySem
def Gy(l:List Nat):Nat:=l.foldl (fun a x=>a ||| (1 <<< x)) 0
theorem DS(l:List Nat)(a j:Nat):(l.foldl (fun a x=>a ||| (1 <<< x)) a).testBit j=(a.testBit j||l.contains j):=by
 induction l generalizing a with
 |nil=>simp
 |cons x xs ih=>
  rw[iJ,ih,Nat.testBit_or,List.contains_cons];have:(1 <<< x).testBit j=(j==x):=by
   rw[Nat.one_shiftLeft,Nat.testBit_two_pow];by_cases h:x=j
   .simp[h]
   .have h':¬ j=x:=fun e=>h e.symm;simp[h,h']
  rw[this,Bool.or_assoc]
theorem pZ(h:Gy l=2 ^ n-1)(hj:j<n):j∈l:=by
 have e:=DS l 0 j;have h':l.foldl (fun a x=>a ||| (1 <<< x)) 0=2 ^ n-1:=h;rw[h',Nat.testBit_two_pow_sub_one] at e;simp[hj] at e;exact e
def Gz(M:Nat):Nat->Nat->Nat
 |0,i=>i
 |n+1,i=>Gz M n ((i*5+1) % M)
theorem qO(M a:Nat):∀b i,Gz M (b+a) i=Gz M a (Gz M b i)
 |0,i=>by rw[Nat.zero_add];rfl
 |b+1,i=>by
  rw[show b+1+a=(b+a)+1 by lia];show Gz M (b+a) _=Gz M a (Gz M b _);exact qO M a b _
def OC(M:Nat):Nat->Nat->List Nat
 |0,_=>[]
 |n+1,i=>i::OC M n ((i*5+1) % M)
theorem sv:∀ {n i},j∈OC M n i->∃k,k<n/\Gz M k i=j
 |0,_,h=>by cases h
 |n+1,i,h=>by
  rcases aV.mp h with z|z
  .exact⟨0,by lia,z.symm⟩
  .obtain⟨k,a,b⟩:=sv z;exact⟨k+1,by lia,b⟩
structure yZ(M:Nat):Prop where
 all:Gy (OC M M 0)=2 ^ M-1
 back:Gz M M 0=0
theorem SH:yZ 8:=⟨by decide +kernel,by decide +kernel⟩
theorem xR:yZ 32:=⟨by decide +kernel,by decide +kernel⟩
theorem GA:yZ 128:=⟨by decide +kernel,by decide +kernel⟩
theorem GC:yZ 512:=⟨by decide +kernel,by decide +kernel⟩
theorem yZ.cover(R:yZ M)(hi:i<M)(hj:j<M):∃n,n<M/\Gz M n i=j:=by
 obtain⟨a,ha,ea⟩:=sv (pZ R.all hi);obtain⟨b,hb,eb⟩:=sv (pZ R.all hj);by_cases h:a<=b
 .refine⟨b-a,by lia,?_⟩;rw[<-ea,<-qO,show a+(b-a)=b by lia,eb]
 .refine⟨M+b-a,by lia,?_⟩;rw[<-ea,<-qO,show a+(M+b-a)=M+b by lia,qO,R.back,eb]
def gT(mask:Nat):Nat->Nat×Nat->Nat×Nat
 |0,q=>q
 |n+1,q=>gT mask n (SetTable.leap mask q.1 q.2)
theorem uZ(m a:Nat):∀b q,gT m (b+a) q=gT m a (gT m b q)
 |0,q=>by rw[Nat.zero_add];rfl
 |b+1,q=>by
  rw[show b+1+a=(b+a)+1 by lia];exact uZ m a b _
theorem xS:∀ {n:Nat} {q:Nat×Nat},q.1<m+1->(gT m n q).1<m+1
 |0,_,h=>h
 |n+1,q,h=>xS (n:=n) (jH _ (v8 _))
theorem Ci:∀ {n:Nat} {q:Nat×Nat},(gT m n q).2=q.2 / 32 ^ n
 |0,_=>by simp[gT]
 |n+1,q=>by
  show (gT m n _).2=_;rw[Ci];show q.2 / 32 / 32 ^ n=_;rw[md,Nat.pow_succ,Nat.mul_comm]
theorem u3:∀ {n i:Nat},gT m n (i,0)=(Gz (m+1) n i,0)
 |0,_=>rfl
 |n+1,i=>by
  show gT m n (SetTable.leap m i 0)=_;unfold SetTable.leap;simp only[Nat.zero_div,Nat.add_zero];exact u3
theorem p7(R:yZ (m+1))(hi:i<m+1)(hp:p<2 ^ 64)(hj:j<m+1):∃n,n<m+14/\(gT m n (i,p)).1=j:=by
 have h1:=xS (m:=m) (n:=13) (q:=(i,p)) hi;have h2:(gT m 13 (i,p)).2=0:=by
  rw[Ci];exact zR (bA hp (by decide))
 obtain⟨n,hn,e⟩:=R.cover h1 hj;refine⟨13+n,by lia,?_⟩;rw[uZ];have:gT m 13 (i,p)=((gT m 13 (i,p)).1,0):=gy rfl h2;rw[this,u3];exact e
theorem Cj(h:Int):SetTable.bits h<2 ^ 64:=by
 unfold SetTable.bits;have a:=oO h (show (2 ^ 64:Int)≠0 by decide);have b:=oI h (show (0:Int)<2 ^ 64 by decide);lia
theorem SJ{M:Nat}{l:List Nat}(h:l.length<M):∃j,j<M/\j∉l:=by
 have key:∀ (a b:List Nat),a.Nodup->(∀x∈a,x∈b)->a.length<=b.length:=by
  intro a;induction a with
  |nil=>intro b _ _;exact cr _
  |cons x xs ih=>
   intro b hn hs;obtain⟨h1,h2⟩:=dq.mp hn;have hx:x∈b:=hs x bV;have:=ih (b.erase x) h2 fun y hy=>(rq (fun (e:y=x)=>h1 (e ▸ hy))).mpr (hs y (bU _ hy));rw[rd hx] at this;have:0<b.length:=vE hx;rw[cQ];lia
 apply vy;intro F5;have:=key (List.range M) l oK fun x hx=>vy fun jA=>F5 ⟨x,dt.mp hx,jA⟩;rw[dW] at this;lia
def AC(mask i p:Nat):SetTable.Probe:={ j:=i,more:=SetTable.runEnd mask i-i,i:=i,perturb:=p,dummy:=none }
theorem OD(mask i:Nat):SetTable.runEnd mask i-i<=9:=by unfold SetTable.runEnd;split <;> lia
theorem qP{t:SetTable}(hd:t.dummies=#[])(j:Nat):t.slot j=.empty\/∃i,t.slot j=.live i/\t.place[i]?=some j:=by
 unfold SetTable.slot;dsimp only;split
 .rename_i h;exact .inr ⟨_,rfl,by simpa using h⟩
 .left;rw[hd];rfl
theorem AE{t:SetTable}(hd:t.dummies=#[]){j:Nat}(h:j∉t.place.toList):t.slot j=.empty:=by
 rcases qP hd j with e|⟨i,_,e2⟩
 .exact e
 .exact absurd (by rw[<-nG] at e2;exact dh e2) h
section
variable {t:SetTable} {hashAt:Nat->Int} {h:Int}
theorem GD(hd:t.dummies=#[])(hh:∀i,i<t.place.size->hashAt i≠h)(i p:Nat):∀ (r:Nat) (j dA:Nat),
  (∃j',SetTable.probe.go t hashAt h (dA+r+1) { j:=j,more:=r,i:=i,perturb:=p,dummy:=none }=some (.empty j' none))\/
  SetTable.probe.go t hashAt h (dA+r+1) { j:=j,more:=r,i:=i,perturb:=p,dummy:=none }=SetTable.probe.go t hashAt h dA (AC t.mask (SetTable.leap t.mask i p).1 (SetTable.leap t.mask i p).2)
 |0,j,dA=>by
  rcases qP hd j with e|⟨k,e,e2⟩
  .exact .inl ⟨j,by unfold SetTable.probe.go;rw[e]⟩
  .right;have hk:k<t.place.size:=(oC.mp e2).1;conv=>lhs;unfold SetTable.probe.go
   rw[e];simp only[et,hh k hk,i8];rfl
 |r+1,j,dA=>by
  rcases qP hd j with e|⟨k,e,e2⟩
  .exact .inl ⟨j,by rw[show dA+(r+1)+1=(dA+r+1)+1 by lia];unfold SetTable.probe.go;rw[e]⟩
  .have hk:k<t.place.size:=(oC.mp e2).1;have st:SetTable.probe.go t hashAt h (dA+(r+1)+1) { j:=j,more:=r+1,i:=i,perturb:=p,dummy:=none }=SetTable.probe.go t hashAt h (dA+r+1) { j:=j+1,more:=r,i:=i,perturb:=p,dummy:=none }:=by
    rw[show dA+(r+1)+1=(dA+r+1)+1 by lia];conv=>lhs;unfold SetTable.probe.go
    rw[e];simp only[et,hh k hk,i8];rfl
   rw[st];exact GD hd hh i p r (j+1) dA
theorem Ck(hd:t.dummies=#[])(hh:∀i,i<t.place.size->hashAt i≠h):∀ (m:Nat) (i p dA:Nat),10*(m+1)<=dA->t.slot (gT t.mask m (i,p)).1=.empty->
  ∃j',SetTable.probe.go t hashAt h dA (AC t.mask i p)=some (.empty j' none)
 |0,i,p,dA,hf,e=>by
  obtain⟨f,rfl⟩:∃f,dA=f+1:=⟨dA-1,by lia⟩
  refine⟨i,?_⟩;have e':t.slot i=.empty:=e;unfold SetTable.probe.go AC;dsimp only;rw[e']
 |m+1,i,p,dA,hf,e=>by
  have hr:=OD t.mask i;obtain⟨f,Ku⟩:∃f,dA=f+(SetTable.runEnd t.mask i-i)+1:=⟨dA-(SetTable.runEnd t.mask i-i)-1,by lia⟩
  rcases GD (hashAt:=hashAt) (h:=h) hd hh i p (SetTable.runEnd t.mask i-i) i f with z|z
  .rw[Ku];exact z
  .rw[Ku];show ∃j',SetTable.probe.go t hashAt h _ { j:=i,more:=_,i:=i,perturb:=p,dummy:=none }=_;rw[z];exact Ck hd hh m _ _ f (by lia) e
theorem sw(R:yZ (t.mask+1))(hd:t.dummies=#[])(hs:t.place.size<=t.mask)(hh:∀i,i<t.place.size->hashAt i≠h):∃j,t.probe hashAt h (t.probeStart h)=some (.empty j none):=by
 obtain⟨j,hj,hn⟩:=SJ (M:=t.mask+1) (l:=t.place.toList) (by simpa using Nat.lt_succ_of_le hs);obtain⟨m,hm,e⟩:=p7 R (jH (SetTable.bits h) (v8 t.mask)) (Cj h) hj;refine Ck hd hh m _ _ _ ?_ (by rw[e];exact AE hd hn);unfold SetTable.turns;lia
end
theorem AF{α β:Type}{f:α->Option β}:∀ {l:List α},(∀q∈l,(f q).isSome=true)->(l.filterMap f).length=l.length
 |[],_=>rfl
 |q::l,h=>by
  have hq:=h q bV;cases e:f q with
  |none=>rw[e] at hq;cases hq
  |some b=>rw[Fx e,cQ,cQ,AF fun x hx=>h x (bU _ hx)]
theorem u4:∀ (m dA i p:Nat),m<dA->owner.getD (gT mask m (i,p)).1 (some 0)=none->∃j,SetTable.layClean.free mask owner dA i p=some j/\owner.getD j (some 0)=none
 |m,0,_,_,h,_=>by lia
 |m,dA+1,i,p,h,e=>by
  unfold SetTable.layClean.free;cases hf:(List.range (SetTable.runEnd mask i+1-i)).find? fun k=>(owner.getD (i+k) (some 0)).isNone with
  |some k=>
   refine⟨i+k,rfl,?_⟩;have:=zW hf;simpa using this
  |none=>
   cases m with
   |zero=>
    have h0:(0:Nat)∈List.range (SetTable.runEnd mask i+1-i):=dt.mpr (by unfold SetTable.runEnd;split <;> lia);have:=vM.mp hf 0 h0;have e':owner.getD i (some 0)=none:=e;rw[Nat.add_zero,e'] at this;exact absurd rfl this
   |succ m=>
    exact u4 m dA _ _ (by lia) e
structure sB(M:Nat)(owner:Array (Option Nat))(k:Nat):Prop where
 size:owner.size=M
 cnt:owner.toList.countP Option.isSome=k
 lt:∀x,some x∈owner.toList->x<k
theorem AG{l:List (Option Nat)}{j:Nat}{x:Nat}(hj:l[j]?=some none):(l.set j (some x)).countP Option.isSome=l.countP Option.isSome+1:=by
 induction l generalizing j with
 |nil=>cases hj
 |cons a l ih=>
  cases j with
  |zero=>
   obtain rfl:a=none:=by simpa using hj
   simp
  |succ j=>
   rw[List.set_cons_succ,zU,zU,ih (by simpa using hj)];lia
theorem sB.one{mask:Nat}{owner:Array (Option Nat)}{k:Nat}(L:sB (mask+1) owner k)(R:yZ (mask+1))(hk:k<mask+1)(h:Int):
  ∃j,SetTable.layClean.free mask owner (SetTable.turns mask) (SetTable.bits h % (mask+1)) (SetTable.bits h)=some j/\sB (mask+1) (owner.setIfInBounds j (some k)) (k+1):=by
 have F5:∃j,j<mask+1/\owner.toList[j]?=some none:=by
  apply vy;intro F5;have xN:∀x∈owner.toList,x.isSome=true:=by
   intro x hx;obtain⟨j,hj,e⟩:=rn.mp hx;cases x with
   |some _=>rfl
   |none=>
    refine absurd ⟨j,?_,?_⟩ F5
    .rw[<-L.size];simpa using hj
    .rw[cZ hj,e]
  have:=List.countP_eq_length.mpr xN;rw[L.cnt,eJ,L.size] at this;lia
 obtain⟨j0,hj0,e0⟩:=F5;obtain⟨m,hm,em⟩:=p7 R (jH (SetTable.bits h) (v8 mask)) (Cj h) hj0;obtain⟨j,ej,en⟩:=u4 (mask:=mask) (owner:=owner) m (SetTable.turns mask) (SetTable.bits h % (mask+1)) (SetTable.bits h) (by unfold SetTable.turns;lia)
  (by rw[em,iF,<-nG,e0];rfl)
 refine⟨j,ej,?_⟩;have hjn:owner.toList[j]?=some none:=by
  rw[iF,<-nG] at en;cases hq:owner.toList[j]? with
  |none=>rw[hq] at en;cases en
  |some v=>rw[hq] at en;rw[show v=none from en]
 have SK:(owner.setIfInBounds j (some k)).toList=owner.toList.set j (some k):=by simp
 refine⟨by simp[L.size],by rw[SK,AG hjn,L.cnt],fun x hx=>?_⟩;rw[SK] at hx;rcases List.mem_or_eq_of_mem_set hx with z|z
 .exact dN (L.lt x z)
 .cases z;exact kq _
theorem ww(R:yZ (mask+1)):∀ (l:List Int) (owner:Array (Option Nat)) (k:Nat),sB (mask+1) owner k->k+l.length<=mask->
  ∃GE,l.foldl (fun d7 h=>do
   let (owner,k) <- d7
   let j <- SetTable.layClean.free mask owner (SetTable.turns mask) (SetTable.bits h % (mask+1)) (SetTable.bits h)
   pure (owner.setIfInBounds j (some k),k+1)) (some (owner,k))=some (GE,k+l.length)/\sB (mask+1) GE (k+l.length)
 |[],owner,k,L,_=>⟨owner,rfl,L⟩
 |h::l,owner,k,L,hl=>by
  rw[cQ] at hl;obtain⟨j,ej,L'⟩:=L.one R (by lia) h;obtain⟨o',e,L2⟩:=ww R l _ _ L' (by lia);refine⟨o',?_,by rw[cQ,show k+(l.length+1)=k+1+l.length by lia];exact L2⟩;rw[iJ];have:(do
   let (owner,k) <- some (owner,k)
   let j <- SetTable.layClean.free mask owner (SetTable.turns mask) (SetTable.bits h % (mask+1)) (SetTable.bits h)
   pure (owner.setIfInBounds j (some k),k+1):Option (Array (Option Nat)×Nat))=some (owner.setIfInBounds j (some k),k+1):=by
   show (SetTable.layClean.free mask owner (SetTable.turns mask) (SetTable.bits h % (mask+1)) (SetTable.bits h)).bind _=_;rw[ej];rfl
  rw[this,e,cQ,show k+(l.length+1)=k+1+l.length by lia]
theorem p8(R:yZ (mask+1))(hs:Array Int)(h:hs.size<=mask):∃owner,SetTable.layClean mask hs=some owner/\sB (mask+1) owner hs.size:=by
 have L0:sB (mask+1) (Array.replicate (mask+1) none) 0:=⟨by simp,by simp[List.countP_replicate],fun x hx=>by simp at hx⟩
 obtain⟨o,e,L⟩:=ww R hs.toList _ 0 L0 (by simpa using h);refine⟨o,?_,by simpa using L⟩;unfold SetTable.layClean;rw[<-Array.foldl_toList];have e':=congrArg (Option.map (·.1)) e;exact e'
theorem sH(L:sB M owner n):
  ((List.range M).filterMap fun j=>(owner.getD j none).map (j,·)).length=n/\∀q∈(List.range M).filterMap (fun j=>(owner.getD j none).map (j,·)),q.2<n:=by
 constructor
 .rw[<-L.cnt];have e:owner.toList=(List.range M).map fun j=>owner.getD j none:=by
   apply List.ext_getElem
   .simp[L.size]
   .intro i h1 h2;simp only[List.getElem_map,zF,Array.getElem_toList];rw[iF,je (by simpa using h1)];rfl
  conv=>rhs;rw[e]
  rw[List.countP_map];generalize List.range M=l;induction l with
  |nil=>rfl
  |cons a l ih=>
   rw[zU,<-ih];cases hq:owner.getD a none with
   |none=>rw[List.filterMap_cons_none (by rw[hq];rfl),show (Option.isSome ∘ fun j=>owner.getD j none) a=false by show (owner.getD a none).isSome=false;rw[hq];rfl];simp
   |some x=>rw[Fx (b:=(a,x)) (by rw[hq];rfl),show (Option.isSome ∘ fun j=>owner.getD j none) a=true by show (owner.getD a none).isSome=true;rw[hq];rfl];simp
 .intro q hq;obtain⟨j,_,e⟩:=mi.mp hq;cases hx:owner.getD j none with
  |none=>rw[hx] at e;cases e
  |some x=>
   rw[hx] at e;cases e;refine L.lt x ?_;rw[iF,<-nG] at hx;cases hy:owner.toList[j]? with
   |none=>rw[hy] at hx;cases hx
   |some v=>rw[hy] at hx;obtain rfl:v=some x:=hx;exact dh hy
structure xT(hs:Array Int)(t:SetTable):Prop where
 dm:t.dummies=#[]
 sz:t.place.size=hs.size
 ms:(t.mask=7/\hs.size<=4)\/(t.mask=31/\hs.size<=18)\/(t.mask=127/\hs.size<=76)\/(t.mask=511/\hs.size<=306)
theorem xT.rnd(T:xT hs t):yZ (t.mask+1):=by
 rcases T.ms with ⟨e,_⟩|⟨e,_⟩|⟨e,_⟩|⟨e,_⟩ <;> rw[e]
 .exact SH
 .exact xR
 .exact GA
 .exact GC
theorem eN(xs:Array α)(p:Nat)(x:α):(SetTable.insertAt xs p x).size=xs.size+1:=by
 unfold SetTable.insertAt;simp;lia
theorem n5(h:y∈(SetTable.insertAt xs p x).toList):y=x\/y∈xs.toList:=by
 unfold SetTable.insertAt at h;rw[eY,ky,zo,zo] at h;rcases dO.mp h with z|z
 .rcases dO.mp z with z|z
  .right;rw[List.extract_eq_drop_take] at z;exact vG (mf z)
  .left;simpa using z
 .right;rw[List.extract_eq_drop_take] at z;exact vG (mf z)
theorem AH{hs:Array Int}{t:SetTable}{h:Int}(T:xT hs t)(hn:h∉hs.toList)(hl:hs.size<300):∃hs' t',gh hs t h=some (hs',t')/\xT hs' t'/\hs'.size=hs.size+1/\∀x∈hs'.toList,x=h\/x∈hs.toList:=by
 have SE:t.place.size<=t.mask:=by rw[T.sz];rcases T.ms with ⟨e,z⟩|⟨e,z⟩|⟨e,z⟩|⟨e,z⟩ <;> lia
 have hh:∀i,i<t.place.size->Ov hs i≠h:=by
  intro i hi e;rw[T.sz] at hi;unfold Ov at e;rw[je hi] at e;exact hn (by rw[<-e];simp)
 obtain⟨j,hp⟩:=sw (hashAt:=Ov hs) (h:=h) T.rnd T.dm SE hh;have hg:t.gaveWay=false:=by
  unfold SetTable.gaveWay;rcases T.ms with ⟨e,_⟩|⟨e,_⟩|⟨e,_⟩|⟨e,_⟩ <;> rw[e] <;> rfl
 have q1:(t.put j).1.place=SetTable.insertAt t.place (SetTable.below t.place j) j:=rfl;have q2:(t.put j).1.dummies=#[]:=by
  show (if SetTable.has t.dummies j=true then _ else t.dummies)=_;rw[T.dm];rfl
 have q3:(t.put j).1.mask=t.mask:=rfl;have s1:(SetTable.insertAt hs (t.put j).2 h).size=hs.size+1:=eN _ _ _;have s2:(t.put j).1.place.size=hs.size+1:=by rw[q1,eN,T.sz]
 have fl:(t.put j).1.fill=hs.size+1:=by unfold SetTable.fill;rw[s2,q2];rfl
 have OE:(t.put j).1.fits (SetTable.insertAt hs (t.put j).2 h).size=true:=by
  unfold SetTable.fits;rw[s1,s2,fl,q3];simp;rcases T.ms with ⟨e,z⟩|⟨e,z⟩|⟨e,z⟩|⟨e,z⟩ <;> lia
 unfold gh;rw[hg,aq bq,hp];dsimp only;rw[ak (by rw[OE,s1];simp;lia)];by_cases hf:(t.put j).1.tooFull=true
 .rw[ak hf];have Ku:=hf;unfold SetTable.tooFull at Ku;rw[fl,q3] at Ku;have hf2:(hs.size+1)*5>=t.mask*3:=by simpa using Ku
  have gr:SetTable.grown (hs.size+1)=(hs.size+1)*4:=by unfold SetTable.grown;rw[aq (by lia)]
  obtain⟨m2,Wp,SL,R2⟩:∃m2,SetTable.sizeAbove (SetTable.grown (hs.size+1))=m2+1/\((m2=31/\hs.size+1<=18)\/(m2=127/\hs.size+1<=76)\/(m2=511/\hs.size+1<=306))/\yZ (m2+1):=by
   rw[gr];rcases T.ms with ⟨e,z⟩|⟨e,z⟩|⟨e,z⟩|⟨e,z⟩
   .have:hs.size=4:=by lia
    exact⟨31,by rw[this];rfl,.inl ⟨rfl,by lia⟩,xR⟩
   .have:hs.size=18:=by lia
    exact⟨127,by rw[this];rfl,.inr (.inl ⟨rfl,by lia⟩),GA⟩
   .have:hs.size=76:=by lia
    exact⟨511,by rw[this];rfl,.inr (.inr ⟨rfl,by lia⟩),GC⟩
   .lia
  have XR:(SetTable.insertAt hs (t.put j).2 h).size<=m2:=by rw[s1];rcases SL with ⟨e,z⟩|⟨e,z⟩|⟨e,z⟩ <;> lia
  obtain⟨owner,eo,L⟩:=p8 R2 (SetTable.insertAt hs (t.put j).2 h) XR;obtain⟨Fb,M3⟩:=sH L;rw[s1] at Fb M3;generalize GG:(List.range (m2+1)).filterMap (fun j=>(owner.getD j none).map (j,·))=live at Fb M3;have er:(t.put j).1.relaid (SetTable.insertAt hs (t.put j).2 h) (SetTable.grown (hs.size+1))=some ({ mask:=m2,place:=(live.map (·.1)).toArray,dummies:=#[],finger:=(t.put j).1.finger,led:=(t.put j).1.led,moves:=(t.put j).1.movedTo m2,plain:=(t.put j).1.plain },(live.map (·.2)).toArray):=by
   unfold SetTable.relaid SetTable.laid;rw[Wp];simp only[zE];rw[eo];show some _=some _;rw[<-GG]
  rw[er];dsimp only;have pF:((live.map (·.2)).toArray.filterMap ((SetTable.insertAt hs (t.put j).2 h)[·]?)).size=hs.size+1:=by
   rw[<-eJ,rj];show ((live.map (·.2)).filterMap _).length=_;rw[<-Fb,zG];refine AF fun q hq=>?_;show ((SetTable.insertAt hs (t.put j).2 h)[q.2]?).isSome=true;rw[je (by rw[s1];exact M3 q hq)];rfl
  have emf:∀x,({ mask:=m2,place:=(live.map (·.1)).toArray,dummies:=#[],finger:=(t.put j).1.finger,led:=(t.put j).1.led,moves:=(t.put j).1.movedTo m2,plain:=(t.put j).1.plain }:SetTable).fits x=(decide (hs.size+1=x)&&decide (hs.size+1<=m2)):=by
   intro x;unfold SetTable.fits SetTable.fill;simp[Fb];rw[im];simp
  rw[ak (by
   rw[pF,s1,emf,Wp];have:hs.size+1<=m2:=by rw[<-s1];exact XR
   simp[this];rcases SL with ⟨e,z⟩|⟨e,z⟩|⟨e,z⟩ <;> lia)]
  refine⟨_,_,rfl,⟨rfl,?_,?_⟩,pF,fun x hx=>?_⟩
  .rw[pF];simp[Fb]
  .rw[pF];exact .inr SL
  .rw[rj] at hx;obtain⟨k,_,ek⟩:=mi.mp hx;refine n5 (p:=(t.put j).2) ?_;rw[<-nG] at ek;exact dh ek
 .rw[aq hf];refine⟨_,_,rfl,⟨q2,by rw[s2,s1],?_⟩,s1,fun x hx=>n5 hx⟩;have Ku:¬ (hs.size+1)*5>=t.mask*3:=by
   intro z;refine hf ?_;unfold SetTable.tooFull;rw[fl,q3];simpa using z
  rw[s1,q3];rcases T.ms with ⟨e,z⟩|⟨e,z⟩|⟨e,z⟩|⟨e,z⟩ <;> lia
theorem p_:∀ (l:List Int) (hs:Array Int) (t:SetTable),xT hs t->(∀x∈l,x∉hs.toList)->l.Nodup->hs.size+l.length<=300->∃hs' t',l.foldlM (fun q h=>gh q.1 q.2 h) (hs,t)=some (hs',t')/\hs'.size=hs.size+l.length
 |[],hs,t,_,_,_,_=>⟨hs,t,rfl,rfl⟩
 |h::l,hs,t,T,hn,nd,hl=>by
  rw[cQ] at hl;obtain⟨n1,n2⟩:=dq.mp nd;obtain⟨Gr,t1,e1,T1,z1,m1⟩:=AH T (hn h bV) (by lia);obtain⟨uo,t2,e2,z2⟩:=p_ l Gr t1 T1 (fun x hx hy=>by
   rcases m1 x hy with e|e
   .exact n1 (e ▸ hx)
   .exact hn x (bU _ hx) e) n2 (by lia)
  refine⟨uo,t2,?_,by rw[z2,z1,cQ];lia⟩;rw[List.foldlM_cons];show (gh hs t h).bind _=_;rw[e1];exact e2
theorem DT(led:Bool)(nd:l.Nodup)(hl:l.length<=300):∃hs t,wu led l=some (hs,t)/\hs.size=l.length:=by
 obtain⟨hs,t,e,z⟩:=p_ l #[] (SetTable.fresh 0 0 led) ⟨rfl,rfl,.inl ⟨rfl,by decide⟩⟩ (fun x _ h=>by simp at h) nd (by simpa using hl);exact⟨hs,t,e,by simpa using z⟩
def Cm:List Nat->Nat->Bool
 |[],_=>true
 |x::xs,d7=>bif Nat.testBit d7 x then false else Cm xs (d7 ||| (1 <<< x))
theorem xU:∀ (l:List Nat) (d7:Nat),Cm l d7=true->l.Nodup/\∀x∈l,d7.testBit x=false
 |[],_,_=>⟨gQ,fun x h=>(nomatch h)⟩
 |x::xs,d7,h=>by
  unfold Cm at h;cases hb:d7.testBit x with
  |true=>rw[hb] at h;cases h
  |false=>
   rw[hb] at h;obtain⟨nd,hx⟩:=xU xs _ h;have hor:∀y∈xs,d7.testBit y=false/\y≠x:=by
    intro y hy;have:=hx y hy;rw[Nat.testBit_or,Nat.one_shiftLeft,Nat.testBit_two_pow] at this;rw[Bool.or_eq_false_iff] at this;exact⟨this.1,fun e=>by have:=this.2;simp[e] at this⟩
   refine⟨dq.mpr ⟨fun hm=>(hor x hm).2 rfl,nd⟩,fun y hy=>?_⟩;rcases aV.mp hy with z|z
   .rw[z];exact hb
   .exact(hor y z).1
def sK:List (Int×Int):=(List.range 32).flatMap fun a=>(List.range 32).map fun b=>(Int.ofNat a,Int.ofNat b)
def M4(h:Int):Nat:=(h % 6554).toNat
theorem DU(P:Program)(w:World):Cm (sK.map fun y=>M4 (ft P w y)) 0=true:=by kernel_rfl
theorem Cn(h1:0<=y.1/\y.1<32)(h2:0<=y.2/\y.2<32):y∈sK:=by
 unfold sK;refine zS.mpr ⟨y.1.toNat,dt.mpr (by lia),a9.mpr ⟨y.2.toNat,dt.mpr (by lia),gy ?_ ?_⟩⟩
 .show ((y.1.toNat:Nat):Int)=y.1;lia
 .show ((y.2.toNat:Nat):Int)=y.2;lia
theorem lY:∀ {l:List α},(l.map f).Nodup->∀x∈l,∀y∈l,f x=f y->x=y
 |[],_,_,h,_,_,_=>by cases h
 |a::l,h,x,hx,y,hy,e=>by
  rw[e_] at h;obtain⟨h1,h2⟩:=dq.mp h;rcases aV.mp hx with z|z <;> rcases aV.mp hy with z'|z'
  .rw[z,z']
  .exact absurd (a9.mpr ⟨y,z',by rw[<-e,z]⟩) h1
  .exact absurd (a9.mpr ⟨x,z,by rw[e,z']⟩) h1
  .exact lY h2 x z y z' e
theorem wz(hx:(0<=x.1/\x.1<32)/\(0<=x.2/\x.2<32))(hy:(0<=y.1/\y.1<32)/\(0<=y.2/\y.2<32))(e:ft P w x=ft P w y):x=y:=
 lY (xU _ _ (DU P w)).1 x (Cn hx.1 hx.2) y (Cn hy.1 hy.2) (congrArg M4 e)
theorem pG:∀ {l:List α},l.Nodup->(∀x∈l,∀y∈l,f x=f y->x=y)->(l.map f).Nodup
 |[],_,_=>gQ
 |a::l,h,hf=>by
  obtain⟨h1,h2⟩:=dq.mp h;rw[e_];refine dq.mpr ⟨fun z=>?_,pG h2 fun x hx y hy=>hf x (bU _ hx) y (bU _ hy)⟩;obtain⟨y,hy,e⟩:=a9.mp z;have:=hf y (bU _ hy) a bV e;exact h1 (this ▸ hy)
theorem xV{P:Program}{w:World}(led:Bool){ys:List (Int×Int)}(nd:ys.Nodup)(hr:∀y∈ys,(0<=y.1/\y.1<32)/\(0<=y.2/\y.2<32))(hl:ys.length<=300):
  ∃hs t,wu led (ys.map (ft P w))=some (hs,t)/\hs.size=ys.length:=by
 obtain⟨hs,t,e,z⟩:=DT led (pG nd fun x hx y hy e=>wz (P:=P) (w:=w) (hr x hx) (hr y hy) e) (by rw[aP];exact hl);exact⟨hs,t,e,by rw[z,aP]⟩
theorem Co:∀ {as:List Addr} {its:List Value},aZ (as.map V.ref) its->its=as.map Value.ref
 |[],_,r=>by cases r;rfl
 |a::as,_,r=>by
  cases r with
  |cons r rr=>
   obtain rfl:=(show _=Value.ref a from r)
   rw[Co rr];rfl
def Kv(D:Addr)(n:Nat):HO:=.ext fun h=>∃hs t,kT h D hs t/\hs.size=n
section
variable {X:Cx}
def SO(K:PySem.W.Frag):List V->Hp->VK->Prop:=fun xs H Q=>∃ (l:Addr) (as:List Addr) (ys:List (Int×Int)),xs=[.ref l]/\bo K H l (as.map V.ref)/\as.length=ys.length/\
 (∀i,i<ys.length->Gq K H (as.getD i 0) (ys.getD i (0,0)))/\ys.Nodup/\(∀y∈ys,(0<=y.1/\y.1<32)/\(0<=y.2/\y.2<32))/\ys.length<=300/\∀D,H D=none->Q (.ref D) (upd H D (Kv D ys.length))
theorem DV(hc:X.calm=true)(hu:X.A.units+8<cLine):fm X (.type "set") (SO X.K):=by
 intro ae s σ H xs us Q I r h;obtain⟨l,as,ys,rfl,hl,cY,hp,nd,rg,h3,q⟩:=h;obtain⟨u1,rfl,r1⟩:=r.one;obtain rfl:u1=Value.ref l:=r1;obtain⟨its,rv,pl,hz⟩:=I.list hl;have e:=Co rv;subst e;have hpi:jO s.heap (as.map Value.ref) ys:=⟨by rw[aP,cY],fun i v hv=>by
  rw[bJ] at hv;cases ea:as[i]? with
  |none=>rw[ea] at hv;cases hv
  |some a=>
   rw[ea] at hv;obtain rfl:Value.ref a=v:=bg hv;have hi:i<as.length:=(cW.mp ea).1;obtain⟨o,n,t,u,e1,c,d⟩:=Az I (hp i (by lia));have eg:as.getD i 0=a:=by rw[cq,ea];rfl
   rw[eg] at e1;exact⟨a,o,n,t,u,rfl,e1,c,d⟩⟩
 have DQ:∀led,∃q:Array Int×SetTable,wu led (ys.map (ft X.prog X.w))=some q/\q.1.size=ys.length:=fun led=>
  let ⟨hs,t,e,z⟩:=xV (P:=X.prog) (w:=X.w) led nd rg h3;⟨(hs,t),e,z⟩
 refine Gv (I.ok.hd hc) hu pl.isList hpi (hsN:=fun led=>(DQ led).choose.1) (tN:=fun led=>(DQ led).choose.2) (fun led=>(DQ led).choose_spec.1) fun led h' tk S' k=>?_;refine⟨.ref s.heap.objs.size,_,I.xQ (t':=tk) (o:=Kv s.heap.objs.size ys.length) (fun b u e=>k b u (aL e) e) (rA (aX _)) ⟨⟨_,_,S',(DQ led).choose_spec.2⟩,?_,fun h1 h2 ⟨hs,t,⟨o,es,ep,q1,q2⟩,z⟩ kk=>⟨hs,t,⟨o,es,ep,kk o q1,q2⟩,z⟩⟩,rfl,q _ I.fresh⟩;obtain⟨o,_,_,q1,_⟩:=S';exact⟨o,q1⟩
theorem xW:fm X (.builtin "len") (fun xs H Q=>∃D n,xs=[.ref D]/\H D=some (Kv D n)/\n<=4096/\Q (.int n) H):=by
 intro ae s σ H xs us Q I r h;obtain⟨D,n,rfl,e,hn,q⟩:=h;obtain⟨u1,rfl,r1⟩:=r.one;obtain rfl:u1=Value.ref D:=r1;obtain⟨⟨hs,t,⟨o,es,ep,q1,q2,q3,q4,q5,q6⟩,z⟩,_⟩:=(show ce X.prog X.w H s.heap D (Kv D n) from I.cf D _ e)
 have hsz:es.size=n:=by rw[<-z,<-q5,iZ]
 exact call_len_set q1 ⟨q2,q3.1,q3.2⟩ q4 q6 (by rw[hsz];lia) ⟨.int n,H,I.tok _,⟨_,by rw[hsz]⟩,q⟩
theorem qa:fm X (.type "range") (fun xs H Q=>∃n,xs=[.int n]/\∀p,H p=none->Q (.ref p) (upd H p (.BQ 0 n))):=by
 intro ae s σ H xs us Q I r h;obtain⟨n,rfl,q⟩:=h;obtain⟨u1,rfl,t,rfl⟩:=r.one;refine call_range_1 ⟨.ref s.heap.objs.size,_,I.laid (o:=.BQ 0 n) (fun b u e=>a8 _ e) (aX _) ⟨_,_,_,bz _ rfl⟩,rfl,q _ I.fresh⟩
theorem AI(hc:X.calm=true):fm X (.type "list") (fun xs H Q=>∃ (p:Addr) (n:Nat),xs=[.ref p]/\H p=some (.BQ 0 n)/\n<=1000/\∀l,H l=none->Q (.ref l) (upd H l (.lst ((List.range n).map fun (i:Nat)=>V.int i)))):=by
 intro ae s σ H xs us Q I r h;obtain⟨p,n,rfl,e,hn,q⟩:=h;obtain⟨u1,rfl,r1⟩:=r.one;obtain rfl:u1=Value.ref p:=r1;obtain⟨t,u,v,hp⟩:=(show ce X.prog X.w H s.heap p (.BQ 0 n) from I.cf p _ e)
 refine call_list_range (n:=n) (I.ok.hd hc) (show IsRange s.heap p 0 n 1 t u v from hp) (small_one (by lia) (by lia) (by lia) (by lia)) (by rw[rangeSize_one];split <;> lia) (by lia) fun h' tk d7 c k g it=>?_;obtain⟨i1,i2⟩:=it;refine⟨.ref s.heap.objs.size,_,I.xQ (t':=tk) (o:=.lst ((List.range n).map fun (i:Nat)=>V.int i)) (fun b u e=>k b u e) (rA (aX _)) ⟨?_,d7.toList,c,?_,by simpa using g⟩,rfl,q _ I.fresh⟩
 .rw[aP,dW];exact bj hn (by decide)
 .have go:∀ (m:Nat) (l:List Value),l.length=m->(∀ (j:Nat) v,l[j]?=some v->∃t,v=Value.int (0+(j:Int)*1) t)->aZ ((List.range m).map fun (i:Nat)=>V.int i) l:=by
   intro m;induction m with
   |zero=>intro l hl _;cases l with
    |nil=>exact .nil
    |cons _ _=>cases hl
   |succ m ih=>
    intro l hl hv;have lR:l≠[]:=by intro z;rw[z] at hl;cases hl
    have el:l=l.dropLast++[l.getLast lR]:=(List.dropLast_concat_getLast lR).symm;rw[il,dG,el];have Oz:l.dropLast.length=m:=by rw[List.length_dropLast,hl];rfl
    refine aZ.append (ih _ Oz fun j v hj=>hv j v ?_) (.cons ?_ .nil)
    .rw[el];have Rk:j<l.dropLast.length:=(cW.mp hj).1;rw[nE Rk];exact hj
    .obtain⟨t,ht⟩:=hv m (l.getLast lR) (by
      rw[List.getLast_eq_getElem,cZ (by lia:m<l.length)];simp[hl])
     exact⟨t,by rw[ht];simp⟩
  exact go n d7.toList (by simpa using i1) fun j v hj=>i2 j v (by simpa using hj)
end
def iO(e:V->V->Bool):List V->List V->Bool
 |[],[]=>true
 |x::xs,y::ys=>e x y&&iO e xs ys
 |_,_=>false
theorem iP:∀ {xs ys:List V},xs.length=ys.length->iO e xs ys=(List.range xs.length).all fun i=>e (xs.getD i .bR) (ys.getD i .bR)
 |[],[],_=>rfl
 |x::xs,y::ys,h=>by
  have h':xs.length=ys.length:=by simpa using h
  rw[iO,iP h',cQ,vD,vZ,List.all_map];rfl
 |[],_::_,h=>by simp at h
 |_::_,[],h=>by simp at h
theorem pH:∀ {xs ys:List V},xs.length≠ys.length->iO e xs ys=false
 |[],[],h=>absurd rfl h
 |x::xs,y::ys,h=>by
  have h':xs.length≠ys.length:=fun z=>h (by simp[z]);rw[iO,pH h',Bool.and_false]
 |[],_::_,_=>rfl
 |_::_,[],_=>rfl
section
variable {X:Cx}
def SS(X:Cx)(H:Hp)(e:V->V->Bool)(x y:V):Prop:=∀ (ae:List (Addr×Obj)) (s:Shared) (σ:St) (A:Around) (u v:Value),aG X ae σ H s->A.units+1<cLine->bC x u->bC y v->SeqAt.EqAt A s u v (e x y)
def SU(X:Cx)(MV:Bool)(e:V->V->Bool):R2:=fun x y H Q=>∃p q xs ys,x=.ref p/\y=.ref q/\bo X.K H p xs/\bo X.K H q ys/\(∀i,i<xs.length->i<ys.length->SS X H e (xs.getD i .bR) (ys.getD i .bR))/\Q (.bl (if MV then !iO e xs ys else iO e xs ys)) H
theorem xX(I:aG X ae σ H s)(hu:A.units+1<cLine)(rx:aZ xs us)(ry:aZ ys vs)(he:∀i,i<xs.length->i<ys.length->SS X H e (xs.getD i .bR) (ys.getD i .bR)):∀j (h1:j<us.toArray.size) (h2:j<vs.toArray.size),SeqAt.EqAt A s us.toArray[j] vs.toArray[j] (e (xs.getD j .bR) (ys.getD j .bR)):=by
 intro j h1 h2;have j1:j<xs.length:=by rw[rx.length];simpa using h1
 have j2:j<ys.length:=by rw[ry.length];simpa using h2
 have e1:xs[j]?=some (xs.getD j .bR):=by rw[cq,cZ j1];rfl
 have e2:ys[j]?=some (ys.getD j .bR):=by rw[cq,cZ j2];rfl
 obtain⟨u,Fc,ru⟩:=rx.get e1;obtain⟨v,OF,rv⟩:=ry.get e2;have eu:us.toArray[j]=u:=by
  have:us[j]?=some us.toArray[j]:=by simp at h1 |-
  rw[Fc] at this;exact(bg this).symm
 have ev:vs.toArray[j]=v:=by
  have:vs[j]?=some vs.toArray[j]:=by simp at h2 |-
  rw[OF] at this;exact(bg this).symm
 rw[eu,ev];exact he j j1 j2 ae s σ A u v I hu ru rv
theorem OG{e:V->V->Bool}(hu:X.A.units+2<cLine):lX X (compareOp .NotEq) (SU X true e):=by
 intro ae s σ H x y v u Q I rx ry h;obtain⟨p,q,xs,ys,rfl,rfl,hp,hq,he,k⟩:=h;obtain rfl:v=Value.ref p:=rx;obtain rfl:u=Value.ref q:=ry;obtain⟨us,r1,p1,_⟩:=I.list hp;obtain⟨vs,r2,p2,_⟩:=I.list hq;by_cases hl:xs.length=ys.length
 .refine SeqAt.RcNeAt.lists (e:=fun i=>e (xs.getD i .bR) (ys.getD i .bR)) p1.isList p2.isList (by simp only[c_];rw[<-r1.length,<-r2.length];exact hl) (by lia) (xX I (by show X.A.units+1+1<cLine;lia) r1 r2 he) _ _ _ _ ⟨.bl _,H,I,rfl,?_⟩;rw[show us.toArray.size=xs.length by rw[c_,r1.length],<-iP hl];exact k
 .refine SeqAt.RcNeAt.lists_lengths p1.isList p2.isList (by simp only[c_];rw[<-r1.length,<-r2.length];simpa using hl) (by lia) _ _ _ _ ⟨.bl _,H,I,rfl,?_⟩;have k':=k;rw[pH hl] at k';exact k'
theorem OH(hu:X.A.units+2<cLine):lX X (compareOp .Eq) (SU X false e):=by
 intro ae s σ H x y v u Q I rx ry h;obtain⟨p,q,xs,ys,rfl,rfl,hp,hq,he,k⟩:=h;obtain rfl:v=Value.ref p:=rx;obtain rfl:u=Value.ref q:=ry;obtain⟨us,r1,p1,_⟩:=I.list hp;obtain⟨vs,r2,p2,_⟩:=I.list hq;by_cases hl:xs.length=ys.length
 .refine SeqAt.eq_listAt (e:=fun i=>e (xs.getD i .bR) (ys.getD i .bR)) p1.isList p2.isList (by simp only[c_];rw[<-r1.length,<-r2.length];exact hl) (by lia) (xX I (by show X.A.units+1+1<cLine;lia) r1 r2 he) ⟨.bl _,H,I,rfl,?_⟩;rw[show us.toArray.size=xs.length by rw[c_,r1.length],<-iP hl];exact k
 .refine SeqAt.eq_list_lengthsAt p1.isList p2.isList (by simp only[c_];rw[<-r1.length,<-r2.length];simpa using hl) (by lia) ⟨.bl _,H,I,rfl,?_⟩;have k':=k;rw[pH hl] at k';exact k'
theorem DW(hc:X.calm=true):fm X (.builtin "any") (fun xs H Q=>∃ (p:Addr) (bs:List Bool),xs=[.ref p]/\bo X.K H p (bs.map V.bl)/\Q (.bl (bs.any id)) H):=by
 intro ae s σ H xs us Q I r h;obtain⟨p,bs,rfl,hp,q⟩:=h;obtain⟨u1,rfl,r1⟩:=r.one;obtain rfl:u1=Value.ref p:=r1;obtain⟨its,rv,pl,hz⟩:=I.list hp;have OI:its=bs.map Value.bool:=by
  have go:∀ (bs:List Bool) (its:List Value),aZ (bs.map V.bl) its->its=bs.map Value.bool:=by
   intro bs;induction bs with
   |nil=>intro its r;cases r;rfl
   |cons b bs ih=>
    intro its r;cases r with
    |cons r rr=>
     obtain rfl:=(show _=Value.bool b from r)
     rw[ih _ rr];rfl
  exact go bs its rv
 subst OI;obtain⟨ob,hob,_⟩:=id pl.isList;have de:p<s.heap.objs.size:=aL hob;refine call_any_walk (rH pl.isList ⟨s.heap.objs.size,_,_,_,_,_,fun i=>bs.getD i false,rfl,Walks.list (show X.A.in1.handled=none from I.ok.hd hc) _ p (aY de) _,⟨⟨_,bz _ rfl,rfl,rfl⟩,pl.isList.push _⟩,fun i v s1 Q' E' hv hq=>?_,fun h' tk k=>?_⟩)
 .have Oe:(bs.map Value.bool)[i]?=some v:=by simpa using hv
  rw[bJ] at Oe;cases eb:bs[i]? with
  |none=>rw[eb] at Oe;cases Oe
  |some b=>
   rw[eb] at Oe;obtain rfl:Value.bool b=v:=bg Oe;have:bs.getD i false=b:=by rw[cq,eb];rfl
   have MR:Q' b s1:=by rw[<-this];exact hq
   exact wpAny_pure MR
 .have keep:∀b o,s.heap.get? b=some o->h'.get? b=some o:=fun b o e=>k b o (by simpa using aY (aL e)) (a8 _ e);refine⟨.bl (bs.any id),H,I.kept (t':=tk) keep,?_,q⟩;show Value.bool _=Value.bool _;congr 1;have go:∀ (bs:List Bool),((List.range bs.length).any fun i=>bs.getD i false)=bs.any id:=by
   intro bs;induction bs with
   |nil=>rfl
   |cons b bs ih=>
    rw[cQ,vD,kC,List.any_map,kC,<-ih];rfl
  rw[<-go bs];simp
end
def u5(c:Addr)(qual:Str):HO:=.ext fun h=>h.CodeRec (.ref c) qual
theorem GJ(x:h.CodeRec (.ref c) qual):ce P w H h c (u5 c qual):=by
 refine⟨x,?_,?_⟩
 .obtain⟨c',o,vs,t,e,ho,_⟩:=x;cases e;exact⟨o,ho⟩
 .rintro h1 h2 ⟨c',o,vs,t,e,ho,r⟩ k;cases e;exact⟨c,o,vs,t,rfl,k o ho,r⟩
def M5(f:Addr)(qual:Str)(params:Arguments)(body:Expr)(scope:Scope)(cells:List (Str×Addr))(c:Addr)(h:Heap):Prop:=
 ∃ (kU:List (Str×Addr)) (pm Cp:Value),(∀x a,kU.lookup x=some a->cells.lookup x=some a)/\(∀x,(x,NameKind.free)∈scope.names->∃a,kU.lookup x=some a)/\
  h.get? f=some (PySem.W.kla_obj "<lambda>" qual params body scope kU pm c Cp)
def AJ(f:Addr)(qual:Str)(params:Arguments)(body:Expr)(scope:Scope)(cells:List (Str×Addr))(c:Addr):HO:=.ext (M5 f qual params body scope cells c)
theorem Cq(x:M5 f qual params body scope cells c h):
  ce P w H h f (AJ f qual params body scope cells c):=by
 refine⟨x,?_,?_⟩
 .obtain⟨_,_,_,_,_,e⟩:=x;exact⟨_,e⟩
 .rintro h1 h2 ⟨kU,pm,Cp,a,b,e⟩ k;exact⟨kU,pm,Cp,a,b,k _ e⟩
def n6(lp:Pos)(qual:Str)(P:Addr)(H:Hp):Prop:=H P=some (.qI #[])\/∃c,H P=some (.qI #[rawInt lp.line,rawInt lp.col,.ref c])/\H c=some (u5 c qual)
structure Kw(X:Cx)(c P:Addr):Prop where
 code:X.env.code=.ref c
 hd:PySem.W.CodeHd X.base c P
 bm:∃bm o,X.mg "__builtins__"=some (.ref bm)/\bm≠builtinsNs/\bm≠mainGlobals/\X.base.get? bm=some o/\o.cls=.type "module"/\o.dict=some builtinsNs/\o.data=.plain
def XS(lp:Pos)(qual:Str)(P:Addr)(params:Arguments)(body:Expr)(scope:Scope)(cells:List (Str×Addr)):TE:=fun _ H Q=>n6 lp qual P H/\
 ∀ (f c:Addr) (H2:Hp),n6 lp qual P H2->(∀b o,H b=some o->b≠P->H2 b=some o)->H2 c=some (u5 c qual)->H2 f=some (AJ f qual params body scope cells c)->Q (.ref f) H2
theorem xY{lp:Pos}{c:Addr}:TriplesOk (#[rawInt lp.line,rawInt lp.col,.ref c]:Array Value).toList:=trivial
theorem DX:codeAmong lp (#[rawInt lp.line,rawInt lp.col,.ref c]:Array Value).toList=some (.ref c):=by
 show (if ((lp.line:Int)==(lp.line:Int)&&(lp.col:Int)==(lp.col:Int))=true then some (Value.ref c) else _)=_;simp
section
variable {X:Cx} {c P:Addr} {params:Arguments} {body:Expr} {scope:Scope} {lp:Pos} {NB:List Str} {src:List (Option Nat)}
theorem Kw.at(C:Kw X c P)(I:aG X ae σ H s)(hP:H P=some (.qI ps)):s.heap.BuiltinsAt X.mg P:=by
 obtain⟨bm,o,b1,b2,b3,b4,b5,b6,b7⟩:=C.bm;refine⟨bm,o,b1,b2,b3,fun z=>?_,I.bk _ _ b4,b5,b6,b7⟩;have:=(I.bs _ _ b4).2;rw[z,hP] at this;cases this
theorem aG.M6(I:aG X ae σ H s):s.heap.Ns mainGlobals X.mg:=I.mod.glob.keeps I.bk
theorem OJ(C:Kw X c P)(S:eM NB src scope X)(XT:defaultsOf params X.env=([],[]):=by rfl):PE X (.Lambda params body scope lp) (XS lp (X.env.qual++"<lambda>") P params body scope X.env.cells):=by
 intro ae s σ H Q I h;obtain⟨tab,h⟩:=h;obtain⟨kU,ecl,c1,c2⟩:=iu I.ok S;refine PySem.W.kla_eval XT ?_;have hsz:∀b o,s.heap.get? b=some o->b<s.heap.objs.size:=fun b o e=>aL e;rcases tab with hP|⟨c',hP,N2⟩
 .-- the first time
  have SV:s.heap.get? P=some (PySem.W.tabObj #[]):=I.cf P _ hP;have hPL:X.env.locals≠P:=fun z=>by have f:=I.free;rw[z,hP] at f;cases f
  have hPg:mainGlobals≠P:=fun z=>by
   obtain⟨o,es,ep,e,d,_⟩:=I.mod.glob;have:=(I.bs _ _ e).2;rw[z,hP] at this;cases this
  refine PySem.W.kla_makeFunction (mg:=X.mg) ecl I.ok.glob I.M6 C.code (C.hd.keeps I.bk) SV (by trivial) rfl hPg (C.at I hP) fun c' Cp h' tk hx Kx de XU htb=>?_;have Ky:∀b o,b≠P->s.heap.get? b=some o->(h'.push (PySem.W.kla_obj "<lambda>" (X.env.qual++"<lambda>") params body scope kU ((X.mg "__name__").getD .none) c' Cp)).get? b=some o:=fun b o hb e=>a8 _ (hx b o hb e);have hcP:c'≠P:=ig (bA (hsz _ _ SV) Kx);have hfP:h'.objs.size≠P:=ig (bA (hsz _ _ SV) (bj Kx (jF de)));have hfc:h'.objs.size≠c':=ig de;have nf:H h'.objs.size=none:=I.cf.fresh (by lia);have nc:H c'=none:=I.cf.fresh Kx
  let H2:Hp:=upd (upd (upd H P (.qI #[rawInt lp.line,rawInt lp.col,.ref c'])) c' (u5 c' (X.env.qual++"<lambda>"))) h'.objs.size (AJ h'.objs.size (X.env.qual++"<lambda>") params body scope X.env.cells c')
  have eP:H2 P=some (.qI #[rawInt lp.line,rawInt lp.col,.ref c']):=by
   show upd _ _ _ _=_;rw[al hfP.symm,al hcP.symm,ag]
  have ec:H2 c'=some (u5 c' (X.env.qual++"<lambda>")):=by
   show upd _ _ _ _=_;rw[al hfc.symm,ag]
  have ef:H2 h'.objs.size=some (AJ h'.objs.size (X.env.qual++"<lambda>") params body scope X.env.cells c'):=ag;have eo:∀b,b≠P->b≠c'->b≠h'.objs.size->H2 b=H b:=fun b h1 h2 h3=>by
   show upd _ _ _ _=_;rw[al h3,al h2,al h1]
  have mB:∀b o,H b=some o->b≠P->H2 b=some o:=fun b o e hb=>by
   rw[eo b hb (ap e nc) (ap e nf)];exact e
  have I2:aG X ae σ H2 { s with heap:=h'.push (PySem.W.kla_obj "<lambda>" (X.env.qual++"<lambda>") params body scope kU ((X.mg "__name__").getD .none) c' Cp),toks:=tk }:=by
   refine I.step (g':=s.gens) (d':=s.drawn) (ch:=[]) (fun _ z=>absurd z (by simp)) (fun b o _ _ _ e n=>Ky b o (fun z=>by rw[z,hP] at n;cases n) e) (fun b o _ _ _ e n=>⟨o.slots,Ky b o (fun z=>by rw[z,hP] at n;cases n) e⟩)
    (fun b o _ e n=>?_) (fun b o _ e=>?_) (fun b xs e=>mB b _ e fun z=>by rw[z,hP] at e;cases e) (fun b o u e=>mB b _ e fun z=>by rw[z,hP] at e;cases e) (fun b ps e=>?_) (fun m hm=>?_) (fun b o e=>?_) I.bare
   .rw[eo b (fun z=>by rw[z,hP] at n;cases n) (aY (bA (hsz b o e) Kx)) (aY (bA (hsz b o e) (bj Kx (jF de))))];exact n
   .by_cases hb:b=P
    .exact⟨_,by rw[hb];exact a8 _ htb⟩
    .exact⟨o,Ky b o hb e⟩
   .by_cases hb:b=P
    .rw[hb] at e |-;rw[hP] at e;cases e;exact⟨#[rawInt lp.line,rawInt lp.col,.ref c'],by rw[eP];simp⟩
    .exact⟨#[],by rw[mB b _ e hb];simp⟩
   .exact(hm.extBut hx hPL).push _
   .by_cases hbf:b=h'.objs.size
    .subst hbf;rw[ef] at e;cases e;exact Cq ⟨kU,_,Cp,c1,c2,bz _ rfl⟩
    .by_cases XC:b=c'
     .subst XC;rw[ec] at e;cases e;refine GJ ?_;obtain⟨c₂,oc,vs,t,e2,Wd,r⟩:=XU;exact⟨c₂,oc,vs,t,e2,a8 _ Wd,r⟩
     .by_cases XV:b=P
      .subst XV;rw[eP] at e;cases e;exact a8 _ htb
      .rw[eo b XV XC hbf] at e;refine(I.cf b o e).nJ (fun d u hd q=>Ky d u ?_ q) (fun d q=>mB d _ q fun z=>by rw[z,hP] at q;cases q) fun d xs q=>mB d _ q fun z=>by rw[z,hP] at q;cases q
       rintro rfl;rcases hd with z|z
       .exact XV z.symm
       .rw[hP] at z;cases z
  exact⟨.ref h'.objs.size,H2,I2,rfl,h _ c' H2 (.inr ⟨c',eP,ec⟩) mB ec ef⟩
 .-- again
  have SV:s.heap.get? P=some (PySem.W.tabObj #[rawInt lp.line,rawInt lp.col,.ref c']):=I.cf P _ hP;refine PySem.W.kla_makeFunctionHit (mg:=X.mg) ecl I.ok.glob I.M6 C.code (C.hd.keeps I.bk) SV xY DX (C.at I hP) fun Cp h' tk hk Kx=>?_;have nf:H h'.objs.size=none:=I.cf.fresh Kx
  let H2:Hp:=upd H h'.objs.size (AJ h'.objs.size (X.env.qual++"<lambda>") params body scope X.env.cells c')
  have ef:H2 h'.objs.size=some (AJ h'.objs.size (X.env.qual++"<lambda>") params body scope X.env.cells c'):=ag;have mB:∀b o,H b=some o->H2 b=some o:=fun b o e=>by
   show upd _ _ _ _=_;rw[al (ap e nf)];exact e
  have Ky:∀b o,s.heap.get? b=some o->(h'.push (PySem.W.kla_obj "<lambda>" (X.env.qual++"<lambda>") params body scope kU ((X.mg "__name__").getD .none) c' Cp)).get? b=some o:=fun b o e=>a8 _ (hk b o e);have I2:aG X ae σ H2 { s with heap:=h'.push (PySem.W.kla_obj "<lambda>" (X.env.qual++"<lambda>") params body scope kU ((X.mg "__name__").getD .none) c' Cp),toks:=tk }:=by
   refine I.step (g':=s.gens) (d':=s.drawn) (ch:=[]) (fun _ z=>absurd z (by simp)) (fun b o _ _ _ e n=>Ky b o e) (fun b o _ _ _ e n=>⟨o.slots,Ky b o e⟩)
    (fun b o _ e n=>?_) (fun b o _ e=>⟨o,Ky b o e⟩) (fun b xs e=>mB b _ e) (fun b o u e=>mB b _ e) (fun b ps e=>⟨#[],by rw[mB b _ e];simp⟩) (fun m hm=>(hm.keeps hk).push _) (I.cf.laid Ky Kx (Cq ⟨kU,_,Cp,c1,c2,bz _ rfl⟩)) I.bare
   .show upd _ _ _ _=_;rw[al (aY (bA (hsz b o e) Kx))];exact n
  exact⟨.ref h'.objs.size,H2,I2,rfl,h _ c' H2 (.inr ⟨c',mB _ _ hP,mB _ _ N2⟩) (fun b o e _=>mB b o e) (mB _ _ N2) ef⟩
end
def GK(X:Cx)(id:String)(ks:List Str)(r:St->List V->List V->Hp->VK->Prop):Prop:=
 ∀ (ae:List (Addr×Obj)) (s:Shared) (σ:St) (H:Hp) (vs zs:List V) (us ws:List Value) (Q:VK),aG X ae σ H s->aZ vs us->aZ zs ws->r σ vs zs H Q->
  wpAny (model X.prog X.w) X.A (call (.builtin id) us (ks.zip ws)) (EP X ae σ Q) X.xe s
def XW(r:St->List V->List V->Hp->VK->Prop)(t tk:TA):TE:=fun σ H Q=>t σ H fun vs H1=>tk σ H1 fun zs H2=>r σ vs zs H2 Q
section
variable {X:Cx} {x:Str} {p pos:Pos} {e:Expr} {es:List Expr} {F1:List Keyword} {t tk:TA} {id:String} {ks:List Str} {r:St->List V->List V->Hp->VK->Prop}
theorem DY(hc:GK X id ks r)(hg:Gl X x)(hm:X.mg x=none)(hv:bootBuiltins x=some (.builtin id))(ha:PA X (e::es) t)(hkw:PK X F1 tk)(hn:x≠"__name__":=by decide)(DH:(x==("__debug__":Str))=false:=by decide)(hks:(backToKw pos (keywordEach F1 X.env)).filterMap (·.1)=ks:=by rfl)(he:backTo pos (starEach (e::es) X.env)=(false,eval e X.env)::backTo pos (starEach es X.env):=by rfl)(Av:(backTo pos (starEach (e::es) X.env)).any (·.1)=false:=by rfl)(xN:(backToKw pos (keywordEach F1 X.env)).all (·.1.isSome)=true:=by rfl)(F5:(backToKw pos (keywordEach F1 X.env)).any (·.1.isNone)=false:=by rfl):PE X (.Call (.Name x p) (e::es) F1 pos) (XW r t tk):=by
 intro ae s σ H Q I h;refine rD (jJ I hg hm hv ?_ hn DH);refine PyProof.Rows.callWith_kw (cy (ha pos ae s σ H _ I h) fun us s1 ⟨vs,H1,I1,r1,q1⟩=>?_) he Av xN F5;refine cy (hkw pos ae s1 σ H1 _ I1 q1) fun ws s2 ⟨zs,H2,I2,rz,q2⟩=>?_;rw[hks];exact hc ae s2 σ H2 vs zs us ws Q I2 r1 rz q2
end
def OK(za zb:Int)(ns out:List Int):Prop:=∃ps:List (Int×Int),ps.Perm (ns.map fun z=>((z-za) % zb,z))/\out=ps.map (·.2)/\ps.Pairwise fun p q=>p.1<=q.1
def OL(X:Cx)(qual:Str)(params:Arguments)(body:Expr)(scope:Scope)(ia ib:Nat):St->List V->List V->Hp->VK->Prop:=fun σ vs zs H Q=>
 ∃ (l f c:Addr) (ns:List Int) (za zb:Int),vs=[.ref l]/\zs=[.ref f]/\bo X.K H l (ns.map V.int)/\ns.length<64/\H f=some (AJ f qual params body scope X.env.cells c)/\H c=some (u5 c qual)/\
  σ[ia]?=some (some (.int za))/\σ[ib]?=some (some (.int zb))/\0<zb/\∀ (r:Addr) (out:List Int),H r=none->OK za zb ns out->Q (.ref r) (upd H r (.lst (out.map V.int)))
theorem u6:∀ {ns:List Int} {vs:List Value},aZ (ns.map V.int) vs->IntsAre vs ns
 |[],_,.nil=>.nil
 |_::_,_,.cons ⟨t,e⟩ r=>by subst e;exact .cons _ t (u6 r)
structure SW(X:Cx)(qual:Str)(params:Arguments)(body:Expr)(scope:Scope)(y a b:Str)(ia ib:Nat):Prop where
 bd:∃p1 p2 p3 p4 p5,body=.BinOp (.BinOp (.Name y p1) .Sub (.Name a p2) p3) .Mod (.Name b p4) p5
 bind:∀kU pm c Cp v,bindArgs (PySem.W.kla_fn "<lambda>" qual params body scope kU pm (.ref c) Cp) ⟨[v],[]⟩=pure [(y,v)]
 na:X.N[ia]?=some a
 nb:X.N[ib]?=some b
 ca:X.env.scope.names.lookup a=some .cell
 cb:X.env.scope.names.lookup b=some .cell
 ly:scope.names.lookup y=some .local
 fa:scope.names.lookup a=some .free
 fb:scope.names.lookup b=some .free
 ma:(a,NameKind.free)∈scope.names
 mb:(b,NameKind.free)∈scope.names
 OM:∀z∈scope.names,z.2≠.cell
 kind:scope.kind=.function
 co:scope.isCoroutine=false
 gen:scope.isGenerator=false
 dy:(y==("__debug__":Str))=false
 da:(a==("__debug__":Str))=false/\(a==("__classdict__":Str))=false
 db:(b==("__debug__":Str))=false/\(b==("__classdict__":Str))=false
theorem AK(S:SW X qual params body scope y a b ia ib)(hr:bL k X.A):
  GK X "sorted" ["key"] (OL X qual params body scope ia ib):=by
 intro ae s σ H vs zs us ws Q I r rz h;obtain⟨l,f,c,ns,za,zb,rfl,rfl,hl,Wq,hf,hc,sa,sb,hb0,q⟩:=h;obtain⟨u1,rfl,r1⟩:=r.one;obtain rfl:u1=Value.ref l:=r1;obtain⟨w1,rfl,rw1⟩:=rz.one;obtain rfl:w1=Value.ref f:=rw1;obtain⟨its,rv,pl,hz⟩:=I.list hl;have hI:=u6 rv;obtain⟨m,F⟩:=I.fr;obtain⟨p1,p2,p3,p4,p5,rfl⟩:=S.bd;obtain⟨kU,pm,Cp,c1,c2,Su⟩:=(I.cf f _ hf).1;have hcr:s.heap.CodeRec (.ref c) qual:=(I.cf c _ hc).1;obtain⟨m',Wc,hlk⟩:=I.loc;have SX:∃ca ta,kU.lookup a=some ca/\s.heap.IsCell ca (some (.int za ta)):=by
  obtain⟨u,⟨ta,rfl⟩,lk⟩:=hlk ia a (.int za) S.na sa (.inr (.inl S.ca));obtain⟨ca,e1⟩:=c2 a S.ma;rcases lk with ⟨z,_⟩|⟨_,M7,e2,e3⟩
  .have z':X.env.scope.names.lookup a=some .local:=z;rw[S.ca] at z';cases z'
  .have e4:=c1 a ca e1;rw[e2] at e4;cases e4;exact⟨ca,ta,e1,e3⟩
 have SY:∃cb tb,kU.lookup b=some cb/\s.heap.IsCell cb (some (.int zb tb)):=by
  obtain⟨u,⟨tb,rfl⟩,lk⟩:=hlk ib b (.int zb) S.nb sb (.inr (.inl S.cb));obtain⟨cb,e1⟩:=c2 b S.mb;rcases lk with ⟨z,_⟩|⟨_,cb',e2,e3⟩
  .have z':X.env.scope.names.lookup b=some .local:=z;rw[S.cb] at z';cases z'
  .have e4:=c1 b cb e1;rw[e2] at e4;cases e4;exact⟨cb,tb,e1,e3⟩
 obtain⟨ca,ta,ea,ha⟩:=SX;obtain⟨cb,tb,eb,hb⟩:=SY;have Wr:∀b' (o:Obj),s.heap.get? b'=some o->(∀es ep,o.data≠.dict es ep)->b'≠X.env.locals:=fun b' o e d z=>by
  obtain⟨o',es,ep,e',d',_⟩:=F.ns;rw[z,e'] at e;cases e;exact d _ _ d'
 have len:(ns.map fun z=>(z-za) % zb).length=its.length:=by rw[aP,hI.length]
 refine ksk_sorted (b:=false) (f:=.ref f) (kz:=ns.map fun z=>(z-za) % zb) F xB pl.isList len (by rw[hI.length];exact Wq) (ksk_s1 _ _) (fun x=>ksk_l1 _ _) (fun x=>ksk_t1 _ _) ?_ ?_
 .-- one key
  intro i v k hv hk h tk own F' N';have at_:∀b' u,b'≠X.env.locals->s.heap.get? b'=some u->h.get? b'=some u:=fun b' u lR e=>by
   cases z:X.base.get? b' with
   |some o=>
    have:=I.bk b' o z;rw[e] at this;cases this;exact F'.keep b' _ z
   |none=>exact(N' (b',u) (kr _ (iM lR z e))).1
  have XX:=at_ f _ (Wr f _ Su (by intro es ep z;cases z)) Su;have XY:h.CodeRec (.ref c) qual:=by
   obtain⟨c0,o,vs0,t0,e0,ho,hd,hv0⟩:=hcr;refine⟨c0,o,vs0,t0,e0,at_ _ _ (Wr _ _ ho (by rw[hd];intro es ep z;cases z)) ho,hd,hv0⟩
  have Ss:h.IsCell ca (some (.int za ta)):=by
   obtain⟨o,ho,hd⟩:=ha;exact⟨o,at_ _ _ (Wr _ _ ho (by rw[hd];intro es ep z;cases z)) ho,hd⟩
  have jq:h.IsCell cb (some (.int zb tb)):=by
   obtain⟨o,ho,hd⟩:=hb;exact⟨o,at_ _ _ (Wr _ _ ho (by rw[hd];intro es ep z;cases z)) ho,hd⟩
  obtain⟨z,tz,rfl,rfl⟩:∃z tz,v=.int z tz/\k=(z-za) % zb:=by
   obtain⟨n,t,e⟩:=hI.all v (dh hv);refine⟨n,t,e,?_⟩;rw[bJ] at hk;have hn:=hI.nums;have e1:(its.map numOf)[i]?=some n:=by rw[bJ,hv,e];rfl
   rw[hn] at e1;rw[e1] at hk;exact(bg hk).symm
  have SZ:X.A.in1.in1.depth<recursionLimit:=by
   have:=hr.dp;show X.A.depth<_;lia
  refine rT (PySem.W.kla_callFunE SZ XX rfl S.co S.gen rfl XY ?_);rw[S.bind];refine wpAny_pure (wpAny_newFunctionEnv S.OM (fun x hx=>by rw[dL.mp hx];exact S.ly) (fun h₁ AL Ws=>⟨((I.ok.mod.nolimit).keeps F'.keep).fresh _ Ws,?_⟩) S.kind);have S4:∀b o,h.get? b=some o->h₁.get? b=some o:=fun b o e=>Ws.extBut b o (aY (aL e)) (a8 _ e);have ha₁:=Ss.keeps S4;have hb₁:=jq.keeps S4;refine PySem.W.kla_codeExpr ?_;refine wpAny_BinOp (wpAny_BinOp ?_);refine o0 (zH S.kind S.ly AL (v:=.int z tz) (by simp) ?_) S.dy;refine o0 (zN S.kind S.fa ea ha₁ ?_ S.da.2) S.da.1;refine sub_int ?_;refine o0 (zN S.kind S.fb eb hb₁ ?_ S.db.2) S.db.1;refine mod_int' (by lia) ?_;rw[y7 _ (by lia)];refine KskEnd.intro (news':=iL X.base s.heap X.env.locals++own) ⟨F'.ns.keeps S4,fun b o e=>S4 b o (F'.keep b o e),F'.above⟩ (fun p hp=>⟨S4 _ _ (N' p hp).1,(N' p hp).2⟩) fun p hp=>hp
 .-- the list
  intro D h' tk out cc F' N' de XZ;have hD:=uD I N' de;obtain⟨ps,hp,ho,hs⟩:=XZ;have uC:∀p∈ps,∃n t,p.2=.int n t:=fun p Gs=>by
   have:=hp.mem_iff.mp Gs;exact hI.all _ (rJ this).2
  have hz':((ns.map fun z=>(z-za) % zb).zip its).map (fun p=>(p.1,numOf p.2))=ns.map fun z=>((z-za) % zb,z):=by
   have hn:=hI.nums;rw[<-hn];have go:∀ (l:List Value),((((l.map numOf).map fun z=>(z-za) % zb).zip l).map fun p=>(p.1,numOf p.2))=(l.map numOf).map fun z=>((z-za) % zb,z):=by
    intro l;induction l with
    |nil=>rfl
    |cons x l ih=>simp only[e_,List.zip_cons_cons,ih]
   exact go its
  have Ga:aZ ((ps.map fun p=>(p.1,numOf p.2)).map (fun p=>V.int p.2)) (ps.map Prod.snd):=by
   have go:∀ (l:List (Int×Value)),(∀p∈l,∃n t,p.2=.int n t)->aZ ((l.map fun p=>(p.1,numOf p.2)).map (fun p=>V.int p.2)) (l.map Prod.snd):=by
    intro l;induction l with
    |nil=>intro _;exact .nil
    |cons x l ih=>
     intro hx;refine .cons ?_ (ih fun p hp=>hx p (bU _ hp));obtain⟨n,t,e⟩:=hx x bV;show ∃t,x.2=Value.int (numOf x.2) t;rw[e];exact⟨t,rfl⟩
   exact go ps uC
  have DZ:OK za zb ns ((ps.map fun p=>(p.1,numOf p.2)).map (·.2)):=by
   refine⟨ps.map fun p=>(p.1,numOf p.2),?_,rfl,?_⟩
   .rw[<-hz'];exact hp.map _
   .refine j5.mpr (hs.imp fun {p q} z=>?_);simpa using z
  have hDo:h'.get? D=some (seqObj "list" out cc):=(N' _ bV).1;have I2:aG X ae σ (upd H D (.lst (((ps.map fun p=>(p.1,numOf p.2)).map (·.2)).map V.int))) { s with heap:=h',toks:=tk }:=by
   refine I.SD F F' (fun p hp=>N' p (bU _ hp)) hD ⟨?_,ps.map Prod.snd,cc,?_,?_⟩
   .have h1:=hp.length_eq;rw[List.length_zip,len,Nat.min_self] at h1;simp only[aP];rw[h1,hI.length];exact bj (jF Wq) (by decide)
   .have ev:=Ga;simp only[fj] at ev |-;exact ev
   .rw[hDo,<-ho]
  exact⟨.ref D,_,I2,rfl,q D _ (I.cf.su hD) DZ⟩
def wA(mg:Str->Option Value)(base:Heap):Prop:=∃bm o,mg "__builtins__"=some (.ref bm)/\bm≠builtinsNs/\bm≠mainGlobals/\base.get? bm=some o/\o.cls=.type "module"/\o.dict=some builtinsNs/\o.data=.plain
def Cr(ts:List Addr)(H:Hp):Prop:=(∀P∈ts,H P=some (.qI #[]))/\∀b,H b=none\/(b∈ts/\H b=some (.qI #[]))\/∃o xs,H b=some (.mC o (.lst xs))
theorem D7{P:Program}{w:World}{K:PySem.W.Frag}{mg mb:Str->Option Value}{CX:xw}{k:Nat}{fa a:Addr}{fd:FuncData}{x:Str}{sp:Sp}{s₁:Shared}{vs:List Value}{ns:List Int}{ts:List Addr}(KX:K.In s₁.heap)(AL:s₁.heap.Ns mainGlobals mg)(hb:s₁.heap.Ns builtinsNs mb)(hbb:∀x:Str,x≠"__name__"->mb x=bootBuiltins x)(X0:s₁.heap.NoLimit)(hg:s₁.gens=#[])(hbm:wA mg s₁.heap)(S5:∀P∈ts,s₁.heap.get? P=some (PySem.W.tabObj #[]))(ul:∀P∈ts,∃c,PySem.W.codeHdIn K c P=true)(X1:∀P∈ts,K.lookup P=none)(ha:s₁.heap.get? a=some { cls:=.type "list",data:=.seq vs.toArray })(hi:IntsAre vs ns)(hl:ns.length<=sizeLine)(hr:bL k callerA)(F:∀base:Heap,K.In base->base.Ns mainGlobals mg->wA mg base->bi P w K mg base CX k fa fd [x] sp)(S7:∀ (s:Shared) (u:Value),BindsTo s fd ⟨[u],[]⟩ [(x,u)])(E8:∀H:Hp,Cr ts H->bo K H a (ns.map V.int)->sp [.ref a] H (fun v _=>v=.bl true) fun _ _ _=>False)(X2:∀H e s',CX [] H s₁ (fun _ _ _=>False) e s'->False):
  codeAny (model P w) callerA (.call (.ref fa) ⟨[.ref a],[]⟩) (fun r s'=>r=.ok (.ret (.bool true))/\OldK s₁.heap s'.heap/\s'.os=s₁.os/\AllBare s'.gens) s₁:=by
 have rv:=pC hi;have X3:=hi.length;have Wt:a∉ts:=fun z=>by
  have:=S5 a z;rw[ha] at this;cases this
 have S8:∀H:Hp,Cr ts H->bo K H a (ns.map V.int)->kI P w H s₁.heap->(∀b,H b≠none->b=a\/b∈ts)->(H a≠none->K.lookup a=none)->
   codeAny (model P w) callerA (.call (.ref fa) ⟨[.ref a],[]⟩) (fun r s'=>r=.ok (.ret (.bool true))/\OldK s₁.heap s'.heap/\s'.os=s₁.os/\AllBare s'.gens) s₁:=by
  intro H hO hS cf hA hK;have wB:∀ {b:Addr} {o:Obj},s₁.heap.get? b=some o->H b=none->(ux s₁.heap H).get? b=some o:=fun e n=>FA e n;have Rf:∀ {b:Addr} {o:Obj},s₁.heap.get? b=some o->(∀v n,o.data≠.seq v n)->(∀v,o.data≠.fields v)->H b=none:=fun {b o} e d1 d2=>by
   cases q:H b with
   |none=>rfl
   |some u=>
    rcases hA b (by rw[q];simp) with e'|e'
    .subst e';rw[ha] at e;cases e;exact absurd rfl (d1 _ _)
    .rw[S5 b e'] at e;cases e;exact absurd rfl (d2 _)
  have Wu:∀ {b:Addr} {m:Str->Option Value},s₁.heap.Ns b m->(ux s₁.heap H).Ns b m:=fun {b m} ⟨o,es,ep,e,d,r⟩=>⟨o,es,ep,wB e (Rf e (by rw[d];intro v n z;cases z) (by rw[d];intro v z;cases z)),d,r⟩
  have hKb:K.In (ux s₁.heap H):=fun b o e=>wB (KX b o e) (by
   cases q:H b with
   |none=>rfl
   |some u=>
    rcases hA b (by rw[q];simp) with e'|e'
    .subst e';rw[hK (by rw[q];simp)] at e;cases e
    .rw[X1 b e'] at e;cases e)
  have hB:wA mg (ux s₁.heap H):=by
   obtain⟨bm,o,b1,b2,b3,b4,b5,b6,b7⟩:=hbm;exact⟨bm,o,b1,b2,b3,wB b4 (Rf b4 (by rw[b7];intro v n z;cases z) (by rw[b7];intro v z;cases z)),b5,b6,b7⟩
  have hM:Mod K mg (ux s₁.heap H):=⟨hKb,Wu AL,⟨mb,Wu hb,hbb⟩,let ⟨mc,h1,h2⟩:=X0;⟨mc,Wu h1,h2⟩⟩
  have e0:Ap P w K mg (ux s₁.heap H) callerA [] s₁ H:=⟨rfl,hM,fun b o e=>J0 e,oW (Dy _ _),trivial,fun b hb=>absurd (show b∈([]:List Addr) from hb) (by simp),cf,.of_eq hg⟩
  refine kD ((F _ hKb (Wu AL) hB).run callerA [] s₁ H ⟨[.ref a],[]⟩ [.ref a] [.ref a] _ _ hr e0 (S7 s₁ (.ref a)) (.cons rfl .nil) (E8 H hO hS)) fun r s' h=>?_;cases r with
  |error e=>exact(X2 H e s' h).elim
  |ok fl=>
   cases fl with
   |next=>exact False.elim h
   |brk=>exact False.elim h
   |cont=>exact False.elim h
   |ret u=>
    obtain⟨v,H',os,bare,un,S9,r',q⟩:=h;have q':v=.bl true:=q;subst q';obtain rfl:u=Value.bool true:=r';refine⟨rfl,⟨fun b o e=>?_,fun b o e=>un.there b o e (by simp)⟩,os,bare⟩;cases q:H b with
    |none=>exact .inl (un.keep b o e q (by intro z;exact absurd (show b∈([]:List Addr) from z) (by simp)) (by simp))
    |some u=>
     rcases hO.2 b with z|⟨zt,z⟩|⟨ob,xs,z⟩
     .rw[q] at z;cases z
     .obtain⟨more,z2⟩:=un.o7 b _ z;have e1:=S5 b zt;rw[e] at e1;cases e1;have e2:s'.heap.get? b=some { cls:=.none,data:=.fields (#[]++more) }:=S9 b _ z2;obtain⟨c,hc⟩:=ul b zt;obtain⟨oc,vsc,_,_,_,_,_,_,_,g1,g2,g3,g4,_⟩:=PySem.W.codeHd_of_K KX hc;exact .inr (.inl ⟨⟨c,oc,vsc,g1,g2,g3,g4⟩,rfl,#[],more,rfl,e2⟩)
     .have z2:=un.o6 b ob _ z;obtain⟨e1,_⟩:=cf b _ z;obtain⟨e2,_⟩:=S9 b _ z2;rw[e] at e1;cases e1;exact .inl e2
 have abL:∀ (H:Hp),(∀P∈ts,H P=some (.qI #[]))->True:=fun _ _=>trivial
 classical
 cases hk:K.lookup a with
 |some o=>
  have e:=KX a o hk;rw[ha] at e;cases e;refine S8 (fun b=>if b∈ts then some (.qI #[]) else none) ⟨fun P hP=>ak hP,fun b=>?_⟩ (.inr ⟨_,vs.toArray,_,hk,rfl,rfl,rfl,by rw[c_,X3];exact hl,by simpa using rv⟩) (fun b u z=>?_) (fun b z=>?_) fun z=>absurd (aq Wt) z
  .by_cases hb:b∈ts
   .exact .inr (.inl ⟨hb,ak hb⟩)
   .exact .inl (aq hb)
  .by_cases hb:b∈ts
   .have z':=(ak hb).symm.trans z;cases z';exact S5 b hb
   .have z':=(aq hb).symm.trans z;cases z'
  .by_cases hb:b∈ts
   .exact .inr hb
   .exact absurd (aq hb) z
 |none=>
  refine S8 (fun b=>if b=a then some (.mC { cls:=.type "list",data:=.seq vs.toArray } (.lst (ns.map V.int))) else if b∈ts then some (.qI #[]) else none) ⟨fun P hP=>?_,fun b=>?_⟩ (.inl (.inr ⟨{ cls:=.type "list",data:=.seq vs.toArray },ak rfl⟩)) (fun b u z=>?_) (fun b z=>?_) fun _=>hk
  .have:P≠a:=fun z=>Wt (z ▸ hP);show (if P=a then _ else if P∈ts then _ else _)=_;rw[aq this,ak hP]
  .by_cases hb:b=a
   .exact .inr (.inr ⟨_,_,ak hb⟩)
   .by_cases ht:b∈ts
    .exact .inr (.inl ⟨ht,by show (if b=a then _ else if b∈ts then _ else _)=_;rw[aq hb,ak ht]⟩)
    .exact .inl (by show (if b=a then _ else if b∈ts then _ else _)=_;rw[aq hb,aq ht])
  .by_cases hb:b=a
   .have z':=(ak hb).symm.trans z;cases z';subst hb;exact⟨ha,by rw[aP];exact hl,vs,_,rv,ha⟩
   .have z1:(if b∈ts then some (HO.qI #[]) else none)=some u:=(aq hb).symm.trans z;by_cases ht:b∈ts
    .rw[ak ht] at z1;cases z1;exact S5 b ht
    .rw[aq ht] at z1;cases z1
  .by_cases hb:b=a
   .exact .inl hb
   .by_cases ht:b∈ts
    .exact .inr ht
    .exact absurd (by show (if b=a then _ else if b∈ts then _ else _)=_;rw[aq hb,aq ht]) z
theorem GN{l:PySem.W.OpenLaw}{n k:Nat}{q:Program}{uW:List Str}{XP:(Str->Option Value)->Heap->Prop}{YP:World->Heap->Prop}{d:DefRec}{K:Params->PySem.W.Frag}{CX:World->xw}{sp:World->Sp}{x:Str}{ts:List Addr}(hn:l.most=some n)(Re:n<=sizeLine)(Sq:d.params.defaults=[])(hr:bL k callerA)(hY:∀ (w:World) (h:Heap),YP w h->(K w.params).In h)(hT:∀ (w:World) (h:Heap),YP w h->∀P∈ts,h.get? P=some (PySem.W.tabObj #[]))(ul:∀ (w:World),∀P∈ts,∃c,PySem.W.codeHdIn (K w.params) c P=true)(X1:∀ (w:World),∀P∈ts,(K w.params).lookup P=none)(F:∀ (w:World) (mg:Str->Option Value) (fa:Addr) (h:Heap),(K w.params).In h->h.Ns mainGlobals mg->mg d.name=some (.ref fa)->
   ∃fd:FuncData,(∀ (s:Shared) (u:Value),BindsTo s fd ⟨[u],[]⟩ [(x,u)])/\
    ∀base:Heap,(K w.params).In base->base.Ns mainGlobals mg->wA mg base->bi l.prog w (K w.params) mg base (CX w) k fa fd [x] (sp w))(E8:∀ (w:World) (H:Hp) (a:Addr) (ns:List Int),ns.length<=n->Cr ts H->bo (K w.params) H a (ns.map V.int)->sp w [.ref a] H (fun v _=>v=.bl true) fun _ _ _=>False)(X2:∀ (w:World) (H:Hp) (s:Shared) (e:Value) (s':Shared),CX w [] H s (fun _ _ _=>False) e s'->False):
  PySem.W.WalkO q uW XP YP l.row.toRowW d [] (fun f vs=>PySem.call f vs):=by
 refine Att.xO hn Sq fun w s₀ s₁ mg mb fa o pm cd ni a vs ns G Y ho hd abO Sr Op Gb cY hg=>?_;have KX:=hY w _ Y;obtain⟨fd,hb,hF⟩:=F w mg fa _ KX G.T.g Sr;have hB:wA mg s₁.heap:=by
  obtain⟨bm,ob,b1,b2,b3,b4,b5,b6⟩:=G.T.bmain;refine⟨bm,ob,b1,b2,fun z=>?_,b3,b4,b5,b6⟩;obtain⟨o',es,ep,e,RP,_⟩:=G.T.g;rw[z,e] at b3;cases b3;rw[RP] at b6;cases b6
 exact D7 KX G.T.g G.T.b G.T.builtins G.T.nolimit hg hB (hT w _ Y) (ul w) (X1 w) Op Gb (bj cY Re) hr hF hb (fun H hO hS=>E8 w H a ns cY hO hS) fun H e s'=>X2 w H s₁ e s'
structure AM(K:PySem.W.Frag)(x qual:Str)(st:Stmt)(f:Addr)(fd:FuncData)(c:Addr):Prop where
 ex:∃ (oc:Value) (od:Option Addr) (kV ni pm:Value) (an:Option Addr) (ct:Value) (xI:Array (Option Value)),
  fd=PySem.W.fnOf x qual (dz st) (cz st) (ao st) .none kV ni pm an (.ref c) ct/\K.lookup f=some ⟨oc,od,.func fd,xI⟩/\PySem.W.codeIn K (.ref c) qual=true
 kp:PySem.W.keepIn K (.ref f)=true
theorem AM.fun{K:PySem.W.Frag}{x qual:Str}{st:Stmt}{f:Addr}{fd:FuncData}{c:Addr}(F:AM K x qual st f fd c):eK K x qual st f fd:=by
 obtain⟨oc,od,kV,ni,pm,an,ct,xI,e,lk,ul⟩:=F.ex;exact⟨⟨oc,od,kV,ni,pm,an,_,ct,xI,e,lk,ul⟩,F.kp⟩
section
variable {P:Program} {w:World} {K:PySem.W.Frag} {mg:Str->Option Value} {base:Heap}
theorem AM.ok{x qual:Str}{st:Stmt}{f:Addr}{fd:FuncData}{c:Addr}{N ps:List Str}{k:Nat}{sp:Sp}(F:AM K x qual st f fd c)(S:aA N ps (ao st))(len:∀vs H Q E,sp vs H Q E->vs.length=ps.length)(sf:∀ (A:Around) (outer:List Env) (s:Shared) (H:Hp) (vs:List V) (Q:VK) (E:XK),bL k (A.deeper (envOfC qual (ao st) s.heap.objs.size f (.ref c)))->sp vs H Q E->
   ∃t,yY (jN ba P w K mg base N qual (ao st) f (.ref c) A outer s H E).MQ (cz st) t/\t { nx:=fun _ H'=>Q .bR H',rt:=Q } (start N vs) H):bi P w K mg base ba (k+1) f fd ps sp:=by
 obtain⟨oc,od,kV,ni,pm,an,ct,xI,rfl,lk,ul⟩:=F.ex;refine F3 lk ul S len fun A outer s H vs Q E hr E8=>?_;obtain⟨t,h,q⟩:=sf A outer s H vs Q E hr E8;exact⟨t,h.MQ,q⟩
theorem Kz{x qual:Str}{st:Stmt}{f c:Addr}{oc:Value}{od an:Option Addr}{xI:Array (Option Value)}{kV ni pm ct:Value}(l:K.lookup f=some ⟨oc,od,.func (PySem.W.fnOf x qual (dz st) (cz st) (ao st) .none kV ni pm an (.ref c) ct),xI⟩)(ul:PySem.W.codeIn K (.ref c) qual=true)(kp:PySem.W.keepIn K (.ref f)=true):AM K x qual st f (PySem.W.fnOf x qual (dz st) (cz st) (ao st) .none kV ni pm an (.ref c) ct) c:=⟨⟨oc,od,kV,ni,pm,an,ct,xI,rfl,l,ul⟩,kp⟩
theorem KA(kb:K.In base)(hb:wA mg base)(hc:PySem.W.codeHdIn K c P'=true):
  Kw (jN CX P w K mg base N qual scope f (.ref c) A outer s H E).MQ c P':=⟨rfl,PySem.W.codeHd_of_K kb hc,hb⟩
end
def qQ(sc X4:Scope)(y:Str×NameKind):Bool:=match y.2 with
 |.cell=>(match sc.names.lookup y.1 with|some .cell=>true|_=>false)
 |.local=>(match sc.names.lookup y.1 with|some .local=>true|_=>false)
 |.free=>(match X4.names.lookup y.1 with|some .cell=>true|some .free=>true|_=>false)
 |_=>true
def GQ(NB:List Str)(src:List (Option Nat))(sc:Scope)(N:List Str)(i:Nat):Bool:=match NB[i]?,src[i]? with
 |some x,some (some j)=>(N[j]?==some x)&&(match sc.names.lookup x with|some .free=>true|_=>false)
 |_,_=>true
def Cu(sc:Scope):Bool:=match sc.kind with|.function=>true|_=>false
def GR(NB:List Str)(src:List (Option Nat))(sc X4:Scope)(N:List Str):Bool:=
 Cu sc&&decide NB.Nodup&&(src.length==NB.length)&&(sc.names.all (qQ sc X4))&&(List.range NB.length).all (GQ NB src sc N)
theorem cx(h:GR NB src sc X.env.scope X.N=true):eM NB src sc X:=by
 unfold GR at h;simp only[gP,ml,et,ij] at h;obtain⟨⟨⟨⟨h1,h2⟩,h3⟩,h4⟩,h5⟩:=h;refine⟨?_,h2,h3,fun y hy z=>?_,fun y hy z=>?_,fun y hy z=>?_,fun i x j e1 e2=>?_⟩
 .unfold Cu at h1;split at h1
  .assumption
  .cases h1
 .have:=h4 y hy;obtain⟨n,k⟩:=y;obtain rfl:k=.cell:=z;dsimp only[qQ] at this |-;split at this
  .assumption
  .cases this
 .have:=h4 y hy;obtain⟨n,k⟩:=y;obtain rfl:k=.local:=z;dsimp only[qQ] at this |-;split at this
  .assumption
  .cases this
 .have:=h4 y hy;obtain⟨n,k⟩:=y;obtain rfl:k=.free:=z;dsimp only[qQ] at this |-;split at this
  .exact .inl (by assumption)
  .exact .inr (by assumption)
  .cases this
 .have hi:i<NB.length:=(cW.mp e1).1;have:=h5 i (dt.mpr hi);unfold GQ at this;rw[e1,e2] at this;simp only[gP,et] at this;refine⟨this.1,?_⟩;have t2:=this.2;split at t2
  .assumption
  .cases t2
theorem jr{K:PySem.W.Frag}{a D:Addr}{xs:List V}{g:TG}{tt:TT}{te:TE}{cH:Hp->Prop}{σB:St}{H0:Hp}(Pv:Nat->List V->St->Hp->Prop)(h0:Pv 0 [] σB H0)(hl:∀i ys σ H,i<=xs.length->Pv i ys σ H->bo K H a xs)(hs:∀i x ys σ H (Kt:V->St->Hp->Prop) (Kf:St->Hp->Prop),xs[i]?=some x->Pv i ys σ H->
   (∀v σ2 H4,H4 D=some (.lst ys)->ys.length<sizeLine->Pv (i+1) (ys++[v]) σ2 (upd H4 D (.lst (ys++[v])))->Kt v σ2 H4)->(∀σ2 H3,Pv (i+1) ys σ2 H3->Kf σ2 H3)->
   g x σ H fun σ2 H2=>tt σ2 H2 fun b H3=>if b=true then te σ2 H3 fun v H4=>Kt v σ2 H4 else Kf σ2 H3)(hd:∀ys σ H,Pv xs.length ys σ H->cH H):gR (FG K a) g tt te D cH σB H0:=by
 refine⟨fun i m σ H=>m=xs.length-i/\i<=xs.length/\∃ys,Pv i ys σ H,⟨xs.length,by simp,cr _,[],h0⟩,?_⟩;rintro i m σ H ⟨rfl,hi,ys,p⟩;have q:=hl i ys σ H hi p;by_cases de:i<xs.length
 .refine .inr ⟨⟨xs,xs[i],q,by simp[de]⟩,?_⟩;rintro x H' ⟨rfl,y⟩;exact hs i x ys σ _ (fun v σ2 H4=>∃ys,H4 D=some (.lst ys)/\ys.length<sizeLine/\∃m',m'<xs.length-i/\m'=xs.length-(i+1)/\i+1<=xs.length/\∃pI,Pv (i+1) pI σ2 (upd H4 D (.lst (ys++[v]))))
   (fun σ2 H3=>∃m',m'<xs.length-i/\m'=xs.length-(i+1)/\i+1<=xs.length/\∃pI,Pv (i+1) pI σ2 H3) (y xs q) p
   (fun v σ2 H4 z1 z2 z3=>⟨ys,z1,z2,_,by lia,rfl,de,_,z3⟩) (fun σ2 H3 z=>⟨_,by lia,rfl,de,_,z⟩)
 .have e:i=xs.length:=by lia
  subst e;exact .inl ⟨⟨xs,q,aX _⟩,hd ys σ H p⟩
theorem iw{lo:Int}{n:Nat}{D:Addr}{g:TG}{tt:TT}{te:TE}{cH:Hp->Prop}{σB:St}{H0:Hp}(Pv:Nat->List V->St->Hp->Prop)(h0:Pv 0 [] σB H0)(hs:∀i ys σ H (Kt:V->St->Hp->Prop) (Kf:St->Hp->Prop),i<n->Pv i ys σ H->
   (∀v σ2 H4,H4 D=some (.lst ys)->ys.length<sizeLine->Pv (i+1) (ys++[v]) σ2 (upd H4 D (.lst (ys++[v])))->Kt v σ2 H4)->(∀σ2 H3,Pv (i+1) ys σ2 H3->Kf σ2 H3)->
   g (.int (lo+i)) σ H fun σ2 H2=>tt σ2 H2 fun b H3=>if b=true then te σ2 H3 fun v H4=>Kt v σ2 H4 else Kf σ2 H3)(hd:∀ys σ H,Pv n ys σ H->cH H):gR (J_ lo n) g tt te D cH σB H0:=by
 refine⟨fun i m σ H=>m=n-i/\i<=n/\∃ys,Pv i ys σ H,⟨n,by simp,cr _,[],h0⟩,?_⟩;rintro i m σ H ⟨rfl,hi,ys,p⟩;by_cases de:i<n
 .refine .inr ⟨de,?_⟩;rintro x H' ⟨rfl,rfl⟩;exact hs i ys σ _ (fun v σ2 H4=>∃ys,H4 D=some (.lst ys)/\ys.length<sizeLine/\∃m',m'<n-i/\m'=n-(i+1)/\i+1<=n/\∃pI,Pv (i+1) pI σ2 (upd H4 D (.lst (ys++[v]))))
   (fun σ2 H3=>∃m',m'<n-i/\m'=n-(i+1)/\i+1<=n/\∃pI,Pv (i+1) pI σ2 H3) de p
   (fun v σ2 H4 z1 z2 z3=>⟨ys,z1,z2,_,by lia,rfl,de,_,z3⟩) (fun σ2 H3 z=>⟨_,by lia,rfl,de,_,z⟩)
 .have e:i=n:=by lia
  subst e;exact .inl ⟨aX _,hd ys σ H p⟩
section
variable {κ:Type} [DecidableEq κ]
def kW(kvs:List (κ×V))(k:κ):Option V:=(kvs.find? fun kv=>decide (kv.1=k)).map (·.2)
def pJ(kvs:List (κ×V))(k:κ)(v:V):List (κ×V):=
 if (kvs.any fun kv=>decide (kv.1=k))=true then kvs.map (fun kv=>if kv.1=k then (kv.1,v) else kv) else kvs++[(k,v)]
theorem n9{p:κ×V}{r:List (κ×V)}{k:κ}(e:p.1=k):kW (p::r) k=some p.2:=by simp[kW,mr,e]
theorem n_{p:κ×V}{r:List (κ×V)}{k:κ}(e:¬ p.1=k):kW (p::r) k=kW r k:=by simp[kW,mr,e]
theorem sO(k:κ):∀kvs:List (κ×V),(kvs.any fun kv=>decide (kv.1=k))=(kW kvs k).isSome
 |[]=>rfl
 |p::r=>by
  rw[kC];by_cases e:p.1=k
  .simp only[n9 e,bn e,Bool.true_or,Option.isSome_some]
  .rw[n_ e,dF e,Bool.false_or];exact sO k r
theorem xZ(kvs:List (κ×V))(k:κ)(v:V):(pJ kvs k v).length<=kvs.length+1:=by
 unfold pJ;split
 .rw[aP];lia
 .rw[dU,cQ,List.length_nil];lia
theorem GU{kvs:List (κ×V)}{k:κ}(v:V)(h:kW kvs k=none):pJ kvs k v=kvs++[(k,v)]:=by
 unfold pJ;rw[sO,h];exact aq (by decide)
theorem KV.val{kvs:List (κ×V)}{vs:List (κ×Value)}(r:KV kvs vs)(k:κ):nI (kW kvs k) (valueAt vs k):=by
 unfold KV at r;induction r with
 |nil=>exact True.intro
 |@cons p q ps qs h t ih=>
  obtain⟨h1,h2⟩:=h;by_cases e:p.1=k
  .have e':q.1=k:=h1.symm.trans e;have b:valueAt (q::qs) k=some q.2:=by simp[valueAt,mr,e']
   rw[n9 e,b];exact h2
  .have e':¬ q.1=k:=fun z=>e (h1.trans z);have b:valueAt (q::qs) k=valueAt qs k:=by simp[valueAt,mr,e']
   rw[n_ e,b];exact ih
theorem KV.any{kvs:List (κ×V)}{vs:List (κ×Value)}(r:KV kvs vs)(k:κ):(kvs.any fun kv=>decide (kv.1=k))=vs.any fun kv=>decide (kv.1=k):=by
 unfold KV at r;induction r with
 |nil=>rfl
 |cons h t ih=>rw[kC,kC,ih,h.1]
theorem KV.X5{kvs:List (κ×V)}{vs:List (κ×Value)}(r:KV kvs vs)(k:κ){y:V}{u:Value}(ry:bC y u):
  KV (kvs.map fun kv=>if kv.1=k then (kv.1,y) else kv) (vs.map fun kv=>if kv.1=k then (kv.1,u) else kv):=by
 unfold KV at r |-;induction r with
 |nil=>exact .nil
 |@cons p q ps qs h t ih=>
  rw[e_,e_];refine .cons ?_ ih;obtain⟨h1,h2⟩:=h;by_cases e:p.1=k
  .rw[ak e,ak (h1.symm.trans e)];exact⟨h1,ry⟩
  .rw[aq e,aq (fun z=>e (h1.trans z))];exact⟨h1,h2⟩
theorem KV.put{kvs:List (κ×V)}{vs:List (κ×Value)}(r:KV kvs vs)(k:κ){y:V}{u:Value}(ry:bC y u):KV (pJ kvs k y) (stored vs k u):=by
 unfold pJ stored;rw[r.any k];by_cases e:(vs.any fun kv=>decide (kv.1=k))=true
 .rw[ak e,ak e];exact r.X5 k ry
 .rw[aq e,aq e];exact Paired.snoc r ⟨rfl,ry⟩
theorem KV.keys{kvs:List (κ×V)}{vs:List (κ×Value)}(r:KV kvs vs):kvs.map (·.1)=vs.map (·.1):=by
 unfold KV at r;induction r with
 |nil=>rfl
 |cons h t ih=>rw[e_,e_,ih,h.1]
theorem KV.length{kvs:List (κ×V)}{vs:List (κ×Value)}(r:KV kvs vs):kvs.length=vs.length:=Paired.length r
end
theorem GV(r:bC (kV k) u):(dD P w).is k u=true:=by
 cases k with
 |inl i=>obtain⟨t,e⟩:=(show ∃t,u=Value.int i t from r);subst e;exact xz P w i t
 |inr x=>obtain⟨t,e⟩:=(show ∃t,u=Value.str x t from r);subst e;exact xA P w x t
theorem u7:∀ {ks:List fR} {us:List Value},aZ (ks.map kV) us->ItemsAre (dD P w) ks us
 |[],_,r=>by rw[wc] at r;cases r;exact .nil
 |k::ks,_,r=>by
  rw[e_] at r;cases r with
  |cons h t=>exact .cons (GV h) (u7 t)
abbrev KT(H:Hp):List (List fR×V)->List (List fR×Addr×Value)->Prop:=Paired fun p q=>p.1=q.1/\H q.2.1=some (.tup (p.1.map kV))/\bC p.2 q.2.2
theorem KT.val{H:Hp}{kvs:List (List fR×V)}{xs:List (List fR×Addr×Value)}(r:KT H kvs xs)(k:List fR):nI (kW kvs k) ((atKey xs k).map (·.2)):=by
 induction r with
 |nil=>exact True.intro
 |@cons p q ps qs h t ih=>
  obtain⟨h1,_,h2⟩:=h;by_cases e:p.1=k
  .have e':q.1=k:=h1.symm.trans e;have b:atKey (q::qs) k=some q.2:=by simp[atKey,mr,e']
   rw[n9 e,b];exact h2
  .have e':¬ q.1=k:=fun z=>e (h1.trans z);have b:atKey (q::qs) k=atKey qs k:=by simp[atKey,mr,e']
   rw[n_ e,b];exact ih
section
variable {P:Program} {w:World} {H:Hp} {h:Heap} {a:Addr}
theorem M8(ok:kI P w H h)(e:Rd H a u):ce P w H h a u:=e.ok ok
theorem GW(ok:kI P w H h)(e:Rd H a (.dK kvs)):kvs.length<=sizeLine/\(a==sysModules)=false/\∃vs,KV kvs vs/\h.DictOf (dD P w) a vs:=
 show ce P w H h a (.dK kvs) from M8 ok e
theorem M9{kvs:List (fR×V)}(ok:kI P w H h)(e:H a=some (.dK kvs)):kvs.length<=sizeLine/\(a==sysModules)=false/\∃vs,KV kvs vs/\h.DictOf (dD P w) a vs:=GW ok (.inl e)
theorem sQ(ok:kI P w H h)(e:H a=some (.tup (ks.map kV))):(tupleKind (dD P w)).is h ks a:=by
 obtain⟨_,its,r,o,h1,h2,n,h3,_⟩:=(show ce P w H h a (.tup (ks.map kV)) from ok a _ e)
 exact⟨o,its.toArray,n,h1,h2,h3,by simpa using u7 r⟩
theorem M_(ok:kI P w H h)(e:Rd H a (.dT kvs)):kvs.length<=sizeLine/\(a==sysModules)=false/\
  ∃xs,KT H kvs xs/\h.DictOfH (tupleKind (dD P w)) a xs:=by
 obtain⟨z,y,xs,r,o,es,ep,h1,h2,h3,h4,h5⟩:=(show ce P w H h a (.dT kvs) from M8 ok e)
 refine⟨z,y,xs,r,o,es,ep,h1,h2,h3,h4,fun x hx=>?_,h5⟩;have all:∀ {l:List (List fR×V)} {m:List (List fR×Addr×Value)},KT H l m->∀x∈m,(tupleKind (dD P w)).is h x.1 x.2.1:=by
  intro l m q;induction q with
  |nil=>intro x hx;exact nomatch hx
  |@cons p q ps qs hq t ih=>
   intro x hx;rcases aV.mp hx with e|hx
   .subst e;exact sQ ok (by rw[<-hq.1];exact hq.2.1)
   .exact ih x hx
 exact all r x hx
end
def x0(H:Hp)(a:Addr)(y:V)(r:Option V):Prop:=
 (∃kvs k,Rd H a (.dK kvs)/\y=kV k/\r=kW kvs k)\/∃kvs k b,Rd H a (.dT kvs)/\y=.ref b/\H b=some (.tup (k.map kV))/\r=kW kvs k
theorem x0.k{H:Hp}{a:Addr}{kvs:List (fR×V)}{k:fR}(e:H a=some (.dK kvs)):x0 H a (kV k) (kW kvs k):=.inl ⟨kvs,k,.inl e,rfl,rfl⟩
section
variable {X:Cx} {ae:List (Addr×Obj)} {σ:St} {H:Hp} {s:Shared} {a:Addr} {y v:V} {u r:Value} {o:Option V} {A:Around} {E:Value->Shared->Prop}
theorem aG.big(I:aG X ae σ H s):sysModules<s.heap.objs.size:=by
 have h:mainGlobals<s.heap.objs.size:=(I.mod.glob.keeps I.bk).lt;exact wb (by decide) h
theorem D8{Q:Value->Shared->Prop}(hu:A.units+1<cLine)(I:aG X ae σ H s)(g:x0 H a y (some v))(ry:bC y u)(h:∀w' s',aG X ae σ H s'->bC v w'->Q w' s'):
  wpAny (model X.prog X.w) A (getItem (.ref a) u) Q E s:=by
 rcases g with ⟨kvs,k,e,ey,l⟩|⟨kvs,k,b,e,ey,eb,l⟩
 .subst ey;obtain⟨z,hd,vs,Na,dd⟩:=GW I.cf e;obtain⟨w',hw,DA⟩:=nI.some_of (v:=v) (o:=valueAt vs k) (by rw[l];exact Na.val k);exact wpAny_getItem_of (GV ry) dd.mapOf hw (h w' _ (I.tok _) DA)
 .subst ey;cases (show u=Value.ref b from ry);obtain⟨z,hd,xs,Na,dd⟩:=M_ I.cf e;obtain⟨w',hw,DA⟩:=nI.some_of (v:=v) (o:=(atKey xs k).map (·.2)) (by rw[l];exact Na.val k);obtain⟨p,hp,X6⟩:=vC.mp hw;refine wpAny_getItem_heap (tupleKind_room_in1 hu) (sQ I.cf eb) dd hp ?_;rw[X6];exact h w' _ (I.tok _) DA
theorem KB{h':Heap}{t':Nat}{ob:HO}(I:aG X ae σ H s)(mu:RK (H a))(hs:Heap.SameBut a s.heap h')(he:∃q,h'.get? a=some q)(new:ce X.prog X.w (upd H a ob) h' a ob):
  aG X ae σ (upd H a ob) { s with heap:=h',toks:=t' }:=
 I.write (x:=a) (e:=a) mu (.inl rfl) (fun b q hb z=>(hs.2 b hb).trans z) he new
theorem ON{P:Program}{w:World}{H':Hp}{h':Heap}{kvs:List (fR×V)}{vs:List (fR×Value)}(z:kvs.length<=sizeLine)(hd:(a==sysModules)=false)(Na:KV kvs vs)(dd:h'.DictOf (dD P w) a vs):
  ce P w H' h' a (.dK kvs):=⟨z,hd,vs,Na,dd⟩
end
section
variable {X:Cx} {ae:List (Addr×Obj)} {σ:St} {H:Hp} {s:Shared} {a:Addr} {kvs:List (fR×V)} {k:fR} {u:Value} {A:Around} {E:Value->Shared->Prop}
end
def S_(i:Expr):Prop:=∀ov iv,subscripted i false ov iv=operate [ov,iv] (getItem ov iv)
theorem KC{prog:Program}{w:World}{A:Around}{E:Value->Shared->Prop}{s:Shared}{env:Env}{value slice:Expr}{pos:Pos}{T id:String}{Q:Value->Shared->Prop}(hl:typeLookup (.type T) "__getitem__"=pure (some (.builtin id)))(hs:S_ slice)(h:wpAny (model prog w) A (eval value env) (fun o s₁=>wpAny (model prog w) A (eval slice env) (fun i s₂=>s₂.TypeIs o T/\wpAny (model prog w) A (getItem o i) Q E s₂) E s₁) E s):
  wpAny (model prog w) A (eval (.Subscript value slice pos) env) Q E s:=by
 refine Subscript_ (gv h (fun o s₁ h₁=>gv h₁ (fun i s₂ h₂=>?_) fun _ _ x=>x) fun _ _ x=>x);obtain⟨hT,h₂⟩:=h₂;unfold subscriptTail;refine ai ?_;rw[getitemInPython_of_ne hT.not_modules];refine ai (vW hT hl ?_);have cH:wpAny (model prog w) A (subscripted slice false o i) (fun r s₃=>wpAny (model prog w) A (letTemporaryGo value o r >>= fun _=>pure r) Q E s₃) E s₂:=by
  rw[hs o i];exact wpAny_operating (gv h₂ (fun r s₃ h₃=>ai (wpAny_letTemporaryGo (wpAny_pure h₃))) fun _ _ x=>x)
 first
  |exact wpAny_pure (ai cH)
  |exact ai (wpAny_pure (ai cH))
  |exact ai cH
theorem x_{X:Cx}{ae:List (Addr×Obj)}{σ:St}{H:Hp}{s:Shared}{a:Addr}{y:V}{o:Option V}(I:aG X ae σ H s)(g:x0 H a y o):s.TypeIs (.ref a) "dict":=by
 rcases g with ⟨kvs,k,e,_,_⟩|⟨kvs,k,b,e,_,_,_⟩
 .obtain⟨_,_,vs,_,dd⟩:=GW I.cf e;exact dd.typeIs
 .obtain⟨_,_,xs,_,dd⟩:=M_ I.cf e;exact dd.typeIs
def Cv(td ty:TE):TE:=fun σ H Q=>td σ H fun x H1=>ty σ H1 fun y H2=>∃a v,x=.ref a/\x0 H2 a y (some v)/\Q v H2
section
variable {X:Cx} {o i e value:Expr} {pos Dz xE:Pos} {td ty tv:TE}
theorem lH(hu:X.A.units+1<cLine)(ho:PE X o td)(hi:PE X i ty)(hs:S_ i):PE X (.Subscript o i pos) (Cv td ty):=by
 intro ae s σ H Q I h;refine KC PySem.F.slot_dict_getitem.lookup hs (cy (ho ae s σ H _ I h) fun u s1 ⟨x,H1,I1,rx,q1⟩=>cy (hi ae s1 σ H1 _ I1 q1) fun iv s2 ⟨y,H2,I2,ry,a,v,ex,g,q2⟩=>?_);subst ex;obtain rfl:u=Value.ref a:=rx;exact⟨x_ I2 g,D8 hu I2 g ry fun w' s3 I3 DA=>⟨v,H2,I3,DA,q2⟩⟩
end
theorem GX{P:Program}{w:World}{H:Hp}(h:Heap)(hb:sysModules<h.objs.size):ce P w H (h.push { cls:=.type "dict",data:=.dict #[] }) h.objs.size (.dK []):=
 ⟨cr _,mh.mpr (ck (aY hb)),[],.nil,Heap.DictOf.new h⟩
section
variable {X:Cx} {pos:Pos}
end
section
variable {X:Cx} {ae:List (Addr×Obj)} {σ:St} {H:Hp} {s:Shared} {a:Addr} {y d:V} {u r:Value} {o:Option V} {A:Around} {E:Value->Shared->Prop}
end
section
variable {X:Cx} {o e f:Expr} {ql qm:Pos} {td ty tx:TE}
end
section
variable {X:Cx} {ae:List (Addr×Obj)} {σ:St} {H:Hp} {s:Shared} {a:Addr} {kvs:List (fR×V)} {A:Around} {E:Value->Shared->Prop}
end
section
variable {X:Cx} {ae:List (Addr×Obj)} {σ:St} {H:Hp} {s:Shared} {a:Addr} {y:V} {u:Value} {A:Around} {E:Value->Shared->Prop}
end
section
variable {X:Cx}
end
section
variable {κ:Type} [DecidableEq κ]
theorem KD{kvs:List (κ×V)}{k:κ}{v:V}(h:kW kvs k=some v):k∈kvs.map (·.1):=by
 have q:(kvs.any fun kv=>decide (kv.1=k))=true:=by
  rw[sO,h];all_goals rfl
 obtain⟨p,hp,e⟩:=vQ.mp q;exact a9.mpr ⟨p,hp,dM e⟩
end
section
variable {X:Cx}
end
theorem aG.KE(I:aG X ae σ H s)(fe:fA X ae H e)(fi:fA X ae H it)(k:∀b o,b≠e->b≠it->s.heap.get? b=some o->h'.get? b=some o)(ke:∃o,h'.get? e=some o)(ki:∃o,h'.get? it=some o)(hp:s.heap.objs.size<=p)(hl:xs.length<=sizeLine)(r:aZ xs its)(ht:h'.get? p=some { cls:=.type "tuple",data:=.seq its.toArray }):aG X ae σ (upd H p (.tup xs)) { s with heap:=h',toks:=t' }:=by
 have hn:=I.cf.fresh hp;obtain⟨e0,e1,e2,e3,e4,e5⟩:=fe;obtain⟨i0,i1,i2,i3,i4,i5⟩:=fi;have ne:∀b o,s.heap.get? b=some o->b≠p:=fun b o q=>aY (bA (aL q) hp);have Cw:∀b o,H b=some o->b≠e/\b≠it:=fun b o q=>⟨(fun z=>by rw[z,e0] at q;cases q),(fun z=>by rw[z,i0] at q;cases q)⟩
 refine I.step (g':=s.gens) (d':=s.drawn) (ch:=[e,it]) (fun b hb=>?_) (fun b o _ _ hb q _=>?_) (fun b o _ _ hb q _=>⟨o.slots,?_⟩) (fun b o hb q n=>by rw[al (ne b o q)];exact n) (fun b o hb q=>⟨o,?_⟩)
  (fun b ys q=>by rw[al (ap q hn)];exact q) (fun b o u q=>by rw[al (ap q hn)];exact q) (fun b ps q=>⟨#[],by rw[al (ap q hn),q];simp⟩) (fun m hm=>?_) (fun b o q=>?_) I.bare
 .rcases aV.mp hb with rfl|hb
  .exact⟨e3,e1,e4,e5⟩
  .rw[dL.mp hb];exact⟨i3,i1,i4,i5⟩
 .exact k b o (fun z=>hb (z ▸ bV)) (fun z=>hb (z ▸ bU _ bV)) q
 .exact k b o (fun z=>hb (z ▸ bV)) (fun z=>hb (z ▸ bU _ bV)) q
 .exact k b o (fun z=>hb (z ▸ bV)) (fun z=>hb (z ▸ bU _ bV)) q
 .obtain⟨o,es,ep,q,d,r'⟩:=hm;exact⟨o,es,ep,k _ _ e1.symm i1.symm q,d,r'⟩
 .by_cases hb:b=p
  .subst hb;rw[ag] at q;cases q;exact⟨hl,its,r,_,ht,rfl,_,rfl,rfl⟩
  .rw[al hb] at q;refine(I.cf b o q).nJ (fun c u hc z=>k c u ?_ ?_ z) (fun c z=>by rw[al (ap z hn)];exact z) fun c ys z=>by rw[al (ap z hn)];exact z
   .rcases hc with rfl|hc
    .exact(Cw _ _ q).1
    .exact(Cw _ _ hc).1
   .rcases hc with rfl|hc
    .exact(Cw _ _ q).2
    .exact(Cw _ _ hc).2
section
variable {X:Cx}
end
section
variable {prog:Program} {w:World} {A:Around} {E:Value->Shared->Prop} {s:Shared}
theorem jP(iK:s.heap.IsTupleIter it t i)(ht:s.heap.IsTuple t xs)(hx:xs[i]?=some x)(q:∀h',h'.IsTupleIter it t (i+1)->Heap.SameBut it s.heap h'->Q x { s with heap:=h' }):wpAny (model prog w) A (Builtin.SmallTypes.nextOf (.ref it)) Q E s:=by
 obtain⟨o,h1,h2,h3⟩:=id iK;obtain⟨p,k1,_,n,k3⟩:=ht;unfold Builtin.SmallTypes.nextOf;refine ai (j3 (name:=Str.ofString "__next__") iK.typeIs F.slot_tuple_iterator_next (gn F.slot_tuple_iterator_next iK.typeIs F.entry_tuple_iterator_next ?_ (F.args_tuple_iterator_next_1 _)));change wpAny _ _ (field (.ref it) 0 >>= _) _ _ s;refine ai (cX h1 h3 (x:=.ref t) rfl ?_);change wpAny _ _ (if (Value.ref t==Value.none)=true then _ else _) _ _ s;rw[aq (by exact bq)];change wpAny _ _ (field (.ref it) 1 >>= _) _ _ s;refine ai (cX h1 h3 (x:=.int i 0) rfl ?_);change wpAny _ _ (seqItems? (.ref t) >>= _) _ _ s;refine ai (fN k1 k3 ?_);simp only[mn,hx];refine ai (rP h1 h3 (by simp) (wpAny_pure ⟨x,rfl,wpAny_pure (q _ ?_ (vO ..))⟩));refine⟨_,oF _ h1 (zB (rE h3 _)),(z5 ..).trans h2,?_⟩;rw[rE h3];simp[rawInt]
theorem lI(hh:A.handled=none)(iK:s.heap.IsTupleIter it t i)(ht:s.heap.IsTuple t xs)(hx:xs[i]?=none)(q:∀h' e,Heap.ExtBut it s.heap h'->(∃o,h'.get? e=some o/\o.cls=.type "StopIteration")->E (.ref e) { s with heap:=h' }):wpAny (model prog w) A (Builtin.SmallTypes.nextOf (.ref it)) Q E s:=by
 obtain⟨o,h1,h2,h3⟩:=id iK;obtain⟨p,k1,_,n,k3⟩:=ht;unfold Builtin.SmallTypes.nextOf;refine ai (j3 (name:=Str.ofString "__next__") iK.typeIs F.slot_tuple_iterator_next (gn F.slot_tuple_iterator_next iK.typeIs F.entry_tuple_iterator_next ?_ (F.args_tuple_iterator_next_1 _)));change wpAny _ _ (field (.ref it) 0 >>= _) _ _ s;refine ai (cX h1 h3 (x:=.ref t) rfl ?_);change wpAny _ _ (if (Value.ref t==Value.none)=true then _ else _) _ _ s;rw[aq (by exact bq)];change wpAny _ _ (field (.ref it) 1 >>= _) _ _ s;refine ai (cX h1 h3 (x:=.int i 0) rfl ?_);change wpAny _ _ (seqItems? (.ref t) >>= _) _ _ s;refine ai (fN k1 k3 ?_);simp only[mn,hx];refine ai (wpAny_rule (ai (rP h1 h3 (by simp) ?stop)));case stop=>
  change wpAny _ _ (newExc (.type "StopIteration") [] >>= _) _ _ _;refine ai ?_;simp only[newExc,newTuple];refine ai (h_ (ai (m:=firstArgMember _ _) (fQ (a:=Value.none) (by simp only[firstArgMember];rfl) (h_ ?_ (by size_fits)))) (by size_fits));simp only[raiseNew];refine ai (wpAny_handled ?_);rw[show A.in1.handled=none from hh];exact ai (wpAny_pure (wpAny_throw (q _ _ (fun b u hb z=>a8 _ (a8 _ ((rk _ _ (ck hb)).trans z))) ⟨_,bz _ rfl,rfl⟩)))
theorem ya(hh:A.handled=none)(it t:Addr)(lR:t≠it)(xs:Array Value):Draws prog w A it [it,t] xs.size (fun i v=>xs[i]?=some v) (fun i h=>h.IsTupleIter it t i/\h.IsTuple t xs) where
 live:=fun _ _ st=>let ⟨o,ho,_⟩:=st.1;⟨o,ho⟩
 frame:=fun _ _ _ st hk=>⟨st.1.at fun o e=>hk it (by simp) o e,let ⟨o,e,r⟩:=st.2;⟨o,hk t (by simp) o e,r⟩⟩
 item:=fun i s Q E hi st q=>by
  refine jP st.1 st.2 (x:=xs[i]) (by simp[hi]) fun h' a b=>?_;obtain⟨o,e,r⟩:=st.2;exact q _ h' s.toks (by simp[hi]) ⟨a,o,(b.2 t lR).trans e,r⟩ b
 done:=fun s Q E st q=>lI hh st.1 st.2 (by simp) q
end
theorem D9(t:Addr)(xs:Array Value):
  Meets (Builtin.«enumerate.__new__» ⟨[.type "enumerate",.ref t],[]⟩) (fun _ R s=>s.heap.IsTuple t xs/\
   R (.ok (.ret (.ref (s.heap.push { cls:=.type "tuple_iterator",data:=.fields #[.ref t,.int 0 0] }).objs.size)))
    { s with heap:=(s.heap.push { cls:=.type "tuple_iterator",data:=.fields #[.ref t,.int 0 0] }).push { cls:=.type "enumerate",data:=.fields #[.none,.bool false,.ref s.heap.objs.size,rawInt 0,.none,.none] } }):=
 .of_wp fun prog w A R s h=>by
  obtain⟨hp,g,d,tk,os⟩:=s;obtain⟨hT,h⟩:=h;have hs:=sub_enumerate
  wp_walk
  refine wpAny_stack_any fun st=>wpAny_pure ?_;split
  .rename_i c _ _ _ _ _;cases (c==Value.type "enumerate") <;> (wp_walk using oJ hT;exact⟨_,rfl,h⟩)
  .wp_walk using oJ hT
   exact⟨_,rfl,h⟩
theorem AN(ht:s.heap.IsTuple t xs)(h:∀h',IsEnum h' (s.heap.objs.size+1) s.heap.objs.size 0 .none->h'.IsTupleIter s.heap.objs.size t 0->(∀b o,s.heap.get? b=some o->h'.get? b=some o)->Q (.ref (s.heap.objs.size+1)) { s with heap:=h' }):
  wpAny (model prog w) A (call (.type "enumerate") [.ref t]) Q E s:=by
 refine callType_new F.called_enumerate (by decide) (F.typeCall_enumerate_1 _) (F.newCall_enumerate_1 _) (fun obj=>F.args_object_init_2 obj _) F.entry_enumerate_new (D9 t xs) ⟨ht,?_⟩;have hz:(s.heap.push { cls:=.type "tuple_iterator",data:=.fields #[.ref t,.int 0 0] }).objs.size=s.heap.objs.size+1:=fh ..;have he:IsEnum ((s.heap.push { cls:=.type "tuple_iterator",data:=.fields #[.ref t,.int 0 0] }).push
   { cls:=.type "enumerate",data:=.fields #[.none,.bool false,.ref s.heap.objs.size,rawInt 0,.none,.none] }) (s.heap.objs.size+1) s.heap.objs.size 0 .none:=by
  have q:=bz (s.heap.push { cls:=.type "tuple_iterator",data:=.fields #[.ref t,.int 0 0] }) (o:={ cls:=.type "enumerate",data:=.fields #[.none,.bool false,.ref s.heap.objs.size,rawInt 0,.none,.none] }) rfl;rw[hz] at q;exact q
 show _/\_;rw[hz];exact⟨⟨_,he,rfl⟩,h _ he ⟨_,a8 _ (bz _ rfl),rfl,rfl⟩ fun b o x=>a8 _ (a8 _ x)⟩
def D_(K:PySem.W.Frag)(a:Addr):It:=
 ⟨fun i H=>∃xs x,bh K H a xs/\xs[i]?=some x,fun i H x H'=>∃p v,x=.ref p/\H p=none/\H'=upd H p (.tup [.int i,v])/\∀xs,bh K H a xs->xs[i]?=some v,fun i H=>∃xs,bh K H a xs/\xs.length<=i,fun _ _=>False⟩
theorem AO{P:Program}{w:World}{K:PySem.W.Frag}{es:List Expr}{x1:Nat}{pos:Pos}(a e it:Addr)(lR:e≠it)(hae:a≠e)(hai:a≠it):
  pf P w K (.Tuple es x1 pos) (D_ K a) [e,it] e (fun i h=>(∃mB,IsEnum h e it (i:Int) mB)/\h.IsTupleIter it a i) where
 mem:=by simp
 obj:=fun i h st b hb=>by
  obtain⟨⟨mB,he⟩,⟨o,q,c,d⟩⟩:=st;rcases aV.mp hb with rfl|hb
  .exact⟨_,he,fun v z=>by
    have z':Data.fields _=Data.cell v:=z;cases z'⟩
  .rw[dL.mp hb];exact⟨o,q,fun v z=>by rw[d] at z;cases z⟩
 keep:=fun i h h' st k=>by
  obtain⟨⟨mB,he⟩,hi⟩:=st;exact⟨⟨mB,k e (by simp) _ he⟩,hi.at fun o q=>k it (by simp) o q⟩
 item:=by
  intro X hP hw hK i ae s σ H E qk I hf st hg;subst hP hw hK;have hc:X.calm=true:=qk.elim id fun z=>(show False from z).elim;obtain⟨xs,x,hq,hx⟩:=hg;obtain⟨its,rv,p,hz⟩:=I.tuple hq;obtain⟨u,hu,ru⟩:=rv.get hx;obtain⟨⟨mB,he⟩,hi⟩:=st;have de:i<its.toArray.size:=by
   have:=(cW.mp hu).1;simpa using this
  have D:=ya (prog:=X.prog) (w:=X.w) (A:=X.A.in1) (I.ok.hd hc) it a hai its.toArray;refine wpAny_pyNext_enum_itemD D he ⟨hi,p⟩ de lR (by simp[lR,hae.symm]) fun u' h' tk Cg ho iC ht hsz k=>?_;have eu:u'=u:=by
   have h1:its.toArray[i]?=some u:=by simpa using hu
   rw[h1] at Cg;exact(bg Cg).symm
  subst eu;refine⟨_,rfl,wpAny_letOwnedTupleGo_enum ho fun h2 he2 uo=>?_⟩;have hpe:s.heap.objs.size≠e:=ig (aL he);have AB:h2.IsTupleIter it a (i+1):=iC.1.at fun o q=>(uo.2 it lR.symm).trans q;have fe:=hf e (by simp);have fi:=hf it (by simp);have I2:aG X ae σ (upd H s.heap.objs.size (.tup [.int i,x])) { s with heap:=h2,toks:=tk+1 }:=by
   refine I.KE (its:=[.int i tk,u']) fe fi (fun b o h1 h3 q=>(uo.2 b h1).trans (k b o h1 h3 q)) ⟨_,he2⟩ ?_ (aX _) (by show 2<=sizeLine;decide) (.cons ⟨_,rfl⟩ (.cons ru .nil)) ((uo.2 _ hpe).trans ht);obtain⟨o,q,_⟩:=AB;exact⟨o,q⟩
  refine⟨.ref s.heap.objs.size,_,I2,rfl,⟨_,x,rfl,I.cf.fresh (aX _),rfl,fun ys hy=>by rw[I.ff hy hq];exact hx⟩,⟨⟨u',he2⟩,AB⟩,fun b hb=>?_⟩;have f0:=(hf b hb).1;rw[al]
  .exact f0
  .rcases aV.mp hb with rfl|hb
   .exact hpe.symm
   .rw[dL.mp hb];obtain⟨o,q,_⟩:=hi;exact aY (aL q)
 done:=by
  intro X hP hw hK i ae s σ H E qk I hf st hg;subst hP hw hK;have hc:X.calm=true:=qk.elim id fun z=>(show False from z).elim;obtain⟨xs,hq,hx⟩:=hg;obtain⟨its,rv,p,hz⟩:=I.tuple hq;obtain⟨f0,f1,f2,f3,f4,f5⟩:=hf it (by simp);obtain⟨⟨mB,he⟩,hi⟩:=st;have hl:=rv.length;unfold pyNext;have hT:s.TypeIs (.ref e) "enumerate":=⟨_,he,rfl⟩
  refine ai (jE (j3 (name:=Str.ofString "__next__") hT F.slot_enumerate_next (gn F.slot_enumerate_next hT F.entry_enumerate_next ?_ (F.args_enumerate_next_1 _))));change wpAny _ _ (field (.ref e) 2 >>= _) _ _ _;refine ai (cX he rfl (x:=.ref it) rfl (ai (lI (I.ok.hd hc) hi p (by simp;lia) fun h' x eb jA=>?_)));obtain⟨o,ho,Ax⟩:=jA;exact ai (oP (T:="StopIteration") (b:=true) ⟨o,ho,Ax⟩ rQ (wpAny_pure ⟨rfl,I.turned (t':=s.toks) (fun b o hb e=>eb b o hb e) f0 f1 f3 f4 f5⟩))
 self:=fun _ _ _ _ _ st h=>by
  obtain⟨⟨mB,he⟩,_⟩:=st;exact wpAny_pyIter_enum he h
section
variable {X:Cx}
def OO(K:PySem.W.Frag)(ta:TA):TI:=fun σ H R=>ta σ H fun vs H1=>∃a xs,vs=[.ref a]/\bh K H1 a xs/\R (D_ K a) H1
theorem sR(hg:Gl X "enumerate")(hm:X.mg "enumerate"=none)(ha:PA X [a] ta)(hs:starEach [a] X.env=[(false,eval a X.env)]:=by rfl):
  PI X (.Tuple es x1 xE) (.Call (.Name "enumerate" p) [a] [] pos) (OO X.K ta):=by
 intro ae s σ H R I h;refine Call_ (jJ I hg hm (by decide +kernel:bootBuiltins "enumerate"=some (.type "enumerate")) (oA (cy (ha pos ae s σ H _ I h) fun us s1 ⟨vs,H1,I1,r1,q1⟩=>?_) hs rfl));obtain⟨l,xs,rfl,hl,q⟩:=q1;obtain⟨u1,rfl,Ta⟩:=r1.one;obtain rfl:u1=Value.ref l:=Ta;obtain⟨its,rv,pt,hz⟩:=I1.tuple hl;have de:l<s1.heap.objs.size:=by obtain⟨o,e,_⟩:=pt;exact aL e
 refine AN (show s1.heap.IsTuple l its.toArray from pt) fun h' he hi k=>?_;have lR:s1.heap.objs.size+1≠s1.heap.objs.size:=Nat.succ_ne_self _;refine wpAny_pyIter_enum he ?_;have I2:aG X ae σ H1 { s1 with heap:=h' }:=I1.kept (t':=s1.toks) k;refine⟨s1.heap.objs.size+1,[s1.heap.objs.size+1,s1.heap.objs.size],_,_,H1,rfl,I2,AO l _ _ lR (aY (dN de)) (aY de),⟨⟨_,he⟩,hi⟩,fun b hb=>?_,q⟩;have jq:s1.heap.objs.size<=b:=by
  rcases aV.mp hb with rfl|hb
  .exact Nat.le_succ _
  .rw[dL.mp hb];exact aX _
 exact I1.uB jq (I1.cf.fresh jq)
theorem u8{K:PySem.W.Frag}{a:Addr}{xs:List V}{g:TG}{tb:TS}{D:uy}{σ:St}{H:Hp}(Pv:Nat->St->Hp->Prop)(h0:Pv 0 σ H)(hl:∀i σ H,i<=xs.length->Pv i σ H->bh K H a xs)(hs:∀i x p σ H,xs[i]?=some x->Pv i σ H->H p=none->g (.ref p) σ (upd H p (.tup [.int i,x])) fun σ2 H2=>tb { D with nx:=Pv (i+1),ct:=Pv (i+1),bk:=D.nx } σ2 H2)(hd:∀σ H,Pv xs.length σ H->D.nx σ H):
  ∃W:Nat->Nat->St->Hp->Prop,(∃m,W 0 m σ H)/\∀i m σ H,W i m σ H->
   ((D_ K a).stop i H/\D.nx σ H)\/((D_ K a).go i H/\∃N:St->Hp->Prop,(∀σ' H',N σ' H'->∃m',m'<m/\W (i+1) m' σ' H')/\∀x H',(D_ K a).FF i H x H'->g x σ H' fun σ2 H2=>tb { D with nx:=N,ct:=N,bk:=D.nx } σ2 H2):=by
 refine⟨fun i m σ H=>m=xs.length-i/\i<=xs.length/\Pv i σ H,⟨xs.length,by simp,cr _,h0⟩,?_⟩;rintro i m σ H ⟨rfl,hi,p⟩;have q:=hl i σ H hi p;by_cases de:i<xs.length
 .refine .inr ⟨⟨xs,xs[i],q,by simp[de]⟩,Pv (i+1),fun σ' H' p'=>⟨xs.length-(i+1),by lia,rfl,de,p'⟩,fun x H' y=>?_⟩;obtain⟨pp,v,rfl,hn,rfl,hv⟩:=y;exact hs i v pp σ _ (hv xs q) p hn
 .have e:i=xs.length:=by lia
  subst e;exact .inl ⟨⟨xs,q,aX _⟩,hd σ H p⟩
theorem AQ{K:PySem.W.Frag}{a D:Addr}{xs:List V}{g:TG}{tt:TT}{te:TE}{cH:Hp->Prop}{σB:St}{H0:Hp}(Pv:Nat->List V->St->Hp->Prop)(h0:Pv 0 [] σB H0)(hl:∀i ys σ H,i<=xs.length->Pv i ys σ H->bh K H a xs)(hs:∀i x p ys σ H (Kt:V->St->Hp->Prop) (Kf:St->Hp->Prop),xs[i]?=some x->Pv i ys σ H->H p=none->
   (∀v σ2 H4,H4 D=some (.lst ys)->ys.length<sizeLine->Pv (i+1) (ys++[v]) σ2 (upd H4 D (.lst (ys++[v])))->Kt v σ2 H4)->(∀σ2 H3,Pv (i+1) ys σ2 H3->Kf σ2 H3)->
   g (.ref p) σ (upd H p (.tup [.int i,x])) fun σ2 H2=>tt σ2 H2 fun b H3=>if b=true then te σ2 H3 fun v H4=>Kt v σ2 H4 else Kf σ2 H3)(hd:∀ys σ H,Pv xs.length ys σ H->cH H):gR (D_ K a) g tt te D cH σB H0:=by
 refine⟨fun i m σ H=>m=xs.length-i/\i<=xs.length/\∃ys,Pv i ys σ H,⟨xs.length,by simp,cr _,[],h0⟩,?_⟩;rintro i m σ H ⟨rfl,hi,ys,p⟩;have q:=hl i ys σ H hi p;by_cases de:i<xs.length
 .refine .inr ⟨⟨xs,xs[i],q,by simp[de]⟩,?_⟩;rintro x H' ⟨pp,v,rfl,hn,rfl,hv⟩;exact hs i v pp ys σ _ (fun v σ2 H4=>∃ys,H4 D=some (.lst ys)/\ys.length<sizeLine/\∃m',m'<xs.length-i/\m'=xs.length-(i+1)/\i+1<=xs.length/\∃pI,Pv (i+1) pI σ2 (upd H4 D (.lst (ys++[v]))))
   (fun σ2 H3=>∃m',m'<xs.length-i/\m'=xs.length-(i+1)/\i+1<=xs.length/\∃pI,Pv (i+1) pI σ2 H3) (hv xs q) p hn
   (fun v σ2 H4 z1 z2 z3=>⟨ys,z1,z2,_,by lia,rfl,de,_,z3⟩) (fun σ2 H3 z=>⟨_,by lia,rfl,de,_,z⟩)
 .have e:i=xs.length:=by lia
  subst e;exact .inl ⟨⟨xs,q,aX _⟩,hd ys σ H p⟩
end
theorem aG.freeze{X:Cx}{ae:List (Addr×Obj)}{σ:St}{H:Hp}{s:Shared}{d:Addr}{u:HO}{o:Obj}(I:aG X ae σ H s)(hd:H d=some u)(ho:s.heap.get? d=some o)(hu:(∀xs,u≠.tup xs)/\(∀o v,u≠.mC o v)/\(∀ps,u≠.qI ps)/\(∀x,u≠.own x)):
  aG X ae σ (upd H d (.mC o u)) s:=by
 have ok:kI X.prog X.w (upd H d (.mC o u)) s.heap:=fun b v e=>by
  have st:∀ {b v},ce X.prog X.w H s.heap b v->ce X.prog X.w (upd H d (.mC o u)) s.heap b v:=fun {b v} x=>
   x.nJ (fun _ _ _ q=>q) (fun c q=>by rw[al (fun z=>by rw[z,hd] at q;exact hu.2.2.2 _ (bg q))];exact q) fun c xs q=>by rw[al (fun z=>by rw[z,hd] at q;exact hu.1 _ (bg q))];exact q
  by_cases hb:b=d
  .subst hb;rw[ag] at e;cases e;exact⟨ho,st (I.cf b u hd)⟩
  .rw[al hb] at e;exact st (I.cf b v e)
 have r:=I.step (h':=s.heap) (H':=upd H d (.mC o u)) (g':=s.gens) (t':=s.toks) (d':=s.drawn) (ch:=[]) (fun _ z=>absurd z (by simp)) (fun b o' _ _ _ q _=>q) (fun b o' _ _ _ q _=>⟨o'.slots,q⟩)
  (fun b o' _ q n=>by rw[al (fun z=>by rw[z,hd] at n;cases n)];exact n) (fun b o' _ q=>⟨o',q⟩)
  (fun b xs q=>by rw[al (fun z=>by rw[z,hd] at q;exact hu.1 _ (bg q))];exact q) (fun b o' v q=>by rw[al (fun z=>by rw[z,hd] at q;exact hu.2.1 _ _ (bg q))];exact q)
  (fun b ps q=>⟨#[],by rw[al (fun z=>by rw[z,hd] at q;exact hu.2.2.1 _ (bg q)),q];simp⟩) (fun m hm=>hm) ok I.bare
 exact r
def Wv(d:Addr)(o:Obj)(kvs:List (fR×V)):It:=
 ⟨fun i H=>H d=some (.mC o (.dK kvs))/\i<kvs.length,fun i H x H'=>H'=H/\∃k v,kvs[i]?=some (k,v)/\x=kV k,fun i H=>H d=some (.mC o (.dK kvs))/\kvs.length<=i,fun _ _=>False⟩
theorem KG{P:Program}{w:World}{k:fR}{u:Value}(h:(dD P w).is k u=true):bC (kV k) u:=by
 cases k with
 |inl i=>
  have h':Value.isInt i u=true:=h;cases u <;> simp[Value.isInt] at h' <;> try exact h'.elim
  all_goals first|(subst h';exact⟨_,rfl⟩)|(rw[<-h'];exact⟨_,rfl⟩)|(rw[h'];exact⟨_,rfl⟩)
 |inr x=>
  have h':Value.isStrOf x u=true:=h;cases u <;> simp[Value.isStrOf] at h' <;> try exact h'.elim
  all_goals first|(subst h';exact⟨_,rfl⟩)|(rw[<-h'];exact⟨_,rfl⟩)|(rw[h'];exact⟨_,rfl⟩)
theorem Ea{P:Program}{w:World}{K:PySem.W.Frag}{tg:Expr}(d it:Addr)(o:Obj)(kvs:List (fR×V))(es:Array DictEntry)(ep:Nat)(KH:o.data=.dict es ep):
  pf P w K tg (Wv d o kvs) [it] it (fun i h=>h.IsKeyIter it d i kvs.length ep) where
 mem:=by simp
 obj:=fun i h st b hb=>by
  have e:b=it:=by simpa using hb
  subst e;obtain⟨o,e,c,d⟩:=st;exact⟨o,e,fun v z=>by rw[d] at z;cases z⟩
 keep:=fun i h h' st k=>st.at fun o e=>k it (by simp) o e
 item:=by
  intro X hP hw hK i ae s σ H E qk I hf st hg;subst hP hw hK;have hc:X.calm=true:=qk.elim id fun z=>(show False from z).elim;obtain⟨hd,hi⟩:=hg;obtain⟨ho,z,hS,vs,kv,ob,es',Q9,g1,g2,g3,g4,g5,g6⟩:=I.cf d _ hd;rw[ho] at g1;cases g1;rw[KH] at g3;cases g3;have hm:s.heap.DictAt (dD X.prog X.w) d vs ep:=⟨o,es,ho,g2,KH,g4,g5,g6⟩
  have cY:=kv.length;obtain⟨f0,f1,f2,f3,f4,f5⟩:=hf it (by simp);have Fe:i<vs.length:=by lia
  obtain⟨⟨k,v⟩,hv⟩:∃p,vs[i]?=some p:=⟨_,cZ Fe⟩
  refine wpAny_pyNext_dict_item (by rw[<-cY];exact st) hm hv fun key h' hk bf sb=>?_;have I1:aG X ae σ H { s with heap:=h' }:=I.turned (t':=s.toks) (fun b o hb e=>(sb.2 b hb).trans e) f0 f1 f3 f4 f5;obtain⟨oi,ei,ci,di⟩:=id bf;have Rl:(kvs.map (·.1))[i]?=some k:=by rw[kv.keys,bJ,hv];rfl
  obtain⟨p,hp,hpk⟩:∃p,kvs[i]?=some p/\p.1=k:=by
   rw[bJ] at Rl;cases q:kvs[i]? with
   |none=>rw[q] at Rl;cases Rl
   |some p=>rw[q] at Rl;exact⟨p,rfl,bg Rl⟩
  refine⟨key,rfl,xF (s:={ s with heap:=h' }) ei ci di (by decide) ⟨kV k,H,I1,KG hk,⟨rfl,k,p.2,by rw[hp,<-hpk],rfl⟩,by rw[cY];exact bf,fun b hb=>(hf b hb).1⟩⟩
 done:=by
  intro X hP hw hK i ae s σ H E qk I hf st hg;subst hP hw hK;have hc:X.calm=true:=qk.elim id fun z=>(show False from z).elim;obtain⟨hd,hi⟩:=hg;obtain⟨ho,z,hS,vs,kv,ob,es',Q9,g1,g2,g3,g4,g5,g6⟩:=I.cf d _ hd;rw[ho] at g1;cases g1;rw[KH] at g3;cases g3;have hm:s.heap.DictAt (dD X.prog X.w) d vs ep:=⟨o,es,ho,g2,KH,g4,g5,g6⟩
  have cY:=kv.length;obtain⟨f0,f1,f2,f3,f4,f5⟩:=hf it (by simp);exact wpAny_pyNext_dict_end (I.ok.hd hc) (by rw[<-cY];exact st) hm (gK (by lia)) fun h' eb=>⟨rfl,I.turned (t':=s.toks) (fun b o hb e=>eb b o hb e) f0 f1 f3 f4 f5⟩
 self:=fun _ _ _ _ _ st h=>wpAny_pyIter_keyiter st h
section
variable {X:Cx} {tg:Expr}
end
section
variable {prog:Program} {w:World} {A:Around} {E:Value->Shared->Prop} {s:Shared} {R:Result->Shared->Prop} {l d Ia:Addr}
end
section
variable {prog:Program} {w:World} {A:Around} {E:Value->Shared->Prop} {s:Shared} {l:Addr}
end
section
variable {X:Cx}
def KJ:V->List V->Hp->VK->Prop:=fun x vs H Q=>∃ (l:Addr) (ns:List Int) (z:Int),x=.ref l/\vs=[.int z]/\H l=some (.lst (ns.map V.int))/\z∈ns/\Q .bR (upd H l (.lst ((ns.eraseIdx (ns.idxOf z)).map V.int)))
theorem ints_of:∀ {ns:List Int} {its:List Value},aZ (ns.map V.int) its->∀i (h:i<its.length) (h':i<ns.length),∃t,its[i]=Value.int ns[i] t
 |[],_,.nil,i,h,_=>by simp at h
 |n::ns,_,.cons ⟨t,e⟩ r,0,_,_=>⟨t,e⟩
 |n::ns,_,.cons _ r,i+1,h,h'=>ints_of r i (by simpa using h) (by simpa using h')
def isI(z:Int)(v:Value):Bool:=match v with
 |.int y _=>y==z
 |_=>false
theorem u_:MtM X "list.remove" KJ:=by
 intro ae s σ H x vs v us Q I rx rv h;obtain⟨l,ns,z,rfl,rfl,hH,hz,q⟩:=h;cases rx;obtain⟨u,rfl,ru⟩:=rv.one;obtain⟨t,rfl⟩:=ru;obtain⟨zz,its,n,r,hl,e⟩:=I.Kk hH;have cY:its.length=ns.length:=by have:=r.length;rw[aP] at this;exact this.symm
 have hj:ns.idxOf z<ns.length:=List.idxOf_lt_length_iff.mpr hz;have at_:∀i (h:i<its.length),∃t,its[i]=Value.int (ns[i]'(by lia)) t:=fun i h=>ints_of r i h (by lia);refine call_meets F.slot_list_remove ⟨_,e,rfl⟩ F.entry_list_remove (F.args_list_remove_2 _ _)
  (MeetsSeq.list_remove l its.toArray n (.int z t) (isI z) (fun y hy=>?_) (ns.idxOf z) (by simpa [cY] using hj) ?_ (fun m hm de=>?_) (by rw[c_,cY];rw[aP] at zz;exact zz)) ⟨e,?_⟩
 .obtain⟨i,hi,rfl⟩:=rn.mp (show y∈its by simpa using hy);obtain⟨t',e'⟩:=at_ i hi;rw[e'];exact MeetsSeq.EqGives.int _ _ _ _
 .obtain⟨t',e'⟩:=at_ (ns.idxOf z) (by lia);have e2:its.toArray[ns.idxOf z]'(by simpa [cY] using hj)=its[ns.idxOf z]'(by lia):=by simp
  rw[e2,e'];show (ns[ns.idxOf z]==z)=true;rw[List.getElem_idxOf];simp
 .obtain⟨t',e'⟩:=at_ m (by simpa using hm);have e2:its.toArray[m]=its[m]'(by simpa using hm):=by simp
  rw[e2,e'];show (ns[m]==z)=false;have:=List.not_of_lt_findIdx (p:=(·==z)) (xs:=ns) (i:=m) de;simpa using this
 .refine⟨.bR,_,I.Sm (its':=its.eraseIdx (ns.idxOf z)) hH e ?_ ?_ ?_,rfl,q⟩
  .show its.toArray.eraseIdxIfInBounds _=_;rw[List.eraseIdxIfInBounds_toArray]
  .have em:∀ (l:List Int) (j:Nat),(l.eraseIdx j).map V.int=(l.map V.int).eraseIdx j:=by
    intro l;induction l with
    |nil=>intro j;rfl
    |cons y l ih=>
     intro j;cases j with
     |zero=>rfl
     |succ j=>simp only[List.eraseIdx_cons_succ,e_,ih]
   rw[em];exact r.eraseIdx _
  .rw[aP,List.length_eraseIdx];rw[aP] at zz;split <;> lia
end
structure cu(P:Program)(w:World)(K:PySem.W.Frag)(mg:Str->Option Value)(base:Heap)(CX:xw)(k:Nat)(x:Str)(ps:List Str)(sp:Sp):Prop where
 ex:∃f fd,mg x=some (.ref f)/\PySem.W.keepIn K (.ref f)=true/\jo K fd ps []/\bi P w K mg base CX k f fd ps sp
theorem av(C:cu X.prog X.w X.K X.mg X.base CX k x ps sp)(hr:bL k X.A)(hx:i_ CX X E)(ha:PA X (e::es) t)(hg:Gl X x:=by rfl)(DH:(x==("__debug__":Str))=false:=by decide)(he:starEach (e::es) X.env=(false,eval e X.env)::starEach es X.env:=by rfl)(uO:(backTo pos (starEach es X.env)).any (·.1)=false:=by rfl):
  PE X (.Call (.Name x p) (e::es) [] pos) (pY sp [] E t):=by
 obtain⟨f,fd,a,b,c,d⟩:=C.ex;exact Kh d hr hg a b c .nil hx ha DH he uO
theorem am(h:H D=none):az H (upd H D o):=fun b u e=>by rw[al (ap e h)];exact e
def cw(p:Addr)(H H':Hp):Prop:=∀b o,H b=some o->b≠p->H' b=some o
theorem cw.trans(a:cw p H H1)(b:cw p H1 H2):cw p H H2:=fun c o h n=>b c o (a c o h n) n
theorem cw.upd:cw p H (upd H p o):=fun b u h n=>by rw[al n];exact h
theorem cw.of(s:az H H'):cw p H H':=fun b o h _=>s b o h
theorem cw.free(s:cw p H H')(hp:H' p≠none)(h:H' q=none):H q=none:=by
 cases z:H q with
 |none=>rfl
 |some o=>
  by_cases e:q=p
  .subst e;exact absurd h hp
  .rw[s q o z e] at h;cases h
theorem iQ(h:j<n):E9 n (j:Int)=some j:=by
 unfold E9;rw[ak (by lia),ak (by lia)];simp
theorem Eb(h:as.length=n):(as++[t]).getD j 0=if j=n then t else as.getD j 0:=by
 rw[cq,cq];by_cases hj:j=n
 .subst hj;subst h;rw[ak rfl,ra (aX _),v_];rfl
 .rw[aq hj];by_cases de:j<as.length
  .rw[nE de]
  .rw[ra (by lia),gK (by simp;lia),gK (by lia)]
def Holds(H:Hp)(as:List Addr)(n:Nat)(o:Nat->HO):Prop:=as.length=n/\∀j,j<n->H (as.getD j 0)=some (o j)
theorem Holds.nil:Holds H [] 0 o:=⟨rfl,fun j hj=>absurd hj (by lia)⟩
theorem Holds.snoc(h:Holds H as n o)(ht:H t=some (o n)):Holds H (as++[t]) (n+1) o:=by
 refine⟨by rw[dU,h.1];rfl,fun j hj=>?_⟩;rw[Eb h.1];by_cases e:j=n
 .rw[ak e,e];exact ht
 .rw[aq e];exact h.2 j (by lia)
theorem Holds.mono(h:Holds H as n o)(e:∀j,j<n->H (as.getD j 0)=some (o j)->H' (as.getD j 0)=some (o j)):Holds H' as n o:=⟨h.1,fun j hj=>e j hj (h.2 j hj)⟩
end L2
namespace PyProof.Rows
open PySem
def iR:Bool->Keyed->Array Keyed->Nat->Nat->Nat->StateT SortSt Sem (Option Nat):=sortPriv% PySem.Builtin.gallop
def sS:Array Keyed->Array Keyed->StateT SortSt Sem (Array Keyed):=sortPriv% PySem.Builtin.mergeLo
def sU:Array Keyed->Array Keyed->StateT SortSt Sem (Array Keyed):=sortPriv% PySem.Builtin.mergeHi
def jb:Nat->StateT SortSt Sem Unit:=sortPriv% PySem.Builtin.setMinGallop
def yb(prog:Program)(w:World)(A:Around)(s:Shared)(κ:SortKind)(a₀:Array Keyed):Prop:=
 ∀x y,x∈a₀.toList->y∈a₀.toList->∀ (Q:Bool->Shared->Prop) (E:Value->Shared->Prop),(∀b,Q b s)->wpAny (model prog w) A (keyLt' κ x.1 y.1) Q E s
structure SQ(κ:SortKind)(a₀:Array Keyed)(pd:Array (Nat×Nat×Nat))(st:SortSt):Prop where
 perm:(arrOf st).Perm a₀
 kind:kindOf st=κ
 failed:failedOf st=none
 pend:pendingOf st=pd
section
variable {prog:Program} {w:World} {A:Around} {E:Value->Shared->Prop} {s:Shared} {κ:SortKind} {a₀:Array Keyed} {pd:Array (Nat×Nat×Nat)}
theorem SQ.size{st:SortSt}(h:SQ κ a₀ pd st):(arrOf st).size=a₀.size:=h.perm.size_eq
theorem SQ.setArr{st:SortSt}(h:SQ κ a₀ pd st){xs:Array Keyed}(hp:xs.Perm (arrOf st)):SQ κ a₀ pd (setArr st xs):=⟨hp.trans h.perm,h.kind,h.failed,h.pend⟩
theorem SQ.at{st:SortSt}(h:SQ κ a₀ pd st){i:Nat}(hi:i<a₀.size):∃p,(arrOf st)[i]?=some p/\p∈a₀.toList:=by
 have Fe:i<(arrOf st).size:=by rw[h.size];exact hi
 exact⟨(arrOf st)[i],dP _ i Fe,(nC.mp h.perm).mem_iff.mp (by simp)⟩
theorem sW{st:SortSt}{x y:Keyed}{Q:Option Bool->SortSt->Prop}(hC:yb prog w A s κ a₀)(hk:kindOf st=κ)(hx:x∈a₀.toList)(hy:y∈a₀.toList)(h:∀b,Q (some b) st):wpS (model prog w) A E s (lt' x y) Q st:=by
 rw[lt'_eq];refine aw (io ?_);rw[hk];refine aw (mz (jE (hC x y hx hy _ _ fun b=>⟨rfl,?_⟩)));exact aO (h b)
theorem bv{st:SortSt}{arr:Array Keyed}{i:Nat}{p:Keyed}{Q:Keyed->SortSt->Prop}(hi:arr[i]?=some p)(h:Q p st):wpS (model prog w) A E s (elem' arr i) Q st:=by
 rw[elem'_eq,hi];exact aO h
theorem fu{st:SortSt}{i j:Nat}{Q:Option Bool->SortSt->Prop}(hC:yb prog w A s κ a₀)(hB:SQ κ a₀ pd st)(hi:i<a₀.size)(hj:j<a₀.size)(h:∀b,Q (some b) st):wpS (model prog w) A E s (ltAt' i j) Q st:=by
 obtain⟨p,e1,m1⟩:=hB.at hi;obtain⟨q,e2,m2⟩:=hB.at hj;rw[ltAt'_eq];refine aw (io ?_);exact aw (bv e1 (aw (bv e2 (sW hC hB.kind m1 m2 h))))
theorem gZ{st:SortSt}{i j:Nat}{Q:Unit->SortSt->Prop}(hB:SQ κ a₀ pd st)(h:∀bf,SQ κ a₀ pd bf->Q () bf):wpS (model prog w) A E s (reverseSlice' i j) Q st:=by
 rw[reverseSlice'_eq];exact gw (h _ (hB.setArr (mirror_perm _ _ _ _)))
theorem GZ{st:SortSt}{i j:Nat}{Q:Unit->SortSt->Prop}(hB:SQ κ a₀ pd st)(h:∀bf,SQ κ a₀ pd bf->Q () bf):wpS (model prog w) A E s (moveDown' i j) Q st:=by
 rw[moveDown'_eq];exact gw (h _ (hB.setArr (bubble_perm _ _ _)))
theorem KM{st:SortSt}{lo n ok:Nat}{Q:Bool->SortSt->Prop}(hC:yb prog w A s κ a₀)(hn:lo+n<=a₀.size)(hB:SQ κ a₀ pd st)(h:∀bf,SQ κ a₀ pd bf->Q true bf):wpS (model prog w) A E s (binarySort' lo n ok) Q st:=by
 rw[binarySort'_eq];refine aw (d0 (fK (I:=fun _ c bf=>c=(none,())/\SQ κ a₀ pd bf) (Q:=fun c bf=>c=(none,())/\SQ κ a₀ pd bf) ?_ (fun c bf hh=>hh) ⟨rfl,hB⟩) ?_)
 .rintro k c bf Rl hk2 ⟨rfl,X7⟩;dsimp only;refine aw (d0 (fK (I:=fun _ c OP=>(∃l r,c=(none,l,r)/\r<=k)/\SQ κ a₀ pd OP) (Q:=fun c OP=>(∃l r,c=(none,l,r)/\r<=k)/\SQ κ a₀ pd OP) ?_ (fun c bf hh=>hh) ⟨⟨_,_,rfl,aX _⟩,X7⟩) ?_)
  .rintro x c ow _ _ ⟨⟨l,r,rfl,hr⟩,uE⟩;dsimp only;by_cases Cy:l>=r
   .rw[ak Cy];exact aO ⟨⟨_,_,rfl,hr⟩,uE⟩
   .rw[aq Cy];refine aw (fu hC uE (by lia) (by lia) fun b=>?_);cases b
    .exact aO ⟨⟨_,_,rfl,hr⟩,uE⟩
    .exact aO ⟨⟨_,_,rfl,by lia⟩,uE⟩
  .rintro c ow ⟨⟨l,r,rfl,hr⟩,uE⟩;dsimp only;exact aw (GZ uE fun xv qt=>aO ⟨rfl,qt⟩)
 .rintro c bf ⟨rfl,X7⟩;exact aO (h bf X7)
end
theorem AR(left:Bool)(key:Keyed)(arr:Array Keyed)(base n hint:Nat):iR left key arr base n hint=(do
 let wC (i:Nat):StateT SortSt Sem (Option Bool):=do
  let x <- elem' arr (base+i)
  if left then lt' x key else return (<-lt' key x).map (!·)
 let mut lastofs:=0
 let mut ofs:=1
 let mut lo:=0
 let mut hi:=0
 let some right <- wC hint|return none
 if right then
  let sX:=n-hint
  for _ in [0:n] do
   if ofs>=sX then break
   let some more <- wC (hint+ofs)|return none
   if !more then break
   lastofs:=ofs
   ofs:=2*ofs+1
  lo:=hint+lastofs+1
  hi:=hint+min ofs sX
 else
  let sX:=hint+1
  for _ in [0:n] do
   if ofs>=sX then break
   let some G0 <- wC (hint-ofs)|return none
   if G0 then break
   lastofs:=ofs
   ofs:=2*ofs+1
  lo:=hint+1-min ofs sX
  hi:=hint-lastofs
 for _ in [0:n] do
  if lo>=hi then break
  let m:=lo+(hi-lo) / 2
  let some more <- wC m|return none
  if more then lo:=m+1 else hi:=m
 return some hi):=rfl
section
variable {prog:Program} {w:World} {A:Around} {E:Value->Shared->Prop} {s:Shared} {κ:SortKind} {a₀:Array Keyed} {pd:Array (Nat×Nat×Nat)}
theorem iy{st:SortSt}{left:Bool}{key:Keyed}{arr:Array Keyed}{j:Nat}{Q:Option Bool->SortSt->Prop}(hC:yb prog w A s κ a₀)(hk:kindOf st=κ)(nP:key∈a₀.toList)(pK:∀x∈arr.toList,x∈a₀.toList)(hj:j<arr.size)(h:∀b,Q (some b) st):
  wpS (model prog w) A E s (do
  let x <- elem' arr j
  if left then lt' x key else return (<-lt' key x).map (!·)) Q st:=by
 have hm:arr[j]∈a₀.toList:=pK _ (by simp);refine aw (bv (dP arr j hj) ?_);cases left
 .rw[aq (by decide)];exact aw (sW hC hk nP hm fun b=>aO (h (!b)))
 .rw[ak rfl];exact sW hC hk hm nP h
theorem fX{st:SortSt}{left:Bool}{key:Keyed}{arr:Array Keyed}{base n hint:Nat}{Q:Option Nat->SortSt->Prop}(hC:yb prog w A s κ a₀)(hk:kindOf st=κ)(nP:key∈a₀.toList)(pK:∀x∈arr.toList,x∈a₀.toList)(hn:base+n<=arr.size)(hh:hint<n)(h:∀k,k<=n->Q (some k) st):wpS (model prog w) A E s (iR left key arr base n hint) Q st:=by
 rw[AR];refine aw (iy hC hk nP pK (by lia) fun right=>?_);cases right
 .dsimp only;rw[aq (by decide)];refine aw (d0 (fK (I:=fun _ c bf=>(∃l o,c=(none,l,o))/\st=bf) (Q:=fun c bf=>(∃l o,c=(none,l,o))/\st=bf) ?_ (fun c bf hh=>hh) ⟨⟨_,_,rfl⟩,rfl⟩) ?_)
  .rintro x c bf _ _ ⟨⟨l,o,rfl⟩,rfl⟩;dsimp only;by_cases Cy:o>=hint+1
   .rw[ak Cy];exact aO ⟨⟨_,_,rfl⟩,rfl⟩
   .rw[aq Cy];refine aw (iy hC hk nP pK (by lia) fun G0=>?_);cases G0
    .exact aO ⟨⟨_,_,rfl⟩,rfl⟩
    .exact aO ⟨⟨_,_,rfl⟩,rfl⟩
  .rintro c bf ⟨⟨l,o,rfl⟩,rfl⟩;dsimp only;refine aw (d0 (fK (I:=fun _ c bf=>(∃l u,c=(none,l,u)/\u<=n)/\st=bf) (Q:=fun c bf=>(∃l u,c=(none,l,u)/\u<=n)/\st=bf) ?_ (fun c bf hh=>hh) ⟨⟨_,_,rfl,by lia⟩,rfl⟩) ?_)
   .rintro x c bf _ _ ⟨⟨l,u,rfl,hu⟩,rfl⟩;dsimp only;by_cases Cy:l>=u
    .rw[ak Cy];exact aO ⟨⟨_,_,rfl,hu⟩,rfl⟩
    .rw[aq Cy];refine aw (iy hC hk nP pK (by lia) fun more=>?_);cases more
     .exact aO ⟨⟨_,_,rfl,by lia⟩,rfl⟩
     .exact aO ⟨⟨_,_,rfl,hu⟩,rfl⟩
   .rintro c bf ⟨⟨l,u,rfl,hu⟩,rfl⟩;exact aO (h u hu)
 .dsimp only;rw[ak rfl];refine aw (d0 (fK (I:=fun _ c bf=>(∃l o,c=(none,l,o))/\st=bf) (Q:=fun c bf=>(∃l o,c=(none,l,o))/\st=bf) ?_ (fun c bf hh=>hh) ⟨⟨_,_,rfl⟩,rfl⟩) ?_)
  .rintro x c bf _ _ ⟨⟨l,o,rfl⟩,rfl⟩;dsimp only;by_cases Cy:o>=n-hint
   .rw[ak Cy];exact aO ⟨⟨_,_,rfl⟩,rfl⟩
   .rw[aq Cy];refine aw (iy hC hk nP pK (by lia) fun more=>?_);cases more
    .exact aO ⟨⟨_,_,rfl⟩,rfl⟩
    .exact aO ⟨⟨_,_,rfl⟩,rfl⟩
  .rintro c bf ⟨⟨l,o,rfl⟩,rfl⟩;dsimp only;refine aw (d0 (fK (I:=fun _ c bf=>(∃l u,c=(none,l,u)/\u<=n)/\st=bf) (Q:=fun c bf=>(∃l u,c=(none,l,u)/\u<=n)/\st=bf) ?_ (fun c bf hh=>hh) ⟨⟨_,_,rfl,by lia⟩,rfl⟩) ?_)
   .rintro x c bf _ _ ⟨⟨l,u,rfl,hu⟩,rfl⟩;dsimp only;by_cases Cy:l>=u
    .rw[ak Cy];exact aO ⟨⟨_,_,rfl,hu⟩,rfl⟩
    .rw[aq Cy];refine aw (iy hC hk nP pK (by lia) fun more=>?_);cases more
     .exact aO ⟨⟨_,_,rfl,by lia⟩,rfl⟩
     .exact aO ⟨⟨_,_,rfl,hu⟩,rfl⟩
   .rintro c bf ⟨⟨l,u,rfl,hu⟩,rfl⟩;exact aO (h u hu)
end
structure SM(κ:SortKind)(ar:Array Keyed)(pd:Array (Nat×Nat×Nat))(st:SortSt):Prop where
 arr:arrOf st=ar
 kind:kindOf st=κ
 failed:failedOf st=none
 pend:pendingOf st=pd
abbrev qu:=Option (Array Keyed)
abbrev va:=StateT SortSt Sem
def yc{τ:Type}(c:Bool)(d:Prop)[Decidable d](r:Array Keyed)(t:τ):va (ForInStep (qu×τ)):=if c then pure (.done (some r,t)) else if d then pure (.done (none,t)) else pure (.yield (none,t))
def mgO{α β γ:Type}(N:Nat)(f:Nat->qu×α×β×γ×Nat×Nat->va (ForInStep (qu×α×β×γ×Nat×Nat)))(g:qu×α×β×γ×Nat×Nat×Nat->va (ForInStep (qu×α×β×γ×Nat×Nat×Nat)))(s:qu×α×β×γ×Nat):va (ForInStep (qu×α×β×γ×Nat)):=do
 let t <- forIn [0:N] ((none,s.2.1,s.2.2.1,s.2.2.2.1,0,0):qu×α×β×γ×Nat×Nat) fun _ t=>f s.2.2.2.2 t
 match t.1 with
 |some r=>pure (.done (some r,t.2.1,t.2.2.1,t.2.2.2.1,s.2.2.2.2))
 |none=>do
  liftM (rule "list.sort.gallop")
  let u <- forIn [0:N] ((none,t.2.1,t.2.2.1,t.2.2.2.1,s.2.2.2.2+1,t.2.2.2.2.1,t.2.2.2.2.2):qu×α×β×γ×Nat×Nat×Nat) fun _ u=>g u
  match u.1 with
  |some r=>pure (.done (some r,u.2.1,u.2.2.1,u.2.2.2.1,u.2.2.2.2.1))
  |none=>do
   jb (u.2.2.2.2.1+1)
   pure (.yield (none,u.2.1,u.2.2.1,u.2.2.2.1,u.2.2.2.2.1+1))
def Ww{α β γ:Type}(N:Nat)(f:Nat->qu×α×β×γ×Nat×Nat->va (ForInStep (qu×α×β×γ×Nat×Nat)))(g:qu×α×β×γ×Nat×Nat×Nat->va (ForInStep (qu×α×β×γ×Nat×Nat×Nat)))(x:α)(y:β)(z:γ):va (Array Keyed):=do
 let st <- get
 let s <- forIn [0:N] ((none,x,y,z,gallopOf st):qu×α×β×γ×Nat) fun _ s=>mgO N f g s
 match s.1 with
 |some r=>pure r
 |none=>liftM (unsupported "internal:list.sort.merge-bound")
section
variable {prog:Program} {w:World} {A:Around} {E:Value->Shared->Prop} {s:Shared} {κ:SortKind} {a₀:Array Keyed} {pd:Array (Nat×Nat×Nat)} {ar:Array Keyed} {F:Array Keyed->Prop}
def GP{τ:Type}(κ:SortKind)(ar:Array Keyed)(pd:Array (Nat×Nat×Nat))(F:Array Keyed->Prop)(D J:τ->Prop)(r:ForInStep (qu×τ))(st:SortSt):Prop:=SM κ ar pd st/\
 ((∃x t,r=.done (some x,t)/\F x)\/(∃t,r=.done (none,t)/\D t)\/∃t,r=.yield (none,t)/\J t)
theorem fv{τ:Type}{D J:τ->Prop}{st:SortSt}{x:Array Keyed}{t:τ}(m:SM κ ar pd st)(h:F x):wpS (model prog w) A E s (pure (.done (some x,t))) (GP κ ar pd F D J) st:=aO ⟨m,.inl ⟨_,_,rfl,h⟩⟩
theorem js{τ:Type}{D J:τ->Prop}{c:Bool}{d:Prop}[Decidable d]{r:Array Keyed}{t:τ}{st:SortSt}(m:SM κ ar pd st)(h1:c=true->F r)(h2:c=false->D t/\J t):wpS (model prog w) A E s (yc c d r t) (GP κ ar pd F D J) st:=by
 unfold yc;cases c
 .rw[aq bq];split
  .exact aO ⟨m,.inr (.inl ⟨_,rfl,(h2 rfl).1⟩)⟩
  .exact aO ⟨m,.inr (.inr ⟨_,rfl,(h2 rfl).2⟩)⟩
 .rw[ak rfl];exact fv m (h1 rfl)
theorem pL{τ:Type}{D:τ->Prop}{J:Nat->τ->Prop}{N:Nat}{f:qu×τ->va (ForInStep (qu×τ))}{t:τ}{st:SortSt}{Q:qu×τ->SortSt->Prop}(m:SM κ ar pd st)(hJ:J 0 t)(up:∀t,J N t->D t)(b:∀t st,SM κ ar pd st->∀i,J i t->wpS (model prog w) A E s (f (none,t)) (GP κ ar pd F D (J (i+1))) st)(h1:∀x t bf,SM κ ar pd bf->F x->Q (some x,t) bf)(h2:∀t bf,SM κ ar pd bf->D t->Q (none,t) bf):wpS (model prog w) A E s (forIn [0:N] ((none,t):qu×τ) fun _ c=>f c) Q st:=by
 refine fK (I:=fun i c bf=>c.1=none/\SM κ ar pd bf/\J i c.2) ?_ ?_ ⟨rfl,m,hJ⟩
 .rintro i ⟨_,t⟩ bf _ _ ⟨rfl,m',j⟩;refine d0 (b t bf m' i j) ?_;rintro r ow ⟨m2,⟨x,t,rfl,h⟩|⟨t,rfl,h⟩|⟨t,rfl,h⟩⟩
  .exact h1 _ _ _ m2 h
  .exact h2 _ _ m2 h
  .exact⟨rfl,m2,h⟩
 .rintro⟨_,t⟩ bf ⟨rfl,m',j⟩;rw[Nat.max_eq_right (cr _)] at j;exact h2 _ _ m' (up _ j)
theorem Cz{α β γ:Type}{N:Nat}{f:Nat->qu×α×β×γ×Nat×Nat->va (ForInStep (qu×α×β×γ×Nat×Nat))}{g:qu×α×β×γ×Nat×Nat×Nat->va (ForInStep (qu×α×β×γ×Nat×Nat×Nat))}{x:α}{y:β}{z:γ}{J:Nat->α->β->γ->Prop}{st:SortSt}{Q:Array Keyed->SortSt->Prop}(m:SM κ ar pd st)(h0:J 0 x y z)(dn:∀i k x y z,J (i+k) x y z->J i x y z)(no:∀x y z,¬ J N x y z)(N1:1<=N)(hf:∀mg n k x y z p st,SM κ ar pd st->J (n+k) x y z->wpS (model prog w) A E s (f mg (none,x,y,z,p)) (GP κ ar pd F (fun t=>J (n+1) t.1 t.2.1 t.2.2.1) fun t=>J (n+(k+1)) t.1 t.2.1 t.2.2.1) st)(hg:∀n x y z p st,SM κ ar pd st->J n x y z->wpS (model prog w) A E s (g (none,x,y,z,p)) (GP κ ar pd F (fun t=>J n t.1 t.2.1 t.2.2.1) fun t=>J n t.1 t.2.1 t.2.2.1) st)(h:∀x bf,F x->SM κ ar pd bf->Q x bf):wpS (model prog w) A E s (Ww N f g x y z) Q st:=by
 unfold Ww;refine aw (io ?_);refine aw (pL (F:=F) (D:=fun _=>False) (J:=fun n (t:α×β×γ×Nat)=>J n t.1 t.2.1 t.2.2.1) m h0 (fun t h=>no _ _ _ h) ?_ (fun x t st m hx=>aO (h _ _ hx m)) fun t st m j=>j.elim);intro t st m i j;unfold mgO;refine aw (pL (F:=F) (D:=fun t=>J (i+1) t.1 t.2.1 t.2.2.1) (J:=fun n (t:α×β×γ×Nat×Nat)=>J (i+n) t.1 t.2.1 t.2.2.1) m j (fun t h=>dn _ (N-1) _ _ _ (by rw[show i+1+(N-1)=i+N by lia];exact h)) (fun t st m n j=>hf _ _ _ _ _ _ _ _ m j) (fun x t st m hx=>fv m hx) ?_);intro t st m j;refine aw (mz (wpAny_rule ⟨rfl,?_⟩));refine aw (pL (F:=F) (D:=fun t=>J (i+1) t.1 t.2.1 t.2.2.1) (J:=fun n (t:α×β×γ×Nat×Nat×Nat)=>J (i+1) t.1 t.2.1 t.2.2.1) m j (fun _ h=>h) (fun t st m n j=>hg _ _ _ _ _ _ m j) (fun x t st m hx=>fv m hx) ?_);intro t st m j;refine aw (gw ?_);exact aO ⟨⟨m.arr,m.kind,m.failed,m.pend⟩,.inr (.inr ⟨_,rfl,j⟩)⟩
end
abbrev kX(a b out:Array Keyed)(ia ib:Nat):=out++a.extract ia a.size++b.extract ib b.size
abbrev wD(a b out:Array Keyed)(ia ib:Nat):=out++b.extract ib b.size++a.extract ia a.size
abbrev Nb ρ:=qu×Array Keyed×Nat×Nat×ρ
def loW(a b:Array Keyed)(mg:Nat)(t:Nb (Nat×Nat)):va (ForInStep (Nb (Nat×Nat))):=do
 let x <- elem' b t.2.2.2.1
 let y <- elem' a t.2.2.1
 let some w <- lt' x y|pure (.done (some (kX a b t.2.1 t.2.2.1 t.2.2.2.1),t.2.1,t.2.2.1,t.2.2.2.1,t.2.2.2.2.1,t.2.2.2.2.2))
 if w then do
  let x <- elem' b t.2.2.2.1
  yc (t.2.2.2.1+1==b.size) (t.2.2.2.2.2+1>=mg) (kX a b (t.2.1.push x) t.2.2.1 (t.2.2.2.1+1)) (t.2.1.push x,t.2.2.1,t.2.2.2.1+1,0,t.2.2.2.2.2+1)
 else do
  let x <- elem' a t.2.2.1
  yc (t.2.2.1+1+1==a.size) (t.2.2.2.2.1+1>=mg) (wD a b (t.2.1.push x) (t.2.2.1+1) t.2.2.2.1) (t.2.1.push x,t.2.2.1+1,t.2.2.2.1,t.2.2.2.2.1+1,0)
def X8(a b out:Array Keyed)(ia ib mg ac bc:Nat):va (ForInStep (Nb (Nat×Nat×Nat))):=do
 let x <- elem' a ia
 yc (ia+1+1==a.size) ((ac<7&&bc<7)=true) (wD a b (out.push x) (ia+1) ib) (out.push x,ia+1,ib,mg,ac,bc)
def X9(a b out:Array Keyed)(ia ib mg ac bc:Nat):va (ForInStep (Nb (Nat×Nat×Nat))):=do
 let x <- elem' b ib
 if ib+1==b.size then pure (.done (some (kX a b (out.push x) ia (ib+1)),out.push x,ia,ib+1,mg,ac,bc))
 else do
  let y <- elem' a ia
  let some k <- iR true y b (ib+1) (b.size-(ib+1)) 0|pure (.done (some (kX a b (out.push x) ia (ib+1)),out.push x,ia,ib+1,mg,ac,bc))
  if k > 0 then
   if ib+1+k==b.size then pure (.done (some (kX a b (out.push x++b.extract (ib+1) (ib+1+k)) ia (ib+1+k)),out.push x++b.extract (ib+1) (ib+1+k),ia,ib+1+k,mg,ac,k))
   else X8 a b (out.push x++b.extract (ib+1) (ib+1+k)) ia (ib+1+k) mg ac k
  else X8 a b (out.push x) ia (ib+1) mg ac k
def X_(a b out:Array Keyed)(ia ib mg ac bc:Nat):va (ForInStep (Nb (Nat×Nat×Nat))):=do
 jb mg
 let y <- elem' b ib
 let some k <- iR false y a ia (a.size-ia) 0|pure (.done (some (kX a b out ia ib),out,ia,ib,mg,ac,bc))
 if k > 0 then
  if ia+k+1==a.size then pure (.done (some (wD a b (out++a.extract ia (ia+k)) (ia+k) ib),out++a.extract ia (ia+k),ia+k,ib,mg,k,bc))
  else if ia+k==a.size then pure (.done (some (kX a b (out++a.extract ia (ia+k)) (ia+k) ib),out++a.extract ia (ia+k),ia+k,ib,mg,k,bc))
  else X9 a b (out++a.extract ia (ia+k)) (ia+k) ib mg k bc
 else X9 a b out ia ib mg k bc
def loG(a b:Array Keyed)(t:Nb (Nat×Nat×Nat)):va (ForInStep (Nb (Nat×Nat×Nat))):=
 if t.2.2.2.2.1 > 1 then X_ a b t.2.1 t.2.2.1 t.2.2.2.1 (t.2.2.2.2.1-1) t.2.2.2.2.2.1 t.2.2.2.2.2.2 else X_ a b t.2.1 t.2.2.1 t.2.2.2.1 t.2.2.2.2.1 t.2.2.2.2.2.1 t.2.2.2.2.2.2
theorem yd(a b:Array Keyed):sS a b=(do
 liftM (rule "list.sort.merge-lo")
 let x <- elem' b 0
 if 1==b.size then pure (kX a b #[x] 0 1) else if 0+1==a.size then pure (wD a b #[x] 0 1) else Ww (a.size+b.size) (loW a b) (loG a b) #[x] 0 1):=by kernel_rfl
def PI(a b out:Array Keyed)(ia ib:Nat):Prop:=out.toList.Perm (a.toList.take ia++b.toList.take ib)
theorem ye{l:List Keyed}{i:Nat}(h:i<l.length):l.take (i+1)=l.take i++[l[i]]:=by rw[iH,cZ h];rfl
theorem PI.vb{a b out:Array Keyed}{ia ib:Nat}(h:PI a b out ia ib)(hi:ia<a.size):PI a b (out.push a[ia]) (ia+1) ib:=by
 unfold PI at h |-;rw[ky,ye (by simpa using hi),dE];refine(h.append_right _).trans ?_;rw[dE];refine nF _ ?_;have:a.toList[ia]'(by simpa using hi)=a[ia]:=by simp
 rw[this];exact km
theorem PI.vc{a b out:Array Keyed}{ia ib:Nat}(h:PI a b out ia ib)(hi:ib<b.size):PI a b (out.push b[ib]) ia (ib+1):=by
 unfold PI at h |-;rw[ky,ye (by simpa using hi),<-dE];have:b.toList[ib]'(by simpa using hi)=b[ib]:=by simp
 rw[this];exact h.append_right _
theorem eG{a:Array Keyed}{i j:Nat}:(a.extract i j).toList=(a.toList.drop i).take (j-i):=by
 rw[zo,List.extract_eq_take_drop]
theorem PI.Ec{a b out:Array Keyed}{ia ib:Nat}(h:PI a b out ia ib)(k:Nat):PI a b (out++a.extract ia (ia+k)) (ia+k) ib:=by
 unfold PI at h |-;rw[eY,eG,Nat.add_sub_cancel_left,List.take_add,dE];refine(h.append_right _).trans ?_;rw[dE];exact nF _ km
theorem PI.Ed{a b out:Array Keyed}{ia ib:Nat}(h:PI a b out ia ib)(k:Nat):PI a b (out++b.extract ib (ib+k)) ia (ib+k):=by
 unfold PI at h |-;rw[eY,eG,Nat.add_sub_cancel_left,List.take_add,<-dE];exact h.append_right _
theorem PI.done{a b out:Array Keyed}{ia ib:Nat}(h:PI a b out ia ib):(out++a.extract ia a.size++b.extract ib b.size).Perm (a++b):=by
 rw[nC];unfold PI at h;rw[eY,eY,eY,eG,eG];have e1:(a.toList.drop ia).take (a.size-ia)=a.toList.drop ia:=zf (by simp);have e2:(b.toList.drop ib).take (b.size-ib)=b.toList.drop ib:=zf (by simp);rw[e1,e2];refine((h.append_right _).append_right _).trans ?_;conv=>rhs;rw[<-oE ia a.toList,<-oE ib b.toList]
 rw[dE,dE,dE];refine nF _ ?_;rw[<-dE,<-dE];exact zh _ km
theorem PI.last{a b out:Array Keyed}{ia ib:Nat}(h:PI a b out ia ib):(out++b.extract ib b.size++a.extract ia a.size).Perm (a++b):=by
 refine Array.Perm.trans ?_ h.done;rw[nC];rw[eY,eY,eY,eY,dE,dE];exact nF _ km
section
variable {prog:Program} {w:World} {A:Around} {E:Value->Shared->Prop} {s:Shared} {κ:SortKind} {a₀:Array Keyed} {pd:Array (Nat×Nat×Nat)} {ar:Array Keyed} {a b out:Array Keyed} {ia ib mg ac bc n:Nat} {st:SortSt}
def JL(a b:Array Keyed)(n:Nat)(out:Array Keyed)(ia ib:Nat):Prop:=PI a b out ia ib/\ia+1<a.size/\ib<b.size/\n<=ia+ib
abbrev GL{ρ:Type}(κ:SortKind)(ar:Array Keyed)(pd:Array (Nat×Nat×Nat))(a b:Array Keyed)(n m:Nat):ForInStep (Nb ρ)->SortSt->Prop:=GP κ ar pd (fun x=>x.Perm (a++b)) (fun t=>JL a b n t.1 t.2.1 t.2.2.1) fun t=>JL a b m t.1 t.2.1 t.2.2.1
theorem CA(hB:SM κ ar pd st)(h:JL a b n out ia ib):wpS (model prog w) A E s (X8 a b out ia ib mg ac bc) (GL κ ar pd a b n n) st:=by
 obtain⟨p,la,lb,li⟩:=h;refine aw (bv (dP a ia (by lia)) ?_);have p:=p.vb (show ia<a.size by lia);refine js hB (fun _=>p.last) fun f=>?_;have g:=oM f;have j:JL a b n (out.push a[ia]) (ia+1) ib:=⟨p,by lia,lb,by lia⟩
 exact⟨j,j⟩
theorem CC(hC:yb prog w A s κ a₀)(ha:∀x∈a.toList,x∈a₀.toList)(hb:∀x∈b.toList,x∈a₀.toList)(hB:SM κ ar pd st)(h:JL a b n out ia ib):wpS (model prog w) A E s (X9 a b out ia ib mg ac bc) (GL κ ar pd a b n n) st:=by
 obtain⟨p,la,lb,li⟩:=h;refine aw (bv (dP b ib lb) ?_);have p:=p.vc lb;split
 .exact fv hB p.done
 next f=>
 have g:ib+1≠b.size:=by simpa using f
 refine aw (bv (dP a ia (by lia)) ?_);refine aw (fX hC hB.kind (ha _ (by simp)) hb (by lia) (by lia) fun k hk=>?_);dsimp only;split
 .split
  .exact fv hB (p.Ed k).done
  next f=>
  have g:ib+1+k≠b.size:=by simpa using f
  exact CA hB ⟨p.Ed k,la,by lia,by lia⟩
 .exact CA hB ⟨p,la,by lia,by lia⟩
theorem KN(hC:yb prog w A s κ a₀)(ha:∀x∈a.toList,x∈a₀.toList)(hb:∀x∈b.toList,x∈a₀.toList)(hB:SM κ ar pd st)(h:JL a b n out ia ib):wpS (model prog w) A E s (X_ a b out ia ib mg ac bc) (GL κ ar pd a b n n) st:=by
 obtain⟨p,la,lb,li⟩:=h;refine aw (gw ?_);refine aw (bv (dP b ib lb) ?_);have uE:SM κ ar pd (SortSt.mk' (kindOf st) (arrOf st) (pendingOf st) mg (failedOf st)):=⟨hB.arr,hB.kind,hB.failed,hB.pend⟩
 refine aw (fX hC uE.kind (hb _ (by simp)) ha (by lia) (by lia) fun k hk=>?_);dsimp only;split
 .split
  .exact fv uE (p.Ec k).last
  next f=>
  split
  .exact fv uE (p.Ec k).done
  next f'=>
  have g:ia+k+1≠a.size:=by simpa using f
  have g':ia+k≠a.size:=by simpa using f'
  exact CC hC ha hb uE ⟨p.Ec k,by lia,lb,by lia⟩
 .exact CC hC ha hb uE ⟨p,la,lb,li⟩
theorem KO{k:Nat}(hC:yb prog w A s κ a₀)(ha:∀x∈a.toList,x∈a₀.toList)(hb:∀x∈b.toList,x∈a₀.toList)(hB:SM κ ar pd st)(h:JL a b (n+k) out ia ib){q:Nat×Nat}:wpS (model prog w) A E s (loW a b mg (none,out,ia,ib,q)) (GL κ ar pd a b (n+1) (n+(k+1))) st:=by
 obtain⟨p,la,lb,li⟩:=h;refine aw (bv (dP b ib lb) (aw (bv (dP a ia (by lia)) (aw (sW hC hB.kind (hb _ (by simp)) (ha _ (by simp)) fun w=>?_)))));cases w
 .refine aw (bv (dP a ia (by lia)) ?_);have p:=p.vb (show ia<a.size by lia);refine js hB (fun _=>p.last) fun f=>?_;have g:=oM f;exact⟨⟨p,by dsimp only;lia,lb,by dsimp only;lia⟩,p,by dsimp only;lia,lb,by dsimp only;lia⟩
 .refine aw (bv (dP b ib lb) ?_);have p:=p.vc lb;refine js hB (fun _=>p.done) fun f=>?_;have g:=oM f;exact⟨⟨p,la,by dsimp only at g |-;lia,by dsimp only;lia⟩,p,la,by dsimp only at g |-;lia,by dsimp only;lia⟩
theorem yf{Q:Array Keyed->SortSt->Prop}(hC:yb prog w A s κ a₀)(hB:SM κ ar pd st)(ha:∀x∈a.toList,x∈a₀.toList)(hb:∀x∈b.toList,x∈a₀.toList)(a1:1<=a.size)(b1:1<=b.size)(h:∀out bf,out.Perm (a++b)->SM κ ar pd bf->Q out bf):wpS (model prog w) A E s (sS a b) Q st:=by
 rw[yd];refine aw (mz (wpAny_rule ⟨rfl,?_⟩));refine aw (bv (dP b 0 (by lia)) ?_);have p0:PI a b #[b[0]] 0 1:=by
  have:PI a b #[] 0 0:=by unfold PI;simp
  exact this.vc (by lia)
 split
 .exact aO (h _ _ p0.done hB)
 next f=>
 split
 .exact aO (h _ _ p0.last hB)
 next f'=>
 have g:1≠b.size:=by simpa using f
 have g':0+1≠a.size:=by simpa using f'
 refine Cz (J:=JL a b) hB ⟨p0,by lia,by lia,by lia⟩ (fun i k x y z h=>⟨h.1,h.2.1,h.2.2.1,by have:=h.2.2.2;lia⟩) (fun x y z h=>by have:=h.2;lia) (by lia) (fun mg n k x y z p st m j=>KO hC ha hb m j) (fun n x y z p st m j=>?_) h;unfold loG;split <;> exact KN hC ha hb m j
end
abbrev kY(a b out:Array Keyed)(na nb:Nat):=a.extract 0 na++b.extract 0 nb++out.reverse
abbrev qR(a b out:Array Keyed)(na nb:Nat):=b.extract 0 nb++a.extract 0 na++out.reverse
abbrev Nc ρ:=qu×Nat×Nat×Array Keyed×ρ
def hiW(a b:Array Keyed)(mg:Nat)(t:Nc (Nat×Nat)):va (ForInStep (Nc (Nat×Nat))):=do
 let x <- elem' b (t.2.2.1-1)
 let y <- elem' a (t.2.1-1)
 let some w <- lt' x y|pure (.done (some (kY a b t.2.2.2.1 t.2.1 t.2.2.1),t.2.1,t.2.2.1,t.2.2.2.1,t.2.2.2.2.1,t.2.2.2.2.2))
 if w then do
  let x <- elem' a (t.2.1-1)
  yc (t.2.1-1==0) (t.2.2.2.2.1+1>=mg) (kY a b (t.2.2.2.1.push x) (t.2.1-1) t.2.2.1) (t.2.1-1,t.2.2.1,t.2.2.2.1.push x,t.2.2.2.2.1+1,0)
 else do
  let x <- elem' b (t.2.2.1-1)
  yc (t.2.2.1-1==1) (t.2.2.2.2.2+1>=mg) (qR a b (t.2.2.2.1.push x) t.2.1 (t.2.2.1-1)) (t.2.1,t.2.2.1-1,t.2.2.2.1.push x,0,t.2.2.2.2.2+1)
def Ya(a b:Array Keyed)(na nb:Nat)(out:Array Keyed)(mg ac bc:Nat):va (ForInStep (Nc (Nat×Nat×Nat))):=do
 let x <- elem' a (na-1)
 yc (na-1==0) ((ac<7&&bc<7)=true) (kY a b (out.push x) (na-1) nb) (na-1,nb,out.push x,mg,ac,bc)
def Yb(a b:Array Keyed)(na nb:Nat)(out:Array Keyed)(mg ac bc:Nat):va (ForInStep (Nc (Nat×Nat×Nat))):=do
 let x <- elem' b (nb-1)
 if nb-1==1 then pure (.done (some (qR a b (out.push x) na (nb-1)),na,nb-1,out.push x,mg,ac,bc))
 else do
  let y <- elem' a (na-1)
  let some k <- iR true y b 0 (nb-1) (nb-1-1)|pure (.done (some (kY a b (out.push x) na (nb-1)),na,nb-1,out.push x,mg,ac,bc))
  if nb-1-k > 0 then
   if k==1 then pure (.done (some (qR a b (out.push x++(b.extract k (nb-1)).reverse) na k),na,k,out.push x++(b.extract k (nb-1)).reverse,mg,ac,nb-1-k))
   else if k==0 then pure (.done (some (kY a b (out.push x++(b.extract k (nb-1)).reverse) na k),na,k,out.push x++(b.extract k (nb-1)).reverse,mg,ac,nb-1-k))
   else Ya a b na k (out.push x++(b.extract k (nb-1)).reverse) mg ac (nb-1-k)
  else Ya a b na (nb-1) (out.push x) mg ac (nb-1-k)
def Yc(a b:Array Keyed)(na nb:Nat)(out:Array Keyed)(mg ac bc:Nat):va (ForInStep (Nc (Nat×Nat×Nat))):=do
 jb mg
 let y <- elem' b (nb-1)
 let some k <- iR false y a 0 na (na-1)|pure (.done (some (kY a b out na nb),na,nb,out,mg,ac,bc))
 if na-k > 0 then
  if k==0 then pure (.done (some (kY a b (out++(a.extract k na).reverse) k nb),k,nb,out++(a.extract k na).reverse,mg,na-k,bc))
  else Yb a b k nb (out++(a.extract k na).reverse) mg (na-k) bc
 else Yb a b na nb out mg (na-k) bc
def hiG(a b:Array Keyed)(t:Nc (Nat×Nat×Nat)):va (ForInStep (Nc (Nat×Nat×Nat))):=
 if t.2.2.2.2.1 > 1 then Yc a b t.2.1 t.2.2.1 t.2.2.2.1 (t.2.2.2.2.1-1) t.2.2.2.2.2.1 t.2.2.2.2.2.2 else Yc a b t.2.1 t.2.2.1 t.2.2.2.1 t.2.2.2.2.1 t.2.2.2.2.2.1 t.2.2.2.2.2.2
theorem yg(a b:Array Keyed):sU a b=(do
 liftM (rule "list.sort.merge-hi")
 let x <- elem' a (a.size-1)
 if a.size-1==0 then pure (kY a b #[x] (a.size-1) b.size) else if b.size==1 then pure (qR a b #[x] (a.size-1) b.size) else Ww (a.size+b.size) (hiW a b) (hiG a b) (a.size-1) b.size #[x]):=by kernel_rfl
def PH(a b out:Array Keyed)(na nb:Nat):Prop:=out.toList.Perm (a.toList.drop na++b.toList.drop nb)
theorem PH.vb{a b out:Array Keyed}{na nb:Nat}(h:PH a b out na nb)(h1:1<=na)(hi:na-1<a.size):PH a b (out.push a[na-1]) (na-1) nb:=by
 unfold PH at h |-;have e:a.toList.drop (na-1)=a[na-1]::a.toList.drop na:=by
  have:=rb (l:=a.toList) (i:=na-1) (by simpa using hi);rw[this,Nat.sub_add_cancel h1];simp
 rw[ky,e];refine(h.append_right _).trans ?_;exact km
theorem PH.vc{a b out:Array Keyed}{na nb:Nat}(h:PH a b out na nb)(h1:1<=nb)(hi:nb-1<b.size):PH a b (out.push b[nb-1]) na (nb-1):=by
 unfold PH at h |-;have e:b.toList.drop (nb-1)=b[nb-1]::b.toList.drop nb:=by
  have:=rb (l:=b.toList) (i:=nb-1) (by simpa using hi);rw[this,Nat.sub_add_cancel h1];simp
 rw[ky,e];refine(h.append_right _).trans ?_;rw[dE];exact nF _ km
theorem oa{l:List Keyed}{i j:Nat}(h:i<=j):l.drop i=(l.drop i).take (j-i)++l.drop j:=by
 have:=(oE (j-i) (l.drop i)).symm;rw[List.drop_drop,show i+(j-i)=j by lia] at this;exact this
theorem PH.Ec{a b out:Array Keyed}{na nb:Nat}(h:PH a b out na nb){k:Nat}(hk:k<=na):PH a b (out++(a.extract k na).reverse) k nb:=by
 unfold PH at h |-;rw[eY,zn,eG];conv=>rhs;rw[oa hk]
 refine((h.append_left _).trans ?_ |> fun z=>(List.Perm.trans km ((zJ _).append_right _)).trans z);rw[dE]
theorem PH.Ed{a b out:Array Keyed}{na nb:Nat}(h:PH a b out na nb){k:Nat}(hk:k<=nb):PH a b (out++(b.extract k nb).reverse) na k:=by
 unfold PH at h |-;rw[eY,zn,eG];conv=>rhs;rw[oa hk]
 refine(h.append_right _).trans ?_;rw[dE];refine nF _ ?_;exact km.trans ((zJ _).append_right _)
theorem Tb{a:Array Keyed}{j:Nat}:(a.extract 0 j).toList=a.toList.take j:=by rw[eG,z_,Nat.sub_zero]
theorem PH.done{a b out:Array Keyed}{na nb:Nat}(h:PH a b out na nb):(a.extract 0 na++b.extract 0 nb++out.reverse).Perm (a++b):=by
 rw[nC];unfold PH at h;rw[eY,eY,eY,zn,Tb,Tb];conv=>rhs;rw[<-oE na a.toList,<-oE nb b.toList]
 refine(nF _ ((zJ _).trans h)).trans ?_;rw[dE,dE];refine nF _ ?_;rw[<-dE,<-dE];exact zh _ km
theorem PH.first{a b out:Array Keyed}{na nb:Nat}(h:PH a b out na nb):(b.extract 0 nb++a.extract 0 na++out.reverse).Perm (a++b):=by
 refine Array.Perm.trans ?_ h.done;rw[nC];rw[eY,eY,eY,eY];exact zh _ km
section
variable {prog:Program} {w:World} {A:Around} {E:Value->Shared->Prop} {s:Shared} {κ:SortKind} {a₀:Array Keyed} {pd:Array (Nat×Nat×Nat)} {ar:Array Keyed} {a b out:Array Keyed} {na nb mg ac bc n:Nat} {st:SortSt}
def JH(a b:Array Keyed)(n na nb:Nat)(out:Array Keyed):Prop:=PH a b out na nb/\1<=na/\2<=nb/\na<=a.size/\nb<=b.size/\n+na+nb<=a.size+b.size
abbrev GH{ρ:Type}(κ:SortKind)(ar:Array Keyed)(pd:Array (Nat×Nat×Nat))(a b:Array Keyed)(n m:Nat):ForInStep (Nc ρ)->SortSt->Prop:=GP κ ar pd (fun x=>x.Perm (a++b)) (fun t=>JH a b n t.1 t.2.1 t.2.2.1) fun t=>JH a b m t.1 t.2.1 t.2.2.1
theorem CD(hB:SM κ ar pd st)(p:PH a b out na nb)(la:1<=na)(lb:2<=nb)(ma:na<=a.size)(mb:nb<=b.size)(li:n+na+nb<=a.size+b.size+1):wpS (model prog w) A E s (Ya a b na nb out mg ac bc) (GH κ ar pd a b n n) st:=by
 refine aw (bv (dP a (na-1) (by lia)) ?_);have p:=p.vb la (show na-1<a.size by lia);refine js hB (fun _=>p.done) fun f=>?_;have g:=oM f;have j:JH a b n (na-1) nb (out.push a[na-1]):=⟨p,by lia,lb,by lia,mb,by lia⟩
 exact⟨j,j⟩
theorem CF(hC:yb prog w A s κ a₀)(ha:∀x∈a.toList,x∈a₀.toList)(hb:∀x∈b.toList,x∈a₀.toList)(hB:SM κ ar pd st)(h:JH a b n na nb out):wpS (model prog w) A E s (Yb a b na nb out mg ac bc) (GH κ ar pd a b n n) st:=by
 obtain⟨p,la,lb,ma,mb,li⟩:=h;refine aw (bv (dP b (nb-1) (by lia)) ?_);have p:=p.vc (show 1<=nb by lia) (show nb-1<b.size by lia);split
 .exact fv hB p.first
 next f=>
 have g:nb-1≠1:=by simpa using f
 refine aw (bv (dP a (na-1) (by lia)) ?_);refine aw (fX hC hB.kind (ha _ (by simp)) hb (by lia) (by lia) fun k hk=>?_);dsimp only;split
 .split
  .exact fv hB (p.Ed hk).first
  next f=>
  split
  .exact fv hB (p.Ed hk).done
  next f'=>
  have g:k≠1:=by simpa using f
  have g':k≠0:=by simpa using f'
  exact CD hB (p.Ed hk) la (by lia) ma (by lia) (by lia)
 .exact CD hB p la (by lia) ma (by lia) (by lia)
theorem KP(hC:yb prog w A s κ a₀)(ha:∀x∈a.toList,x∈a₀.toList)(hb:∀x∈b.toList,x∈a₀.toList)(hB:SM κ ar pd st)(h:JH a b n na nb out):wpS (model prog w) A E s (Yc a b na nb out mg ac bc) (GH κ ar pd a b n n) st:=by
 obtain⟨p,la,lb,ma,mb,li⟩:=h;refine aw (gw ?_);refine aw (bv (dP b (nb-1) (by lia)) ?_);have uE:SM κ ar pd (SortSt.mk' (kindOf st) (arrOf st) (pendingOf st) mg (failedOf st)):=⟨hB.arr,hB.kind,hB.failed,hB.pend⟩
 refine aw (fX hC uE.kind (hb _ (by simp)) ha (by lia) (by lia) fun k hk=>?_);dsimp only;split
 .split
  .exact fv uE (p.Ec hk).done
  next f=>
  have g:k≠0:=by simpa using f
  exact CF hC ha hb uE ⟨p.Ec hk,by lia,lb,by lia,mb,by lia⟩
 .exact CF hC ha hb uE ⟨p,la,lb,ma,mb,li⟩
theorem KQ{k:Nat}(hC:yb prog w A s κ a₀)(ha:∀x∈a.toList,x∈a₀.toList)(hb:∀x∈b.toList,x∈a₀.toList)(hB:SM κ ar pd st)(h:JH a b (n+k) na nb out){q:Nat×Nat}:wpS (model prog w) A E s (hiW a b mg (none,na,nb,out,q)) (GH κ ar pd a b (n+1) (n+(k+1))) st:=by
 obtain⟨p,la,lb,ma,mb,li⟩:=h;refine aw (bv (dP b (nb-1) (by lia)) (aw (bv (dP a (na-1) (by lia)) (aw (sW hC hB.kind (hb _ (by simp)) (ha _ (by simp)) fun w=>?_)))));cases w
 .refine aw (bv (dP b (nb-1) (by lia)) ?_);have p:=p.vc (show 1<=nb by lia) (show nb-1<b.size by lia);refine js hB (fun _=>p.first) fun f=>?_;have g:nb-1≠1:=oM f;have j:JH a b (n+(k+1)) na (nb-1) (out.push b[nb-1]):=⟨p,la,by lia,ma,by lia,by lia⟩
  exact⟨⟨p,la,j.2.2.1,ma,j.2.2.2.2.1,by have:=j.2.2.2.2.2;dsimp only;lia⟩,j⟩
 .refine aw (bv (dP a (na-1) (by lia)) ?_);have p:=p.vb la (show na-1<a.size by lia);refine js hB (fun _=>p.done) fun f=>?_;have g:na-1≠0:=oM f;have j:JH a b (n+(k+1)) (na-1) nb (out.push a[na-1]):=⟨p,by lia,lb,by lia,mb,by lia⟩
  exact⟨⟨p,j.2.1,lb,j.2.2.2.1,mb,by have:=j.2.2.2.2.2;dsimp only;lia⟩,j⟩
theorem yh{Q:Array Keyed->SortSt->Prop}(hC:yb prog w A s κ a₀)(hB:SM κ ar pd st)(ha:∀x∈a.toList,x∈a₀.toList)(hb:∀x∈b.toList,x∈a₀.toList)(a1:1<=a.size)(b1:1<=b.size)(h:∀out bf,out.Perm (a++b)->SM κ ar pd bf->Q out bf):wpS (model prog w) A E s (sU a b) Q st:=by
 rw[yg];refine aw (mz (wpAny_rule ⟨rfl,?_⟩));refine aw (bv (dP a (a.size-1) (by lia)) ?_);have p0:PH a b #[a[a.size-1]] (a.size-1) b.size:=by
  have:PH a b #[] a.size b.size:=by unfold PH;simp
  exact this.vb a1 (by lia)
 split
 .exact aO (h _ _ p0.done hB)
 next f=>
 split
 .exact aO (h _ _ p0.first hB)
 next f'=>
 have g:a.size-1≠0:=by simpa using f
 have g':b.size≠1:=by simpa using f'
 refine Cz (J:=JH a b) hB ⟨p0,by lia,by lia,by lia,by lia,by lia⟩ (fun i k x y z h=>⟨h.1,h.2.1,h.2.2.1,h.2.2.2.1,h.2.2.2.2.1,by have:=h.2.2.2.2.2;lia⟩) (fun x y z h=>by have:=h.2;lia) (by lia) (fun mg n k x y z p st m j=>KQ hC ha hb m j) (fun n x y z p st m j=>?_) h;unfold hiG;split <;> exact KP hC ha hb m j
end
section
variable {prog:Program} {w:World} {A:Around} {E:Value->Shared->Prop} {s:Shared} {κ:SortKind} {a₀:Array Keyed} {pd:Array (Nat×Nat×Nat)}
theorem Ee{st:SortSt}{lo pM:Nat}{Q:Option Nat->SortSt->Prop}(hC:yb prog w A s κ a₀)(hn:lo+pM<=a₀.size)(h1:1<=pM)(hB:SQ κ a₀ pd st)(h:∀n bf,SQ κ a₀ pd bf->1<=n->n<=pM->Q (some n) bf):wpS (model prog w) A E s (countRun' lo pM) Q st:=by
 rw[countRun'_eq];refine aw (d0 (fK (I:=fun i c bf=>SQ κ a₀ pd bf/\∃m,c=(none,m)/\m=i) (Q:=fun c bf=>SQ κ a₀ pd bf/\∃m,c=(none,m)/\1<=m/\m<=pM) ?_ ?_ ⟨hB,_,rfl,rfl⟩) ?_)
 .rintro i c JY Rm AB ⟨G4,m,rfl,rfl⟩;dsimp only;refine aw (fu hC G4 (by lia) (by lia) fun b1=>?_);cases b1
  .exact aO ⟨G4,_,rfl,rfl⟩
  .exact aO ⟨G4,_,rfl,by lia,by lia⟩
 .rintro c JY ⟨G4,m,rfl,rfl⟩;exact⟨G4,_,rfl,by lia,by lia⟩
 .rintro c JY ⟨G4,n,rfl,n1,n2⟩;dsimp only;by_cases e1:(n==pM)=true
  .rw[ak e1];exact aO (h n JY G4 n1 n2)
  rw[aq e1];have g1:¬ (n=pM):=by simpa using e1
  by_cases e2:n > 1
  .rw[ak e2];refine aw (fu hC G4 (by lia) (by lia) fun b2=>?_);cases b2
   .dsimp only;rw[aq (by decide)];refine aw (gZ G4 fun ow uE=>?_);refine aw (mz (wpAny_rule ⟨rfl,?_⟩));refine aw (d0 (fK (I:=fun i c bf=>SQ κ a₀ pd bf/\∃m q,c=(none,m,q)/\m=i) (Q:=fun c bf=>SQ κ a₀ pd bf/\∃m q,c=(none,m,q)/\1<=m/\m<=pM) ?_ ?_ ⟨uE,_,_,rfl,rfl⟩) ?_)
    .rintro i c xv Rm AB ⟨qt,m,q,rfl,rfl⟩;dsimp only;refine aw (fu hC qt (by lia) (by lia) fun b3=>?_);cases b3
     .dsimp only;rw[aq (by decide)];refine aw (fu hC qt (by lia) (by lia) fun b4=>?_);cases b4
      .exact aO ⟨qt,_,_,rfl,rfl⟩
      .exact aO ⟨qt,_,_,rfl,by lia,by lia⟩
     .dsimp only;rw[ak rfl];split
      .exact aw (gZ qt fun uq OQ=>aO ⟨OQ,_,_,rfl,rfl⟩)
      .exact aO ⟨qt,_,_,rfl,rfl⟩
    .rintro c xv ⟨qt,m,q,rfl,rfl⟩;exact⟨qt,_,_,rfl,by lia,by lia⟩
    .rintro c xv ⟨qt,m,q,rfl,m1,m2⟩;dsimp only;split
     .refine aw (gZ qt fun uq OQ=>?_);refine aw (gZ OQ fun um OR=>?_);refine aw (d0 (fK (I:=fun i c bf=>SQ κ a₀ pd bf/\∃m,c=(none,m)/\m=i) (Q:=fun c bf=>SQ κ a₀ pd bf/\∃m,c=(none,m)/\1<=m/\m<=pM) ?_ ?_ ⟨OR,_,rfl,rfl⟩) ?_)
      .rintro i c AS Rm AB ⟨mR,m,rfl,rfl⟩;dsimp only;refine aw (fu hC mR (by lia) (by lia) fun b6=>?_);cases b6
       .exact aO ⟨mR,_,rfl,rfl⟩
       .exact aO ⟨mR,_,rfl,by lia,by lia⟩
      .rintro c AS ⟨mR,m,rfl,rfl⟩;exact⟨mR,_,rfl,by lia,by lia⟩
      .rintro c AS ⟨mR,m,rfl,h1,h2⟩;exact aO (h m AS mR h1 h2)
     .refine aw (gZ qt fun um OR=>?_);refine aw (d0 (fK (I:=fun i c bf=>SQ κ a₀ pd bf/\∃m,c=(none,m)/\m=i) (Q:=fun c bf=>SQ κ a₀ pd bf/\∃m,c=(none,m)/\1<=m/\m<=pM) ?_ ?_ ⟨OR,_,rfl,rfl⟩) ?_)
      .rintro i c AS Rm AB ⟨mR,m,rfl,rfl⟩;dsimp only;refine aw (fu hC mR (by lia) (by lia) fun b6=>?_);cases b6
       .exact aO ⟨mR,_,rfl,rfl⟩
       .exact aO ⟨mR,_,rfl,by lia,by lia⟩
      .rintro c AS ⟨mR,m,rfl,rfl⟩;exact⟨mR,_,rfl,by lia,by lia⟩
      .rintro c AS ⟨mR,m,rfl,h1,h2⟩;exact aO (h m AS mR h1 h2)
   .exact aO (h n JY G4 n1 n2)
  .rw[aq e2];have uE:=G4;refine aw (mz (wpAny_rule ⟨rfl,?_⟩));refine aw (d0 (fK (I:=fun i c bf=>SQ κ a₀ pd bf/\∃m q,c=(none,m,q)/\m=i) (Q:=fun c bf=>SQ κ a₀ pd bf/\∃m q,c=(none,m,q)/\1<=m/\m<=pM) ?_ ?_ ⟨uE,_,_,rfl,rfl⟩) ?_)
   .rintro i c xv Rm AB ⟨qt,m,q,rfl,rfl⟩;dsimp only;refine aw (fu hC qt (by lia) (by lia) fun b3=>?_);cases b3
    .dsimp only;rw[aq (by decide)];refine aw (fu hC qt (by lia) (by lia) fun b4=>?_);cases b4
     .exact aO ⟨qt,_,_,rfl,rfl⟩
     .exact aO ⟨qt,_,_,rfl,by lia,by lia⟩
    .dsimp only;rw[ak rfl];split
     .exact aw (gZ qt fun uq OQ=>aO ⟨OQ,_,_,rfl,rfl⟩)
     .exact aO ⟨qt,_,_,rfl,rfl⟩
   .rintro c xv ⟨qt,m,q,rfl,rfl⟩;exact⟨qt,_,_,rfl,by lia,by lia⟩
   .rintro c xv ⟨qt,m,q,rfl,m1,m2⟩;dsimp only;split
    .refine aw (gZ qt fun uq OQ=>?_);refine aw (gZ OQ fun um OR=>?_);refine aw (d0 (fK (I:=fun i c bf=>SQ κ a₀ pd bf/\∃m,c=(none,m)/\m=i) (Q:=fun c bf=>SQ κ a₀ pd bf/\∃m,c=(none,m)/\1<=m/\m<=pM) ?_ ?_ ⟨OR,_,rfl,rfl⟩) ?_)
     .rintro i c AS Rm AB ⟨mR,m,rfl,rfl⟩;dsimp only;refine aw (fu hC mR (by lia) (by lia) fun b6=>?_);cases b6
      .exact aO ⟨mR,_,rfl,rfl⟩
      .exact aO ⟨mR,_,rfl,by lia,by lia⟩
     .rintro c AS ⟨mR,m,rfl,rfl⟩;exact⟨mR,_,rfl,by lia,by lia⟩
     .rintro c AS ⟨mR,m,rfl,h1,h2⟩;exact aO (h m AS mR h1 h2)
    .refine aw (gZ qt fun um OR=>?_);refine aw (d0 (fK (I:=fun i c bf=>SQ κ a₀ pd bf/\∃m,c=(none,m)/\m=i) (Q:=fun c bf=>SQ κ a₀ pd bf/\∃m,c=(none,m)/\1<=m/\m<=pM) ?_ ?_ ⟨OR,_,rfl,rfl⟩) ?_)
     .rintro i c AS Rm AB ⟨mR,m,rfl,rfl⟩;dsimp only;refine aw (fu hC mR (by lia) (by lia) fun b6=>?_);cases b6
      .exact aO ⟨mR,_,rfl,rfl⟩
      .exact aO ⟨mR,_,rfl,by lia,by lia⟩
     .rintro c AS ⟨mR,m,rfl,rfl⟩;exact⟨mR,_,rfl,by lia,by lia⟩
     .rintro c AS ⟨mR,m,rfl,h1,h2⟩;exact aO (h m AS mR h1 h2)
end
abbrev Rn:=Nat×Nat×Nat
def ju:List Rn->Nat->Nat->Prop
 |[],s,e=>s=e
 |r::rs,s,e=>r.1=s/\1<=r.2.1/\ju rs (s+r.2.1) e
theorem ju.le:∀ {l:List Rn} {s e:Nat},ju l s e->s<=e
 |[],_,_,h=>oW h
 |r::rs,s,e,⟨_,h2,h3⟩=>by have:=h3.le;lia
theorem ju.two:∀ {l:List Rn} {s e i:Nat} {x y:Rn},ju l s e->l[i]?=some x->l[i+1]?=some y->
  x.1+x.2.1=y.1/\y.1+y.2.1<=e/\1<=x.2.1/\1<=y.2.1/\∀p,ju ((l.set i (x.1,x.2.1+y.2.1,p)).eraseIdx (i+1)) s e
 |r::q::rs,s,e,0,x,y,⟨h1,h2,h3,h4,h5⟩,hx,hy=>by
  obtain rfl:=bg hx;obtain rfl:=bg hy;have:=h5.le;refine⟨by lia,by lia,h2,h4,fun p=>⟨h1,by show 1<=r.2.1+q.2.1;lia,?_⟩⟩;show ju rs (s+(r.2.1+q.2.1)) e;rw[<-rN];exact h5
 |r::rs,s,e,i+1,x,y,⟨h1,h2,h3⟩,hx,hy=>by
  obtain⟨a1,a2,a3,a4,a5⟩:=ju.two (i:=i) h3 hx hy;exact⟨a1,a2,a3,a4,fun p=>⟨h1,h2,a5 p⟩⟩
theorem ju.push:∀ {l:List Rn} {s e n p:Nat},ju l s e->1<=n->ju (l++[(e,n,p)]) s (e+n)
 |[],s,e,n,p,h,hn=>⟨h.symm,hn,by rw[h];rfl⟩
 |r::rs,s,e,n,p,⟨h1,h2,h3⟩,hn=>⟨h1,h2,ju.push h3 hn⟩
theorem ju.pw:∀ {l:List Rn} {s e:Nat} (i p:Nat),ju l s e->ju (l.modify i fun r=>(r.1,r.2.1,p)) s e
 |[],s,e,i,p,h=>by cases i <;> exact h
 |r::rs,s,e,0,p,⟨h1,h2,h3⟩=>⟨h1,h2,h3⟩
 |r::rs,s,e,i+1,p,⟨h1,h2,h3⟩=>⟨h1,h2,ju.pw i p h3⟩
theorem KR{M:Model}{A:Around}{E:Value->Shared->Prop}{s:Shared}{σ:Type}{x:σ}{Q:PUnit->σ->Prop}{st:σ}(h:Q ⟨⟩ x):wpS M A E s (set x:StateT σ Sem PUnit) Q st:=by
 unfold wpS;rw[StateT.run_set];exact wpAny_pure ⟨rfl,h⟩
theorem yk(i:Nat):mergeAt' i=(do
 let s <- get
 let (some (sa,na,Tc),some (sb,nb,_)):=((pendingOf s)[i]?,(pendingOf s)[i+1]?)|unsupported "internal:list.sort.pending"
 set (setPending s (((pendingOf s).setIfInBounds i (sa,na+nb,Tc)).eraseIdxIfInBounds (i+1)))
 let some k <- iR false (<-elem' (arrOf s) sb) (arrOf s) sa na 0|return false
 let (sa,na):=(sa+k,na-k)
 if na==0 then return true
 let some nb <- iR true (<-elem' (arrOf s) (sa+na-1)) (arrOf s) sb nb (nb-1)|return false
 if nb==0 then return true
 let x:=(arrOf s).extract sa sb
 let y:=(arrOf s).extract sb (sb+nb)
 let merged <- if na<=nb then sS x y else sU x y
 modify fun s=>setArr s (merged.toList.zipIdx.foldl (fun a (p,j)=>a.setIfInBounds (sa+j) p) (arrOf s))
 return (failedOf (<-get)).isNone):=rfl
theorem sY{sa:Nat}:∀ (l:List Keyed) (k:Nat) (arr:Array Keyed),sa+k+l.length<=arr.size->
  ((l.zipIdx k).foldl (fun (a:Array Keyed) (x:Keyed×Nat)=>a.setIfInBounds (sa+x.2) x.1) arr).toList=arr.toList.take (sa+k)++l++arr.toList.drop (sa+k+l.length)
 |[],k,arr,_=>by simp
 |x::l,k,arr,h=>by
  rw[cQ] at h;have hs:sa+k<arr.toList.length:=by rw[eJ];lia
  rw[rG,iJ,sY l (k+1) _ (by rw[Array.size_setIfInBounds];lia),Fq];dsimp only;have e1:(arr.toList.set (sa+k) x).take (sa+(k+1))=arr.toList.take (sa+k)++[x]:=by
   rw[<-rN,iH,rh hs,List.take_set_of_le (aX _)];rfl
  have e2:(arr.toList.set (sa+k) x).drop (sa+(k+1)+l.length)=arr.toList.drop (sa+k+(x::l).length):=by
   rw[List.drop_set_of_lt (by lia),cQ];congr 1;lia
  rw[e1,e2,dE,dE,dE];rfl
section
variable {prog:Program} {w:World} {A:Around} {E:Value->Shared->Prop} {s:Shared} {κ:SortKind} {a₀:Array Keyed}
def SR(κ:SortKind)(a₀:Array Keyed)(lo:Nat)(st:SortSt):Prop:=∃pd,SQ κ a₀ pd st/\ju pd.toList 0 lo/\lo<=a₀.size
theorem kZ{st:SortSt}{i lo:Nat}{Q:Bool->SortSt->Prop}(hC:yb prog w A s κ a₀)(hB:SR κ a₀ lo st)(hi:i+1<(pendingOf st).size)(h:∀bf,SR κ a₀ lo bf->Q true bf):wpS (model prog w) A E s (mergeAt' i) Q st:=by
 obtain⟨pd,hq,hr,Wk⟩:=hB;rw[hq.pend] at hi;rw[yk];refine aw (io ?_);have e1:pd[i]?=some pd[i]:=dP pd i (by lia);have e2:pd[i+1]?=some pd[i+1]:=dP pd (i+1) hi;obtain⟨a1,a2,a3,a4,a5⟩:=hr.two (i:=i) (x:=pd[i]) (y:=pd[i+1]) (by simpa using e1) (by simpa using e2);rw[hq.pend,e1,e2];revert a1 a2 a3 a4 a5;generalize pd[i]=x;generalize pd[i+1]=y;obtain⟨sa,na,pw⟩:=x;obtain⟨sb,nb,pw2⟩:=y;intro a1 a2 a3 a4 a5;dsimp only at a1 a2 a3 a4 a5 |-;obtain⟨KS,Td⟩:∃KS,KS=(pd.setIfInBounds i (sa,na+nb,pw)).eraseIdxIfInBounds (i+1):=⟨_,rfl⟩
 have Fa:ju KS.toList 0 lo:=by
  rw[Td,Array.toList_eraseIdxIfInBounds,Fq];exact a5 pw
 refine aw (KR ?_);rw[<-Td];have M1:SM κ (arrOf st) KS (setPending st KS):=⟨rfl,hq.kind,hq.failed,rfl⟩
 have hsz:=hq.size;have pK:∀x∈(arrOf st).toList,x∈a₀.toList:=fun x hx=>(nC.mp hq.perm).mem_iff.mp hx;have cH:∀bf,SM κ (arrOf st) KS bf->SR κ a₀ lo bf:=fun bf m=>⟨KS,⟨by rw[m.arr];exact hq.perm,m.kind,m.failed,m.pend⟩,Fa,Wk⟩
 refine aw (bv (dP (arrOf st) sb (by lia)) ?_);refine aw (fX hC M1.kind (pK _ (by simp)) pK (by lia) (by lia) fun k hk=>?_);dsimp only;by_cases f1:(na-k==0)=true
 .rw[ak f1];exact aO (h _ (cH _ M1))
 rw[aq f1];have g1:¬ (na-k=0):=by simpa using f1
 refine aw (bv (dP (arrOf st) (sa+k+(na-k)-1) (by lia)) ?_);refine aw (fX hC M1.kind (pK _ (by simp)) pK (by lia) (by lia) fun k2 hk2=>?_);dsimp only;by_cases f2:(k2==0)=true
 .rw[ak f2];exact aO (h _ (cH _ M1))
 rw[aq f2];have g2:¬ (k2=0):=by simpa using f2
 have hx:∀x∈((arrOf st).extract (sa+k) sb).toList,x∈a₀.toList:=fun x hx=>pK x (by rw[eG] at hx;exact vG (mf hx));have hy:∀x∈((arrOf st).extract sb (sb+k2)).toList,x∈a₀.toList:=fun x hx=>pK x (by rw[eG] at hx;exact vG (mf hx));have sx:((arrOf st).extract (sa+k) sb).size=sb-(sa+k):=by rw[Array.size_extract];lia
 have sy:((arrOf st).extract sb (sb+k2)).size=k2:=by rw[Array.size_extract];lia
 have last:∀ (out:Array Keyed) (bf:SortSt),out.Perm ((arrOf st).extract (sa+k) sb++(arrOf st).extract sb (sb+k2))->SM κ (arrOf st) KS bf->wpS (model prog w) A E s (do
   modify fun s=>setArr s (out.toList.zipIdx.foldl (fun a (p,j)=>a.setIfInBounds (sa+k+j) p) (arrOf s))
   return (failedOf (<-get)).isNone) Q bf:=by
  intro out bf hp m;refine aw (gw ?_);refine aw (io (aO ?_));have JP:out.toList.length=sb-(sa+k)+k2:=by
   rw[eJ,hp.size_eq,Array.size_append,sx,sy]
  have wl:=sY (sa:=sa+k) out.toList 0 (arrOf bf) (by rw[m.arr,JP];lia);have pm:(out.toList.zipIdx.foldl (fun a (p,j)=>a.setIfInBounds (sa+k+j) p) (arrOf bf)).Perm (arrOf st):=by
   rw[nC];refine(vU wl).trans ?_;rw[m.arr,JP,Nat.add_zero];have Gs:=nC.mp hp;rw[eY,eG,eG] at Gs;refine((Gs.append_left _).append_right _).trans ?_;have e1:(arrOf st).toList.drop (sa+k)=((arrOf st).toList.drop (sa+k)).take (sb-(sa+k))++(arrOf st).toList.drop sb:=oa (by lia);have e2:(arrOf st).toList.drop sb=((arrOf st).toList.drop sb).take (sb+k2-sb)++(arrOf st).toList.drop (sb+k2):=oa (by lia);have e3:sa+k+(sb-(sa+k)+k2)=sb+k2:=by lia
   rw[e3];refine vU ?_;conv=>rhs;rw[<-oE (sa+k) (arrOf st).toList,e1,e2]
   simp only[dE]
  have hf:(failedOf bf).isNone=true:=by rw[m.failed];rfl
  show Q (failedOf bf).isNone _;rw[hf];exact h _ ⟨KS,⟨pm.trans hq.perm,m.kind,m.failed,m.pend⟩,Fa,Wk⟩
 by_cases f3:na-k<=k2
 .rw[ak f3];exact aw (yf hC M1 hx hy (by lia) (by lia) fun out bf hp m=>last out bf hp m)
 .rw[aq f3];exact aw (yh hC M1 hx hy (by lia) (by lia) fun out bf hp m=>last out bf hp m)
theorem ym{c:Prop}[Decidable c]{x:Nat}:(if c then x-1 else x)<=x:=by split <;> lia
theorem SR.pw{lo:Nat}{st:SortSt}(h:SR κ a₀ lo st)(i p:Nat):SR κ a₀ lo (setPending st ((pendingOf st).modify i fun r=>(r.1,r.2.1,p))):=by
 obtain⟨pd,hq,hr,hl⟩:=h;refine⟨_,⟨hq.perm,hq.kind,hq.failed,rfl⟩,?_,hl⟩;show ju ((pendingOf st).modify i fun r=>(r.1,r.2.1,p)).toList 0 lo;rw[hq.pend,Array.toList_modify];exact hr.pw i p
theorem SR.push{lo n:Nat}{st:SortSt}(h:SR κ a₀ lo st)(h1:1<=n)(hn:lo+n<=a₀.size):SR κ a₀ (lo+n) (setPending st ((pendingOf st).push (lo,n,0))):=by
 obtain⟨pd,hq,hr,hl⟩:=h;refine⟨_,⟨hq.perm,hq.kind,hq.failed,rfl⟩,?_,hn⟩;show ju ((pendingOf st).push (lo,n,0)).toList 0 (lo+n);rw[hq.pend,ky];exact hr.push h1
theorem Ef{st:SortSt}{Q:Unit->SortSt->Prop}(hC:yb prog w A s κ a₀)(hp:(arrOf st).Perm a₀)(hk:kindOf st=κ)(hf:failedOf st=none)(hpd:pendingOf st=#[])(h:∀bf,(arrOf bf).Perm a₀->failedOf bf=none->Q () bf):wpS (model prog w) A E s sortRuns' Q st:=by
 have h0:SR κ a₀ 0 st:=⟨#[],⟨hp,hk,hf,hpd⟩,rfl,cr _⟩
 have hsz:(arrOf st).size=a₀.size:=hp.size_eq;rw[sortRuns'_eq];refine aw (io ?_);dsimp only;rw[hsz];refine aw (d0 (fK (I:=fun _ c bf=>∃lo,c=(none,lo)/\SR κ a₀ lo bf) (Q:=fun c bf=>∃lo,c=(none,lo)/\SR κ a₀ lo bf) ?_ (fun c bf hh=>hh) ⟨0,rfl,h0⟩) ?_)
 .rintro i c JY _ _ ⟨lo,rfl,hR⟩;dsimp only;by_cases e1:lo>=a₀.size
  .rw[ak e1];exact aO ⟨lo,rfl,hR⟩
  rw[aq e1];have Wk:lo<a₀.size:=by lia
  obtain⟨pd,hq,hr,hl⟩:=hR;refine aw (Ee hC (by lia) (by lia) hq fun n ow Wn n1 n2=>?_);dsimp only;by_cases hm:n<minRun' a₀.size a₀.size 0
  .rw[ak hm];refine aw (mz (wpAny_rule ⟨rfl,?_⟩));refine aw (KM hC (by lia) Wn fun xv hq3=>?_);simp only[rO,mj,i8];have JQ:SR κ a₀ lo xv:=⟨pd,hq3,hr,hl⟩
   refine aw (io ?_);cases hb:(pendingOf xv).back? with
   |none=>
    dsimp only;exact aw (gw (aO ⟨_,rfl,JQ.push (by lia) (by lia)⟩))
   |some r=>
    obtain⟨s1,n1',pw1⟩:=r;dsimp only;refine aw (d0 (fK (I:=fun _ c bf=>c=(none,())/\SR κ a₀ lo bf) (Q:=fun c bf=>c=(none,())/\SR κ a₀ lo bf) ?_ (fun c bf hh=>hh) ⟨rfl,JQ⟩) ?_)
    .rintro x c uq _ _ ⟨rfl,yn⟩;refine aw (io ?_);by_cases hs:(pendingOf uq).size > 1
     .rw[ak hs,dP (pendingOf uq) ((pendingOf uq).size-2) (by lia)];generalize (pendingOf uq)[(pendingOf uq).size-2]=r4;obtain⟨_,_,Tf⟩:=r4;dsimp only;split
      .exact aO ⟨rfl,yn⟩
      .refine aw (kZ hC yn (by lia) fun um Tg=>?_);simp only[rO,mj,i8];exact aO ⟨rfl,Tg⟩
     .rw[aq hs];exact aO ⟨rfl,yn⟩
    .rintro c uq ⟨rfl,yn⟩;dsimp only;exact aw (gw (aw (gw (aO ⟨_,rfl,(yn.pw _ _).push (by lia) (by lia)⟩))))
  .rw[aq hm];have JQ:SR κ a₀ lo ow:=⟨pd,Wn,hr,hl⟩
   refine aw (io ?_);cases hb:(pendingOf ow).back? with
   |none=>
    dsimp only;exact aw (gw (aO ⟨_,rfl,JQ.push (by lia) (by lia)⟩))
   |some r=>
    obtain⟨s1,n1',pw1⟩:=r;dsimp only;refine aw (d0 (fK (I:=fun _ c bf=>c=(none,())/\SR κ a₀ lo bf) (Q:=fun c bf=>c=(none,())/\SR κ a₀ lo bf) ?_ (fun c bf hh=>hh) ⟨rfl,JQ⟩) ?_)
    .rintro x c uq _ _ ⟨rfl,yn⟩;refine aw (io ?_);by_cases hs:(pendingOf uq).size > 1
     .rw[ak hs,dP (pendingOf uq) ((pendingOf uq).size-2) (by lia)];generalize (pendingOf uq)[(pendingOf uq).size-2]=r4;obtain⟨_,_,Tf⟩:=r4;dsimp only;split
      .exact aO ⟨rfl,yn⟩
      .refine aw (kZ hC yn (by lia) fun um Tg=>?_);simp only[rO,mj,i8];exact aO ⟨rfl,Tg⟩
     .rw[aq hs];exact aO ⟨rfl,yn⟩
    .rintro c uq ⟨rfl,yn⟩;dsimp only;exact aw (gw (aw (gw (aO ⟨_,rfl,(yn.pw _ _).push (by lia) (by lia)⟩))))
 .rintro c JY ⟨lo,rfl,hR⟩;dsimp only;refine aw (d0 (fK (I:=fun _ c bf=>c=(none,())/\SR κ a₀ lo bf) (Q:=fun c bf=>c=(none,())/\SR κ a₀ lo bf) ?_ (fun c bf hh=>hh) ⟨rfl,hR⟩) ?_)
  .rintro x c uq _ _ ⟨rfl,yn⟩;refine aw (io ?_);by_cases hs:(pendingOf uq).size<=1
   .rw[ak hs];exact aO ⟨rfl,yn⟩
   rw[aq hs];refine aw (kZ hC yn ?_ fun um Tg=>?_)
   .exact eZ (zO ym) (show (pendingOf uq).size-2+1<(pendingOf uq).size by lia)
   .simp only[rO,mj,i8];exact aO ⟨rfl,Tg⟩
  .rintro c uq ⟨rfl,pd,hq,_⟩;exact aO (h _ hq.perm hq.failed)
end
end PyProof.Rows
namespace L2
open PySem PySem.Spec PyProof.Rows PySem.W
def jQ(h:Heap)(vs:List Value):Prop:=∀v∈vs,∃a o n x t y u,v=Value.ref a/\h.get? a=some o/\o.cls=.type "tuple"/\o.data=.seq #[.int x t,.int y u] n
theorem jQ.mE{h:Heap}:∀ {vs:List Value},jQ h vs->∃fs,KatTups h vs fs/\fs.length=vs.length/\∀v∈fs,∃n t,v=Value.int n t
 |[],_=>⟨[],trivial,rfl,fun v hv=>nomatch hv⟩
 |v::vs,hp=>by
  obtain⟨fs,k1,k2,k3⟩:=jQ.mE (vs:=vs) fun b hb=>hp b (bU _ hb);obtain⟨a,o,n,x,t,y,u,rfl,e,c,d⟩:=hp v bV;refine⟨.int x t::fs,KatTups.cons e c d rfl k1,by simp[k2],fun v hv=>?_⟩;rcases aV.mp hv with z|z
  .exact⟨x,t,z⟩
  .exact k3 v z
section
variable {prog:Program} {w:World} {A:Around} {E:Value->Shared->Prop} {s:Shared}
theorem Eg{vs:List Value}(hp:jQ s.heap vs):yb prog w A s (tuples' true) (vs.toArray.zip vs.toArray):=by
 have mem:∀x∈(vs.toArray.zip vs.toArray).toList,x.1∈vs:=by
  intro x hx;rw[Array.toList_zip] at hx;exact(rJ hx).1
 intro x y hx hy Q E' q;obtain⟨a,o,n,x1,t1,x2,t2,e1,eo,_,ed⟩:=hp x.1 (mem x hx);obtain⟨b,o',n',y1,u1,y2,u2,e2,eo',_,ed'⟩:=hp y.1 (mem y hy);rw[e1,e2];refine kat_lt eo ed eo' ed' (kat_cons (Aa ?_));by_cases h1:x1=y1
 .rw[et.mpr h1];refine kat_yes (kat_cons (Aa ?_));by_cases h2:x2=y2
  .rw[et.mpr h2];exact kat_yes (kat_nil (q _))
  .rw[mh.mpr h2];exact kat_no (kat_one _ _ (lt_int (q _)))
 .rw[mh.mpr h1];exact kat_no (oneLt_int (q _))
theorem KU{vs:List Value}:((vs.toArray.zip vs.toArray).map (·.2)).toList=vs:=by
 rw[vR,Array.toList_zip];show (vs.zip vs).map (·.2)=vs;rw[<-List.unzip_snd,List.unzip_zip_right (aX _)]
theorem qv{a:Addr}{vs:List Value}{n:Nat}{P:PySem.Fin->Shared->Prop}(ho:s.heap.get? a=some (seqObj "list" vs.toArray n))(hp:jQ s.heap vs)(hz:vs.length<=4096)(h:∀ (out:Array Value),out.toList.Perm vs->P (.done (.ret .none)) { s with heap:=sortedHeap s.heap a vs out }):
  wpAny (model prog w) A (Builtin.«list.sort» ⟨[.ref a],[]⟩) P E s:=by
 rw[list_sort_plain];have ha:a<s.heap.objs.size:=aL ho;have Rh:vs.toArray.size<=sizeLine:=by rw[c_,kG];lia
 refine ai (listItems_at ho rfl ?_);refine ai (listUpdate_at ho rfl ?_ Rh (cr _));obtain⟨e1,Nd⟩:∃e1,(s.heap.update a (Obj.mapSeq fun _=>#[])).get? a=some (seqObj "list" #[] e1):=⟨_,get?_update_seq ho (fun _=>#[])⟩
 refine ai (seqEpoch_at Nd rfl ?_);refine ai (wpAny_newTuple ?_ (by show vs.length<=_;rw[kG];lia));refine ai (wpAny_newList ?_ (cr _));refine gs ?_;have Ro:(((s.heap.update a (Obj.mapSeq fun _=>#[])).push (seqObj "tuple" vs.toArray 0)).push (seqObj "list" #[] 0)).get? a=some (seqObj "list" #[] e1):=by
  rw[j6 _ _ _ (by rw[kH,iY];exact aY (dN ha)),j6 _ _ _ (by rw[iY];exact aY ha)];exact Nd
 have hp6:jQ (((s.heap.update a (Obj.mapSeq fun _=>#[])).push (seqObj "tuple" vs.toArray 0)).push (seqObj "list" #[] 0)) vs:=by
  intro v hv;obtain⟨b,o,n,x,t,y,u,ev,e,c,d⟩:=hp v hv;have hb:b<s.heap.objs.size:=aL e;have lR:b≠a:=by
   rintro rfl;rw[ho] at e;cases e;exact absurd (Value.type.inj c) (by decide)
  refine⟨b,o,n,x,t,y,u,ev,?_,c,d⟩;rw[j6 _ _ _ (by rw[kH,iY];exact aY (dN hb)),j6 _ _ _ (by rw[iY];exact aY hb),rB _ _ _ _ lR];exact e
 show wpAny (model prog w) A _ P E { s with heap:=((s.heap.update a (Obj.mapSeq fun _=>#[])).push (seqObj "tuple" vs.toArray 0)).push (seqObj "list" #[] 0) };dsimp only;have cH:∀bf:SortSt,(arrOf bf).Perm (vs.toArray.zip vs.toArray)->P (.done (.ret .none)) { s with heap:=sortedHeap s.heap a vs ((arrOf bf).map (·.2)) }:=by
  intro bf Wx;refine h _ ?_;have:=(nC.mp Wx).map (·.2);rw[<-vR,<-vR,KU] at this;exact this
 have zsz:(vs.toArray.zip vs.toArray).size=vs.length:=by simp
 by_cases h2:vs.toArray.size<2
 .rw[ak h2,ak h2];refine ai (wpAny_pure ?_);rw[StateT.run_pure];refine ai (wpAny_pure ?_);dsimp only;refine ai (seqEpoch_at Ro rfl ?_);refine ai (listUpdate_at Ro rfl ?_ (cr _) (by show ((vs.toArray.zip vs.toArray).map (·.2)).size<=_;rw[iZ,zsz,kG];lia));simp only[bne_self_eq_false,mj,i8];exact wpAny_pure (cH (SortSt.mk' general' (vs.toArray.zip vs.toArray) #[] 7 none) (Array.Perm.refl _))
 .rw[aq h2,aq h2];have cY:2<=vs.length:=by rw[c_] at h2;lia
  obtain⟨fs,k1,k2,k3⟩:=hp6.mE;refine ai (kat_kind (T:=.type "int") k1 (by lia) (fun v hv=>?_) rfl ?_)
  .obtain⟨m,t,rfl⟩:=k3 v hv;exact .now
  refine ai (gv (Ef (a₀:=vs.toArray.zip vs.toArray) (κ:=tuples' true) (st:=SortSt.mk' (tuples' true) (vs.toArray.zip vs.toArray) #[] 7 none)
   (Q:=fun _ bf=>(arrOf bf).Perm (vs.toArray.zip vs.toArray)/\failedOf bf=none) (Eg hp6) (Array.Perm.refl _) rfl rfl rfl fun bf b1 b2=>⟨b1,b2⟩) ?_ fun _ _ e=>e)
  rintro⟨⟨⟩,bf⟩ s' ⟨rfl,Wx,hf⟩;dsimp only;refine ai (seqEpoch_at Ro rfl ?_);refine ai (listUpdate_at Ro rfl ?_ (cr _) (by refine bj (oW ((iZ ..).trans (Wx.size_eq.trans zsz))) ?_;rw[kG];lia));rw[hf];simp only[bne_self_eq_false,mj,i8];exact wpAny_pure (cH bf Wx)
theorem wE{l:Addr}{vs:List Value}{Q:Value->Shared->Prop}(hl:s.heap.IsList l vs.toArray)(hp:jQ s.heap vs)(hz:vs.length<=4096)(h:∀ (out:Array Value),out.toList.Perm vs->Q (.ref (s.heap.objs.size+1)) { s with heap:=sortedAll s.heap vs out }):
  wpAny (model prog w) A (call (.builtin "sorted") [.ref l]) Q E s:=by
 have Rh:vs.length<=sizeLine:=by rw[kG];lia
 refine Calls.call_function_entry kind_sorted plain_sorted entry_sorted (args_sorted1 _) ?_;unfold Builtin.«sorted»;refine ai (m:=checkCount "sorted" 1 1 _) (wpAny_pure ?_);refine ai (collect_list hl ?_ Rh);refine ai (wpAny_newList ?_ Rh);have hsz:((s.heap.push (seqObj "list" #[] 0)).update s.heap.objs.size (Obj.mapSeq (·++vs.toArray))).objs.size=s.heap.objs.size+1:=by
  rw[iY,kH]
 have E6:(((s.heap.push (seqObj "list" #[] 0)).update s.heap.objs.size (Obj.mapSeq (·++vs.toArray))).push (seqObj "list" vs.toArray 0)).get? (s.heap.objs.size+1)=some (seqObj "list" vs.toArray 0):=by
  rw[<-hsz];exact bz _ rfl
 have X6:jQ (((s.heap.push (seqObj "list" #[] 0)).update s.heap.objs.size (Obj.mapSeq (·++vs.toArray))).push (seqObj "list" vs.toArray 0)) vs:=by
  intro v hv;obtain⟨b,o,n,x,t,y,u,ev,e,c,d⟩:=hp v hv;have hb:b<s.heap.objs.size:=aL e;refine⟨b,o,n,x,t,y,u,ev,?_,c,d⟩;rw[j6 _ _ _ (by rw[hsz];exact aY (dN hb)),rB _ _ _ _ (aY hb),j6 _ _ _ (aY hb)];exact e
 show wpAny _ _ _ _ _ { s with heap:=((s.heap.push (seqObj "list" #[] 0)).update s.heap.objs.size (Obj.mapSeq (·++vs.toArray))).push (seqObj "list" vs.toArray 0) };rw[hsz];refine ai (gs (gn slot_list_sort ⟨_,E6,rfl⟩ entry_list_sort (qv E6 X6 hz fun out a1=>⟨_,rfl,?_⟩) (args_list_sort _)));exact wpAny_pure ⟨_,rfl,h out a1⟩
end
theorem og:∀ {as:List Addr} {its:List Value},aZ (as.map V.ref) its->its=as.map Value.ref
 |[],_,r=>by cases r;rfl
 |a::as,_,r=>by
  cases r with
  |cons r rr=>
   obtain rfl:=(show _=Value.ref a from r)
   rw[og rr];rfl
theorem vd:∀ {as:List Addr},aZ (as.map V.ref) (as.map Value.ref)
 |[]=>.nil
 |_::_=>.cons rfl vd
theorem Eh{as:List Addr}{vs:List Value}(h:vs.Perm (as.map Value.ref)):∃y0:List Addr,vs=y0.map Value.ref/\y0.Perm as:=by
 let un:Value->Addr:=fun v=>match v with|.ref a=>a|_=>0
 refine⟨vs.map un,?_,?_⟩
 .rw[fj];have:∀v∈vs,(Value.ref ∘ un) v=v:=by
   intro v hv;obtain⟨a,_,rfl⟩:=a9.mp (h.mem_iff.mp hv);rfl
  conv=>lhs;rw[<-jG vs]
  exact kn fun v hv=>(this v hv).symm
 .have:=h.map un;rw[fj] at this;have e:as.map (un ∘ Value.ref)=as:=by
   conv=>rhs;rw[<-jG as]
   exact kn fun a _=>rfl
  rw[e] at this;exact this
def G5(K:PySem.W.Frag):List V->Hp->VK->Prop:=fun xs H Q=>∃ (l:Addr) (as:List Addr),xs=[.ref l]/\bo K H l (as.map V.ref)/\(∀a∈as,∃x y:Int,bh K H a [.int x,.int y])/\as.length<=4096/\
 ∀ (D:Addr) (y0:List Addr),H D=none->y0.Perm as->Q (.ref D) (upd H D (.lst (y0.map V.ref)))
theorem AU{X:Cx}:fm X (.builtin "sorted") (G5 X.K):=by
 intro ae s σ H xs us Q I r h;obtain⟨l,as,rfl,hl,hp,hz,q⟩:=h;obtain⟨u1,rfl,r1⟩:=r.one;obtain rfl:u1=Value.ref l:=r1;obtain⟨its,rv,pl,_⟩:=I.list hl;have OI:=og rv;subst OI;have hpv:jQ s.heap (as.map Value.ref):=by
  intro v hv;obtain⟨a,ha,rfl⟩:=a9.mp hv;obtain⟨x,y,Nf⟩:=hp a ha;obtain⟨its,r,⟨o,e,c,n,d⟩,_⟩:=I.tuple Nf;obtain⟨u1,u2,rfl,r1,r2⟩:=r.two;obtain⟨t,rfl⟩:=r1;obtain⟨t',rfl⟩:=r2;exact⟨a,o,n,x,t,y,t',rfl,e,c,d⟩
 refine wE pl.isList hpv (by rw[aP];exact hz) fun out sZ=>?_;obtain⟨y0,eo,pa⟩:=Eh sZ;have DZ:out=(y0.map Value.ref).toArray:=by rw[<-eo]
 subst DZ;have Yd:((s.heap.push (seqObj "list" #[] 0)).update s.heap.objs.size (Obj.mapSeq (·++(as.map Value.ref).toArray))).objs.size=s.heap.objs.size+1:=by rw[iY,kH]
 have k1:∀b u,s.heap.get? b=some u->(((s.heap.push (seqObj "list" #[] 0)).update s.heap.objs.size (Obj.mapSeq (·++(as.map Value.ref).toArray))).push (seqObj "list" (as.map Value.ref).toArray 0)).get? b=some u:=fun b u e=>by
  have hb:b<s.heap.objs.size:=aL e;rw[j6 _ _ _ (by rw[Yd];exact aY (dN hb)),rB _ _ _ _ (aY hb),j6 _ _ _ (aY hb)];exact e
 have E6:(((s.heap.push (seqObj "list" #[] 0)).update s.heap.objs.size (Obj.mapSeq (·++(as.map Value.ref).toArray))).push (seqObj "list" (as.map Value.ref).toArray 0)).get? (s.heap.objs.size+1)=some (seqObj "list" (as.map Value.ref).toArray 0):=by
  rw[<-Yd];exact bz _ rfl
 have Rp:(((s.heap.push (seqObj "list" #[] 0)).update s.heap.objs.size (Obj.mapSeq (·++(as.map Value.ref).toArray))).push (seqObj "list" (as.map Value.ref).toArray 0)).objs.size=s.heap.objs.size+2:=by rw[kH,Yd]
 show EP X ae σ Q (.ref (s.heap.objs.size+1)) { s with heap:=sortedHeap (((s.heap.push (seqObj "list" #[] 0)).update s.heap.objs.size (Obj.mapSeq (·++(as.map Value.ref).toArray))).push (seqObj "list" (as.map Value.ref).toArray 0)) (s.heap.objs.size+1) (as.map Value.ref) (y0.map Value.ref).toArray };revert k1 E6 Rp;generalize ((s.heap.push (seqObj "list" #[] 0)).update s.heap.objs.size (Obj.mapSeq (·++(as.map Value.ref).toArray))).push (seqObj "list" (as.map Value.ref).toArray 0)=h1;intro k1 E6 Rp;obtain⟨e1,Nd⟩:∃e1,(h1.update (s.heap.objs.size+1) (Obj.mapSeq fun _=>(#[]:Array Value))).get? (s.heap.objs.size+1)=some (seqObj "list" #[] e1):=⟨_,get?_update_seq E6 (fun _=>#[])⟩
 have Ro:(((h1.update (s.heap.objs.size+1) (Obj.mapSeq fun _=>(#[]:Array Value))).push (seqObj "tuple" (as.map Value.ref).toArray 0)).push (seqObj "list" #[] 0)).get? (s.heap.objs.size+1)=some (seqObj "list" #[] e1):=by
  rw[j6 _ _ _ (by rw[kH,iY,Rp];exact aY (dN (kq _))),j6 _ _ _ (by rw[iY,Rp];exact aY (kq _))];exact Nd
 obtain⟨e2,ho7⟩:∃e2,(sortedHeap h1 (s.heap.objs.size+1) (as.map Value.ref) (y0.map Value.ref).toArray).get? (s.heap.objs.size+1)=some (seqObj "list" (y0.map Value.ref).toArray e2):=⟨_,get?_update_seq Ro (fun _=>(y0.map Value.ref).toArray)⟩
 have keep:∀b u,s.heap.get? b=some u->(sortedHeap h1 (s.heap.objs.size+1) (as.map Value.ref) (y0.map Value.ref).toArray).get? b=some u:=fun b u e=>by
  have hb:b<s.heap.objs.size:=aL e;unfold sortedHeap;rw[rB _ _ _ _ (aY (dN hb)),j6 _ _ _ (by rw[kH,iY,Rp];exact aY (dN (dN (dN hb)))),j6 _ _ _ (by rw[iY,Rp];exact aY (dN (dN hb))),rB _ _ _ _ (aY (dN hb))];exact k1 b u e
 have Ng:s.heap.get? (s.heap.objs.size+1)=none:=rA (by lia);refine⟨.ref (s.heap.objs.size+1),_,I.xQ (t':=s.toks) (o:=.lst (y0.map V.ref)) keep Ng ⟨?_,y0.map Value.ref,e2,vd,ho7⟩,rfl,q _ y0 (I.cf.su Ng) pa⟩;rw[aP,pa.length_eq];exact bj hz (by decide)
open PySem PySem.Spec PyProof.Rows
theorem aR(sb:Heap.SameBut c h h')(n:b≠c)(e:h.get? b=some o):h'.get? b=some o:=(sb.2 b n).trans e
theorem fw(r:h.IsTupleIter it t k)(sb:Heap.SameBut c h h')(n:it≠c):h'.IsTupleIter it t k:=r.at fun o e=>aR sb n e
theorem s_(r:h.IsTuple t xs)(sb:Heap.SameBut c h h')(n:t≠c):h'.IsTuple t xs:=let ⟨o,e,z⟩:=r;⟨o,aR sb n e,z⟩
section
variable {prog:Program} {w:World} {A:Around} {E:Value->Shared->Prop} {s:Shared}
theorem Ei{z ti tq i1 i2 t1 t2:Addr}{k:Nat}{xs ys:Array Value}{x y a b:Value}{Q:Value->Shared->Prop}(dj:ZipApart z ti tq i1 i2 t1 t2)(gz:IsZip s.heap z ti tq .none)(gi:IsPair s.heap ti (.ref i1) (.ref i2))(gq:IsPair s.heap tq a b)(r1:s.heap.IsTupleIter i1 t1 k)(r2:s.heap.IsTupleIter i2 t2 k)(g1:s.heap.IsTuple t1 xs)(g2:s.heap.IsTuple t2 ys)(ex:xs[k]?=some x)(ey:ys[k]?=some y)(q:∀h',IsZip h' z ti tq (rawInt s.heap.objs.size)->IsPair h' tq x y->h'.IsTupleIter i1 t1 (k+1)->h'.IsTupleIter i2 t2 (k+1)->IsPair h' s.heap.objs.size x y->(∀c o,c≠z->c≠tq->c≠i1->c≠i2->s.heap.get? c=some o->h'.get? c=some o)->Q (.ref s.heap.objs.size) { s with heap:=h' }):
  wpAny (model prog w) A (Builtin.«zip.__next__» ⟨[.ref z],[]⟩) (fun cH s'=>∃v,cH=.done (.ret v)/\Q v s') E s:=by
 change wpAny _ _ (field (.ref z) 2 >>= _) _ _ _;refine ai (cX gz rfl (x:=.bool false) rfl ?_);change wpAny _ _ (field (.ref z) 3 >>= _) _ _ _;refine ai (cX gz rfl (x:=.ref ti) rfl (ai (fN gi rfl ?_)));change wpAny _ _ (Builtin.SmallTypes.ownedTupleIsFree (.ref z) >>= _) _ _ _;refine ai ?_;unfold Builtin.SmallTypes.ownedTupleIsFree;refine ai (cX gz rfl (x:=.none) rfl (wpAny_pure ?_));simp only[jI];refine ai (wpAny_rule (ai (cX gz rfl (x:=.ref tq) rfl ?_)));refine ai (jj gz (by simp) fun m1 wF jB=>?_);replace wF:IsZip m1 z ti tq .ellipsis:=wF;refine ai ?_;simp only[rG,vS,oN,oQ];refine ai (ai (oX ?_));change wpAny _ _ (Builtin.SmallTypes.nextOf (.ref i1) >>= _) _ _ _;refine ai (jP (fw r1 jB dj.i1z) (s_ g1 jB dj.l1z) ex fun m2 Ye iN=>wpAny_pure ?_);have Th:IsPair m2 tq a b:=aR iN dj.TOi1 (aR jB dj.TOz gq);refine ai (fN Th rfl (ai (vK Th fun m3 OS wG=>?_)));replace OS:IsPair m3 tq x b:=OS;refine ai (wpAny_letGo (wpAny_pure ?_));refine ai (ai (oX ?_));change wpAny _ _ (Builtin.SmallTypes.nextOf (.ref i2) >>= _) _ _ _;refine ai (jP (fw (fw (fw r2 jB dj.i2z) iN dj.i12.symm) wG dj.TOi2.symm) (s_ (s_ (s_ g2 jB dj.l2z) iN dj.l2i1) wG dj.l2TO) ey fun m4 Yf G6=>wpAny_pure ?_);have Ti:IsPair m4 tq x b:=aR G6 dj.TOi2 OS;refine ai (fN Ti rfl (ai (vK Ti fun m5 KW G7=>?_)));replace KW:IsPair m5 tq x y:=KW;refine ai (wpAny_letGo (wpAny_pure (wpAny_pure ?_)));refine ai (fN KW rfl (ai (wpAny_newTuple ?_)));have sz:m5.objs.size=s.heap.objs.size:=by rw[G7.1,G6.1,wG.1,iN.1,jB.1]
 have Tj:IsZip m5 z ti tq .ellipsis:=aR G7 dj.TOz.symm (aR G6 dj.i2z.symm (aR wG dj.TOz.symm (aR iN dj.i1z.symm wF)));have Yg:∀c o,c≠z->c≠tq->c≠i1->c≠i2->s.heap.get? c=some o->m5.get? c=some o:=fun c o c1 c2 c3 c4 e=>
  aR G7 c2 (aR G6 c4 (aR wG c2 (aR iN c3 (aR jB c1 e))))
 have Yh:m5.IsTupleIter i1 t1 (k+1):=fw (fw (fw Ye wG dj.TOi1.symm) G6 dj.i12) G7 dj.TOi1.symm;have Yi:m5.IsTupleIter i2 t2 (k+1):=fw Yf G7 dj.TOi2.symm;have zl:z<m5.objs.size:=aL Tj;change wpAny _ _ (Builtin.SmallTypes.ownedTupleHandOut (.ref z) (.ref m5.objs.size) >>= _) _ _ _;refine ai ?_;unfold Builtin.SmallTypes.ownedTupleHandOut;have Yj:IsZip (m5.push { cls:=.type "tuple",data:=.seq #[x,y] }) z ti tq .ellipsis:=a8 _ Tj;refine ai (jj Yj (by simp) fun m7 OT Tk=>?_);replace OT:IsZip m7 z ti tq (rawInt m5.objs.size):=OT;refine jj OT (by simp) fun m8 KY Tl=>?_;replace KY:IsZip m8 z ti tq (rawInt m5.objs.size):=KY;have up:∀c o,c≠z->m5.get? c=some o->m8.get? c=some o:=fun c o c1 e=>aR Tl c1 (aR Tk c1 (a8 _ e));have Tn:IsPair m8 m5.objs.size x y:=aR Tl (ig zl) (aR Tk (ig zl) (bz _ rfl));rw[sz] at KY Tn;refine wpAny_pure ⟨_,rfl,?_⟩;change Q (.ref m5.objs.size) _;rw[sz];exact q m8 KY (up _ _ dj.TOz KW) (Yh.at fun o e=>up _ o dj.i1z e) (Yi.at fun o e=>up _ o dj.i2z e) Tn fun c o c1 c2 c3 c4 e=>up c o c1 (Yg c o c1 c2 c3 c4 e)
theorem G8(hh:A.handled=none)(dj:ZipApart z ti tq i1 i2 t1 t2)(gz:IsZip s.heap z ti tq .none)(gi:IsPair s.heap ti (.ref i1) (.ref i2))(r1:s.heap.IsTupleIter i1 t1 k)(g1:s.heap.IsTuple t1 xs)(ex:xs[k]?=none)(q:∀h' e,(∀c o,c≠z->c≠i1->s.heap.get? c=some o->h'.get? c=some o)->(∃o,h'.get? e=some o/\o.cls=.type "StopIteration")->E (.ref e) { s with heap:=h' }):
  wpAny (model prog w) A (Builtin.«zip.__next__» ⟨[.ref z],[]⟩) Q E s:=by
 change wpAny _ _ (field (.ref z) 2 >>= _) _ _ _;refine ai (cX gz rfl (x:=.bool false) rfl ?_);change wpAny _ _ (field (.ref z) 3 >>= _) _ _ _;refine ai (cX gz rfl (x:=.ref ti) rfl (ai (fN gi rfl ?_)));change wpAny _ _ (Builtin.SmallTypes.ownedTupleIsFree (.ref z) >>= _) _ _ _;refine ai ?_;unfold Builtin.SmallTypes.ownedTupleIsFree;refine ai (cX gz rfl (x:=.none) rfl (wpAny_pure ?_));simp only[jI];refine ai (wpAny_rule (ai (cX gz rfl (x:=.ref tq) rfl ?_)));refine ai (jj gz (by simp) fun m1 wF jB=>?_);replace wF:IsZip m1 z ti tq .ellipsis:=wF;refine ai ?_;simp only[rG,vS,oN,oQ];refine ai (ai (oX ?_));change wpAny _ _ (Builtin.SmallTypes.nextOf (.ref i1) >>= _) _ _ _;refine ai (lI hh (fw r1 jB dj.i1z) (s_ g1 jB dj.l1z) ex fun m2 e iN he=>?_);obtain⟨oe,OU,Tp⟩:=he;have KZ:IsZip m2 z ti tq .ellipsis:=iN _ _ dj.i1z.symm wF;have Yk:e≠z:=fun y=>by subst y;rw[KZ] at OU;cases OU;simp at Tp
 exact jj KZ (by simp) fun m3 _ wG=>q m3 e (fun c o c1 c3 y=>aR wG c1 (iN _ _ c3 (aR jB c1 y))) ⟨oe,aR wG Yk OU,Tp⟩
theorem AV(dj:ZipApart z ti tq i1 i2 t1 t2)(gz:IsZip s.heap z ti tq .none)(gi:IsPair s.heap ti (.ref i1) (.ref i2))(gq:IsPair s.heap tq a b)(r1:s.heap.IsTupleIter i1 t1 k)(r2:s.heap.IsTupleIter i2 t2 k)(g1:s.heap.IsTuple t1 xs)(g2:s.heap.IsTuple t2 ys)(ex:xs[k]?=some x)(ey:ys[k]?=some y)(q:∀h',IsZip h' z ti tq (rawInt s.heap.objs.size)->IsPair h' tq x y->h'.IsTupleIter i1 t1 (k+1)->h'.IsTupleIter i2 t2 (k+1)->IsPair h' s.heap.objs.size x y->(∀c o,c≠z->c≠tq->c≠i1->c≠i2->s.heap.get? c=some o->h'.get? c=some o)->Q (some (.ref s.heap.objs.size)) { s with heap:=h' }):
  wpAny (model prog w) A (pyNext (.ref z)) Q E s:=by
 have ty:s.TypeIs (.ref z) "zip":=⟨_,gz,rfl⟩
 unfold pyNext;refine ai (jE (j3 (name:=Str.ofString "__next__") ty F.slot_zip_next (gn F.slot_zip_next ty F.entry_zip_next ?_ (F.args_zip_next_1 _))));exact Ei dj gz gi gq r1 r2 g1 g2 ex ey fun h' a1 a2 a3 a4 a5 a6=>wpAny_pure (q h' a1 a2 a3 a4 a5 a6)
theorem AW(hh:A.handled=none)(dj:ZipApart z ti tq i1 i2 t1 t2)(gz:IsZip s.heap z ti tq .none)(gi:IsPair s.heap ti (.ref i1) (.ref i2))(r1:s.heap.IsTupleIter i1 t1 k)(g1:s.heap.IsTuple t1 xs)(ex:xs[k]?=none)(q:∀h',(∀c o,c≠z->c≠i1->s.heap.get? c=some o->h'.get? c=some o)->Q none { s with heap:=h' }):wpAny (model prog w) A (pyNext (.ref z)) Q E s:=by
 have ty:s.TypeIs (.ref z) "zip":=⟨_,gz,rfl⟩
 unfold pyNext;refine ai (jE (j3 (name:=Str.ofString "__next__") ty F.slot_zip_next (gn F.slot_zip_next ty F.entry_zip_next (G8 hh dj gz gi r1 g1 ex fun h' e hk he=>?_) (F.args_zip_next_1 _))));obtain⟨o,ho,hc⟩:=he;exact ai (oP (T:="StopIteration") (b:=true) ⟨o,ho,hc⟩ rQ (wpAny_pure (q _ hk)))
abbrev zT(t:Addr):Obj:={ cls:=.type "tuple_iterator",data:=.fields #[.ref t,.int 0 0] }
abbrev Wy(h:Heap)(t1 t2:Addr):Heap:=((h.push (zT t1)).push (zT t2)).push { cls:=.type "tuple",data:=.seq #[.ref h.objs.size,.ref (h.push (zT t1)).objs.size] }
abbrev Wz(h:Heap)(t1 t2:Addr):Heap:=(Wy h t1 t2).push { cls:=.type "tuple",data:=.seq #[.none,.none] }
abbrev Rq(h:Heap)(t1 t2:Addr):Heap:=(Wz h t1 t2).push { cls:=.type "zip",data:=.fields #[.none,.bool false,.bool false,.ref ((h.push (zT t1)).push (zT t2)).objs.size,.ref (Wy h t1 t2).objs.size] }
theorem G9(t1 t2:Addr)(xs ys:Array Value):
  Meets (Builtin.«zip.__new__» ⟨[.type "zip",.ref t1,.ref t2],[]⟩) (fun _ R s=>s.heap.IsTuple t1 xs/\s.heap.IsTuple t2 ys/\R (.ok (.ret (.ref (Wz s.heap t1 t2).objs.size))) { s with heap:=Rq s.heap t1 t2 }):=
 .of_wp fun prog w A R s h=>by
  obtain⟨hp,g,d,tk,os⟩:=s;obtain⟨g1,g2,h⟩:=h;have Tq:=sub_zip;have gA:Heap.IsTuple (Shared.heap ⟨hp,g,d,tk,os⟩) t1 xs:=g1;have gB:Heap.IsTuple (Shared.heap ⟨hp.push (zT t1),g,d,tk,os⟩) t2 ys:=let ⟨o,e,z⟩:=g2;⟨o,a8 _ e,z⟩
  wp_walk using oJ gA,oJ gB
  exact⟨_,rfl,h⟩
theorem Ej(g1:s.heap.IsTuple t1 xs)(g2:s.heap.IsTuple t2 ys)(q:∀h',IsZip h' (s.heap.objs.size+4) (s.heap.objs.size+2) (s.heap.objs.size+3) .none->IsPair h' (s.heap.objs.size+2) (.ref s.heap.objs.size) (.ref (s.heap.objs.size+1))->IsPair h' (s.heap.objs.size+3) .none .none->
   h'.IsTupleIter s.heap.objs.size t1 0->h'.IsTupleIter (s.heap.objs.size+1) t2 0->(∀c o,s.heap.get? c=some o->h'.get? c=some o)->Q (.ref (s.heap.objs.size+4)) { s with heap:=h' }):
  wpAny (model prog w) A (call (.type "zip") [.ref t1,.ref t2]) Q E s:=by
 refine callType_new F.called_zip (by decide) (F.typeCall_zip_2 _ _) (F.newCall_zip_2 _ _) (fun obj=>F.args_object_init_3 obj _ _) F.entry_zip_new (G9 t1 t2 xs ys) ⟨g1,g2,?_⟩;have n1:(s.heap.push (zT t1)).objs.size=s.heap.objs.size+1:=fh ..;have n2:((s.heap.push (zT t1)).push (zT t2)).objs.size=s.heap.objs.size+2:=by rw[fh,n1]
 have n3:(Wy s.heap t1 t2).objs.size=s.heap.objs.size+3:=by rw[fh,n2]
 have n4:(Wz s.heap t1 t2).objs.size=s.heap.objs.size+4:=by rw[fh,n3]
 have e5:(Rq s.heap t1 t2).get? (Wz s.heap t1 t2).objs.size=some _:=bz _ rfl;have e4:(Rq s.heap t1 t2).get? (Wy s.heap t1 t2).objs.size=some _:=a8 _ (bz _ rfl);have e3:(Rq s.heap t1 t2).get? ((s.heap.push (zT t1)).push (zT t2)).objs.size=some _:=a8 _ (a8 _ (bz _ rfl));have e2:(Rq s.heap t1 t2).get? (s.heap.push (zT t1)).objs.size=some _:=a8 _ (a8 _ (a8 _ (bz _ rfl)));have e1:(Rq s.heap t1 t2).get? s.heap.objs.size=some _:=a8 _ (a8 _ (a8 _ (a8 _ (bz _ rfl))));change _/\_;rw[n2,n3,n4] at e5;rw[n1,n2] at e3;rw[n3] at e4;rw[n1] at e2;rw[n4];exact⟨⟨_,e5,rfl⟩,q _ e5 e3 e4 ⟨_,e1,rfl,rfl⟩ ⟨_,e2,rfl,rfl⟩ fun c o y=>
  a8 _ (a8 _ (a8 _ (a8 _ (a8 _ y))))⟩
end
theorem aG.CG{X:Cx}{ae:List (Addr×Obj)}{σ:St}{H:Hp}{s:Shared}{h':Heap}{t':Nat}{ch:List Addr}(I:aG X ae σ H s)(fe:∀e∈ch,fA X ae H e)(k:∀b o,b∉ch->s.heap.get? b=some o->h'.get? b=some o):aG X ae σ H { s with heap:=h',toks:=t' }:=by
 have MJ:∀b u,H b=some u->b∉ch:=fun b u e z=>by rw[(fe b z).1] at e;cases e
 refine I.step (g':=s.gens) (d':=s.drawn) (ch:=ch) (fun b hb=>?_) (fun b o _ _ hc e _=>k b o hc e) (fun b o _ _ hc e _=>⟨o.slots,k b o hc e⟩) (fun _ _ _ _ n=>n) (fun b o hc e=>⟨o,k b o hc e⟩) (fun _ _ e=>e) (fun _ _ _ e=>e) (fun b ps e=>⟨#[],by rw[e];simp⟩) (fun m hm=>?_) (fun b u e=>?_) I.bare
 .obtain⟨_,f1,_,f3,f4,f5⟩:=fe b hb;exact⟨f3,f1,f4,f5⟩
 .obtain⟨o,es,ep,ho,r⟩:=hm;exact⟨o,es,ep,k _ o (fun z=>(fe _ z).2.1 rfl) ho,r⟩
 .refine(I.cf b u e).nJ (fun c v hc q=>k c v ?_ q) (fun _ q=>q) fun _ _ q=>q;rcases hc with z|z
  .rw[z];exact MJ b u e
  .exact MJ c _ z
theorem aG.CH{X:Cx}{ae:List (Addr×Obj)}{σ:St}{H:Hp}{s:Shared}{h':Heap}{p:Addr}{t':Nat}{ch:List Addr}{xs:List V}{its:List Value}(I:aG X ae σ H s)(fe:∀e∈ch,fA X ae H e)(k:∀b o,b∉ch->s.heap.get? b=some o->h'.get? b=some o)(hp:s.heap.objs.size<=p)(hl:xs.length<=sizeLine)(r:aZ xs its)(ht:h'.get? p=some { cls:=.type "tuple",data:=.seq its.toArray }):aG X ae σ (upd H p (.tup xs)) { s with heap:=h',toks:=t' }:=by
 have hn:=I.cf.fresh hp;have ne:∀b o,s.heap.get? b=some o->b≠p:=fun b o q=>aY (bA (aL q) hp);have MJ:∀b u,H b=some u->b∉ch:=fun b u e z=>by rw[(fe b z).1] at e;cases e
 refine I.step (g':=s.gens) (d':=s.drawn) (ch:=ch) (fun b hb=>?_) (fun b o _ _ hb q _=>k b o hb q) (fun b o _ _ hb q _=>⟨o.slots,k b o hb q⟩) (fun b o hb q n=>by rw[al (ne b o q)];exact n) (fun b o hb q=>⟨o,k b o hb q⟩)
  (fun b ys q=>by rw[al (ap q hn)];exact q) (fun b o u q=>by rw[al (ap q hn)];exact q) (fun b ps q=>⟨#[],by rw[al (ap q hn),q];simp⟩) (fun m hm=>?_) (fun b o q=>?_) I.bare
 .obtain⟨_,f1,_,f3,f4,f5⟩:=fe b hb;exact⟨f3,f1,f4,f5⟩
 .obtain⟨o,es,ep,q,d,r'⟩:=hm;exact⟨o,es,ep,k _ _ (fun z=>(fe _ z).2.1 rfl) q,d,r'⟩
 .by_cases hb:b=p
  .subst hb;rw[ag] at q;cases q;exact⟨hl,its,r,_,ht,rfl,_,rfl,rfl⟩
  .rw[al hb] at q;refine(I.cf b o q).nJ (fun c u hc z=>k c u ?_ z) (fun c z=>by rw[al (ap z hn)];exact z) fun c ys z=>by rw[al (ap z hn)];exact z
   rcases hc with rfl|hc
   .exact MJ _ _ q
   .exact MJ _ _ hc
def Tr(K:PySem.W.Frag)(a b:Addr):It:=
 ⟨fun i H=>∃xs ys x y,bh K H a xs/\bh K H b ys/\xs[i]?=some x/\ys[i]?=some y,fun i H v H'=>∃p x y,v=.ref p/\H p=none/\H'=upd H p (.tup [x,y])/\(∀xs,bh K H a xs->xs[i]?=some x)/\∀ys,bh K H b ys->ys[i]?=some y,fun i H=>∃xs,bh K H a xs/\xs.length<=i,fun _ _=>False⟩
theorem G_{P:Program}{w:World}{K:PySem.W.Frag}{es:List Expr}{x1:Nat}{pos:Pos}(a b z ti tq i1 i2:Addr)(dj:ZipApart z ti tq i1 i2 a b):
  pf P w K (.Tuple es x1 pos) (Tr K a b) [z,ti,tq,i1,i2] z (fun i h=>IsZip h z ti tq .none/\IsPair h ti (.ref i1) (.ref i2)/\(∃u v,IsPair h tq u v)/\h.IsTupleIter i1 a i/\h.IsTupleIter i2 b i) where
 mem:=by simp
 obj:=fun i h st c hc=>by
  obtain⟨gz,gi,⟨u,v,gq⟩,⟨o1,q1,c1,d1⟩,⟨o2,q2,c2,d2⟩⟩:=st;simp only[aV,eH,eI] at hc;rcases hc with rfl|rfl|rfl|rfl|rfl
  .exact⟨_,gz,fun v z=>by have z':Data.fields _=Data.cell v:=z;cases z'⟩
  .exact⟨_,gi,fun v z=>by have z':Data.seq _ _=Data.cell v:=z;cases z'⟩
  .exact⟨_,gq,fun v z=>by have z':Data.seq _ _=Data.cell v:=z;cases z'⟩
  .exact⟨o1,q1,fun v z=>by rw[d1] at z;cases z⟩
  .exact⟨o2,q2,fun v z=>by rw[d2] at z;cases z⟩
 keep:=fun i h h' st k=>by
  obtain⟨gz,gi,⟨u,v,gq⟩,r1,r2⟩:=st;exact⟨k z (by simp) _ gz,k ti (by simp) _ gi,⟨u,v,k tq (by simp) _ gq⟩,r1.at fun o q=>k i1 (by simp) o q,r2.at fun o q=>k i2 (by simp) o q⟩
 item:=by
  intro X hP hw hK i ae s σ H E qk I hf st hg;subst hP hw hK;have hc:X.calm=true:=qk.elim id fun z=>(show False from z).elim;obtain⟨xs,ys,x,y,hx,hy,ex,ey⟩:=hg;obtain⟨us,rx,px,_⟩:=I.tuple hx;obtain⟨vs,ry,py,_⟩:=I.tuple hy;obtain⟨u,hu,ru⟩:=rx.get ex;obtain⟨v,hv,rv⟩:=ry.get ey;obtain⟨gz,gi,⟨u0,v0,gq⟩,r1,r2⟩:=st;refine AV dj gz gi gq r1 r2 (show s.heap.IsTuple a us.toArray from px) (show s.heap.IsTuple b vs.toArray from py) (x:=u) (y:=v) (by simpa using hu) (by simpa using hv) fun h1 wF Yl Ym Yn Yo kp=>?_;refine⟨_,rfl,wpAny_letOwnedTupleGo_zip wF fun h2 KZ iN=>?_⟩;have zl:z<s.heap.objs.size:=aL gz;have nz:s.heap.objs.size≠z:=ig zl;have Tt:∀c o,c∉[z,tq,i1,i2]->s.heap.get? c=some o->h2.get? c=some o:=fun c o hc e=>by
   simp only[aV,eH,eI,gC] at hc;exact aR iN hc.1 (kp c o hc.1 hc.2.1 hc.2.2.1 hc.2.2.2 e)
  have Yp:IsPair h2 ti (.ref i1) (.ref i2):=Tt _ _ (by simp only[aV,eH,eI,gC];exact⟨dj.TIz,dj.TITO,dj.TIi1,dj.TIi2⟩) gi;have fe:∀e∈[z,tq,i1,i2],fA X ae H e:=fun e he=>hf e (by simp only[aV,eH,eI] at he |-;rcases he with h|h|h|h <;> simp[h]);have I2:aG X ae σ (upd H s.heap.objs.size (.tup [x,y])) { s with heap:=h2,toks:=s.toks }:=
   I.CH (its:=[u,v]) fe Tt (aX _) (by show 2<=sizeLine;decide) (.cons ru (.cons rv .nil)) (aR iN nz Yo)
  refine⟨.ref s.heap.objs.size,_,I2,rfl,⟨_,x,y,rfl,I.cf.fresh (aX _),rfl,fun zs hz=>by rw[I.ff hz hx];exact ex,fun zs hz=>by rw[I.ff hz hy];exact ey⟩,⟨KZ,Yp,⟨u,v,aR iN dj.TOz Yl⟩,fw Ym iN dj.i1z,fw Yn iN dj.i2z⟩,fun c hc=>?_⟩;have f0:=(hf c hc).1;have cl:c<s.heap.objs.size:=by
   simp only[aV,eH,eI] at hc;rcases hc with rfl|rfl|rfl|rfl|rfl
   .exact zl
   .exact aL gi
   .exact aL gq
   .obtain⟨o,q,_⟩:=r1;exact aL q
   .obtain⟨o,q,_⟩:=r2;exact aL q
  rw[al (aY cl)];exact f0
 done:=by
  intro X hP hw hK i ae s σ H E qk I hf st hg;subst hP hw hK;have hc:X.calm=true:=qk.elim id fun z=>(show False from z).elim;obtain⟨xs,hx,hi⟩:=hg;obtain⟨us,rx,px,_⟩:=I.tuple hx;obtain⟨gz,gi,⟨u0,v0,gq⟩,r1,r2⟩:=st;have hl:=rx.length;refine AW (I.ok.hd hc) dj gz gi r1 (show s.heap.IsTuple a us.toArray from px) (by simp;lia) fun h' kp=>⟨rfl,?_⟩
  have fe:∀e∈[z,i1],fA X ae H e:=fun e he=>hf e (by simp only[aV,eH,eI] at he |-;rcases he with h|h <;> simp[h]);refine I.CG (t':=s.toks) fe fun c o hc e=>?_;simp only[aV,eH,eI,gC] at hc;exact kp c o hc.1 hc.2 e
 self:=fun _ _ _ _ _ st h=>vV st.1 h
section
variable {X:Cx}
def Tv(K:PySem.W.Frag)(ta:TA):TI:=fun σ H R=>ta σ H fun vs H1=>∃a b xs ys,vs=[.ref a,.ref b]/\bh K H1 a xs/\bh K H1 b ys/\xs.length=ys.length/\R (Tr K a b) H1
theorem K0{es:List Expr}{x1:Nat}{xE:Pos}{a b:Expr}{ta:TA}{p pos:Pos}(hg:Gl X "zip")(hm:X.mg "zip"=none)(ha:PA X [a,b] ta)(hs:starEach [a,b] X.env=[(false,eval a X.env),(false,eval b X.env)]:=by rfl)(uo:starEach [b] X.env=[(false,eval b X.env)]:=by rfl):
  PI X (.Tuple es x1 xE) (.Call (.Name "zip" p) [a,b] [] pos) (Tv X.K ta):=by
 intro ae s σ H R I h;refine Call_ (jJ I hg hm PyProof.Rows.boot_zip (oA (cy (ha pos ae s σ H _ I h) fun us s1 ⟨vs,H1,I1,r1,q1⟩=>?_) (by rw[hs,uo]) (by rw[uo];rfl)));obtain⟨l,m,xs,ys,rfl,hl,Yq,Nf,q⟩:=q1;obtain⟨u1,u2,rfl,Ta,Yr⟩:=r1.two;obtain rfl:u1=Value.ref l:=Ta;obtain rfl:u2=Value.ref m:=Yr;obtain⟨its,rv,pt,_⟩:=I1.tuple hl;obtain⟨F_,rv2,J6,_⟩:=I1.tuple Yq;have de:l<s1.heap.objs.size:=by obtain⟨o,e,_⟩:=pt;exact aL e
 have AX:m<s1.heap.objs.size:=by obtain⟨o,e,_⟩:=J6;exact aL e
 refine Ej (show s1.heap.IsTuple l its.toArray from pt) (show s1.heap.IsTuple m F_.toArray from J6) fun h' gz gi gq r1 r2 k=>?_;refine vV gz ?_;have I2:aG X ae σ H1 { s1 with heap:=h' }:=I1.kept (t':=s1.toks) k;refine⟨s1.heap.objs.size+4,[s1.heap.objs.size+4,s1.heap.objs.size+2,s1.heap.objs.size+3,s1.heap.objs.size,s1.heap.objs.size+1],_,_,H1,rfl,I2,G_ l m _ _ _ _ _ (zipApart_new de AX),⟨gz,gi,⟨_,_,gq⟩,r1,r2⟩,fun b hb=>?_,q⟩;have jq:s1.heap.objs.size<=b:=by
  simp only[aV,eH,eI] at hb;rcases hb with rfl|rfl|rfl|rfl|rfl
  .exact kB _ _
  .exact kB _ _
  .exact kB _ _
  .exact aX _
  .exact kB _ _
 exact I1.uB jq (I1.cf.fresh jq)
theorem AY(rx:aZ xs us)(ry:aZ ys vs)(fx:xs.all iq=true)(fy:ys.all iq=true):
  ∀j (h1:j<us.toArray.size) (h2:j<vs.toArray.size),SeqAt.EqAt A s us.toArray[j] vs.toArray[j] (xM (xs.getD j .bR) (ys.getD j .bR)):=by
 intro j h1 h2;have j1:j<xs.length:=by rw[rx.length];simpa using h1
 have j2:j<ys.length:=by rw[ry.length];simpa using h2
 have e1:xs[j]?=some (xs.getD j .bR):=by rw[cq,cZ j1];rfl
 have e2:ys[j]?=some (ys.getD j .bR):=by rw[cq,cZ j2];rfl
 obtain⟨u,Fc,ru⟩:=rx.get e1;obtain⟨v,OF,rv⟩:=ry.get e2;have eu:us.toArray[j]=u:=by
  have:us[j]?=some us.toArray[j]:=by simp at h1 |-
  rw[Fc] at this;exact(bg this).symm
 have ev:vs.toArray[j]=v:=by
  have:vs[j]?=some vs.toArray[j]:=by simp at h2 |-
  rw[OF] at this;exact(bg this).symm
 rw[eu,ev];exact F8 ru rv (ij.mp fx _ (dh e1)) (ij.mp fy _ (dh e2))
theorem Ha(I:aG X ae σ H s)(hu:A.units+1<cLine)(ha:bh X.K H a xs)(hb:bh X.K H b ys)(hl:xs.length=ys.length)(fx:xs.all iq=true)(fy:ys.all iq=true):
  SeqAt.EqAt A s (.ref a) (.ref b) (iO xM xs ys):=by
 by_cases Ff:a=b
 .subst Ff;have e1:=I.ff ha hb;subst e1;have e2:iO xM xs xs=true:=by
   clear ha hb hl fy;induction xs with
   |nil=>rfl
   |cons x xs ih=>
    rw[vZ,gP] at fx;rw[iO,ih fx.2,Ab];cases x <;> first|rfl|(show (_==_)=true;simp)|exact absurd (show false=true from fx.1) bq
  rw[e2];exact SeqAt.EqAt.same _
 .obtain⟨us,r1,p1,_⟩:=I.tuple ha;obtain⟨vs,r2,p2,_⟩:=I.tuple hb;have h:=SeqAt.RcAt.tuples (A:=A) (s:=s) (l:=a) (b:=b) (e:=fun i=>xM (xs.getD i .bR) (ys.getD i .bR)) (show s.heap.IsTuple a us.toArray from p1) (show s.heap.IsTuple b vs.toArray from p2) (by lia)
   (AY r1 r2 fx fy)
  refine SeqAt.EqAt.of_refs Ff ?_;have er:((List.range (min us.toArray.size vs.toArray.size)).all (fun i=>xM (xs.getD i .bR) (ys.getD i .bR))&&us.toArray.size==vs.toArray.size)=iO xM xs ys:=by
   rw[c_,c_,<-r1.length,<-r2.length,<-hl,Nat.min_self,beq_self_eq_true,Ab,iP hl]
  rw[er] at h;exact h
theorem AZ{p q:Int×Int}:iO xM [.int p.1,.int p.2] [.int q.1,.int q.2]=decide (p=q):=by
 obtain⟨a,b⟩:=p;obtain⟨c,d⟩:=q;show ((a==c)&&((b==d)&&true))=decide ((a,b)=(c,d));by_cases h1:a=c <;> by_cases h2:b=d <;> simp[h1,h2]
def K2(K:PySem.W.Frag)(MV:Bool):R2:=fun x y H Q=>∃ (p l:Addr) (u:Int×Int) (as:List Addr) (ps:List (Int×Int)),x=.ref p/\y=.ref l/\bh K H p [.int u.1,.int u.2]/\bo K H l (as.map V.ref)/\as.length=ps.length/\(∀i,i<ps.length->bh K H (as.getD i 0) [.int (ps.getD i (0,0)).1,.int (ps.getD i (0,0)).2])/\
 Q (.bl (if MV then !decide (u∈ps) else decide (u∈ps))) H
open Classical in
theorem wH(I:aG X ae σ H s):∀ {as:List Addr} {ps:List (Int×Int)},as.length=ps.length->(∀i,i<ps.length->bh X.K H (as.getD i 0) [.int (ps.getD i (0,0)).1,.int (ps.getD i (0,0)).2])->
  ((as.map Value.ref).any fun v=>decide (∃a,v=Value.ref a/\bh X.K H a [.int u.1,.int u.2]))=decide (u∈ps)
 |[],[],_,_=>by simp
 |a::as,p::ps,hl,h=>by
  have ih:=wH I (u:=u) (as:=as) (ps:=ps) (by simpa using hl) (fun i hi=>h (i+1) (by simpa using hi));have h0:bh X.K H a [.int p.1,.int p.2]:=h 0 (by simp);rw[e_,kC,ih];have e:decide (∃b,Value.ref a=Value.ref b/\bh X.K H b [.int u.1,.int u.2])=decide (u=p):=by
   rw[im,iG,iG];constructor
   .rintro⟨b,e,hb⟩;cases e;have:=I.ff h0 hb;have e1:p.1=u.1:=V.int.inj (oU this).1;have e2:p.2=u.2:=V.int.inj (oU (oU this).2).1;exact gy e1.symm e2.symm
   .rintro rfl;exact⟨a,rfl,h0⟩
  rw[e];by_cases z:u=p
  .simp[z]
  .simp[z]
open Classical in
theorem yo{ae:List (Addr×Obj)}{σ:St}{H:Hp}{s:Shared}{A:Around}(I:aG X ae σ H s)(hu:A.units+1<cLine){p:Addr}{u:Int×Int}(hp:bh X.K H p [.int u.1,.int u.2]){as:List Addr}{ps:List (Int×Int)}(hl:as.length=ps.length)(h:∀i,i<ps.length->bh X.K H (as.getD i 0) [.int (ps.getD i (0,0)).1,.int (ps.getD i (0,0)).2]):∀v∈as.map Value.ref,SeqAt.EqAt A s v (.ref p) (decide (∃a,v=Value.ref a/\bh X.K H a [.int u.1,.int u.2])):=by
 intro v hv;obtain⟨a,ha,rfl⟩:=a9.mp hv;obtain⟨i,hi,e⟩:=rn.mp ha;have hq:=h i (by lia);have ea:as.getD i 0=a:=by rw[cq,cZ hi];exact e
 rw[ea] at hq;have z:=Ha (A:=A) I hu hq hp rfl rfl rfl;rw[AZ] at z;have e:decide (∃b,Value.ref a=Value.ref b/\bh X.K H b [.int u.1,.int u.2])=decide (ps.getD i (0,0)=u):=by
  rw[im,iG,iG];constructor
  .rintro⟨b,e,hb⟩;cases e;have:=I.ff hq hb;exact gy (V.int.inj (oU this).1) (V.int.inj (oU (oU this).2).1)
  .intro e;rw[<-e];exact⟨a,rfl,hq⟩
 rw[e];exact z
open Classical in
theorem Hb(hu:X.A.units+2<cLine):lX X (compareOp .In) (K2 X.K false):=by
 intro ae s σ H x y v u Q I rx ry h;obtain⟨p,l,w,as,ps,rfl,rfl,hp,hl,cY,Tw,q⟩:=h;obtain rfl:v=Value.ref p:=rx;obtain rfl:u=Value.ref l:=ry;obtain⟨its,r,pl,_⟩:=I.list hl;have e:=og r;subst e;refine SeqAt.in_listAt (fun v=>decide (∃a,v=Value.ref a/\bh X.K H a [.int w.1,.int w.2])) pl.isList (fun y hy=>yo I (by show X.A.units+1+1<cLine;lia) hp cY Tw y (by simpa using hy)) ⟨.bl _,H,I,rfl,?_⟩;rw[show (as.map Value.ref).toArray.any (fun v=>decide (∃a,v=Value.ref a/\bh X.K H a [.int w.1,.int w.2]))=(as.map Value.ref).any (fun v=>decide (∃a,v=Value.ref a/\bh X.K H a [.int w.1,.int w.2])) by simp,wH I cY Tw];exact q
open Classical in
theorem Ek(hu:X.A.units+2<cLine):lX X (compareOp .NotIn) (K2 X.K true):=by
 intro ae s σ H x y v u Q I rx ry h;obtain⟨p,l,w,as,ps,rfl,rfl,hp,hl,cY,Tw,q⟩:=h;obtain rfl:v=Value.ref p:=rx;obtain rfl:u=Value.ref l:=ry;obtain⟨its,r,pl,_⟩:=I.list hl;have e:=og r;subst e;refine SeqAt.notIn_listAt (fun v=>decide (∃a,v=Value.ref a/\bh X.K H a [.int w.1,.int w.2])) pl.isList (fun y hy=>yo I (by show X.A.units+1+1<cLine;lia) hp cY Tw y (by simpa using hy)) ⟨.bl _,H,I,rfl,?_⟩;rw[show (as.map Value.ref).toArray.any (fun v=>decide (∃a,v=Value.ref a/\bh X.K H a [.int w.1,.int w.2]))=(as.map Value.ref).any (fun v=>decide (∃a,v=Value.ref a/\bh X.K H a [.int w.1,.int w.2])) by simp,wH I cY Tw];exact q
end
end L2
namespace jR
abbrev Ts:=List (Int×Int)
def T(ts:Ts)(a b:Nat):Prop:=(((a:Nat):Int),((b:Nat):Int))∈ts
instance (ts:Ts) (a b:Nat):Decidable (T ts a b):=inferInstanceAs (Decidable (_∈_))
def jS(ts:Ts):Nat->Nat->Nat->Prop
 |0,a,b=>a=b
 |k+1,a,b=>∃c,jS ts k a c/\T ts c b
theorem jS.trans(h:jS ts k a b):∀ {l:Nat} {c:Nat},jS ts l b c->jS ts (k+l) a c
 |0,_,e=>by cases e;exact h
 |l+1,_,⟨d,w,t⟩=>⟨d,h.trans w,t⟩
theorem jS.one(h:T ts a b):jS ts 1 a b:=⟨a,rfl,h⟩
theorem jS.cons(h:T ts a b)(w:jS ts k b c):jS ts (k+1) a c:=by
 have:=(jS.one h).trans w;rwa [Nat.add_comm] at this
def ve(ts:Ts)(a b d:Nat):Prop:=jS ts d a b/\∀k,jS ts k a b->d<=k
theorem ve.uniq(h:ve ts a b d)(g:ve ts a b e):d=e:=Nat.le_antisymm (h.2 _ g.1) (g.2 _ h.1)
open Classical in
noncomputable def Nh(ts:Ts)(a b:Nat):Nat:=if h:∃d,ve ts a b d then h.choose else 0
theorem OV(h:ve ts a b d):Nh ts a b=d:=by
 unfold Nh;have hx:∃d,ve ts a b d:=⟨d,h⟩
 rw[dif_pos hx];exact hx.choose_spec.uniq h
structure g8(n:Nat)(ts:Ts):Prop where
 n1:2<=n
 n2:n<=32
 nd:ts.Nodup
 rg:∀t∈ts,(0<=t.1/\t.1<n)/\(0<=t.2/\t.2<n)
 ne:∀t∈ts,t.1≠t.2
 bal:∀h:Int,(ts.filter fun t=>decide (t.1=h)).length=(ts.filter fun t=>decide (t.2=h)).length
 most:∀h:Int,(ts.filter fun t=>decide (t.1=h)).length<=8
 con:∀a b,a<n->b<n->∃k,jS ts k a b
theorem El(f:α->Int):∀ (l:List α) (n:Nat),(∀x∈l,0<=f x/\f x<n)->(∀h:Int,(l.filter fun t=>decide (f t=h)).length<=8)->l.length<=8*n:=by
 intro l n;induction n generalizing l with
 |zero=>
  intro h _;cases l with
  |nil=>simp
  |cons x xs=>have:=h x bV;lia
 |succ n ih=>
  intro h h8;have e:l.length=(l.filter fun t=>decide (f t=(n:Int))).length+(l.filter fun t=>!decide (f t=(n:Int))).length:=by
   induction l with
   |nil=>rfl
   |cons x xs ih2=>
    have:=ih2 (fun y hy=>h y (bU _ hy)) (fun hh=>bj (by rw[e8];split <;> simp) (h8 hh));by_cases q:f x=(n:Int) <;> simp[e8,q] <;> lia
  have i2:=ih (l.filter fun t=>!decide (f t=(n:Int))) (fun x hx=>by
   have a:=h x (bE.mp hx |>.1);have b:=(bE.mp hx).2;simp at b;lia) (fun hh=>by
   refine bj ?_ (h8 hh);exact(vJ.filter _).length_le)
  have:=h8 (n:Int);lia
theorem g8.len(F:g8 n ts):ts.length<=256:=by
 have:=El (·.1) ts n (fun t ht=>(F.rg t ht).1) F.most;have:=F.n2;lia
theorem g8.tlt(F:g8 n ts)(h:T ts a b):a<n/\b<n/\a≠b:=by
 have q:=F.rg _ h;have q2:=F.ne _ h;refine⟨by have:=q.1;simp at this;lia,by have:=q.2;simp at this;lia,fun e=>q2 (by rw[e])⟩
def dX(n:Nat)(ts:Ts)(h:Nat):List Nat:=((List.range n).map fun s=>(h+s) % n).filter fun o=>decide (T ts h o)
theorem eO(F:g8 n ts)(hh:h<n):o∈dX n ts h↔T ts h o:=by
 unfold dX;rw[bE,ml];refine⟨fun z=>z.2,fun z=>⟨?_,z⟩⟩;obtain⟨_,h2,_⟩:=F.tlt z;refine a9.mpr ⟨if h<=o then o-h else o+n-h,dt.mpr (by split <;> lia),?_⟩;split
 .rw[show h+(o-h)=o by lia,kA h2]
 .rw[show h+(o+n-h)=o+n by lia,Nat.add_mod_right,kA h2]
theorem K3(F:g8 n ts)(hh:h<n)(ho:o∈dX n ts h):o<n:=(F.tlt ((eO F hh).mp ho)).2.1
def key(n h o:Nat):Int:=((o:Int)-(h:Int)) % (n:Int)
theorem sQ(hh:h<n)(hs:s<n):key n h ((h+s) % n)=(s:Int):=by
 unfold key;by_cases c:h+s<n
 .rw[kA c,show (((h+s:Nat):Int)-(h:Int))=(s:Int) by lia];exact Int.emod_eq_of_lt (by lia) (by lia)
 .have e:(h+s) % n=h+s-n:=by
   rw[Nat.mod_eq_sub_mod (by lia),kA (by lia)]
  rw[e,show ((((h+s-n:Nat)):Int)-(h:Int))=(s:Int)-(n:Int) by lia,Int.sub_emod_right];exact Int.emod_eq_of_lt (by lia) (by lia)
theorem qb(hh:h<n):(dX n ts h).Pairwise fun a b=>key n h a<key n h b:=by
 unfold dX;refine List.Pairwise.filter _ ?_;refine j5.mpr ?_;refine List.Pairwise.imp_of_mem ?_ (zg (n:=n));intro a b ha hb Ff;rw[sQ hh (dt.mp ha),sQ hh (dt.mp hb)];lia
theorem qc{α:Type}{k:α->Int}:∀ {a b:List α},a.Pairwise (fun x y=>k x<k y)->b.Pairwise (fun x y=>k x<k y)->(∀x,x∈a↔x∈b)->a=b
 |[],[],_,_,_=>rfl
 |[],y::ys,_,_,h=>absurd ((h y).mpr bV) (by simp)
 |x::xs,[],_,_,h=>absurd ((h x).mp bV) (by simp)
 |x::xs,y::ys,ha,hb,h=>by
  obtain⟨a1,a2⟩:=List.pairwise_cons.mp ha;obtain⟨b1,b2⟩:=List.pairwise_cons.mp hb;have e:x=y:=by
   rcases aV.mp ((h x).mp bV) with z|z
   .exact z
   .rcases aV.mp ((h y).mpr bV) with z'|z'
    .exact z'.symm
    .have q1:=b1 x z;have q2:=a1 y z';lia
  subst e;refine congrArg (x::·) (qc a2 b2 fun z=>⟨fun hz=>?_,fun hz=>?_⟩)
  .rcases aV.mp ((h z).mp (bU _ hz)) with q|q
   .subst q;exact absurd (a1 _ hz) (by lia)
   .exact q
  .rcases aV.mp ((h z).mpr (bU _ hz)) with q|q
   .subst q;exact absurd (b1 _ hz) (by lia)
   .exact q
structure Em(n:Nat)(ts:Ts)(s i:Nat)(R:List Nat)(f:Nat->Nat):Prop where
 nd:R.Nodup
 lt:∀x∈R,x<n
 st:s∈R
 z:f s=0
 wk:∀x∈R,jS ts (f x) s x
 up:R.Pairwise fun a b=>f a<=f b
 bd:∀u,R[i]?=some u->∀x∈R,f x<=f u+1
 cl:∀j u,j<i->R[j]?=some u->∀v,T ts u v->v∈R/\f v<=f u+1
theorem Em.start(hs:s<n):Em n ts s 0 [s] (fun _=>0):=
 ⟨by simp,fun x hx=>by simp at hx;lia,by simp,rfl,fun x hx=>by simp at hx;subst hx;rfl,by simp,fun u _ x _=>by lia,fun j u h=>absurd h (by lia)⟩
def put(f:Nat->Nat)(v k:Nat):Nat->Nat:=fun y=>if y=v then k else f y
theorem k4:put f v k v=k:=by simp[put]
theorem gI(h:x≠v):put f v k x=f x:=by simp[put,h]
theorem Em.add(B:Em n ts s i R f)(hu:R[i]?=some u)(hv:v<n)(t:T ts u v)(hn:v∉R):Em n ts s i (R++[v]) (put f v (f u+1)):=by
 have hur:u∈R:=dh hu;have nv:∀x∈R,x≠v:=fun x hx e=>hn (e ▸ hx);have hi:i<R.length:=(cW.mp hu).1;refine⟨?_,fun x hx=>?_,kr _ B.st,by rw[gI (nv s B.st)];exact B.z,fun x hx=>?_,?_,fun w hw x hx=>?_,fun j w hj hw x hx=>?_⟩
 .rw[rC];exact⟨B.nd,by simp,fun a ha b hb e=>by simp at hb;subst hb;exact hn (e ▸ ha)⟩
 .rcases dO.mp hx with z|z
  .exact B.lt x z
  .simp at z;lia
 .rcases dO.mp hx with z|z
  .rw[gI (nv x z)];exact B.wk x z
  .simp at z;subst z;rw[k4];exact⟨u,B.wk u hur,t⟩
 .rw[List.pairwise_append];refine⟨B.up.imp_of_mem fun {a b} ha hb h=>by rw[gI (nv a ha),gI (nv b hb)];exact h,by simp,fun a ha b hb=>?_⟩;simp at hb;subst hb;rw[gI (nv a ha),k4];exact B.bd u hu a ha
 .have En:w=u:=by
   rw[nE hi,hu] at hw;exact(bg hw).symm
  subst En;rw[gI (nv w hur)];rcases dO.mp hx with z|z
  .rw[gI (nv x z)];exact B.bd w hu x z
  .simp at z;subst z;rw[k4];exact aX _
 .rw[nE (by lia)] at hw;obtain⟨a,b⟩:=B.cl j w hj hw x hx;refine⟨kr _ a,?_⟩;rw[gI (nv x a),gI (nv w (dh hw))];exact b
theorem Em.next(B:Em n ts s i R f)(hu:R[i]?=some u)(h:∀v,T ts u v->v∈R/\f v<=f u+1):Em n ts s (i+1) R f:=by
 refine⟨B.nd,B.lt,B.st,B.z,B.wk,B.up,fun w hw x hx=>?_,fun j w hj hw v hv=>?_⟩
 .have h1:=B.bd u hu x hx;have h2:f u<=f w:=by
   have hi:i<R.length:=(cW.mp hu).1;have Fe:i+1<R.length:=(cW.mp hw).1;have:=Ft.mp B.up i (i+1) hi Fe (by lia);rw[cZ hi] at hu;rw[cZ Fe] at hw;rw[bg hu,bg hw] at this;exact this
  lia
 .by_cases e:j=i
  .subst e;rw[hu] at hw;cases hw;exact h v hv
  .exact B.cl j w (by lia) hw v hv
theorem jT:∀ {n:Nat} {R:List Nat},R.Nodup->(∀x∈R,x<n)->R.length<=n:=by
 intro n R hn hl;have key:∀ (a b:List Nat),a.Nodup->(∀x∈a,x∈b)->a.length<=b.length:=by
  intro a;induction a with
  |nil=>intro b _ _;exact cr _
  |cons x xs ih=>
   intro b hn hs;obtain⟨h1,h2⟩:=dq.mp hn;have hx:x∈b:=hs x bV;have:=ih (b.erase x) h2 fun y hy=>(rq (fun (e:y=x)=>h1 (e ▸ hy))).mpr (hs y (bU _ hy));rw[rd hx] at this;have:0<b.length:=vE hx;rw[cQ];lia
 have:=key R (List.range n) hn fun x hx=>dt.mpr (hl x hx);rwa [dW] at this
theorem Em.done(B:Em n ts s i R f)(F:g8 n ts)(hi:R.length<=i)(hx:x<n):x∈R/\f x=Nh ts s x:=by
 have cl:∀u∈R,∀v,T ts u v->v∈R/\f v<=f u+1:=fun u hu v hv=>by
  obtain⟨j,hj,e⟩:=rn.mp hu;exact B.cl j u (by lia) (by rw[cZ hj,e]) v hv
 have walk:∀k x,jS ts k s x->x∈R/\f x<=k:=by
  intro k;induction k with
  |zero=>intro x e;cases e;exact⟨B.st,by rw[B.z];exact aX _⟩
  |succ k ih=>
   rintro x ⟨c,w,t⟩;obtain⟨c1,c2⟩:=ih c w;obtain⟨d1,d2⟩:=cl c c1 x t;exact⟨d1,by lia⟩
 obtain⟨k,w⟩:=F.con s x (B.lt s B.st) hx;obtain⟨m,_⟩:=walk k x w;exact⟨m,(OV ⟨B.wk x m,fun k w=>(walk k x w).2⟩).symm⟩
theorem mU(hh:h<n):(dX n ts h).Nodup:=(qb hh).imp fun {a b} Ff e=>by subst e;lia
end jR
namespace L2
open PySem PySem.Spec PyProof.Rows
section
variable {X:Cx}
end
end L2
namespace jR
abbrev CI(u:Int×Int):Int×Int:=(u.2,u.1)
def nj(ps:Ts):Ts:=ps.flatMap fun u=>[u,CI u]
theorem A0:nj (ps++qs)=nj ps++nj qs:=List.flatMap_append
theorem k8:∀ {ps:Ts},(nj ps).Perm (ps++ps.map CI)
 |[]=>List.Perm.refl _
 |u::ps=>by
  have ih:=k8 (ps:=ps);show (u::CI u::nj ps).Perm (u::(ps++CI u::ps.map CI));refine List.Perm.cons _ ?_;exact(ih.cons _).trans List.perm_middle.symm
theorem wI:∀ {ps:Ts},(nj ps).length=2*ps.length
 |[]=>rfl
 |u::ps=>by
  have ih:=wI (ps:=ps);show (nj ps).length+2=2*(ps.length+1);lia
theorem K4(h:u∈nj ps):CI u∈nj ps:=by
 obtain⟨v,hv,hu⟩:=zS.mp h;refine zS.mpr ⟨v,hv,?_⟩;rcases aV.mp hu with e|e
 .rw[e];exact bU _ (dL.mpr rfl)
 .rw[dL.mp e];exact bV
theorem gj:u∈nj ps↔u∈ps\/CI u∈ps:=by
 rw[(k8 (ps:=ps)).mem_iff,dO];refine or_congr Iff.rfl ⟨fun h=>?_,fun h=>a9.mpr ⟨_,h,rfl⟩⟩;obtain⟨v,hv,rfl⟩:=a9.mp h;exact hv
theorem K5:((nj ps).map CI).Perm (nj ps):=by
 refine((k8 (ps:=ps)).map CI).trans (List.Perm.trans ?_ (k8 (ps:=ps)).symm);rw[dG,fj];have e:ps.map (CI ∘ CI)=ps:=(kn fun u _=>rfl).trans (jG ps);rw[e];exact km
abbrev qS(q:Nat×Nat):Int×Int:=((q.1:Int),(q.2:Int))
def b1(b:Bool):Nat:=cond b 1 0
def mV(h:Nat):List (Nat×Nat)->Nat
 |[]=>0
 |q::qs=>b1 (Nat.beq q.1 h)+(b1 (Nat.beq q.2 h)+mV h qs)
theorem CJ{h:Nat}:∀ {qs:List (Nat×Nat)},((nj (qs.map qS)).filter fun t=>decide (t.1=(h:Int))).length=mV h qs
 |[]=>rfl
 |q::qs=>by
  have ih:=CJ (h:=h) (qs:=qs);have e:∀a:Nat,(if decide ((a:Int)=(h:Int))=true then 1 else 0)=b1 (Nat.beq a h):=fun a=>by
   by_cases c:a=h
   .subst c;rw[ak (by simp),Nat.beq_refl];rfl
   .rw[aq (by simp;lia),show Nat.beq a h=false from iX.mpr fun z=>c (Nat.eq_of_beq_eq_true z)];rfl
  show ((qS q::CI (qS q)::nj (qs.map qS)).filter _).length=b1 (Nat.beq q.1 h)+(b1 (Nat.beq q.2 h)+mV h qs);rw[<-ih,<-e q.1,<-e q.2,e8,e8];split <;> split <;> simp <;> lia
def pr:List Nat->Nat
 |[]=>1
 |n::ns=>n*pr ns
def uF(m st n:Nat):List (Nat×Nat):=((List.range m).filter fun h=>decide (h / st % n+1<n)).map fun h=>(h,h+st)
def bx(m:Nat):Nat->List Nat->List (Nat×Nat)
 |_,[]=>[]
 |st,n::ns=>uF m st n++bx m (st*n) ns
def jU(ns:List Nat):List (Nat×Nat):=bx (pr ns) 1 ns
def K6:Nat->List Nat->Nat->Nat->Prop
 |_,[],_,_=>False
 |st,n::ns,a,b=>(a / st % n+1<n/\b=a+st)\/K6 (st*n) ns a b
theorem CL:q∈uF m st n↔q.1<m/\q.1 / st % n+1<n/\q.2=q.1+st:=by
 unfold uF;rw[a9];constructor
 .rintro⟨h,hh,rfl⟩;obtain⟨h1,h2⟩:=bE.mp hh;exact⟨dt.mp h1,dM h2,rfl⟩
 .rintro⟨h1,h2,h3⟩;exact⟨q.1,bE.mpr ⟨dt.mpr h1,bn h2⟩,gy rfl h3.symm⟩
theorem pN:∀ {ns:List Nat} {st:Nat},q∈bx m st ns↔q.1<m/\K6 st ns q.1 q.2
 |[],st=>⟨fun h=>(nomatch h),fun h=>h.2.elim⟩
 |n::ns,st=>by
  unfold bx K6;rw[dO,CL,pN (ns:=ns)];constructor
  .rintro(⟨a,b,c⟩|⟨a,b⟩)
   .exact⟨a,.inl ⟨b,c⟩⟩
   .exact⟨a,.inr b⟩
  .rintro⟨a,⟨b,c⟩|b⟩
   .exact .inl ⟨a,b,c⟩
   .exact .inr ⟨a,b⟩
abbrev U(ns:List Nat):Nat->Nat->Prop:=K6 1 ns
theorem wJ:∀ {ns:List Nat} {st a b:Nat},0<st->(∀n∈ns,0<n)->(K6 st ns a b↔a % st=b % st/\U ns (a / st) (b / st))
 |[],st,a,b,h,_=>⟨fun z=>z.elim,fun z=>z.2.elim⟩
 |n::ns,st,a,b,h,hn=>by
  have JN:=hn n bV;have AL:∀n∈ns,0<n:=fun x hx=>hn x (bU _ hx);show (_\/K6 (st*n) ns a b)↔a % st=b % st/\(_\/K6 (1*n) ns (a / st) (b / st))
  rw[wd,wJ (oY h JN) AL,wJ JN AL,oZ,md a st n,md b st n,Nat.mod_mul,Nat.mod_mul];have e1:=ik a st;have e2:=ik b st;constructor
  .rintro(⟨c,rfl⟩|⟨c,d⟩)
   .refine⟨by rw[Nat.add_mod_right],.inl ⟨c,by rw[Nat.add_div_right _ h]⟩⟩
   .have m1:a % st=b % st:=by
     have:=congrArg (· % st) c;simp only[Fs,Nat.mod_mod] at this;exact this
    refine⟨m1,.inr ⟨?_,d⟩⟩;rw[m1] at c;exact Nat.eq_of_mul_eq_mul_left h (Nat.add_left_cancel c)
  .rintro⟨m1,⟨c,d⟩|⟨c,d⟩⟩
   .refine .inl ⟨c,?_⟩;rw[<-e2,d,<-m1,i7,kF,Nat.add_right_comm,e1]
   .exact .inr ⟨by rw[m1,c],d⟩
theorem wK(h:∀x∈n::ns,0<x):U (n::ns) a b↔(a % n+1<n/\b=a+1)\/(a % n=b % n/\U ns (a / n) (b / n)):=by
 show (_\/K6 (1*n) ns a b)↔_;rw[wd,wJ (h n bV) fun x hx=>h x (bU _ hx),oZ]
theorem jV(h:a % n+1<n):(a+1) / n=a / n/\(a+1) % n=a % n+1:=by
 have e:=ik a n;have e2:a+1=n*(a / n)+(a % n+1):=by lia
 have hn:0<n:=by lia
 rw[e2,Nat.mul_add_div hn,Nat.mul_add_mod,zR h,kA h];exact⟨rfl,rfl⟩
theorem Tx:∀ {ns:List Nat} {a b:Nat},(∀x∈ns,0<x)->U ns a b->a<pr ns->a<b/\b<pr ns
 |[],a,b,_,h,_=>h.elim
 |n::ns,a,b,hn,h,ha=>by
  have JN:=hn n bV;have AL:∀n∈ns,0<n:=fun x hx=>hn x (bU _ hx);have Ss:a<n*pr ns:=ha;have hq:a / n<pr ns:=zj Ss;show a<b/\b<n*pr ns;rcases(wK hn).mp h with ⟨c,rfl⟩|⟨c,d⟩
  .refine⟨by lia,?_⟩;have e:=ik a n;have:=oG n hq;rw[Nat.succ_eq_add_one,i7,kF] at this;lia
  .obtain⟨i1,i2⟩:=Tx AL d hq;refine⟨?_,?_⟩
   .have e1:=ik a n;have e2:=ik b n;have:=Fo i1 JN;lia
   .have e2:=ik b n;have hm:=jH b JN;have:=oG n i2;rw[Nat.succ_eq_add_one,i7,kF] at this;lia
theorem Hd:∀ {ns:List Nat} {v:Nat},(∀x∈ns,0<x)->0<v->v<pr ns->∃u,u<v/\U ns u v
 |[],v,_,h1,h2=>by have h2:v<1:=h2;lia
 |n::ns,v,hn,h1,h2=>by
  have JN:=hn n bV;have AL:∀n∈ns,0<n:=fun x hx=>hn x (bU _ hx);have lv:=jH v JN;have ev:=ik v n;by_cases c:v % n=0
  .have hq:0<v / n:=by
    rcases zD (v / n) with z|z
    .rw[z,c] at ev;simp at ev;lia
    .exact z
   obtain⟨u,hu,uu⟩:=Hd (v:=v / n) AL hq (zj h2);refine⟨n*u,?_,(wK hn).mpr (.inr ⟨by rw[Nat.mul_mod_right,c],by rw[Nat.mul_div_cancel_left _ JN];exact uu⟩)⟩;have:=Fo hu JN;lia
  .have hv:v-1=n*(v / n)+(v % n-1):=by lia
   have hm:(v-1) % n=v % n-1:=by rw[hv,Nat.mul_add_mod,kA (by lia)]
   exact⟨v-1,by lia,(wK hn).mpr (.inl ⟨by lia,by lia⟩)⟩
theorem CM:∀ {ns:List Nat} {st a b:Nat},(∀x∈ns,0<x)->K6 st ns a b->a+st<=b
 |[],st,a,b,_,h=>h.elim
 |n::ns,st,a,b,hn,h=>by
  rcases h with ⟨_,rfl⟩|h
  .exact aX _
  .have:=CM (fun x hx=>hn x (bU _ hx)) h;have h1:=ze st (hn n bV);lia
theorem Eo:(uF m st n).Nodup:=by
 unfold uF;refine oB.mpr (j5.mpr ?_);exact(oB.mp (oK.sublist vJ)).imp fun {a b} h e=>h (congrArg Prod.fst e)
theorem yq:∀ {ns:List Nat} {st:Nat},0<st->(∀x∈ns,2<=x)->(bx m st ns).Nodup
 |[],_,_,_=>gQ
 |n::ns,st,h,hn=>by
  have Re:=hn n bV;have AL:∀x∈ns,2<=x:=fun x hx=>hn x (bU _ hx);refine rC.mpr ⟨Eo,yq (oY h (by lia)) AL,fun x hx y hy e=>?_⟩;subst e;have h1:=(CL.mp hx).2.2;have h2:=CM (fun x hx=>by have:=AL x hx;lia) (pN.mp hy).2;have h3:=oG st Re;lia
theorem Ep(nd:ps.Nodup)(h:∀u∈ps,u.1<u.2):(nj ps).Nodup:=by
 refine(k8 (ps:=ps)).nodup_iff.mpr (rC.mpr ⟨nd,?_,fun x hx y hy e=>?_⟩)
 .refine oB.mpr (j5.mpr ((oB.mp nd).imp fun {a b} Ff e=>Ff ?_));exact gy (congrArg Prod.snd e) (congrArg Prod.fst e)
 .subst e;obtain⟨u,hu,rfl⟩:=a9.mp hy;have h1:=h _ hx;have h2:=h u hu;have h1:u.2<u.1:=h1;lia
theorem Es{qs:List (Nat×Nat)}(h:qs.Nodup):(qs.map qS).Nodup:=by
 refine oB.mpr (j5.mpr ((oB.mp h).imp fun {a b} Ff e=>Ff ?_));exact gy (cR (congrArg Prod.fst e)) (cR (congrArg Prod.snd e))
theorem qd:∀ {a b:List (Nat×Nat)},mV h (a++b)=mV h a+mV h b
 |[],b=>by show mV h b=0+_;lia
 |q::a,b=>by
  have:=qd (h:=h) (a:=a) (b:=b);show b1 _+(b1 _+mV h (a++b))=b1 _+(b1 _+mV h a)+mV h b;lia
theorem Ni:b1 (Nat.beq a b)=if a=b then 1 else 0:=by
 by_cases c:a=b
 .subst c;rw[ak rfl,Nat.beq_refl];rfl
 .rw[aq c,show Nat.beq a b=false from iX.mpr fun z=>c (Nat.eq_of_beq_eq_true z)];rfl
theorem CN:∀ {L:List Nat},L.Nodup->mV h (L.map fun x=>(x,x+st))<=(if h∈L then 1 else 0)+(if st<=h/\h-st∈L then 1 else 0)
 |[],_=>cr _
 |x::L,nd=>by
  obtain⟨n1,n2⟩:=dq.mp nd;have ih:=CN (h:=h) (st:=st) n2;show b1 (Nat.beq x h)+(b1 (Nat.beq (x+st) h)+mV h (L.map fun x=>(x,x+st)))<=_;rw[Ni,Ni];have e1:(if h∈x::L then 1 else 0)=(if x=h then 1 else 0)+(if h∈L then 1 else 0):=by
   by_cases c:x=h
   .subst c;rw[ak bV,ak rfl,aq n1]
   .rw[aq c];by_cases d:h∈L
    .rw[ak (bU _ d),ak d]
    .rw[aq d,aq (fun z=>(aV.mp z).elim (fun z=>c z.symm) d)]
  have e2:(if st<=h/\h-st∈x::L then 1 else 0)=(if x+st=h then 1 else 0)+(if st<=h/\h-st∈L then 1 else 0):=by
   by_cases c:x+st=h
   .have e:h-st=x:=by lia
    rw[ak c,e,ak ⟨by lia,bV⟩,aq (fun z=>n1 z.2)]
   .rw[aq c];by_cases d:st<=h/\h-st∈L
    .rw[ak d,ak ⟨d.1,bU _ d.2⟩]
    .rw[aq d,aq];rintro⟨z1,z2⟩;rcases aV.mp z2 with z|z
     .lia
     .exact d ⟨z1,z⟩
  rw[e1,e2];lia
def wt:List Nat->Nat
 |[]=>0
 |n::ns=>(if n=2 then 1 else 2)+wt ns
theorem K7(hs:0<st):mV h (uF m st n)<=if n=2 then 1 else 2:=by
 have c:=CN (h:=h) (st:=st) (L:=(List.range m).filter fun h=>decide (h / st % n+1<n)) (oK.sublist vJ);refine bj c ?_;by_cases e:n=2
 .rw[ak e];by_cases c1:h∈(List.range m).filter fun h=>decide (h / st % n+1<n)
  .rw[ak c1,aq]
   .lia
   .rintro⟨z1,z2⟩;have d1:h / st % n+1<n:=dM (bE.mp c1).2;have d2:(h-st) / st % n+1<n:=dM (bE.mp z2).2;have d3:h / st=(h-st) / st+1:=by
     have:=Nat.add_div_right (h-st) hs;rw[show h-st+st=h by lia] at this;exact this
    obtain⟨_,d4⟩:=jV d2;rw[<-d3] at d4;lia
  .rw[aq c1];split <;> lia
 .rw[aq e];split <;> split <;> lia
theorem He:∀ {ns:List Nat} {st:Nat},0<st->(∀x∈ns,0<x)->mV h (bx m st ns)<=wt ns
 |[],_,_,_=>aX _
 |n::ns,st,hs,hn=>by
  show mV h (uF m st n++bx m (st*n) ns)<=_+wt ns;rw[qd];have h1:=K7 (m:=m) (n:=n) (h:=h) hs;have h2:=He (m:=m) (h:=h) (ns:=ns) (st:=st*n) (oY hs (hn n bV)) fun x hx=>hn x (bU _ hx);lia
theorem Hf:∀ {ns:List Nat},(∀x∈ns,2<=x)->3 ^ wt ns<=pr ns*pr ns
 |[],_=>aX _
 |n::ns,hn=>by
  have ih:=Hf (ns:=ns) fun x hx=>hn x (bU _ hx);have h2:=hn n bV;show 3 ^ ((if n=2 then 1 else 2)+wt ns)<=n*pr ns*(n*pr ns);rw[Nat.pow_add,Nat.mul_mul_mul_comm];refine z8 ?_ ih;by_cases c:n=2
  .rw[ak c,c];decide
  .rw[aq c];have:3<=n:=by lia
   exact z8 this this
theorem Tz(hn:∀x∈ns,2<=x)(hp:pr ns<=32):wt ns<=8:=by
 refine vy fun z=>?_;have h1:3 ^ 9<=3 ^ wt ns:=Nat.pow_le_pow_right (by decide) (by lia);have h2:=Hf hn;have h3:pr ns*pr ns<=32*32:=z8 hp hp;have h4:(3:Nat) ^ 9=19683:=by decide
 lia
theorem Hg{ns:List Nat}(hn:∀x∈ns,2<=x)(h0:ns≠[])(hp:pr ns<=32):g8 (pr ns) (nj ((jU ns).map qS)):=by
 have OW:∀x∈ns,0<x:=fun x hx=>by have:=hn x hx;lia
 have q:∀q∈jU ns,q.1<q.2/\q.2<pr ns:=fun q hq=>by
  obtain⟨a,b⟩:=pN.mp hq;exact Tx OW b a
 have n1:2<=pr ns:=by
  cases ns with
  |nil=>exact absurd rfl h0
  |cons n ns=>
   have h2:=hn n bV;have:∀ {l:List Nat},(∀x∈l,2<=x)->1<=pr l:=fun {l}=>by
    induction l with
    |nil=>intro _;exact aX _
    |cons x l ih=>intro hl;exact oY (by have:=hl x bV;lia) (ih fun y hy=>hl y (bU _ hy))
   have h3:=this (l:=ns) fun x hx=>hn x (bU _ hx);show 2<=n*pr ns;exact bj h2 (ze n h3)
 have mem:∀t∈nj ((jU ns).map qS),∃q∈jU ns,t=qS q\/t=CI (qS q):=fun t ht=>by
  rcases gj.mp ht with z|z
  .obtain⟨q,hq,e⟩:=a9.mp z;exact⟨q,hq,.inl e.symm⟩
  .obtain⟨q,hq,e⟩:=a9.mp z;exact⟨q,hq,.inr (by rw[e])⟩
 have rg:∀t∈nj ((jU ns).map qS),((0<=t.1/\t.1<pr ns)/\(0<=t.2/\t.2<pr ns))/\t.1≠t.2:=fun t ht=>by
  obtain⟨p,hq,e⟩:=mem t ht;obtain⟨a,b⟩:=q p hq;rcases e with rfl|rfl
  .exact⟨⟨⟨by show (0:Int)<=(p.1:Int);lia,by show (p.1:Int)<(pr ns:Int);lia⟩,by show (0:Int)<=(p.2:Int);lia,by show (p.2:Int)<(pr ns:Int);lia⟩,by show ((p.1:Nat):Int)≠(p.2:Nat);lia⟩
  .exact⟨⟨⟨by show (0:Int)<=(p.2:Int);lia,by show (p.2:Int)<(pr ns:Int);lia⟩,by show (0:Int)<=(p.1:Int);lia,by show (p.1:Int)<(pr ns:Int);lia⟩,by show ((p.2:Nat):Int)≠(p.1:Nat);lia⟩
 have nd:(nj ((jU ns).map qS)).Nodup:=Ep (Es (yq (by decide) hn)) fun u hu=>by
  obtain⟨p,hq,rfl⟩:=a9.mp hu;have:=(q p hq).1;show (p.1:Int)<(p.2:Int);lia
 refine⟨n1,hp,nd,fun t ht=>(rg t ht).1,fun t ht=>(rg t ht).2,fun h=>?_,fun h=>?_,fun a b ha hb=>?_⟩
 .rw[<-(K5 (ps:=(jU ns).map qS)).filter (fun t=>decide (t.1=h)) |>.length_eq,List.filter_map,aP];rfl
 .by_cases c:0<=h/\h<pr ns
  .have:=He (m:=pr ns) (h:=h.toNat) (ns:=ns) (st:=1) (by decide) OW;have e:=CJ (h:=h.toNat) (qs:=jU ns);rw[Int.toNat_of_nonneg c.1] at e;rw[e];exact bj this (Tz hn hp)
  .have e:(nj ((jU ns).map qS)).filter (fun t=>decide (t.1=h))=[]:=List.filter_eq_nil_iff.mpr fun t ht e=>c ((show t.1=h from dM e) ▸ (rg t ht).1.1);rw[e];exact cr _
 .have Ko:∀v,v<pr ns->(∃k,jS (nj ((jU ns).map qS)) k 0 v)/\∃k,jS (nj ((jU ns).map qS)) k v 0:=by
   intro v;induction v using Nat.strongRecOn with
   |ind v ih=>
    intro hv;rcases zD v with e|e
    .subst e;exact⟨⟨0,rfl⟩,0,rfl⟩
    .obtain⟨u,hu,uu⟩:=Hd OW e hv;obtain⟨⟨k,w⟩,l,w'⟩:=ih u hu (by lia);have t:T (nj ((jU ns).map qS)) u v:=gj.mpr (.inl (a9.mpr ⟨(u,v),pN.mpr ⟨by show u<pr ns;lia,uu⟩,rfl⟩));have t':T (nj ((jU ns).map qS)) v u:=K4 t;exact⟨⟨k+1,u,w,t⟩,l+1,jS.cons t' w'⟩
  obtain⟨_,k,w⟩:=Ko a ha;obtain⟨⟨l,w'⟩,_⟩:=Ko b hb;exact⟨_,w.trans w'⟩
end jR
namespace tf
open PySem L2
def fL(i:Nat):Stmt:=PySem.Challenge.pw_neverwait_k46_whole_lanes_go_on.main.body.getD i (.Pass ⟨0,0,0,0⟩)
abbrev A1:Stmt:=fL 9
abbrev wL:Stmt:=fL 10
abbrev A2:Stmt:=fL 11
abbrev OX:Stmt:=fL 13
structure Bl(mg:Str->Option Value):Prop where
 K8:mg "isinstance"=none
 int:mg "int"=none
 bool:mg "bool"=none
 tup:mg "tuple"=none
 lst:mg "list"=none
 str:mg "str"=none
 set:mg "set"=none
 len:mg "len"=none
 range:mg "range"=none
 sorted:mg "sorted"=none
 any:mg "any"=none
 max:mg "max"=none
 min:mg "min"=none
 abP:mg "ValueError"=none
 all:mg "all"=none
def Hh(K:PySem.W.Frag)(H:Hp)(x:V):Prop:=∃t,Ri K H x t/\(PySem.W.kitOne K t (.type "int")=some false\/(PySem.W.kitOne K t (.type "int")=some true/\PySem.W.kitOne K t (.type "bool")=some true))
theorem k_:PySem.W.kitOne K (.type "int") (.type "int")=some true:=by kernel_rfl
theorem jW:PySem.W.kitOne K (.type "int") (.type "bool")=some false:=by kernel_rfl
inductive Wh (K:PySem.W.Frag) (H:Hp):V->Option Int->Prop where
 |int (i:Int):Wh K H (.int i) (some i)
 |no {x:V} (h:Hh K H x):Wh K H x none
def qT(K:PySem.W.Frag):Sp:=fun vs H Q _=>∃x o,vs=[x]/\Wh K H x o/\Q (.bl o.isSome) H
section
variable {P:Program} {w:World} {K:PySem.W.Frag} {mg:Str->Option Value} {base:Heap}
theorem K9:aA ["thing"] ["thing"] (ao A1):=⟨rfl,rfl,rfl,by decide +kernel,rfl,by decide +kernel,by decide +kernel⟩
theorem Hi(F:eK K "is_whole" "is_whole" A1 f fd)(B:Bl mg):bi P w K mg base ba 1 f fd ["thing"] (qT K):=by
 refine F.ok K9 (fun vs H Q E h=>?_) (fun dC A outer s H vs Q E hr h=>?_)
 .obtain⟨x,o,rfl,_⟩:=h;rfl
 .obtain⟨x,o,rfl,W,k⟩:=h;refine⟨_,aj (aF (kL (aI fq (by rfl) B.K8 nB (aa (pv 0) (aa (gX (v:=.ty "int") rfl B.int PyProof.Rows.boot_int rfl) af)))
   (mG (N5 (aI fq (by rfl) B.K8 nB (aa (pv 0) (aa (gX (v:=.ty "bool") rfl B.bool PyProof.Rows.boot_bool rfl) af))))))),?_⟩
  cases W with
  |int i=>
   refine⟨_,rfl,_,_,_,.type "int",true,rfl,⟨rfl,k_⟩,.of (.int _),true,rfl,?_⟩;exact⟨_,rfl,_,_,_,.type "int",false,rfl,⟨rfl,jW⟩,.of (.int _),false,rfl,k⟩
  |no h=>
   obtain⟨t,ty,h|⟨h1,h2⟩⟩:=h
   .exact⟨_,rfl,_,_,_,t,false,rfl,⟨rfl,h⟩,ty,false,rfl,k⟩
   .refine⟨_,rfl,_,_,_,t,true,rfl,⟨rfl,h1⟩,ty,true,rfl,?_⟩;exact⟨_,rfl,_,_,_,t,true,rfl,⟨rfl,h2⟩,ty,true,rfl,k⟩
def be(o:Option Int)(lo hi:Int):Bool:=match o with
 |some i=>decide (lo<=i)&&decide (i<=hi)
 |none=>false
def lf(K:PySem.W.Frag):Sp:=fun vs H Q _=>∃x o lo hi,vs=[x,.int lo,.int hi]/\Wh K H x o/\Q (.bl (be o lo hi)) H
theorem Hj:aA ["thing","least","most"] ["thing","least","most"] (ao wL):=⟨rfl,rfl,rfl,by decide +kernel,rfl,by decide +kernel,by decide +kernel⟩
theorem Et(F:eK K "is_whole_within" "is_whole_within" wL f fd)(W:cu P w K mg base ba 1 "is_whole" ["thing"] (qT K)):bi P w K mg base ba 2 f fd ["thing","least","most"] (lf K):=by
 refine F.ok Hj (fun vs H Q E h=>?_) (fun dC A outer s H vs Q E hr h=>?_)
 .obtain⟨x,o,lo,hi,rfl,_⟩:=h;rfl
 .obtain⟨x,o,lo,hi,rfl,wh,k⟩:=h;refine⟨_,aj (aF (kL (av W hr aE (aa (pv 0) af)) (mG (FS FP FP (pv 1) (pv 0) (pv 2))))),?_⟩;refine⟨_,rfl,x,o,rfl,wh,?_⟩;cases wh with
  |no h=>exact⟨false,rfl,k⟩
  |int i=>
   refine⟨true,rfl,_,rfl,_,rfl,_,_,rfl,rfl,_,rfl,?_⟩;show if decide (lo<=i)=true then _ else _
   have k':Q (.bl (decide (lo<=i)&&decide (i<=hi))) H:=k;by_cases h:lo<=i
   .rw[bn h] at k' |-;exact⟨_,rfl,_,_,rfl,rfl,k'⟩
   .rw[dF h] at k' |-;exact k'
def lJ(K:PySem.W.Frag):Sp:=fun vs H Q _=>∃x o n,vs=[.int n,x]/\Wh K H x o/\Q (.bl (be o 0 (n-1))) H
theorem K_:aA ["many","thing"] ["many","thing"] (ao A2):=⟨rfl,rfl,rfl,by decide +kernel,rfl,by decide +kernel,by decide +kernel⟩
theorem Hk(F:eK K "is_house" "is_house" A2 f fd)(W:cu P w K mg base ba 2 "is_whole_within" ["thing","least","most"] (lf K)):bi P w K mg base ba 3 f fd ["many","thing"] (lJ K):=by
 refine F.ok K_ (fun vs H Q E h=>?_) (fun dC A outer s H vs Q E hr h=>?_)
 .obtain⟨x,o,n,rfl,_⟩:=h;rfl
 .obtain⟨x,o,n,rfl,wh,k⟩:=h;refine⟨_,aj (aF (av W hr aE (aa (pv 1) (aa aD (aa (bu mK (pv 0) aD) af))))),?_⟩;exact⟨_,rfl,_,rfl,_,_,rfl,rfl,x,o,0,n-1,rfl,wh,k⟩
inductive Rw (K:PySem.W.Frag) (H:Hp):V->Option (List V)->Prop where
 |tup {p:Addr} {xs:List V} (h:H p=some (.tup xs)):Rw K H (.ref p) (some xs)
 |no {x:V} {t:Value} (ty:Ri K H x t) (h:PySem.W.kitOne K t (.type "tuple")=some false):Rw K H x none
def Hl(o:Option (List V))(m:Int):Bool:=match o with
 |some xs=>decide ((xs.length:Int)=m)
 |none=>false
theorem wM:PySem.W.kitOne K (.type "tuple") (.type "tuple")=some true:=by kernel_rfl
def vf(K:PySem.W.Frag):Sp:=fun vs H Q _=>∃x o m,vs=[x,.int m]/\Rw K H x o/\Q (.bl (Hl o m)) H
theorem TC:aA ["thing","length"] ["thing","length"] (ao OX):=⟨rfl,rfl,rfl,by decide +kernel,rfl,by decide +kernel,by decide +kernel⟩
theorem OY(F:eK K "is_row" "is_row" OX f fd)(B:Bl mg):bi P w K mg base ba 1 f fd ["thing","length"] (vf K):=by
 refine F.ok TC (fun vs H Q E h=>?_) (fun dC A outer s H vs Q E hr h=>?_)
 .obtain⟨x,o,m,rfl,_⟩:=h;rfl
 .obtain⟨x,o,m,rfl,W,k⟩:=h;refine⟨_,aj (aF (kL (aI fq (by rfl) B.K8 nB (aa (pv 0) (aa (gX (v:=.ty "tuple") rfl B.tup jh rfl) af)))
   (mG (ge jn (aI aM (by rfl) B.len ee (aa (pv 0) af)) (pv 1) (aQ _))))),?_⟩
  cases W with
  |@tup p xs h=>
   refine⟨_,rfl,_,_,_,.type "tuple",true,rfl,⟨rfl,wM⟩,.of (.tup h),true,rfl,?_⟩;refine⟨_,rfl,_,_,rfl,.inr (bh.of h),_,rfl,rfl,?_⟩;have e:decide (V.int ((xs.length:Nat):Int)=V.int m)=decide (((xs.length:Nat):Int)=m):=by simp
   rw[e];exact k
  |no ty h=>exact⟨_,rfl,_,_,_,_,false,rfl,⟨rfl,h⟩,ty,false,rfl,k⟩
end
theorem bN(s:az H H')(hD:H D=none):az H (upd H' D o):=fun b u e=>by rw[al (ap e hD)];exact s b u e
abbrev IV(ns:List Int):List V:=ns.map V.int
abbrev NV(ns:List Nat):List V:=ns.map fun (x:Nat)=>V.int (x:Int)
theorem lZ(G:St->Hp->Prop)(hr:∀σ H,G σ H->u D σ H)(ht:∀N:St->Hp->Prop,(∀σ H,G σ H->N σ H)->t { D with nx:=N } σ H):RX t u D σ H:=ht _ hr
abbrev Zs:=List (Addr×(Int×Int))
abbrev La(u:Int×Int):HO:=.tup [.int u.1,.int u.2]
def zr(zs:Zs):List V:=zs.map fun z=>V.ref z.1
def zp(zs:Zs):List (Int×Int):=zs.map (·.2)
def PO(H:Hp)(zs:Zs):Prop:=∀z∈zs,H z.1=some (La z.2)
theorem lK:zr (a++b)=zr a++zr b:=dG
theorem vg:zp (a++b)=zp a++zp b:=dG
theorem lj:(zr a).length=a.length:=aP _
theorem dB:(zp a).length=a.length:=aP _
theorem qU:zr a=(a.map (·.1)).map V.ref:=by unfold zr;rw[fj];rfl
theorem wN{zs:Zs}{i:Nat}{x:V}(h:(zr zs)[i]?=some x):∃z,zs[i]?=some z/\x=.ref z.1:=by
 unfold zr at h;rw[bJ] at h;cases e:zs[i]? with
 |none=>rw[e] at h;cases h
 |some z=>rw[e] at h;exact⟨z,rfl,(bg h).symm⟩
theorem PO.nil:PO H []:=fun z hz=>(nomatch hz)
theorem PO.same(h:PO H zs)(s:az H H'):PO H' zs:=fun z hz=>s _ _ (h z hz)
theorem PO.putL(h:PO H zs)(e:H D=some (.lst xs)):PO (upd H D o) zs:=fun z hz=>by
 have:=h z hz;rw[al (by rintro rfl;rw[e] at this;cases this)];exact this
theorem PO.putN(h:PO H zs)(e:H D=none):PO (upd H D o) zs:=h.same (am e)
theorem PO.append(h:PO H a)(h':PO H b):PO H (a++b):=fun z hz=>(dO.mp hz).elim (h z) (h' z)
theorem PO.one(h:H p=some (La u)):PO H [(p,u)]:=fun z hz=>by rw[dL.mp hz];exact h
theorem yr{zs:Zs}{i:Nat}(h:i<zs.length):(zs.map (·.1)).getD i 0=zs[i].1:=by
 rw[cq,bJ,cZ h];rfl
theorem CO(h:i<zs.length):(zp zs).getD i (0,0)=zs[i].2:=by
 unfold zp;rw[cq,bJ,cZ h];rfl
theorem A3{K:PySem.W.Frag}{MV:Bool}{H:Hp}{p l:Addr}{u:Int×Int}{zs:Zs}{Q:VK}(hp:H p=some (La u))(hl:H l=some (.lst (zr zs)))(ho:PO H zs)(q:Q (.bl (if MV then !decide (u∈zp zs) else decide (u∈zp zs))) H):K2 K MV (.ref p) (.ref l) H Q:=
 ⟨p,l,u,zs.map (·.1),zp zs,rfl,rfl,bh.of hp,bo.of (by rw[<-qU];exact hl),by rw[aP,dB],fun i hi=>by
  rw[dB] at hi;rw[yr hi,CO hi];exact bh.of (ho _ (iI hi)),q⟩
theorem Eu{H:Hp}{zs:Zs}(ho:PO H zs){as:List Addr}(h:as.Perm (zs.map (·.1))):∃qV:Zs,qV.Perm zs/\as=qV.map (·.1):=by
 classical
 let f:Addr->Int×Int:=fun a=>match H a with
  |some (.tup [.int x,.int y])=>(x,y)
  |_=>(0,0)
 have e:(zs.map (·.1)).map (fun a=>(a,f a))=zs:=by
  rw[fj];conv=>rhs;rw[<-jG zs]
  refine kn fun z hz=>?_;have:=ho z hz;show (z.1,f z.1)=z;have e2:f z.1=z.2:=by
   show (match H z.1 with|some (.tup [.int x,.int y])=>(x,y)|_=>(0,0))=z.2;rw[this]
  rw[e2]
 refine⟨as.map fun a=>(a,f a),?_,?_⟩
 .have:=h.map (fun a=>(a,f a));rw[e] at this;exact this
 .rw[fj];exact(jG as).symm
abbrev Ord(us:List (Int×Int)):Prop:=us=us
theorem Lb{K:PySem.W.Frag}{H:Hp}{l:Addr}{zs:Zs}{Q:VK}(hl:H l=some (.lst (zr zs)))(ho:PO H zs)(hz:zs.length<=4096)(hb:∀u∈zp zs,0<=u.2/\u.2<64)(q:∀ (D:Addr) (qV:Zs),H D=none->qV.Perm zs->Ord (zp qV)->Q (.ref D) (upd H D (.lst (zr qV)))):G5 K [.ref l] H Q:=by
 refine⟨l,zs.map (·.1),rfl,bo.of (by rw[<-qU];exact hl),fun a ha=>?_,by rw[aP];exact hz,fun D y0 hD hp=>?_⟩
 .obtain⟨z,hz,rfl⟩:=a9.mp ha;exact⟨_,_,bh.of (ho z hz)⟩
 .obtain⟨qV,h1,rfl⟩:=Eu ho hp;rw[<-qU];exact q D qV hD h1 rfl
theorem Hm{K:PySem.W.Frag}{a D:Addr}{JR:Zs}{g:TG}{tt:TT}{te:TE}{cH:Hp->Prop}{σB:St}{H0:Hp}(F:Int×Int->Int×Int)(cS:St->Prop)(ha:H0 a=some (.lst (zr JR)))(hp0:PO H0 JR)(hD:H0 D=none)(hn:JR.length<=100000)(h0:cS σB)(hs:∀z σ H (R:V->St->Hp->Prop) (Kf:St->Hp->Prop),z∈JR->cS σ->H z.1=some (La z.2)->(∀σ2 p,cS σ2->H p=none->R (.ref p) σ2 (upd H p (La (F z.2))))->g (.ref z.1) σ H fun σ2 H2=>tt σ2 H2 fun b H3=>if b=true then te σ2 H3 fun v H4=>R v σ2 H4 else Kf σ2 H3)(hd:∀zs H,az H0 H->H D=some (.lst (zr zs))->PO H zs->zp zs=(zp JR).map F->(∀z∈zs,H0 z.1=none)->cH H):gR (FG K a) g tt te D cH σB (upd H0 D (.lst [])):=by
 refine jr (xs:=zr JR) (fun i ys σ H=>cS σ/\az H0 H/\H D=some (.lst ys)/\∃zs:Zs,ys=zr zs/\PO H zs/\zp zs=((zp JR).take i).map F/\∀z∈zs,H0 z.1=none) ⟨h0,am hD,ag,[],rfl,PO.nil,rfl,fun z hz=>nomatch hz⟩ (fun i ys σ H _ z=>bo.of (z.2.1 _ _ ha)) ?_ ?_
 .rintro i x ys σ H Kt Kf hx ⟨sh,sm,l0,zs,rfl,po,ep,fr⟩ kt kf;obtain⟨z,hz,rfl⟩:=wN hx;have hi:i<JR.length:=(cW.mp hz).1;have Nj:z∈JR:=dh hz;have hl:zs.length=i:=by rw[<-dB,ep,aP,ii,dB];lia
  refine hs z σ H Kt Kf Nj sh (sm _ _ (hp0 z Nj)) (fun σ2 p wO hp=>?_)
  .have nD:D≠p:=ap l0 hp;refine kt _ _ _ (by rw[al nD];exact l0) (by rw[lj,hl];exact bA hi (bj hn (by decide))) ⟨wO,bN (sm.trans (am hp)) hD,ag,zs++[(p,F z.2)],?_,?_,?_,?_⟩
   .rw[lK];rfl
   .refine PO.putL (xs:=zr zs) ?_ (by rw[al nD];exact l0);exact(po.putN hp).append (PO.one ag)
   .have e2:(zp JR)[i]?=some z.2:=by unfold zp;rw[bJ,hz];rfl
    rw[vg,ep,iH,e2,Option.toList_some,dG];rfl
   .intro z hz;rcases dO.mp hz with z'|z'
    .exact fr z z'
    .rw[dL.mp z'];exact sm.free hp
 .rintro ys σ H ⟨_,sm,l0,zs,rfl,po,ep,fr⟩;rw[lj,<-dB,gm] at ep;exact hd zs H sm l0 po ep fr
open jR
abbrev CP:Stmt:=eS (fL 29) 0
abbrev Hn:Stmt:=eS (fL 29) 1
abbrev OZ:Stmt:=eS (fL 29) 3
abbrev A4:Stmt:=eS (fL 29) 8
structure Er(K:PySem.W.Frag)(mg:Str->Option Value)(x:Str)(C:Addr):Prop where
 at_:mg x=some (.ref C)
 ok:qr K C
theorem n12:¬ (("house_count":Str)="tie_list"):=by decide +kernel
theorem Ys:¬ (("house_count":Str)="out_lists"):=by decide +kernel
theorem n14:¬ (("house_count":Str)="distances"):=by decide +kernel
theorem n34:¬ (("out_lists":Str)="distances"):=by decide +kernel
def uG(n:Int)(tl ol ds:Addr):List (Str×V):=dw "distances" (.ref ds) (dw "out_lists" (.ref ol) (dw "tie_list" (.ref tl) (dw "house_count" (.int n) [])))
theorem CQ(n:Int)(tl ol ds:Addr):(uG n tl ol ds).lookup ("house_count":Str)=some (.int n):=by
 unfold uG;rw[a7,aq n14,a7,aq Ys,a7,aq n12,a7,ak rfl]
theorem wP(n:Int)(tl ol ds:Addr){m:Str}(h1:¬ m="house_count")(h2:¬ m="tie_list")(h3:¬ m="out_lists")(h4:¬ m="distances"):(uG n tl ol ds).lookup m=none:=by
 unfold uG;rw[a7,aq h4,a7,aq h3,a7,aq h2,a7,aq h1];all_goals rfl
theorem Lc(n:Int)(tl ol ds:Addr):(uG n tl ol ds).lookup ("out_lists":Str)=some (.ref ol):=by
 unfold uG;rw[a7,aq n34,a7,ak rfl]
def jc(H:Hp)(L:Addr->Prop)(l:Addr)(n:Nat)(r:Nat->List Nat):Prop:=∃bs:List Addr,H l=some (.lst (bs.map V.ref))/\(∀b∈bs,L b)/\Holds H bs n (fun h=>.lst (NV (r h)))
theorem jc.keep(R:jc H L l n r)(hl:L l)(k:∀b o,L b->H b=some o->H' b=some o):jc H' L l n r:=
 let ⟨bs,a,b,c⟩:=R
 ⟨bs,k _ _ hl a,b,c.mono fun j hj e=>k _ _ (b _ (by rw[cq,cZ (by rw[c.1];exact hj)];exact iI _)) e⟩
theorem jc.row(R:jc H L l n r)(hh:h<n):∃ (bs:List Addr) (b:Addr),H l=some (.lst (bs.map V.ref))/\(bs.map V.ref)[h]?=some (V.ref b)/\H b=some (.lst (NV (r h)))/\L b:=by
 obtain⟨bs,a,b,c⟩:=R;have hl:h<bs.length:=by rw[c.1];exact hh
 refine⟨bs,bs[h],a,by rw[bJ,cZ hl];rfl,?_,b _ (iI _)⟩;have:=c.2 h hh;rw[cq,cZ hl] at this;exact this
def Ld(H:Hp)(L:Addr->Prop)(tl:Addr)(ts:Ts):Prop:=L tl/\∃zs:Zs,H tl=some (.lst (zr zs))/\PO H zs/\(∀z∈zs,L z.1)/\(zp zs).Perm ts/\Ord (zp zs)
theorem Ld.keep(h:Ld H L tl ts)(k:∀b o,L b->H b=some o->H' b=some o):Ld H' L tl ts:=
 let ⟨a,zs,b,c,d,e⟩:=h;⟨a,zs,k _ _ a b,fun z hz=>k _ _ (d z hz) (c z hz),d,e⟩
structure gU(C:Addr)(H:Hp)(L:Addr->Prop)(p:Addr)(n:Nat)(ts:Ts):Prop where
 qw:g8 n ts
 ob:∃dx tl ol ds,H p=some (.ins C dx (uG n tl ol ds))/\L ol/\L ds/\jc H L ol n (dX n ts)/\jc H L ds n (fun h=>(List.range n).map (Nh ts h))/\Ld H L tl ts
theorem gU.keep(N:gU C H L p n ts)(k:∀b o,L b->H b=some o->H' b=some o)(kp:∀o,H p=some o->H' p=some o):gU C H' L p n ts:=
 let ⟨dx,tl,ol,ds,a,l1,l2,b,c,d⟩:=N.ob
 ⟨N.qw,dx,tl,ol,ds,kp _ a,l1,l2,b.keep l1 k,c.keep l2 k,d.keep k⟩
theorem gU.same(N:gU C H L p n ts)(s:az H H'):gU C H' L p n ts:=N.keep (fun b o _ e=>s b o e) (fun o e=>s _ o e)
structure NT(K:PySem.W.Frag)(mg:Str->Option Value)(C:Addr):Prop where
 cl:E7 K C
 nH:gD K C "house_count"
 nT:gD K C "tie_list"
 nO:gD K C "out_lists"
 nD:gD K C "distances"
 Yt:mg "Net"=some (.ref C)
structure fD(P:Program)(w:World)(K:PySem.W.Frag)(mg:Str->Option Value)(base:Heap)(CX:xw)(k:Nat)(C:Addr)(x:Str)(ps:List Str)(sp:Sp):Prop where
 ex:∃f fd,Ke K C x f/\jo K fd ps []/\bi P w K mg base CX k f fd ps sp
section
variable {P:Program} {w:World} {K:PySem.W.Frag} {mg:Str->Option Value} {base:Heap}
theorem Le:aA ["self","thing"] ["self","thing"] (ao A4):=⟨rfl,rfl,rfl,by decide +kernel,rfl,by decide +kernel,by decide +kernel⟩
def qW(K:PySem.W.Frag)(C CE:Addr):Sp:=fun vs H Q E=>∃ (L:Addr->Prop) (p:Addr) (n:Nat) (ts:Ts) (x:V) (o:Option Int),vs=[.ref p,x]/\gU C H L p n ts/\Wh K H x o/\(be o 0 ((n:Int)-1)=false->E (.ref CE) none H)/\(be o 0 ((n:Int)-1)=true->Q .bR H)
theorem Ho{f C CE:Addr}{fd:FuncData}(F:eK K "check_house" "Net.check_house" A4 f fd)(T:NT K mg C)(e:Er K mg "NoHouse" CE)(HH:cu P w K mg base ba 3 "is_house" ["many","thing"] (lJ K)):
  bi P w K mg base (iE P w) 4 f fd ["self","thing"] (qW K C CE):=by
 refine F.M0 Le (fun vs H Q E h=>?_) (fun dC A outer s H vs Q E hr h=>?_)
 .obtain⟨L,p,n,ts,x,o,rfl,_⟩:=h;rfl
 .obtain⟨L,p,n,ts,x,o,rfl,N,wh,k1,k2⟩:=h;obtain⟨dx,tl,ol,ds,h1,_⟩:=N.ob;refine⟨_,aj (bp (cN (cp (av HH hr aE (aa (gG (pv 0) rfl) (aa (pv 1) af))))) (aj (kS (q:=fun H1=>E (.ref CE) none H1) rfl e.ok rfl e.at_ (aa rY af) (fun _ _ _ _ _ _ _ I m q=>kQ I m q))) aK),?_⟩;refine⟨_,rfl,p,C,dx,_,_,rfl,h1,T.cl,T.nH,CQ _ _ _ _,_,rfl,x,o,n,rfl,wh,_,rfl,?_⟩;cases hw:be o 0 ((n:Int)-1) with
  |false=>exact gY ⟨by show 1<=sizeLine;decide,k1 hw⟩
  |true=>exact fW (k2 hw)
theorem TD(n:Int)(tl ol ds:Addr):(uG n tl ol ds).lookup ("check_house":Str)=none:=wP n tl ol ds (by decide +kernel) (by decide +kernel) (by decide +kernel) (by decide +kernel)
theorem aT:(NV xs).length=xs.length:=aP _
theorem fZ{o:Option Int}{n:Nat}(h:be o 0 ((n:Int)-1)=true):∃i:Nat,i<n/\o=some (i:Int):=by
 cases o with
 |none=>cases h
 |some i=>
  unfold be at h;simp at h;exact⟨i.toNat,by lia,by congr 1;lia⟩
theorem dI{i n:Nat}(h:i<n):be (some (i:Int)) 0 ((n:Int)-1)=true:=by unfold be;simp;lia
def CU(K:PySem.W.Frag)(C CE:Addr)(ans:Hp->Nat->Ts->Nat->VK->Prop):Sp:=fun vs H Q E=>∃ (L:Addr->Prop) (p:Addr) (n:Nat) (ts:Ts) (x:V) (o:Option Int),vs=[.ref p,x]/\gU C H L p n ts/\Wh K H x o/\(be o 0 ((n:Int)-1)=false->E (.ref CE) none H)/\∀i:Nat,i<n->o=some (i:Int)->ans H n ts i Q
theorem TF:aA ["self","house"] ["self","house"] (ao OZ):=⟨rfl,rfl,rfl,by decide +kernel,rfl,by decide +kernel,by decide +kernel⟩
def Lf:Hp->Nat->Ts->Nat->VK->Prop:=fun H n ts i Q=>∀r H',az H H'->H r=none->H' r=some (.lst (NV (dX n ts i)))->Q (.ref r) H'
theorem pO{H:Hp}{x:V}{i:Int}(h:Wh K H x (some i)):x=.int i:=by cases h;rfl
theorem O0{f C CE:Addr}{fd:FuncData}(F:eK K "out" "Net.out" OZ f fd)(T:NT K mg C)(B:Bl mg)(M:fD P w K mg base (iE P w) 4 C "check_house" ["self","thing"] (qW K C CE)):
  bi P w K mg base (iE P w) 5 f fd ["self","house"] (CU K C CE Lf):=by
 obtain⟨fM,WB,mM,bM,GM⟩:=M.ex;refine F.M0 TF (fun vs H Q E h=>?_) (fun dC A outer s H vs Q E hr h=>?_)
 .obtain⟨L,p,n,ts,x,o,rfl,_⟩:=h;rfl
 .obtain⟨L,p,n,ts,x,o,rfl,N,wh,k1,k2⟩:=h;obtain⟨dx,tl,ol,ds,h1,_,_,R,_⟩:=N.ob;refine⟨_,ah (bG (dg (pv 0) T.cl mM GM hr bM .nil (uY (E':=E) fun _ _ _ z=>z) (aa (pv 1) af)))
   (aj (aF (bX nV (by rfl) B.lst rf (aa (a_ bQ (gG (pv 0) rfl) (pv 1) (fun _ _=>rfl)) af)))),?_⟩
  refine⟨_,rfl,p,dx,_,rfl,h1,TD _ _ _ _,_,rfl,L,p,n,ts,x,o,rfl,N,wh,k1,fun hw=>?_⟩;obtain⟨i,hi,rfl⟩:=fZ hw;obtain rfl:=pO wh;obtain⟨bs,b,r1,r2,r3,_⟩:=R.row hi;exact⟨_,rfl,p,C,dx,_,_,rfl,h1,T.cl,T.nO,Lc _ _ _ _,_,rfl,ol,_,_,_,rfl,rfl,bo.of r1,aB r2,b,_,rfl,.inl (bo.of r3),fun l hl=>k2 i hi rfl l _ (am hl) hl ag⟩
end
open PySem L2 jR
abbrev A5:Stmt:=fL 30
abbrev O1:Stmt:=fL 31
abbrev O2:Stmt:=fL 32
section
variable {P:Program} {w:World} {K:PySem.W.Frag} {mg:Str->Option Value} {base:Heap}
abbrev O4:Stmt:=fL 12
theorem TH:aA ["many","one","other"] ["many","one","other"] (ao O4):=⟨rfl,rfl,rfl,by decide +kernel,rfl,by decide +kernel,by decide +kernel⟩
def Hq:Sp:=fun vs H Q _=>∃ (n a b:Int),vs=[.int n,.int a,.int b]/\0<=a/\a<n/\0<=b/\b<n/\a≠b/\Q (.bl true) H
theorem O5(F:eK K "are_unlike_houses" "are_unlike_houses" O4 f fd)(HH:cu P w K mg base ba 3 "is_house" ["many","thing"] (lJ K)):
  bi P w K mg base ba 4 f fd ["many","one","other"] Hq:=by
 refine F.ok TH (fun vs H Q E h=>?_) (fun dC A outer s H vs Q E hr h=>?_)
 .obtain⟨n,a,b,rfl,_⟩:=h;rfl
 .obtain⟨n,a,b,rfl,a1,a2,b1,b2,lR,k⟩:=h;refine⟨_,aj (aF (kL (av HH hr aE (aa (pv 0) (aa (pv 1) af))) (kL (av HH hr aE (aa (pv 0) (aa (pv 2) af))) (mG (ge pX (pv 1) (pv 2) (aQ _)))))),?_⟩;refine⟨_,rfl,_,rfl,_,_,n,rfl,.int a,_,rfl,?_⟩;rw[ak (show be (some a) 0 (n-1)=true by unfold be;simp;lia)];refine⟨_,rfl,_,rfl,_,_,n,rfl,.int b,_,rfl,?_⟩;rw[ak (show be (some b) 0 (n-1)=true by unfold be;simp;lia)];refine⟨_,rfl,_,rfl,rfl,?_⟩;have e:(!decide (V.int a=V.int b))=true:=by simp[lR]
  rw[e];exact k
theorem TJ:aA ["many","thing"] ["many","thing"] (ao O1):=⟨rfl,rfl,rfl,by decide +kernel,rfl,by decide +kernel,by decide +kernel⟩
def Hr:Sp:=fun vs H Q _=>∃ (n:Int) (p:Addr) (a b:Int),vs=[.int n,.ref p]/\H p=some (.tup [.int a,.int b])/\0<=a/\a<n/\0<=b/\b<n/\a≠b/\Q (.bl true) H
theorem O6(F:eK K "is_tie" "is_tie" O1 f fd)(R:cu P w K mg base ba 1 "is_row" ["thing","length"] (vf K))(U:cu P w K mg base ba 4 "are_unlike_houses" ["many","one","other"] Hq):
  bi P w K mg base ba 5 f fd ["many","thing"] Hr:=by
 refine F.ok TJ (fun vs H Q E h=>?_) (fun dC A outer s H vs Q E hr h=>?_)
 .obtain⟨n,p,a,b,rfl,_⟩:=h;rfl
 .obtain⟨n,p,a,b,rfl,hp,a1,a2,b1,b2,lR,k⟩:=h;refine⟨_,aj (aF (kL (av R (hr.mono (by decide)) aE (aa (pv 1) (aa aD af)))
   (mG (av U hr aE (aa (pv 0) (aa (a_ bD (pv 1) aD (fun _ _=>rfl)) (aa (a_ bD (pv 1) aD (fun _ _=>rfl)) af))))))),?_⟩
  refine⟨_,rfl,_,_,_,rfl,.tup hp,true,rfl,?_⟩;exact⟨_,rfl,_,rfl,p,_,_,_,rfl,rfl,bh.of hp,aB (j:=0) rfl,_,rfl,p,_,_,_,rfl,rfl,bh.of hp,aB (j:=1) rfl,n,a,b,rfl,a1,a2,b1,b2,lR,k⟩
theorem CV:aA ["many","ties","tie"] ["many","ties"] (ao A5):=⟨rfl,rfl,rfl,by decide +kernel,rfl,by decide +kernel,by decide +kernel⟩
theorem yt:PySem.W.kitOne K (.type "list") (.type "list")=some true:=by kernel_rfl
structure f8(H:Hp)(l:Addr)(n:Nat)(zs:Zs):Prop where
 qw:g8 n (zp zs)
 at_:H l=some (.lst (zr zs))
 po:PO H zs
theorem f8.same(h:f8 H l n zs)(s:az H H'):f8 H' l n zs:=⟨h.qw,s _ _ h.at_,h.po.same s⟩
def lL:Sp:=fun vs H Q _=>∃ (n:Nat) (l:Addr) (zs:Zs),vs=[.int n,.ref l]/\f8 H l n zs/\∀H',az H H'->Q .bR H'
theorem Hs(F:eK K "check_ties" "check_ties" A5 f fd)(B:Bl mg)(gF:∃t,mg "FEWEST_HOUSES"=some (.int 2 t))(gM:∃t,mg "MOST_HOUSES"=some (.int 32 t))(W:cu P w K mg base ba 2 "is_whole_within" ["thing","least","most"] (lf K))(T:cu P w K mg base ba 5 "is_tie" ["many","thing"] Hr):
  bi P w K mg base ba 6 f fd ["many","ties"] lL:=by
 obtain⟨tF,gF⟩:=gF;obtain⟨tM,gM⟩:=gM;refine F.ok CV (fun vs H Q E h=>?_) (fun dC A outer s H vs Q E hr h=>?_)
 .obtain⟨n,l,zs,rfl,_⟩:=h;rfl
 .refine⟨_,ah (bp (cN (cp (av W (hr.mono (by decide)) aE (aa (pv 0) (aa (jK (v:=.int 2) rfl gF ⟨_,rfl⟩) (aa (jK (v:=.int 32) rfl gM ⟨_,rfl⟩) af)))))) dk aK)
   (ah (bp (cN (cp (aI fq (by rfl) B.K8 nB (aa (pv 1) (aa (gX (v:=.ty "list") rfl B.lst rf rfl) af))))) dk aK)
   (ah (cF d9 rfl (cU (pv 1)) (au (i:=2) CV.nd rfl (Or.inl rfl)) (aj (bp (cN (cp (av T hr aE (aa (pv 0) (aa (pv 2) af))))) dk aK)))
   (aj (bp (aJ pX (aI xW (by rfl) B.len ee (aa (bX (DV rfl (by have:=hr.un;show (A.deeper _).units+8<_;lia)) (by rfl) B.set PyProof.Rows.boot_set (aa (pv 1) af)) af)) (aI aM (by rfl) B.len ee (aa (pv 1) af)) (aQ _)) dk aK)))),?_⟩
  obtain⟨n,l,zs,rfl,tt,k⟩:=h;obtain⟨fi,hl,po⟩:=id tt;have n1:=fi.n1;have n2:=fi.n2;refine⟨_,rfl,_,_,2,32,rfl,.int n,_,rfl,?_⟩;rw[show be (some (n:Int)) 2 32=true by unfold be;simp;lia];refine fW ?_;refine⟨_,rfl,_,_,_,.type "list",true,rfl,⟨rfl,yt⟩,.of (.lst hl),_,rfl,fW ?_⟩;refine⟨_,rfl,l,rfl,⟨_,bo.of hl⟩,jm (K:=K) (a:=l) (xs:=zr zs) (fun i σ H2=>H2=H/\∃v,σ=[some (.int n),some (.ref l),v]) ⟨rfl,none,rfl⟩ (fun i σ H2 _ ⟨e,_⟩=>by rw[e];exact bo.of hl) ?_ ?_⟩
  .rintro i x σ H2 hx ⟨rfl,v,rfl⟩;obtain⟨z,hz,rfl⟩:=wN hx;have Nj:z∈zs:=dh hz;have hzp:z.2∈zp zs:=a9.mpr ⟨z,Nj,rfl⟩;have r:=fi.rg _ hzp;exact⟨_,rfl,_,rfl,n,_,_,_,rfl,po z Nj,r.1.1,r.1.2,r.2.1,r.2.2,fi.ne _ hzp,_,rfl,fW ⟨rfl,_,rfl⟩⟩
  .rintro σ H2 ⟨rfl,v,rfl⟩;have cY:(zp zs).length<=256:=fi.len;refine⟨_,rfl,l,zs.map (·.1),zp zs,rfl,bo.of (by rw[<-qU];exact hl),by rw[aP,dB],fun i hi=>?_,fi.nd,fun y hy=>?_,by lia,fun D hD=>?_⟩
   .rw[dB] at hi;rw[yr hi,CO hi];exact bh.of (po _ (iI hi))
   .have r:=fi.rg _ hy;lia
   .have nl:l≠D:=ap hl hD;refine⟨D,_,rfl,ag,by lia,_,rfl,l,zr zs,rfl,.inl (bo.of (by rw[al nl];exact hl)),rfl,_,rfl,?_⟩;have ez:(!decide (V.int (((zp zs).length:Nat):Int)=V.int (((zr zs).length:Nat):Int)))=false:=by rw[dB,lj];simp
    rw[ez];exact fW (k _ (am hD))
end
abbrev yu:Stmt:=fL 33
section
variable {P:Program} {w:World} {K:PySem.W.Frag} {mg:Str->Option Value} {base:Heap}
theorem pP(S:St->Prop)(p q:Int×Int->Int)(h:Int)(hD:H D=none)(hl:H l=some (.lst (zr zs)))(po:PO H zs)(hn:zs.length<=1000)(s0:S σB)(hg:∀z σ H2 (Kt:V->St->Hp->Prop) (Kf:St->Hp->Prop),z∈zs->S σ->H2 z.1=some (La z.2)->(∀σ2,S σ2->p z.2=h->Kt (.int (q z.2)) σ2 H2)->(∀σ2,S σ2->p z.2≠h->Kf σ2 H2)->
   g (.ref z.1) σ H2 fun σ2 H2=>tt σ2 H2 fun b H3=>if b=true then te σ2 H3 fun v H4=>Kt v σ2 H4 else Kf σ2 H3)(hd:cH (upd H D (.lst (IV (((zp zs).filter fun y=>decide (p y=h)).map q))))):gR (FG K l) g tt te D cH σB (upd H D (.lst [])):=by
 have nl:l≠D:=ap hl hD;have tk:∀ {i:Nat} {z:Addr×(Int×Int)},zs[i]?=some z->(zp zs).take (i+1)=(zp zs).take i++[z.2]:=fun {i z} hz=>by
  rw[iH,show (zp zs)[i]?=some z.2 by unfold zp;rw[bJ,hz];rfl];rfl
 refine jr (xs:=zr zs) (fun i ys σ H2=>S σ/\ys=IV ((((zp zs).take i).filter fun y=>decide (p y=h)).map q)/\H2=upd H D (.lst ys)) ⟨s0,by simp,rfl⟩ (fun i ys σ H2 _ ⟨_,_,e⟩=>by rw[e];exact bo.of (by rw[al nl];exact hl)) ?_ ?_
 .rintro i x ys σ H2 Kt Kf hx ⟨hS,ey,rfl⟩ kt kf;obtain⟨z,hz,rfl⟩:=wN hx;have Nj:z∈zs:=dh hz;have hp:=po z Nj;have na:z.1≠D:=ap hp hD;have hi:i<zs.length:=(cW.mp hz).1;refine hg z σ _ Kt Kf Nj hS (by rw[al na];exact hp) (fun σ2 s2 e=>?_) (fun σ2 s2 e=>?_)
  .refine kt _ _ _ ag ?_ ⟨s2,?_,?_⟩
   .rw[ey,aP,aP];exact eZ (ji _ _) (eZ (List.length_take_le _ _) (bA (show i<1000 by lia) (by decide)))
   .rw[ey,tk hz,j4,dG];have:decide (p z.2=h)=true:=by simp[e]
    simp[e8,this]
   .rw[qJ]
  .refine kf _ _ ⟨s2,?_,rfl⟩;have:decide (p z.2=h)=false:=by simp[e]
   rw[ey,tk hz,j4];simp[e8,this]
 .rintro ys σ H2 ⟨_,ey,rfl⟩;rw[lj,<-dB,gm] at ey;rw[ey];exact hd
theorem Rr:(["one","other","house"]:List Str).Nodup:=by decide +kernel
theorem CW:aA ["many","ties","house","leading_out","leading_in"] ["many","ties"] (ao O2):=⟨rfl,rfl,rfl,by decide +kernel,rfl,by decide +kernel,by decide +kernel⟩
theorem O7(F:eK K "check_balance" "check_balance" O2 f fd)(B:Bl mg)(gM:∃t,mg "MOST_TIES_OUT"=some (.int 8 t)):
  bi P w K mg base ba 1 f fd ["many","ties"] lL:=by
 obtain⟨tM,gM⟩:=gM;refine F.ok CW (fun vs H Q E h=>?_) (fun dC A outer s H vs Q E hr h=>?_)
 .obtain⟨n,l,zs,rfl,_⟩:=h;rfl
 .obtain⟨n,l,zs,rfl,T,k⟩:=h;have fi:=T.qw;have n1:=fi.n1;have n2:=fi.n2;have cY:zs.length<=256:=by have:=fi.len;rw[dB] at this;exact this
  refine'⟨_,aj (cF d9 rfl (cj rfl B.range (aa (pv 0) af)) (au (i:=2) CW.nd rfl (Or.inr rfl))
   (ah (aW (i:=3) CW.nd rfl (Or.inl rfl) (aI aM (by rfl) B.len ee (aa ?c1 af)))
   (ah (aW (i:=4) CW.nd rfl (Or.inl rfl) (aI aM (by rfl) B.len ee (aa ?c2 af)))
   (ah (bp (aJ pX (pv 3) (pv 4) (aQ _)) dk aK)
   (aj (bp (aJ xG (pv 3) (jK (v:=.int 8) rfl gM ⟨_,rfl⟩) (aQ _)) dk aK)))))),?_⟩
  case c1=>
   refine' dQ (g:=uA K 2 (fk (bW 0) (fk (bW 1) uz))) (NB:=["one","other","house"]) (src:=[none,none,some 2]) (cx (by kernel_rfl)) rfl (cU (pv 1)) ?g ?t ?e;case g=>exact fun cl C s₃ H₃ fp=>eA (n:=2) rfl (aN (au (i:=0) Rr rfl (Or.inl rfl) (Or.inr rfl)) (aN (au (i:=1) Rr rfl (Or.inl rfl) (Or.inr rfl)) dv))
   case t=>exact fun cl C s₃ H₃ fp=>eT (aJ jn (pv 0) (pv 2) (aQ _))
   case e=>exact fun cl C s₃ H₃ fp=>pv 0
  case c2=>
   refine' dQ (g:=uA K 2 (fk (bW 0) (fk (bW 1) uz))) (NB:=["one","other","house"]) (src:=[none,none,some 2]) (cx (by kernel_rfl)) rfl (cU (pv 1)) ?g ?t ?e;case g=>exact fun cl C s₃ H₃ fp=>eA (n:=2) rfl (aN (au (i:=0) Rr rfl (Or.inl rfl) (Or.inr rfl)) (aN (au (i:=1) Rr rfl (Or.inl rfl) (Or.inr rfl)) dv))
   case t=>exact fun cl C s₃ H₃ fp=>eT (aJ jn (pv 1) (pv 2) (aQ _))
   case e=>exact fun cl C s₃ H₃ fp=>pv 1
  refine⟨_,rfl,n,rfl,by lia,by lia,dZ (n:=n) (lo:=0) (fun i σ H2=>az H H2/\∃a b c,σ=[some (.int n),some (.ref l),a,b,c]) ⟨az.refl _,none,none,none,rfl⟩ ?_ ?_⟩
  .rintro i σ H2 hi ⟨sm,a,b,c,rfl⟩;have T2:=T.same sm;refine⟨_,rfl,l,rfl,⟨_,bo.of T2.at_⟩,fun D hD=>pP (fun σ=>∃a b,σ=[a,b,some (.int (0+(i:Int)))]) (·.1) (·.1) (0+(i:Int)) hD T2.at_ T2.po (by lia) ⟨_,_,rfl⟩ ?_ ?_⟩
   .rintro z σ H3 Kt Kf hj ⟨x,y,rfl⟩ ha kt kf;refine⟨z.1,_,rfl,bh.of ha,rfl,_,_,rfl,_,_,rfl,rfl,?_⟩;refine⟨_,rfl,_,rfl,rfl,_,rfl,?_⟩;refine iD (fun e=>?_) (fun e=>?_)
    .exact⟨_,rfl,kt _ ⟨_,_,rfl⟩ (by simpa using e)⟩
    .exact kf _ ⟨_,_,rfl⟩ (by simpa using e)
   .refine⟨D,_,rfl,.inl (bo.of ag),?_⟩;have Ev:=bN (o:=.lst (IV (((zp zs).filter fun y=>decide (y.1=0+(i:Int))).map (·.1)))) (sm.trans (az.refl _)) (H:=H) (by cases z:H D with|none=>rfl|some o=>rw[sm _ _ z] at hD;cases hD);have T3:=T.same Ev;refine⟨_,rfl,l,rfl,⟨_,bo.of T3.at_⟩,fun D' hD'=>pP (fun σ=>∃a b,σ=[a,b,some (.int (0+(i:Int)))]) (·.2) (·.2) (0+(i:Int)) hD' T3.at_ T3.po (by lia) ⟨_,_,rfl⟩ ?_ ?_⟩
    .rintro z σ H3 Kt Kf hj ⟨x,y,rfl⟩ ha kt kf;refine⟨z.1,_,rfl,bh.of ha,rfl,_,_,rfl,_,_,rfl,rfl,?_⟩;refine⟨_,rfl,_,rfl,rfl,_,rfl,?_⟩;refine iD (fun e=>?_) (fun e=>?_)
     .exact⟨_,rfl,kt _ ⟨_,_,rfl⟩ (by simpa using e)⟩
     .exact kf _ ⟨_,_,rfl⟩ (by simpa using e)
    .refine⟨D',_,rfl,.inl (bo.of ag),?_⟩;rw[fJ] at *;have q1:(IV (((zp zs).filter fun y=>decide (y.1=(i:Int))).map (·.1))).length=(IV (((zp zs).filter fun y=>decide (y.2=(i:Int))).map (·.2))).length:=by
      rw[aP,aP,aP,aP];exact fi.bal i
     have q2:(IV (((zp zs).filter fun y=>decide (y.1=(i:Int))).map (·.1))).length<=8:=by
      rw[aP,aP];exact fi.most i
     refine⟨_,rfl,_,rfl,rfl,_,rfl,?_⟩;rw[<-q1];rw[show (!decide (V.int (((IV (((zp zs).filter fun y=>decide (y.1=(i:Int))).map (·.1))).length:Nat):Int)=V.int (((IV (((zp zs).filter fun y=>decide (y.1=(i:Int))).map (·.1))).length:Nat):Int)))=false by simp];refine fW ?_;refine⟨_,rfl,_,_,rfl,rfl,_,rfl,?_⟩;rw[show decide ((((IV (((zp zs).filter fun y=>decide (y.1=(i:Int))).map (·.1))).length:Nat):Int) > 8)=false by rw[vA];lia];exact fW ⟨Ev.trans (am hD'),_,_,_,rfl⟩
  .rintro σ H2 ⟨sm,a,b,c,rfl⟩;exact k H2 sm
end
def Lg:Expr:=match (cz yu).getD 1 (.Pass ⟨0,0,0,0⟩) with
 |.Return (some (.Call _ _ (k::_) _)) _=>k.value
 |_=>.Name "x" ⟨0,0,0,0⟩
def Lh:Arguments:=match Lg with
 |.Lambda a _ _ _=>a
 |_=>{ posonlyargs:=[],args:=[],vararg:=none,kwonlyargs:=[],kw_defaults:=[],kwarg:=none,defaults:=[] }
def Li:Expr:=match Lg with
 |.Lambda _ b _ _=>b
 |e=>e
def TK:Scope:=match Lg with
 |.Lambda _ _ s _=>s
 |_=>{ kind:=.function,names:=[],isGenerator:=false,isCoroutine:=false }
def O8:Pos:=match Lg with
 |.Lambda _ _ _ p=>p
 |_=>⟨0,0,0,0⟩
def Nk:Str:=("houses_out":Str)++".<locals>."++"<lambda>"
abbrev nk(Pt:Addr)(H:Hp):Prop:=n6 O8 Nk Pt H
def vh(Pt:Addr)(H H':Hp):Prop:=∀b o,H b=some o->b≠Pt->H' b=some o
theorem vh.of(a:az H H'):vh Pt H H':=fun c o h _=>a c o h
theorem nk.not(t:nk Pt H)(h:H b=some o)(n:∀ps,o≠.qI ps):b≠Pt:=by
 rintro rfl;rcases t with z|⟨c,z,_⟩ <;> · rw[h] at z;exact n _ (bg z)
theorem nk.same(t:nk Pt H)(e:az H H'):nk Pt H':=by
 rcases t with z|⟨c,z,y⟩
 .exact .inl (e _ _ z)
 .exact .inr ⟨c,e _ _ z,e _ _ y⟩
theorem Lk{n a b h:Int}(hn:0<n)(a0:0<=a)(a1:a<n)(b0:0<=b)(b1:b<n)(e:(a-h) % n=(b-h) % n):a=b:=by
 have h1:=Int.emod_emod_of_dvd (a-h) (Int.dvd_refl n);have q:(a-b) % n=0:=by
  have:a-b=(a-h)-(b-h):=by lia
  rw[this,Int.sub_emod,e,Int.sub_self,Int.zero_emod]
 obtain⟨c,hc⟩:=Int.dvd_of_emod_eq_zero q;have c0:c=0:=by
  rcases Int.lt_trichotomy c 0 with z|z|z
  .have:n*c<=n*(-1):=Fk (by lia) (by lia);lia
  .exact z
  .have:n*1<=n*c:=Fk (by lia) (by lia);lia
 rw[c0] at hc;lia
theorem uH{ts:Ts}{h:Int}(nd:ts.Nodup):((ts.filter fun y=>decide (y.1=h)).map (·.2)).Nodup:=by
 refine L2.pG (nd.filter _) fun x hx y hy e=>?_;have a:=(bE.mp hx).2;have b:=(bE.mp hy).2;simp at a b;exact gy (a.trans b.symm) e
theorem Ew{n:Nat}{ts:Ts}{h:Nat}(F:g8 n ts)(hh:h<n){out:List Int}(ko:OK (h:Int) (n:Int) ((ts.filter fun y=>decide (y.1=(h:Int))).map (·.2)) out):out.map V.int=NV (dX n ts h):=by
 obtain⟨ps,hp,rfl,hs⟩:=ko;have DZ:(ps.map (·.2)).Perm ((ts.filter fun y=>decide (y.1=(h:Int))).map (·.2)):=by
  have:=hp.map (·.2);rw[fj] at this;refine this.trans (vU ?_);conv=>rhs;rw[<-jG ((ts.filter fun y=>decide (y.1=(h:Int))).map (·.2))]
  rfl
 have mem:∀z,z∈ps.map (·.2)↔((h:Int),z)∈ts:=fun z=>by
  rw[DZ.mem_iff,a9];constructor
  .rintro⟨y,hy,rfl⟩;obtain⟨y1,y2⟩:=bE.mp hy;have:y.1=(h:Int):=by simpa using y2
   rw[<-this];exact y1
  .intro hz;exact⟨_,bE.mpr ⟨hz,by simp⟩,rfl⟩
 have nd:(ps.map (·.2)).Nodup:=DZ.nodup_iff.mpr (uH F.nd);have key:∀q∈ps,q.1=(q.2-(h:Int)) % (n:Int):=fun q hq=>by
  obtain⟨z,_,e⟩:=a9.mp (hp.mem_iff.mp hq);rw[<-e]
 have hn:(0:Int)<n:=by have:=F.n1;lia
 have sorted:(ps.map (·.2)).Pairwise fun x y=>(x-(h:Int)) % (n:Int)<(y-(h:Int)) % (n:Int):=by
  refine j5.mpr ?_;have nd2:=j5.mp nd;refine(hs.and nd2).imp_of_mem fun {x y} hx hy Nf=>?_;have l1:=Nf.1;rw[key x hx,key y hy] at l1;have ax:=F.rg _ ((mem x.2).mp (a9.mpr ⟨x,hx,rfl⟩));have ay:=F.rg _ ((mem y.2).mp (a9.mpr ⟨y,hy,rfl⟩));have ne:(x.2-(h:Int)) % (n:Int)≠(y.2-(h:Int)) % (n:Int):=fun z=>Nf.2 (Lk hn ax.2.1 ax.2.2 ay.2.1 ay.2.2 z);lia
 have e:ps.map (·.2)=(dX n ts h).map fun (o:Nat)=>(o:Int):=by
  refine qc (k:=fun z=>(z-(h:Int)) % (n:Int)) sorted ?_ fun z=>?_
  .refine j5.mpr ?_;exact qb hh
  .rw[mem,a9];constructor
   .intro hz;have r:=F.rg _ hz;refine⟨z.toNat,(eO F hh).mpr ?_,by lia⟩;show (((h:Nat):Int),((z.toNat:Nat):Int))∈ts;rw[show ((z.toNat:Nat):Int)=z by lia];exact hz
   .rintro⟨o,ho,rfl⟩;exact(eO F hh).mp ho
 rw[e,fj];rfl
section
variable {P:Program} {w:World} {K:PySem.W.Frag} {mg:Str->Option Value} {base:Heap}
theorem Ht:aA ["many","ties","house","others"] ["many","ties","house"] (ao yu):=⟨rfl,rfl,rfl,by decide +kernel,rfl,by decide +kernel,by decide +kernel⟩
def wQ(Pt:Addr):Sp:=fun vs H Q _=>∃ (n:Nat) (l:Addr) (h:Nat) (zs:Zs),vs=[.int n,.ref l,.int h]/\h<n/\f8 H l n zs/\nk Pt H/\
 ∀ (r:Addr) (H':Hp),nk Pt H'->vh Pt H H'->H r=none->H' r=some (.lst (NV (dX n (zp zs) h)))->Q (.ref r) H'
theorem Ll(F:AM K "houses_out" "houses_out" yu f fd c)(B:Bl mg)(kb:K.In base)(hb:wA mg base)(hc:PySem.W.codeHdIn K c Pt=true):
  bi P w K mg base ba 1 f fd ["many","ties","house"] (wQ Pt):=by
 refine F.ok Ht (fun vs H Q E h=>?_) (fun A outer s H vs Q E hr h=>?_)
 .obtain⟨n,l,h,zs,rfl,_⟩:=h;rfl
 .obtain⟨n,l,h,zs,rfl,hh,T,tb,k⟩:=h;have fi:=T.qw;have n1:=fi.n1;have cY:zs.length<=256:=by have:=fi.len;rw[dB] at this;exact this
  have LS:SW (jN ba P w K mg base ["many","ties","house","others"] "houses_out" (ao yu) f (.ref c) A outer s H E).MQ Nk Lh Li TK "other" "house" "many" 2 0:=
   ⟨⟨_,_,_,_,_,rfl⟩,fun _ _ _ _ _=>rfl,rfl,rfl,rfl,rfl,rfl,rfl,rfl,by decide +kernel,by decide +kernel,by decide +kernel,rfl,rfl,rfl,by decide,⟨by decide,by decide⟩,⟨by decide,by decide⟩⟩
  refine'⟨_,ah (dR (i:=3) (g:=uA K 2 (fk (bW 0) (fk (bW 1) uz))) (NB:=["one","other","house"]) (src:=[none,none,some 2]) (cx (by kernel_rfl)) rfl (cU (pv 1)) ?g ?t ?e Ht.nd rfl rfl rfl)
   (aj (aF (DY (AK LS hr) rfl B.sorted zc (aa (pv 3) af) (Ki (OJ (NB:=["other","house","many"]) (src:=[none,some 2,some 0]) (KA kb hb hc) (cx (by kernel_rfl))) Og)))),?_⟩
  case g=>exact fun cl C s₃ H₃ fp=>eA (n:=2) rfl (aN (au (i:=0) Rr rfl (Or.inl rfl) (Or.inr rfl)) (aN (au (i:=1) Rr rfl (Or.inl rfl) (Or.inr rfl)) dv))
  case t=>exact fun cl C s₃ H₃ fp=>eT (aJ jn (pv 0) (pv 2) (aQ _))
  case e=>exact fun cl C s₃ H₃ fp=>pv 1
  refine⟨_,rfl,l,rfl,⟨_,bo.of T.at_⟩,fun D hD=>pP (fun σ=>∃a b,σ=[a,b,some (.int (h:Int))]) (·.1) (·.2) (h:Int) hD T.at_ T.po (by lia) ⟨_,_,rfl⟩ ?_ ?_⟩
  .rintro z σ H3 Kt Kf hj ⟨x,y,rfl⟩ ha kt kf;refine⟨z.1,_,rfl,bh.of ha,rfl,_,_,rfl,_,_,rfl,rfl,?_⟩;refine⟨_,rfl,_,rfl,rfl,_,rfl,?_⟩;refine iD (fun e=>?_) (fun e=>?_)
   .exact⟨_,rfl,kt _ ⟨_,_,rfl⟩ (by simpa using e)⟩
   .exact kf _ ⟨_,_,rfl⟩ (by simpa using e)
  .generalize JM:((zp zs).filter fun y=>decide (y.1=(h:Int))).map (·.2)=os;have Gx:os.length<=8:=by rw[<-JM,aP];exact fi.most h
   have sm:az H (upd H D (.lst (IV os))):=am hD;refine⟨_,rfl,tb.same sm,fun f' c' H2 t2' mB N2 Ku=>?_⟩;have t2:nk Pt H2:=t2';have pQ:H2 D=some (.lst (IV os)):=mB _ _ ag ((tb.same sm).not ag (by intro ps z;cases z));refine⟨D,f',c',os,h,n,rfl,rfl,bo.of pQ,(by lia),Ku,N2,rfl,rfl,by lia,fun r out Fa ko=>?_⟩;rw[<-JM] at ko;rw[Ew fi hh ko];have Ev:az H2 (upd H2 r (.lst (NV (dX n (zp zs) h)))):=am Fa;refine k r _ (t2.same Ev) (fun b o e hb=>Ev _ _ (mB b o (sm _ _ e) hb)) ?_ ag;cases z:H r with
   |none=>rfl
   |some o=>
    by_cases hP:r=Pt
    .rcases t2 with q|⟨_,q,_⟩ <;> · rw[<-hP,Fa] at q;cases q
    .rw[mB r o (sm _ _ z) hP] at Fa;cases Fa
end
abbrev Hu:Stmt:=fL 34
abbrev A6:Stmt:=fL 35
def lS(n:Nat)(R:List Nat)(f:Nat->Nat):List V:=(List.range n).map fun x=>if x∈R then V.int ((f x:Nat):Int) else .bR
theorem ll:(lS n R f).length=n:=by unfold lS;rw[aP,dW]
theorem lm(h:x<n):(lS n R f)[x]?=some (if x∈R then V.int ((f x:Nat):Int) else .bR):=by
 unfold lS;rw[bJ,oH h];rfl
theorem A7(hs:s<n):(List.replicate n V.bR).set s (V.int 0)=lS n [s] (fun _=>0):=by
 apply mm;intro x;by_cases hx:x<n
 .rw[lm hx];by_cases e:x=s
  .subst e;rw[rh (by rw[me];exact hx),ak (by simp)];rfl
  .rw[vH (fun z=>e z.symm),List.getElem?_replicate,ak hx,aq (by simp[e])]
 .rw[gK (by rw[vT,me];lia),gK (by rw[ll];lia)]
theorem Hv(hv:v<n):(lS n R f).set v (V.int ((k:Nat):Int))=lS n (R++[v]) (put f v k):=by
 apply mm;intro x;by_cases hx:x<n
 .rw[lm hx];by_cases e:x=v
  .subst e;rw[rh (by rw[ll];exact hx),ak (by simp),k4]
  .rw[vH (fun z=>e z.symm),lm hx,gI e];by_cases h:x∈R
   .rw[ak h,ak (kr _ h)]
   .rw[aq h,aq (fun z=>(dO.mp z).elim h fun z=>e (by simpa using z))]
 .rw[gK (by rw[vT,ll];lia),gK (by rw[ll];lia)]
def TN(σ:St):Nat:=match σ[4]? with
 |some (some (V.int z))=>z.toNat
 |_=>0
theorem nbO:(["others"]:List Str).Nodup:=by decide +kernel
def tj(H:Hp)(ol:Addr)(n:Nat)(ts:Ts):Prop:=∃bs:List Addr,H ol=some (.lst (bs.map V.ref))/\Holds H bs n (fun h=>.lst (NV (dX n ts h)))
theorem tj.same(x:tj H ol n ts)(e:az H H'):tj H' ol n ts:=let ⟨bs,a,b⟩:=x;⟨bs,e _ _ a,b.mono fun _ _ z=>e _ _ z⟩
theorem Nl{as:List Addr}{i:Nat}{x:V}(h:(as.map V.ref)[i]?=some x):i<as.length/\x=.ref (as.getD i 0):=by
 rw[bJ] at h;cases e:as[i]? with
 |none=>rw[e] at h;cases h
 |some a=>
  rw[e] at h;refine⟨(cW.mp e).1,?_⟩;rw[cq,e];exact(bg h).symm
section
variable {P:Program} {w:World} {K:PySem.W.Frag} {mg:Str->Option Value} {base:Heap}
theorem mW:aA ["out_lists","start","distances","reached","at","house","other"] ["out_lists","start"] (ao Hu):=⟨rfl,rfl,rfl,by decide +kernel,rfl,by decide +kernel,by decide +kernel⟩
def wR:Sp:=fun vs H Q _=>∃ (ol:Addr) (n s:Nat) (ts:Ts),vs=[.ref ol,.int s]/\g8 n ts/\s<n/\tj H ol n ts/\
 ∀ (r:Addr) (H':Hp),az H H'->H r=none->H' r=some (.lst (NV ((List.range n).map (Nh ts s))))->Q (.ref r) H'
theorem Lm{f:Addr}{fd:FuncData}(F:eK K "distances_from" "distances_from" Hu f fd)(B:Bl mg):bi P w K mg base ba 1 f fd ["out_lists","start"] wR:=by
 refine F.ok mW (fun vs H Q E h=>?_) (fun dC A outer s H vs Q E hr h=>?_)
 .obtain⟨ol,n,s,ts,rfl,_⟩:=h;rfl
 .obtain⟨ol,n,st,ts,rfl,fi,hs,O,k⟩:=h;have n1:=fi.n1;have n2:=fi.n2;refine'⟨_,ah (dR (i:=2) (g:=bW 0) (NB:=["others"]) (src:=[none]) (cx (by kernel_rfl)) rfl (cU (pv 0)) ?g ?t ?e mW.nd rfl rfl rfl)
   (ah (i9 aD (o_ (pv 2) (pv 1) ip))
   (ah (aW (i:=3) mW.nd rfl (Or.inl rfl) (eF (aa (pv 1) af)))
   (ah (aW (i:=4) mW.nd rfl (Or.inl rfl) aD)
   (ah (FE d9 (aJ r0 (pv 4) (aI aM (by rfl) B.len ee (aa (pv 3) af)) (aQ _))
    (ah (aW (i:=5) mW.nd rfl (Or.inl rfl) (a_ bQ (pv 3) (pv 4) (fun _ _=>rfl)))
    (ah (cF d9 rfl (cU (a_ bQ (pv 0) (pv 5) (fun _ _=>rfl))) (au (i:=6) mW.nd rfl (Or.inl rfl))
     (aj (bp (aJ jM (a_ bQ (pv 2) (pv 6) (fun _ _=>rfl)) cn (aQ _))
      (ah (i9 (bu eC (a_ bQ (pv 2) (pv 5) (fun _ _=>rfl)) aD) (o_ (pv 2) (pv 6) ip))
      (aj (bG (ir hX jg jf cI (pv 3) (aa (pv 6) af))))) aK)))
    (aj (pc (i:=4) mW.nd rfl (Or.inl rfl) aD Ag)))))
   (aj (aF (pv 2))))))),?_⟩
  case g=>exact fun cl C s₃ H₃ fp=>au (i:=0) nbO rfl (Or.inl rfl) (Or.inr rfl)
  case t=>exact fun cl C s₃ H₃ fp=>d_
  case e=>exact fun cl C s₃ H₃ fp=>cn
  obtain⟨bs,Gx,Yu,Rj⟩:=id O;refine⟨_,rfl,ol,rfl,⟨_,bo.of Gx⟩,fun D hD=>?_⟩;have nol:ol≠D:=ap Gx hD;refine jr (xs:=bs.map V.ref) (fun i ys σ H2=>(∃a,σ=[a])/\ys=List.replicate i V.bR/\H2=upd H D (.lst ys)) ⟨⟨_,rfl⟩,rfl,rfl⟩ (fun i ys σ H2 _ ⟨_,_,e⟩=>by rw[e];exact bo.of (by rw[al nol];exact Gx)) ?_ ?_
  .rintro i x ys σ H2 Kt Kf hx ⟨⟨a,rfl⟩,rfl,rfl⟩ kt kf;have hi:=(Nl hx).1;refine kt _ _ _ ag ?_ ⟨⟨_,rfl⟩,?_,by rw[qJ]⟩
   .rw[me];exact bA hi (by rw[Yu];exact bj n2 (by decide))
   .rw[zk]
  .rintro ys σ H2 ⟨_,rfl,rfl⟩;rw[aP,Yu];refine⟨_,rfl,_,rfl,D,_,st,st,rfl,rfl,ag,by rw[me];exact iQ hs,?_⟩;rw[qJ,A7 hs];refine⟨_,rfl,by show 1<=sizeLine;decide,fun R hR=>?_⟩;have WC:D≠R:=ap (H:=upd H D (.lst (lS n [st] (fun _=>0)))) ag hR;have Yv:H R=none:=by rw[al WC.symm] at hR;exact hR
   refine FJ (fun σ H2=>∃ (i:Nat) (Rs:List Nat) (f:Nat->Nat),i<=Rs.length/\Em n ts st i Rs f/\(∃a b,σ=[some (.ref ol),some (.int st),some (.ref D),some (.ref R),some (.int (i:Int)),a,b])/\az H H2/\H2 D=some (.lst (lS n Rs f))/\H2 R=some (.lst (NV Rs)))
    (fun σ _=>n-TN σ) ⟨0,[st],fun _=>0,cr _,Em.start hs,⟨none,none,rfl⟩,bN (am hD) Yv,?_,ag⟩ ?_ ?_
   .rw[al WC,ag]
   .rintro σ H2 ⟨i,Rs,f,hi,Bf,⟨a,b,rfl⟩,sm,pQ,Yw⟩;have hRn:Rs.length<=n:=jT Bf.nd Bf.lt;refine⟨_,rfl,_,rfl,R,_,rfl,.inl (bo.of Yw),_,_,rfl,rfl,_,rfl,?_⟩;rw[aT];by_cases pK:i<Rs.length
    .rw[show decide ((i:Int)<((Rs.length:Nat):Int))=true by simp;lia];refine gY ?_;have hu:Rs[i]?=some Rs[i]:=cZ pK;generalize Rs[i]=u at hu;have Lo:u<n:=Bf.lt u (dh hu);have huR:(NV Rs)[i]?=some (.int (u:Int)):=by rw[bJ,hu];rfl
     refine⟨_,rfl,_,rfl,R,_,_,_,rfl,rfl,bo.of Yw,aB huR,?_⟩;have Nm:(bs.map V.ref)[u]?=some (.ref (bs.getD u 0)):=by
      rw[bJ,cq,cZ (by rw[Yu];exact Lo)];rfl
     have TQ:=sm _ _ (Rj _ Lo);refine⟨_,rfl,_,rfl,ol,_,_,_,rfl,rfl,bo.of (sm _ _ Gx),aB Nm,_,rfl,⟨_,bo.of TQ⟩,?_⟩;have nbD:bs.getD u 0≠D:=ap (Rj _ Lo) hD;have nbR:bs.getD u 0≠R:=ap (Rj _ Lo) Yv;refine jm (K:=K) (xs:=NV (dX n ts u)) (fun j σ H3=>∃ (qx:List Nat) (f':Nat->Nat),Em n ts st i qx f'/\qx[i]?=some u/\(∀v∈(dX n ts u).take j,v∈qx/\f' v<=f' u+1)/\
      (∃b,σ=[some (.ref ol),some (.int st),some (.ref D),some (.ref R),some (.int (i:Int)),some (.int (u:Int)),b])/\az H H3/\H3 D=some (.lst (lS n qx f'))/\H3 R=some (.lst (NV qx)))
      ⟨Rs,f,Bf,hu,fun v hv=>by simp at hv,⟨_,rfl⟩,sm,pQ,Yw⟩ (fun j σ H3 _ ⟨_,_,_,_,_,_,Nn,_⟩=>bo.of (Nn _ _ (Rj _ Lo))) ?_ ?_
     .rintro j x σ H3 hx ⟨qx,f',Lp,Cg,dn,⟨b',rfl⟩,Nn,qy,JQ⟩;rw[bJ] at hx;cases hv:(dX n ts u)[j]? with
      |none=>rw[hv] at hx;cases hx
      |some v=>
       rw[hv] at hx;obtain rfl:V.int ((v:Nat):Int)=x:=bg hx;have hvm:v∈dX n ts u:=dh hv;have WD:v<n:=K3 fi Lo hvm;have tuv:T ts u v:=(eO fi Lo).mp hvm;have tk:(dX n ts u).take (j+1)=(dX n ts u).take j++[v]:=by rw[iH,hv];rfl
       have TR:u∈qx:=dh Cg;refine⟨_,rfl,_,rfl,D,_,_,_,rfl,rfl,bo.of qy,aB (lm WD),rfl,_,rfl,?_⟩;by_cases O9:v∈qx
       .rw[ak O9];refine fW ⟨qx,f',Lp,Cg,fun x hx=>?_,⟨_,rfl⟩,Nn,qy,JQ⟩;rw[tk] at hx;rcases dO.mp hx with z|z
        .exact dn x z
        .simp at z;subst z;exact⟨O9,Lp.bd u Cg _ O9⟩
       .rw[aq O9];refine gY ?_;have hg2:(lS n qx f')[u]?=some (.int ((f' u:Nat):Int)):=by rw[lm Lo,ak TR]
        refine⟨_,rfl,_,rfl,D,_,_,_,rfl,rfl,bo.of qy,aB hg2,_,_,rfl,rfl,_,rfl,_,rfl,D,_,_,_,rfl,rfl,qy,by rw[ll];exact iQ WD,?_⟩;have e1:(lS n qx f').set v (.int (((f' u:Nat):Int)+1))=lS n (qx++[v]) (put f' v (f' u+1)):=by
         rw[show ((f' u:Nat):Int)+1=((f' u+1:Nat):Int) by lia,Hv WD]
        rw[e1];have yn:(upd H3 D (.lst (lS n (qx++[v]) (put f' v (f' u+1))))) R=some (.lst (NV qx)):=by rw[al WC.symm];exact JQ
        have TU:qx.length<=n:=jT Lp.nd Lp.lt;refine⟨_,rfl,.inl ⟨rfl,_,bo.of yn⟩,_,rfl,R,_,_,rfl,rfl,yn,by rw[aT];exact bA (show qx.length<33 by lia) (by decide),?_⟩;have Fe:i<qx.length:=(cW.mp Cg).1;have nuv:u≠v:=fun z=>O9 (z ▸ TR);refine⟨qx++[v],put f' v (f' u+1),Lp.add Cg WD tuv O9,by rw[nE Fe];exact Cg,fun x hx=>?_,⟨_,rfl⟩,bN (bN Nn hD) Yv,?_,?_⟩
        .rw[gI nuv];rw[tk] at hx;rcases dO.mp hx with z|z
         .obtain⟨q1,q2⟩:=dn x z;exact⟨kr _ q1,by rw[gI (fun (z:x=v)=>O9 (z ▸ q1))];exact q2⟩
         .simp at z;subst z;exact⟨by simp,by rw[k4];exact aX _⟩
        .rw[al WC,ag]
        .rw[ag];show _=some (HO.lst (NV (qx++[v])));rw[show NV (qx++[v])=NV qx++[.int (v:Int)] by unfold NV;rw[dG];rfl]
     .rintro σ H3 ⟨qx,f',Lp,Cg,dn,⟨b',rfl⟩,Nn,qy,JQ⟩;rw[aT,gm] at dn;have Fe:i<qx.length:=(cW.mp Cg).1;have TU:qx.length<=n:=jT Lp.nd Lp.lt;refine⟨_,rfl,_,_,rfl,rfl,⟨⟨i+1,qx,f',Fe,Lp.next Cg (fun v t=>dn v ((eO fi Lo).mpr t)),⟨_,_,rfl⟩,Nn,qy,JQ⟩,?_⟩⟩;show n-((i:Int)+1).toNat<n-(i:Int).toNat;lia
    .rw[show decide ((i:Int)<((Rs.length:Nat):Int))=false by rw[vA];lia];have e:lS n Rs f=NV ((List.range n).map (Nh ts st)):=by
      unfold lS NV;rw[fj];refine kn fun x hx=>?_;obtain⟨q1,q2⟩:=Bf.done fi (by lia) (dt.mp hx);rw[ak q1,q2];rfl
     rw[e] at pQ;refine fW ⟨_,rfl,k D H2 sm hD pQ⟩
   .rintro σ H2 Q1 Q2 imp ⟨v,e1,v2,e2,p,ys,e3,e4,i1,i2,e5,e6,kk,e7,q⟩;exact⟨v,e1,v2,e2,p,ys,e3,e4,i1,i2,e5,e6,kk,e7,imp _ _ q⟩
end
theorem TV:(["row"]:List Str).Nodup:=by decide +kernel
section
variable {P:Program} {w:World} {K:PySem.W.Frag} {mg:Str->Option Value} {base:Heap}
theorem Lq:aA ["distances"] ["distances"] (ao A6):=⟨rfl,rfl,rfl,by decide +kernel,rfl,by decide +kernel,by decide +kernel⟩
def wS:Sp:=fun vs H Q _=>∃ (l:Addr) (ds:List Addr) (n:Nat) (o:Nat->List V),vs=[.ref l]/\H l=some (.lst (ds.map V.ref))/\n<=32/\Holds H ds n (fun j=>.lst (o j))/\(∀j,j<n->∀x∈o j,∃i,x=.int i)/\∀H',az H H'->Q .bR H'
theorem Hw(F:eK K "check_reached" "check_reached" A6 f fd)(B:Bl mg):bi P w K mg base ba 1 f fd ["distances"] wS:=by
 refine F.ok Lq (fun vs H Q E h=>?_) (fun dC A outer s H vs Q E hr h=>?_)
 .obtain⟨l,ds,n,o,rfl,_⟩:=h;rfl
 .obtain⟨l,ds,n,o,rfl,hl,n2,hh,hx,k⟩:=h;refine'⟨_,aj (bp (cp (aI (DW rfl) (by rfl) B.any PyProof.Rows.boot_any (aa ?c af))) dk aK),?_⟩;case c=>
   refine' dQ (g:=bW 0) (te:=oy (Xo K false) (tC .bR) (br 0)) (NB:=["row"]) (src:=[none]) (cx (by kernel_rfl)) rfl (cU (pv 0)) ?g ?t ?e;case g=>exact fun cl C s₃ H₃ fp=>au (i:=0) TV rfl (Or.inl rfl) (Or.inr rfl)
   case t=>exact fun cl C s₃ H₃ fp=>d_
   case e=>exact fun cl C s₃ H₃ fp=>ge hV cn (pv 0) rfl
  refine⟨_,rfl,l,rfl,⟨_,bo.of hl⟩,fun D hD=>?_⟩;have nl:l≠D:=ap hl hD;refine jr (xs:=ds.map V.ref) (fun i ys σ H2=>(∃a,σ=[a])/\ys=(List.replicate i false).map V.bl/\H2=upd H D (.lst ys)) ⟨⟨_,rfl⟩,rfl,rfl⟩ (fun i ys σ H2 _ ⟨_,_,e⟩=>by rw[e];exact bo.of (by rw[al nl];exact hl)) ?_ ?_
  .rintro i x ys σ H2 Kt Kf hxi ⟨⟨a,rfl⟩,rfl,rfl⟩ kt kf;obtain⟨hi,rfl⟩:=Nl hxi;rw[hh.1] at hi;have hd:=hh.2 i hi;have nd:ds.getD i 0≠D:=ap hd hD;have q1:(o i).all iq=true:=ij.mpr fun x jA=>by obtain⟨z,rfl⟩:=hx i hi x jA;rfl
   have q2:Cc .bR (o i)=false:=by
    unfold Cc;rw[zL];intro x jA;obtain⟨z,rfl⟩:=hx i hi x jA;exact fun z=>by cases z
   refine⟨_,rfl,_,_,rfl,.inl (bo.of (by rw[al nd];exact hd)),rfl,q1,?_⟩;refine kt _ _ _ ag ?_ ⟨⟨_,rfl⟩,?_,by rw[qJ]⟩
   .rw[aP,me];exact bA hi (bj n2 (by decide))
   .rw[zk,dG,q2];rfl
  .rintro ys σ H2 ⟨_,rfl,rfl⟩;refine⟨D,_,rfl,bo.of ag,_,rfl,?_⟩;have e:(List.replicate (ds.map V.ref).length false).any id=false:=by
    rw[zL];intro x jA;rw[(List.mem_replicate.mp jA).2];decide
   rw[e];exact fW (k _ (am hD))
end
theorem nb2:(["one","other"]:List Str).Nodup:=by decide +kernel
theorem TX:(["house","many","ties"]:List Str).Nodup:=by decide +kernel
theorem Yx:(["house","self"]:List Str).Nodup:=by decide +kernel
def l3(p Pt:Addr)(H H':Hp):Prop:=∀b o,H b=some o->b≠p->b≠Pt->H' b=some o
theorem f8.mono(h:f8 H l n zs)(e:l3 p Pt H H')(hp:H p=some (.ins C dx fs))(tb:nk Pt H):f8 H' l n zs:=
 ⟨h.qw,e _ _ h.at_ (dH h.at_ hp (by intro z;cases z)) (tb.not h.at_ (by intro ps z;cases z)),fun z hz=>e _ _ (h.po z hz) (dH (h.po z hz) hp (by intro z;cases z)) (tb.not (h.po z hz) (by intro ps z;cases z))⟩
theorem nk.mono(t:nk Pt H)(e:∀b o,H b=some o->b≠p->H' b=some o)(hp:H p=some (.ins C dx fs)):nk Pt H':=by
 rcases t with z|⟨c,z,y⟩
 .exact .inl (e _ _ z (dH z hp (by intro q;cases q)))
 .exact .inr ⟨c,e _ _ z (dH z hp (by intro q;cases q)),e _ _ y (dH y hp (by intro q;cases q))⟩
theorem nk.full(t:nk Pt H):H Pt≠none:=by
 rcases t with z|⟨c,z,y⟩ <;> rw[z] <;> intro q <;> cases q
theorem l3.free(s:l3 p Pt H H')(hp:H' p≠none)(tb:nk Pt H')(h:H' r=none):H r=none:=by
 cases z:H r with
 |none=>rfl
 |some o=>
  by_cases e1:r=p
  .subst e1;exact absurd h hp
  .by_cases e2:r=Pt
   .subst e2;exact absurd h tb.full
   .rw[s r o z e1 e2] at h;cases h
theorem TY(h:k [] H):mL σ H k:=h
theorem lM{H:Hp}{p:Addr}{o:HO}(h:H p=some o):H p≠none:=by rw[h];intro z;cases z
section
variable {P:Program} {w:World} {K:PySem.W.Frag} {mg:Str->Option Value} {base:Heap}
theorem O_:aA ["self","many","ties"] ["self","many","ties"] (ao CP):=⟨rfl,rfl,rfl,by decide +kernel,rfl,by decide +kernel,by decide +kernel⟩
def A8(C Pt:Addr):Sp:=fun vs H Q E=>∃ (p dx:Addr) (n:Nat) (l:Addr) (zs:Zs),vs=[.ref p,.int n,.ref l]/\H p=some (.ins C dx [])/\f8 H l n zs/\nk Pt H/\
  ∀H',gU C H' (fun a=>H a=none) p n (zp zs)->nk Pt H'->l3 p Pt H H'->Q .bR H'
theorem Lr{f C Pt:Addr}{fd:FuncData}(F:eK K "__init__" "Net.__init__" CP f fd)(T:NT K mg C)(B:Bl mg)(CT:cu P w K mg base ba 6 "check_ties" ["many","ties"] lL)(CB:cu P w K mg base ba 1 "check_balance" ["many","ties"] lL)(HO':cu P w K mg base ba 1 "houses_out" ["many","ties","house"] (wQ Pt))(DF:cu P w K mg base ba 1 "distances_from" ["out_lists","start"] wR)(CR:cu P w K mg base ba 1 "check_reached" ["distances"] wS):
  bi P w K mg base ba 7 f fd ["self","many","ties"] (A8 C Pt):=by
 refine F.ok O_ (fun vs H Q E h=>?_) (fun dC A outer s H vs Q E hr h=>?_)
 .obtain⟨p,dx,n,l,zs,rfl,_⟩:=h;rfl
 .have A9:bL 1 _:=hr.mono (by decide);refine'⟨_,ah (bG (av CT hr aE (aa (pv 1) (aa (pv 2) af))))
   (ah (bG (av CB A9 aE (aa (pv 1) (aa (pv 2) af))))
   (ah (pz (pv 0) (pv 1) rfl)
   (ah (pz (pv 0) (aI AU (by rfl) B.sorted zc (aa ?c1 af)) rfl)
   (ah (pz (pv 0) ?c2 rfl)
   (ah (pz (pv 0) ?c3 rfl)
   (aj (bG (av CR A9 aE (aa (gG (pv 0) rfl) af))))))))),?_⟩
  case c1=>
   refine' dQ (g:=uA K 2 (fk (bW 0) (fk (bW 1) uz))) (te:=Of (eE (br 0) (eE (br 1) mL))) (NB:=["one","other"]) (src:=[none,none]) (cx (by kernel_rfl)) rfl (cU (pv 2)) ?g ?t ?e;case g=>exact fun cl C s₃ H₃ fp=>eA (n:=2) rfl (aN (au (i:=0) nb2 rfl (Or.inl rfl) (Or.inr rfl)) (aN (au (i:=1) nb2 rfl (Or.inl rfl) (Or.inr rfl)) dv))
   case t=>exact fun cl C s₃ H₃ fp=>d_
   case e=>exact fun cl C s₃ H₃ fp=>fV (aa (pv 0) (aa (pv 1) af))
  case c2=>
   refine' dQ (g:=bW 0) (te:=pY (wQ Pt) [] E0 (eE (br 1) (eE (br 2) (eE (br 0) mL)))) (NB:=["house","many","ties"]) (src:=[none,some 1,some 2]) (cx (by kernel_rfl)) rfl (cj rfl B.range (aa (pv 1) af)) ?g ?t ?e;case g=>exact fun cl C s₃ H₃ fp=>au (i:=0) TX rfl (Or.inl rfl) (Or.inr rfl)
   case t=>exact fun cl C s₃ H₃ fp=>d_
   case e=>exact fun cl C s₃ H₃ fp=>av HO' A9 aE (aa (pv 1) (aa (pv 2) (aa (pv 0) af)))
  case c3=>
   refine' dQ (g:=bW 0) (te:=pY wR [] E0 (eE (Se K (br 1) "out_lists") (eE (br 0) mL))) (NB:=["house","self"]) (src:=[none,some 0]) (cx (by kernel_rfl)) rfl (cj rfl B.range (aa (pv 1) af)) ?g ?t ?e;case g=>exact fun cl C s₃ H₃ fp=>au (i:=0) Yx rfl (Or.inl rfl) (Or.inr rfl)
   case t=>exact fun cl C s₃ H₃ fp=>d_
   case e=>exact fun cl C s₃ H₃ fp=>av DF A9 aE (aa (gG (pv 1) rfl) (aa (pv 0) af))
  obtain⟨p,dx,n,l,zs,rfl,hp,TT,tb,k⟩:=h;have fi:=TT.qw;have n1:=fi.n1;have n2:=fi.n2;have cY:zs.length<=256:=by have:=fi.len;rw[dB] at this;exact this
  refine⟨_,rfl,_,rfl,n,l,zs,rfl,TT,fun H1 s1=>?_⟩;refine⟨_,rfl,_,rfl,n,l,zs,rfl,TT.same s1,fun H2 s2=>?_⟩;have mX:az H H2:=s1.trans s2;refine⟨_,rfl,_,rfl,p,C,dx,[],rfl,mX _ _ hp,T.cl,T.nH,(by show 0<1000;decide),?_⟩
  let G1:Hp:=upd H2 p (.ins C dx (dw "house_count" (.int n) []))
  have d1:l3 p Pt H G1:=fun b o e h1 _=>by show upd _ _ _ _=_;rw[al h1];exact mX _ _ e
  have WE:G1 p=some (.ins C dx (dw "house_count" (.int n) [])):=ag;have Yy:f8 G1 l n zs:=TT.mono d1 hp tb;have Yz:nk Pt G1:=tb.mono (fun b o e h1=>by show upd _ _ _ _=_;rw[al h1];exact mX _ _ e) hp;refine⟨_,rfl,l,rfl,⟨_,bo.of Yy.at_⟩,fun D hD=>?_⟩;refine Hm (fun y=>y) (fun σ=>∃a b,σ=[a,b]) Yy.at_ Yy.po hD (by lia) ⟨_,_,rfl⟩ ?_ ?_
  .rintro z σ H3 R Kf hz ⟨a,b,rfl⟩ ha kk;refine⟨_,_,rfl,bh.of ha,rfl,_,_,rfl,_,_,rfl,rfl,?_⟩;exact⟨_,rfl,_,rfl,by show 2<=sizeLine;decide,fun t ht=>kk _ _ ⟨_,_,rfl⟩ ht⟩
  .intro zs2 H3 sm qy TZ ez fr2;rw[List.map_id'] at ez;have hl2:zs2.length=zs.length:=by rw[<-dB,ez,dB]
   refine TY ?_;refine Lb qy TZ (by lia) (fun u hu=>by have:=(fi.rg u (ez ▸ hu)).2;lia) fun tl Rt Ru pm ord=>?_;have YA:H tl=none:=d1.free (lM WE) Yz (sm.free Ru);have JJ:∀z∈Rt,H z.1=none:=fun z hz=>d1.free (lM WE) Yz (fr2 z (pm.mem_iff.mp hz));have YB:H3 p=some (.ins C dx (dw "house_count" (.int n) [])):=sm _ _ WE;have Pa:p≠tl:=ap YB Ru;refine⟨_,rfl,p,C,dx,_,rfl,by rw[al Pa];exact YB,T.cl,T.nT,by show 1<1000;decide,?_⟩
   let G2:Hp:=upd (upd H3 tl (.lst (zr Rt))) p (.ins C dx (dw "tie_list" (.ref tl) (dw "house_count" (.int n) [])))
   have q2:∀b o,H3 b=some o->b≠p->G2 b=some o:=fun b o e h1=>by
    show upd _ _ _ _=_;rw[al h1,al (ap e Ru)];exact e
   have d2:l3 p Pt H G2:=fun b o e h1 h2=>q2 _ _ (sm _ _ (d1 _ _ e h1 h2)) h1;have g2t:G2 tl=some (.lst (zr Rt)):=by show upd _ _ _ _=_;rw[al Pa.symm,ag]
   have YC:PO G2 Rt:=fun z hz=>q2 _ _ (TZ z (pm.mem_iff.mp hz)) (dH (TZ z (pm.mem_iff.mp hz)) YB (by intro z;cases z));have Pb:G2 p=some (.ins C dx (dw "tie_list" (.ref tl) (dw "house_count" (.int n) []))):=ag;have TT2:f8 G2 l n zs:=TT.mono d2 hp tb;have Pc:nk Pt G2:=Yz.mono (fun b o e h1=>q2 _ _ (sm _ _ e) h1) WE;refine⟨_,rfl,n,rfl,by lia,by lia,fun D2 pQ=>?_⟩;refine iw (n:=n) (lo:=0) (fun i ys σ H4=>(∃a,σ=[a,some (.int n),some (.ref l)])/\∃bs:List Addr,ys=bs.map V.ref/\(∀b∈bs,H b=none)/\Holds H4 bs i (fun h=>.lst (NV (dX n (zp zs) h)))/\vh Pt G2 H4/\nk Pt H4/\H4 D2=some (.lst ys)/\∀b∈bs,b≠D2)
    ⟨⟨_,rfl⟩,[],rfl,(fun _ h=>nomatch h),Holds.nil,vh.of (am pQ),Pc.same (am pQ),ag,(fun _ h=>nomatch h)⟩ ?_ ?_
   .rintro i ys σ H4 Kt Kf hi ⟨⟨a,rfl⟩,bs,rfl,YD,hb,HK,Rv,yv,YE⟩ kt kf;have TT4:f8 H4 l n zs:=TT2.mono (p:=p) (fun b o e _ h2=>HK _ _ e h2) Pb Pc;have Rx:=HK _ _ Pb (Pc.not Pb (by intro ps z;cases z));refine⟨_,rfl,_,rfl,_,rfl,n,l,i,zs,by rw[fJ];rfl,hi,TT4,Rv,fun r H5 t5 um JS WF=>?_⟩;have YF:H r=none:=l3.free (fun b o e h1 h2=>HK _ _ (d2 _ _ e h1 h2) h2) (lM Rx) Rv JS;have WG:H5 D2=some (.lst (bs.map V.ref)):=um _ _ yv (Rv.not yv (by intro ps z;cases z));have T4:r≠D2:=by rintro rfl;rw[yv] at JS;cases JS
    have l4:∀b o pI,H5 b=some o->b≠D2->(upd H5 D2 pI) b=some o:=fun b o pI e h=>by rw[al h];exact e
    refine kt _ _ _ WG (by rw[aP,hb.1];exact bA hi (bj n2 (by decide))) ⟨⟨_,rfl⟩,bs++[r],by rw[dG];rfl,?_,?_,?_,?_,ag,?_⟩
    .intro b jq;rcases dO.mp jq with z|z
     .exact YD b z
     .rw[dL.mp z];exact YF
    .refine Holds.snoc (hb.mono fun j hj e=>?_) (l4 _ _ _ WF T4);refine l4 _ _ _ (um _ _ e (Rv.not e (by intro ps z;cases z))) (YE _ ?_);rw[cq,cZ (by rw[hb.1];exact hj)];exact iI _
    .intro b o e h;exact l4 _ _ _ (um _ _ (HK _ _ e h) h) (ap e pQ)
    .rcases t5 with z|⟨c,z,y⟩
     .exact .inl (l4 _ _ _ z (dH z WG (by intro q;cases q)))
     .exact .inr ⟨c,l4 _ _ _ z (dH z WG (by intro q;cases q)),l4 _ _ _ y (dH y WG (by intro q;cases q))⟩
    .intro b jq;rcases dO.mp jq with z|z
     .exact YE b z
     .rw[dL.mp z];exact T4
   .rintro ys σ H4 ⟨_,bs,rfl,YD,hb,HK,Rv,yv,YE⟩;have Rx:H4 p=some (.ins C dx (dw "tie_list" (.ref tl) (dw "house_count" (.int n) []))):=HK _ _ Pb (Pc.not Pb (by intro ps z;cases z));have YG:H D2=none:=d2.free (lM Pb) Pc pQ;refine⟨_,rfl,p,C,dx,_,rfl,Rx,T.cl,T.nO,by have h1:=eD "tie_list" (V.ref tl) (dw "house_count" (V.int n) []);have h2:=eD "house_count" (V.int n) [];simp at h2;lia,?_⟩
    let G3:Hp:=upd H4 p (.ins C dx (dw "out_lists" (.ref D2) (dw "tie_list" (.ref tl) (dw "house_count" (.int n) []))))
    have q3:∀b o,H4 b=some o->b≠p->G3 b=some o:=fun b o e h1=>by show upd _ _ _ _=_;rw[al h1];exact e
    have Pd:G3 p=some (.ins C dx (dw "out_lists" (.ref D2) (dw "tie_list" (.ref tl) (dw "house_count" (.int n) [])))):=ag;have d3:l3 p Pt H G3:=fun b o e h1 h2=>q3 _ _ (HK _ _ (d2 _ _ e h1 h2) h2) h1;have YH:nk Pt G3:=Rv.mono q3 Rx;have WH:Holds G3 bs n (fun h=>.lst (NV (dX n (zp zs) h))):=hb.mono fun j hj e=>q3 _ _ e (dH e Rx (by intro z;cases z));have YI:G3 D2=some (.lst (bs.map V.ref)):=q3 _ _ yv (dH yv Rx (by intro z;cases z));have O3:tj G3 D2 n (zp zs):=⟨bs,YI,WH⟩
    refine⟨_,rfl,n,rfl,by lia,by lia,fun D3 Ey=>?_⟩;refine iw (n:=n) (lo:=0) (fun i ys σ H6=>(∃a,σ=[a,some (.ref p)])/\∃ds:List Addr,ys=ds.map V.ref/\(∀b∈ds,H b=none)/\Holds H6 ds i (fun s=>.lst (NV ((List.range n).map (Nh (zp zs) s))))/\az G3 H6/\H6 D3=some (.lst ys)/\∀b∈ds,b≠D3)
     ⟨⟨_,rfl⟩,[],rfl,(fun _ h=>nomatch h),Holds.nil,am Ey,ag,(fun _ h=>nomatch h)⟩ ?_ ?_
    .rintro i ys σ H6 Kt Kf hi ⟨⟨a,rfl⟩,ds,rfl,YJ,hd,Ls,tm,Sb⟩ kt kf;refine⟨_,rfl,p,C,dx,_,_,rfl,Ls _ _ Pd,T.cl,T.nO,by rw[a7,ak rfl],_,rfl,D2,n,i,zp zs,by rw[fJ];rfl,fi,hi,O3.same Ls,fun r H7 YK T5 hr7=>?_⟩;have e7D:H7 D3=some (.lst (ds.map V.ref)):=YK _ _ tm;have T4:r≠D3:=by rintro rfl;rw[tm] at T5;cases T5
     have YF:H r=none:=l3.free (fun b o e h1 h2=>Ls _ _ (d3 _ _ e h1 h2)) (lM (Ls _ _ Pd)) (YH.same Ls) T5;have l4:∀b o pI,H7 b=some o->b≠D3->(upd H7 D3 pI) b=some o:=fun b o pI e h=>by rw[al h];exact e
     refine kt _ _ _ e7D (by rw[aP,hd.1];exact bA hi (bj n2 (by decide))) ⟨⟨_,rfl⟩,ds++[r],by rw[dG];rfl,?_,?_,?_,ag,?_⟩
     .intro b jq;rcases dO.mp jq with z|z
      .exact YJ b z
      .rw[dL.mp z];exact YF
     .refine Holds.snoc (hd.mono fun j hj e=>?_) (l4 _ _ _ hr7 T4);refine l4 _ _ _ (YK _ _ e) (Sb _ ?_);rw[cq,cZ (by rw[hd.1];exact hj)];exact iI _
     .intro b o e;exact l4 _ _ _ (YK _ _ (Ls _ _ e)) (ap e Ey)
     .intro b jq;rcases dO.mp jq with z|z
      .exact Sb b z
      .rw[dL.mp z];exact T4
    .rintro ys σ H6 ⟨_,ds,rfl,YJ,hd,Ls,tm,Sb⟩;have T6:=Ls _ _ Pd;refine⟨_,rfl,p,C,dx,_,rfl,T6,T.cl,T.nD,by have h1:=eD "tie_list" (V.ref tl) (dw "house_count" (V.int n) []);have h2:=eD "house_count" (V.int n) [];have h3:=eD "out_lists" (V.ref D2) (dw "tie_list" (V.ref tl) (dw "house_count" (V.int n) []));simp at h2;lia,?_⟩;have q4:∀b o u,H6 b=some o->b≠p->(upd H6 p u) b=some o:=fun b o u e h1=>by rw[al h1];exact e
     refine⟨_,rfl,p,C,dx,_,_,rfl,ag,T.cl,T.nD,by rw[a7,ak rfl],D3,ds,n,fun s=>NV ((List.range n).map (Nh (zp zs) s)),rfl,q4 _ _ _ tm (dH tm T6 (by intro z;cases z)),n2,hd.mono fun j hj e=>q4 _ _ _ e (dH e T6 (by intro z;cases z)),fun j hj x hx=>?_,fun H8 s8=>?_⟩
     .obtain⟨y,hy,rfl⟩:=a9.mp hx;exact⟨_,rfl⟩
     .have up:∀b o,G3 b=some o->b≠p->H8 b=some o:=fun b o e h1=>s8 _ _ (q4 _ _ _ (Ls _ _ e) h1);have YL:H D3=none:=d3.free (lM Pd) YH Ey;have upT:∀b o,G2 b=some o->b≠p->b≠Pt->H8 b=some o:=fun b o e h1 h2=>up _ _ (q3 _ _ (HK _ _ e h2) h1) h1;refine k H8 ⟨fi,dx,tl,D2,D3,s8 _ _ ag,YG,YL,⟨bs,up _ _ YI (dH YI Pd (by intro z;cases z)),YD,WH.mono fun j hj e=>up _ _ e (dH e Pd (by intro z;cases z))⟩,
       ⟨ds,s8 _ _ (q4 _ _ _ tm (dH tm T6 (by intro z;cases z))),YJ,hd.mono fun j hj e=>s8 _ _ (q4 _ _ _ e (dH e T6 (by intro z;cases z)))⟩,
       ⟨YA,Rt,upT _ _ g2t Pa.symm (Pc.not g2t (by intro ps z;cases z)),fun z hz=>upT _ _ (YC z hz) (dH (YC z hz) Pb (by intro z;cases z)) (Pc.not (YC z hz) (by intro ps z;cases z)),JJ,((show (zp Rt).Perm (zp zs2) from pm.map _).trans (vU ez)),ord⟩⟩ ?_ fun b o e h1 h2=>up _ _ (d3 _ _ e h1 h2) h1
      exact YH.mono up Pd
end
theorem iS:NV xs++[.int (x:Int)]=NV (xs++[x]):=by unfold NV;rw[dG];rfl
theorem qe{xs:List Nat}{i:Nat}{x:V}(h:(NV xs)[i]?=some x):∃y,xs[i]?=some y/\x=.int (y:Int):=by
 unfold NV at h;rw[bJ] at h;cases e:xs[i]? with
 |none=>rw[e] at h;cases h
 |some z=>rw[e] at h;exact⟨z,rfl,(bg h).symm⟩
end tf
namespace L2
open PySem PySem.Spec PyProof.Rows
section
variable {X:Cx}
end
end L2
namespace tf
open PySem L2 jR
section
variable {P:Program} {w:World} {K:PySem.W.Frag} {mg:Str->Option Value} {base:Heap}
theorem Pe:aA ["self"] ["self"] (ao Hn):=⟨rfl,rfl,rfl,by decide +kernel,rfl,by decide +kernel,by decide +kernel⟩
def A_(C:Addr):Sp:=fun vs H Q _=>∃ (L:Addr->Prop) (p:Addr) (n:Nat) (ts:Ts),vs=[.ref p]/\gU C H L p n ts/\Q (.int n) H
theorem Lu{f C:Addr}{fd:FuncData}(F:eK K "many" "Net.many" Hn f fd)(T:NT K mg C):bi P w K mg base ba 1 f fd ["self"] (A_ C):=by
 refine F.ok Pe (fun vs H Q E h=>?_) (fun dC A outer s H vs Q E hr h=>?_)
 .obtain⟨L,p,n,ts,rfl,_⟩:=h;rfl
 .obtain⟨L,p,n,ts,rfl,N,k⟩:=h;obtain⟨dx,tl,ol,ds,h1,_⟩:=N.ob;refine⟨_,aj (aF (gG (pv 0) rfl)),?_⟩;exact⟨_,rfl,p,C,dx,_,_,rfl,h1,T.cl,T.nH,CQ _ _ _ _,k⟩
end
end tf
namespace L2
open PySem PySem.Spec PyProof.Rows
theorem Ba{X:Cx}:R3 X .Mult (fun x y H Q=>∃i j,x=.int i/\y=.int j/\FK i j/\Q (.int (i*j)) H):=by
 intro ae s σ H x y v u Q I r1 r2 h;obtain⟨i,j,e1,e2,c,q⟩:=h;subst e1;subst e2;obtain⟨t,rfl⟩:=r1;obtain⟨t',rfl⟩:=r2;exact imul_int ⟨.int _,H,I.tok _,⟨_,rfl⟩,q⟩ c.ok
end L2
namespace tf
open PySem L2 jR
abbrev HP:Stmt:=fL 40
abbrev wT:Stmt:=fL 41
abbrev wU:Stmt:=fL 43
abbrev wV:Stmt:=fL 44
abbrev HQ:Stmt:=fL 45
def vi(ns:List Nat):Nat:=ns.foldl (·*·) 1
theorem Bb{ns:List Nat}{x:Nat}:vi (ns++[x])=vi ns*x:=by unfold vi;rw[vN];rfl
theorem HR{ns:List Nat}:vi ns=pr ns:=by
 have go:∀ (l:List Nat) (a:Nat),l.foldl (·*·) a=a*pr l:=fun l=>by
  induction l with
  |nil=>intro a;exact(kF a).symm
  |cons x l ih=>intro a;rw[iJ,ih];show a*x*pr l=a*(x*pr l);rw[mw]
 unfold vi;rw[go,wd]
theorem jc.weak{H:Hp}{L L':Addr->Prop}{l:Addr}{n:Nat}{r:Nat->List Nat}(R:jc H L l n r)(h:∀a,L a->L' a):jc H L' l n r:=let ⟨bs,a,b,c⟩:=R;⟨bs,a,fun x hx=>h _ (b x hx),c⟩
theorem gU.weak{C:Addr}{H:Hp}{L L':Addr->Prop}{p:Addr}{n:Nat}{ts:Ts}(N:gU C H L p n ts)(h:∀a,L a->L' a):gU C H L' p n ts:=
 let ⟨dx,tl,ol,ds,a,l1,l2,b,c,d1,zs,d2,d3,d4,d5⟩:=N.ob
 ⟨N.qw,dx,tl,ol,ds,a,h _ l1,h _ l2,b.weak h,c.weak h,h _ d1,zs,d2,d3,fun z hz=>h _ (d4 z hz),d5⟩
def qf(H:Hp)(D:Addr)(ts:Ts)(H2:Hp):Prop:=az H H2/\∃zs:Zs,H2 D=some (.lst (zr zs))/\PO H2 zs/\zp zs=ts
theorem qf.add{H H2:Hp}{D t:Addr}{ts:Ts}{u:Int×Int}{zs:Zs}(hD:H D=none)(sm:az H H2)(h1:H2 D=some (.lst (zr zs)))(po:PO H2 zs)(ez:zp zs=ts)(ht:H2 t=none):qf H D (ts++[u]) (upd (upd H2 t (La u)) D (.lst (zr zs++[.ref t]))):=by
 have nD:D≠t:=ap h1 ht;refine⟨bN (sm.trans (am ht)) hD,zs++[(t,u)],by rw[ag,lK];rfl,?_,?_⟩
 .refine PO.putL (xs:=zr zs) ?_ (by rw[al nD];exact h1);exact(po.putN ht).append (PO.one ag)
 .rw[vg,ez];rfl
section
variable {P:Program} {w:World} {K:PySem.W.Frag} {mg:Str->Option Value} {base:Heap}
abbrev HU(C Pt:Addr)(H:Hp)(n:Nat)(ts:Ts)(Q:VK):Prop:=∀ (p:Addr) (H':Hp),H p=none->gU C H' (fun a=>H a=none) p n ts->nk Pt H'->vh Pt H H'->Q (.ref p) H'
theorem lq:aA ["many","pairs","ties","pair","one","other"] ["many","pairs"] (ao wT):=⟨rfl,rfl,rfl,by decide +kernel,rfl,by decide +kernel,by decide +kernel⟩
def tu(C Pt:Addr):Sp:=fun vs H Q _=>∃ (n:Nat) (l:Addr) (zs:Zs),vs=[.int n,.ref l]/\H l=some (.lst (zr zs))/\PO H zs/\g8 n (nj (zp zs))/\nk Pt H/\HU C Pt H n (nj (zp zs)) Q
theorem Ez{f C Pt fI:Addr}{fd YM:FuncData}(F:eK K "pairs_net" "pairs_net" wT f fd)(B:Bl mg)(T:NT K mg C)(M:Mk K C fI)(bI:jo K YM ["self","many","ties"] [])(GI:bi P w K mg base ba 7 fI YM ["self","many","ties"] (A8 C Pt))(R:cu P w K mg base ba 1 "is_row" ["thing","length"] (vf K)):
  bi P w K mg base ba 9 f fd ["many","pairs"] (tu C Pt):=by
 refine F.ok lq (fun vs H Q E h=>?_) (fun dC A outer s H vs Q E hr h=>?_)
 .obtain⟨n,l,zs,rfl,_⟩:=h;rfl
 .obtain⟨n,l,zs,rfl,hl,po,fi,tb,k⟩:=h;have h1:bL 1 _:=hr.mono (by decide);refine⟨_,ah (bp (cN (cp (aI fq (by rfl) B.K8 nB (aa (pv 1) (aa (gX (v:=.ty "list") rfl B.lst rf rfl) af))))) dk aK)
   (ah (aW (i:=2) lq.nd rfl (Or.inl rfl) (eF af))
   (ah (cF d9 rfl (cU (pv 1)) (au (i:=3) lq.nd rfl (Or.inl rfl))
    (ah (bp (cN (cp (av R h1 aE (aa (pv 3) (aa aD af))))) dk aK)
    (ah (i9 (pv 3) (eA (n:=2) rfl (aN (au (i:=4) lq.nd rfl (Or.inl rfl)) (aN (au (i:=5) lq.nd rfl (Or.inl rfl)) dv))))
    (ah (bG (ir hX jg jf cI (pv 2) (aa (fV (aa (pv 4) (aa (pv 5) af))) af)))
    (aj (bG (ir hX jg jf cI (pv 2) (aa (fV (aa (pv 5) (aa (pv 4) af))) af))))))))
   (aj (aF (B5 M GI hr rfl T.Yt bI .nil aE (aa (pv 0) (aa (pv 2) af))))))),?_⟩
  have cY:2*zs.length<=256:=by have:=fi.len;rw[wI,dB] at this;exact this
  refine⟨_,rfl,_,_,_,.type "list",true,rfl,⟨rfl,yt⟩,.of (.lst hl),_,rfl,fW ?_⟩;refine⟨by show 0<=sizeLine;decide,fun D hD=>?_⟩;refine⟨_,rfl,l,rfl,⟨_,bo.of (am hD _ _ hl)⟩,jm (K:=K) (xs:=zr zs) (fun i σ H2=>(∃x3 x4 x5,σ=[some (.int n),some (.ref l),some (.ref D),x3,x4,x5])/\qf H D (nj ((zp zs).take i)) H2) ⟨⟨_,_,_,rfl⟩,am hD,[],ag,PO.nil,rfl⟩ (fun i σ H2 _ z=>bo.of (z.2.1 _ _ hl)) ?_ ?_⟩
  .rintro i x σ H2 hx ⟨⟨x3,x4,x5,rfl⟩,Ev,ys,hy,YN,ey⟩;obtain⟨z,hz,rfl⟩:=wN hx;have hi:i<zs.length:=(cW.mp hz).1;have ha:=Ev _ _ (po z (dh hz));have T7:ys.length<=256:=by rw[<-dB,ey,wI,ii,dB];lia
   refine⟨_,rfl,_,_,_,rfl,.tup ha,_,rfl,fW ?_⟩;refine⟨_,rfl,_,_,rfl,bh.of ha,rfl,_,_,rfl,_,_,rfl,rfl,?_⟩;refine⟨_,rfl,.inl ⟨rfl,_,bo.of hy⟩,_,rfl,_,rfl,by show 2<=sizeLine;decide,fun t ht=>?_⟩;refine⟨D,_,_,rfl,rfl,am ht _ _ hy,by rw[lj];exact eZ T7 (by decide),?_⟩;obtain⟨Nn,ys3,YO,TZ,ey3⟩:=qf.add (u:=z.2) hD Ev hy YN ey ht;have YQ:ys3.length=ys.length+1:=by rw[<-dB,ey3,<-ey,dU,dB];rfl
   generalize upd (upd H2 t _) D _=H3 at *;refine⟨_,rfl,.inl ⟨rfl,_,bo.of YO⟩,_,rfl,_,rfl,by show 2<=sizeLine;decide,fun t2 Ry=>?_⟩;refine⟨D,_,_,rfl,rfl,am Ry _ _ YO,by rw[lj,YQ];exact eZ (zO T7) (by decide),⟨_,_,_,rfl⟩,?_⟩;have P4:=qf.add (u:=CI z.2) hD Nn YO TZ ey3 Ry;have e2:(zp zs)[i]?=some z.2:=by unfold zp;rw[bJ,hz];rfl
   rw[iH,e2,Option.toList_some,A0];rw[dE] at P4;exact P4
  .rintro σ H2 ⟨⟨x3,x4,x5,rfl⟩,Ev,ys,hy,YN,ey⟩;rw[lj,<-dB,gm] at ey;refine⟨_,rfl,_,rfl,fun px dx nx YR YS=>?_⟩;have sN:az H2 (upd (upd H2 dx (.own px)) px (.ins C dx [])):=(am (o:=.own px) YR).trans (am (D:=px) (o:=.ins C dx []) (by rw[al YS.symm];exact nx));have gpx:(upd (upd H2 dx (.own px)) px (.ins C dx [])) px=some (.ins C dx []):=ag;have sM:=Ev.trans sN;generalize upd (upd H2 dx (.own px)) px (.ins C dx [])=HM at *;have TM:f8 HM D n ys:=⟨by rw[ey];exact fi,sN _ _ hy,YN.same sN⟩
   refine⟨px,dx,n,D,ys,rfl,gpx,TM,tb.same sM,fun H7 N7 t7 s7=>⟨rfl,?_⟩⟩;have npx:H px=none:=Ev.free nx;rw[ey] at N7;exact k px H7 npx (N7.weak fun a ha=>sM.free ha) t7 fun b o e h=>s7 _ _ (sM _ _ e) (ap e npx) h
theorem vj{o:Option Int}{a b:Nat}(h:be o a b=true):∃n:Nat,a<=n/\n<=b/\o=some (n:Int):=by
 cases o with
 |none=>cases h
 |some i=>
  unfold be at h;simp at h;exact⟨i.toNat,by lia,by lia,by congr 1;lia⟩
theorem HU.same{C Pt:Addr}{H H1:Hp}{n:Nat}{ts:Ts}{Q:VK}(k:HU C Pt H n ts Q)(s:az H H1):HU C Pt H1 n ts Q:=fun p H' hp N t st=>k p H' (s.free hp) (N.weak fun a ha=>s.free ha) t fun b o e h=>st _ _ (s _ _ e) h
end
inductive Sd (K:PySem.W.Frag) (H:Hp):V->Option (List (Option Int))->Prop where
 |tup {p:Addr} {xs:List V} {os:List (Option Int)} (h:H p=some (.tup xs)) (hl:xs.length=os.length) (e:∀ (i:Nat) x o,xs[i]?=some x->os[i]?=some o->Wh K H x o):Sd K H (.ref p) (some os)
 |no {x:V} {t:Value} (ty:Ri K H x t) (h:PySem.W.kitOne K t (.type "tuple")=some false):Sd K H x none
def kj(os:List (Option Int)):List Nat:=os.map fun o=>(o.getD 0).toNat
def box:Option (List (Option Int))->Option (List Nat)
 |none=>none
 |some os=>if decide (1<=os.length)&&(decide (os.length<=5)&&(os.all (fun o=>be o 2 8)&&decide (pr (kj os)<=32))) then some (kj os) else none
theorem HV{os:List (Option Int)}{ns:List Nat}(h:box (some os)=some ns):ns=kj os/\1<=ns.length/\ns.length<=5/\(∀x∈ns,2<=x/\x<=8)/\pr ns<=32/\os=ns.map fun (n:Nat)=>some (n:Int):=by
 unfold box at h;dsimp only at h;by_cases c:(decide (1<=os.length)&&(decide (os.length<=5)&&(os.all (fun o=>be o 2 8)&&decide (pr (kj os)<=32))))=true
 .rw[ak c] at h;simp only[gP,ml,ij] at c;obtain⟨c1,c2,c3,c4⟩:=c;obtain rfl:=bg h;have ex:∀o∈os,∃n:Nat,2<=n/\n<=8/\o=some (n:Int):=fun o ho=>vj (a:=2) (b:=8) (c3 o ho);refine⟨rfl,by unfold kj;rw[aP];exact c1,by unfold kj;rw[aP];exact c2,fun x hx=>?_,c4,?_⟩
  .obtain⟨o,ho,rfl⟩:=a9.mp hx;obtain⟨n,n1,n2,rfl⟩:=ex o ho;exact⟨by show 2<=(n:Int).toNat;lia,by show (n:Int).toNat<=8;lia⟩
  .unfold kj;rw[fj];conv=>lhs;rw[<-jG os]
   refine kn fun o ho=>?_;obtain⟨n,n1,n2,rfl⟩:=ex o ho;show some (n:Int)=some (((n:Int).toNat:Nat):Int);exact congrArg some (by lia)
 .rw[aq c] at h;cases h
section
variable {P:Program} {w:World} {K:PySem.W.Frag} {mg:Str->Option Value} {base:Heap}
theorem wW:aA ["numbers","result","number"] ["numbers"] (ao HQ):=⟨rfl,rfl,rfl,by decide +kernel,rfl,by decide +kernel,by decide +kernel⟩
def tw(K:PySem.W.Frag):Sp:=fun vs H Q _=>∃ (a:Addr) (ns:List Nat),vs=[.ref a]/\bh K H a (NV ns)/\(∀x∈ns,x<=1000)/\Q (.int (pr ns)) H
theorem Lv{f:Addr}{fd:FuncData}(F:eK K "product" "product" HQ f fd):bi P w K mg base ba 1 f fd ["numbers"] (tw K):=by
 refine F.ok wW (fun vs H Q E h=>?_) (fun dC A outer s H vs Q E hr h=>?_)
 .obtain⟨a,ns,rfl,_⟩:=h;rfl
 .obtain⟨a,ns,rfl,hS,hx,k⟩:=h;refine⟨_,ah (aW (i:=1) wW.nd rfl (Or.inl rfl) aD)
   (ah (cF d9 rfl (mJ (pv 0)) (au (i:=2) wW.nd rfl (Or.inl rfl)) (aj (pc (i:=1) wW.nd rfl (Or.inl rfl) (pv 2) Ba)))
   (aj (aF (pv 1)))),?_⟩
  refine⟨_,rfl,a,rfl,⟨_,hS⟩,lD (K:=K) (xs:=NV ns) (fun i σ H2=>H2=H/\∃x,σ=[some (.ref a),some (.int (vi (ns.take i))),x]) ⟨rfl,_,rfl⟩ (fun i σ H2 _ z=>by rw[z.1];exact hS) ?_ ?_⟩
  .rintro i x σ H2 jA ⟨rfl,y,rfl⟩;obtain⟨v,hv,rfl⟩:=qe jA;have h1:=hx v (dh hv);refine⟨_,rfl,_,rfl,_,_,rfl,rfl,.inr ⟨by lia,by lia⟩,rfl,some (.int v),?_⟩;have tk:ns.take (i+1)=ns.take i++[v]:=by rw[iH,hv];rfl
   rw[tk,Bb];rfl
  .rintro σ H2 ⟨rfl,x,rfl⟩;rw[aT,gm,HR];exact⟨_,rfl,k⟩
end
end tf
namespace jR
def No(m:Nat)(ns:List Nat)(i:Nat):List (Nat×Nat):=(List.range i).flatMap fun j=>uF m (pr (ns.take j)) (ns.getD j 0)
theorem l6{α:Type}{f:Nat->List α}{n:Nat}:(List.range (n+1)).flatMap f=(List.range n).flatMap f++f n:=by
 rw[il,List.flatMap_append];simp
theorem jX:∀ {ns:List Nat} {x:Nat},pr (ns++[x])=pr ns*x
 |[],x=>by show x*1=1*x;lia
 |n::ns,x=>by show n*pr (ns++[x])=n*pr ns*x;rw[jX,mw]
theorem HW{m:Nat}:∀ {ns:List Nat} {st:Nat},bx m st ns=(List.range ns.length).flatMap fun j=>uF m (st*pr (ns.take j)) (ns.getD j 0)
 |[],st=>rfl
 |n::ns,st=>by
  show uF m st n++bx m (st*n) ns=_;rw[cQ,vD,List.flatMap_cons,HW (ns:=ns)];congr 1
  .show uF m st n=uF m (st*1) n;rw[kF]
  .rw[List.flatMap_map];congr 1;funext j;show _=uF m (st*(n*pr (ns.take j))) (ns.getD j 0);rw[mw]
end jR
namespace tf
open PySem L2 jR
section
variable {P:Program} {w:World} {K:PySem.W.Frag} {mg:Str->Option Value} {base:Heap}
theorem tI{os:List (Option Int)}(h:(decide (1<=os.length)&&(decide (os.length<=5)&&(os.all (fun o=>be o 2 8)&&decide (pr (kj os)<=32))))=false):box (some os)=none:=by
 unfold box;dsimp only;rw[h];rfl
theorem Pf{os:List (Option Int)}(h:(decide (1<=os.length)&&(decide (os.length<=5)&&(os.all (fun o=>be o 2 8)&&decide (pr (kj os)<=32))))=true):box (some os)=some (kj os):=by
 unfold box;dsimp only;rw[h];rfl
theorem Sd.nums{H:Hp}{p:Addr}{os:List (Option Int)}{xs:List V}(h:H p=some (.tup xs))(hl:xs.length=os.length)(e:∀ (i:Nat) x o,xs[i]?=some x->os[i]?=some o->Wh K H x o)(ha:os.all (fun o=>be o 2 8)=true):xs=NV (kj os)/\∀x∈kj os,2<=x/\x<=8:=by
 have ex:∀o∈os,∃n:Nat,2<=n/\n<=8/\o=some (n:Int):=fun o ho=>vj (a:=2) (b:=8) (ij.mp ha o ho);refine⟨mm fun i=>?_,fun x hx=>?_⟩
 .unfold NV kj;rw[bJ,bJ];cases c:xs[i]? with
  |none=>
   have:os[i]?=none:=by
    rw[Fu] at c |-;lia
   rw[this];rfl
  |some x=>
   have hi:i<os.length:=by have:=(cW.mp c).1;lia
   have c2:os[i]?=some os[i]:=cZ hi;obtain⟨n,n1,n2,e3⟩:=ex os[i] (iI hi);have wh:=e i x _ c c2;rw[c2,e3] at *;obtain rfl:=pO wh;show some (V.int (n:Int))=some (V.int (((n:Int).toNat:Nat):Int));rw[mn]
 .obtain⟨o,ho,rfl⟩:=a9.mp hx;obtain⟨n,n1,n2,rfl⟩:=ex o ho;exact⟨by show 2<=(n:Int).toNat;lia,by show (n:Int).toNat<=8;lia⟩
theorem yw:aA ["sides","side"] ["sides"] (ao wU):=⟨rfl,rfl,rfl,by decide +kernel,rfl,by decide +kernel,by decide +kernel⟩
def tJ(K:PySem.W.Frag)(CS:Addr):Sp:=fun vs H Q E=>∃ (x:V) (o:Option (List (Option Int))),vs=[x]/\Sd K H x o/\(box o=none->E (.ref CS) none H)/\(∀ns,box o=some ns->Q .bR H)
theorem EA{f CS:Addr}{fd:FuncData}(F:eK K "check_sides" "check_sides" wU f fd)(B:Bl mg)(e:Er K mg "NoShape" CS)(gM:∃t,mg "MOST_SIDES"=some (.int 5 t))(gS:∃t,mg "SHORTEST_SIDE"=some (.int 2 t))(gL:∃t,mg "LONGEST_SIDE"=some (.int 8 t))(gH:∃t,mg "MOST_HOUSES"=some (.int 32 t))(W:cu P w K mg base ba 2 "is_whole_within" ["thing","least","most"] (lf K))(PR:cu P w K mg base ba 1 "product" ["numbers"] (tw K)):bi P w K mg base (iE P w) 3 f fd ["sides"] (tJ K CS):=by
 obtain⟨tM,gM⟩:=gM;obtain⟨tS,gS⟩:=gS;obtain⟨tL,gL⟩:=gL;obtain⟨tH,gH⟩:=gH;refine F.M0 yw (fun vs H Q E h=>?_) (fun dC A outer s H vs Q E hr h=>?_)
 .obtain⟨x,o,rfl,_⟩:=h;rfl
 .obtain⟨x,o,rfl,sd,k1,k2⟩:=h;have h1:bL 1 _:=hr.mono (by decide);refine⟨_,ah (bp (PW.pt (nM (cN (cp (aI fq (by rfl) B.K8 nB (aa (pv 0) (aa (gX (v:=.ty "tuple") rfl B.tup jh rfl) af))))) (kK (cN (cp (av W hr aE (aa (aI aM (by rfl) B.len ee (aa (pv 0) af)) (aa aD (aa (jK (v:=.int 5) rfl gM ⟨_,rfl⟩) af))))))))) (aj (kS (q:=fun H1=>E (.ref CS) none H1) rfl e.ok rfl e.at_ (aa rY af) (fun _ _ _ _ _ _ _ I m q=>kQ I m q))) aK)
   (ah (cF Oq rfl (mJ (pv 0)) (au (i:=1) yw.nd rfl (Or.inl rfl)) (aj (bp (cN (cp (av W hr aE (aa (pv 1) (aa (jK (v:=.int 2) rfl gS ⟨_,rfl⟩) (aa (jK (v:=.int 8) rfl gL ⟨_,rfl⟩) af)))))) (aj (kS (q:=fun H1=>E (.ref CS) none H1) rfl e.ok rfl e.at_ (aa rY af) (fun _ _ _ _ _ _ _ I m q=>kQ I m q))) aK)))
   (aj (bp (aJ xG (av PR h1 aE (aa (pv 0) af)) (jK (v:=.int 32) rfl gH ⟨_,rfl⟩) (aQ _)) (aj (kS (q:=fun H1=>E (.ref CS) none H1) rfl e.ok rfl e.at_ (aa rY af) (fun _ _ _ _ _ _ _ I m q=>kQ I m q))) aK))),?_⟩
  cases sd with
  |no ty h=>exact⟨_,rfl,_,_,_,_,false,rfl,⟨rfl,h⟩,ty,_,rfl,gY ⟨by show 1<=sizeLine;decide,k1 rfl⟩⟩
  |@tup p xs os hp hl ew=>
   refine⟨_,rfl,_,_,_,.type "tuple",true,rfl,⟨rfl,wM⟩,.of (.tup hp),_,rfl,fW ?_⟩;refine⟨_,rfl,p,xs,rfl,.inr (bh.of hp),_,_,1,5,rfl,.int _,_,rfl,?_⟩;cases hw:be (some ((xs.length:Nat):Int)) 1 5 with
   |false=>
    refine gY ⟨by show 1<=sizeLine;decide,k1 (tI ?_)⟩;unfold be at hw;simp at hw;by_cases c:1<=os.length
    .rw[bn c,dF (show ¬ os.length<=5 by lia)];rfl
    .rw[dF c];rfl
   |true=>
    have En:1<=os.length/\os.length<=5:=by unfold be at hw;simp at hw;lia
    refine fW ⟨_,rfl,p,rfl,⟨_,bh.of hp⟩,lD (K:=K) (xs:=xs) (fun i σ H2=>H2=H/\(∃v,σ=[some (.ref p),v])/\∀j o,j<i->os[j]?=some o->be o 2 8=true) ⟨rfl,⟨_,rfl⟩,fun j o hj=>absurd hj (by lia)⟩ (fun i σ H2 _ z=>by rw[z.1];exact bh.of hp) ?_ ?_⟩
    .rintro i v σ H2 hv ⟨rfl,⟨v',rfl⟩,pK⟩;have hi:i<os.length:=by have:=(cW.mp hv).1;lia
     have ho:os[i]?=some os[i]:=cZ hi;refine⟨_,rfl,_,_,2,8,rfl,ew i v _ hv ho,_,rfl,?_⟩;cases hc:be os[i] 2 8 with
     |false=>
      refine gY ⟨by show 1<=sizeLine;decide,k1 (tI ?_)⟩;have:os.all (fun o=>be o 2 8)=false:=by
       rw[List.all_eq_false];exact⟨os[i],iI hi,by rw[hc];decide⟩
      rw[bn En.1,bn En.2,this];rfl
     |true=>
      refine fW ⟨rfl,⟨_,rfl⟩,fun j o hj YT=>?_⟩;by_cases c:j=i
      .subst c;rw[ho] at YT;obtain rfl:=bg YT;exact hc
      .exact pK j o (by lia) YT
    .rintro σ H2 ⟨rfl,⟨v',rfl⟩,pK⟩;have ha:os.all (fun o=>be o 2 8)=true:=ij.mpr fun o ho=>by
      obtain⟨j,hj,rfl⟩:=rn.mp ho;exact pK j _ (by lia) (cZ hj)
     obtain⟨ex,hx⟩:=Sd.nums hp hl ew ha;subst ex;refine⟨_,rfl,p,kj os,rfl,bh.of hp,fun x jA=>by have:=hx x jA;lia,_,_,rfl,rfl,_,rfl,?_⟩;refine iD (fun c=>?_) (fun c=>?_)
     .have c':(32:Int)<((pr (kj os):Nat):Int):=by simpa using c
      refine⟨by show 1<=sizeLine;decide,k1 (tI ?_)⟩;rw[bn En.1,bn En.2,ha,dF (by lia)];rfl
     .have c':¬ (32:Int)<((pr (kj os):Nat):Int):=by simpa using c
      exact k2 _ (Pf (by rw[bn En.1,bn En.2,ha,bn (by lia)];rfl))
end
theorem iT{A B:Prop}{b:Bool}(hb:b=true)(h:A):if b=true then A else B:=by rw[ak hb];exact h
theorem cM{A B:Prop}{b:Bool}(hb:b=false)(h:B):if b=true then A else B:=by rw[aq (by rw[hb];decide)];exact h
theorem HX{m st n:Nat}:uF (m+1) st n=uF m st n++(if m / st % n+1<n then [(m,m+st)] else []):=by
 unfold uF;rw[il,j4,dG,e8];by_cases c:m / st % n+1<n
 .rw[ak (bn c),ak c];rfl
 .rw[aq (by simpa using c),aq c];rfl
theorem mZ:∀ {ns:List Nat} {i:Nat},(∀x∈ns,1<=x)->pr (ns.take i)<=pr ns
 |[],i,_=>by rw[List.take_nil];exact aX _
 |n::ns,0,h=>by
  show 1<=n*pr ns;have:∀ {l:List Nat},(∀x∈l,1<=x)->1<=pr l:=fun {l}=>by
   induction l with
   |nil=>intro _;exact aX _
   |cons x l ih=>intro hl;exact oY (hl x bV) (ih fun y hy=>hl y (bU _ hy))
  exact this (l:=n::ns) h
 |n::ns,i+1,h=>by
  show n*pr (ns.take i)<=n*pr ns;exact oG n (mZ fun x hx=>h x (bU _ hx))
section
variable {P:Program} {w:World} {K:PySem.W.Frag} {mg:Str->Option Value} {base:Heap}
theorem jv:aA ["sides","pairs","step","side","house"] ["sides"] (ao wV):=⟨rfl,rfl,rfl,by decide +kernel,rfl,by decide +kernel,by decide +kernel⟩
def tK:Sp:=fun vs H Q _=>∃ (a:Addr) (ns:List Nat),vs=[.ref a]/\H a=some (.tup (NV ns))/\ns.length<=5/\(∀x∈ns,2<=x/\x<=8)/\pr ns<=32/\∀ (r:Addr) (zs:Zs) (H':Hp),az H H'->H r=none->H' r=some (.lst (zr zs))->PO H' zs->zp zs=(jU ns).map qS->Q (.ref r) H'
theorem EB{f:Addr}{fd:FuncData}(F:eK K "box_pairs" "box_pairs" wV f fd)(B:Bl mg)(PR:cu P w K mg base ba 1 "product" ["numbers"] (tw K)):bi P w K mg base ba 2 f fd ["sides"] tK:=by
 refine F.ok jv (fun vs H Q E h=>?_) (fun dC A outer s H vs Q E hr h=>?_)
 .obtain⟨a,ns,rfl,_⟩:=h;rfl
 .obtain⟨a,ns,rfl,ha,hl,hn,hm,k⟩:=h;refine⟨_,ah (aW (i:=1) jv.nd rfl (Or.inl rfl) (eF af))
   (ah (aW (i:=2) jv.nd rfl (Or.inl rfl) aD)
   (ah (cF d9 rfl (mJ (pv 0)) (au (i:=3) jv.nd rfl (Or.inl rfl))
    (ah (cF d9 rfl (cj rfl B.range (aa (av PR hr aE (aa (pv 0) af)) af)) (au (i:=4) jv.nd rfl (Or.inl rfl))
     (aj (bp (aJ r0 (bu eC (bu jL (bu qL (pv 4) (pv 2)) (pv 3)) aD) (pv 3) (aQ _))
      (aj (bG (ir hX jg jf cI (pv 1) (aa (fV (aa (pv 4) (aa (bu eC (pv 4) (pv 2)) af))) af)))) aK)))
    (aj (pc (i:=2) jv.nd rfl (Or.inl rfl) (pv 3) Ba))))
   (aj (aF (pv 1))))),?_⟩
  refine⟨by show 0<=sizeLine;decide,fun D hD=>?_⟩;have s0:=am (o:=.lst []) hD;have hn1:∀x∈ns,1<=x:=fun x hx=>by have:=hn x hx;lia
  refine⟨_,rfl,a,rfl,⟨_,bh.of (s0 _ _ ha)⟩,lD (K:=K) (xs:=NV ns) (fun i σ H2=>(∃x3 x4,σ=[some (.ref a),some (.ref D),some (.int ((pr (ns.take i):Nat):Int)),x3,x4])/\qf H D ((No (pr ns) ns i).map qS) H2) ⟨⟨_,_,rfl⟩,s0,[],ag,PO.nil,rfl⟩ (fun i σ H2 _ z=>bh.of (z.2.1 _ _ ha)) ?_ ?_⟩
  .rintro i x σ H2 hx ⟨⟨x3,x4,rfl⟩,P2⟩;obtain⟨n,hv,rfl⟩:=qe hx;have hi:i<ns.length:=(cW.mp hv).1;have hnn:=hn n (dh hv);have iC:=mZ (ns:=ns) (i:=i) hn1;have abQ:1<=pr (ns.take i):=by
    have:=mZ (ns:=ns.take i) (i:=0) fun x hx=>hn1 x (mf hx);exact this
   have gd:ns.getD i 0=n:=by rw[cq,hv];rfl
   have tk:ns.take (i+1)=ns.take i++[n]:=by rw[iH,hv];rfl
   rw[tk,jX];have eB:No (pr ns) ns (i+1)=No (pr ns) ns i++uF (pr ns) (pr (ns.take i)) n:=by unfold No;rw[l6,gd]
   rw[eB];generalize pr (ns.take i)=st at *;refine⟨_,rfl,a,ns,rfl,bh.of (P2.1 _ _ ha),fun x hx=>by have:=hn x hx;lia,?_⟩;refine⟨((pr ns:Nat):Int),rfl,by lia,by lia,dZ (n:=pr ns) (lo:=0) (fun j σ H4=>(∃x4,σ=[some (.ref a),some (.ref D),some (.int (st:Int)),some (.int (n:Int)),x4])/\qf H D ((No (pr ns) ns i++uF j st n).map qS) H4) ⟨⟨_,rfl⟩,by rw[show uF 0 st n=[] from rfl,rK];exact P2⟩ ?_ ?_⟩
   .rintro j σ H4 hj ⟨⟨x4',rfl⟩,HK,zs4,WJ,po4,YU⟩;have hdv:((0:Int)+(j:Int)) / (st:Int) % (n:Int)+1=(((j / st % n+1:Nat)):Int):=by rw[fJ];rfl
    refine⟨_,rfl,_,rfl,_,_,rfl,rfl,⟨by lia,by lia⟩,_,rfl,_,_,rfl,rfl,(by show (0:Int)<(n:Int);lia),_,_,rfl,rfl,_,rfl,_,_,rfl,rfl,_,rfl,?_⟩;rw[hdv,HX];by_cases c:j / st % n+1<n
    .rw[ak c];refine iT (bn (by lia)) ?_;rw[fJ];refine⟨_,rfl,.inl ⟨rfl,_,bo.of WJ⟩,_,rfl,_,rfl,_,rfl,_,_,rfl,rfl,by show 2<=sizeLine;decide,fun t ht=>?_⟩;have YV:zs4.length<=1000:=by
      have e:=congrArg List.length YU;rw[dB,aP,dU] at e;have z1:∀m' s' n',(uF m' s' n').length<=m':=fun m' s' n'=>by unfold uF;rw[aP];exact bj (ji _ _) (by simp)
      have z2:∀i',(No (pr ns) ns i').length<=i'*32:=fun i'=>by
       induction i' with
       |zero=>exact aX _
       |succ i' ih=>unfold No at ih |-;rw[l6,dU,Nat.succ_mul];have:=z1 (pr ns) (pr (ns.take i')) (ns.getD i' 0);lia
      have:=z2 i;have:=z1 j st n;lia
     refine⟨D,_,_,rfl,rfl,am ht _ _ WJ,by rw[lj];exact eZ YV (by decide),⟨_,rfl⟩,?_⟩;have P5:=qf.add (u:=qS (j,j+st)) hD HK WJ po4 YU ht;rw[<-dE,dG (l₂:=[(j,j+st)])];exact P5
    .rw[aq c,rK];refine cM (dF (by lia)) ⟨⟨_,rfl⟩,HK,zs4,WJ,po4,YU⟩
   .rintro σ H4 ⟨⟨x4',rfl⟩,P4⟩;exact⟨_,rfl,_,rfl,_,_,rfl,rfl,.inr ⟨by lia,by lia⟩,⟨_,_,rfl⟩,P4⟩
  .rintro σ H2 ⟨⟨x3,x4,rfl⟩,Ev,zs,hz,po,ez⟩;refine⟨_,rfl,k D zs H2 Ev hD hz po ?_⟩;rw[ez,aT];unfold jU No;rw[HW];simp only[wd]
theorem Pg:aA ["sides"] ["sides"] (ao HP):=⟨rfl,rfl,rfl,by decide +kernel,rfl,by decide +kernel,by decide +kernel⟩
def Bc(K:PySem.W.Frag)(C Pt CS:Addr):Sp:=fun vs H Q E=>∃ (x:V) (o:Option (List (Option Int))),vs=[x]/\Sd K H x o/\nk Pt H/\(box o=none->E (.ref CS) none H)/\(∀ns,box o=some ns->HU C Pt H (pr ns) (nj ((jU ns).map qS)) Q)
theorem Lw{f C Pt CS:Addr}{fd:FuncData}(F:eK K "box_net" "box_net" HP f fd)(CSd:cu P w K mg base (iE P w) 3 "check_sides" ["sides"] (tJ K CS))(PN:cu P w K mg base ba 9 "pairs_net" ["many","pairs"] (tu C Pt))(PR:cu P w K mg base ba 1 "product" ["numbers"] (tw K))(BP:cu P w K mg base ba 2 "box_pairs" ["sides"] tK):
  bi P w K mg base (iE P w) 10 f fd ["sides"] (Bc K C Pt CS):=by
 refine F.M0 Pg (fun vs H Q E h=>?_) (fun dC A outer s H vs Q E hr h=>?_)
 .obtain⟨x,o,rfl,_⟩:=h;rfl
 .obtain⟨x,o,rfl,sd,tb,k1,k2⟩:=h;have h1:bL 1 _:=hr.mono (by decide);have h2:bL 2 _:=hr.mono (by decide);have h3:bL 3 _:=hr.mono (by decide);refine⟨_,ah (bG (av CSd h3 (uY (E':=E) fun _ _ _ z=>z) (aa (pv 0) af)))
   (aj (aF (av PN hr aE (aa (av PR h1 aE (aa (pv 0) af)) (aa (av BP h2 aE (aa (pv 0) af)) af))))),?_⟩
  refine⟨_,rfl,x,o,rfl,sd,k1,fun ns hb=>?_⟩;cases sd with
  |no ty h=>cases hb
  |@tup p xs os hp hl ew=>
   obtain⟨e1,l1,l2,hn,hm,eo⟩:=HV hb;have ha:os.all (fun o=>be o 2 8)=true:=ij.mpr fun o ho=>by
    rw[eo] at ho;obtain⟨n,Wc,rfl⟩:=a9.mp ho;have:=hn n Wc;unfold be;simp;lia
   obtain⟨ex,_⟩:=Sd.nums hp hl ew ha;rw[<-e1] at ex;subst ex;refine⟨_,rfl,p,ns,rfl,bh.of hp,fun x hx=>by have:=hn x hx;lia,?_⟩;refine⟨_,rfl,p,ns,rfl,hp,l2,hn,hm,fun r zs H2 s2 Fg EC po ez=>?_⟩;refine⟨pr ns,r,zs,rfl,EC,po,?_,tb.same s2,?_⟩
   .rw[ez];exact Hg (fun x hx=>(hn x hx).1) (by rintro rfl;simp at l1) hm
   .rw[ez];exact(k2 ns hb).same s2
end
end tf
namespace L2
open PySem PySem.Spec PyProof.Rows
theorem HY{K:PySem.W.Frag}{a D:Addr}{xs:List V}{g:TG}{tt:TT}{te:TE}{cH:Hp->Prop}{σB:St}{H0:Hp}(Pv:Nat->List V->St->Hp->Prop)(h0:Pv 0 [] σB H0)(hl:∀i ys σ H,i<=xs.length->Pv i ys σ H->bh K H a xs)(hs:∀i x ys σ H (Kt:V->St->Hp->Prop) (Kf:St->Hp->Prop),xs[i]?=some x->Pv i ys σ H->
   (∀v σ2 H4,H4 D=some (.lst ys)->ys.length<sizeLine->Pv (i+1) (ys++[v]) σ2 (upd H4 D (.lst (ys++[v])))->Kt v σ2 H4)->(∀σ2 H3,Pv (i+1) ys σ2 H3->Kf σ2 H3)->
   g x σ H fun σ2 H2=>tt σ2 H2 fun b H3=>if b=true then te σ2 H3 fun v H4=>Kt v σ2 H4 else Kf σ2 H3)(hd:∀ys σ H,Pv xs.length ys σ H->cH H):gR (Ra K a) g tt te D cH σB H0:=by
 refine⟨fun i m σ H=>m=xs.length-i/\i<=xs.length/\∃ys,Pv i ys σ H,⟨xs.length,by simp,cr _,[],h0⟩,?_⟩;rintro i m σ H ⟨rfl,hi,ys,p⟩;have q:=hl i ys σ H hi p;by_cases de:i<xs.length
 .refine .inr ⟨⟨xs,xs[i],q,by simp[de]⟩,?_⟩;rintro x H' ⟨rfl,y⟩;exact hs i x ys σ _ (fun v σ2 H4=>∃ys,H4 D=some (.lst ys)/\ys.length<sizeLine/\∃m',m'<xs.length-i/\m'=xs.length-(i+1)/\i+1<=xs.length/\∃pI,Pv (i+1) pI σ2 (upd H4 D (.lst (ys++[v]))))
   (fun σ2 H3=>∃m',m'<xs.length-i/\m'=xs.length-(i+1)/\i+1<=xs.length/\∃pI,Pv (i+1) pI σ2 H3) (y xs q) p
   (fun v σ2 H4 z1 z2 z3=>⟨ys,z1,z2,_,by lia,rfl,de,_,z3⟩) (fun σ2 H3 z=>⟨_,by lia,rfl,de,_,z⟩)
 .have e:i=xs.length:=by lia
  subst e;exact .inl ⟨⟨xs,q,aX _⟩,hd ys σ H p⟩
section
variable {X:Cx}
theorem oh{prog:Program}{w:World}{A:Around}{E:Value->Shared->Prop}{s:Shared}{t sl:Addr}{items:Array Value}{vl vu:Value}{lo hi:Option Int}{Q:Value->Shared->Prop}(ht:IsTup s.heap t items)(hs:s.heap.IsSliceOf sl vl vu .none)(pl:IsPart vl lo)(pu:IsPart vu hi)(hw:HT.gf items.size 0 lo=0/\HT.gf items.size items.size hi=items.size)(h:Q (.ref t) s):wpAny (model prog w) A (getItem (.ref t) (.ref sl)) Q E s:=by
 obtain⟨os,JM,Wj,Si⟩:=id hs;have Xk:s.TypeIs (.ref sl) "slice":=⟨os,JM,Wj⟩
 unfold getItem;try with_reducible refine gs ?_
 first|refine ai (wpAny_pure ?_)|skip
 refine ai (wpAny_sequenceKey ht.typeIs (by decide) ?_);refine ai (j3 (name:=Str.ofString "__getitem__") ht.typeIs uM
  (gn uM ht.typeIs entry_tuple_getitem ?_ (args_tuple_getitem _ _)))
 show wpAny _ _ (Builtin.Tuple.tupleItemsOf (.ref t) >>= _) _ _ s;refine ai (tupleItemsOf_ ht ?_);refine ai (we Xk ?_);rw[ak (by decide)];refine ai (HT.jp hs pl pu ?_);have YW:(((HT.gf items.size 0 lo:Nat):Int)==0&&(1:Int)==1&&(HT.gf items.size items.size hi-HT.gf items.size 0 lo)==items.size)=true:=by
  rw[hw.1,hw.2];simp
 show wpAny _ _ (if (((HT.gf items.size 0 lo:Nat):Int)==0&&(1:Int)==1&&(HT.gf items.size items.size hi-HT.gf items.size 0 lo)==items.size)=true then _ else _) _ _ s;rw[ak YW];refine ai (Q:=_) (m:=Builtin.Tuple.tupleIsExact (.ref t)) ?_;unfold Builtin.Tuple.tupleIsExact;refine ai (we ht.typeIs ?_);refine wpAny_pure ?_;rw[ak (by decide)];exact ai (wpAny_rule (wpAny_pure ⟨_,rfl,wpAny_pure h⟩))
def T8:V->Option Int->Option Int->Hp->VK->Prop:=fun x lo hi H Q=>∃a xs,x=.ref a/\H a=some (.tup xs)/\∀r H',az H H'->H' r=some (.tup (wm xs lo hi))->Q (.ref r) H'
theorem HZ{xs:List V}{lo hi:Option Int}(hw:HT.gf xs.length 0 lo=0/\HT.gf xs.length xs.length hi=xs.length):wm xs lo hi=xs:=by
 unfold wm;rw[hw.1,hw.2,Nat.sub_zero,z_,gm]
theorem CZ:Xl X T8:=by
 intro ae s σ H x v vl vu lo hi sl Q I rx hs pl pu h;obtain⟨a,xs,rfl,hx,q⟩:=h;by_cases hw:HT.gf xs.length 0 lo=0/\HT.gf xs.length xs.length hi=xs.length
 .cases rx;obtain⟨its,r,ht,hz⟩:=I.tuple (bh.of hx);have cY:its.toArray.size=xs.length:=by rw[c_];exact r.length.symm
  refine⟨"tuple",_,uM.lookup,ht.typeIs,?_⟩;exact oh ht hs pl pu (by rw[cY];exact hw) ⟨.ref a,H,I,rfl,q a H (az.refl _) (by rw[HZ hw];exact hx)⟩
 .exact Oj ae s σ H _ v vl vu lo hi sl Q I rx hs pl pu ⟨a,xs,rfl,bh.of hx,hw,fun p hp=>q p _ (am hp) ag⟩
end
end L2
namespace jR
def bw:List Nat->Nat->List Nat
 |[],_=>[]
 |n::ns,h=>(h % n)::bw ns (h / n)
theorem cV:∀ {ns:List Nat} {h:Nat},(bw ns h).length=ns.length
 |[],_=>rfl
 |n::ns,h=>by show (bw ns (h / n)).length+1=ns.length+1;rw[cV]
theorem tO:∀ {ns:List Nat} {n h:Nat},bw (ns++[n]) h=bw ns h++[h / pr ns % n]
 |[],n,h=>by show [h % n]=[h / 1 % n];rw[oZ]
 |m::ns,n,h=>by
  show (h % m)::bw (ns++[n]) (h / m)=(h % m)::(bw ns (h / m)++[h / (m*pr ns) % n]);rw[tO,md]
theorem m6:∀ {ns:List Nat} {h i:Nat},(∀x∈ns,0<x)->i<ns.length->(bw ns h).getD i 0<ns.getD i 0
 |[],_,_,_,hi=>absurd hi (j8 _)
 |n::ns,h,0,hn,_=>jH h (hn n bV)
 |n::ns,h,i+1,hn,hi=>m6 (ns:=ns) (h:=h / n) (i:=i) (fun x hx=>hn x (bU _ hx)) (l_ hi)
def y3:List Nat->List Nat->Nat
 |n::ns,d::ds=>d+n*y3 ns ds
 |_,_=>0
theorem yx:∀ {ns ds:List Nat} {n d:Nat},ns.length=ds.length->y3 (ns++[n]) (ds++[d])=y3 ns ds+pr ns*d
 |[],[],n,d,_=>by show d+n*0=0+1*d;lia
 |m::ns,e::ds,n,d,h=>by
  show e+m*y3 (ns++[n]) (ds++[d])=e+m*y3 ns ds+m*pr ns*d;rw[yx (mx h),i7,mw,rN]
theorem qX:∀ {ns:List Nat} {h:Nat},h<pr ns->y3 ns (bw ns h)=h
 |[],h,hh=>by have hh:h<1:=hh;show 0=h;lia
 |n::ns,h,hh=>by
  show h % n+n*y3 ns (bw ns (h / n))=h;rw[qX (zj hh),Nat.mod_add_div]
theorem C0:∀ {ns ds:List Nat} {k v:Nat},ns.length=ds.length->k<ds.length->y3 ns (ds.set k v)+pr (ns.take k)*ds.getD k 0=y3 ns ds+pr (ns.take k)*v
 |[],[],k,v,_,h=>absurd h (j8 _)
 |n::ns,d::ds,0,v,_,_=>by show v+n*y3 ns ds+1*d=d+n*y3 ns ds+1*v;lia
 |n::ns,d::ds,k+1,v,hl,hk=>by
  have ih:=C0 (ns:=ns) (ds:=ds) (k:=k) (v:=v) (mx hl) (l_ hk);show d+n*y3 ns (ds.set k v)+n*pr (ns.take k)*ds.getD k 0=d+n*y3 ns ds+n*pr (ns.take k)*v;rw[rN,rN,mw,mw,<-i7,<-i7,ih]
def iU(ns:List Nat)(a b:Nat):Option Nat:=(List.range ns.length).find? fun i=>decide ((bw ns a).getD i 0≠(bw ns b).getD i 0)
theorem ED{n:Nat}{f:Nat->Bool}:(List.range (n+1)).find? f=if f 0=true then some 0 else ((List.range n).find? fun i=>f (i+1)).map (·+1):=by
 rw[vD,mr];split
 .next h=>rw[ak h]
 .next h=>
  rw[aq (by rw[h];decide),List.find?_map];rfl
theorem C1{n:Nat}{ns:List Nat}{a b:Nat}:iU (n::ns) a b=if a % n=b % n then (iU ns (a / n) (b / n)).map (·+1) else some 0:=by
 unfold iU;rw[cQ,ED];show (if decide (a % n≠b % n)=true then _ else _)=_;by_cases c:a % n=b % n
 .rw[aq (by simp[c]),ak c];rfl
 .rw[ak (by simpa using c),aq c]
def EE:List Nat->Nat->Nat->Nat->Prop
 |[],_,_,_=>False
 |n::_,0,a,b=>a % n+1<n/\b=a+1
 |n::ns,k+1,a,b=>a % n=b % n/\EE ns k (a / n) (b / n)
theorem EF:∀ {ns:List Nat} {a b:Nat},(∀x∈ns,0<x)->(U ns a b↔∃k,EE ns k a b)
 |[],a,b,_=>⟨fun h=>h.elim,fun ⟨k,h⟩=>h.elim⟩
 |n::ns,a,b,hn=>by
  rw[wK hn,EF fun x hx=>hn x (bU _ hx)];constructor
  .rintro(h|⟨e,k,h⟩)
   .exact⟨0,h⟩
   .exact⟨k+1,e,h⟩
  .rintro⟨k,h⟩;cases k with
   |zero=>exact .inl h
   |succ k=>exact .inr ⟨h.1,k,h.2⟩
theorem Np:∀ {ns:List Nat} {k a b:Nat},EE ns k a b->k<ns.length
 |n::ns,0,a,b,_=>v8 _
 |n::ns,k+1,a,b,h=>Nat.succ_lt_succ (Np h.2)
theorem H_{n a b s:Nat}(hn:0<n):(a % n=b % n/\b / n=a / n+s)↔b=a+n*s:=by
 constructor
 .rintro⟨h1,h2⟩;rw[<-ik b n,h2,<-h1,i7];have:=ik a n;lia
 .rintro rfl;exact⟨by rw[Fs],by rw[Nat.add_mul_div_left _ _ hn]⟩
theorem Bd:∀ {ns:List Nat} {k a b:Nat},(∀x∈ns,0<x)->k<ns.length->(EE ns k a b↔(bw ns a).getD k 0+1<ns.getD k 0/\b=a+pr (ns.take k))
 |[],k,_,_,_,h=>absurd h (j8 _)
 |n::ns,0,a,b,hn,_=>Iff.rfl
 |n::ns,k+1,a,b,hn,hk=>by
  have ih:=Bd (ns:=ns) (k:=k) (a:=a / n) (b:=b / n) (fun x hx=>hn x (bU _ hx)) (l_ hk);show (a % n=b % n/\EE ns k (a / n) (b / n))↔(bw ns (a / n)).getD k 0+1<ns.getD k 0/\b=a+n*pr (ns.take k);rw[ih,<-H_ (hn n bV)];exact⟨fun ⟨x,y,z⟩=>⟨y,x,z⟩,fun ⟨y,x,z⟩=>⟨x,y,z⟩⟩
theorem tP{b n:Nat}(hn:0<n):(b % n+1<n)↔1<=(b+1) % n:=by
 have e:=ik b n;have l:=jH b hn;constructor
 .intro h;rw[(jV h).2];lia
 .intro h;rcases fG (b % n+1) n with c|c
  .exact c
  .have:b+1=n*(b / n+1):=by rw[i7,kF];lia
   rw[this,Nat.mul_mod_right] at h;exact absurd h (by decide)
theorem wX:∀ {ns:List Nat} {k a b:Nat},(∀x∈ns,0<x)->k<ns.length->(EE ns k b a↔1<=(bw ns a).getD k 0/\a=b+pr (ns.take k))
 |[],k,_,_,_,h=>absurd h (j8 _)
 |n::ns,0,a,b,hn,_=>by
  show (b % n+1<n/\a=b+1)↔1<=a % n/\a=b+1;constructor
  .rintro⟨h,rfl⟩;exact⟨(tP (hn n bV)).mp h,rfl⟩
  .rintro⟨h,rfl⟩;exact⟨(tP (hn n bV)).mpr h,rfl⟩
 |n::ns,k+1,a,b,hn,hk=>by
  have ih:=wX (ns:=ns) (k:=k) (a:=a / n) (b:=b / n) (fun x hx=>hn x (bU _ hx)) (l_ hk);show (b % n=a % n/\EE ns k (b / n) (a / n))↔1<=(bw ns (a / n)).getD k 0/\a=b+n*pr (ns.take k);rw[ih,<-H_ (hn n bV)];exact⟨fun ⟨x,y,z⟩=>⟨y,x,z⟩,fun ⟨y,x,z⟩=>⟨x,y,z⟩⟩
theorem Ib:∀ {ns:List Nat} {k a b:Nat},EE ns k a b->iU ns a b=some k
 |n::ns,0,a,b,⟨h,e⟩=>by
  subst e;rw[C1,aq (by rw[(jV h).2];lia)]
 |n::ns,k+1,a,b,⟨e,h⟩=>by rw[C1,ak e,Ib h];rfl
theorem Lx{ns:List Nat}{a b:Nat}:iU ns a b=iU ns b a:=by
 unfold iU;congr 1;funext i;exact rF.mpr ⟨ck,ck⟩
theorem eU{ns:List Nat}{a b k:Nat}(h:iU ns a b=some k):k<ns.length/\(bw ns a).getD k 0≠(bw ns b).getD k 0:=
 ⟨dt.mp (y8 h),dM (zW (p:=fun i=>decide ((bw ns a).getD i 0≠(bw ns b).getD i 0)) h)⟩
def wY(ns:List Nat)(a b k:Nat):Prop:=EE ns k a b\/EE ns k b a
theorem gW{ns:List Nat}{a b k:Nat}(h:wY ns a b k):iU ns a b=some k:=by
 rcases h with h|h
 .exact Ib h
 .rw[Lx];exact Ib h
theorem lN{ns:List Nat}{a b:Nat}(hn:∀x∈ns,0<x)(ha:a<pr ns)(hb:b<pr ns):T (nj ((jU ns).map qS)) a b↔∃k,wY ns a b k:=by
 have WK:∀ {a b:Nat},(a,b)∈jU ns↔a<pr ns/\U ns a b:=pN;show ((a:Int),(b:Int))∈_↔_;rw[gj];constructor
 .rintro(h|h)
  .obtain⟨q,hq,e⟩:=a9.mp h;have e1:q.1=a:=cR (congrArg Prod.fst e);have e2:q.2=b:=cR (congrArg Prod.snd e);obtain⟨k,u⟩:=(EF hn).mp (WK.mp hq).2;exact⟨k,.inl (by rw[<-e1,<-e2];exact u)⟩
  .obtain⟨q,hq,e⟩:=a9.mp h;have e1:q.1=b:=cR (congrArg Prod.fst e);have e2:q.2=a:=cR (congrArg Prod.snd e);obtain⟨k,u⟩:=(EF hn).mp (WK.mp hq).2;exact⟨k,.inr (by rw[<-e1,<-e2];exact u)⟩
 .rintro⟨k,u|u⟩
  .exact .inl (a9.mpr ⟨(a,b),WK.mpr ⟨ha,(EF hn).mpr ⟨k,u⟩⟩,rfl⟩)
  .exact .inr (a9.mpr ⟨(b,a),WK.mpr ⟨hb,(EF hn).mpr ⟨k,u⟩⟩,rfl⟩)
def yy(ns:List Nat)(a b:Nat):Option Nat:=(iU ns a b).map fun k=>if (bw ns a).getD k 0<(bw ns b).getD k 0 then a+pr (ns.take k) else a-pr (ns.take k)
end jR
namespace L2
open PySem PySem.Spec PyProof.Rows
theorem Ly{X:Cx}:R3 X .FloorDiv (fun x y H Q=>∃i j,x=.int i/\y=.int j/\Oc i j/\Q (.int (i / j)) H):=by
 intro ae s σ H x y v u Q I r1 r2 h;exact FM ae s σ H x y v u Q I r1 r2 h
end L2
namespace tf
open PySem L2 jR
abbrev Lz:Stmt:=eS (fL 47) 0
abbrev Ph:Stmt:=eS (fL 47) 3
abbrev Pi:Stmt:=eS (fL 47) 4
abbrev Pj:Stmt:=eS (fL 47) 6
abbrev Pk:Stmt:=eS (fL 47) 7
abbrev Pl:Stmt:=eS (fL 47) 8
abbrev YX:Stmt:=fL 42
structure Bx(ns:List Nat):Prop where
 l1:1<=ns.length
 l5:ns.length<=5
 sd:∀x∈ns,2<=x/\x<=8
 Rz:pr ns<=32
theorem Bx.pos{ns:List Nat}(B:Bx ns):∀x∈ns,0<x:=fun x hx=>by have:=B.sd x hx;lia
theorem Bx.gd{ns:List Nat}(B:Bx ns){i:Nat}(h:i<ns.length):2<=ns.getD i 0/\ns.getD i 0<=8:=by
 rw[cq,cZ h];exact B.sd _ (iI _)
abbrev j9(ns:List Nat):Ts:=nj ((jU ns).map qS)
structure Fh(K:PySem.W.Frag)(mg:Str->Option Value)(CB:Addr):Prop where
 cl:E7 K CB
 nN:gD K CB "tied_net"
 nS:gD K CB "side_row"
 Yt:mg "Box"=some (.ref CB)
def C2(pn sr:Addr):List (Str×V):=dw "side_row" (.ref sr) (dw "tied_net" (.ref pn) [])
theorem nNS:¬ (("tied_net":Str)="side_row"):=by decide +kernel
theorem Ic{pn sr:Addr}:(C2 pn sr).lookup ("tied_net":Str)=some (.ref pn):=by unfold C2;rw[a7,aq nNS,a7,ak rfl]
theorem C3{pn sr:Addr}:(C2 pn sr).lookup ("side_row":Str)=some (.ref sr):=by unfold C2;rw[a7,ak rfl]
theorem m9{pn sr:Addr}{m:Str}(h1:¬ m="tied_net")(h2:¬ m="side_row"):(C2 pn sr).lookup m=none:=by unfold C2;rw[a7,aq h2,a7,aq h1];rfl
structure fg(C CB:Addr)(H:Hp)(L:Addr->Prop)(b:Addr)(ns:List Nat):Prop where
 bx:Bx ns
 ob:∃dx pn sr,H b=some (.ins CB dx (C2 pn sr))/\gU C H L pn (pr ns) (j9 ns)/\H sr=some (.tup (NV ns))
theorem fg.same{C CB b:Addr}{H H':Hp}{L:Addr->Prop}{ns:List Nat}(h:fg C CB H L b ns)(s:az H H'):fg C CB H' L b ns:=
 let ⟨dx,pn,sr,a,c,d⟩:=h.ob
 ⟨h.bx,dx,pn,sr,s _ _ a,c.same s,s _ _ d⟩
abbrev Be(K:PySem.W.Frag)(H:Hp)(x:V)(o:Option Int):Prop:=∀H',az H H'->Wh K H' x o
theorem eX{ns:List Nat}{h i:Nat}(hi:i<ns.length):(NV (bw ns h))[i]?=some (.int (((bw ns h).getD i 0:Nat):Int)):=by
 have:i<(bw ns h).length:=by rw[cV];exact hi
 rw[bJ,cZ this,cq,cZ this];rfl
section
variable {P:Program} {w:World} {K:PySem.W.Frag} {mg:Str->Option Value} {base:Heap}
theorem T9:aA ["self","sides"] ["self","sides"] (ao Lz):=⟨rfl,rfl,rfl,by decide +kernel,rfl,by decide +kernel,by decide +kernel⟩
def Ie(C CB Pt:Addr):Sp:=fun vs H Q _=>∃ (b dx sr:Addr) (ns:List Nat),vs=[.ref b,.ref sr]/\H b=some (.ins CB dx [])/\H sr=some (.tup (NV ns))/\Bx ns/\nk Pt H/\
 ∀H',fg C CB H' (fun a=>H a=none) b ns->nk Pt H'->l3 b Pt H H'->Q .bR H'
theorem Ig{ns:List Nat}(B:Bx ns):box (some (ns.map fun (n:Nat)=>some (n:Int)))=some ns:=by
 have e:kj (ns.map fun (n:Nat)=>some (n:Int))=ns:=by
  unfold kj;rw[fj];conv=>rhs;rw[<-jG ns]
  exact kn fun n _=>rfl
 unfold box;dsimp only;rw[e,ak];rw[aP,bn B.l1,bn B.l5,bn B.Rz,Ab,Bool.true_and,Bool.true_and,ij];intro o ho;obtain⟨n,hn,rfl⟩:=a9.mp ho;have:=B.sd n hn;unfold be;simp;lia
theorem T_{H:Hp}{a:Addr}{ns:List Nat}(h:H a=some (.tup (NV ns))):Sd K H (.ref a) (some (ns.map fun (n:Nat)=>some (n:Int))):=by
 refine .tup h (by rw[aP,aP]) fun i x o hx ho=>?_;obtain⟨n,hn,rfl⟩:=qe hx;rw[bJ,hn] at ho;cases ho;exact .int _
theorem Pm{f C CB CS Pt:Addr}{fd:FuncData}(F:eK K "__init__" "Box.__init__" Lz f fd)(B:Bl mg)(TB:Fh K mg CB)(BN:cu P w K mg base (iE P w) 10 "box_net" ["sides"] (Bc K C Pt CS)):bi P w K mg base ba 11 f fd ["self","sides"] (Ie C CB Pt):=by
 refine F.ok T9 (fun vs H Q E h=>?_) (fun dC A outer s H vs Q E hr h=>?_)
 .obtain⟨b,dx,sr,ns,rfl,_⟩:=h;rfl
 .obtain⟨b,dx,sr,ns,rfl,hb,fE,BX,tb,q⟩:=h;refine⟨_,ah (pz (pv 0) (av BN hr kR (aa (pv 1) af)) rfl)
   (aj (pz (pv 0) (bX b_ (by rfl) B.tup jh (aa (pv 1) af)) rfl)),?_⟩
  refine⟨_,rfl,_,_,rfl,T_ fE,tb,(fun z=>by rw[Ig BX] at z;cases z),fun Ih e pn H1 npn N1 t1 s1=>?_⟩;rw[Ig BX] at e;cases e;have nb:b≠Pt:=tb.not hb (by intro ps z;cases z);have Ua:sr≠b:=by rintro rfl;rw[hb] at fE;cases fE
  have Nm:=s1 _ _ hb nb;refine⟨_,rfl,b,CB,dx,_,rfl,Nm,TB.cl,TB.nN,by show 0<1000;decide,?_⟩;have Ub:=s1 _ _ fE (tb.not fE (by intro ps z;cases z));refine⟨_,rfl,sr,_,rfl,.inr ⟨bh.of (by rw[al Ua];exact Ub),?_⟩⟩;refine⟨_,rfl,b,CB,dx,_,rfl,ag,TB.cl,TB.nS,by show 1<1000;decide,?_⟩;have kp:∀c o,c≠b->H1 c=some o->(upd (upd H1 b (.ins CB dx (dw "tied_net" (.ref pn) []))) b (.ins CB dx (dw "side_row" (.ref sr) (dw "tied_net" (.ref pn) [])))) c=some o:=fun c o n e=>by rw[al n,al n];exact e
  refine q _ ⟨BX,dx,pn,sr,ag,N1.keep (fun c o l e=>kp c o (by rintro rfl;rw[hb] at l;cases l) e) (fun o e=>kp pn o (by rintro rfl;rw[hb] at npn;cases npn) e),kp _ _ Ua Ub⟩ ?_ (fun c o e n1 n2=>kp c o n1 (s1 _ _ e n2));rcases t1 with z|⟨c,z,y⟩
  .exact .inl (kp _ _ nb.symm z)
  .exact .inr ⟨c,kp _ _ nb.symm z,kp _ _ (by rintro rfl;rw[Nm] at y;cases y) y⟩
end
theorem oj{pn sr:Addr}:(C2 pn sr).lookup ("place":Str)=none:=m9 (by decide +kernel) (by decide +kernel)
theorem Ii{pn sr:Addr}:(C2 pn sr).lookup ("house":Str)=none:=m9 (by decide +kernel) (by decide +kernel)
theorem tQ{pn sr:Addr}:(C2 pn sr).lookup ("phase":Str)=none:=m9 (by decide +kernel) (by decide +kernel)
theorem Ij{ns:List Nat}(h:∀x∈ns,0<x):0<pr ns:=by
 induction ns with
 |nil=>exact Nat.one_pos
 |cons n ns ih=>exact oY (h n bV) (ih fun x hx=>h x (bU _ hx))
theorem LA{K:PySem.W.Frag}{a b:Addr}{xs ys:List V}{g:TG}{tb:TS}{D:uy}{σ:St}{H:Hp}(Nf:xs.length=ys.length)(Pv:Nat->St->Hp->Prop)(h0:Pv 0 σ H)(hl:∀i σ H,i<=xs.length->Pv i σ H->bh K H a xs/\bh K H b ys)(hs:∀i x y p σ H,xs[i]?=some x->ys[i]?=some y->Pv i σ H->H p=none->g (.ref p) σ (upd H p (.tup [x,y])) fun σ2 H2=>tb { D with nx:=Pv (i+1),ct:=Pv (i+1),bk:=D.nx } σ2 H2)(hd:∀σ H,Pv xs.length σ H->D.nx σ H):
  ∃W:Nat->Nat->St->Hp->Prop,(∃m,W 0 m σ H)/\∀i m σ H,W i m σ H->
   ((Tr K a b).stop i H/\D.nx σ H)\/((Tr K a b).go i H/\∃N:St->Hp->Prop,(∀σ' H',N σ' H'->∃m',m'<m/\W (i+1) m' σ' H')/\∀x H',(Tr K a b).FF i H x H'->g x σ H' fun σ2 H2=>tb { D with nx:=N,ct:=N,bk:=D.nx } σ2 H2):=by
 refine⟨fun i m σ H=>m=xs.length-i/\i<=xs.length/\Pv i σ H,⟨xs.length,by simp,cr _,h0⟩,?_⟩;rintro i m σ H ⟨rfl,hi,p⟩;obtain⟨q1,q2⟩:=hl i σ H hi p;by_cases de:i<xs.length
 .have AX:i<ys.length:=by lia
  refine .inr ⟨⟨xs,ys,xs[i],ys[i],q1,q2,by simp[de],by simp[AX]⟩,Pv (i+1),fun σ' H' p'=>⟨xs.length-(i+1),by lia,rfl,de,p'⟩,?_⟩;rintro v H' ⟨pp,x,y,rfl,hn,rfl,OF,YY⟩;exact hs i x y pp σ _ (OF xs q1) (YY ys q2) p hn
 .have e:i=xs.length:=by lia
  subst e;exact .inl ⟨⟨xs,q1,aX _⟩,hd σ H p⟩
section
variable {P:Program} {w:World} {K:PySem.W.Frag} {mg:Str->Option Value} {base:Heap}
theorem C4:aA ["self","house","numbers","side"] ["self","house"] (ao Ph):=⟨rfl,rfl,rfl,by decide +kernel,rfl,by decide +kernel,by decide +kernel⟩
def C5(K:PySem.W.Frag)(C CB CE:Addr):Sp:=fun vs H Q E=>∃ (L:Addr->Prop) (b:Addr) (ns:List Nat) (x:V) (o:Option Int),vs=[.ref b,x]/\fg C CB H L b ns/\Wh K H x o/\(be o 0 ((pr ns:Int)-1)=false->E (.ref CE) none H)/\∀h:Nat,h<pr ns->o=some (h:Int)->∀ (t:Addr) (H':Hp),az H H'->H' t=some (.tup (NV (bw ns h)))->Q (.ref t) H'
theorem Pn{f C CB CE:Addr}{fd:FuncData}(F:eK K "place" "Box.place" Ph f fd)(B:Bl mg)(T:NT K mg C)(TB:Fh K mg CB)(M:fD P w K mg base (iE P w) 4 C "check_house" ["self","thing"] (qW K C CE)):bi P w K mg base (iE P w) 5 f fd ["self","house"] (C5 K C CB CE):=by
 obtain⟨fM,WB,mM,bM,GM⟩:=M.ex;refine F.M0 C4 (fun vs H Q E h=>?_) (fun dC A outer s H vs Q E hr h=>?_)
 .obtain⟨L,b,ns,x,o,rfl,_⟩:=h;rfl
 .obtain⟨L,b,ns,x,o,rfl,⟨BX,dx,pn,sr,hb,N,fE⟩,wh,k1,k2⟩:=h;obtain⟨YZ,tl,ol,ds,h1,_⟩:=N.ob;have l5:=BX.l5;refine⟨_,ah (bG (dg (gG (pv 0) rfl) T.cl mM GM hr bM .nil (uY (E':=E) fun _ _ _ z=>z) (aa (pv 1) af)))
   (ah (aW (i:=2) C4.nd rfl (Or.inl rfl) (eF af))
   (ah (cF Oq rfl (mJ (gG (pv 0) rfl)) (au (i:=3) C4.nd rfl (Or.inl rfl))
    (ah (bG (ir hX jg jf cI (pv 2) (aa (bu jL (pv 1) (pv 3)) af)))
    (aj (pc (i:=1) C4.nd rfl (Or.inl rfl) (pv 3) Ly))))
   (aj (aF (bX b_ (by rfl) B.tup jh (aa (pv 2) af)))))),?_⟩
  refine⟨_,rfl,b,CB,dx,_,_,rfl,hb,TB.cl,TB.nN,Ic,pn,YZ,_,rfl,h1,TD _ _ _ _,_,rfl,L,pn,pr ns,_,x,o,rfl,N,wh,k1,fun hw=>?_⟩;obtain⟨h,hh,rfl⟩:=fZ hw;obtain rfl:=pO wh;refine⟨by show 0<=sizeLine;decide,fun D hD=>?_⟩;have s0:=am (o:=.lst []) hD;refine⟨_,rfl,b,CB,dx,_,_,rfl,s0 _ _ hb,TB.cl,TB.nS,C3,sr,rfl,⟨_,bh.of (s0 _ _ fE)⟩,lD (K:=K) (xs:=NV ns) (fun i σ H2=>(∃x,σ=[some (.ref b),some (.int ((h / pr (ns.take i):Nat):Int)),some (.ref D),x])/\az H H2/\H2 D=some (.lst (NV (bw (ns.take i) h)))) ⟨⟨_,by rw[List.take_zero];show _=[_,some (V.int ((h / 1:Nat):Int)),_,_];rw[oZ];rfl⟩,s0,ag⟩ (fun i σ H2 _ z=>bh.of (z.2.1 _ _ fE)) ?_ ?_⟩
  .rintro i x σ H2 hx ⟨⟨x',rfl⟩,sm,pQ⟩;obtain⟨n,hv,rfl⟩:=qe hx;have hi:i<ns.length:=(cW.mp hv).1;have hnn:=BX.sd n (dh hv);have tk:ns.take (i+1)=ns.take i++[n]:=by rw[iH,hv];rfl
   rw[tk,tO,jX];have dl:(bw (ns.take i) h).length<=5:=by rw[cV,ii];lia
   refine⟨_,rfl,.inl ⟨rfl,_,bo.of pQ⟩,_,rfl,_,rfl,_,_,rfl,rfl,(by show (0:Int)<(n:Int);lia),D,_,_,rfl,rfl,pQ,by rw[aT];exact eZ dl (by decide),?_⟩;refine⟨_,rfl,_,rfl,_,_,rfl,rfl,⟨by lia,by lia⟩,⟨some (.int n),?_⟩,bN sm hD,?_⟩
   .rw[<-md];rfl
   .rw[ag,<-iS];rfl
  .rintro σ H2 ⟨⟨x',rfl⟩,sm,pQ⟩;rw[aT,gm] at pQ;exact⟨_,rfl,D,_,rfl,.inl ⟨bo.of pQ,fun t ht=>k2 h hh rfl t _ (sm.trans (am ht)) ag⟩⟩
theorem tR:aA ["self","place","total","step","number","side"] ["self","place"] (ao Pi):=⟨rfl,rfl,rfl,by decide +kernel,rfl,by decide +kernel,by decide +kernel⟩
def Ik(C CB:Addr):Sp:=fun vs H Q _=>∃ (L:Addr->Prop) (b a:Addr) (ns es:List Nat),vs=[.ref b,.ref a]/\fg C CB H L b ns/\H a=some (.tup (NV es))/\es.length=ns.length/\(∀i,i<ns.length->es.getD i 0<ns.getD i 0)/\∀H',az H H'->Q (.int (y3 ns es:Nat)) H'
theorem Po{f C CB:Addr}{fd:FuncData}(F:eK K "house" "Box.house" Pi f fd)(B:Bl mg)(hz:mg "zip"=none)(TB:Fh K mg CB)(R:cu P w K mg base ba 1 "is_row" ["thing","length"] (vf K))(HO:cu P w K mg base ba 3 "is_house" ["many","thing"] (lJ K)):bi P w K mg base ba 4 f fd ["self","place"] (Ik C CB):=by
 refine F.ok tR (fun vs H Q E h=>?_) (fun dC A outer s H vs Q E hr h=>?_)
 .obtain⟨L,b,a,ns,es,rfl,_⟩:=h;rfl
 .obtain⟨L,b,a,ns,es,rfl,⟨BX,dx,pn,sr,hb,N,fE⟩,ha,el,lt,q⟩:=h;have h1:bL 1 _:=hr.mono (by decide);have l5:=BX.l5;refine⟨_,ah (bp (cN (cp (av R h1 aE (aa (pv 1) (aa (aI aM (by rfl) B.len ee (aa (gG (pv 0) rfl) af)) af))))) dk aK)
   (ah (aW (i:=2) tR.nd rfl (Or.inl rfl) aD)
   (ah (aW (i:=3) tR.nd rfl (Or.inl rfl) aD)
   (ah (cF d9 rfl (K0 rfl hz (aa (pv 1) (aa (gG (pv 0) rfl) af))) (eA (n:=2) rfl (aN (au (i:=4) tR.nd rfl (Or.inl rfl)) (aN (au (i:=5) tR.nd rfl (Or.inl rfl)) dv)))
    (ah (bp (cN (cp (av HO hr aE (aa (pv 5) (aa (pv 4) af))))) dk aK)
    (ah (pc (i:=2) tR.nd rfl (Or.inl rfl) (bu pj (pv 3) (pv 4)) Ag)
    (aj (pc (i:=3) tR.nd rfl (Or.inl rfl) (pv 5) Ba)))))
   (aj (aF (pv 2)))))),?_⟩
  refine⟨_,rfl,_,rfl,b,CB,dx,_,_,rfl,hb,TB.cl,TB.nS,C3,sr,_,rfl,.inr (bh.of fE),_,_,_,rfl,.tup ha,_,rfl,cM (by show (!decide (((NV es).length:Int)=((NV ns).length:Int)))=false;rw[aT,aT,el,bn rfl];rfl) ?_⟩;refine⟨_,rfl,_,rfl,b,CB,dx,_,_,rfl,hb,TB.cl,TB.nS,C3,a,sr,_,_,rfl,bh.of ha,bh.of fE,by rw[aT,aT];lia,?_⟩;refine LA (K:=K) (xs:=NV es) (ys:=NV ns) (by rw[aT,aT];exact el) (fun i σ H2=>(∃x4 x5,σ=[some (.ref b),some (.ref a),some (.int ((y3 (ns.take i) (es.take i):Nat):Int)),some (.int ((pr (ns.take i):Nat):Int)),x4,x5])/\az H H2) ⟨⟨_,_,rfl⟩,az.refl _⟩ (fun i σ H2 _ z=>⟨bh.of (z.2 _ _ ha),bh.of (z.2 _ _ fE)⟩) ?_ ?_
  .rintro i x y pp σ H2 hx hy ⟨⟨x4,x5,rfl⟩,sm⟩ hpp;obtain⟨e,he,rfl⟩:=qe hx;obtain⟨n,hn,rfl⟩:=qe hy;have hi:i<ns.length:=(cW.mp hn).1;have l:=lt i hi;rw[cq,he,cq,hn] at l;have l:e<n:=l;have n8:=BX.sd n (dh hn);have tk:ns.take (i+1)=ns.take i++[n]:=by rw[iH,hn];rfl
   have tk':es.take (i+1)=es.take i++[e]:=by rw[iH,he];rfl
   rw[tk,tk',yx (by rw[ii,ii,el]),jX];refine⟨pp,_,rfl,bh.of ag,rfl,_,_,rfl,_,_,rfl,rfl,?_⟩;refine⟨_,rfl,_,rfl,_,_,_,rfl,.int _,_,rfl,cM (by rw[dI l];rfl) ?_⟩;refine⟨_,rfl,_,rfl,_,rfl,_,_,rfl,rfl,.inr ⟨by lia,by lia⟩,_,_,rfl,rfl,?_⟩;refine⟨_,rfl,_,rfl,_,_,rfl,rfl,.inr ⟨by lia,by lia⟩,⟨_,_,rfl⟩,sm.trans (am hpp)⟩
  .rintro σ H2 ⟨⟨x4,x5,rfl⟩,sm⟩;rw[aT,el,gm,<-el,gm];exact⟨_,rfl,q H2 sm⟩
end
def oV:Option Nat->V
 |none=>.bR
 |some y=>.int (y:Int)
theorem Pp(n:Int)(tl ol ds:Addr):(uG n tl ol ds).lookup ("out":Str)=none:=wP n tl ol ds (by decide +kernel) (by decide +kernel) (by decide +kernel) (by decide +kernel)
theorem Nq(n:Int)(tl ol ds:Addr):(uG n tl ol ds).lookup ("many":Str)=none:=wP n tl ol ds (by decide +kernel) (by decide +kernel) (by decide +kernel) (by decide +kernel)
def Il(ns:List Nat)(o o':Option Int):Bool:=be o 0 ((pr ns:Int)-1)&&(be o' 0 ((pr ns:Int)-1)&&decide ((o.getD 0,o'.getD 0)∈j9 ns))
theorem Im{n a b:Nat}{ts:Ts}(F:g8 n ts)(ha:a<n):Cc (.int (b:Int)) (NV (dX n ts a))=decide (((a:Int),(b:Int))∈ts):=by
 rw[im,iG];refine Iff.trans ?_ (eO F ha);unfold Cc;rw[vQ];constructor
 .rintro⟨v,hv,e⟩;obtain⟨y,hy,rfl⟩:=a9.mp hv;have:(((y:Nat):Int)==(b:Int))=true\/((b:Int)==((y:Nat):Int))=true:=by first|exact .inl e|exact .inr e
  have:y=b:=by rcases this with t|t <;> simp at t <;> lia
  rw[<-this];exact hy
 .intro hy;exact⟨.int (b:Int),a9.mpr ⟨b,hy,rfl⟩,by show ((b:Int)==(b:Int))=true;simp⟩
theorem lO{xs:List Nat}:(NV xs).all iq=true:=ij.mpr fun x hx=>by obtain⟨y,_,rfl⟩:=a9.mp hx;rfl
theorem Pq{ns:List Nat}{a b:Int}:(a,b)∈j9 ns↔(b,a)∈j9 ns:=⟨fun h=>by
 rcases gj.mp h with z|z
 .exact gj.mpr (.inr z)
 .exact gj.mpr (.inl z),fun h=>by
 rcases gj.mp h with z|z
 .exact gj.mpr (.inr z)
 .exact gj.mpr (.inl z)⟩
theorem Uc{ns:List Nat}{a b k:Nat}(hk:k<ns.length)(hj:∀j,j<k->(bw ns a).getD j 0=(bw ns b).getD j 0)(ne:(bw ns a).getD k 0≠(bw ns b).getD k 0):iU ns a b=some k:=
 List.find?_range_eq_some.mpr ⟨bn ne,dt.mpr hk,fun j h=>by rw[dF (fun z=>z (hj j h))];rfl⟩
theorem Ud{ns:List Nat}{a b:Nat}(hj:∀j,j<ns.length->(bw ns a).getD j 0=(bw ns b).getD j 0):iU ns a b=none:=
 vM.mpr fun j h=>by simpa using hj j (dt.mp h)
section
variable {P:Program} {w:World} {K:PySem.W.Frag} {mg:Str->Option Value} {base:Heap}
theorem Y0:aA ["net","one","other"] ["net","one","other"] (ao YX):=⟨rfl,rfl,rfl,by decide +kernel,rfl,by decide +kernel,by decide +kernel⟩
def Pr(K:PySem.W.Frag)(C:Addr):Sp:=fun vs H Q _=>∃ (L:Addr->Prop) (p:Addr) (ns:List Nat) (x y:V) (o o':Option Int),vs=[.ref p,x,y]/\gU C H L p (pr ns) (j9 ns)/\Be K H x o/\Be K H y o'/\∀H',az H H'->Q (.bl (Il ns o o')) H'
theorem Ue{f C CE:Addr}{fd:FuncData}(F:eK K "are_tied" "are_tied" YX f fd)(T:NT K mg C)(HO:cu P w K mg base ba 3 "is_house" ["many","thing"] (lJ K))(MM:fD P w K mg base ba 1 C "many" ["self"] (A_ C))(MO:fD P w K mg base (iE P w) 5 C "out" ["self","house"] (CU K C CE Lf)):bi P w K mg base ba 6 f fd ["net","one","other"] (Pr K C):=by
 obtain⟨fM,WB,mM,bM,GM⟩:=MM.ex;obtain⟨fO,fdO,mO,bO,GO⟩:=MO.ex;refine F.ok Y0 (fun vs H Q E h=>?_) (fun dC A outer s H vs Q E hr h=>?_)
 .obtain⟨L,p,ns,x,y,o,o',rfl,_⟩:=h;rfl
 .obtain⟨L,p,ns,x,y,o,o',rfl,N,wx,wy,q⟩:=h;have h1:bL 1 _:=hr.mono (by decide);have h3:bL 3 _:=hr.mono (by decide);refine⟨_,(ah (bp (PW.pt (nM (cN (cp (av HO h3 aE (aa (se (pv 0) T.cl mM GM h1 bM .nil aE) (aa (pv 1) af))))) (kK (cN (cp (av HO h3 aE (aa (se (pv 0) T.cl mM GM h1 bM .nil aE) (aa (pv 2) af)))))))) (aj (aF fc)) aK)
   (aj (aF (kL (ge hV (pv 2) (dg (pv 0) T.cl mO GO hr bO .nil kR (aa (pv 1) af)) rfl) (mG (ge hV (pv 1) (dg (pv 0) T.cl mO GO hr bO .nil kR (aa (pv 2) af)) rfl)))))),?_⟩
  obtain⟨dx,tl,ol,ds,hN,_⟩:=N.ob;have Fi:=N.qw;refine⟨_,rfl,p,dx,_,rfl,hN,Nq _ _ _ _,L,p,pr ns,_,rfl,N,_,rfl,x,o,_,rfl,wx _ (az.refl _),_,rfl,?_⟩;cases hw:be o 0 ((pr ns:Int)-1) with
  |false=>exact gY (gY (by have:=q H (az.refl _);unfold Il at this;rw[hw] at this;exact this))
  |true=>
  refine fW ⟨_,rfl,p,dx,_,rfl,hN,Nq _ _ _ _,L,p,pr ns,_,rfl,N,_,rfl,y,o',_,rfl,wy _ (az.refl _),_,rfl,?_⟩;cases En:be o' 0 ((pr ns:Int)-1) with
  |false=>exact gY (by have:=q H (az.refl _);unfold Il at this;rw[hw,En] at this;exact this)
  |true=>
  refine fW ?_;obtain⟨a,ha,rfl⟩:=fZ hw;obtain⟨b,hb,rfl⟩:=fZ En;obtain rfl:=pO (wx _ (az.refl _));obtain rfl:=pO (wy _ (az.refl _));refine⟨_,rfl,_,rfl,p,dx,_,rfl,hN,Pp _ _ _ _,_,rfl,L,p,pr ns,_,_,_,rfl,N,.int _,(fun z=>by rw[hw] at z;cases z),fun i hi e r H1 s1 A9 Y1=>?_⟩;cases e;refine⟨r,_,rfl,.inl (bo.of Y1),rfl,lO,_,rfl,?_⟩;have e1:(if false=true then !Cc (V.int (b:Int)) (NV (dX (pr ns) (j9 ns) a)) else Cc (V.int (b:Int)) (NV (dX (pr ns) (j9 ns) a)))=decide (((a:Int),(b:Int))∈j9 ns):=Im Fi ha;rw[e1];have q':∀H',az H H'->Q (.bl (decide (((a:Int),(b:Int))∈j9 ns))) H':=fun H' s'=>by have:=q H' s';unfold Il at this;rw[hw,En] at this;exact this
  cases ht:decide (((a:Int),(b:Int))∈j9 ns) with
  |false=>
   rw[ht] at q';exact fW (q' H1 s1)
  |true=>
   rw[ht] at q';refine gY ⟨_,rfl,_,rfl,p,dx,_,rfl,s1 _ _ hN,Pp _ _ _ _,_,rfl,L,p,pr ns,_,_,_,rfl,N.same s1,.int _,(fun z=>by rw[En] at z;cases z),fun i hi e r2 H2 s2 Fg EC=>?_⟩;cases e;refine⟨r2,_,rfl,.inl (bo.of EC),rfl,lO,?_⟩;have e2:(if false=true then !Cc (V.int (a:Int)) (NV (dX (pr ns) (j9 ns) b)) else Cc (V.int (a:Int)) (NV (dX (pr ns) (j9 ns) b)))=true:=(Im Fi hb).trans (bn (Pq.mp (dM ht)));rw[e2];exact q' H2 (s1.trans s2)
theorem C6:aA ["self","house","home","here","there","k"] ["self","house","home"] (ao Pk):=⟨rfl,rfl,rfl,by decide +kernel,rfl,by decide +kernel,by decide +kernel⟩
def yz(K:PySem.W.Frag)(C CB CE:Addr):Sp:=fun vs H Q E=>∃ (L:Addr->Prop) (b:Addr) (ns:List Nat) (x y:V) (o o':Option Int),vs=[.ref b,x,y]/\fg C CB H L b ns/\Be K H x o/\Be K H y o'/\(be o 0 ((pr ns:Int)-1)=false\/be o' 0 ((pr ns:Int)-1)=false->∀H',az H H'->E (.ref CE) none H')/\∀h g:Nat,h<pr ns->g<pr ns->o=some (h:Int)->o'=some (g:Int)->∀H',az H H'->Q (oV (iU ns h g)) H'
theorem Ps{f C CB CE:Addr}{fd:FuncData}(F:eK K "phase" "Box.phase" Pk f fd)(B:Bl mg)(TB:Fh K mg CB)(M:fD P w K mg base (iE P w) 5 CB "place" ["self","house"] (C5 K C CB CE)):bi P w K mg base (iE P w) 6 f fd ["self","house","home"] (yz K C CB CE):=by
 obtain⟨fM,WB,mM,bM,GM⟩:=M.ex;refine F.M0 C6 (fun vs H Q E h=>?_) (fun dC A outer s H vs Q E hr h=>?_)
 .obtain⟨L,b,ns,x,y,o,o',rfl,_⟩:=h;rfl
 .obtain⟨L,b,ns,x,y,o,o',rfl,BA,wx,wy,k1,k2⟩:=h;obtain⟨dx,pn,sr,hb,N,fE⟩:=BA.ob;have l5:=BA.bx.l5;refine⟨_,ah (aW (i:=3) C6.nd rfl (Or.inl rfl) (dg (pv 0) TB.cl mM GM hr bM .nil (uY (E':=E) fun _ _ _ z=>z) (aa (pv 1) af)))
   (ah (aW (i:=4) C6.nd rfl (Or.inl rfl) (dg (pv 0) TB.cl mM GM hr bM .nil (uY (E':=E) fun _ _ _ z=>z) (aa (pv 2) af)))
   (ah (cF Oq rfl (cj rfl B.range (aa (aI aM (by rfl) B.len ee (aa (pv 3) af)) af)) (au (i:=5) C6.nd rfl (Or.inl rfl))
    (aj (bp (aJ pX (a_ bD (pv 3) (pv 5) (fun _ _=>rfl)) (a_ bD (pv 4) (pv 5) (fun _ _=>rfl)) (aQ _)) (aj (aF (pv 5))) aK)))
   (aj (aF cn)))),?_⟩
  refine⟨_,rfl,b,dx,_,rfl,hb,oj,_,rfl,L,b,ns,x,o,rfl,BA,wx _ (az.refl _),(fun z=>k1 (.inl z) _ (az.refl _)),fun h hh e t1 H1 s1 Y2=>?_⟩;subst e;refine⟨_,rfl,b,dx,_,rfl,s1 _ _ hb,oj,_,rfl,L,b,ns,y,o',rfl,BA.same s1,wy _ s1,(fun z=>k1 (.inr z) _ s1),fun g hg e t2 H2 s2 Ry=>?_⟩;subst e;have Uf:=s2 _ _ Y2;have mX:=s1.trans s2;have dl:(NV (bw ns h)).length=ns.length:=by rw[aT,cV]
  refine⟨_,rfl,t1,_,rfl,.inr (bh.of Uf),_,rfl,by lia,by rw[dl];lia,?_⟩;rw[dl];refine dZ (n:=ns.length) (lo:=0) (fun k σ H3=>H3=H2/\(∃z,σ=[some (.ref b),some x,some y,some (.ref t1),some (.ref t2),z])/\∀j,j<k->(bw ns h).getD j 0=(bw ns g).getD j 0) ⟨rfl,⟨_,rfl⟩,fun j hj=>absurd hj (j8 _)⟩ ?_ ?_
  .rintro k σ _ hk ⟨rfl,⟨z,rfl⟩,hj⟩;rw[fJ];refine⟨_,rfl,_,rfl,t1,_,_,_,rfl,rfl,bh.of Uf,aB (eX hk),_,rfl,_,rfl,t2,_,_,_,rfl,rfl,bh.of Ry,aB (eX hk),rfl,_,rfl,?_⟩;by_cases c:(bw ns h).getD k 0=(bw ns g).getD k 0
   .rw[c,bn rfl];exact fW ⟨rfl,⟨_,rfl⟩,fun j Rk=>by
     rcases vz.mp Rk with z|z
     .exact hj j z
     .rw[z];exact c⟩
   .rw[dF (fun z=>c (by injection z with z;exact cR z))];refine gY ⟨_,rfl,?_⟩;have:=k2 h g hh hg rfl rfl _ mX;rw[Uc hk hj c] at this;exact this
  .rintro σ _ ⟨rfl,⟨z,rfl⟩,hj⟩;have:=k2 h g hh hg rfl rfl _ mX;rw[Ud hj] at this;exact this
end
end tf
namespace L2
open PySem PySem.Spec PyProof.Rows
theorem Io{X:Cx}:R5 X (fun o i H Q=>∃p xs v,∃k:Nat,o=.ref p/\i=.int (k:Int)/\H p=some (.lst xs)/\xs[k]?=some v/\Q v H):=by
 intro ae s σ H o i ov iv Q I ro ri h;obtain⟨p,xs,v,k,rfl,rfl,hp,hv,q⟩:=h;cases ro;obtain⟨t,rfl⟩:=ri;obtain⟨its,r,pl,hz⟩:=I.list (bo.of hp);have hk:=(cW.mp hv).1;obtain⟨w,ew,DA⟩:=r.get hv;have hl:=r.length;have hn:=r6;exact PySem.wpAny_getItem_list pl.isList (by lia) (by lia) (by simpa using ew) ⟨v,H,I,DA,q⟩
end L2
namespace tf
open PySem L2 jR
theorem LB{ns:List Nat}{o o':Option Int}(h:Il ns o o'=true):∃a b:Nat,a<pr ns/\b<pr ns/\o=some (a:Int)/\o'=some (b:Int)/\((a:Int),(b:Int))∈j9 ns:=by
 unfold Il at h;obtain⟨h1,h2⟩:=Bool.and_eq_true_iff.mp h;obtain⟨h4,h3⟩:=Bool.and_eq_true_iff.mp h2;obtain⟨a,ha,rfl⟩:=fZ h1;obtain⟨b,hb,rfl⟩:=fZ h4;exact⟨a,b,ha,hb,rfl,rfl,dM h3⟩
theorem Pu{ns:List Nat}{a b k:Nat}(hp:∀x∈ns,0<x)(ha:a<pr ns)(h:iU ns a b=some k):yy ns a b=some (y3 ns ((bw ns a).set k (if (bw ns a).getD k 0<(bw ns b).getD k 0 then (bw ns a).getD k 0+1 else (bw ns a).getD k 0-1))):=by
 obtain⟨hk,ne⟩:=eU h;unfold yy;rw[h,zV];refine congrArg some ?_;have e:=C0 (ns:=ns) (ds:=bw ns a) (k:=k) (v:=if (bw ns a).getD k 0<(bw ns b).getD k 0 then (bw ns a).getD k 0+1 else (bw ns a).getD k 0-1) cV.symm (by rw[cV];exact hk);rw[qX ha] at e;by_cases c:(bw ns a).getD k 0<(bw ns b).getD k 0
 .rw[ak c] at e |-;rw[ak c];rw[i7,kF] at e;lia
 .rw[aq c] at e |-;rw[aq c];have h1:(bw ns a).getD k 0=((bw ns a).getD k 0-1)+1:=by lia
  rw[h1,i7,kF,zE] at e;lia
section
variable {P:Program} {w:World} {K:PySem.W.Frag} {mg:Str->Option Value} {base:Heap}
theorem Ug:aA ["self","one","other"] ["self","one","other"] (ao Pj):=⟨rfl,rfl,rfl,by decide +kernel,rfl,by decide +kernel,by decide +kernel⟩
def yA(K:PySem.W.Frag)(C CB CT:Addr):Sp:=fun vs H Q E=>∃ (L:Addr->Prop) (b:Addr) (ns:List Nat) (x y:V) (o o':Option Int),vs=[.ref b,x,y]/\fg C CB H L b ns/\Be K H x o/\Be K H y o'/\(Il ns o o'=false->∀H',az H H'->E (.ref CT) none H')/\∀h g:Nat,h<pr ns->g<pr ns->o=some (h:Int)->o'=some (g:Int)->Il ns o o'=true->∀H',az H H'->Q (oV (iU ns h g)) H'
theorem Pw{f C CB CE CT:Addr}{fd:FuncData}(F:eK K "way" "Box.way" Pj f fd)(TB:Fh K mg CB)(e:Er K mg "NoTie" CT)(AT:cu P w K mg base ba 6 "are_tied" ["net","one","other"] (Pr K C))(M:fD P w K mg base (iE P w) 6 CB "phase" ["self","house","home"] (yz K C CB CE)):bi P w K mg base (iE P w) 7 f fd ["self","one","other"] (yA K C CB CT):=by
 obtain⟨fM,WB,mM,bM,GM⟩:=M.ex;refine F.M0 Ug (fun vs H Q E h=>?_) (fun dC A outer s H vs Q E hr h=>?_)
 .obtain⟨L,b,ns,x,y,o,o',rfl,_⟩:=h;rfl
 .obtain⟨L,b,ns,x,y,o,o',rfl,BA,wx,wy,k1,k2⟩:=h;obtain⟨dx,pn,sr,hb,N,fE⟩:=BA.ob;refine⟨_,ah (bp (cN (cp (av AT hr aE (aa (gG (pv 0) rfl) (aa (pv 1) (aa (pv 2) af)))))) (aj (kS (q:=fun H1=>E (.ref CT) none H1) rfl e.ok rfl e.at_ (aa rY af) (fun _ _ _ _ _ _ _ I m q=>kQ I m q))) aK)
   (aj (aF (dg (pv 0) TB.cl mM GM hr bM .nil kR (aa (pv 1) (aa (pv 2) af))))),?_⟩
  refine⟨_,rfl,b,CB,dx,_,_,rfl,hb,TB.cl,TB.nN,Ic,_,rfl,_,rfl,L,pn,ns,x,y,o,o',rfl,N,wx,wy,fun H1 s1=>⟨_,rfl,?_⟩⟩;cases ha:Il ns o o' with
  |false=>exact gY ⟨by show 1<=sizeLine;decide,k1 ha H1 s1⟩
  |true=>
   refine fW ?_;obtain⟨h,g,hh,hg,rfl,rfl,_⟩:=LB ha;exact⟨_,rfl,b,dx,_,rfl,s1 _ _ hb,tQ,_,rfl,_,rfl,L,b,ns,x,y,_,_,rfl,BA.same s1,fun H' s'=>wx H' (s1.trans s'),fun H' s'=>wy H' (s1.trans s'),(fun z=>by rcases z with z|z <;> (rw[dI (by assumption)] at z;cases z)),fun h' g' hh' hg' e1 e2 H' s'=>k2 h' g' hh' hg' e1 e2 ha H' (s1.trans s')⟩
theorem Ip:aA ["self","house","home","k","numbers"] ["self","house","home"] (ao Pl):=⟨rfl,rfl,rfl,by decide +kernel,rfl,by decide +kernel,by decide +kernel⟩
def C7(K:PySem.W.Frag)(C CB CE:Addr):Sp:=fun vs H Q E=>∃ (L:Addr->Prop) (b:Addr) (ns:List Nat) (x y:V) (o o':Option Int),vs=[.ref b,x,y]/\fg C CB H L b ns/\Be K H x o/\Be K H y o'/\(be o 0 ((pr ns:Int)-1)=false\/be o' 0 ((pr ns:Int)-1)=false->∀H',az H H'->E (.ref CE) none H')/\∀h g:Nat,h<pr ns->g<pr ns->o=some (h:Int)->o'=some (g:Int)->∀H',az H H'->Q (oV (yy ns h g)) H'
theorem Px{f C CB CE:Addr}{fd:FuncData}(F:eK K "wish" "Box.wish" Pl f fd)(B:Bl mg)(TB:Fh K mg CB)(MF:fD P w K mg base (iE P w) 6 CB "phase" ["self","house","home"] (yz K C CB CE))(MP:fD P w K mg base (iE P w) 5 CB "place" ["self","house"] (C5 K C CB CE))(MH:fD P w K mg base ba 4 CB "house" ["self","place"] (Ik C CB)):bi P w K mg base (iE P w) 7 f fd ["self","house","home"] (C7 K C CB CE):=by
 obtain⟨fF,fdF,mF,bF,GF⟩:=MF.ex;obtain⟨fP,fdP,mP,bP,GP⟩:=MP.ex;obtain⟨fH,fdH,mH,bH,GH⟩:=MH.ex;refine F.M0 Ip (fun vs H Q E h=>?_) (fun dC A outer s H vs Q E hr h=>?_)
 .obtain⟨L,b,ns,x,y,o,o',rfl,_⟩:=h;rfl
 .obtain⟨L,b,ns,x,y,o,o',rfl,BA,wx,wy,k1,k2⟩:=h;obtain⟨dx,pn,sr,hb,N,fE⟩:=BA.ob;have h5:bL 5 _:=hr.mono (by decide);have h4:bL 4 _:=hr.mono (by decide);refine⟨_,ah (aW (i:=3) Ip.nd rfl (Or.inl rfl) (dg (pv 0) TB.cl mF GF hr bF .nil (uY (E':=E) fun _ _ _ z=>z) (aa (pv 1) (aa (pv 2) af))))
   (ah (bp (aJ jM (pv 3) cn (aQ _)) (aj (aF cn)) aK)
   (ah (aW (i:=4) Ip.nd rfl (Or.inl rfl) (bX nV (by rfl) B.lst rf (aa (dg (pv 0) TB.cl mP GP h5 bP .nil kR (aa (pv 1) af)) af)))
   (ah (J9 (pv 4) (pv 3) Io (jl (aJ r0 (a_ bQ (pv 4) (pv 3) (fun _ _=>rfl)) (a_ bD (dg (pv 0) TB.cl mP GP h5 bP .nil kR (aa (pv 2) af)) (pv 3) (fun _ _=>rfl)) (aQ _)) aD (BY wj aD)) Ag ip)
   (aj (aF (dg (pv 0) TB.cl mH GH h4 bH .nil aE (aa (bX b_ (by rfl) B.tup jh (aa (pv 4) af)) af))))))),?_⟩
  refine⟨_,rfl,b,dx,_,rfl,hb,tQ,_,rfl,_,rfl,L,b,ns,x,y,o,o',rfl,BA,wx,wy,k1,fun h g hh hg e1 e2 H1 s1=>?_⟩;subst e1;subst e2;have BX:=BA.bx;refine lZ (fun σ Hx=>H1=Hx/\σ=[some (.ref b),some x,some y,some (oV (iU ns h g)),none]) ?_ (fun N hN=>hN _ _ ⟨rfl,rfl⟩);rintro σ _ ⟨rfl,rfl⟩;refine lZ (fun σ Hx=>H1=Hx/\∃k,iU ns h g=some k/\σ=[some (.ref b),some x,some y,some (.int (k:Int)),none]) ?_ ?_
  rotate_left
  .intro N hN;cases hp:iU ns h g with
   |none=>
    refine⟨_,rfl,rfl,_,rfl,gY ?_⟩;have:=k2 h g hh hg rfl rfl H1 s1;unfold yy at this;rw[hp] at this;exact this
   |some k=>exact⟨_,rfl,rfl,_,rfl,cM rfl (hN _ _ ⟨rfl,k,hp,rfl⟩)⟩
  rintro σ _ ⟨rfl,k,hp,rfl⟩;obtain⟨hk,ne⟩:=eU hp;refine lZ (fun σ H3=>∃D,σ=[some (.ref b),some x,some y,some (.int (k:Int)),some (.ref D)]/\az H H3/\H D=none/\H3 D=some (.lst (NV (bw ns h)))) ?_ ?_
  rotate_left
  .intro N hN;refine⟨_,rfl,b,dx,_,rfl,s1 _ _ hb,oj,_,rfl,L,b,ns,x,_,rfl,BA.same s1,wx _ s1,(fun z=>by rw[dI hh] at z;cases z),fun h' _ e t1 H2 s2 Y2=>?_⟩;obtain rfl:h=h':=cR (bg e);exact⟨t1,_,rfl,.inr (bh.of Y2),fun D hD=>hN _ _ ⟨D,rfl,(s1.trans s2).trans (am hD),(s1.trans s2).free hD,ag⟩⟩
  rintro σ H3 ⟨D,rfl,s3,nD,hD⟩;refine lZ (fun σ H5=>σ=[some (.ref b),some x,some y,some (.int (k:Int)),some (.ref D)]/\az H H5/\H5 D=some (.lst (NV ((bw ns h).set k (if (bw ns h).getD k 0<(bw ns g).getD k 0 then (bw ns h).getD k 0+1 else (bw ns h).getD k 0-1))))) ?_ ?_
  rotate_left
  .intro N hN;refine⟨_,rfl,_,rfl,D,_,_,k,rfl,rfl,hD,eX hk,_,rfl,_,rfl,D,_,_,_,rfl,rfl,bo.of hD,aB (eX hk),?_⟩;refine⟨_,rfl,b,dx,_,rfl,s3 _ _ hb,oj,_,rfl,L,b,ns,y,_,rfl,BA.same s3,wy _ s3,(fun z=>by rw[dI hg] at z;cases z),fun g' _ e t2 H4 s4 Ry=>?_⟩;obtain rfl:g=g':=cR (bg e);have ix:E9 (NV (bw ns h)).length (k:Int)=some k:=iQ (by rw[aT,cV];exact hk);have st:∀v:Nat,(NV (bw ns h)).set k (.int (v:Int))=NV ((bw ns h).set k v):=fun v=>(List.map_set).symm;refine⟨_,rfl,t2,_,_,_,rfl,rfl,bh.of Ry,aB (eX hk),_,_,rfl,rfl,_,rfl,iD (fun c=>?_) (fun c=>?_)⟩
   .have c:=dM c;refine⟨_,_,rfl,rfl,D,_,_,k,rfl,rfl,s4 _ _ hD,ix,hN _ _ ⟨rfl,bN (s3.trans s4) nD,?_⟩⟩;rw[ak (by lia),ag];exact congrArg (fun l=>some (HO.lst l)) (st ((bw ns h).getD k 0+1))
   .have c:¬ (((bw ns h).getD k 0:Nat):Int)<(((bw ns g).getD k 0:Nat):Int):=fun z=>c (bn z);refine⟨_,rfl,_,_,rfl,rfl,D,_,_,k,rfl,rfl,s4 _ _ hD,ix,hN _ _ ⟨rfl,bN (s3.trans s4) nD,?_⟩⟩;rw[aq (by lia),ag];refine congrArg (fun l=>some (HO.lst l)) ?_;rw[<-st];exact congrArg (fun z=>(NV (bw ns h)).set k (V.int z)) (show (((bw ns h).getD k 0:Nat):Int)+-1=(((bw ns h).getD k 0-1:Nat):Int) by lia)
  rintro σ H5 ⟨rfl,s5,ur⟩;refine⟨_,rfl,b,dx,_,rfl,s5 _ _ hb,Ii,_,rfl,D,_,rfl,.inl ⟨bo.of ur,fun t ht=>?_⟩⟩;have lh:=m6 (h:=h) BX.pos hk;have lg:=m6 (h:=g) BX.pos hk;refine⟨L,b,t,ns,_,rfl,(BA.same s5).same (am ht),ag,by rw[vT,cV],fun i hi=>?_,fun H' s'=>?_⟩
  .rw[cq,List.getElem?_set];by_cases c:k=i
   .subst c;rw[ak rfl,ak (by rw[cV];exact hk),Option.getD_some];split <;> lia
   .rw[aq c,<-cq];exact m6 BX.pos hi
  .have:=k2 h g hh hg rfl rfl H' ((s5.trans (am ht)).trans s');rw[Pu BX.pos hh hp] at this;exact this
end
abbrev Py:Stmt:=fL 49
abbrev Y3:Stmt:=fL 50
structure Bl2(mg:Str->Option Value):Prop where
 abs:mg "abs"=none
 divmod:mg "divmod"=none
 dict:mg "dict"=none
 zip:mg "zip"=none
 repr:mg "repr"=none
def cT(H:Hp)(p:Addr):Prop:=∃a b:Int,H p=some (.lst [.int a,.int b])/\0<=a/\0<=b/\b<4294967296
theorem cT.same{H H':Hp}{p:Addr}(h:cT H p)(s:az H H'):cT H' p:=let ⟨a,b,e,r⟩:=h;⟨a,b,s _ _ e,r⟩
theorem cT.full{H:Hp}{p:Addr}(h:cT H p):H p≠none:=by obtain⟨a,b,e,_⟩:=h;rw[e];intro z;cases z
theorem cT.ne{H:Hp}{p q:Addr}(h:cT H p)(e:H q=none):q≠p:=by rintro rfl;exact h.full e
theorem cT.put{H:Hp}{p q:Addr}{o:HO}(h:cT H p)(n:p≠q):cT (upd H q o) p:=let ⟨a,b,e,r⟩:=h;⟨a,b,by rw[al n];exact e,r⟩
theorem cT.neT{H:Hp}{p q:Addr}{xs:List V}(h:cT H p)(e:H q=some (.tup xs)):q≠p:=by rintro rfl;obtain⟨a,b,z,_⟩:=h;rw[e] at z;cases z
theorem PO.eQ{H H':Hp}{p:Addr}{zs:Zs}(h:PO H zs)(s:cw p H H')(hp:cT H p):PO H' zs:=fun z hz=>s _ _ (h z hz) (hp.neT (h z hz))
theorem Y4{j:Int}(h1:0<j)(h2:j<2 ^ 200):Nat.log2 j.natAbs<200:=(Nat.log2_lt (by lia)).mpr (by lia)
theorem wZ{X:Cx}:fm X (.builtin "divmod") (fun xs H Q=>∃i j,xs=[.int i,.int j]/\(0<j/\j<2 ^ 200)/\∀p,H p=none->Q (.ref p) (upd H p (.tup [.int (i / j),.int (i % j)]))):=by
 intro ae s σ H xs us Q I r h;obtain⟨i,j,rfl,⟨h1,h2⟩,q⟩:=h;obtain⟨u,w',rfl,⟨t,rfl⟩,⟨t',rfl⟩⟩:=FV r;refine PyProof.Rows.divmod_int (by lia) ?_ (.inl (PyProof.noPylong_of_log2 (wb (Y4 h1 h2) (by decide))));rw[vw i (by lia),y7 i (by lia)];have hn:H s.heap.objs.size=none:=I.cf.fresh (aX _);refine⟨.ref s.heap.objs.size,_,?_,rfl,q _ hn⟩;refine I.laid (fun b o e=>a8 _ e) (aX _) ⟨by simp only[cQ,List.length_nil];rw[kG];decide,[.int (i / j) s.toks,.int (i % j) (s.toks+1)],.cons ⟨_,rfl⟩ (.cons ⟨_,rfl⟩ .nil),?_⟩;exact⟨_,bz s.heap rfl,rfl,0,rfl,rfl⟩
theorem Pz{X:Cx}:lX X (binaryOp .RShift) (rI (fun i j=>0<=j/\((2 ^ j.toNat:Nat):Int)<=i) fun i j=>.int (i / ((2 ^ j.toNat:Nat):Int))):=Rb fun i j _ _ _ _ _ hc q=>by
 have h1:0<=j:=hc.1;have h2:((2 ^ j.toNat:Nat):Int)<=i:=hc.2;have h3:0<2 ^ j.toNat:=Nat.two_pow_pos _;refine PySem.AutoIntOps.rshift_2 (by lia) (fun z=>?_) ?_
 .have n0:i.natAbs≠0:=by lia
  have:¬ i.natAbs.log2<j.toNat:=fun y=>by
   have:=(Nat.log2_lt n0).mp y;lia
  unfold Builtin.Int.intBits at z;rw[aq (by simp;lia)] at z;lia
 .rw[vw i (Int.pow_nonneg (by decide)),show (2:Int) ^ j.toNat=((2 ^ j.toNat:Nat):Int) by rw[Int.natCast_pow];rfl];exact q
section
variable {P:Program} {w:World} {K:PySem.W.Frag} {mg:Str->Option Value} {base:Heap}
theorem Iq:aA ["_law_script","_law_k","_law_cell"] ["_law_script","_law_k"] (ao Py):=⟨rfl,rfl,rfl,by decide +kernel,rfl,by decide +kernel,by decide +kernel⟩
def Ir(K:PySem.W.Frag):Sp:=fun vs H Q _=>∃ (a:Addr) (ns:List Int) (k:Nat),vs=[.ref a,.int k]/\bo K H a (ns.map V.int)/\k<64/\∀ (r:Addr) (H':Hp),az H H'->H r=none->cT H' r->Q (.ref r) H'
theorem PB{f:Addr}{fd:FuncData}(F:eK K "_law_pot" "_law_pot" Py f fd)(B:Bl mg):bi P w K mg base ba 1 f fd ["_law_script","_law_k"] (Ir K):=by
 refine F.ok Iq (fun vs H Q E h=>?_) (fun dC A outer s H vs Q E hr h=>?_)
 .obtain⟨a,ns,k,rfl,_⟩:=h;rfl
 .obtain⟨a,ns,k,rfl,hS,hk,q⟩:=h;refine⟨_,(ah (aW (i:=2) Iq.nd rfl (Or.inl rfl) aD)
   (ah (bp (aJ r0 (pv 1) (aI aM (by rfl) B.len ee (aa (pv 0) af)) (aQ _)) (aj (aW (i:=2) Iq.nd rfl (Or.inl rfl) (a_ bQ (pv 0) (pv 1) (fun _ _=>rfl)))) aK)
   (aj (aF (eF (aa (aI (uQ rfl) (by rfl) B.max PyProof.Rows.boot_max (aa aD (aa (bu mK (pv 2) (bu FL aD aD)) af))) (aa (bu eC (bu jL (bu FL (bu eC (bu jL (pv 2) aD) (bu pj aD (bu eC (pv 1) aD))) aD) aD) aD) af))))))),?_⟩
  refine lZ (fun σ Hc=>H=Hc/\σ=[some (.ref a),some (.int k),some (.int 0)]) ?_ (fun N hN=>hN _ _ ⟨rfl,rfl⟩);rintro σ _ ⟨rfl,rfl⟩;refine lZ (fun σ Hc=>H=Hc/\∃c:Int,σ=[some (.ref a),some (.int k),some (.int c)]) ?_ ?_
  rotate_left
  .intro N hN;refine⟨_,rfl,_,rfl,a,_,rfl,.inl hS,_,_,rfl,rfl,_,rfl,iD (fun e=>?_) (fun e=>hN _ _ ⟨rfl,0,rfl⟩)⟩;have e:k<ns.length:=by have:=dM e;rw[aP] at this;lia
   exact⟨_,rfl,_,rfl,a,_,_,_,rfl,rfl,hS,aB (by rw[bJ,cZ e];rfl),hN _ _ ⟨rfl,_,rfl⟩⟩
  rintro σ _ ⟨rfl,c,rfl⟩;have m0:0<=c % 2147483629:=oO _ (by decide);have m1:c % 2147483629<2147483629:=oI _ (by decide);refine⟨_,rfl,_,_,rfl,rfl,⟨by decide,by decide,by decide⟩,_,_,rfl,rfl,0,_,rfl,_,rfl,_,_,rfl,rfl,(by show (0:Int)<2147483629;decide),_,rfl,_,_,rfl,rfl,_,_,rfl,rfl,.inl ⟨by decide,by decide⟩,_,_,rfl,rfl,_,_,rfl,rfl,⟨by decide,by decide,by show (c % 2147483629+40503*((k:Int)+1)).natAbs<2 ^ 64;lia⟩,_,_,rfl,rfl,(by show (0:Int)<2147483563;decide),_,_,rfl,rfl,by show 2<=sizeLine;decide,fun r Fa=>?_⟩;have v0:0<=(c % 2147483629+40503*((k:Int)+1)) ^ Int.toNat 3 % 2147483563:=oO _ (by decide);have v1:(c % 2147483629+40503*((k:Int)+1)) ^ Int.toNat 3 % 2147483563<2147483563:=oI _ (by decide);refine q r _ (am Fa) Fa ⟨_,_,ag,by split <;> lia,?_,?_⟩
  .show 0<=(c % 2147483629+40503*((k:Int)+1)) ^ Int.toNat 3 % 2147483563+1;generalize (c % 2147483629+40503*((k:Int)+1)) ^ Int.toNat 3 % 2147483563=z at *;lia
  .show (c % 2147483629+40503*((k:Int)+1)) ^ Int.toNat 3 % 2147483563+1<_;generalize (c % 2147483629+40503*((k:Int)+1)) ^ Int.toNat 3 % 2147483563=z at *;lia
theorem Uh:aA ["_law_pot_here","_law_many_here","_law_digit"] ["_law_pot_here","_law_many_here"] (ao Y3):=⟨rfl,rfl,rfl,by decide +kernel,rfl,by decide +kernel,by decide +kernel⟩
def Bg:Sp:=fun vs H Q _=>∃ (p:Addr) (m:Nat),vs=[.ref p,.int m]/\0<m/\m<2 ^ 200/\cT H p/\∀ (d:Nat) (H':Hp),d<m->cw p H H'->cT H' p->Q (.int d) H'
theorem Ui{f:Addr}{fd:FuncData}(F:eK K "_law_draw" "_law_draw" Y3 f fd)(B2:Bl2 mg):bi P w K mg base ba 1 f fd ["_law_pot_here","_law_many_here"] Bg:=by
 refine F.ok Uh (fun vs H Q E h=>?_) (fun dC A outer s H vs Q E hr h=>?_)
 .obtain⟨p,m,rfl,_⟩:=h;rfl
 .obtain⟨p,m',rfl,m0',m1',⟨a,b,hp,a0,b0,b1⟩,q'⟩:=h;generalize hm:((m':Nat):Int)=m;have m0:0<m:=by lia
  have m1:m<2 ^ 200:=by lia
  have q:∀ (d a b:Int) (H':Hp),0<=d->d<m->0<=a->0<=b->b<4294967296->cw p H H'->H' p=some (.lst [.int a,.int b])->Q (.int d) H':=fun d a b H' h1 h2 h3 h4 h5 h6 h7=>by
   have:=q' d.toNat H' (by lia) h6 ⟨a,b,h7,h3,h4,h5⟩;rw[Int.toNat_of_nonneg h1] at this;exact this
  refine⟨_,(ah (bp (aJ xG (a_ bQ (pv 0) aD (fun _ _=>rfl)) aD (aQ _)) (ah (i9 (aI wZ (by rfl) B2.divmod PyProof.Rows.boot_divmod (aa (a_ bQ (pv 0) aD (fun _ _=>rfl)) (aa (pv 1) af))) (eA (n:=2) rfl (aN (o_ (pv 0) aD ip) (aN (au (i:=2) Uh.nd rfl (Or.inl rfl)) dv))))
    (aj (aF (pv 2)))) aK)
   (ah (i9 (bu jL (bu eC (bu pj (a_ bQ (pv 0) aD (fun _ _=>rfl)) aD) aD) aD) (o_ (pv 0) aD ip))
   (aj (aF (bu jL (bu qL (bu jL (bu pj (a_ bQ (pv 0) aD (fun _ _=>rfl)) (a_ bQ (pv 0) aD (fun _ _=>rfl))) aD) aD) (pv 1)))))),?_⟩
  have g0:F6 [V.int a,V.int b] 0=some (.int a):=aB (j:=0) rfl;have g1:F6 [V.int a,V.int b] 1=some (.int b):=aB (j:=1) rfl;refine⟨_,rfl,p,_,_,_,rfl,rfl,bo.of hp,g0,_,_,rfl,rfl,_,rfl,?_⟩;refine iD (fun e=>?_) (fun e=>?_)
  .refine⟨_,rfl,p,_,_,_,rfl,rfl,bo.of hp,g0,_,rfl,_,_,rfl,⟨m0,by lia⟩,fun t ht=>?_⟩;have npt:p≠t:=ap hp ht;refine⟨t,_,rfl,bh.of ag,rfl,_,_,rfl,?_⟩;refine⟨_,rfl,p,_,0,0,rfl,rfl,by rw[al npt];exact hp,iQ (j:=0) (by show 0<2;decide),_,_,rfl,rfl,_,rfl,?_⟩;exact q _ _ _ _ (oO _ (by lia)) (oI _ m0) (Int.ediv_nonneg a0 (by lia)) b0 b1 (fun c o e n=>by rw[al n,al (ap e ht)];exact e) ag
  .refine⟨_,rfl,p,_,_,_,rfl,rfl,bo.of hp,g1,_,_,rfl,rfl,.inl ⟨by lia,by lia⟩,_,_,rfl,rfl,_,_,rfl,rfl,(by show (0:Int)<2147483629;decide),?_⟩;refine⟨_,rfl,p,_,1,1,rfl,rfl,hp,iQ (j:=1) (by show 1<2;decide),?_⟩;have c0:0<=(b*39373+7919) % 2147483629:=oO _ (by decide);have c1:(b*39373+7919) % 2147483629<2147483629:=oI _ (by decide);refine⟨_,rfl,p,_,_,_,rfl,rfl,bo.of ag,aB (j:=1) rfl,_,rfl,p,_,_,_,rfl,rfl,bo.of ag,aB (j:=1) rfl,_,_,rfl,rfl,.inl ⟨by lia,by lia⟩,_,_,rfl,rfl,(by show (0:Int)<2147483587;decide),_,_,rfl,rfl,⟨by decide,by decide⟩,_,rfl,_,_,rfl,rfl,m0,?_⟩;exact q _ _ _ _ (oO _ (by lia)) (oI _ m0) a0 c0 (by lia) cw.upd ag
end
abbrev Y5:Stmt:=fL 51
abbrev Y6:Stmt:=fL 52
abbrev Y7:Stmt:=fL 53
abbrev Y8:Stmt:=fL 54
theorem Iu{xs:List V}{k:Nat}:wm xs none (some (k:Int))=xs.take k:=by
 have h1:HT.gf xs.length 0 none=0:=rfl;have h2:HT.gf xs.length xs.length (some (k:Int))=min k xs.length:=by
  unfold HT.gf;simp;try lia
 unfold wm;rw[h1,h2,z_,Nat.sub_zero,List.take_eq_take_iff];simp;try lia
theorem Iv:∀ {ns:List Nat} {h k:Nat},k<ns.length->(bw ns h).getD k 0=h / pr (ns.take k) % ns.getD k 0
 |[],_,_,hk=>absurd hk (j8 _)
 |n::ns,h,0,_=>by show h % n=h / 1 % n;rw[oZ]
 |n::ns,h,k+1,hk=>by
  have:=Iv (ns:=ns) (h:=h / n) (k:=k) (l_ hk);show (bw ns (h / n)).getD k 0=h / (n*pr (ns.take k)) % ns.getD k 0;rw[this,md]
theorem Nr{ns:List Nat}{h k:Nat}(hk:k<ns.length)(h1:1<=(bw ns h).getD k 0):pr (ns.take k)<=h:=by
 rw[Iv hk] at h1;rcases fG h (pr (ns.take k)) with c|c
 .rw[zR c,Nat.zero_mod] at h1;exact absurd h1 (by decide)
 .exact c
def w4(ns:List Nat)(h k:Nat)(up:Bool):Option Nat:=if up then (if (bw ns h).getD k 0+1<ns.getD k 0 then some (h+pr (ns.take k)) else none) else if 1<=(bw ns h).getD k 0 then some (h-pr (ns.take k)) else none
theorem Nt{ns:List Nat}{a b k:Nat}(hp:∀x∈ns,0<x)(h:iU ns a b=some k):yy ns a b=w4 ns a k (decide ((bw ns a).getD k 0<(bw ns b).getD k 0)):=by
 obtain⟨hk,ne⟩:=eU h;have la:=m6 (h:=a) hp hk;have lb:=m6 (h:=b) hp hk;unfold yy w4;rw[h,zV];by_cases c:(bw ns a).getD k 0<(bw ns b).getD k 0
 .rw[ak c,bn c,ak rfl,ak (by lia)]
 .rw[aq c,dF c,aq (by decide),ak (by lia)]
section
variable {P:Program} {w:World} {K:PySem.W.Frag} {mg:Str->Option Value} {base:Heap}
theorem Bh:aA ["_law_pot_here","_law_found","_law_left","_law_ways","_law_k","_law_most"] ["_law_pot_here"] (ao Y5):=⟨rfl,rfl,rfl,by decide +kernel,rfl,by decide +kernel,by decide +kernel⟩
def PC:Sp:=fun vs H Q _=>∃ (p:Addr),vs=[.ref p]/\cT H p/\∀ (r:Addr) (ns:List Nat) (H':Hp),cw p H H'->cT H' p->H' r=some (.tup (NV ns))->Bx ns->Q (.ref r) H'
theorem Uj{f:Addr}{fd:FuncData}(F:eK K "_law_sides" "_law_sides" Y5 f fd)(B:Bl mg)(DR:cu P w K mg base ba 1 "_law_draw" ["_law_pot_here","_law_many_here"] Bg):bi P w K mg base ba 2 f fd ["_law_pot_here"] PC:=by
 refine F.ok Bh (fun vs H Q E h=>?_) (fun dC A outer s H vs Q E hr h=>?_)
 .obtain⟨p,rfl,_⟩:=h;rfl
 .obtain⟨p,rfl,hp,q⟩:=h;refine⟨_,(ah (aW (i:=1) Bh.nd rfl (Or.inl rfl) (eF af))
   (ah (aW (i:=2) Bh.nd rfl (Or.inl rfl) aD)
   (ah (aW (i:=3) Bh.nd rfl (Or.inl rfl) (bu eC aD (av DR hr aE (aa (pv 0) (aa aD af)))))
   (ah (cF d9 rfl (cj rfl B.range (aa (pv 3) af)) (au (i:=4) Bh.nd rfl (Or.inl rfl))
    (ah (aW (i:=5) Bh.nd rfl (Or.inl rfl) (aI (uR rfl) (by rfl) B.min PyProof.Rows.boot_min (aa aD (aa (bu Pz (pv 2) (bu mK (bu mK (pv 3) aD) (pv 4))) af))))
    (ah (bG (ir hX jg jf cI (pv 1) (aa (bu eC aD (av DR hr aE (aa (pv 0) (aa (bu mK (pv 5) aD) af)))) af)))
    (aj (aW (i:=2) Bh.nd rfl (Or.inl rfl) (bu qL (pv 2) (a_ bQ (pv 1) (BY wj aD) (fun _ _=>rfl))))))))
   (aj (aF (bX b_ (by rfl) B.tup jh (aa (pv 1) af)))))))),?_⟩
  refine⟨by show 0<=sizeLine;decide,fun Fd hF=>?_⟩;have Y9:Fd≠p:=hp.ne hF;have s0:=am (o:=.lst []) hF;refine⟨_,rfl,p,5,rfl,by decide,by decide,hp.same s0,fun d H1 hd s1 M2=>⟨_,_,rfl,rfl,?_⟩⟩;obtain⟨W,hW,w1,w5⟩:∃W:Nat,(1+(d:Int))=(W:Int)/\1<=W/\W<=5:=⟨1+d,by lia,by lia,by lia⟩
  change bW 3 (V.int (1+(d:Int))) _ H1 _;rw[hW];refine⟨_,rfl,_,rfl,by lia,by lia,dZ (n:=W) (lo:=0) (fun k σ H2=>∃ (rm:Nat) (fs:List Nat) (x4 x5:Option V),σ=[some (.ref p),some (.ref Fd),some (.int rm),some (.int W),x4,x5]/\cw p H H2/\cT H2 p/\H2 Fd=some (.lst (NV fs))/\fs.length=k/\(∀x∈fs,2<=x/\x<=8)/\pr fs*rm<=32/\2 ^ (W-k)<=rm/\rm<=32) ?_ ?_ ?_⟩
  .refine⟨32,[],_,_,rfl,(cw.of s0).trans s1,M2,s1 _ _ ag Y9,rfl,(fun x hx=>nomatch hx),by decide,?_,by decide⟩;exact Nat.pow_le_pow_right (by decide) (show W-0<=5 by lia)
  .rintro k σ H2 hk ⟨rm,fs,x4,x5,rfl,s2,p2,WL,fl,fb,fp,rl,r32⟩;rw[fJ];have e2:2 ^ (W-k)=2 ^ (W-1-k)*2:=by rw[<-Nat.pow_succ];congr 1;lia
   have g1:1<=2 ^ (W-1-k):=Nat.one_le_two_pow;have ej:((W:Int)-1-(k:Int)).toNat=W-1-k:=by lia
   refine⟨_,rfl,_,rfl,_,_,rfl,rfl,_,rfl,_,_,rfl,rfl,_,_,rfl,rfl,⟨by show (0:Int)<=(W:Int)-1-(k:Int);lia,by show ((2 ^ ((W:Int)-1-(k:Int)).toNat:Nat):Int)<=(rm:Int);rw[ej];lia⟩,8,_,rfl,?_⟩;change bW 5 (V.int (if (rm:Int) / ((2 ^ ((W:Int)-1-(k:Int)).toNat:Nat):Int)<8 then (rm:Int) / ((2 ^ ((W:Int)-1-(k:Int)).toNat:Nat):Int) else 8)) _ H2 _;rw[ej];generalize hg:2 ^ (W-1-k)=g at *;obtain⟨tp,XA,t2,t8,tg⟩:∃tp:Nat,(if (rm:Int) / (g:Int)<8 then (rm:Int) / (g:Int) else 8)=(tp:Int)/\2<=tp/\tp<=8/\tp*g<=rm:=by
    have d1:2<=rm / g:=(Nat.le_div_iff_mul_le (by lia)).mpr (by lia);have d2:rm / g*g<=rm:=Nat.div_mul_le_self _ _;have e:(rm:Int) / (g:Int)=((rm / g:Nat):Int):=rfl;rw[e];by_cases c:rm / g<8
    .exact⟨rm / g,by rw[ak (by lia)],d1,by lia,d2⟩
    .refine⟨8,by rw[aq (by lia)];rfl,by lia,by lia,bj (Nat.mul_le_mul_right g (by lia:8<=rm / g)) d2⟩
   rw[XA];refine⟨_,rfl,.inl ⟨rfl,_,bo.of WL⟩,_,rfl,_,rfl,_,_,rfl,rfl,p,tp-1,by show [V.ref p,V.int ((tp:Int)-1)]=_;rw[show ((tp:Int)-1)=((tp-1:Nat):Int) by lia],by lia,bA (show tp-1<8 by lia) (by decide),p2,fun e H4 he s4 hp4=>?_⟩;have hF4:=s4 _ _ WL Y9;refine⟨_,_,rfl,rfl,Fd,_,.int ((2+e:Nat):Int),rfl,by show [V.int (2+(e:Int))]=_;rw[show (2+(e:Int))=((2+e:Nat):Int) by lia],hF4,by rw[aT,fl];exact bA (show k<6 by lia) (by decide),?_⟩;have hF5:(upd H4 Fd (.lst (NV fs++[.int ((2+e:Nat):Int)]))) Fd=some (.lst (NV (fs++[2+e]))):=by rw[ag,iS]
   have s5:cw p H (upd H4 Fd (.lst (NV fs++[.int ((2+e:Nat):Int)]))):=fun b o eq n=>by rw[al (ap eq hF)];exact s4 _ _ (s2 _ _ eq n) n
   have hp5:cT (upd H4 Fd (.lst (NV fs++[.int ((2+e:Nat):Int)]))) p:=hp4.put Y9.symm;generalize upd H4 Fd _=H5 at *;have fe:2+e<=tp:=by lia
   have at1:F6 (NV (fs++[2+e])) (-1)=some (.int ((2+e:Nat):Int)):=by rw[<-iS];exact F7 _ _
   refine⟨_,rfl,_,rfl,_,rfl,Fd,_,_,_,rfl,rfl,bo.of hF5,at1,_,_,rfl,rfl,⟨by lia,by lia⟩,rm / (2+e),fs++[2+e],_,_,rfl,s5,hp5,hF5,by rw[dU,fl];rfl,?_,?_,?_,?_⟩
   .intro x hx;rcases dO.mp hx with z|z
    .exact fb x z
    .rw[dL.mp z];lia
   .rw[jX,mw];exact bj (oG _ (by rw[Nat.mul_comm];exact Nat.div_mul_le_self _ _)) fp
   .rw[show W-(k+1)=W-1-k by lia,hg];refine(Nat.le_div_iff_mul_le (by lia)).mpr ?_;rw[Nat.mul_comm];exact bj (Nat.mul_le_mul_right g fe) tg
   .exact bj (Nat.div_le_self _ _) r32
  .rintro σ H2 ⟨rm,fs,x4,x5,rfl,s2,p2,WL,fl,fb,fp,rl,r32⟩;have r1:1<=rm:=bj Nat.one_le_two_pow rl;exact⟨_,rfl,Fd,_,rfl,.inl ⟨bo.of WL,fun t ht=>q t fs _ (s2.trans (cw.of (am ht))) (p2.same (am ht)) ag ⟨by lia,by lia,fb,bj (ze _ r1) fp⟩⟩⟩
theorem LC:aA ["_law_sides_here","_law_found","_law_side"] ["_law_sides_here"] (ao Y6):=⟨rfl,rfl,rfl,by decide +kernel,rfl,by decide +kernel,by decide +kernel⟩
def Iw:Sp:=fun vs H Q _=>∃ (a:Addr) (ns:List Nat),vs=[.ref a]/\H a=some (.tup (NV ns))/\(∀x∈ns,x<=8)/\Q (.int (pr ns:Nat)) H
theorem Uk{f:Addr}{fd:FuncData}(F:eK K "_law_many" "_law_many" Y6 f fd):bi P w K mg base ba 1 f fd ["_law_sides_here"] Iw:=by
 refine F.ok LC (fun vs H Q E h=>?_) (fun dC A outer s H vs Q E hr h=>?_)
 .obtain⟨a,ns,rfl,_⟩:=h;rfl
 .obtain⟨a,ns,rfl,ha,hx,q⟩:=h;refine⟨_,(ah (aW (i:=1) LC.nd rfl (Or.inl rfl) aD)
   (ah (cF d9 rfl (mJ (pv 0)) (au (i:=2) LC.nd rfl (Or.inl rfl))
    (aj (aW (i:=1) LC.nd rfl (Or.inl rfl) (bu pj (pv 1) (pv 2)))))
   (aj (aF (pv 1))))),?_⟩
  refine⟨_,rfl,a,rfl,⟨_,bh.of ha⟩,lD (K:=K) (xs:=NV ns) (fun i σ H2=>H=H2/\∃x,σ=[some (.ref a),some (.int ((pr (ns.take i):Nat):Int)),x]) ⟨rfl,_,rfl⟩ (fun i σ H2 _ z=>by rw[<-z.1];exact bh.of ha) ?_ ?_⟩
  .rintro i x σ _ jA ⟨rfl,y,rfl⟩;obtain⟨v,hv,rfl⟩:=qe jA;have h1:=hx v (dh hv);refine⟨_,rfl,_,rfl,_,_,rfl,rfl,.inr ⟨by lia,by lia⟩,rfl,some (.int v),?_⟩;rw[show ns.take (i+1)=ns.take i++[v] by rw[iH,hv];rfl,jX];rfl
  .rintro σ _ ⟨rfl,x,rfl⟩;rw[aT,gm];exact⟨_,rfl,q⟩
theorem LD:aA ["_law_sides_here","_law_house","_law_found","_law_side"] ["_law_sides_here","_law_house"] (ao Y7):=⟨rfl,rfl,rfl,by decide +kernel,rfl,by decide +kernel,by decide +kernel⟩
def yB:Sp:=fun vs H Q _=>∃ (a:Addr) (ns:List Nat) (h:Nat),vs=[.ref a,.int h]/\H a=some (.tup (NV ns))/\Bx ns/\∀ (r:Addr) (H':Hp),az H H'->H r=none->H' r=some (.lst (NV (bw ns h)))->Q (.ref r) H'
theorem Ul{f:Addr}{fd:FuncData}(F:eK K "_law_place" "_law_place" Y7 f fd):bi P w K mg base ba 1 f fd ["_law_sides_here","_law_house"] yB:=by
 refine F.ok LD (fun vs H Q E h=>?_) (fun dC A outer s H vs Q E hr h=>?_)
 .obtain⟨a,ns,h,rfl,_⟩:=h;rfl
 .obtain⟨a,ns,h,rfl,ha,BX,k⟩:=h;have hl:=BX.l5;have hn:=BX.sd;refine⟨_,(ah (aW (i:=2) LD.nd rfl (Or.inl rfl) (eF af))
   (ah (cF d9 rfl (mJ (pv 0)) (au (i:=3) LD.nd rfl (Or.inl rfl))
    (ah (bG (ir hX jg jf cI (pv 2) (aa (bu jL (pv 1) (pv 3)) af)))
    (aj (aW (i:=1) LD.nd rfl (Or.inl rfl) (bu qL (pv 1) (pv 3))))))
   (aj (aF (pv 2))))),?_⟩
  refine⟨by show 0<=sizeLine;decide,fun D hD=>?_⟩;have s0:=am (o:=.lst []) hD;refine⟨_,rfl,a,rfl,⟨_,bh.of (s0 _ _ ha)⟩,lD (K:=K) (xs:=NV ns) (fun i σ H2=>(∃x,σ=[some (.ref a),some (.int ((h / pr (ns.take i):Nat):Int)),some (.ref D),x])/\az H H2/\H2 D=some (.lst (NV (bw (ns.take i) h)))) ⟨⟨_,by rw[List.take_zero];show _=[_,some (V.int ((h / 1:Nat):Int)),_,_];rw[oZ];rfl⟩,s0,ag⟩ (fun i σ H2 _ z=>bh.of (z.2.1 _ _ ha)) ?_ ?_⟩
  .rintro i x σ H2 hx ⟨⟨x',rfl⟩,sm,pQ⟩;obtain⟨n,hv,rfl⟩:=qe hx;have hi:i<ns.length:=(cW.mp hv).1;have hnn:=hn n (dh hv);have tk:ns.take (i+1)=ns.take i++[n]:=by rw[iH,hv];rfl
   rw[tk,tO,jX];have dl:(bw (ns.take i) h).length<=5:=by rw[cV,ii];lia
   refine⟨_,rfl,.inl ⟨rfl,_,bo.of pQ⟩,_,rfl,_,rfl,_,_,rfl,rfl,(by show (0:Int)<(n:Int);lia),D,_,_,rfl,rfl,pQ,by rw[aT];exact eZ dl (by decide),?_⟩;refine⟨_,rfl,_,rfl,_,_,rfl,rfl,⟨by lia,by lia⟩,⟨some (.int n),?_⟩,bN sm hD,?_⟩
   .rw[<-md];rfl
   .rw[ag,<-iS];rfl
  .rintro σ H2 ⟨⟨x',rfl⟩,sm,pQ⟩;rw[aT,gm] at pQ;exact⟨_,rfl,k D H2 sm hD pQ⟩
theorem Um:aA ["_law_sides_here","_law_house","_law_k","_law_by","_law_place_here"] ["_law_sides_here","_law_house","_law_k","_law_by"] (ao Y8):=⟨rfl,rfl,rfl,by decide +kernel,rfl,by decide +kernel,by decide +kernel⟩
def LF:Sp:=fun vs H Q _=>∃ (a:Addr) (ns:List Nat) (h k:Nat) (up:Bool),vs=[.ref a,.int h,.int k,.int (if up then 1 else -1)]/\H a=some (.tup (NV ns))/\Bx ns/\k<ns.length/\∀H',az H H'->Q (oV (w4 ns h k up)) H'
theorem Uo{f:Addr}{fd:FuncData}(F:eK K "_law_step" "_law_step" Y8 f fd)(PL:cu P w K mg base ba 1 "_law_place" ["_law_sides_here","_law_house"] yB)(MA:cu P w K mg base ba 1 "_law_many" ["_law_sides_here"] Iw):bi P w K mg base ba 2 f fd ["_law_sides_here","_law_house","_law_k","_law_by"] LF:=by
 refine F.ok Um (fun vs H Q E h=>?_) (fun dC A outer s H vs Q E hr h=>?_)
 .obtain⟨a,ns,h,k,up,rfl,_⟩:=h;rfl
 .obtain⟨a,ns,h,k,up,rfl,ha,BX,hk,q⟩:=h;have h1:bL 1 _:=hr;refine⟨_,(ah (aW (i:=4) Um.nd rfl (Or.inl rfl) (av PL h1 aE (aa (pv 0) (aa (pv 1) af))))
   (ah (bp (cN (FU FP r0 aD (bu eC (a_ bQ (pv 4) (pv 2) (fun _ _=>rfl)) (pv 3)) (a_ bD (pv 0) (pv 2) (fun _ _=>rfl)))) (aj (aF cn)) aK)
   (aj (aF (bu eC (pv 1) (bu pj (pv 3) (av MA h1 aE (aa (xJ CZ (pv 0) B9 (B_ (pv 2))) af)))))))),?_⟩
  generalize PD:(if up=true then (1:Int) else -1)=u;have gk:=BX.gd hk;have gd:(NV ns)[k]?=some (.int ((ns.getD k 0:Nat):Int)):=by
   rw[bJ,cZ hk,cq,cZ hk];rfl
  refine⟨_,rfl,_,rfl,a,ns,h,rfl,ha,BX,fun r H1 s1 hr0 A9=>?_⟩;have dl:=m6 (h:=h) BX.pos hk;have key:(0<=(((bw ns h).getD k 0:Nat):Int)+u/\(((bw ns h).getD k 0:Nat):Int)+u<((ns.getD k 0:Nat):Int))/\(∃y:Nat,w4 ns h k up=some y/\(h:Int)+u*((pr (ns.take k):Nat):Int)=(y:Int))\/¬ (0<=(((bw ns h).getD k 0:Nat):Int)+u/\(((bw ns h).getD k 0:Nat):Int)+u<((ns.getD k 0:Nat):Int))/\w4 ns h k up=none:=by
   unfold w4;cases up with
   |true=>
    have PD:(1:Int)=u:=PD;rw[<-PD,ak rfl];by_cases c:(bw ns h).getD k 0+1<ns.getD k 0
    .exact .inl ⟨⟨by lia,by lia⟩,h+pr (ns.take k),ak c,by lia⟩
    .exact .inr ⟨fun z=>c (by lia),aq c⟩
   |false=>
    have PD:(-1:Int)=u:=PD;rw[<-PD,aq (by decide)];by_cases c:1<=(bw ns h).getD k 0
    .have:=Nr hk c;exact .inl ⟨⟨by lia,by lia⟩,h-pr (ns.take k),ak c,by lia⟩
    .exact .inr ⟨fun z=>c (by lia),aq c⟩
  have u64:-(2 ^ 64)<u/\u<2 ^ 64:=by rw[<-PD];split <;> decide
  have q1:=q H1 s1;have cH:∀y:Nat,w4 ns h k up=some y->(h:Int)+u*((pr (ns.take k):Nat):Int)=(y:Int)->RZ (oy (JK fun i j=>.int (i+j)) (br 1) (oy (rI FK fun i j=>.int (i*j)) (br 3) (pY Iw [] E0 (eE (tSl T8 (br 0) B8 (MU (br 2))) mL)))) { nx:=fun _ H'=>Q .bR H',rt:=Q } [some (.ref a),some (.int (h:Int)),some (.int (k:Int)),some (.int u),some (.ref r)] H1:=fun y hy e=>by
   refine⟨_,rfl,_,rfl,_,rfl,_,rfl,_,rfl,a,_,rfl,s1 _ _ ha,fun t H2 s2 ht=>?_⟩;rw[Iu,show (NV ns).take k=NV (ns.take k) from (List.map_take).symm] at ht;refine⟨t,ns.take k,rfl,ht,fun x hx=>(BX.sd x (mf hx)).2,_,_,rfl,rfl,.inl u64,_,_,rfl,rfl,?_⟩;have:=q H2 (s1.trans s2);rw[hy] at this;have e':(fun (i j:Int)=>i+j) (h:Int) ((fun (i j:Int)=>i*j) u ((pr (ns.take k):Nat):Int))=(y:Int):=e;show Q (.int _) _;rw[e];exact this
  refine⟨_,rfl,_,rfl,r,_,_,_,rfl,rfl,bo.of A9,aB (eX hk),_,rfl,_,_,rfl,rfl,_,_,rfl,rfl,_,rfl,?_⟩;rcases key with ⟨⟨c1,c2⟩,y,hy,e⟩|⟨c,hy⟩
  .refine iT (bn c1) ⟨_,rfl,_,rfl,a,_,_,_,rfl,rfl,bh.of (s1 _ _ ha),aB gd,_,_,rfl,rfl,_,rfl,cM (by rw[bn c2];rfl) (cH y hy e)⟩
  .rw[hy] at q1;refine iD (fun c1=>⟨_,rfl,_,rfl,a,_,_,_,rfl,rfl,bh.of (s1 _ _ ha),aB gd,_,_,rfl,rfl,_,rfl,iT (by rw[dF fun c2=>c ⟨dM c1,c2⟩];rfl) q1⟩) (fun c1=>⟨_,rfl,gY q1⟩)
end
abbrev Y_:Stmt:=fL 55
abbrev Za:Stmt:=fL 56
abbrev Zb:Stmt:=fL 57
theorem Ix:(["_law_other"]:List Str).Nodup:=by decide +kernel
theorem iz:(["_law_k","_law_sides_here","_law_house","_law_home"]:List Str).Nodup:=by decide +kernel
theorem om{β:Type}{K:PySem.W.Frag}{a D:Addr}{g:TG}{tt:TT}{te:TE}{cH:Hp->Prop}{σB:St}{H0:Hp}(ms:List β)(e:β->V)(c:β->Bool)(G:β->V)(cS:St->Prop)(ha:H0 a=some (.lst (ms.map e)))(hD:H0 D=none)(hn:ms.length<=1000)(h0:cS σB)(hs:∀m σ H (Kt:V->St->Hp->Prop) (Kf:St->Hp->Prop),m∈ms->cS σ->az H0 H->(∀σ2 H2,cS σ2->az H H2->c m=true->Kt (G m) σ2 H2)->(∀σ2 H2,cS σ2->az H H2->c m=false->Kf σ2 H2)->
   g (e m) σ H fun σ2 H2=>tt σ2 H2 fun b H3=>if b=true then te σ2 H3 fun v H4=>Kt v σ2 H4 else Kf σ2 H3)(hd:∀H,az H0 H->H D=some (.lst ((ms.filter c).map G))->cH H):gR (FG K a) g tt te D cH σB (upd H0 D (.lst [])):=by
 refine jr (xs:=ms.map e) (fun i ys σ H=>cS σ/\az H0 H/\H D=some (.lst ys)/\ys=((ms.take i).filter c).map G) ⟨h0,am hD,ag,rfl⟩ (fun i ys σ H _ z=>bo.of (z.2.1 _ _ ha)) ?_ ?_
 .rintro i x ys σ H Kt Kf hx ⟨sh,sm,l0,rfl⟩ kt kf;rw[bJ] at hx;obtain⟨y,hy,rfl⟩:=vC.mp hx;have tk:ms.take (i+1)=ms.take i++[y]:=by rw[iH,hy];rfl
  refine hs y σ H Kt Kf (dh hy) sh sm (fun σ2 H2 wO s2 e=>?_) (fun σ2 H2 wO s2 e=>?_)
  .refine kt _ _ _ (s2 _ _ l0) ?_ ⟨wO,bN (sm.trans s2) hD,ag,?_⟩
   .rw[aP];exact eZ (bj (ji _ _) (zm _ _)) (eZ hn (by decide))
   .rw[tk,j4,dG,e8,e];rfl
  .refine kf _ _ ⟨wO,sm.trans s2,s2 _ _ l0,?_⟩;rw[tk,j4,e8,e];simp
 .rintro ys σ H ⟨_,sm,l0,rfl⟩;rw[aP,gm] at l0;exact hd H sm l0
theorem C8{lo:Int}{n:Nat}{D:Addr}{g:TG}{tt:TT}{te:TE}{cH:Hp->Prop}{σB:St}{H0:Hp}(c:Nat->Bool)(cS:St->Prop)(hD:H0 D=none)(hn:n<=1000)(h0:cS σB)(hs:∀x σ H (Kt:V->St->Hp->Prop) (Kf:St->Hp->Prop),x<n->cS σ->az H0 H->(∀σ2 H2,cS σ2->az H H2->c x=true->Kt (.int (lo+(x:Nat))) σ2 H2)->(∀σ2 H2,cS σ2->az H H2->c x=false->Kf σ2 H2)->
   g (.int (lo+(x:Nat))) σ H fun σ2 H2=>tt σ2 H2 fun b H3=>if b=true then te σ2 H3 fun v H4=>Kt v σ2 H4 else Kf σ2 H3)(hd:∀H,az H0 H->H D=some (.lst (((List.range n).filter c).map fun (x:Nat)=>V.int (lo+(x:Int))))->cH H):gR (J_ lo n) g tt te D cH σB (upd H0 D (.lst [])):=by
 refine iw (fun i ys σ H=>cS σ/\az H0 H/\H D=some (.lst ys)/\ys=((List.range i).filter c).map fun (x:Nat)=>V.int (lo+(x:Int))) ⟨h0,am hD,ag,rfl⟩ ?_ ?_
 .rintro i ys σ H Kt Kf hi ⟨sh,sm,l0,rfl⟩ kt kf;refine hs i σ H Kt Kf hi sh sm (fun σ2 H2 wO s2 e=>?_) (fun σ2 H2 wO s2 e=>?_)
  .refine kt _ _ _ (s2 _ _ l0) ?_ ⟨wO,bN (sm.trans s2) hD,ag,?_⟩
   .rw[aP];refine eZ (ji _ _) ?_;rw[dW];exact bA (show i<1000 by lia) (by decide)
   .rw[il,j4,dG];simp[e8,e]
  .refine kf _ _ ⟨wO,sm.trans s2,s2 _ _ l0,?_⟩;rw[il,j4];simp[e8,e]
 .rintro ys σ H ⟨_,sm,l0,rfl⟩;exact hd H sm l0
theorem vk{e:V->V->Bool}:∀ {xs:List V},iO e xs []=decide (xs=[])
 |[]=>rfl
 |x::xs=>by simp[iO]
def C9(ns:List Nat)(h k:Nat):List Nat:=(w4 ns h k false).toList++(w4 ns h k true).toList
theorem tT{ns:List Nat}{h g k:Nat}(hp:∀x∈ns,0<x)(hk:k<ns.length):g∈C9 ns h k↔wY ns h g k:=by
 unfold C9 wY;rw[dO,Option.mem_toList,Option.mem_toList,Bd hp hk,wX hp hk,or_comm];refine or_congr ?_ ?_
 .unfold w4;rw[ak rfl];by_cases c:(bw ns h).getD k 0+1<ns.getD k 0
  .rw[ak c];exact⟨fun z=>⟨c,(bg z).symm⟩,fun z=>by rw[z.2]⟩
  .rw[aq c];exact⟨fun z=>(nomatch z),fun z=>absurd z.1 c⟩
 .unfold w4;rw[aq (by decide)];by_cases c:1<=(bw ns h).getD k 0
  .have:=Nr hk c;rw[ak c];exact⟨fun z=>⟨c,by have:=bg z;lia⟩,fun z=>congrArg some (by lia)⟩
  .rw[aq c];exact⟨fun z=>(nomatch z),fun z=>absurd z.1 c⟩
theorem EG{a b:Option Nat}:([a,b].filter Option.isSome).map oV=NV (a.toList++b.toList):=by cases a <;> cases b <;> rfl
theorem LG{n:Nat}{c:Nat->Bool}:(NV ((List.range n).filter c))[0]?=((List.range n).find? c).map fun (k:Nat)=>V.int (k:Int):=by
 rw[bJ,<-List.head?_eq_getElem?,List.head?_filter]
section
variable {P:Program} {w:World} {K:PySem.W.Frag} {mg:Str->Option Value} {base:Heap}
theorem Zc:aA ["_law_sides_here","_law_house","_law_k"] ["_law_sides_here","_law_house","_law_k"] (ao Y_):=⟨rfl,rfl,rfl,by decide +kernel,rfl,by decide +kernel,by decide +kernel⟩
def LI:Sp:=fun vs H Q _=>∃ (a:Addr) (ns:List Nat) (h k:Nat),vs=[.ref a,.int h,.int k]/\H a=some (.tup (NV ns))/\Bx ns/\k<ns.length/\∀ (r:Addr) (H':Hp),az H H'->H r=none->H' r=some (.lst (NV (C9 ns h k)))->Q (.ref r) H'
theorem Up{f:Addr}{fd:FuncData}(F:eK K "_law_ties" "_law_ties" Y_ f fd)(ST:cu P w K mg base ba 2 "_law_step" ["_law_sides_here","_law_house","_law_k","_law_by"] LF):bi P w K mg base ba 3 f fd ["_law_sides_here","_law_house","_law_k"] LI:=by
 refine F.ok Zc (fun vs H Q E h=>?_) (fun dC A outer s H vs Q E hr h=>?_)
 .obtain⟨a,ns,h,k,rfl,_⟩:=h;rfl
 .obtain⟨a,ns,h,k,rfl,ha,BX,hk,q⟩:=h;refine'⟨_,(aj (aF ?c1)),?_⟩;case c1=>
   refine' dQ (g:=(bW 0)) (tt:=(kO (oy (fun x y H Q=>y=.bR/\Q (.bl (!decide (x=.bR))) H) (br 0) (tC .bR)))) (te:=(br 0)) (NB:=["_law_other"]) (src:=[none]) (cx (by kernel_rfl)) rfl (cU (eF (aa (av ST hr aE (aa (pv 0) (aa (pv 1) (aa (pv 2) (aa (BY wj aD) af))))) (aa (av ST hr aE (aa (pv 0) (aa (pv 1) (aa (pv 2) (aa aD af))))) af)))) ?g ?t ?e;case g=>exact fun cl C s₃ H₃ fp=>(au (i:=0) Ix rfl (Or.inl rfl) (Or.inr rfl))
   case t=>exact fun cl C s₃ H₃ fp=>eT (aJ lE (pv 0) cn (aQ _))
   case e=>exact fun cl C s₃ H₃ fp=>(pv 0)
  refine⟨_,rfl,_,rfl,_,rfl,_,rfl,a,ns,h,k,false,rfl,ha,BX,hk,fun H1 s1=>⟨_,rfl,_,rfl,_,rfl,a,ns,h,k,true,rfl,s1 _ _ ha,BX,hk,fun H2 s2=>⟨by show 2<=sizeLine;decide,fun L hL=>⟨_,rfl,⟨_,bo.of ag⟩,fun D hD=>?_⟩⟩⟩⟩;have s3:=(s1.trans s2).trans (am (o:=.lst [oV (w4 ns h k false),oV (w4 ns h k true)]) hL);refine om [w4 ns h k false,w4 ns h k true] oV Option.isSome oV (fun σ=>∃b,σ=[b]) ag hD (by show 2<=1000;decide) ⟨_,rfl⟩ ?_ ?_
  .rintro m σ H5 Kt Kf hm ⟨b',rfl⟩ s5 kt kf;refine⟨_,rfl,rfl,_,rfl,?_⟩;cases m with
   |none=>exact fW (kf _ _ ⟨_,rfl⟩ (az.refl _) rfl)
   |some y=>exact iT rfl ⟨_,rfl,kt _ _ ⟨_,rfl⟩ (az.refl _) rfl⟩
  .intro H5 s5 ur;rw[EG] at ur;exact q D H5 (s3.trans s5) (s3.free hD) ur
theorem Uq:aA ["_law_sides_here","_law_house","_law_home","_law_unlike"] ["_law_sides_here","_law_house","_law_home"] (ao Za):=⟨rfl,rfl,rfl,by decide +kernel,rfl,by decide +kernel,by decide +kernel⟩
def Iy:Sp:=fun vs H Q _=>∃ (a:Addr) (ns:List Nat) (h g:Nat),vs=[.ref a,.int h,.int g]/\H a=some (.tup (NV ns))/\Bx ns/\∀H',az H H'->Q (oV (iU ns h g)) H'
theorem Ur{f:Addr}{fd:FuncData}(F:eK K "_law_phase" "_law_phase" Za f fd)(B:Bl mg)(PL:cu P w K mg base ba 1 "_law_place" ["_law_sides_here","_law_house"] yB):bi P w K mg base ba 2 f fd ["_law_sides_here","_law_house","_law_home"] Iy:=by
 refine F.ok Uq (fun vs H Q E h=>?_) (fun dC A outer s H vs Q E hr h=>?_)
 .obtain⟨a,ns,h,g,rfl,_⟩:=h;rfl
 .obtain⟨a,ns,h,g,rfl,ha,BX,q⟩:=h;have l5:=BX.l5;refine'⟨_,(ah (dR (i:=3) (g:=(bW 0)) (tt:=(kO (oy (Xe) (oy (Ol K) (pY yB [] E0 (eE (br 1) (eE (br 2) mL))) (br 0)) (oy (Ol K) (pY yB [] E0 (eE (br 1) (eE (br 3) mL))) (br 0))))) (te:=(br 0)) (NB:=["_law_k","_law_sides_here","_law_house","_law_home"]) (src:=[none,some 0,some 1,some 2]) (cx (by kernel_rfl)) rfl (cj rfl B.range (aa (aI aM (by rfl) B.len ee (aa (pv 0) af)) af)) ?g1 ?t1 ?e1 Uq.nd rfl rfl rfl)
   (aj (aF (jl (aJ (OG (e:=xM) hr.u) (pv 3) (eF af) (aQ _)) (a_ bQ (pv 3) aD (fun _ _=>rfl)) cn)))),?_⟩
  case g1=>exact fun cl C s₃ H₃ fp=>(au (i:=0) iz rfl (Or.inl rfl) (Or.inr rfl))
  case t1=>exact fun cl C s₃ H₃ fp=>eT (aJ pX (a_ bQ (av PL hr aE (aa (pv 1) (aa (pv 2) af))) (pv 0) (fun _ _=>rfl)) (a_ bQ (av PL hr aE (aa (pv 1) (aa (pv 3) af))) (pv 0) (fun _ _=>rfl)) (aQ _))
  case e1=>exact fun cl C s₃ H₃ fp=>(pv 0)
  refine⟨_,rfl,a,_,rfl,.inr (bh.of ha),_,rfl,by lia,by rw[aT];lia,fun D hD=>?_⟩;rw[aT];refine C8 (lo:=0) (n:=ns.length) (fun i=>decide ((bw ns h).getD i 0≠(bw ns g).getD i 0)) (fun σ=>∃b,σ=[b,some (.ref a),some (.int (h:Int)),some (.int (g:Int))]) hD (by lia) ⟨_,rfl⟩ ?_ ?_
  .rintro j σ H5 Kt Kf hj ⟨b',rfl⟩ s5 kt kf;rw[fJ] at kt |-;refine⟨_,rfl,_,rfl,a,ns,h,rfl,s5 _ _ ha,BX,fun r1 H6 s6 _ A9=>⟨_,rfl,r1,_,_,_,rfl,rfl,bo.of A9,aB (eX hj),?_⟩⟩;refine⟨_,rfl,_,rfl,a,ns,g,rfl,s6 _ _ (s5 _ _ ha),BX,fun r2 H7 s7 _ Fg=>⟨_,rfl,r2,_,_,_,rfl,rfl,bo.of Fg,aB (eX hj),rfl,_,rfl,?_⟩⟩;have s57:=s6.trans s7;by_cases c:(bw ns h).getD j 0=(bw ns g).getD j 0
   .rw[c,bn rfl];exact fW (kf _ _ ⟨_,rfl⟩ s57 (dF fun z=>z c))
   .rw[dF (fun z=>c (by injection z with z;exact cR z))];exact gY ⟨_,rfl,kt _ _ ⟨_,rfl⟩ s57 (bn c)⟩
  intro H5 s5 ur;rw[show (((List.range ns.length).filter fun i=>decide ((bw ns h).getD i 0≠(bw ns g).getD i 0)).map fun (x:Nat)=>V.int (0+(x:Int)))=NV ((List.range ns.length).filter fun i=>decide ((bw ns h).getD i 0≠(bw ns g).getD i 0)) from kn fun x _=>by rw[fJ]] at ur;have hf:=LG (n:=ns.length) (c:=fun i=>decide ((bw ns h).getD i 0≠(bw ns g).getD i 0));refine⟨_,rfl,by show 0<=sizeLine;decide,fun E1 Zd=>?_⟩;have sE:=am (o:=.lst []) Zd;refine⟨D,E1,_,[],rfl,rfl,bo.of (sE _ _ ur),bo.of ag,fun i h1 h2=>absurd h2 (by simp),_,rfl,?_⟩;rw[ak rfl,vk];have q1:=q _ (s5.trans sE);unfold iU at q1;cases hp:(List.range ns.length).find? fun i=>decide ((bw ns h).getD i 0≠(bw ns g).getD i 0) with
  |none=>
   rw[hp] at q1 hf;have e:NV ((List.range ns.length).filter fun i=>decide ((bw ns h).getD i 0≠(bw ns g).getD i 0))=[]:=y6 (by have:=Fu.mp hf;lia);rw[bn e];exact fW q1
  |some k=>
   rw[hp] at q1 hf;rw[dF (fun z=>by rw[z] at hf;cases hf)];exact gY ⟨_,rfl,D,_,_,_,rfl,rfl,bo.of (sE _ _ ur),aB (j:=0) hf,q1⟩
theorem Ut:aA ["_law_sides_here","_law_house","_law_home","_law_k"] ["_law_sides_here","_law_house","_law_home"] (ao Zb):=⟨rfl,rfl,rfl,by decide +kernel,rfl,by decide +kernel,by decide +kernel⟩
def PF:Sp:=fun vs H Q _=>∃ (a:Addr) (ns:List Nat) (h g:Nat),vs=[.ref a,.int h,.int g]/\H a=some (.tup (NV ns))/\Bx ns/\∀H',az H H'->Q (oV (yy ns h g)) H'
theorem Uu{f:Addr}{fd:FuncData}(F:eK K "_law_wish" "_law_wish" Zb f fd)(PL:cu P w K mg base ba 1 "_law_place" ["_law_sides_here","_law_house"] yB)(ST:cu P w K mg base ba 2 "_law_step" ["_law_sides_here","_law_house","_law_k","_law_by"] LF)(PH:cu P w K mg base ba 2 "_law_phase" ["_law_sides_here","_law_house","_law_home"] Iy):bi P w K mg base ba 3 f fd ["_law_sides_here","_law_house","_law_home"] PF:=by
 refine F.ok Ut (fun vs H Q E h=>?_) (fun dC A outer s H vs Q E hr h=>?_)
 .obtain⟨a,ns,h,g,rfl,_⟩:=h;rfl
 .obtain⟨a,ns,h,g,rfl,ha,BX,q⟩:=h;have h1:bL 1 _:=hr.mono (by decide);refine⟨_,(ah (aW (i:=3) Ut.nd rfl (Or.inl rfl) (av PH hr aE (aa (pv 0) (aa (pv 1) (aa (pv 2) af)))))
   (ah (bp (aJ jM (pv 3) cn (aQ _)) (aj (aF cn)) aK)
   (aj (aF (av ST hr aE (aa (pv 0) (aa (pv 1) (aa (pv 3) (aa (jl (aJ r0 (a_ bQ (av PL h1 aE (aa (pv 0) (aa (pv 1) af))) (pv 3) (fun _ _=>rfl)) (a_ bQ (av PL h1 aE (aa (pv 0) (aa (pv 2) af))) (pv 3) (fun _ _=>rfl)) (aQ _)) aD (BY wj aD)) af))))))))),?_⟩
  refine⟨_,rfl,_,rfl,_,rfl,a,ns,h,g,rfl,ha,BX,fun H1 s1=>?_⟩;cases hp:iU ns h g with
  |none=>
   have:=q H1 s1;unfold yy at this;rw[hp] at this;exact⟨_,rfl,rfl,_,rfl,gY this⟩
  |some k=>
   obtain⟨hk,ne⟩:=eU hp;refine⟨_,rfl,rfl,_,rfl,cM rfl ?_⟩;refine⟨_,rfl,_,rfl,_,rfl,_,rfl,_,rfl,a,ns,h,rfl,s1 _ _ ha,BX,fun r1 H2 s2 _ A9=>⟨_,rfl,r1,_,_,_,rfl,rfl,bo.of A9,aB (eX hk),?_⟩⟩;have mX:=s1.trans s2;refine⟨_,rfl,_,rfl,a,ns,g,rfl,mX _ _ ha,BX,fun r2 H3 s3 _ Fg=>⟨_,rfl,r2,_,_,_,rfl,rfl,bo.of Fg,aB (eX hk),_,_,rfl,rfl,_,rfl,?_⟩⟩;have ut:=mX.trans s3;have cH:∀H',az H3 H'->Q (oV (w4 ns h k (decide ((bw ns h).getD k 0<(bw ns g).getD k 0)))) H':=fun H' s'=>by
    have:=q H' (ut.trans s');rw[Nt BX.pos hp] at this;exact this
   by_cases c:(bw ns h).getD k 0<(bw ns g).getD k 0
   .rw[bn c] at cH;exact iT (bn (by lia)) ⟨a,ns,h,k,true,rfl,ut _ _ ha,BX,hk,cH⟩
   .rw[dF c] at cH;exact cM (dF (by lia)) ⟨_,rfl,a,ns,h,k,false,rfl,ut _ _ ha,BX,hk,cH⟩
end
abbrev Ze:Stmt:=eS (fL 47) 5
abbrev Zf:Stmt:=fL 17
abbrev Zg:Stmt:=fL 18
abbrev Zh:Stmt:=fL 19
abbrev Zi:Stmt:=fL 20
abbrev Zj:Stmt:=fL 21
theorem LJ:(["letter","came","stand","house"]:List Str).Nodup:=by decide +kernel
theorem Iz{pn sr:Addr}:(C2 pn sr).lookup ("way":Str)=none:=m9 (by decide +kernel) (by decide +kernel)
theorem C_{pn sr:Addr}:(C2 pn sr).lookup ("tied":Str)=none:=m9 (by decide +kernel) (by decide +kernel)
theorem g_{K:PySem.W.Frag}{H:Hp}{i:Int}:Be K H (.int i) (some i):=fun _ _=>.int i
theorem IA{ns:List Nat}{h g:Nat}(BX:Bx ns)(hh:h<pr ns)(hg:g<pr ns):Il ns (some (h:Int)) (some (g:Int))=true↔∃k,wY ns h g k:=by
 rw[<-lN BX.pos hh hg];unfold Il;rw[dI hh,dI hg];show decide _=true↔_;rw[iG];exact Iff.rfl
theorem Bi{ns:List Nat}{h y k:Nat}(BX:Bx ns)(F:g8 (pr ns) (j9 ns))(hh:h<pr ns)(hk:k<ns.length)(t:wY ns h y k):y<pr ns:=by
 rcases t with t|t
 .have m:((h:Int),(y:Int))∈j9 ns:=gj.mpr (.inl (a9.mpr ⟨(h,y),pN.mpr ⟨hh,(EF BX.pos).mpr ⟨k,t⟩⟩,rfl⟩));have:=(F.rg _ m).2.2;exact rR.mp this
 .have:=((wX BX.pos hk).mp t).2;lia
theorem IC{lo:Int}{n:Nat}{D:Addr}{g:TG}{tt:TT}{te:TE}{cH:Hp->Prop}{σB:St}{H0:Hp}(c:Nat->Bool)(G:Nat->V)(cS:St->Prop)(hD:H0 D=none)(hn:n<=1000)(h0:cS σB)(hs:∀x σ H (Kt:V->St->Hp->Prop) (Kf:St->Hp->Prop),x<n->cS σ->az H0 H->(∀σ2 H2,cS σ2->az H H2->c x=true->Kt (G x) σ2 H2)->(∀σ2 H2,cS σ2->az H H2->c x=false->Kf σ2 H2)->
   g (.int (lo+(x:Nat))) σ H fun σ2 H2=>tt σ2 H2 fun b H3=>if b=true then te σ2 H3 fun v H4=>Kt v σ2 H4 else Kf σ2 H3)(hd:∀H,az H0 H->H D=some (.lst (((List.range n).filter c).map G))->cH H):gR (J_ lo n) g tt te D cH σB (upd H0 D (.lst [])):=by
 refine iw (fun i ys σ H=>cS σ/\az H0 H/\H D=some (.lst ys)/\ys=((List.range i).filter c).map G) ⟨h0,am hD,ag,rfl⟩ ?_ ?_
 .rintro i ys σ H Kt Kf hi ⟨sh,sm,l0,rfl⟩ kt kf;refine hs i σ H Kt Kf hi sh sm (fun σ2 H2 wO s2 e=>?_) (fun σ2 H2 wO s2 e=>?_)
  .refine kt _ _ _ (s2 _ _ l0) ?_ ⟨wO,bN (sm.trans s2) hD,ag,?_⟩
   .rw[aP];refine eZ (ji _ _) ?_;rw[dW];exact bA (show i<1000 by lia) (by decide)
   .rw[il,j4,dG];simp[e8,e]
  .refine kf _ _ ⟨wO,sm.trans s2,s2 _ _ l0,?_⟩;rw[il,j4];simp[e8,e]
 .rintro ys σ H ⟨_,sm,l0,rfl⟩;exact hd H sm l0
theorem j_{st:List (Option Nat)}{i:Nat}(h:i<st.length):(st.map oV)[i]?=some (oV (st.getD i none)):=by
 rw[bJ,cq,cZ h];rfl
theorem vm{xs:List V}{i:Nat}(h:i<xs.length):xs[i]?=some (xs.getD i .bR):=by
 rw[cq,cZ h];rfl
theorem qg{ns:List Nat}{k:Nat}(hk:k<ns.length):(NV ns)[k]?=some (.int ((ns.getD k 0:Nat):Int)):=by
 rw[bJ,cZ hk,cq,cZ hk];rfl
theorem Bj{o:Option Nat}{h:Nat}:Od (oV o) (.int (h:Int))=true:=by cases o <;> rfl
theorem ID{o:Option Nat}{h:Nat}:decide (oV o=V.int (h:Int))=decide (o=some h):=by
 cases o with
 |none=>rfl
 |some y=>
  refine rF.mpr ⟨fun e=>?_,fun e=>by rw[bg e];rfl⟩;injection e with e;rw[cR e]
theorem w6{i:Int}{xs:List V}(f:∀v∈xs,∃j:Int,v=.int j):Cc (.int i) xs=true↔V.int i∈xs:=by
 unfold Cc;rw[vQ];constructor
 .rintro⟨v,hv,e⟩;obtain⟨j,rfl⟩:=f v hv;have:(j==i)=true\/(i==j)=true:=by first|exact .inl e|exact .inr e
  have:j=i:=by rcases this with t|t <;> simp at t <;> lia
  rw[<-this];exact hv
 .intro hv;exact⟨_,hv,by show (i==i)=true;simp⟩
theorem Uv{xs:List V}(f:∀v∈xs,∃j:Int,v=.int j):xs.all iq=true:=ij.mpr fun x hx=>by obtain⟨y,rfl⟩:=f x hx;rfl
theorem w_{xs:List Nat}:∀v∈NV xs,∃j:Int,v=.int j:=fun v hv=>by obtain⟨y,_,rfl⟩:=a9.mp hv;exact⟨_,rfl⟩
theorem LL{K:PySem.W.Frag}{H:Hp}{i:Int}(h:Wh K H (.int i) none):False:=by
 cases h with
 |no h=>
  obtain⟨t,ty,z⟩:=h;cases ty with
  |of ty=>
   cases ty;rcases z with z|⟨_,z⟩
   .rw[k_] at z;cases z
   .rw[jW] at z;cases z
theorem Da{ns:List Nat}{h g:Nat}(hh:h<pr ns)(hg:g<pr ns)(ne:h≠g):∃p,iU ns h g=some p:=by
 cases e:iU ns h g with
 |some p=>exact⟨p,rfl⟩
 |none=>
  refine absurd ?_ ne;have ed:bw ns h=bw ns g:=List.ext_getElem (cV.trans cV.symm) fun i h1 h2=>by
   have hi:i<ns.length:=by rw[<-cV (ns:=ns) (h:=h)];exact h1
   have:=vM.mp e i (dt.mpr hi);simp only[ml,Decidable.not_not] at this;rw[cq,cq,cZ h1,cZ h2] at this;exact this
  rw[<-qX hh,<-qX hg,ed]
structure Sn(ns homes:List Nat)(st:List (Option Nat)):Prop where
 l:homes.length=st.length
 ok:∀i h,st.getD i none=some h->h<pr ns/\homes.getD i 0<pr ns/\h≠homes.getD i 0
 vn:st.length<=16
def Ln(ns:List Nat)(h g y:Nat):Prop:=∃k p,iU ns h g=some p/\wY ns h y k/\k<=p
def Bt(ns homes:List Nat)(st:List (Option Nat))(xs:List V)(i:Nat):Prop:=(st.getD i none=none->xs.getD i .bR=.bR)/\∀h,st.getD i none=some h->∃y:Nat,xs.getD i .bR=.int (y:Int)/\Ln ns h (homes.getD i 0) y/\∀j,j<i->st.getD j none=some h->xs.getD j .bR≠.int (y:Int)
def yC(ns homes:List Nat)(st:List (Option Nat))(xs:List V):Prop:=xs.length=st.length/\∀i,i<st.length->Bt ns homes st xs i
theorem PJ{ns homes:List Nat}{st:List (Option Nat)}{xs:List V}{i:Nat}(e:st.getD i none=none):Bt ns homes st xs i↔xs.getD i .bR=.bR:=
 ⟨fun h=>h.1 e,fun h=>⟨fun _=>h,fun h' z=>by rw[e] at z;cases z⟩⟩
theorem LM{ns homes:List Nat}{st:List (Option Nat)}{xs:List V}{i h:Nat}(e:st.getD i none=some h):Bt ns homes st xs i↔∃y:Nat,xs.getD i .bR=.int (y:Int)/\Ln ns h (homes.getD i 0) y/\∀j,j<i->st.getD j none=some h->xs.getD j .bR≠.int (y:Int):=
 ⟨fun b=>b.2 h e,fun b=>⟨fun z=>(by rw[e] at z;cases z),fun h' z=>(by rw[e] at z;cases z;exact b)⟩⟩
section
variable {P:Program} {w:World} {K:PySem.W.Frag} {mg:Str->Option Value} {base:Heap}
theorem Zk:aA ["self","house"] ["self","house"] (ao Ze):=⟨rfl,rfl,rfl,by decide +kernel,rfl,by decide +kernel,by decide +kernel⟩
def LN(C CB:Addr):Sp:=fun vs H Q _=>∃ (L:Addr->Prop) (b:Addr) (ns:List Nat) (h:Nat),vs=[.ref b,.int h]/\fg C CB H L b ns/\h<pr ns/\∀ (r:Addr) (H':Hp),az H H'->H' r=some (.lst (NV (dX (pr ns) (j9 ns) h)))->Q (.ref r) H'
theorem Uw{f C CB CE:Addr}{fd:FuncData}(F:eK K "tied" "Box.tied" Ze f fd)(T:NT K mg C)(TB:Fh K mg CB)(MO:fD P w K mg base (iE P w) 5 C "out" ["self","house"] (CU K C CE Lf)):bi P w K mg base ba 6 f fd ["self","house"] (LN C CB):=by
 obtain⟨fO,fdO,mO,bO,GO⟩:=MO.ex;refine F.ok Zk (fun vs H Q E h=>?_) (fun dC A outer s H vs Q E hr h=>?_)
 .obtain⟨L,b,ns,h,rfl,_⟩:=h;rfl
 .obtain⟨L,b,ns,h,rfl,⟨BX,dx,pn,sr,hb,N,fE⟩,hh,q⟩:=h;obtain⟨YZ,tl,ol,ds,hN,_⟩:=N.ob;refine⟨_,aj (aF (dg (gG (pv 0) rfl) T.cl mO GO hr bO .nil kR (aa (pv 1) af))),?_⟩;refine⟨_,rfl,b,CB,dx,_,_,rfl,hb,TB.cl,TB.nN,Ic,pn,YZ,_,rfl,hN,Pp _ _ _ _,_,rfl,L,pn,pr ns,_,_,_,rfl,N,.int _,(fun z=>by rw[dI hh] at z;cases z),fun i hi e r H1 s1 hr0 A9=>?_⟩;cases e;exact q r H1 s1 A9
theorem Zl:aA ["stand","came","house"] ["stand","came","house"] (ao Zh):=⟨rfl,rfl,rfl,by decide +kernel,rfl,by decide +kernel,by decide +kernel⟩
def PM:Sp:=fun vs H Q _=>∃ (sa ca:Addr) (st:List (Option Nat)) (ys:List V) (h:Nat),vs=[.ref sa,.ref ca,.int h]/\H sa=some (.tup (st.map oV))/\H ca=some (.tup ys)/\ys.length<=st.length/\st.length<=16/\
 ∀ (r:Addr) (H':Hp),az H H'->H' r=some (.lst (((List.range ys.length).filter fun j=>decide (st.getD j none=some h)).map fun j=>ys.getD j .bR))->Q (.ref r) H'
theorem Ux{f:Addr}{fd:FuncData}(F:eK K "came_by_at" "came_by_at" Zh f fd)(B:Bl mg):bi P w K mg base ba 1 f fd ["stand","came","house"] PM:=by
 refine F.ok Zl (fun vs H Q E h=>?_) (fun dC A outer s H vs Q E hr h=>?_)
 .obtain⟨sa,ca,st,ys,h,rfl,_⟩:=h;rfl
 .obtain⟨sa,ca,st,ys,h,rfl,ny,Uy,ly,vn,q⟩:=h;refine'⟨_,(aj (aF ?c1)),?_⟩;case c1=>
   refine' dQ (g:=(bW 0)) (tt:=(kO (oy Sa (oy (xL K) (br 2) (br 0)) (br 3)))) (te:=(oy (xL K) (br 1) (br 0))) (NB:=["letter","came","stand","house"]) (src:=[none,some 1,some 0,some 2]) (cx (by kernel_rfl)) rfl (cj rfl B.range (aa (aI aM (by rfl) B.len ee (aa (pv 1) af)) af)) ?g ?t ?e;case g=>exact fun cl C s₃ H₃ fp=>(au (i:=0) LJ rfl (Or.inl rfl) (Or.inr rfl))
   case t=>exact fun cl C s₃ H₃ fp=>eT (aJ jn (a_ bD (pv 2) (pv 0) (fun _ _=>rfl)) (pv 3) (aQ _))
   case e=>exact fun cl C s₃ H₃ fp=>(a_ bD (pv 1) (pv 0) (fun _ _=>rfl))
  refine⟨_,rfl,ca,_,rfl,.inr (bh.of Uy),_,rfl,by lia,by lia,fun D hD=>?_⟩;refine IC (lo:=0) (n:=ys.length) (fun j=>decide (st.getD j none=some h)) (fun j=>ys.getD j .bR) (fun σ=>∃u,σ=[u,some (.ref ca),some (.ref sa),some (.int (h:Int))]) hD (by lia) ⟨_,rfl⟩ ?_ ?_
  .rintro j σ H5 Kt Kf hj ⟨u,rfl⟩ s5 kt kf;rw[fJ];refine⟨_,rfl,_,rfl,sa,_,_,_,rfl,rfl,bh.of (s5 _ _ ny),aB (j_ (by lia)),_,rfl,Bj,_,rfl,?_⟩;rw[ID];refine iD (fun c=>⟨_,rfl,_,rfl,ca,_,_,_,rfl,rfl,bh.of (s5 _ _ Uy),aB (vm hj),kt _ _ ⟨_,rfl⟩ (az.refl _) c⟩) (fun c=>kf _ _ ⟨_,rfl⟩ (az.refl _) (iX.mpr c))
  .intro H5 s5 ur;exact q D H5 s5 ur
theorem Uz:aA ["box","homes","stand","came","letter","house"] ["box","homes","stand","came","letter"] (ao Zg):=⟨rfl,rfl,rfl,by decide +kernel,rfl,by decide +kernel,by decide +kernel⟩
def PP(K:PySem.W.Frag)(C CB:Addr):Sp:=fun vs H Q _=>∃ (L:Addr->Prop) (b ha sa xa:Addr) (ns homes:List Nat) (st:List (Option Nat)) (xs:List V) (i:Nat),vs=[.ref b,.ref ha,.ref sa,.ref xa,.int i]/\fg C CB H L b ns/\H ha=some (.tup (NV homes))/\H sa=some (.tup (st.map oV))/\H xa=some (.tup xs)/\Sn ns homes st/\xs.length=st.length/\i<st.length/\(∀x∈xs,∃o,Be K H x o)/\(∀j,j<i->Bt ns homes st xs j)/\
 ∀ (H':Hp) (bb:Bool),az H H'->(bb=true↔Bt ns homes st xs i)->Q (.bl bb) H'
theorem UA{f C CB CE CT:Addr}{fd:FuncData}(F:eK K "is_berth" "is_berth" Zg f fd)(TB:Fh K mg CB)(W:cu P w K mg base ba 1 "is_whole" ["thing"] (qT K))(MT:fD P w K mg base ba 6 CB "tied" ["self","house"] (LN C CB))(MY:fD P w K mg base (iE P w) 7 CB "way" ["self","one","other"] (yA K C CB CT))(MP:fD P w K mg base (iE P w) 6 CB "phase" ["self","house","home"] (yz K C CB CE))(CY:cu P w K mg base ba 1 "came_by_at" ["stand","came","house"] PM):
  bi P w K mg base ba 8 f fd ["box","homes","stand","came","letter"] (PP K C CB):=by
 obtain⟨fT,fdT,mT,bT,GT⟩:=MT.ex;obtain⟨fY,fdY,mY,bY,GY⟩:=MY.ex;obtain⟨fP,fdP,mP,bP,GP⟩:=MP.ex;refine F.ok Uz (fun vs H Q E h=>?_) (fun dC A outer s H vs Q E hr h=>?_)
 .obtain⟨L,b,ha,sa,xa,ns,homes,st,xs,i,rfl,_⟩:=h;rfl
 .obtain⟨L,b,ha,sa,xa,ns,homes,st,xs,i,rfl,BA,vo,ny,uI,SN,xl,hi,hW,hB,q⟩:=h;have h1:bL 1 _:=hr.mono (by decide);have h6:bL 6 _:=hr.mono (by decide);have h7:bL 7 _:=hr.mono (by decide);have BX:=BA.bx;obtain⟨dx,pn,sr,hb,N,fE⟩:=id BA.ob;have FI:=N.qw;refine⟨_,(ah (aW (i:=5) Uz.nd rfl (Or.inl rfl) (a_ bD (pv 2) (pv 4) (fun _ _=>rfl)))
   (ah (bp (aJ jM (pv 5) cn (aQ _)) (aj (aF (ge jM (a_ bD (pv 3) (pv 4) (fun _ _=>rfl)) cn (aQ _)))) aK)
   (ah (bp (PW.pt (nM (cN (cp (av W h1 aE (aa (a_ bD (pv 3) (pv 4) (fun _ _=>rfl)) af)))) (kK (aJ nU (a_ bD (pv 3) (pv 4) (fun _ _=>rfl)) (dg (pv 0) TB.cl mT GT h6 bT .nil aE (aa (pv 5) af)) rfl)))) (aj (aF fc)) aK)
   (ah (bp (aJ xG (dg (pv 0) TB.cl mY GY h7 bY .nil kR (aa (pv 5) (aa (a_ bD (pv 3) (pv 4) (fun _ _=>rfl)) af))) (dg (pv 0) TB.cl mP GP h6 bP .nil kR (aa (pv 5) (aa (a_ bD (pv 1) (pv 4) (fun _ _=>rfl)) af))) (aQ _)) (aj (aF fc)) aK)
   (aj (aF (ge nU (a_ bD (pv 3) (pv 4) (fun _ _=>rfl)) (av CY h1 aE (aa (pv 2) (aa (xJ CZ (pv 3) B9 (B_ (pv 4))) (aa (pv 5) af)))) rfl))))))),?_⟩
  have Gm:i<xs.length:=by rw[xl];exact hi
  have gx:∀ {H':Hp},az H H'->bh K H' xa xs:=fun s=>bh.of (s _ _ uI);refine⟨_,rfl,_,rfl,sa,_,_,_,rfl,rfl,bh.of ny,aB (j_ hi),?_⟩;cases ho:st.getD i none with
  |none=>
   refine⟨_,rfl,rfl,_,rfl,gY ⟨_,rfl,_,rfl,xa,_,_,_,rfl,rfl,gx (az.refl _),aB (vm Gm),rfl,?_⟩⟩;exact q H _ (az.refl _) (by rw[iG,PJ ho])
  |some h=>
  obtain⟨hh,hg,lR⟩:=SN.ok i h ho;obtain⟨p,hp⟩:=Da hh hg lR;have BS:=LM (ns:=ns) (homes:=homes) (xs:=xs) ho;obtain⟨o,wo⟩:=hW _ (show xs.getD i .bR∈xs by rw[cq,cZ Gm];exact iI Gm);refine⟨_,rfl,rfl,_,rfl,cM rfl ?_⟩;refine⟨_,rfl,_,rfl,xa,_,_,_,rfl,rfl,gx (az.refl _),aB (vm Gm),_,o,rfl,wo _ (az.refl _),_,rfl,?_⟩;generalize hx:xs.getD i .bR=x at *;cases o with
  |none=>
   exact gY (gY (q H _ (az.refl _) (by rw[BS];exact⟨fun z=>(nomatch z),fun ⟨y,e,_⟩=>by rw[e] at wo;exact(LL (wo _ (az.refl _))).elim⟩)))
  |some v=>
  obtain rfl:=pO (wo _ (az.refl _));refine fW ⟨_,rfl,_,rfl,xa,_,_,_,rfl,rfl,gx (az.refl _),aB (by rw[vm Gm,hx]),_,rfl,b,dx,_,rfl,hb,C_,_,rfl,L,b,ns,h,rfl,BA,hh,fun r H1 s1 A9=>⟨r,_,rfl,.inl (bo.of A9),rfl,lO,_,rfl,?_⟩⟩;by_cases pK:V.int v∈NV (dX (pr ns) (j9 ns) h)
  .obtain⟨y,hy,rfl⟩:∃y:Nat,y∈dX (pr ns) (j9 ns) h/\v=(y:Int):=by
    obtain⟨y,hy,e⟩:=a9.mp pK;injection e with e;exact⟨y,hy,e.symm⟩
   rw[ak rfl,(w6 w_).mpr pK];refine fW ?_;have ht:((h:Int),(y:Int))∈j9 ns:=(eO FI hh).mp hy;have PQ:y<pr ns:=rR.mp (FI.rg _ ht).2.2;have Wt:=(IA BX hh PQ)
   obtain⟨k,tk⟩:=(lN BX.pos hh PQ).mp ht;have PU:=Wt.mpr ⟨k,tk⟩;refine⟨_,rfl,b,dx,_,rfl,s1 _ _ hb,Iz,_,rfl,_,rfl,_,rfl,xa,_,_,_,rfl,rfl,gx s1,aB (by rw[vm Gm,hx]),L,b,ns,_,_,some (h:Int),some (y:Int),rfl,BA.same s1,g_,g_,(fun z=>by rw[PU] at z;cases z),fun h' y' _ _ e1 e2 _ H2 s2=>?_⟩;obtain rfl:h=h':=cR (bg e1);obtain rfl:y=y':=cR (bg e2);have mX:=s1.trans s2;refine⟨_,rfl,b,dx,_,rfl,mX _ _ hb,tQ,_,rfl,_,rfl,_,rfl,ha,_,_,_,rfl,rfl,bh.of (mX _ _ vo),aB (qg (by rw[SN.l];exact hi)),L,b,ns,_,_,some (h:Int),some (homes.getD i 0:Nat),rfl,BA.same mX,g_,g_,(fun z=>by rw[dI hh,dI hg] at z;rcases z with z|z <;> cases z),fun h' g' _ _ e1 e2 H3 s3=>?_⟩;obtain rfl:h=h':=cR (bg e1);obtain rfl:homes.getD i 0=g':=cR (bg e2);have ut:=mX.trans s3;refine⟨(k:Int),(p:Int),by rw[gW tk];rfl,by rw[hp];rfl,_,rfl,iD (fun c=>?_) (fun c=>?_)⟩
   .have c:=dM c;refine q H3 _ ut ?_;rw[BS];refine⟨fun z=>(nomatch z),fun ⟨y',e,⟨k',p',e1,t',l⟩,_⟩=>?_⟩;injection e with e;obtain rfl:=cR e;have a1:=bg ((gW tk).symm.trans (gW t'));have a2:=bg (hp.symm.trans e1);lia
   .have c:k<=p:=by
     by_cases z:k<=p
     .exact z
     .exact absurd (bn (by lia)) c
    refine⟨_,rfl,_,rfl,xa,_,_,_,rfl,rfl,gx ut,aB (by rw[vm Gm,hx]),_,rfl,_,rfl,_,rfl,_,rfl,xa,_,rfl,ut _ _ uI,fun t H4 s4 IE=>?_⟩;rw[Iu] at IE;have lt:(xs.take i).length=i:=by rw[ii];lia
    refine⟨_,rfl,sa,t,st,xs.take i,h,rfl,s4 _ _ (ut _ _ ny),IE,by lia,SN.vn,fun r2 H5 s5 Fg=>?_⟩;rw[lt] at Fg;have iK:∀v∈((List.range i).filter fun j=>decide (st.getD j none=some h)).map fun j=>(xs.take i).getD j .bR,∃j:Int,v=.int j:=by
     intro v hv;obtain⟨j,hj,rfl⟩:=a9.mp hv;obtain⟨EH,LO⟩:=bE.mp hj;have EH:=dt.mp EH;obtain⟨y',e,_⟩:=(hB j EH).2 h (dM LO);refine⟨y',?_⟩;rw[<-e,cq,cq,re EH]
    refine⟨r2,_,rfl,.inl (bo.of Fg),rfl,Uv iK,?_⟩;rw[ak rfl];refine q H5 _ ((ut.trans s4).trans s5) ?_;rw[BS,vP,iX,Ne,w6 iK];constructor
    .intro z;refine⟨y,rfl,⟨k,p,hp,tk,c⟩,fun j hj hs e=>z (a9.mpr ⟨j,bE.mpr ⟨dt.mpr hj,bn hs⟩,?_⟩)⟩;rw[<-e,cq,cq,re hj]
    .rintro⟨y',e,_,z⟩ hm;injection e with e;obtain rfl:=cR e;obtain⟨j,hj,e'⟩:=a9.mp hm;obtain⟨EH,LO⟩:=bE.mp hj;have EH:=dt.mp EH;refine z j EH (dM LO) ?_;rw[<-e',cq,cq,re EH]
  .have e0:Cc (.int v) (NV (dX (pr ns) (j9 ns) h))=false:=iX.mpr fun z=>pK ((w6 w_).mp z);rw[ak rfl,e0];refine gY (q H1 _ s1 ?_);rw[BS];refine⟨fun z=>(nomatch z),fun ⟨y,e,⟨k,p',e1,t,l⟩,_⟩=>?_⟩;injection e with e;subst e;have hk:k<ns.length:=by rcases t with z|z <;> exact Np z
   have PQ:=Bi BX FI hh hk t;exact absurd (a9.mpr ⟨y,(eO FI hh).mpr ((lN BX.pos hh PQ).mpr ⟨k,t⟩),rfl⟩) pK
theorem IF{H H':Hp}{xs:List V}(h:∀x∈xs,∃o,Be K H x o)(s:az H H'):∀x∈xs,∃o,Be K H' x o:=fun x hx=>let ⟨o,w⟩:=h x hx;⟨o,fun H2 s2=>w H2 (s.trans s2)⟩
theorem UB:aA ["box","homes","stand","came","letter"] ["box","homes","stand","came"] (ao Zf):=⟨rfl,rfl,rfl,by decide +kernel,rfl,by decide +kernel,by decide +kernel⟩
def LP(K:PySem.W.Frag)(C CB:Addr):Sp:=fun vs H Q _=>∃ (L:Addr->Prop) (b ha sa xa:Addr) (ns homes:List Nat) (st:List (Option Nat)) (xs:List V),vs=[.ref b,.ref ha,.ref sa,.ref xa]/\fg C CB H L b ns/\H ha=some (.tup (NV homes))/\H sa=some (.tup (st.map oV))/\H xa=some (.tup xs)/\Sn ns homes st/\(∀x∈xs,∃o,Be K H x o)/\∀ (H':Hp) (bb:Bool),az H H'->(bb=true↔yC ns homes st xs)->Q (.bl bb) H'
theorem UC{f C CB:Addr}{fd:FuncData}(F:eK K "is_berthed" "is_berthed" Zf f fd)(B:Bl mg)(RW:cu P w K mg base ba 1 "is_row" ["thing","length"] (vf K))(BE:cu P w K mg base ba 8 "is_berth" ["box","homes","stand","came","letter"] (PP K C CB)):bi P w K mg base ba 9 f fd ["box","homes","stand","came"] (LP K C CB):=by
 refine F.ok UB (fun vs H Q E h=>?_) (fun dC A outer s H vs Q E hr h=>?_)
 .obtain⟨L,b,ha,sa,xa,ns,homes,st,xs,rfl,_⟩:=h;rfl
 .obtain⟨L,b,ha,sa,xa,ns,homes,st,xs,rfl,BA,vo,ny,uI,SN,hW,q⟩:=h;have h1:bL 1 _:=hr.mono (by decide);have vn:=SN.vn;refine⟨_,(ah (bp (cN (cp (av RW h1 aE (aa (pv 3) (aa (aI aM (by rfl) B.len ee (aa (pv 2) af)) af))))) (aj (aF fc)) aK)
   (ah (cF d9 rfl (cj rfl B.range (aa (aI aM (by rfl) B.len ee (aa (pv 2) af)) af)) (au (i:=4) UB.nd rfl (Or.inl rfl))
    (aj (bp (cN (cp (av BE hr aE (aa (pv 0) (aa (pv 1) (aa (pv 2) (aa (pv 3) (aa (pv 4) af)))))))) (aj (aF fc)) aK)))
   (aj (aF fc)))),?_⟩
  refine⟨_,rfl,_,rfl,sa,_,rfl,.inr (bh.of ny),.ref xa,some xs,_,rfl,.tup uI,?_⟩;rw[aP];by_cases hl:xs.length=st.length
  .rw[show Hl (some xs) ((st.length:Nat):Int)=true from bn (by rw[hl])];refine⟨_,rfl,cM rfl ?_⟩;refine⟨_,rfl,sa,_,rfl,.inr (bh.of ny),_,rfl,by rw[aP];lia,by rw[aP];lia,?_⟩;rw[aP];refine dZ (n:=st.length) (lo:=0) (fun i σ H1=>(∃u,σ=[some (.ref b),some (.ref ha),some (.ref sa),some (.ref xa),u])/\az H H1/\∀j,j<i->Bt ns homes st xs j) ⟨⟨_,rfl⟩,az.refl _,fun j hj=>absurd hj (j8 _)⟩ ?_ ?_
   .rintro i σ H1 hi ⟨⟨u,rfl⟩,s1,hB⟩;refine⟨_,rfl,_,rfl,_,rfl,_,rfl,_,rfl,L,b,ha,sa,xa,ns,homes,st,xs,i,by rw[fJ];rfl,BA.same s1,s1 _ _ vo,s1 _ _ ny,s1 _ _ uI,SN,hl,hi,IF hW s1,hB,fun H2 bb s2 hb=>⟨_,rfl,?_⟩⟩;cases bb with
    |false=>exact iT rfl (q H2 _ (s1.trans s2) ⟨fun z=>(nomatch z),fun z=>hb.mpr (z.2 i hi)⟩)
    |true=>
     refine cM rfl ⟨⟨_,rfl⟩,s1.trans s2,fun j hj=>?_⟩;rcases vz.mp hj with z|z
     .exact hB j z
     .rw[z];exact hb.mp rfl
   .rintro σ H1 ⟨⟨u,rfl⟩,s1,hB⟩;exact q H1 _ s1 ⟨fun _=>⟨hl,hB⟩,fun _=>rfl⟩
  .rw[show Hl (some xs) ((st.length:Nat):Int)=false from dF (fun z=>hl (by lia))];exact⟨_,rfl,iT rfl (q H _ (az.refl _) ⟨fun z=>(nomatch z),fun z=>absurd z.1 hl⟩)⟩
theorem Zm:aA ["box","homes","stand","came"] ["box","homes","stand","came"] (ao Zi):=⟨rfl,rfl,rfl,by decide +kernel,rfl,by decide +kernel,by decide +kernel⟩
theorem PV:aA ["box","homes","stand","came","goes","house"] ["box","homes","stand","came"] (ao Zj):=⟨rfl,rfl,rfl,by decide +kernel,rfl,by decide +kernel,by decide +kernel⟩
end
end tf
namespace L2
open PySem PySem.Spec PyProof.Rows
section
variable {X:Cx} {pos:Pos}
end
end L2
namespace tf
open PySem L2 jR
abbrev Zn:Stmt:=fL 58
abbrev Zo:Stmt:=fL 59
theorem PX:(["_law_tie","_law_house","_law_used"]:List Str).Nodup:=by decide +kernel
theorem PY:(["_law_k","_law_pot_here","_law_many_here"]:List Str).Nodup:=by decide +kernel
theorem PZ{a b:List Nat}:NV a++NV b=NV (a++b):=dG.symm
theorem xb{ns:List Nat}{h k:Nat}:(C9 ns h k).length<=2:=by
 unfold C9;rw[dU];cases w4 ns h k false <;> cases w4 ns h k true <;> simp
section
variable {P:Program} {w:World} {K:PySem.W.Frag} {mg:Str->Option Value} {base:Heap}
theorem LQ:aA ["_law_sides_here","_law_house","_law_home","_law_used","_law_found","_law_k"] ["_law_sides_here","_law_house","_law_home","_law_used"] (ao Zn):=⟨rfl,rfl,rfl,by decide +kernel,rfl,by decide +kernel,by decide +kernel⟩
def P0:Sp:=fun vs H Q _=>∃ (a ua:Addr) (ns:List Nat) (h g p:Nat) (zs:Zs),vs=[.ref a,.int h,.int g,.ref ua]/\H a=some (.tup (NV ns))/\Bx ns/\iU ns h g=some p/\H ua=some (.lst (zr zs))/\PO H zs/\
 ∀ (r:Addr) (ys:List Nat) (H':Hp),az H H'->H r=none->H' r=some (.lst (NV ys))->ys.length<=20->(∀y∈ys,Ln ns h g y/\((h:Int),(y:Int))∉zp zs)->Q (.ref r) H'
theorem UD{f:Addr}{fd:FuncData}(F:eK K "_law_lane_ties" "_law_lane_ties" Zn f fd)(B:Bl mg)(PH:cu P w K mg base ba 2 "_law_phase" ["_law_sides_here","_law_house","_law_home"] Iy)(TI:cu P w K mg base ba 3 "_law_ties" ["_law_sides_here","_law_house","_law_k"] LI):bi P w K mg base ba 4 f fd ["_law_sides_here","_law_house","_law_home","_law_used"] P0:=by
 refine F.ok LQ (fun vs H Q E h=>?_) (fun dC A outer s H vs Q E hr h=>?_)
 .obtain⟨a,ua,ns,h,g,p,zs,rfl,_⟩:=h;rfl
 .obtain⟨a,ua,ns,h,g,p,zs,rfl,ha,BX,hp,qh,po,q⟩:=h;have h2:bL 2 _:=hr.mono (by decide);have l5:=BX.l5;have pl:=(eU hp).1;refine'⟨_,(ah (aW (i:=4) LQ.nd rfl (Or.inl rfl) (eF af))
   (ah (cF d9 rfl (cj rfl B.range (aa (bu eC (av PH h2 aE (aa (pv 0) (aa (pv 1) (aa (pv 2) af)))) aD) af)) (au (i:=5) LQ.nd rfl (Or.inl rfl))
    (aj (aW (i:=4) LQ.nd rfl (Or.inl rfl) (bu Oo (pv 4) ?c1))))
   (aj (aF (pv 4))))),?_⟩
  case c1=>
   refine' dQ (g:=(bW 0)) (tt:=(kO (oy (K2 K true) (Of (eE (br 1) (eE (br 0) mL))) (br 2)))) (te:=(br 0)) (NB:=["_law_tie","_law_house","_law_used"]) (src:=[none,some 1,some 3]) (cx (by kernel_rfl)) rfl (cU (av TI hr aE (aa (pv 0) (aa (pv 1) (aa (pv 5) af))))) ?g ?t ?e;case g=>exact fun cl C s₃ H₃ fp=>(au (i:=0) PX rfl (Or.inl rfl) (Or.inr rfl))
   case t=>exact fun cl C s₃ H₃ fp=>eT (aJ (Ek hr.u) (fV (aa (pv 1) (aa (pv 0) af))) (pv 2) rfl)
   case e=>exact fun cl C s₃ H₃ fp=>(pv 0)
  refine⟨by show 0<=sizeLine;decide,fun F0 hF0=>?_⟩;have s0:=am (o:=.lst []) hF0;have g0:(upd H F0 (.lst [])) F0=some (.lst (NV [])):=ag;generalize upd H F0 (.lst [])=H0 at *;refine⟨_,rfl,_,rfl,_,rfl,a,ns,h,g,rfl,s0 _ _ ha,BX,fun H1 s1=>?_⟩;refine⟨(p:Int),1,by rw[hp];rfl,rfl,(p:Int)+1,rfl,by lia,by lia,?_⟩;rw[show ((p:Int)+1).toNat=p+1 by lia];refine dZ (n:=p+1) (lo:=0) (fun k σ H2=>∃ (r:Addr) (ys:List Nat) (z:Option V),σ=[some (.ref a),some (.int (h:Int)),some (.int (g:Int)),some (.ref ua),some (.ref r),z]/\az H H2/\H r=none/\H2 r=some (.lst (NV ys))/\ys.length<=2*k/\∀y∈ys,Ln ns h g y/\((h:Int),(y:Int))∉zp zs) ⟨F0,[],_,rfl,s0.trans s1,hF0,s1 _ _ g0,cr _,fun y z=>(nomatch z)⟩ ?_ ?_
  .rintro k σ H2 hk ⟨r,ys,z,rfl,s2,nr,Fg,yl,hy⟩;have hkn:k<ns.length:=by lia
   rw[fJ];refine⟨_,rfl,_,rfl,_,rfl,_,rfl,a,ns,h,k,rfl,s2 _ _ ha,BX,hkn,fun t H3 s3 nt ht3=>⟨t,rfl,⟨_,bo.of ht3⟩,fun D hD=>?_⟩⟩;refine om (C9 ns h k) (fun (y:Nat)=>V.int (y:Int)) (fun (y:Nat)=>decide (((h:Int),(y:Int))∉zp zs)) (fun (y:Nat)=>V.int (y:Int)) (fun σ=>∃u,σ=[u,some (.int (h:Int)),some (.ref ua)]) ht3 hD (bj xb (by decide)) ⟨_,rfl⟩ ?_ ?_
   .rintro y σ H4 Kt Kf hy4 ⟨u,rfl⟩ s4 kt kf;refine⟨_,rfl,_,rfl,by show 2<=sizeLine;decide,fun t4 IE=>?_⟩;have sT:=am (o:=.tup [.int (h:Int),.int (y:Int)]) IE;have P1:=(s2.trans s3).trans s4;refine⟨_,rfl,A3 (u:=((h:Int),(y:Int))) ag (sT _ _ (P1 _ _ qh)) ((po.same P1).same sT) ⟨_,rfl,?_⟩⟩;rw[ak rfl];refine iD (fun e=>⟨_,rfl,kt _ _ ⟨_,rfl⟩ sT ?_⟩) (fun e=>kf _ _ ⟨_,rfl⟩ sT ?_)
    .rw[vP,vA] at e;exact bn e
    .rw[vP,vA] at e;exact dF e
   .intro H5 s5 ur;have s25:=(s2.trans s3).trans s5;refine⟨r,D,_,_,rfl,rfl,s5 _ _ (s3 _ _ Fg),ur,?_,fun r2 EC=>?_⟩
    .have:=ji (fun (y:Nat)=>decide (((h:Int),(y:Int))∉zp zs)) (C9 ns h k);have t2:=xb (ns:=ns) (h:=h) (k:=k);rw[aT,aP];exact bj (show _<=30 by lia) (by decide)
    have s6:=am (o:=.lst (NV ys++((C9 ns h k).filter fun (y:Nat)=>decide (((h:Int),(y:Int))∉zp zs)).map fun (y:Nat)=>V.int (y:Int))) EC;refine⟨r2,ys++(C9 ns h k).filter fun (y:Nat)=>decide (((h:Int),(y:Int))∉zp zs),_,rfl,s25.trans s6,s25.free EC,by rw[ag,<-PZ],?_,fun y hy'=>?_⟩
    .have:=ji (fun (y:Nat)=>decide (((h:Int),(y:Int))∉zp zs)) (C9 ns h k);have t2:=xb (ns:=ns) (h:=h) (k:=k);rw[dU];lia
    .rcases dO.mp hy' with z|z
     .exact hy y z
     .obtain⟨m1,m2⟩:=bE.mp z;exact⟨⟨k,p,hp,(tT BX.pos hkn).mp m1,by lia⟩,dM m2⟩
  .rintro σ H2 ⟨r,ys,z,rfl,s2,nr,Fg,yl,hy⟩;exact⟨_,rfl,q r ys H2 s2 nr Fg (by lia) hy⟩
theorem Zp:aA ["_law_pot_here","_law_many_here"] ["_law_pot_here","_law_many_here"] (ao Zo):=⟨rfl,rfl,rfl,by decide +kernel,rfl,by decide +kernel,by decide +kernel⟩
def P3:Sp:=fun vs H Q _=>∃ (p:Addr) (n:Nat),vs=[.ref p,.int n]/\2<=n/\n<=32/\cT H p/\∀ (r:Addr) (hs:List Nat) (H':Hp),cw p H H'->cT H' p->H r=none->H' r=some (.lst (NV hs))->hs≠[]->hs.length<=32->(∀x∈hs,x<n)->Q (.ref r) H'
theorem UE{f:Addr}{fd:FuncData}(F:eK K "_law_houses" "_law_houses" Zo f fd)(B:Bl mg)(DR:cu P w K mg base ba 1 "_law_draw" ["_law_pot_here","_law_many_here"] Bg):bi P w K mg base ba 2 f fd ["_law_pot_here","_law_many_here"] P3:=by
 refine F.ok Zp (fun vs H Q E h=>?_) (fun dC A outer s H vs Q E hr h=>?_)
 .obtain⟨p,n,rfl,_⟩:=h;rfl
 .obtain⟨p,n,rfl,n1,n2,hp,q⟩:=h;have h1:bL 1 _:=hr.mono (by decide);refine'⟨_,(ah (bp (aJ jn (av DR h1 aE (aa (pv 0) (aa aD af))) aD (aQ _)) (aj (aF (bX (AI rfl) (by rfl) B.lst rf (aa (bX qa (by rfl) B.range PyProof.Rows.boot_range (aa (pv 1) af)) af)))) aK)
   (aj (aF ?c1))),?_⟩
  case c1=>
   refine' dQ (g:=(bW 0)) (te:=(pY Bg [] E0 (eE (br 1) (eE (br 2) mL)))) (NB:=["_law_k","_law_pot_here","_law_many_here"]) (src:=[none,some 0,some 1]) (cx (by kernel_rfl)) rfl (cj rfl B.range (aa (bu eC aD (av DR h1 aE (aa (pv 0) (aa aD af)))) af)) ?g ?t ?e;case g=>exact fun cl C s₃ H₃ fp=>(au (i:=0) PY rfl (Or.inl rfl) (Or.inr rfl))
   case t=>exact fun cl C s₃ H₃ fp=>d_
   case e=>exact fun cl C s₃ H₃ fp=>(av DR h1 aE (aa (pv 1) (aa (pv 2) af)))
  refine⟨_,rfl,p,3,rfl,by decide,by decide,hp,fun d H1 hd s1 p1=>⟨rfl,_,rfl,iD (fun e=>?_) (fun e=>?_)⟩⟩
  .refine⟨_,rfl,n,rfl,fun x hx=>⟨x,n,rfl,ag,by lia,fun l hl=>?_⟩⟩;have sx:=(am (o:=.BQ 0 (n:Int)) hx).trans (am (o:=.lst ((List.range n).map fun (i:Nat)=>V.int i)) hl);refine q l (List.range n) _ (s1.trans (cw.of sx)) (p1.same sx) ?_ ag (by intro z;have:=congrArg List.length z;rw[dW] at this;simp at this;lia) (by rw[dW];exact n2) fun x hx=>dt.mp hx;exact s1.free p1.full ((am (o:=.BQ 0 (n:Int)) hx).free hl)
  .refine⟨_,rfl,p,4,rfl,by decide,by decide,p1,fun d2 H2 UF s2 p2=>⟨_,_,rfl,rfl,_,rfl,by lia,by lia,fun D hD=>?_⟩⟩;rw[show ((1:Int)+(d2:Int)).toNat=1+d2 by lia];have mX:=s1.trans s2;have nD:=p2.ne hD;refine iw (lo:=0) (n:=1+d2) (fun i ys σ H5=>(∃u,σ=[u,some (.ref p),some (.int (n:Int))])/\cw p H2 H5/\cT H5 p/\H5 D=some (.lst ys)/\∃hs:List Nat,ys=NV hs/\hs.length=i/\∀x∈hs,x<n) ⟨⟨_,rfl⟩,cw.of (am hD),p2.same (am hD),ag,[],rfl,rfl,fun x z=>(nomatch z)⟩ ?_ ?_
   .rintro i ys σ H5 Kt Kf hi ⟨⟨u,rfl⟩,s5,p5,ur,hs,rfl,hl,hx⟩ kt kf;refine⟨_,rfl,_,rfl,p,n,rfl,by lia,by lia,p5,fun d3 H6 hd3 s6 p6=>kt _ _ _ (s6 _ _ ur nD) (by rw[aT,hl];exact bA (show i<5 by lia) (by decide)) ⟨⟨_,rfl⟩,?_,p6.put nD.symm,ag,hs++[d3],iS,by rw[dU,hl];rfl,fun x jA=>?_⟩⟩
    .exact fun b o e n=>by
      by_cases z:b=D
      .rw[z,hD] at e;cases e
      .rw[al z];exact(s5.trans s6) b o e n
    .rcases dO.mp jA with z|z
     .exact hx x z
     .rw[dL.mp z];exact hd3
   .rintro ys σ H5 ⟨_,s5,p5,ur,hs,rfl,hl,hx⟩;exact q D hs H5 (mX.trans s5) p5 (mX.free p2.full hD) ur (by intro z;rw[z] at hl;simp at hl;lia) (by lia) hx
end
abbrev Zq:Stmt:=fL 60
theorem P6{n h e:Nat}(hh:h<n)(h1:1<=e)(h2:e<n):(h+e) % n≠h:=by
 by_cases c:h+e<n
 .rw[kA c];lia
 .rw[Nat.mod_eq_sub_mod (by lia),kA (by lia)];lia
theorem LR{α:Type}{l:List α}{x d:α}{j:Nat}(h:j<l.length):(l++[x]).getD j d=l.getD j d:=by
 rw[cq,cq,nE h]
theorem Zr{α:Type}{l:List α}{x d:α}:(l++[x]).getD l.length d=x:=by
 rw[cq,ra (aX _),v_];rfl
theorem P7{α:Type}{l:List α}{x d:α}{k:Nat}(e:l.length=k):(l++[x]).getD k d=x:=by rw[<-e];exact Zr
structure Gd(ns homes:List Nat)(st cs:List (Option Nat))(zs:Zs):Prop where
 lh:homes.length=st.length
 lc:cs.length=st.length
 lz:zs.length<=st.length
 bR:∀j,j<st.length->st.getD j none=none->cs.getD j none=none
 ok:∀j h,j<st.length->st.getD j none=some h->h<pr ns/\homes.getD j 0<pr ns/\h≠homes.getD j 0/\∃y,cs.getD j none=some y/\Ln ns h (homes.getD j 0) y/\((h:Int),(y:Int))∈zp zs/\∀j',j'<j->st.getD j' none=some h->cs.getD j' none≠some y
theorem Bk{a b:Zs}:zp (a++b)=zp a++zp b:=dG
theorem Gd.snoc{ns homes:List Nat}{st cs:List (Option Nat)}{zs qV:Zs}{g:Nat}{o o':Option Nat}(G:Gd ns homes st cs zs)(hz:∀u∈zp zs,u∈zp qV)(hzl:qV.length<=zs.length+1)(hn:o=none->o'=none)(hs:∀h,o=some h->h<pr ns/\g<pr ns/\h≠g/\∃y,o'=some y/\Ln ns h g y/\((h:Int),(y:Int))∈zp qV/\((h:Int),(y:Int))∉zp zs):Gd ns (homes++[g]) (st++[o]) (cs++[o']) qV:=by
 have lh:=G.lh;have lc:=G.lc;have lz:=G.lz;refine⟨by rw[dU,dU,lh];rfl,by rw[dU,dU,lc];rfl,by rw[dU];show _<=_+1;lia,fun j hj e=>?_,fun j h hj e=>?_⟩
 .rw[dU] at hj;rcases vz.mp hj with z|z
  .rw[LR z] at e;rw[LR (by lia)];exact G.bR j z e
  .rw[z,Zr] at e;rw[P7 (by lia)];exact hn e
 .rw[dU] at hj;rcases vz.mp hj with z|z
  .rw[LR z] at e;obtain⟨a,b,c,y,e1,e2,e3,e4⟩:=G.ok j h z e;rw[LR (by lia),LR (by lia)];refine⟨a,b,c,y,e1,e2,hz _ e3,fun j' Rk q=>?_⟩;rw[LR (by lia)] at q;rw[LR (by lia)];exact e4 j' Rk q
  .rw[z,Zr] at e;obtain⟨a,b,c,y,e1,e2,e3,e4⟩:=hs h e;rw[P7 (by lia),P7 (by lia)];refine⟨a,b,c,y,e1,e2,e3,fun j' Rk q q'=>e4 ?_⟩;rw[LR (by lia)] at q;rw[LR (by lia)] at q';obtain⟨_,_,_,y',f1,_,f3,_⟩:=G.ok j' h (by lia) q;rw[f1] at q';rw[<-bg q'];exact f3
theorem l7{cs:List (Option Nat)}{j:Nat}:(cs.map oV).getD j .bR=oV (cs.getD j none):=by
 rw[cq,bJ,cq];cases cs[j]? <;> rfl
theorem Bm{o:Option Nat}{y:Nat}(h:oV o=.int (y:Int)):o=some y:=by
 cases o with
 |none=>cases h
 |some z=>injection h with h;rw[cR h]
theorem Gd.sn{ns homes:List Nat}{st cs:List (Option Nat)}{zs:Zs}(G:Gd ns homes st cs zs)(l:st.length<=16):Sn ns homes st:=by
 refine⟨G.lh,fun i h e=>?_,l⟩;have hi:i<st.length:=by
  by_cases c:i<st.length
  .exact c
  .rw[cq,gK (by lia)] at e;cases e
 obtain⟨a,b,c,_⟩:=G.ok i h hi e;exact⟨a,b,c⟩
theorem Gd.bts{ns homes:List Nat}{st cs:List (Option Nat)}{zs:Zs}(G:Gd ns homes st cs zs):yC ns homes st (cs.map oV):=by
 refine⟨by rw[aP];exact G.lc,fun i hi=>⟨fun e=>by rw[l7,G.bR i hi e];rfl,fun h e=>?_⟩⟩;obtain⟨_,_,_,y,e1,e2,_,e4⟩:=G.ok i h hi e;refine⟨y,by rw[l7,e1];rfl,e2,fun j hj q=>?_⟩;rw[l7];exact fun z=>e4 j hj q (Bm z)
theorem xc{H:Hp}{zs:Zs}{D:Addr}{xs:List V}{o:HO}(h:PO H zs)(e:H D=some (.lst xs)):PO (upd H D o) zs:=fun z hz=>by
 have:=h z hz;rw[al (by rintro rfl;rw[e] at this;cases this)];exact this
theorem lP{p D:Addr}{H H':Hp}{o:HO}(s:cw p H H')(n:H D=none):cw p H (upd H' D o):=fun b u e hb=>by
 by_cases z:b=D
 .rw[z,n] at e;cases e
 .rw[al z];exact s b u e hb
structure Ad(H:Hp)(p sr gl hm iB cm ua:Addr):Prop where
 nd:[p,sr,gl,hm,iB,cm,ua].Nodup
 nh:H hm=none
 ns:H iB=none
 nc:H cm=none
 nu:H ua=none
structure Bs(p sd sr gl hm iB cm ua:Addr)(ns cP dY:List Nat)(homes:List Nat)(st cs:List (Option Nat))(zs:Zs)(H0 H:Hp):Prop where
 qz:cT H p
 s0:cw p H0 H
 fE:H sr=some (.lst (NV cP))
 Db:H gl=some (.lst (NV dY))
 Bn:H hm=some (.lst (NV homes))
 iC:H iB=some (.lst (st.map oV))
 yD:H cm=some (.lst (cs.map oV))
 qh:H ua=some (.lst (zr zs))
 po:PO H zs
section
variable {p sd sr gl hm iB cm ua:Addr} {ns cP dY homes:List Nat} {st cs:List (Option Nat)} {zs:Zs} {H0 H H':Hp}
theorem Bs.eQ(h:Bs p sd sr gl hm iB cm ua ns cP dY homes st cs zs H0 H)(A:Ad H0 p sr gl hm iB cm ua)(s:cw p H H')(hp:cT H' p):Bs p sd sr gl hm iB cm ua ns cP dY homes st cs zs H0 H':=by
 have nd:=A.nd;simp only[dq,aV,gC,eH,oR,o5,gQ] at nd;obtain⟨⟨a1,a2,a3,a4,a5,a6⟩,_⟩:=nd;exact⟨hp,h.s0.trans s,s _ _ h.fE (ck a1),s _ _ h.Db (ck a2),s _ _ h.Bn (ck a3),s _ _ h.iC (ck a4),s _ _ h.yD (ck a5),s _ _ h.qh (ck a6),h.po.eQ s h.qz⟩
theorem Bs.same(h:Bs p sd sr gl hm iB cm ua ns cP dY homes st cs zs H0 H)(A:Ad H0 p sr gl hm iB cm ua)(s:az H H'):Bs p sd sr gl hm iB cm ua ns cP dY homes st cs zs H0 H':=h.eQ A (cw.of s) (h.qz.same s)
theorem Bs.aH(h:Bs p sd sr gl hm iB cm ua ns cP dY homes st cs zs H0 H)(A:Ad H0 p sr gl hm iB cm ua){g:Nat}:Bs p sd sr gl hm iB cm ua ns cP dY (homes++[g]) st cs zs H0 (upd H hm (.lst (NV homes++[.int (g:Int)]))):=by
 have nd:=A.nd;simp only[dq,aV,gC,eH,oR,o5,gQ] at nd;obtain⟨⟨a1,a2,a3,a4,a5,a6⟩,⟨b2,b3,b4,b5,b6⟩,⟨c3,c4,c5,c6⟩,⟨d4,d5,d6⟩,⟨e5,e6⟩,f6⟩:=nd;exact⟨h.qz.put a3,lP h.s0 A.nh,by rw[al b3];exact h.fE,by rw[al c3];exact h.Db,by rw[ag,<-iS],by rw[al (ck d4)];exact h.iC,by rw[al (ck d5)];exact h.yD,by rw[al (ck d6)];exact h.qh,xc h.po h.Bn⟩
theorem Bs.aS(h:Bs p sd sr gl hm iB cm ua ns cP dY homes st cs zs H0 H)(A:Ad H0 p sr gl hm iB cm ua){o:Option Nat}:Bs p sd sr gl hm iB cm ua ns cP dY homes (st++[o]) cs zs H0 (upd H iB (.lst (st.map oV++[oV o]))):=by
 have nd:=A.nd;simp only[dq,aV,gC,eH,oR,o5,gQ] at nd;obtain⟨⟨a1,a2,a3,a4,a5,a6⟩,⟨b2,b3,b4,b5,b6⟩,⟨c3,c4,c5,c6⟩,⟨d4,d5,d6⟩,⟨e5,e6⟩,f6⟩:=nd;exact⟨h.qz.put a4,lP h.s0 A.ns,by rw[al b4];exact h.fE,by rw[al c4];exact h.Db,by rw[al d4];exact h.Bn,by rw[ag,dG];rfl,by rw[al (ck e5)];exact h.yD,by rw[al (ck e6)];exact h.qh,xc h.po h.iC⟩
theorem Bs.aC(h:Bs p sd sr gl hm iB cm ua ns cP dY homes st cs zs H0 H)(A:Ad H0 p sr gl hm iB cm ua){o:Option Nat}:Bs p sd sr gl hm iB cm ua ns cP dY homes st (cs++[o]) zs H0 (upd H cm (.lst (cs.map oV++[oV o]))):=by
 have nd:=A.nd;simp only[dq,aV,gC,eH,oR,o5,gQ] at nd;obtain⟨⟨a1,a2,a3,a4,a5,a6⟩,⟨b2,b3,b4,b5,b6⟩,⟨c3,c4,c5,c6⟩,⟨d4,d5,d6⟩,⟨e5,e6⟩,f6⟩:=nd;exact⟨h.qz.put a5,lP h.s0 A.nc,by rw[al b5];exact h.fE,by rw[al c5];exact h.Db,by rw[al d5];exact h.Bn,by rw[al e5];exact h.iC,by rw[ag,dG];rfl,by rw[al (ck f6)];exact h.qh,xc h.po h.yD⟩
theorem Bs.aU(h:Bs p sd sr gl hm iB cm ua ns cP dY homes st cs zs H0 H)(A:Ad H0 p sr gl hm iB cm ua){t:Addr}{u:Int×Int}(ht:H t=some (La u)):Bs p sd sr gl hm iB cm ua ns cP dY homes st cs (zs++[(t,u)]) H0 (upd H ua (.lst (zr zs++[.ref t]))):=by
 have nd:=A.nd;simp only[dq,aV,gC,eH,oR,o5,gQ] at nd;obtain⟨⟨a1,a2,a3,a4,a5,a6⟩,⟨b2,b3,b4,b5,b6⟩,⟨c3,c4,c5,c6⟩,⟨d4,d5,d6⟩,⟨e5,e6⟩,f6⟩:=nd;refine⟨h.qz.put a6,lP h.s0 A.nu,by rw[al b6];exact h.fE,by rw[al c6];exact h.Db,by rw[al d6];exact h.Bn,by rw[al e6];exact h.iC,by rw[al f6];exact h.yD,by rw[ag,lK];rfl,xc (fun z hz=>?_) h.qh⟩;rcases dO.mp hz with z'|z'
 .exact h.po z z'
 .rw[dL.mp z'];exact ht
end
section
variable {P:Program} {w:World} {K:PySem.W.Frag} {mg:Str->Option Value} {base:Heap}
theorem m_:aA ["_law_pot_here","_law_sides_here","_law_many_here","_law_starts","_law_goals","_law_homes","_law_stand","_law_came","_law_used","_law_i","_law_house","_law_home","_law_ties_here","_law_tie"] ["_law_pot_here","_law_sides_here"] (ao Zq):=⟨rfl,rfl,rfl,by decide +kernel,rfl,by decide +kernel,by decide +kernel⟩
def P8:Sp:=fun vs H Q _=>∃ (p sd:Addr) (ns:List Nat),vs=[.ref p,.ref sd]/\cT H p/\H sd=some (.tup (NV ns))/\Bx ns/\2<=pr ns/\
 ∀ (t ha sa xa:Addr) (homes:List Nat) (st cs:List (Option Nat)) (H':Hp),cw p H H'->cT H' p->H' t=some (.tup [.ref ha,.ref sa,.ref xa])->H' ha=some (.tup (NV homes))->H' sa=some (.tup (st.map oV))->H' xa=some (.tup (cs.map oV))->Sn ns homes st->cs.length=st.length->yC ns homes st (cs.map oV)->Q (.ref t) H'
theorem UG{f:Addr}{fd:FuncData}(F:eK K "_law_berthed" "_law_berthed" Zq f fd)(B:Bl mg)(MA:cu P w K mg base ba 1 "_law_many" ["_law_sides_here"] Iw)(DR:cu P w K mg base ba 1 "_law_draw" ["_law_pot_here","_law_many_here"] Bg)(HS:cu P w K mg base ba 2 "_law_houses" ["_law_pot_here","_law_many_here"] P3)(LT:cu P w K mg base ba 4 "_law_lane_ties" ["_law_sides_here","_law_house","_law_home","_law_used"] P0):bi P w K mg base ba 5 f fd ["_law_pot_here","_law_sides_here"] P8:=by
 refine F.ok m_ (fun vs H Q E h=>?_) (fun dC A outer s H vs Q E hr h=>?_)
 .obtain⟨p,sd,ns,rfl,_⟩:=h;rfl
 .obtain⟨p,sd,ns,rfl,hp,P9,BX,n1,q⟩:=h;have h1:bL 1 _:=hr.mono (by decide);have h2:bL 2 _:=hr.mono (by decide);have h4:bL 4 _:=hr.mono (by decide);have n2:=BX.Rz;refine⟨_,(ah (aW (i:=2) m_.nd rfl (Or.inl rfl) (av MA h1 aE (aa (pv 1) af))) (ah (N_ (i:=3) (j:=4) rfl m_.nd rfl rfl (by decide) rfl rfl (aa (av HS h2 aE (aa (pv 0) (aa (pv 2) af))) (aa (av HS h2 aE (aa (pv 0) (aa (pv 2) af))) af)) (by rfl)) (ah (i9 (fV (aa (eF af) (aa (eF af) (aa (eF af) (aa (eF af) af))))) (eA (n:=4) rfl (aN (au (i:=5) m_.nd rfl (Or.inl rfl)) (aN (au (i:=6) m_.nd rfl (Or.inl rfl)) (aN (au (i:=7) m_.nd rfl (Or.inl rfl)) (aN (au (i:=8) m_.nd rfl (Or.inl rfl)) dv)))))) (ah (cF d9 rfl (cj rfl B.range (aa (av DR h1 aE (aa (pv 0) (aa aD af))) af)) (au (i:=9) m_.nd rfl (Or.inl rfl)) (ah (aW (i:=10) m_.nd rfl (Or.inl rfl) (a_ bQ (pv 3) (av DR h1 aE (aa (pv 0) (aa (aI aM (by rfl) B.len ee (aa (pv 3) af)) af))) (fun _ _=>rfl))) (ah (aW (i:=11) m_.nd rfl (Or.inl rfl) (a_ bQ (pv 4) (av DR h1 aE (aa (pv 0) (aa (aI aM (by rfl) B.len ee (aa (pv 4) af)) af))) (fun _ _=>rfl))) (ah (bp (aJ jn (pv 11) (pv 10) (aQ _)) (aj (aW (i:=11) m_.nd rfl (Or.inl rfl) (bu jL (bu eC (bu eC (pv 10) aD) (av DR h1 aE (aa (pv 0) (aa (bu mK (pv 2) aD) af)))) (pv 2)))) aK) (ah (bG (ir hX jg jf cI (pv 5) (aa (pv 11) af))) (ah (aW (i:=12) m_.nd rfl (Or.inl rfl) (av LT h4 aE (aa (pv 1) (aa (pv 10) (aa (pv 11) (aa (pv 8) af)))))) (ah (bp (PW.pt (nM (aJ (OH (e:=xM) hr.u) (pv 12) (eF af) (aQ _)) (kK (aJ jn (av DR h1 aE (aa (pv 0) (aa aD af))) aD (aQ _))))) (aj (i9 (fV (aa cn (aa cn af))) (eA (n:=2) rfl (aN (au (i:=10) m_.nd rfl (Or.inl rfl)) (aN (au (i:=13) m_.nd rfl (Or.inl rfl)) dv))))) (ah (aW (i:=13) m_.nd rfl (Or.inl rfl) (a_ bQ (pv 12) (av DR h1 aE (aa (pv 0) (aa (aI aM (by rfl) B.len ee (aa (pv 12) af)) af))) (fun _ _=>rfl))) (aj (bG (ir hX jg jf cI (pv 8) (aa (fV (aa (pv 10) (aa (pv 13) af))) af)))))) (ah (bG (ir hX jg jf cI (pv 6) (aa (pv 10) af))) (aj (bG (ir hX jg jf cI (pv 7) (aa (pv 13) af)))))))))))) (aj (aF (fV (aa (bX b_ (by rfl) B.tup jh (aa (pv 5) af)) (aa (bX b_ (by rfl) B.tup jh (aa (pv 6) af)) (aa (bX b_ (by rfl) B.tup jh (aa (pv 7) af)) af)))))))))),?_⟩;refine⟨_,rfl,sd,ns,rfl,P9,(fun x hx=>(BX.sd x hx).2),?_⟩;refine⟨_,rfl,_,rfl,p,pr ns,rfl,n1,n2,hp,fun sr cP H1 s1 p1 Ua fE sne sl sx=>⟨_,rfl,_,rfl,p,pr ns,rfl,n1,n2,p1,fun gl dY H2 s2 p2 Zt Db gne gll gx=>⟨_,_,rfl,?_⟩⟩⟩;refine⟨by show 0<=sizeLine;decide,fun hm Bn=>⟨by show 0<=sizeLine;decide,fun iB iC=>⟨by show 0<=sizeLine;decide,fun cm yD=>⟨by show 0<=sizeLine;decide,fun ua qh=>⟨by show 4<=sizeLine;decide,fun t4 IE=>⟨t4,_,rfl,bh.of ag,rfl,_,_,rfl,_,_,rfl,_,_,rfl,_,_,rfl,rfl,?_⟩⟩⟩⟩⟩⟩;have UH:sr≠p:=hp.ne Ua;have Zu:gl≠p:=p1.ne Zt;have EI:=s2 _ _ fE UH;have v1:=am (o:=.lst []) Bn;have e1:(upd H2 hm (.lst [])) hm=some (.lst []):=ag;generalize hA:upd H2 hm (.lst [])=HA at *;have v2:=am (o:=.lst []) iC;have e2:(upd HA iB (.lst [])) iB=some (.lst []):=ag;generalize hB:upd HA iB (.lst [])=HB at *;have v3:=am (o:=.lst []) yD;have e3:(upd HB cm (.lst [])) cm=some (.lst []):=ag;generalize hC:upd HB cm (.lst [])=HC at *;have v4:=am (o:=.lst []) qh;have e4:(upd HC ua (.lst [])) ua=some (.lst []):=ag;generalize hD:upd HC ua (.lst [])=HD at *;have v5:=am (o:=.tup [.ref hm,.ref iB,.ref cm,.ref ua]) IE;generalize hF:upd HD t4 (.tup [.ref hm,.ref iB,.ref cm,.ref ua])=HF at *;have Zv:=s1.trans s2;have AD:Ad H p sr gl hm iB cm ua:=by
   have f2:∀ {x:Addr},H2 x=none->H x=none:=fun z=>Zv.free p2.full z;have gA:∀ {x:Addr} {o:HO},HA x=some o->HB x=some o:=fun z=>v2 _ _ z;refine⟨?_,f2 Bn,f2 (v1.free iC),f2 ((v1.trans v2).free yD),f2 (((v1.trans v2).trans v3).free qh)⟩;have nn:∀ {G:Hp} {x y:Addr} {o:HO},G x=some o->G y=none->x≠y:=fun z z' e=>by rw[e,z'] at z;cases z
   obtain⟨pa,pb,pe,_⟩:=p2;simp only[dq,aV,gC,eH,oR,o5,gQ];exact⟨⟨UH.symm,Zu.symm,nn pe Bn,nn (v1 _ _ pe) iC,nn (v2 _ _ (v1 _ _ pe)) yD,nn (v3 _ _ (v2 _ _ (v1 _ _ pe))) qh⟩,⟨nn fE Zt,nn EI Bn,nn (v1 _ _ EI) iC,nn (v2 _ _ (v1 _ _ EI)) yD,nn (v3 _ _ (v2 _ _ (v1 _ _ EI))) qh⟩,⟨nn Db Bn,nn (v1 _ _ Db) iC,nn (v2 _ _ (v1 _ _ Db)) yD,nn (v3 _ _ (v2 _ _ (v1 _ _ Db))) qh⟩,⟨nn e1 iC,nn (v2 _ _ e1) yD,nn (v3 _ _ (v2 _ _ e1)) qh⟩,⟨nn e2 yD,nn (v3 _ _ e2) qh⟩,nn e3 qh⟩
  have vv:=(((v1.trans v2).trans v3).trans v4).trans v5;have BS:Bs p sd sr gl hm iB cm ua ns cP dY [] [] [] [] H HF:=⟨p2.same vv,Zv.trans (cw.of vv),vv _ _ EI,vv _ _ Db,v5 _ _ (v4 _ _ (v3 _ _ (v2 _ _ e1))),v5 _ _ (v4 _ _ (v3 _ _ e2)),v5 _ _ (v4 _ _ e3),v5 _ _ e4,fun z hz=>(nomatch hz)⟩
  clear e1 e2 e3 e4 v1 v2 v3 v4 v5 vv hA hB hC hD hF Bn iC yD qh IE EI fE Db Zt Ua Zv s1 s2 p1 p2;refine⟨_,rfl,p,17,rfl,by decide,by decide +kernel,BS.qz,fun m H3 XR s3 p3=>⟨_,rfl,by lia,by lia,?_⟩⟩;have BS3:=BS.eQ AD s3 p3;clear BS;rw[show ((m:Int)).toNat=m by lia];refine dZ (n:=m) (lo:=0) (fun i σ Hc=>(∃z9 Zw Zx UI RA,σ=[some (.ref p),some (.ref sd),some (.int (pr ns:Nat)),some (.ref sr),some (.ref gl),some (.ref hm),some (.ref iB),some (.ref cm),some (.ref ua),z9,Zw,Zx,UI,RA])/\∃homes st cs zs,Bs p sd sr gl hm iB cm ua ns cP dY homes st cs zs H Hc/\Gd ns homes st cs zs/\st.length=i) ⟨⟨_,_,_,_,_,rfl⟩,[],[],[],[],BS3,⟨rfl,rfl,aX _,fun j hj=>absurd hj (j8 _),fun j h hj=>absurd hj (j8 _)⟩,rfl⟩ ?_ ?_
  rotate_left
  .rintro σ Hc ⟨⟨z9,Zw,Zx,UI,RA,rfl⟩,homes,st,cs,zs,b,G,hl⟩;refine⟨_,rfl,hm,_,rfl,.inl ⟨bo.of b.Bn,fun ha vo=>?_⟩⟩;have s1:=am (o:=.tup (NV homes)) vo;refine⟨_,rfl,iB,_,rfl,.inl ⟨bo.of (s1 _ _ b.iC),fun sa ny=>?_⟩⟩;have s2:=am (o:=.tup (st.map oV)) ny;refine⟨_,rfl,cm,_,rfl,.inl ⟨bo.of (s2 _ _ (s1 _ _ b.yD)),fun xa uI=>?_⟩⟩;have s3:=am (o:=.tup (cs.map oV)) uI;refine⟨by show 3<=sizeLine;decide,fun t ht=>?_⟩;have s4:=am (o:=.tup [.ref ha,.ref sa,.ref xa]) ht;have ss:=((s1.trans s2).trans s3).trans s4;exact q t ha sa xa homes st cs _ (b.s0.trans (cw.of ss)) (b.qz.same ss) ag (s4 _ _ (s3 _ _ (s2 _ _ ag))) (s4 _ _ (s3 _ _ ag)) (s4 _ _ ag) (G.sn (by lia)) G.lc G.bts
  clear BS3 p3 s3;rintro i σ Hc hi ⟨⟨z9,Zw,Zx,UI,RA,rfl⟩,homes,st,cs,zs,b0,G,hl⟩;have sp:0<cP.length:=List.length_pos_iff.mpr sne;have gp:0<dY.length:=List.length_pos_iff.mpr gne;refine⟨_,rfl,_,rfl,_,rfl,sr,_,rfl,.inl (bo.of b0.fE),p,cP.length,by rw[aT];rfl,sp,by lia,b0.qz,fun d1 H1 RB s1 p1=>?_⟩;have b1:=b0.eQ AD s1 p1;clear b0;refine⟨sr,_,_,_,rfl,rfl,bo.of b1.fE,aB (qg RB),?_⟩;generalize hh0:cP.getD d1 0=h;have hh:h<pr ns:=by rw[<-hh0];exact sx _ (by rw[cq,cZ RB];exact iI _)
  refine⟨_,rfl,_,rfl,_,rfl,gl,_,rfl,.inl (bo.of b1.Db),p,dY.length,by rw[aT];rfl,gp,by lia,b1.qz,fun d2 H2 UF s2 p2=>?_⟩;have b2:=b1.eQ AD s2 p2;clear b1 s1 p1;refine⟨gl,_,_,_,rfl,rfl,bo.of b2.Db,aB (qg UF),?_⟩;generalize hg0:dY.getD d2 0=g0;have Zy:g0<pr ns:=by rw[<-hg0];exact gx _ (by rw[cq,cZ UF];exact iI _)
  refine lZ (fun σ Hx=>σ=[some (.ref p),some (.ref sd),some (.int (pr ns:Nat)),some (.ref sr),some (.ref gl),some (.ref hm),some (.ref iB),some (.ref cm),some (.ref ua),some (.int (i:Int)),some (.int (h:Int)),some (.int (g0:Int)),UI,RA]/\Bs p sd sr gl hm iB cm ua ns cP dY homes st cs zs H Hx) ?_ (fun N hN=>hN _ _ ⟨by rw[fJ];rfl,b2⟩);clear b2 s2 p2;rintro σ H2 ⟨rfl,b2⟩;refine lZ (fun σ Hx=>∃g,σ=[some (.ref p),some (.ref sd),some (.int (pr ns:Nat)),some (.ref sr),some (.ref gl),some (.ref hm),some (.ref iB),some (.ref cm),some (.ref ua),some (.int (i:Int)),some (.int (h:Int)),some (.int (g:Nat)),UI,RA]/\g<pr ns/\h≠g/\Bs p sd sr gl hm iB cm ua ns cP dY homes st cs zs H Hx) ?_ ?_
  rotate_left
  .intro N hN;refine⟨_,rfl,_,rfl,rfl,_,rfl,iD (fun e=>?_) (fun e=>hN _ _ ⟨g0,rfl,Zy,fun z=>e (by rw[z];exact bn rfl),b2⟩)⟩;refine⟨_,rfl,_,_,rfl,rfl,_,rfl,_,rfl,_,_,rfl,rfl,p,pr ns-1,by rw[show (((pr ns-1:Nat)):Int)=((pr ns:Nat):Int)-1 by lia];rfl,by lia,by lia,b2.qz,fun d3 H3 hd3 s3 p3=>⟨_,_,rfl,rfl,_,rfl,_,_,rfl,rfl,(by show (0:Int)<((pr ns:Nat):Int);lia),?_⟩⟩;have ev:((h:Int)+1+(d3:Int)) % ((pr ns:Nat):Int)=(((h+(1+d3)) % pr ns:Nat):Int):=by
    rw[Int.natCast_emod];congr 1;lia
   refine hN _ _ ⟨(h+(1+d3)) % pr ns,?_,jH _ (by lia),(P6 hh (by lia) (by lia)).symm,b2.eQ AD s3 p3⟩;rw[<-ev];rfl
  clear b2;rintro σ Hx ⟨g,rfl,hg,lR,b2⟩;obtain⟨ph,hph⟩:=Da hh hg lR;have lh:=G.lh;have lc:=G.lc;have lz:=G.lz;refine⟨_,rfl,.inl ⟨rfl,_,bo.of b2.Bn⟩,_,rfl,hm,_,_,rfl,rfl,b2.Bn,by rw[aT,lh,hl];exact bA (show i<17 by lia) (by decide),?_⟩;have b3:=b2.aH AD (g:=g);clear b2;generalize upd Hx hm (.lst (NV homes++[.int (g:Int)]))=Hy at *;have hpy:=b3.qz;have Zz:=b3.s0 _ _ P9 (hp.neT P9);refine⟨_,rfl,_,rfl,_,rfl,_,rfl,sd,ua,ns,h,g,ph,zs,rfl,Zz,BX,hph,b3.qh,b3.po,fun r ys H4 s4 nr JS yl hy=>?_⟩;have b4:=b3.same AD s4;clear b3;refine lZ (fun σ Hx=>σ=[some (.ref p),some (.ref sd),some (.int (pr ns:Nat)),some (.ref sr),some (.ref gl),some (.ref hm),some (.ref iB),some (.ref cm),some (.ref ua),some (.int (i:Int)),some (.int (h:Int)),some (.int (g:Int)),some (.ref r),RA]/\Bs p sd sr gl hm iB cm ua ns cP dY (homes++[g]) st cs zs H Hx/\Hx r=some (.lst (NV ys))) ?_ (fun N hN=>hN _ _ ⟨rfl,b4,JS⟩);have nrp:r≠p:=hpy.ne nr;clear b4 JS s4 nr;rintro σ H4 ⟨rfl,b4,JS⟩;refine lZ (fun σ Hz=>∃o o' qV y12,σ=[some (.ref p),some (.ref sd),some (.int (pr ns:Nat)),some (.ref sr),some (.ref gl),some (.ref hm),some (.ref iB),some (.ref cm),some (.ref ua),some (.int (i:Int)),some (oV o),some (.int (g:Nat)),y12,some (oV o')]/\Bs p sd sr gl hm iB cm ua ns cP dY (homes++[g]) st cs qV H Hz/\(∀u∈zp zs,u∈zp qV)/\qV.length<=zs.length+1/\(o=none->o'=none)/\(∀h,o=some h->h<pr ns/\g<pr ns/\h≠g/\∃y,o'=some y/\Ln ns h g y/\((h:Int),(y:Int))∈zp qV/\((h:Int),(y:Int))∉zp zs)) ?_ ?_
  rotate_left
  .intro N hN;have no:∀Hz,Bs p sd sr gl hm iB cm ua ns cP dY (homes++[g]) st cs zs H Hz->N [some (.ref p),some (.ref sd),some (.int (pr ns:Nat)),some (.ref sr),some (.ref gl),some (.ref hm),some (.ref iB),some (.ref cm),some (.ref ua),some (.int (i:Int)),some .bR,some (.int (g:Nat)),some (.ref r),some .bR] Hz:=fun Hz b=>hN _ _ ⟨none,none,zs,_,rfl,b,fun u z=>z,Nat.le_succ _,fun _=>rfl,fun h z=>(nomatch z)⟩;refine⟨_,rfl,by show 0<=sizeLine;decide,fun E1 Zd=>?_⟩;have sE:=am (o:=.lst []) Zd;have b5:=b4.same AD sE;refine⟨r,E1,_,[],rfl,rfl,bo.of (sE _ _ JS),bo.of ag,fun i h1 h2=>absurd h2 (by simp),_,rfl,?_⟩;rw[aq bq,vk];by_cases c:NV ys=[]
   .rw[bn c];exact gY (gY ⟨by show 2<=sizeLine;decide,fun t ht=>⟨t,_,rfl,bh.of ag,rfl,_,_,rfl,_,_,rfl,rfl,no _ (b5.same AD (am ht))⟩⟩)
   .rw[dF c];have yp:0<ys.length:=by
     rcases zD ys.length with z|z
     .exact absurd (by rw[y6 z];rfl) c
     .exact z
    refine fW ⟨_,rfl,p,16,rfl,by decide,by decide +kernel,b5.qz,fun d4 H5 hd4 s5 p5=>⟨rfl,_,rfl,iD (fun e=>⟨by show 2<=sizeLine;decide,fun t ht=>⟨t,_,rfl,bh.of ag,rfl,_,_,rfl,_,_,rfl,rfl,no _ ((b5.eQ AD s5 p5).same AD (am ht))⟩⟩) (fun e=>?_)⟩⟩;have b6:=b5.eQ AD s5 p5;have WF:=s5 _ _ (sE _ _ JS) nrp;refine⟨_,rfl,_,rfl,_,rfl,r,_,rfl,.inl (bo.of WF),p,ys.length,by rw[aT];rfl,yp,by lia,b6.qz,fun d5 H6 hd5 s6 p6=>?_⟩;have b7:=b6.eQ AD s6 p6;have T5:=s6 _ _ WF nrp;refine⟨r,_,_,_,rfl,rfl,bo.of T5,aB (qg hd5),?_⟩;obtain⟨y1,y2⟩:=hy (ys.getD d5 0) (by rw[cq,cZ hd5];exact iI _);generalize ys.getD d5 0=y at *;refine⟨_,rfl,.inl ⟨rfl,_,bo.of b7.qh⟩,_,rfl,_,rfl,by show 2<=sizeLine;decide,fun t ht=>?_⟩;have bf:=am (o:=.tup [.int (h:Int),.int (y:Int)]) ht;have b8:=b7.same AD bf;have hzl:(zr zs).length<sizeLine:=by
     show (zs.map _).length<_;rw[aP];exact bA (show zs.length<17 by lia) (by decide)
    refine⟨ua,_,_,rfl,rfl,b8.qh,hzl,?_⟩;have b9:=b8.aU AD (t:=t) (u:=((h:Int),(y:Int))) ag;refine hN _ _ ⟨some h,some y,zs++[(t,((h:Int),(y:Int)))],_,rfl,b9,fun u z=>by rw[Bk];exact kr _ z,by rw[dU];exact aX _,fun z=>(nomatch z),fun h' e'=>?_⟩;obtain rfl:=bg e';exact⟨hh,hg,lR,y,rfl,y1,by rw[Bk];exact hZ _ (dL.mpr rfl),y2⟩
  clear b4 JS;rintro σ Hz ⟨o,o',qV,y12,rfl,b5,q1,q4,q2,q3⟩;have G':=G.snoc (g:=g) q1 q4 q2 q3;refine⟨_,rfl,.inl ⟨rfl,_,bo.of b5.iC⟩,_,rfl,iB,_,_,rfl,rfl,b5.iC,by rw[aP,hl];exact bA (show i<17 by lia) (by decide),?_⟩;have b6:=b5.aS AD (o:=o);refine⟨_,rfl,.inl ⟨rfl,_,bo.of b6.yD⟩,_,rfl,cm,_,_,rfl,rfl,b6.yD,by rw[aP,lc,hl];exact bA (show i<17 by lia) (by decide),?_⟩;have b7:=b6.aC AD (o:=o');exact⟨⟨_,_,_,_,_,rfl⟩,homes++[g],st++[o],cs++[o'],qV,b7,G',by rw[dU,hl];rfl⟩
end
end tf
namespace PySem
open PySem.Builtin.Range in
def pR(a b c:Int):Bool:=rangeFitsLong a&&rangeFitsLong b&&rangeFitsLong c&&rangeFitsLong (-c)&&rangeFitsLong (a-c)&&rangeFitsLong (rangeSize a b c)
theorem qA:isSubtype (.type "range_iterator") (.type "reversed")=pure false:=by rw[v7];kernel_rfl
section
variable {prog:Program} {w:World} {A:Around} {E:Value->Shared->Prop} {s:Shared}
def yE(a b c:Int):Obj:={ cls:=.type "range_iterator",data:=.fields #[rawInt (a+(Builtin.Range.rangeSize a b c-1)*c),rawInt (Builtin.Range.rangeSize a b c),rawInt (-c)] }
theorem lT{r:Addr}{a b c:Int}{t u v:Tok}{Q:Value->Shared->Prop}(hr:IsRange s.heap r a b c t u v)(JU:pR a b c=true)(h:Q (.ref s.heap.objs.size) { s with heap:=s.heap.push (yE a b c) }):wpAny (model prog w) A (call (.builtin "range.__reversed__") [.ref r]) Q E s:=by
 have hT:s.TypeIs (.ref r) "range":=⟨_,hr,rfl⟩
 refine gn F.slot_range_reversed hT F.entry_range_reversed ?_ (F.args_range_reversed_1 _);unfold pR at JU;obtain⟨hp,g,d,tk,os⟩:=s
 wp_walk using wpAny_loadPart' hr
 simp only[JU,rO,mj,i8,jI]
 wp_walk
 exact⟨_,rfl,h⟩
theorem ng{l:Addr}{a b c:Int}{t u v:Tok}{Q₁:Value->Shared->Prop}(hl:IsRange s.heap l a b c t u v)(JU:pR a b c=true)(h:Q₁ (.ref s.heap.objs.size) { s with heap:=s.heap.push (yE a b c) }):
  codeAny (model prog w) A (.call (.builtin "reversed.__new__") ⟨[.type "reversed",.ref l],[]⟩) (wants Q₁ E) s:=by
 have hT:s.TypeIs (.ref l) "range":=⟨_,hl,rfl⟩
 refine vY ?_;show wpAny _ A.in1 (do checkBuiltinCall "reversed.__new__" ⟨[.type "reversed",.ref l],[]⟩;again (.builtin "reversed.__new__" ⟨[.type "reversed",.ref l],[]⟩)) _ _ s;refine ai (fQ (F.newCall_reversed_1 _) (wpAny_pure ⟨rS F.plain_reversed_new _,gu F.entry_reversed_new ?_⟩));rw[jC F.plain_reversed_new _];unfold Builtin.«reversed.__new__»;refine ai (fQ (newClass_reversed _) ?_);try dsimp only
 refine ai (fQ (a:=()) (by first|rfl|kernel_rfl) ?_);refine ai (fQ (a:=()) (by first|rfl|kernel_rfl) ?_);try dsimp only
 refine ai (vW hT F.slot_range_reversed.lookup ?_);try dsimp only
 refine ai (fQ (F.slot_range_reversed.bind _) ?_);try dsimp only
 first
 |rw[aq (show ¬ ((Value.builtin "range.__reversed__"==Value.none)=true) from bq)]
 |(show wpAny _ _ (if (Value.builtin "range.__reversed__"==Value.none)=true then _ else _) _ _ _;rw[aq (show ¬ ((Value.builtin "range.__reversed__"==Value.none)=true) from bq)])
 refine ai (wpAny_rule ?_);refine ai (m:=runValue (.call (.builtin "range.__reversed__") ⟨[.ref l],[]⟩)) (show wpAny _ _ (call (.builtin "range.__reversed__") [.ref l]) _ _ _ from lT hl JU ?_);first
 |exact wpAny_pure h
 |exact ai (wpAny_pure (wpAny_pure h))
theorem lU{l:Addr}{a b c:Int}{t u v:Tok}{Q:Value->Shared->Prop}(hl:IsRange s.heap l a b c t u v)(JU:pR a b c=true)(h:Q (.ref s.heap.objs.size) { s with heap:=s.heap.push (yE a b c) }):wpAny (model prog w) A (call (.type "reversed") [.ref l]) Q E s:=by
 refine callType_other (U:="range_iterator") (Q₁:=fun obj s₁=>obj=.ref s.heap.objs.size/\s₁={ s with heap:=s.heap.push (yE a b c) }) (by decide +kernel) F.create_reversed ⟨_,_,F.mro_reversed⟩ F.made_reversed qA (F.typeCall_reversed_1 _) (ng hl JU ⟨rfl,rfl⟩) ?_;rintro obj s₁ ⟨rfl,rfl⟩;exact⟨⟨_,bz _ rfl,rfl⟩,h⟩
end
end PySem
namespace L2
open PySem PySem.Spec PyProof.Rows
def UJ(hi:Int)(n:Nat):It:=⟨fun i _=>i<n,fun i H x H'=>H'=H/\x=.int (hi-i),fun i _=>n<=i,fun _ _=>False⟩
theorem EJ{P:Program}{w:World}{K:PySem.W.Frag}{tg:Expr}(it:Addr)(hi:Int)(n:Nat):pf P w K tg (UJ hi n) [it] it (fun i h=>IsRangeIter h it (hi+(i:Nat)*-1) ((n:Int)-(i:Nat)) (-1)) where
 mem:=by simp
 obj:=fun i h st b hb=>by
  have e:b=it:=by simpa using hb
  subst e;exact⟨_,st,fun v z=>by
   have z':Data.fields _=Data.cell v:=z;cases z'⟩
 keep:=fun i h h' st k=>k it (by simp) _ st
 item:=by
  intro X hP hw hK i ae s σ H E hc I hf st hg;subst hP hw hK;obtain⟨f0,f1,f2,f3,f4,f5⟩:=hf it (by simp);refine wpAny_pyNext_range_item st (by have:i<n:=hg;lia) fun h' bf sb=>?_;have I1:aG X ae σ H { s with heap:=h',toks:=s.toks+1 }:=I.turned (fun b o hb e=>(sb.2 b hb).trans e) f0 f1 f3 f4 f5;have ow:IsRangeIter h' it (hi+((i+1:Nat):Int)*-1) ((n:Int)-((i+1:Nat):Int)) (-1):=by
   rw[show hi+((i+1:Nat):Int)*-1=hi+(i:Int)*-1+-1 by lia,show (n:Int)-((i+1:Nat):Int)=(n:Int)-(i:Int)-1 by lia];exact bf
  exact⟨_,rfl,xF (s:={ s with heap:=h',toks:=s.toks+1 }) (n:="range_iterator") ow rfl rfl (by decide) ⟨.int (hi-i),H,I1,⟨s.toks,by rw[show hi+(i:Int)*-1=hi-(i:Int) by lia]⟩,⟨rfl,rfl⟩,ow,fun b hb=>(hf b hb).1⟩⟩
 done:=by
  intro X hP hw hK i ae s σ H E qk I hf st hg;subst hP hw hK;have hc:X.calm=true:=qk.elim id fun z=>(show False from z).elim;obtain⟨f0,f1,f2,f3,f4,f5⟩:=hf it (by simp);exact wpAny_pyNext_range_end (I.ok.hd hc) st (by have:n<=i:=hg;lia) fun h' eb=>⟨rfl,I.turned (t':=s.toks) (fun b o hb e=>eb b o hb e) f0 f1 f3 f4 f5⟩
 self:=fun _ _ _ _ _ st h=>zu st h
theorem IG{n:Nat}:Builtin.Range.rangeSize 0 (n:Int) 1=n:=by rw[rangeSize_one];split <;> lia
theorem EK{n:Nat}(h:n<=1000):pR 0 (n:Int) 1=true:=by
 unfold pR;rw[IG];simp only[Builtin.Range.rangeFitsLong,gP,ml];refine⟨⟨⟨⟨⟨?_,?_⟩,?_⟩,?_⟩,?_⟩,?_⟩ <;> lia
section
variable {X:Cx} {tg:Expr}
def UK(ta:TA):TI:=fun σ H R=>ta σ H fun vs H1=>∃ (p:Addr) (n:Nat),vs=[.ref p]/\H1 p=some (.BQ 0 (n:Int))/\n<=1000/\R (UJ ((n:Int)-1) n) H1
theorem LU{e:Expr}{ta:TA}{p pos:Pos}(hg:Gl X "reversed")(hm:X.mg "reversed"=none)(ha:PA X [e] ta)(hs:starEach [e] X.env=[(false,eval e X.env)]:=by rfl):
  PI X tg (.Call (.Name "reversed" p) [e] [] pos) (UK ta):=by
 intro ae s σ H R I h;refine Call_ (jJ I hg hm boot_reversed (oA (cy (ha pos ae s σ H _ I h) fun us s1 ⟨vs,H1,I1,r1,q1⟩=>?_) hs rfl));obtain⟨a,n,rfl,ea,hn,q⟩:=q1;obtain⟨u1,rfl,r2⟩:=r1.one;obtain rfl:u1=Value.ref a:=r2;obtain⟨t,u,v,hp⟩:=(show ce X.prog X.w H1 s1.heap a (.BQ 0 (n:Int)) from I1.cf a _ ea)
 refine lU (show IsRange s1.heap a 0 n 1 t u v from hp) (EK hn) ?_;have I2:aG X ae σ H1 { s1 with heap:=s1.heap.push (yE 0 n 1) }:=I1.kept (t':=s1.toks) fun b o e=>a8 _ e;have st:IsRangeIter (s1.heap.push (yE 0 n 1)) s1.heap.objs.size ((n:Int)-1+((0:Nat):Int)*-1) ((n:Int)-((0:Nat):Int)) (-1):=by
  have e0:=bz s1.heap (o:=yE 0 n 1) rfl;show _=some _;rw[e0];unfold yE;rw[IG];simp
 refine zu st ?_;refine⟨s1.heap.objs.size,[s1.heap.objs.size],_,_,H1,rfl,I2,EJ _ ((n:Int)-1) n,st,fun b hb=>?_,q⟩;have e:b=s1.heap.objs.size:=by simpa using hb
 subst e;obtain⟨f0,f⟩:=I1.uB (aX _) (I1.cf.fresh (aX _));exact⟨f0,f⟩
end
theorem UL{X:Cx}{ae:List (Addr×Obj)}{σ:St}{H:Hp}{s:Shared}{a:Addr}{kvs:List (fR×V)}{k:fR}{u r:Value}{v:V}{A:Around}{E:Value->Shared->Prop}{Q:Unit->Shared->Prop}(I:aG X ae σ H s)(e:H a=some (.dK kvs))(l:kvs.length<sizeLine)(ry:bC (kV k) u)(rv:bC v r)(h:∀s',aG X ae σ (upd H a (.dK (pJ kvs k v))) s'->Q () s'):wpAny (model X.prog X.w) A (dictSet a u r) Q E s:=by
 obtain⟨z,hd,vs,Na,dd⟩:=M9 I.cf e;have hz:vs.length<=sizeLine:=by rw[<-Na.length];exact z
 have hl:(pJ kvs k v).length<=sizeLine:=by have:=xZ kvs k v;lia
 refine wpAny_dictSet_pairs (hsz:=hz) (GV ry) dd fun h' dd' hs=>h _ ?_;have he:∃q,h'.get? a=some q:=let ⟨q,_,_,hq,_⟩:=dd';⟨q,hq⟩;exact KB I (by rw[e];exact True.intro) hs he (ON hl hd (Na.put k rv) dd')
def yF(J:It)(g:TG)(tt:TT)(tk tv:TE)(D:Addr)(cH:Hp->Prop)(σB:St)(H1:Hp):Prop:=
 ∃W:Nat->Nat->St->Hp->Prop,(∃m,W 0 m σB H1)/\∀i m σ H,W i m σ H->(J.stop i H/\cH H)\/(J.go i H/\∀x H',J.FF i H x H'->g x σ H' fun σ2 H2=>tt σ2 H2 fun b H3=>
  if b=true then tk σ2 H3 fun y H4=>tv σ2 H4 fun v H5=>∃kvs k,H5 D=some (.dK kvs)/\y=kV k/\kvs.length<sizeLine/\∃m',m'<m/\W (i+1) m' σ2 (upd H5 D (.dK (pJ kvs k v))) else ∃m',m'<m/\W (i+1) m' σ2 H3)
theorem Bo{B:Cx}{kx vx tg iter:Expr}{oz:List Expr}{scope:Scope}{pos:Pos}{J:It}{g:TG}{tt:TT}{tk tv:TE}{D it:Addr}{fp:List Addr}{tn:Nat->Heap->Prop}{cH:Hp->Prop}{R:Result->Shared->Prop}{s:Shared}{σB:St}{H1:Hp}(hx:B.xe=fun _ _=>False)(hc:B.calm=true)(T:pf B.prog B.w B.K tg J fp it tn)(hg:PG B tg g)(ht:JO B oz tt)(hk:PE B kx tk)(hv:PE B vx tv)(I:aG B [] σB H1 s)(st:tn 0 s.heap)(hf:∀b∈fp,fA B [] H1 b)(hw:yF J g tt tk tv D cH σB H1)(hR:∀σ' H' s',aG B [] σ' H' s'->cH H'->R (.ok .next) s'):
  codeAny (model B.prog B.w) B.A (.compLoop (.DictComp kx vx [⟨tg,iter,oz,0⟩] scope pos) 0 (.ref it) (.ref D) B.env) R s:=by
 obtain⟨W,⟨m0,w0⟩,Ah⟩:=hw;have rZ:∀ {H':Hp},(∀b∈fp,H' b=none)->∀b∈fp,fA B [] H' b:=fun hn b hb=>⟨hn b hb,(hf b hb).2⟩
 refine codeAny_loop rfl (fun n s'=>∃i σ' H',aG B [] σ' H' s'/\tn i s'.heap/\(∀b∈fp,H' b=none)/\W i n σ' H') ?_ m0 ⟨0,σB,H1,I,st,fun b hb=>(hf b hb).1,w0⟩;rintro n s3 ⟨i,σ3,H3,I3,xv,JJ,w3⟩;show wpAny _ B.A ((compTurn (.DictComp kx vx [⟨tg,iter,oz,0⟩] scope pos) 0 (.ref it) (.ref D) B.env).onRaise (fun x=>do noteFrame x B.env;theTreesLotGoes x)) _ _ s3;refine wpAny_noted ?_;rw[compTurn_dict];have nx:∀ {α:Type} {t:Sem α} {Q:α->Shared->Prop} {E':Value->Shared->Prop} {s:Shared},wpAny (model B.prog B.w) B.A t Q B.xe s->wpAny (model B.prog B.w) B.A t Q E' s:=fun h=>
  gv h (fun _ _ q=>q) fun _ _ z=>by rw[hx] at z;exact z.elim
 rcases Ah i n σ3 H3 w3 with ⟨stop,qn⟩|⟨go,step⟩
 .refine ai (i6 (ai (cy (T.done B rfl rfl rfl i [] s3 σ3 H3 _ (.inl hc) I3 (rZ JJ) xv stop) fun r s4 ⟨hr,I4⟩=>?_)));subst hr;exact wpAny_pure (hR σ3 H3 s4 I4 qn)
 .refine ai (i6 (ai (cy (T.item B rfl rfl rfl i [] s3 σ3 H3 _ (.inl hc) I3 (rZ JJ) xv go) fun r s4 ⟨u,hr,h4⟩=>?_)));subst hr;refine ai (cy h4 fun _ s5 ⟨x,H5,I5,r5,y5,um,R8⟩=>?_);have R9:=I5.pinned (rZ R8) (T.obj _ _ um);refine ai (nx (cy (hg _ s5 σ3 H5 x u _ R9 r5 (step x H5 y5)) fun _ s6 ⟨σ6,H6,I6,q6⟩=>?_));have back:∀ {σ7:St} {H7:Hp} {s7:Shared} {m':Nat},aG B ([]++pi fp s5.heap) σ7 H7 s7->m'<n->W (i+1) m' σ7 H7->∃m,m<n/\∃i σ' H',aG B [] σ' H' s7/\tn i s7.heap/\(∀b∈fp,H' b=none)/\W i m σ' H':=fun {σ7 H7 s7 m'} I7 hm w7=>by
   refine⟨m',hm,i+1,σ7,H7,I7.kN,T.keep _ _ _ um fun b hb o e=>(I7.pin (b,o) (hZ _ (hZ _ (fU hb e)))).1,fun b hb=>?_,w7⟩;obtain⟨o,e,d⟩:=T.obj _ _ um b hb;exact(I7.pin (b,o) (hZ _ (hZ _ (fU hb e)))).2.1
  refine ai (nx (cy (ht _ s6 σ6 H6 _ I6 q6) fun ok s7 ⟨H7,I7,q7⟩=>?_));cases ok with
  |false=>
   rw[aq bq] at q7;obtain⟨m',hm,w7⟩:=q7;exact wpAny_pure ⟨rfl,back I7 hm w7⟩
  |true=>
   rw[ak rfl] at q7;refine ai (ai (nx (cy (hk _ s7 σ6 H7 _ I7 q7) fun v s8 ⟨y,H8,I8,r8,q8⟩=>?_)));refine ai (gs (nx (cy (hv _ s8 σ6 H8 _ I8 q8) fun v9 s9 ⟨y9,H9,I9,r9,kvs,k,hD,ey,hl,m',hm,w9⟩=>?_)));subst ey;refine ai (i6 (gs ?_));exact UL I9 hD hl r8 r9 fun s' I'=>wpAny_pure ⟨rfl,back I' hm w9⟩
section
variable {X:Cx} {kx vx tg iter:Expr} {oz:List Expr} {scope:Scope} {pos:Pos} {wi:TI} {g:TG} {tt:TT} {tk tv:TE} {NB:List Str} {src:List (Option Nat)}
def IH(src:List (Option Nat))(wi:TI)(g:TG)(tt:TT)(tk tv:TE):TE:=fun σ H Q=>wi σ H fun J H1=>∀D,H1 D=none->yF J g tt tk tv D (fun H'=>Q (.ref D) H') (Gc src σ) (upd H1 D (.dK []))
theorem qi{ae:List (Addr×Obj)}{σ:St}{H2:Hp}{s2:Shared}{J:It}{fp:List Addr}{it:Addr}{tn:Nat->Heap->Prop}{cl:List (Str×Addr)}{cH:Addr->Hp->Prop}{E':Value->Shared->Prop}{RR:Value->Addr->Result->Shared->Prop}(S:eM NB src scope X)(hc:X.calm=true)(c1:∀x c,cl.lookup x=some c->X.env.cells.lookup x=some c)(c2:∀x,(x,NameKind.free)∈scope.names->∃c,cl.lookup x=some c)(hg:∀cl C s₃ H₃ fp,PG (nW X NB scope cl C s₃ H₃ fp) tg g)(ht:∀cl C s₃ H₃ fp,JO (nW X NB scope cl C s₃ H₃ fp) oz tt)(hk:∀cl C s₃ H₃ fp,PE (nW X NB scope cl C s₃ H₃ fp) kx tk)(hv:∀cl C s₃ H₃ fp,PE (nW X NB scope cl C s₃ H₃ fp) vx tv)(I2:aG X ae σ H2 s2)(T:pf X.prog X.w X.K tg J fp it tn)(ow:tn 0 s2.heap)(f2:∀b∈fp,fA X ae H2 b)(hw:∀D,H2 D=none->yF J g tt tk tv D (cH D) (Gc src σ) (upd H2 D (.dK [])))(hR:∀D C H' s',fA X ae H' C->aG X ae σ H' s'->(∃m,s'.heap.Ns C m)->cH D H'->RR (.ref D) C (.ok .next) s'):
  wpAny (model X.prog X.w) X.A newDict (fun d7 s₃=>wpAny (model X.prog X.w) X.A (newFunctionEnv scope X.env.globals cl [] X.env.qual none .none (some X.env)) (fun Gh s₄=>
   codeAny (model X.prog X.w) X.A (.compStart (.DictComp kx vx [⟨tg,iter,oz,0⟩] scope pos) 0 (.ref it) d7 { Gh with scope:=relabel scope X.env }) (RR d7 Gh.locals) s₄) E' s₃) E' s2:=by
 refine h_ (nY ?_);have I3:aG X ae σ (upd H2 s2.heap.objs.size (.dK [])) { s2 with heap:=s2.heap.push { cls:=.type "dict",data:=.dict #[] } }:=I2.laid (a:=s2.heap.objs.size) (o:=.dK []) (t':=s2.toks) (fun _ _ q=>a8 _ q) (aX _) (GX s2.heap I2.big);have hD:H2 s2.heap.objs.size=none:=I2.fresh;have fo:∀b∈fp,b<s2.heap.objs.size:=fun b hb=>by obtain⟨o,e,_⟩:=T.obj _ _ ow b hb;exact aL e
 have up:∀ {b:Addr},b∈fp->upd H2 s2.heap.objs.size (.dK []) b=H2 b:=fun {b} hb=>al (aY (fo b hb));have f3:∀b∈fp,fA X ae (upd H2 s2.heap.objs.size (.dK [])) b:=fun b hb=>⟨by rw[up hb];exact(f2 b hb).1,(f2 b hb).2⟩
 have hsz:(s2.heap.push { cls:=.type "dict",data:=.dict #[] }).objs.size=s2.heap.objs.size+1:=by rw[fh]
 generalize Xt:({ s2 with heap:=s2.heap.push { cls:=.type "dict",data:=.dict #[] } }:Shared)=s3 at I3 |-;have Sx:s3.heap=s2.heap.push { cls:=.type "dict",data:=.dict #[] }:=by rw[<-Xt]
 have Sy:∀b∈fp,b<s3.heap.objs.size:=fun b hb=>by rw[Sx,hsz];exact dN (fo b hb)
 have Gi:(s3.heap.push { cls:=.type "dict",data:=.dict #[] }).objs.size=s3.heap.objs.size+1:=fh ..;have wr:∀x c,(cellsFrom (s3.heap.objs.size+1) scope.names cl).lookup x=some c->cl.lookup x=some c\/(s3.heap.objs.size<c/\(pushCells (s3.heap.push { cls:=.type "dict",data:=.dict #[] }) scope.names).IsCell c none):=fun x c e=>by
  rw[<-Gi] at e;rcases lF _ _ _ _ _ e with z|⟨z1,z2⟩
  .exact .inl z
  .exact .inr ⟨by rw[Gi] at z1;exact z1,z2⟩
 have Gj:=(Heap.Ns.new s3.heap (.type "dict")).keeps (rM scope.names _);have keep:∀b o,s3.heap.get? b=some o->(pushCells (s3.heap.push { cls:=.type "dict",data:=.dict #[] }) scope.names).get? b=some o:=fun b o e=>rM _ _ b o (a8 _ e);generalize hh1:pushCells (s3.heap.push { cls:=.type "dict",data:=.dict #[] }) scope.names=h₁ at wr Gj keep |-;have IB:aG (nW X NB scope (cellsFrom (s3.heap.objs.size+1) scope.names cl) s3.heap.objs.size s3 (upd H2 s2.heap.objs.size (.dK [])) fp) [] (Gc src σ) (upd H2 s2.heap.objs.size (.dK [])) { s3 with heap:=h₁,toks:=s3.toks }:=
  Cd I3 S c1 c2 f3 Sy Gj keep wr
 have Sz:tn 0 h₁:=T.keep 0 s2.heap h₁ ow fun b hb o e=>keep b o (by rw[Sx];exact a8 _ e);have fB:∀b∈fp,fA (nW X NB scope (cellsFrom (s3.heap.objs.size+1) scope.names cl) s3.heap.objs.size s3 (upd H2 s2.heap.objs.size (.dK [])) fp) [] (upd H2 s2.heap.objs.size (.dK [])) b:=fun b hb=>by
  refine⟨(f3 b hb).1,aY (Sy b hb),fun z=>?_,.inl hb,fun x c e=>(IB.ok.Wa b hb).2 x c e,fun p hp=>absurd (show p∈([]:List (Addr×Obj)) from hp) (by simp)⟩;rcases aV.mp (I3.rX b z) with e|e
  .exact(f3 b hb).2.1 e
  .exact(f3 b hb).2.2.1 e
 have loop:codeAny (model X.prog X.w) X.A (.compLoop (.DictComp kx vx [⟨tg,iter,oz,0⟩] scope pos) 0 (.ref it) (.ref s2.heap.objs.size) (compEnvC scope (cellsFrom (s3.heap.objs.size+1) scope.names cl) s3.heap.objs.size X.env)) (RR (.ref s2.heap.objs.size) s3.heap.objs.size)
   { s3 with heap:=h₁,toks:=s3.toks }:=by
  refine Bo (B:=nW X NB scope (cellsFrom (s3.heap.objs.size+1) scope.names cl) s3.heap.objs.size s3 (upd H2 s2.heap.objs.size (.dK [])) fp) rfl hc T (hg _ _ _ _ _) (ht _ _ _ _ _) (hk _ _ _ _ _) (hv _ _ _ _ _) IB Sz fB (hw _ hD) fun σ' H' s' J' q=>?_;obtain⟨m,hm,_⟩:=J'.loc;exact hR _ _ H' s' (I3.uB (aX _) J'.free) (I3.MW J' f3) ⟨m,hm⟩ q
 exact codeAny_compStart_dict loop (T.self _ 0 _ _ _ Sz loop)
theorem II(S:eM NB src scope X)(hc:X.calm=true)(hi:PI X tg iter wi)(hg:∀cl C s₃ H₃ fp,PG (nW X NB scope cl C s₃ H₃ fp) tg g)(ht:∀cl C s₃ H₃ fp,JO (nW X NB scope cl C s₃ H₃ fp) oz tt)(hk:∀cl C s₃ H₃ fp,PE (nW X NB scope cl C s₃ H₃ fp) kx tk)(hv:∀cl C s₃ H₃ fp,PE (nW X NB scope cl C s₃ H₃ fp) vx tv)(hs:∀x,foldedSetIterable iter X.env x=pure x:=by intro _;rfl):PE X (.DictComp kx vx [⟨tg,iter,oz,0⟩] scope pos) (IH src wi g tt tk tv):=by
 intro ae s σ H Q I h;obtain⟨cl,Ax,c1,c2⟩:=iu I.ok S;rw[arm_eval_DictComp];refine vB (use:=none) (cl:=cl) rfl hs Ax S.kind S.names (cy (hi ae s σ H _ I h) fun v s1 h1=>cy h1 fun Q_ s2 h2=>?_);obtain⟨it,fp,tn,J,H2,e,I2,T,ow,f2,hw⟩:=h2;subst e;refine qi (RR:=fun d7 C=>compPost (model X.prog X.w) X.A X.xe none (EP X ae σ Q) d7 C) S hc c1 c2 hg ht hk hv I2 T ow f2 hw fun D C H' s' fC I' hm q=>?_;obtain⟨m,hm⟩:=hm;refine⟨m,hm,fun h' sb=>⟨.ref D,H',?_,rfl,q⟩⟩;obtain⟨g0,g1,_,g3,g4,g5⟩:=fC;exact I'.turned (t':=s'.toks) (fun b o hb e=>(sb.2 b hb).trans e) g0 g1 g3 g4 g5
theorem yG{i:Nat}{y:Str}{py Gk:Pos}(S:eM NB src scope X)(hc:X.calm=true)(hi:PI X tg iter wi)(hg:∀cl C s₃ H₃ fp,PG (nW X NB scope cl C s₃ H₃ fp) tg g)(ht:∀cl C s₃ H₃ fp,JO (nW X NB scope cl C s₃ H₃ fp) oz tt)(hk:∀cl C s₃ H₃ fp,PE (nW X NB scope cl C s₃ H₃ fp) kx tk)(hv:∀cl C s₃ H₃ fp,PE (nW X NB scope cl C s₃ H₃ fp) vx tv)(hN:X.N.Nodup)(Gm:X.N[i]?=some y)(hy:X.env.scope.names.lookup y=some .local)(Xu:swapsWith (.DictComp kx vx [⟨tg,iter,oz,0⟩] scope pos) (some (.Name y py)) Gk.line X.env=pure true)(hs:∀x,foldedSetIterable iter X.env x=pure x:=by intro _;rfl):
  PS X (.Assign [.Name y py] (.DictComp kx vx [⟨tg,iter,oz,0⟩] scope pos) Gk) (J5 (IH src wi g tt tk tv) (bW i)):=by
 intro ae s σ H D0 I h;obtain⟨cl,Ax,c1,c2⟩:=iu I.ok S;rw[exec_Assign_Name_used _ _ _ _ Xu];refine ai (i6 (ai ?_));show wpAny _ X.A (do let _ <- comprehension (.DictComp kx vx [⟨tg,iter,oz,0⟩] scope pos) scope X.env _ newDict false (eval iter X.env) (some (assign (.Name y py) X.env))) _ _ s;refine ai (gv (vB (use:=some (assign (.Name y py) X.env)) (Q:=fun _ s'=>SP X ae D0 .next s') (cl:=cl) rfl hs Ax S.kind S.names
  (cy (hi ae s σ H _ I h) fun v s1 h1=>cy h1 fun Q_ s2 h2=>?_)) (fun _ s' hq=>wpAny_pure (wpAny_pure hq)) fun _ _ e=>e)
 obtain⟨it,fp,tn,J,H2,e,I2,T,ow,f2,hw⟩:=h2;subst e;refine qi (RR:=fun d7 C=>compPost (model X.prog X.w) X.A X.xe (some (assign (.Name y py) X.env)) (fun _ s'=>SP X ae D0 .next s') d7 C) S hc c1 c2 hg ht hk hv I2 T ow f2 hw fun D C H' s' fC I' hm q=>?_;obtain⟨m,hm⟩:=hm;obtain⟨g0,g1,_,g3,g4,g5⟩:=fC;show wpAny _ X.A (assign (.Name y py) X.env (.ref D)) _ _ _;refine z0 (o9 I' hN Gm (.inl hy) (v:=.ref D) rfl (fun F2 Xv sb=>?_) (.inr hy));obtain⟨a,sb,ha⟩:=sb;have lR:C≠a:=by
  rcases ha with z|z
  .rw[z];exact g1
  .exact fun z'=>g4 y a z z'.symm
 refine⟨m,hm.sameBut sb lR,fun h' Xw=>⟨_,H',Xv.turned (t':=F2.toks) (fun b o hb e=>(Xw.2 b hb).trans e) g0 g1 g3 g4 g5,q⟩⟩
end
theorem tU{xs:Array Nat}{j:Nat}(hx:∀i k,i<k->k<xs.size->xs.getD i 0<xs.getD k 0):∀ (dA lo hi:Nat),hi-lo<=dA->lo<=hi->hi<=xs.size->(∀i,i<lo->xs.getD i 0<j)->(∀i,hi<=i->i<xs.size->j<=xs.getD i 0)->
  SetTable.below.go xs j dA lo hi<=xs.size/\(∀i,i<SetTable.below.go xs j dA lo hi->xs.getD i 0<j)/\∀i,SetTable.below.go xs j dA lo hi<=i->i<xs.size->j<=xs.getD i 0
 |0,lo,hi,hf,hl,hh,h1,h2=>by
  unfold SetTable.below.go;exact⟨by lia,h1,fun i z=>h2 i (by lia)⟩
 |dA+1,lo,hi,hf,hl,hh,h1,h2=>by
  unfold SetTable.below.go;by_cases c:lo<hi
  .rw[ak c];dsimp only;have eg:xs.getD ((lo+hi) / 2) j=xs.getD ((lo+hi) / 2) 0:=by
    rw[iF,iF,je (by lia)];rfl
   rw[eg];by_cases d:xs.getD ((lo+hi) / 2) 0<j
   .rw[ak d];refine tU hx dA _ hi (by lia) (by lia) hh (fun i Fe=>?_) h2;rcases fG i ((lo+hi) / 2) with z|z
    .exact wb (hx i _ z (by lia)) d
    .rw[show i=(lo+hi) / 2 by lia];exact d
   .rw[aq d];refine tU hx dA lo _ (by lia) (by lia) (by lia) h1 (fun i Fe hs=>?_);rcases fG ((lo+hi) / 2) i with z|z
    .exact bj (zP d) (jF (hx _ i z hs))
    .rw[show i=(lo+hi) / 2 by lia];exact zP d
  .rw[aq c];exact⟨by lia,h1,fun i z=>h2 i (by lia)⟩
def LV(xs:Array Nat):Prop:=∀i k,i<k->k<xs.size->xs.getD i 0<xs.getD k 0
theorem tV{xs:Array Nat}{j:Nat}(hx:LV xs):SetTable.below xs j<=xs.size/\(∀i,i<SetTable.below xs j->xs.getD i 0<j)/\∀i,SetTable.below xs j<=i->i<xs.size->j<=xs.getD i 0:=
 tU hx xs.size 0 xs.size (by lia) (cr _) (aX _) (fun i z=>absurd z (j8 _)) (fun i z z'=>by lia)
theorem yH{xs:Array Nat}(hx:LV xs){i j:Nat}(hi:i<xs.size)(h1:∀k,k<i->xs.getD k 0<j)(h2:j<=xs.getD i 0):SetTable.below xs j=i:=by
 obtain⟨b0,b1,b2⟩:=tV (j:=j) hx;rcases Nat.lt_trichotomy (SetTable.below xs j) i with z|z|z
 .have:=b2 _ (aX _) (by lia);have:=h1 _ z;lia
 .exact z
 .have:=b1 i z;lia
theorem yI{xs:Array Nat}{p j i:Nat}(hp:p<=xs.size):(SetTable.insertAt xs p j).getD i 0=if i<p then xs.getD i 0 else if i=p then j else xs.getD (i-1) 0:=by
 have e:∀ (ys:Array Nat) k,ys.getD k 0=ys.toList.getD k 0:=fun ys k=>by rw[iF,cq,nG]
 rw[e,e,e];have el:(SetTable.insertAt xs p j).toList=xs.toList.take p++j::xs.toList.drop p:=by
  unfold SetTable.insertAt;simp[List.extract_eq_drop_take];exact zf (by simp)
 have lp:(xs.toList.take p).length=p:=by rw[ii,eJ];exact Nat.min_eq_left hp
 rw[el,cq,cq,cq];split
 .rw[nE (by lia),re (by lia)]
 .split
  .rw[ra (by lia),lp];subst i;simp
  .rw[ra (by lia),lp,show i-p=(i-1-p)+1 by lia,List.getElem?_cons_succ,List.getElem?_drop];congr 2;lia
theorem LW{xs:Array Nat}{j:Nat}(hx:LV xs)(hj:∀i,i<xs.size->xs.getD i 0≠j):LV (SetTable.insertAt xs (SetTable.below xs j) j):=by
 obtain⟨b0,b1,b2⟩:=tV (j:=j) hx;intro i k h1 h2;rw[eN] at h2;rw[yI b0,yI b0];generalize SetTable.below xs j=p at *;split
 .split
  .exact hx i k h1 (by lia)
  .split
   .exact b1 i (by assumption)
   .have:=b1 i (by assumption);have:=b2 (k-1) (by lia) (by lia);lia
 .split
  .rw[aq (by lia),aq (by lia)];have:=b2 (k-1) (by lia) (by lia);have:=hj (k-1) (by lia);lia
  .rw[aq (by lia),aq (by lia)];exact hx (i-1) (k-1) (by lia) (by lia)
theorem IJ{l:List Nat}(h:l.Pairwise (·<·)):LV l.toArray:=by
 intro i k h1 h2;have h2':k<l.length:=by simpa using h2
 have:=Ft.mp h i k (by lia) h2' h1;simpa [iF,h2',show i<l.length by lia] using this
theorem Dc:∀ {l m:List Nat},l.Nodup->(∀x∈l,x∈m)->l.length<=m.length
 |[],_,_,_=>cr _
 |a::l,m,h,hm=>by
  obtain⟨h1,h2⟩:=dq.mp h;have ha:=hm a bV;have:=Dc (m:=m.erase a) h2 fun x hx=>(rq (fun (e:x=a)=>h1 (e ▸ hx))).mpr (hm x (bU _ hx));rw[rd ha] at this;have:=vE ha;rw[cQ];lia
theorem yJ{l:List Nat}{n:Nat}(nd:l.Nodup)(hl:l.length=n)(lt:∀x∈l,x<n):l.Perm (List.range n):=by
 refine(Fp nd oK).mpr fun x=>⟨fun h=>dt.mpr (lt x h),fun h=>?_⟩
 refine y_ fun c=>?_;have:=Dc (l:=x::l) (m:=List.range n) (dq.mpr ⟨c,nd⟩) fun y hy=>by
  rcases aV.mp hy with rfl|hy
  .exact h
  .exact dt.mpr (lt y hy)
 rw[cQ,dW] at this;lia
def EL(owner:Array (Option Nat)):Prop:=∀i k x,owner.getD i none=some x->owner.getD k none=some x->i=k
theorem IK{mask:Nat}{owner:Array (Option Nat)}{k j:Nat}(L:sB (mask+1) owner k)(h:EL owner):EL (owner.setIfInBounds j (some k)):=by
 have e:∀i,(owner.setIfInBounds j (some k)).getD i none=if j=i/\i<owner.size then some k else owner.getD i none:=fun i=>by
  rw[iF,iF,Array.getElem?_setIfInBounds];by_cases c:j=i
  .subst c;by_cases d:j<owner.size
   .simp[d]
   .simp[d]
  .simp[c]
 have lt:∀i,owner.getD i none≠some k:=fun i z=>by
  rw[iF,<-nG] at z;cases hy:owner.toList[i]? with
  |none=>rw[hy] at z;cases z
  |some v=>rw[hy] at z;obtain rfl:v=some k:=z;exact ie _ (L.lt k (dh hy))
 intro i i' x h1 h2;rw[e] at h1 h2;split at h1
 .cases h1;split at h2
  .lia
  .exact absurd h2 (lt _)
 .split at h2
  .cases h2;exact absurd h1 (lt _)
  .exact h i i' x h1 h2
theorem Dd{mask:Nat}(R:yZ (mask+1)):∀ (l:List Int) (owner:Array (Option Nat)) (k:Nat),sB (mask+1) owner k->EL owner->k+l.length<=mask->∀o n,
  l.foldl (fun d7 h=>do
   let (owner,k) <- d7
   let j <- SetTable.layClean.free mask owner (SetTable.turns mask) (SetTable.bits h % (mask+1)) (SetTable.bits h)
   pure (owner.setIfInBounds j (some k),k+1)) (some (owner,k))=some (o,n)->EL o
 |[],owner,k,L,I,_,o,n,e=>by cases e;exact I
 |h::l,owner,k,L,I,hl,o,n,e=>by
  rw[cQ] at hl;obtain⟨j,ej,L'⟩:=L.one R (by lia) h;rw[iJ] at e;have:(do
   let (owner,k) <- some (owner,k)
   let j <- SetTable.layClean.free mask owner (SetTable.turns mask) (SetTable.bits h % (mask+1)) (SetTable.bits h)
   pure (owner.setIfInBounds j (some k),k+1):Option (Array (Option Nat)×Nat))=some (owner.setIfInBounds j (some k),k+1):=by
   show (SetTable.layClean.free mask owner (SetTable.turns mask) (SetTable.bits h % (mask+1)) (SetTable.bits h)).bind _=_;rw[ej];rfl
  rw[this] at e;exact Dd R l _ _ L' (IK L I) (by lia) o n e
theorem xf{mask:Nat}(R:yZ (mask+1)){hs:Array Int}(h:hs.size<=mask){o:Array (Option Nat)}(e:SetTable.layClean mask hs=some o):EL o:=by
 have L0:sB (mask+1) (Array.replicate (mask+1) none) 0:=⟨by simp,by simp[List.countP_replicate],fun x hx=>by simp at hx⟩
 obtain⟨o',e',L⟩:=ww R hs.toList _ 0 L0 (by simpa using h);have I:=Dd R hs.toList _ 0 L0 (fun i k x h1=>by rw[iF,Array.getElem?_replicate] at h1;split at h1 <;> cases h1) (by simpa using h) o' _ e';unfold SetTable.layClean at e;rw[<-Array.foldl_toList] at e;have e2:=congrArg (Option.map (·.1)) e';have e3:some o=some o':=e.symm.trans e2;cases e3;exact I
theorem LX{M:Nat}{owner:Array (Option Nat)}:(((List.range M).filterMap fun j=>(owner.getD j none).map (j,·)).map (·.1)).Pairwise (·<·):=by
 rw[j5];refine List.Pairwise.filterMap _ (fun a a' (h:a<a') b hb b' jq=>?_) (zg (n:=M));cases e:owner.getD a none with
 |none=>rw[e] at hb;cases hb
 |some x=>
  rw[e] at hb;cases hb;cases e':owner.getD a' none with
  |none=>rw[e'] at jq;cases jq
  |some x'=>rw[e'] at jq;cases jq;exact h
theorem P_{M:Nat}{owner:Array (Option Nat)}(I:EL owner):(((List.range M).filterMap fun j=>(owner.getD j none).map (j,·)).map (·.2)).Nodup:=by
 unfold List.Nodup;rw[j5];refine List.Pairwise.filterMap _ (fun a a' (h:a<a') b hb b' jq=>?_) (zg (n:=M));cases e:owner.getD a none with
 |none=>rw[e] at hb;cases hb
 |some x=>
  rw[e] at hb;cases hb;cases e':owner.getD a' none with
  |none=>rw[e'] at jq;cases jq
  |some x'=>
   rw[e'] at jq;cases jq;intro z;have z:x=x':=z;subst z;have:=I a a' x e e';lia
structure EM(led:Bool)(es:Array (Int×Value))(t:SetTable):Prop where
 dm:t.dummies=#[]
 sz:t.place.size=es.size
 ms:(t.mask=7/\es.size<=4)\/(t.mask=31/\es.size<=18)
 ld:t.led=led
 pl:t.plain=true
 rs:LV t.place
theorem EM.fits{led:Bool}{es:Array (Int×Value)}{t:SetTable}(T:EM led es t):t.fits es.size=true:=by
 unfold SetTable.fits SetTable.fill;rw[T.dm,T.sz];simp;rcases T.ms with ⟨e,z⟩|⟨e,z⟩ <;> lia
theorem IL{led:Bool}:EM led #[] (SetTable.fresh 0 0 led):=⟨rfl,rfl,.inl ⟨rfl,by decide⟩,rfl,rfl,fun i k _ h=>absurd h (j8 _)⟩
theorem yK{t:SetTable}{hashAt:Nat->Int}{h:Int}(hd:t.dummies=#[]):∀ (dA:Nat) (p:SetTable.Probe) (j:Nat) (d:Option Nat),SetTable.probe.go t hashAt h dA p=some (.empty j d)->t.slot j=.empty
 |0,p,j,d,e=>by unfold SetTable.probe.go at e;cases e
 |dA+1,p,j,d,e=>by
  unfold SetTable.probe.go at e;rcases qP hd p.j with z|⟨i,z,_⟩
  .rw[z] at e;cases e;exact z
  .rw[z] at e;dsimp only at e;split at e
   .cases e
   .exact yK hd dA _ j d e
theorem IM{led:Bool}{es:Array (Int×Value)}{t:SetTable}{h:Int}{x:Value}(T:EM led es t)(hl:es.size<18):
  ∃ja t1,layNew t es h x=(ja,t1,false,false)/\ja.size=es.size+1/\t1.dummies=#[]/\t1.place.size=es.size+1/\t1.mask=t.mask/\t1.led=led/\t1.plain=true/\LV t1.place/\t1.fits ja.size=true:=by
 have SE:t.place.size<=t.mask:=by rw[T.sz];rcases T.ms with ⟨e,z⟩|⟨e,z⟩ <;> lia
 have R:yZ (t.mask+1):=by
  rcases T.ms with ⟨e,_⟩|⟨e,_⟩ <;> rw[e]
  .exact SH
  .exact xR
 obtain⟨j,hp⟩:=sw (hashAt:=fun _=>h+1) (h:=h) R T.dm SE (fun i _ z=>by have z:h+1=h:=z;lia);have hs:=yK T.dm _ _ _ _ hp;have q2:(t.put j).1.dummies=#[]:=by
  show (if SetTable.has t.dummies j=true then _ else t.dummies)=_;rw[T.dm];rfl
 have hj:∀i,i<t.place.size->t.place.getD i 0≠j:=fun i hi e=>by
  have:=yH T.rs hi (j:=j) (fun k hk=>by rw[<-e];exact T.rs k i hk hi) (by rw[e];exact aX _);unfold SetTable.slot at hs;dsimp only at hs;rw[this,je hi] at hs;rw[iF,je hi] at e;have e:t.place[i]=j:=e;rw[e] at hs;simp at hs
 have s1:(SetTable.insertAt es (t.put j).2 (h,x)).size=es.size+1:=eN _ _ _;have s2:(t.put j).1.place.size=es.size+1:=by
  show (SetTable.insertAt t.place (SetTable.below t.place j) j).size=_;rw[eN,T.sz]
 have fl:(t.put j).1.fill=es.size+1:=by unfold SetTable.fill;rw[s2,q2];rfl
 have OE:(t.put j).1.fits (SetTable.insertAt es (t.put j).2 (h,x)).size=true:=by
  unfold SetTable.fits;rw[s1,s2,fl,show (t.put j).1.mask=t.mask from rfl];simp;rcases T.ms with ⟨e,z⟩|⟨e,z⟩ <;> lia
 refine⟨SetTable.insertAt es (t.put j).2 (h,x),(t.put j).1,?_,s1,q2,s2,rfl,T.ld,T.pl,LW T.rs hj,OE⟩;unfold layNew SetTable.freeSlot;rw[hp];dsimp only;have e0:(none:Option Nat).getD j=j:=rfl;rw[e0];unfold SetTable.orStandIn;rw[ak OE,OE];rfl
theorem Bp{led:Bool}{es:Array (Int×Value)}{t:SetTable}(hd:t.dummies=#[])(hz:t.place.size=5)(hs:es.size=5)(hl:t.led=led)(hp:t.plain=true):
  ∃RC t2,relayAll t es (SetTable.grown es.size)=(RC,t2,false)/\EM led RC t2:=by
 have Wp:SetTable.sizeAbove (SetTable.grown es.size)=31+1:=by rw[hs];rfl
 have JU:(es.map (·.1)).size=5:=by rw[iZ,hs]
 obtain⟨owner,eo,L⟩:=p8 (mask:=31) xR (es.map (·.1)) (by rw[JU];decide);have IO:=xf xR (by rw[JU];decide) eo;obtain⟨Fb,M3⟩:=sH L;have ris:=LX (M:=31+1) (owner:=owner);have nd:=P_ (M:=31+1) IO;rw[JU] at Fb M3;generalize GG:(List.range (31+1)).filterMap (fun j=>(owner.getD j none).map (j,·))=live at Fb M3 ris nd;have er:t.relaid (es.map (·.1)) (SetTable.grown es.size)=some ({ mask:=31,place:=(live.map (·.1)).toArray,dummies:=#[],finger:=t.finger,led:=t.led,moves:=t.movedTo 31,plain:=t.plain },(live.map (·.2)).toArray):=by
  unfold SetTable.relaid SetTable.laid;rw[Wp];simp only[zE];rw[eo];show some _=some _;rw[<-GG]
 have pm:(live.map (·.2)).Perm (List.range 5):=yJ nd (by rw[aP,Fb]) fun x hx=>by
  obtain⟨q,hq,rfl⟩:=a9.mp hx;exact M3 q hq
 have pF:((live.map (·.2)).toArray.filterMap (es[·]?)).size=5:=by
  rw[<-eJ,rj];show ((live.map (·.2)).filterMap _).length=_;rw[<-Fb,zG];refine AF fun q hq=>?_;show (es[q.2]?).isSome=true;rw[je (by rw[hs];exact M3 q hq)];rfl
 have OE:({ mask:=31,place:=(live.map (·.1)).toArray,dummies:=#[],finger:=t.finger,led:=t.led,moves:=t.movedTo 31,plain:=t.plain }:SetTable).fits ((live.map (·.2)).toArray.filterMap (es[·]?)).size=true:=by
  rw[pF];unfold SetTable.fits SetTable.fill;simp[Fb]
 refine⟨(live.map (·.2)).toArray.filterMap (es[·]?),{ mask:=31,place:=(live.map (·.1)).toArray,dummies:=#[],finger:=t.finger,led:=t.led,moves:=t.movedTo 31,plain:=t.plain },?_,⟨rfl,?_,.inr ⟨rfl,?_⟩,hl,hp,IJ ris⟩⟩
 .unfold relayAll;rw[er];dsimp only;rw[ak (by
   rw[gP];refine⟨?_,OE⟩;unfold coversAll;rw[hs];exact List.isPerm_iff.mpr pm)]
 .rw[pF];simp[Fb]
 .rw[pF];decide
def iv:Value->Int
 |.int i _=>i
 |_=>0
def bT(w:World):Bool:=w.params.followText "set-order"
def SI(P:Program)(w:World)(h:Heap)(S:Addr)(ks:List Int):Prop:=
 ∃o es ep t,h.get? S=some o/\o.ExactSet/\o.data=.set es ep t/\ElemsOf (intKind P w) es.toList/\EM (!bT w) es t/\(es.toList.map fun e=>iv e.2).Perm ks
section
variable {prog:Program} {w:World} {A:Around} {E:Value->Shared->Prop} {s:Shared} {S Ia l:Addr} {R:Result->Shared->Prop}
theorem SI.keep{h h':Heap}{ks:List Int}(x:SI prog w h S ks)(k:∀o,h.get? S=some o->h'.get? S=some o):SI prog w h' S ks:=let ⟨o,es,ep,t,a,b⟩:=x;⟨o,es,ep,t,k _ a,b⟩
theorem yL{h:Heap}{o:Obj}{es:Array (Int×Value)}{ep:Nat}{t:SetTable}(ho:h.get? S=some o)(y4:o.ExactSet)(hd:o.data=.set es ep t){es':Array (Int×Value)}{t':SetTable}:
  ∃o',(h.update S (Obj.putSet es' t')).get? S=some o'/\o'.ExactSet/\o'.data=.set es' (ep+1) t':=by
 have g:=oF (Obj.putSet es' t') ho (by rw[putSet_of es' t' hd];rfl);rw[putSet_of es' t' hd] at g;exact⟨_,g,y4,rfl⟩
theorem Qa{g:Bool->Sem Unit}(hg:∀ (b:Bool) (s₁:Shared) (Q':Unit->Shared->Prop),Q' () s₁->wpAny (model prog w) A (g b) Q' E s₁){o:Obj}{es:Array (Int×Value)}{ep:Nat}{t:SetTable}(ho:s.heap.get? S=some o)(y4:o.ExactSet)(hd:o.data=.set es ep t){ja:Array (Int×Value)}{t2:SetTable}{ks:List Int}(LY:ElemsOf (intKind prog w) ja.toList)(M2:(ja.toList.map fun e=>iv e.2).Perm ks)(hm:(t2.mask=7/\ja.size<=5)\/(t2.mask=31/\ja.size<=18))(hz:t2.place.size=ja.size)(ZA:t2.dummies=#[])(hld:t2.led=!bT w)(uO:t2.plain=true)(hrs:LV t2.place){R:Option Bool->Shared->Prop}(h:∀h',Heap.SameBut S s.heap h'->SI prog w h' S ks->R (some true) { s with heap:=h' }):
    wpAny (model prog w) A (do
        storeSet S ja t2
        if (!false&&t2.tooFull)=true then do
            g (relayAll t2 ja (SetTable.grown ja.size)).2.2
            storeSet S (relayAll t2 ja (SetTable.grown ja.size)).1 (relayAll t2 ja (SetTable.grown ja.size)).2.1
            pure (some true)
          else pure (some true)) R E s:=by
  have hsz:ja.size<=sizeLine:=bj (show ja.size<=18 by rcases hm with ⟨_,z⟩|⟨_,z⟩ <;> lia) (by decide);refine ai (zY ho hd ?_ hsz);obtain⟨o1,Nd,UM,RB⟩:=yL (es':=ja) (t':=t2) ho y4 hd;have UN:=vO s.heap S (Obj.putSet ja t2);have fl:t2.fill=ja.size:=by unfold SetTable.fill;rw[hz,ZA];rfl
  by_cases c:t2.tooFull=true
  . rw[ak (by rw[c];rfl)]
    have c':=c;unfold SetTable.tooFull at c';rw[fl] at c';have c':ja.size*5>=t2.mask*3:=by simpa using c'
    have e5:ja.size=5:=by rcases hm with ⟨e,z⟩|⟨e,z⟩ <;> rw[e] at c' <;> lia
    obtain⟨RC,t3,er,T3⟩:=Bp ZA (by rw[hz,e5]) e5 hld uO;have hp:=relayAll_perm t2 ja (SetTable.grown ja.size);rw[er] at hp |-;dsimp only at hp |-;refine ai (hg _ _ _ ?_);have pF:RC.size=ja.size:=by rw[<-eJ,hp.length_eq,eJ]
    refine ai (zY Nd RB ?_ (by rw[pF];exact hsz));obtain⟨o2,ho2,ZB,UF⟩:=yL (es':=RC) (t':=t3) Nd UM RB;exact wpAny_pure (h _ (UN.trans (vO _ S _)) ⟨o2,RC,_,t3,ho2,ZB,UF,LY.perm hp,T3,(hp.map _).trans M2⟩)
  . rw[aq (by simpa using c)]
    have c':¬ ja.size*5>=t2.mask*3:=by
      intro z;refine c ?_;unfold SetTable.tooFull;rw[fl];simpa using z
    have SL:(t2.mask=7/\ja.size<=4)\/(t2.mask=31/\ja.size<=18):=by
      rcases hm with ⟨e,z⟩|⟨e,z⟩
      . rw[e] at c';exact .inl ⟨e,by lia⟩
      . exact .inr ⟨e,z⟩
    exact wpAny_pure (h _ UN ⟨o1,ja,_,t2,Nd,UM,RB,LY,⟨ZA,hz,SL,hld,uO,hrs⟩,M2⟩)
theorem Nu{k:Int}{x:Value}(h:(intKind prog w).is k x=true):iv x=k:=by
 obtain⟨t,rfl⟩:=z4 h;rfl
theorem UO{ks:List Int}{i:Int}{t:Tok}{Q:Bool->Shared->Prop}(hS:SI prog w s.heap S ks)(hl:ks.length<18)(h:∀h' tk b,Heap.SameBut S s.heap h'->SI prog w h' S (if i∈ks then ks else ks++[i])->Q b { s with heap:=h',toks:=tk }):wpAny (model prog w) A (setAdd S (.int i t)) Q E s:=by
 unfold setAdd;have nP:(intKind prog w).is i (.int i t)=true:=intKind_is _ _ _ _;refine gs (ai ((intKind prog w).pyHash (k:=i) nP ?_));obtain⟨o,es,ep,tb,ho,y4,hd,Nv,T,pk⟩:=hS;have ZC:(Value.int i t).scannable=true:=rfl;have cY:es.size<18:=by have:=pk.length_eq;rw[aP,eJ] at this;lia
 unfold setAddHashed setAddHashedIn;refine gs (ai (jD (s:={ s with toks:=s.toks+1 }) ho hd T.fits ?_));dsimp only;rw[byScan_of ZC (bA cY (by decide)) Nv];simp only[↓reduceIte];unfold setAddByScan;refine ai ?_;refine ai (wpAny_rule ?_);refine ai (wpAny_setScan_of (knd:=intKind prog w) (s:={ s with toks:=s.toks+1 }) nP ho hd T.fits Nv ?_);have mem:i∈ks↔∃e∈es.toList,(intKind prog w).is i e.2=true:=by
  rw[<-pk.mem_iff,a9];constructor
  .rintro⟨e,he,rfl⟩;obtain⟨⟨k,hk,_⟩,_⟩:=Nv e he;exact⟨e,he,by rw[Nu hk];exact hk⟩
  .rintro⟨e,he,z⟩;exact⟨e,he,Nu z⟩
 cases hr:List.findIdx? (fun e=>(intKind prog w).is i e.2) es.toList with
 |some j=>
  dsimp only;obtain⟨hj,hpj,_⟩:=List.findIdx?_eq_some_iff_getElem.mp hr;refine wpAny_pure (wpAny_pure (h s.heap _ _ (Heap.SameBut.refl S s.heap) ?_));rw[ak (mem.mpr ⟨_,iI hj,hpj⟩)];exact⟨o,es,ep,tb,ho,y4,hd,Nv,T,pk⟩
 |none=>
  dsimp only;have hn:i∉ks:=fun z=>by
   obtain⟨e,he,hp⟩:=mem.mp z;have:=List.findIdx?_eq_none_iff.mp hr e he;rw[hp] at this;exact Bool.noConfusion this
  have sZ:=layNew_perm tb es ((intKind prog w).hash i) (.int i t);obtain⟨ja,t1,eL,z1,d1,p1,m1,l1,pl1,r1,f1⟩:=IM (h:=(intKind prog w).hash i) (x:=.int i t) T cY;rw[eL] at sZ |-;dsimp only at sZ |-;rw[ky] at sZ;have LY:ElemsOf (intKind prog w) ja.toList:=(Nv.push nP ZC).perm sZ;have M2:(ja.toList.map fun e=>iv e.2).Perm (ks++[i]):=by
   refine(sZ.map _).trans ?_;rw[dG];exact pk.append_right _
  refine ai (show wpAny _ _ (pure ()) _ _ _ from wpAny_pure ?_);rw[ak pl1];refine ai ?_;rw[hashByValue_scannable 8 ZC];refine wpAny_pure ?_;have epk:plainKind (Value.int i t)=true:=rfl;simp only[epk,jI];refine Qa (s:={ s with toks:=s.toks+1 }) (fun b s₁ Q' hq=>?_) ho y4 hd LY M2 ?_ (by rw[p1,z1]) d1 l1 pl1 r1 fun h' Ws S'=>?_
  .cases b <;> first|exact wpAny_pure hq|exact wpAny_rule hq
  .rw[m1,z1];rcases T.ms with ⟨e,z⟩|⟨e,z⟩
   .exact .inl ⟨e,by lia⟩
   .exact .inr ⟨e,by lia⟩
  .dsimp only;refine wpAny_pure (h h' _ _ Ws ?_);rw[aq hn];exact S'
def iV(ns:List Int):List Int:=ns.foldl (fun ks i=>if i∈ks then ks else ks++[i]) []
theorem Qb{vs:List Value}{ns:List Int}(hI:IntsAre vs ns)(hh:A.handled=none)(XF:l≠S)(XG:l≠Ia)(DP:S≠Ia):
  ∀ (k i:Nat) (s:Shared) (ks:List Int),vs.length-i=k->i<=vs.length->s.heap.IsListIter Ia l i->s.heap.IsList l vs.toArray->SI prog w s.heap S ks->ks.length+(ns.length-i)<=17->
   (∀h' tk,(∀b o,b≠S->b≠Ia->s.heap.get? b=some o->h'.get? b=some o)->SI prog w h' S ((ns.drop i).foldl (fun ks i=>if i∈ks then ks else ks++[i]) ks)->R (.ok (.ret .none)) { s with heap:=h',toks:=tk })->
   codeAny (model prog w) A (.builtin "set.update.loop" ⟨[.ref S,.ref Ia],[]⟩) R s:=by
 have cY:vs.length=ns.length:=hI.length;intro k;induction k with
 |zero=>
  intro i s ks hk hi iK hl hS hz hR;have e:i=vs.length:=by lia
  refine gu vt ?_;rw[jC uL _];show wpAny _ A.in1 (pyNext (.ref Ia) >>= _) _ _ s;refine ai (zy (show A.in1.handled=none from hh) iK hl (by simp;lia) fun h' eb=>?_);show wpAny _ A.in1 (ret Value.none) _ _ _;have hd:ns.drop i=[]:=by rw[List.drop_eq_nil_iff];lia
  rw[hd] at hR;exact wpAny_pure (hR h' s.toks (fun b o hb Kr e=>eb b o Kr e) (hS.keep fun o z=>eb S o DP z))
 |succ k ih=>
  intro i s ks hk hi iK hl hS hz hR;have de:i<vs.length:=by lia
  refine gu vt ?_;rw[jC uL _];show wpAny _ A.in1 (pyNext (.ref Ia) >>= _) _ _ s;have hv:vs[i]?=some vs[i]:=cZ de;refine ai (zq iK hl (x:=vs[i]) (by simpa using hv) fun h1 Ox jB=>?_);obtain⟨tk0,ev⟩:=IntsAre.int_at hI i _ hv;rw[ev];have Wo:SI prog w h1 S ks:=hS.keep fun o z=>(jB.2 S DP).trans z;have Ks:h1.IsList l vs.toArray:=by
   obtain⟨ol,q1,q2⟩:=hl;exact⟨ol,(jB.2 l XG).trans q1,q2⟩
  have AB:i<ns.length:=by lia
  have XH:ns.drop i=ns[i]::ns.drop (i+1):=rb AB;have XI:ns.getD i 0=ns[i]:=by rw[cq,cZ AB];rfl
  rw[XH,iJ] at hR;rw[XI];show wpAny _ A.in1 (holding [Value.int ns[i] tk0] (setAdd S (.int ns[i] tk0)) >>= _) _ _ _;refine ai (gs (UO (s:={ s with heap:=h1 }) Wo (by lia) fun h2 tk b iN S2=>?_));refine wpAny_pure ⟨rS uL _,?_⟩;refine ih (i+1) { s with heap:=h2,toks:=tk } _ (by lia) de ?_ ?_ S2 ?_ fun h3 XJ k3 S3=>?_
  .obtain⟨oi,q1,q2⟩:=Ox;exact⟨oi,(iN.2 Ia (ck DP)).trans q1,q2⟩
  .obtain⟨ol,q1,q2⟩:=Ks;exact⟨ol,(iN.2 l XF).trans q1,q2⟩
  .split
   .lia
   .rw[dU];simp;lia
  .exact hR h3 XJ (fun b ob hb Kr e=>k3 b ob hb Kr ((iN.2 b hb).trans ((jB.2 b Kr).trans e))) S3
theorem Bq(a:Value){Q₁:Value->Shared->Prop}(h:Q₁ (.ref s.heap.objs.size) { s with heap:=s.heap.push { cls:=.type "set",dict:=none,data:=.set #[] 0 (.fresh 0 0 (!bT w)) } }):
  codeAny (model prog w) A (.call (.builtin "set.__new__") ⟨[.type "set",a],[]⟩) (wants Q₁ E) s:=by
 refine vY ?_;show wpAny _ A.in1 (do checkBuiltinCall "set.__new__" ⟨[.type "set",a],[]⟩;again (.builtin "set.__new__" ⟨[.type "set",a],[]⟩)) _ _ s;refine ai (fQ (PySem.F.newCall_set_1 a) (wpAny_pure ⟨rS PySem.F.plain_set_new _,gu PySem.F.entry_set_new ?_⟩));rw[jC PySem.F.plain_set_new _];unfold Builtin.«set.__new__» Builtin.Frozenset.newClass;have Tq:=sub_set_self;obtain⟨hp,g,d,tk,os⟩:=s;dsimp only
 wp_walk
 refine rL (wpAny_pure ?_);dsimp only;simp only[newObj];refine ai (wpAny_alloc (wpAny_pure ?_));exact wpAny_pure h
theorem EN{vs:List Value}{ns:List Int}{Q:Value->Shared->Prop}(hh:A.handled=none)(hl:s.heap.IsList l vs.toArray)(hI:IntsAre vs ns)(hz:ns.length<=17)(h:∀ (h':Heap) (tk:Nat),SI prog w h' s.heap.objs.size (iV ns)->(∀b o,b<s.heap.objs.size->s.heap.get? b=some o->h'.get? b=some o)->Q (.ref s.heap.objs.size) { s with heap:=h',toks:=tk }):
  wpAny (model prog w) A (call (.type "set") [.ref l]) Q E s:=by
 obtain⟨c,tl,XM⟩:=gN.mro;have c1:=gN.made;have c2:=gN.sub;refine rT (vY ?_);show wpAny _ _ (callAny (.type "set") _) _ _ _;refine wpAny_pure ⟨zX _ (by decide +kernel),gu PySem.F.entry_type_call ?_⟩;rw[Around.under_plain (weight_type_call_type "set" [.ref l] []) rfl];have c3:=gN.notType;have c4:=gN.canCreate;have c5:=PySem.F.typeCall_set_1 (.ref l);repeat (any_goals (first|assumption|wp_step))
 refine kD (Bq (.ref l) (E:=E) (Q₁:=fun obj s₁=>∃led:Bool,led=(!bT w)/\obj=.ref s.heap.objs.size/\s₁={ s with heap:=s.heap.push { cls:=.type "set",dict:=none,data:=.set #[] 0 (.fresh 0 0 led) } }) ⟨_,rfl,rfl,rfl⟩) fun r s₁ hr=>?_;cases r with
 |error e=>exact hr
 |ok fl=>
  cases fl with
  |next=>exact hr.elim
  |brk=>exact hr.elim
  |cont=>exact hr.elim
  |ret obj=>
   obtain⟨led,ZD,rfl,rfl⟩:=hr;generalize Oy:s.heap.push { cls:=.type "set",dict:=none,data:=.set #[] 0 (.fresh 0 0 led) }=hS;have hsz:hS.objs.size=s.heap.objs.size+1:=by rw[<-Oy,fh]
   have gS:hS.get? s.heap.objs.size=some { cls:=.type "set",dict:=none,data:=.set #[] 0 (.fresh 0 0 led) }:=by rw[<-Oy];exact bz _ rfl
   have up:∀b o,s.heap.get? b=some o->hS.get? b=some o:=fun b o e=>by rw[<-Oy];exact a8 _ e
   have hT:Shared.TypeIs { s with heap:=hS } (.ref s.heap.objs.size) "set":=⟨_,gS,rfl⟩
   have c6:=gN.init.lookup;have c7:=gN.init.bind (.ref s.heap.objs.size);repeat (any_goals (first|assumption|wp_step))
   refine kD (vL (R:=wants (fun r s₂=>r=.none/\∃h' tk,s₂={ s with heap:=h',toks:=tk }/\SI prog w h' s.heap.objs.size (iV ns)/\
     (∀b o,b<s.heap.objs.size->s.heap.get? b=some o->h'.get? b=some o)) E) gN.init.plain PySem.F.entry_set_init (check_set_init_1 hT ?_)) fun r₂ s₂ Gw=>?_
   .obtain⟨ol,Gx,Ax,nl,Oz⟩:=hl;obtain⟨XN,SF,SG,OA⟩:=ol;simp only at Ax Oz;subst Ax;subst Oz;have OB:=up _ _ Gx;have c8:=PySem.F.sub_list_set;have c9:=Fm;have c10:(Value.type "list"==Value.type "dict")=false:=by decide
    have Ks:hS.IsList l vs.toArray:=⟨_,OB,rfl,nl,rfl⟩
    unfold Builtin.«set.__init__» noKeywords Builtin.Frozenset.updateFrom;generalize XO:pyIter=PI
    wp_walk
    subst XO;refine rH Ks ?_;refine ai (v6 ?_);have de:l<s.heap.objs.size:=aL Gx;refine Qb (l:=l) (vs:=vs) (ns:=ns) hI (by simp[hh]) (aY de) (by rw[hsz];exact aY (dN de)) (by rw[hsz];exact aY (kq _))
     (vs.length-0) 0 _ [] rfl (cr _) ⟨_,bz _ rfl,rfl,rfl⟩ (Ks.push _) ⟨_,#[],0,_,a8 _ gS,⟨rfl,rfl,rfl⟩,rfl,(fun e he=>by simp at he),ZD ▸ IL,.refl _⟩ (by simpa using hz) fun h' tk k S'=>?_
    show wpAny _ _ _ _ _ _;refine wpAny_pure ?_;show wpAny _ _ (ret Value.none) _ _ _;refine wpAny_pure ⟨rfl,h',tk,rfl,S',fun b o hb e=>?_⟩;exact k b o (aY hb) (by rw[hsz];exact aY (dN hb)) (a8 _ (up b o e))
   .cases r₂ with
    |error e=>exact Gw
    |ok XQ=>
     cases XQ with
     |next=>exact Gw.elim
     |brk=>exact Gw.elim
     |cont=>exact Gw.elim
     |ret r=>
      obtain⟨rfl,h',tk,rfl,S',k⟩:=Gw;repeat (any_goals (first|assumption|wp_step))
      exact h h' tk S' k
end
theorem tW:Manifest.owners.lookup (String.ofList ['r','o','t','a','r','e','t','i','_','t','e','s'].reverse)=some Manifest.sig_set_iterator:=by kernel_rfl
theorem dJ:Slot "set_iterator" "__next__" "set_iterator.__next__":=
 .of (owner:="set_iterator") (n:="__next__") (by rw[typeLookup_type,builtinLookup_eq_fast];kernel_rfl) (by decide +kernel) (by decide +kernel) (by decide +kernel)
  (by first|exact .inl (by decide +kernel)|exact .inr (by decide +kernel)) (by rw[v7];kernel_rfl)
theorem kd:entryFor table "set_iterator.__next__"=some Builtin.«set_iterator.__next__»:=entryFor_of_tree (by kernel_rfl)
theorem jw(a:Value):argsOk "set_iterator.__next__" ⟨[a],[]⟩:=by
 unfold argsOk;rw[signature?_of (id:="set_iterator.__next__") (n:=['_','_','t','x','e','n','_','_']) (o:=['r','o','t','a','r','e','t','i','_','t','e','s']) (by kernel_rfl) tW];kernel_rfl
theorem lr:Slot "set_iterator" "__iter__" "set_iterator.__iter__":=
 .of (owner:="set_iterator") (n:="__iter__") (by rw[typeLookup_type,builtinLookup_eq_fast];kernel_rfl) (by decide +kernel) (by decide +kernel) (by decide +kernel)
  (by first|exact .inl (by decide +kernel)|exact .inr (by decide +kernel)) (by rw[v7];kernel_rfl)
theorem pS(a:Value):argsOk "set_iterator.__iter__" ⟨[a],[]⟩:=by
 unfold argsOk;rw[signature?_of (id:="set_iterator.__iter__") (n:=['_','_','r','e','t','i','_','_']) (o:=['r','o','t','a','r','e','t','i','_','t','e','s']) (by kernel_rfl) tW];kernel_rfl
theorem qB:entryFor table "set_iterator.__iter__"=some Builtin.«dict_keyiterator.__iter__»:=
 entryFor_alias (id':="dict_keyiterator.__iter__") (by kernel_rfl) (by first|rfl|decide +kernel|(unfold String.splitOn;simp +decide [String.splitOnAux])) (by decide +kernel) (by kernel_rfl)
theorem tX:entryFor table "set.__iter__"=some Builtin.«frozenset.__iter__»:=
 entryFor_alias (id':="frozenset.__iter__") (by kernel_rfl) (by first|rfl|decide +kernel|(unfold String.splitOn;simp +decide [String.splitOnAux])) (by decide +kernel) (by kernel_rfl)
section
variable {prog:Program} {w:World} {A:Around} {E:Value->Shared->Prop} {s:Shared} {S I:Addr}
def ZE(S:Addr)(slot i n ep:Nat):Obj:={ cls:=.type "set_iterator",data:=.fields #[rawInt slot,rawInt i,.ref S,rawInt n,rawInt ep] }
def lu(h:Heap)(I S:Addr)(slot i n ep:Nat):Prop:=h.get? I=some (ZE S slot i n ep)
theorem lu.ty{slot i n ep:Nat}(x:lu s.heap I S slot i n ep):s.TypeIs (.ref I) "set_iterator":=⟨_,x,rfl⟩
theorem Qc{o:Obj}{es:Array (Int×Value)}{ep:Nat}{t:SetTable}(ho:s.heap.get? S=some o)(y4:o.ExactSet)(hd:o.data=.set es ep t)(T:EM (!bT w) es t){Q:Value->Shared->Prop}(h:Q (.ref s.heap.objs.size) { s with heap:=s.heap.push (ZE S 0 0 es.size ep) }):wpAny (model prog w) A (pyIter (.ref S)) Q E s:=by
 have hT:s.TypeIs (.ref S) "set":=⟨o,ho,y4.1⟩
 refine wpAny_pyIter_slot hT PySem.F.slot_set_iter (gn PySem.F.slot_set_iter hT tX ?_ (PySem.F.args_set_iter_1 _));unfold Builtin.«frozenset.__iter__»;refine ai (fQ (a:=S) rfl ?_);dsimp only;unfold Builtin.Frozenset.sizeOf;refine ai (ai (zM ho hd T.fits (wpAny_pure ?_)));unfold setDrawn setsByText;obtain⟨mask,place,dummies,finger,led,moves,plain⟩:=t;obtain rfl:plain=true:=T.pl;refine ai (ai ?_);refine jD ho hd T.fits ?_;dsimp only;refine ai (ai (rL (wpAny_pure (wpAny_pure ?_))));have e:(!(w.params.followText "set-order")&&false)=false:=by rw[Bool.and_false]
 show wpAny _ _ (if (!(w.params.followText "set-order")&&false)=true then _ else _) _ _ _;rw[e,aq bq];refine ai (wpAny_pure ?_);unfold setEpoch;refine ai (ai (jD ho hd T.fits (wpAny_pure ?_)));dsimp only;simp only[newFields,newObj];refine ai (ai (wpAny_alloc (wpAny_pure ?_)));exact wpAny_pure ⟨_,rfl,"set_iterator",_,⟨_,bz _ rfl,rfl⟩,dJ.lookup,h⟩
def lV(w:World)(S ep:Nat)(es:Array (Int×Value)):Array (Int×Value):=if bT w=true then pickOrder (w.params.setOrder S ep) es else es
def jx(w:World)(t:SetTable):Nat->Nat
 |0=>0
 |i+1=>if bT w=true then 0 else t.place.getD i 0+1
theorem vp{o:Obj}{es:Array (Int×Value)}{ep:Nat}{t:SetTable}(ho:s.heap.get? S=some o)(hd:o.data=.set es ep t)(T:EM (!bT w) es t){i:Nat}(hi:i<=es.size){Q:Option (Value×Nat)->Shared->Prop}(h:Q (((lV w S ep es)[i]?).map fun e=>(e.2,jx w t (i+1))) s):wpAny (model prog w) A (setNext S (jx w t i) i ep) Q E s:=by
 unfold setNext;refine ai (jD ho hd T.fits ?_);dsimp only;unfold setsByText;refine ai (ai (rL (wpAny_pure ?_)));dsimp only;cases hb:bT w with
 |true=>
  have jq:(model prog w).w.params.followText "set-order"=true:=hb;rw[jq,ak rfl];rw[aq (by simp)];unfold setWalk;refine ai (ai ?_);refine jD ho hd T.fits ?_;dsimp only;unfold setsByText;refine ai (ai (rL (wpAny_pure ?_)));dsimp only;rw[jq,ak rfl];refine ai (rL (wpAny_pure (wpAny_pure ?_)));have e1:lV w S ep es=pickOrder (w.params.setOrder S ep) es:=ak hb;have e2:∀i,jx w t i=0:=fun i=>by cases i with
   |zero=>rfl
   |succ i=>exact ak hb
  rw[e1,e2] at h;rw[e2];exact h
 |false=>
  have jq:(model prog w).w.params.followText "set-order"=false:=hb;rw[jq,aq bq];obtain⟨mask,place,dummies,finger,led,moves,plain⟩:=t;obtain rfl:plain=true:=T.pl;obtain rfl:led=true:=by have:=T.ld;rw[hb] at this;exact this
  refine wpAny_ite_split (fun z=>absurd (show false=true from z) bq) (fun _=>?_);refine ai (show wpAny _ _ (pure PUnit.unit) _ _ _ from wpAny_pure ?_);have e1:lV w S ep es=es:=aq (by rw[hb];exact bq);have sz:place.size=es.size:=T.sz;have rs:LV place:=T.rs;rw[e1] at h;have eb:SetTable.below place (jx w { mask,place,dummies,finger,led:=true,moves,plain:=true } i)=i:=by
   obtain⟨b0,b1,b2⟩:=tV (j:=jx w { mask,place,dummies,finger,led:=true,moves,plain:=true } i) rs;have lo:∀k,k<i->place.getD k 0<jx w { mask,place,dummies,finger,led:=true,moves,plain:=true } i:=fun k hk=>by
    cases i with
    |zero=>lia
    |succ i=>
     show _<(if bT w=true then 0 else place.getD i 0+1);rw[hb,aq bq];rcases fG k i with z|z
     .exact dN (rs k i z (by lia))
     .rw[show k=i by lia];exact kq _
   rcases fG i place.size with z|z
   .refine yH rs z lo ?_;cases i with
    |zero=>exact cr _
    |succ i=>
     show (if bT w=true then 0 else place.getD i 0+1)<=_;rw[hb,aq bq];exact rs i (i+1) (kq _) z
   .have ei:i=place.size:=by lia
    rcases fG (SetTable.below place (jx w { mask,place,dummies,finger,led:=true,moves,plain:=true } i)) place.size with y|y
    .have:=b2 _ (aX _) y;have:=lo _ (Nat.lt_of_lt_of_eq y ei.symm);lia
    .lia
  refine wpAny_pure ?_;dsimp only;rw[eb];rcases fG i es.size with z|z
  .have e2:jx w { mask,place,dummies,finger,led:=true,moves,plain:=true } (i+1)=place[i]'(by lia)+1:=by
    show (if bT w=true then 0 else place.getD i 0+1)=_;rw[hb,aq bq,iF,je (by lia)];rfl
   rw[e2,je z] at h;rw[je z,je (show i<place.size by lia)];exact h
  .rw[vF z] at h |-;exact h
theorem tY{α:Type}:∀ (l:List α) (i:Nat) (h:i<l.length),(l[i]::l.eraseIdx i).Perm l
 |a::l,0,_=>.refl _
 |a::l,i+1,h=>by
  show (l[i]'(l_ h)::a::l.eraseIdx i).Perm (a::l);exact(List.Perm.swap a _ _).trans (List.Perm.cons a (tY l i (l_ h)))
theorem De(next:Nat->Nat):∀ (dA k:Nat) (left:List (Int×Value)) (out:Array (Int×Value)),left.length=dA->(pickOrder.go next dA k left out).toList.Perm (out.toList++left)
 |0,k,left,out,h=>by
  obtain rfl:=y6 h;unfold pickOrder.go;rw[rK]
 |dA+1,k,left,out,h=>by
  unfold pickOrder.go;have hl:next k % left.length<left.length:=jH _ (by lia)
  rw[cZ hl];dsimp only;refine(De next dA (k+1) _ _ (by rw[List.length_eraseIdx_of_lt hl];lia)).trans ?_;rw[ky,dE];exact nF _ (tY left _ hl)
theorem lw{ep:Nat}{es:Array (Int×Value)}:(lV w S ep es).toList.Perm es.toList:=by
 unfold lV;split
 .unfold pickOrder;refine(De _ es.size 0 es.toList #[] (by simp)).trans ?_;simp
 .exact .refl _
theorem Qd{o:Obj}{es:Array (Int×Value)}{ep:Nat}{t:SetTable}(ho:s.heap.get? S=some o)(hd:o.data=.set es ep t)(T:EM (!bT w) es t)(DP:S≠I){i:Nat}{e:Int×Value}(he:(lV w S ep es)[i]?=some e)(iK:lu s.heap I S (jx w t i) i es.size ep){Q:Option Value->Shared->Prop}(hQ:∀h',lu h' I S (jx w t (i+1)) (i+1) es.size ep->Heap.SameBut I s.heap h'->Q (some e.2) { s with heap:=h' }):wpAny (model prog w) A (pyNext (.ref I)) Q E s:=by
 have JP:(lV w S ep es).size=es.size:=by
  have:=(lw (w:=w) (S:=S) (ep:=ep) (es:=es)).length_eq;rwa [eJ,eJ] at this
 have hi:i<es.size:=by rw[<-JP];exact(oC.mp he).1
 unfold pyNext;refine ai (jE (j3 (name:=Str.ofString "__next__") iK.ty dJ
  (gn dJ iK.ty kd ?_ (jw _))))
 unfold Builtin.«set_iterator.__next__»;refine ai (fQ (a:=(Value.ref I,[])) rfl ?_);dsimp only;refine ai (wpAny_fieldsOf iK rfl ?_);dsimp only[rawInt];refine ai (zM ho hd T.fits ?_);rw[aq (by simp)];refine ai ?_;simp only[mn];refine vp ho hd T (jF hi) ?_;rw[he];dsimp only[Option.map];refine ai (jj iK (by simp) fun h1 g1 jB=>?_);refine ai (jj (s:={ s with heap:=h1 }) g1 (by simp) fun h2 g2 iN=>?_);refine wpAny_pure ⟨e.2,rfl,wpAny_pure (hQ h2 ?_ (jB.trans iN))⟩;show h2.get? I=some _;rw[g2];rfl
theorem IN{o:Obj}{es:Array (Int×Value)}{ep:Nat}{t:SetTable}(hh:A.handled=none)(ho:s.heap.get? S=some o)(hd:o.data=.set es ep t)(T:EM (!bT w) es t)(DP:S≠I)(iK:lu s.heap I S (jx w t es.size) es.size es.size ep){Q:Option Value->Shared->Prop}(hQ:∀h',Heap.ExtBut I s.heap h'->Q none { s with heap:=h' }):wpAny (model prog w) A (pyNext (.ref I)) Q E s:=by
 have JP:(lV w S ep es).size=es.size:=by
  have:=(lw (w:=w) (S:=S) (ep:=ep) (es:=es)).length_eq;rwa [eJ,eJ] at this
 unfold pyNext;refine ai (jE (j3 (name:=Str.ofString "__next__") iK.ty dJ
  (gn dJ iK.ty kd ?_ (jw _))))
 unfold Builtin.«set_iterator.__next__»;refine ai (fQ (a:=(Value.ref I,[])) rfl ?_);dsimp only;refine ai (wpAny_fieldsOf iK rfl ?_);dsimp only[rawInt];refine ai (zM ho hd T.fits ?_);rw[aq (by simp)];refine ai ?_;simp only[mn];refine vp ho hd T (aX _) ?_;rw[vF (by rw[JP];exact aX _)];dsimp only[Option.map];refine ai (jj iK (by simp) fun h1 g1 jB=>?_);first
 |show wpAny _ _ (newExc (.type "StopIteration") [] >>= _) _ _ _
 |(refine ai ?_;show wpAny _ _ (newExc (.type "StopIteration") [] >>= _) _ _ _)
 refine ai ?_;simp only[newExc,newTuple];refine ai (h_ ?_ (by size_fits));refine ai (m:=firstArgMember _ _) (fQ (a:=Value.none) (by first|rfl|(simp only[firstArgMember];rfl)) ?_);refine h_ ?_ (by size_fits);simp only[raiseNew];refine ai (wpAny_handled ?_);first|rw[show A.in1.handled=none from hh]|rw[hh]
 refine ai (wpAny_pure (wpAny_throw ?_));refine ai (oP (T:="StopIteration") (b:=true) ⟨_,bz _ rfl,rfl⟩ rQ ?_);exact wpAny_pure (hQ _ ((jB.extBut.push _).push _))
theorem Br{slot i n ep:Nat}{Q:Value->Shared->Prop}(iK:lu s.heap I S slot i n ep)(h:Q (.ref I) s):wpAny (model prog w) A (pyIter (.ref I)) Q E s:=by
 refine wpAny_pyIter_slot iK.ty lr (gn lr iK.ty qB ?_ (pS _));show wpAny _ _ (ret (.ref I)) _ _ s;exact wpAny_pure ⟨_,rfl,"set_iterator",_,iK.ty,dJ.lookup,h⟩
end
open PySem PySem.Spec PyProof.Rows PySem.W
section
variable {prog:Program} {w:World} {A:Around} {E:Value->Shared->Prop} {s:Shared} {S I:Addr}
theorem IP{r:Addr}{Q:Bool->Shared->Prop}(hT:s.TypeIs (.ref r) "set")(h:Q false s):wpAny (model prog w) A (Builtin.List.listLengthHint (.ref r)) Q E s:=by
 unfold Builtin.List.listLengthHint;refine ai (vW hT PySem.F.slot_set_len.lookup ?_);generalize Rg:("set.__len__":String)=id0
 wp_delta
 rw[show splitId id0=some ("set","__len__") from by subst Rg;decide +kernel];subst Rg;refine ai (oP (T:="set") (b:=true) hT (by rw[v7];kernel_rfl) ?_);refine wpAny_ite_split (fun Ff=>absurd Ff (by decide)) (fun _=>?_);refine wpAny_ite_split (fun _=>?_) (fun Ff=>absurd (by decide +kernel) Ff);refine ai (we hT ?_);exact wpAny_pure h
theorem LZ{o:Obj}{es:Array (Int×Value)}{ep:Nat}{t:SetTable}(hh:A.handled=none)(hd:o.data=.set es ep t)(T:EM (!bT w) es t)(DP:S≠I):
  Walks prog w A I [I,S] [I] es.size (fun i v=>((lV w S ep es)[i]?).map (·.2)=some v) (fun i h=>i<=es.size/\lu h I S (jx w t i) i es.size ep/\h.get? S=some o) where
 sub:=fun b hb=>by simp at hb;simp[hb]
 frame:=fun _ _ _ st hk=>⟨st.1,hk I (by simp) _ st.2.1,hk S (by simp) _ st.2.2⟩
 item:=fun i s Q E hi st hQ=>by
  have JP:(lV w S ep es).size=es.size:=by
   have:=(lw (w:=w) (S:=S) (ep:=ep) (es:=es)).length_eq;rwa [eJ,eJ] at this
  have he:(lV w S ep es)[i]?=some ((lV w S ep es)[i]'(by rw[JP];exact hi)):=je _;refine Qd st.2.2 hd T DP he st.2.1 fun h' ZF hs'=>?_;exact hQ _ h' s.toks (by rw[he];rfl) ⟨hi,ZF,(hs'.2 S DP).trans st.2.2⟩ fun b o hb e=>hs'.extBut b o (fun h=>hb (by simp[h])) e
 done:=fun s Q E st hQ=>IN hh st.2.2 hd T DP st.2.1 fun h' he'=>hQ h' s.toks fun b o hb e=>he' b o (fun h=>hb (by simp[h])) e
 self:=fun _ _ _ _ st hQ=>Br st.2.1 hQ
theorem UP{o:Obj}{es:Array (Int×Value)}{ep:Nat}{t:SetTable}(y4:o.ExactSet)(hd:o.data=.set es ep t)(T:EM (!bT w) es t):
  KdlSrc prog w "set" S S es.size (fun i v=>((lV w S ep es)[i]?).map (·.2)=some v) (fun h=>h.get? S=some o) where
 type:=fun s h=>⟨o,h,y4.1⟩
 there:=fun h e=>⟨aL e,aL e⟩
 keep:=fun h h' e k=>k S (.inl rfl) _ e
 notList:=by decide
 notTuple:=by decide
 hint:=fun A E s Q e q=>IP ⟨o,e,y4.1⟩ q
 iter:=fun A s hh e=>⟨ZE S 0 0 es.size ep,fun i h=>i<=es.size/\lu h s.heap.objs.size S (jx w t i) i es.size ep/\h.get? S=some o,fun E Q q=>Qc e y4 hd T q,
  LZ hh hd T (aY (aL e)),⟨cr _,bz _ rfl,a8 _ e⟩⟩
theorem EO{o:Obj}{es:Array (Int×Value)}{ep:Nat}{t:SetTable}(hh:A.handled=none)(ho:s.heap.get? S=some o)(y4:o.ExactSet)(hd:o.data=.set es ep t)(T:EM (!bT w) es t){Q:List Value->Shared->Prop}(h:∀h' tk (vs:List Value),(∀b o,s.heap.get? b=some o->h'.get? b=some o)->vs.Perm (es.toList.map (·.2))->Q vs { s with heap:=h',toks:=tk }):wpAny (model prog w) A (collect (.ref S)) Q E s:=by
 have de:=aL ho;have hn:es.size<=sizeLine:=bj (show es.size<=18 by rcases T.ms with ⟨_,z⟩|⟨_,z⟩ <;> lia) (by decide);have JP:(lV w S ep es).size=es.size:=by
  have:=(lw (w:=w) (S:=S) (ep:=ep) (es:=es)).length_eq;rwa [eJ,eJ] at this
 have gen:∀R:Result->Shared->Prop,(∀h' tk yM c',(∀b o,b≠s.heap.objs.size->(s.heap.push { cls:=.type "list",data:=.seq ([]:List Value).toArray }).get? b=some o->h'.get? b=some o)->h'.get? s.heap.objs.size=some { cls:=.type "list",dict:=none,data:=.seq yM c',slots:=#[] }->ItemsOf (fun i v=>((lV w S ep es)[i]?).map (·.2)=some v) yM es.size->R (.ok (.ret (.ref s.heap.objs.size))) { s with heap:=h',toks:=tk })->
   codeAny (model prog w) A (.builtin "proto.collect" ⟨[.ref S],[]⟩) R s:=by
  intro R hR;refine gu PySem.F.entry_proto_collect ?_;rw[jC PySem.F.plain_proto_collect _];show wpAny _ A.in1 (newList [] >>= fun l=>again (.builtin "list.__iadd__" ⟨[l,.ref S],[]⟩)) _ _ s;refine ai (h_ ?_);refine wpAny_pure ⟨rS PySem.F.plain_list_iadd _,gu PySem.F.entry_list_iadd ?_⟩;rw[jC PySem.F.plain_list_iadd _];show wpAny _ A.in1 (Builtin.List.listExtendWith (.ref s.heap.objs.size) (.ref S) (.ref s.heap.objs.size)) _ _ _;exact kdl_extend (prog:=prog) (w:=w) (R:=R) (s:={ s with heap:=s.heap.push { cls:=.type "list",data:=.seq ([]:List Value).toArray } }) (A:=A) (UP y4 hd T) hh (show _=some o from a8 _ ho) s.heap.objs.size (ig de) (ig de) _ 0 (bz _ rfl) (fun h' tk yM c' k ZG ia=>hR h' tk yM c' k ZG ia) hn
 unfold collect;refine ai (v6 (gen _ fun h' tk yM c' k ZG ia=>?_));show wpAny _ A (load s.heap.objs.size >>= _) _ _ _;refine ai (wpAny_load ZG ?_);refine wpAny_pure (h h' tk _ (fun b o' e=>k b o' (aY (aL e)) (a8 _ e)) ?_);have eq:yM.toList=(lV w S ep es).toList.map (·.2):=by
  apply mm;intro i;rw[bJ,nG,nG];rcases fG i es.size with z|z
  .have hv:yM[i]?=some (yM[i]'(by rw[ia.1];exact z)):=je _;rw[hv];exact(ia.2 i _ hv).symm
  .rw[vF (by rw[ia.1];exact z),vF (by rw[JP];exact z)];rfl
 rw[eq];exact lw.map _
theorem Df:∀ {vs:List Value},(∀v∈vs,∃i t,v=Value.int i t)->IntsAre vs (vs.map iv)
 |[],_=>.nil
 |v::vs,h=>by
  obtain⟨i,t,rfl⟩:=h v bV;exact .cons i t (Df fun u hu=>h u (bU _ hu))
theorem Bu{ks:List Int}{Q:Value->Shared->Prop}(hh:A.handled=none)(hS:SI prog w s.heap S ks)(h:∀l h' tk (out:Array Value) e (Ih:List Int),s.heap.get? l=none->(∀b o,s.heap.get? b=some o->h'.get? b=some o)->h'.get? l=some (seqObj "list" out e)->IntsAre out.toList Ih->Ih.Perm ks->Q (.ref l) { s with heap:=h',toks:=tk }):
  wpAny (model prog w) A (call (.builtin "sorted") [.ref S]) Q E s:=by
 obtain⟨o,es,ep,t,ho,y4,hd,Nv,T,pk⟩:=hS;refine Calls.call_function_entry kind_sorted plain_sorted entry_sorted (args_sorted1 _) ?_;unfold Builtin.«sorted»;refine ai (m:=checkCount "sorted" 1 1 _) (wpAny_pure ?_);refine ai (EO (A:=A.in1) (prog:=prog) (w:=w) hh ho y4 hd T fun h1 tk vs k pv=>?_);have hvs:∀v∈vs,∃i t,v=Value.int i t:=fun v hv=>by
  obtain⟨e,he,rfl⟩:=a9.mp (pv.mem_iff.mp hv);obtain⟨⟨k,hk,_⟩,_⟩:=Nv e he;obtain⟨t,ht⟩:=z4 hk;exact⟨k,t,ht⟩
 have cY:vs.length<64:=by
  rw[pv.length_eq,aP,eJ];rcases T.ms with ⟨_,z⟩|⟨_,z⟩ <;> lia
 refine ai (wpAny_newList ?_);have E6:(h1.push (seqObj "list" vs.toArray 0)).get? h1.objs.size=some (seqObj "list" vs.toArray 0):=bz _ rfl;show wpAny _ _ _ _ _ { s with heap:=h1.push (seqObj "list" vs.toArray 0),toks:=tk };refine ai (gs (gn slot_list_sort ⟨_,E6,rfl⟩ entry_list_sort (list_sort_tree (s:={ s with heap:=h1.push (seqObj "list" vs.toArray 0),toks:=tk }) E6 (Df hvs) cY fun out Ih a1 a2 a3=>⟨_,rfl,?_⟩) (args_list_sort _)));obtain⟨e,he⟩:=sortedHeap_at (out:=out) E6;have free:s.heap.get? h1.objs.size=none:=by
  cases q:s.heap.get? h1.objs.size with
  |none=>rfl
  |some u=>exact absurd (aL (k _ _ q)) (ie _)
 refine wpAny_pure ⟨_,rfl,h h1.objs.size _ tk out e Ih free (fun b u eb=>?_) he a1 ?_⟩
 .have hb:=k b u eb;have de:=aL hb;rw[sortedHeap_old (aY de) (by rw[kH];exact dN de)];exact a8 _ hb
 .refine a2.trans ((pv.map iv).trans ?_);rw[fj];exact pk
end
def tZ(P:Program)(w:World)(S:Addr)(ks:List Int):HO:=.ext fun h=>SI P w h S ks
section
variable {X:Cx}
def UQ(X:Cx):List V->Hp->VK->Prop:=fun xs H Q=>∃ (l:Addr) (ns:List Int),xs=[.ref l]/\bo X.K H l (ns.map V.int)/\ns.length<=17/\∀D,H D=none->Q (.ref D) (upd H D (tZ X.prog X.w D (iV ns)))
theorem Bv(hc:X.calm=true):fm X (.type "set") (UQ X):=by
 intro ae s σ H xs us Q I r h;obtain⟨l,ns,rfl,hl,Wq,q⟩:=h;obtain⟨u1,rfl,r1⟩:=r.one;obtain rfl:u1=Value.ref l:=r1;obtain⟨its,rv,pl,_⟩:=I.list hl;refine EN (I.ok.hd hc) pl.isList (sj rv) Wq fun h' tk S' k=>?_;refine⟨.ref s.heap.objs.size,_,I.xQ (t':=tk) (o:=tZ X.prog X.w s.heap.objs.size (iV ns)) (fun b u e=>k b u (aL e) e) (rA (aX _)) ⟨S',?_,fun h1 h2 z kk=>z.keep kk⟩,rfl,q _ I.fresh⟩;obtain⟨o,_,_,_,q1,_⟩:=S';exact⟨o,q1⟩
def Qe(X:Cx):List V->Hp->VK->Prop:=fun xs H Q=>∃ (S:Addr) (ks:List Int),xs=[.ref S]/\H S=some (tZ X.prog X.w S ks)/\ks.length<=17/\∀ (D:Addr) (Ih:List Int),H D=none->Ih.Perm ks->Q (.ref D) (upd H D (.lst (Ih.map V.int)))
theorem Bw(hc:X.calm=true):fm X (.builtin "sorted") (Qe X):=by
 intro ae s σ H xs us Q I r h;obtain⟨S,ks,rfl,hS,h17,q⟩:=h;obtain⟨u1,rfl,r1⟩:=r.one;obtain rfl:u1=Value.ref S:=r1;obtain⟨S',_⟩:=(show ce X.prog X.w H s.heap S (tZ X.prog X.w S ks) from I.cf S _ hS)
 refine Bu (I.ok.hd hc) S' fun l h' tk out e Ih free keep ho a1 a2=>?_;have eo:out=out.toList.toArray:=by simp
 refine⟨.ref l,_,I.xQ (t':=tk) (o:=.lst (Ih.map V.int)) keep free ⟨?_,out.toList,e,pC a1,by rw[ho]⟩,rfl,q _ Ih (I.cf.su free) a2⟩;rw[aP,a2.length_eq];exact bj h17 (by decide)
end
theorem IQ{hi:Int}{n:Nat}{g:TG}{tb:TS}{D:uy}{σ:St}{H:Hp}(Pv:Nat->St->Hp->Prop)(h0:Pv 0 σ H)(hs:∀i σ H,i<n->Pv i σ H->g (.int (hi-i)) σ H fun σ2 H2=>tb { D with nx:=Pv (i+1),ct:=Pv (i+1),bk:=D.nx } σ2 H2)(hd:∀σ H,Pv n σ H->D.nx σ H):
  ∃W:Nat->Nat->St->Hp->Prop,(∃m,W 0 m σ H)/\∀i m σ H,W i m σ H->
   ((UJ hi n).stop i H/\D.nx σ H)\/((UJ hi n).go i H/\∃N:St->Hp->Prop,(∀σ' H',N σ' H'->∃m',m'<m/\W (i+1) m' σ' H')/\∀x H',(UJ hi n).FF i H x H'->g x σ H' fun σ2 H2=>tb { D with nx:=N,ct:=N,bk:=D.nx } σ2 H2):=by
 refine⟨fun i m σ H=>m=n-i/\i<=n/\Pv i σ H,⟨n,by simp,cr _,h0⟩,?_⟩;rintro i m σ H ⟨rfl,hi,p⟩;by_cases de:i<n
 .refine .inr ⟨de,Pv (i+1),fun σ' H' p'=>⟨n-(i+1),by lia,rfl,de,p'⟩,fun x H' y=>?_⟩;obtain⟨e,y⟩:=y;subst e y;exact hs i σ _ de p
 .have e:i=n:=by lia
  subst e;exact .inl ⟨aX _,hd σ H p⟩
section
variable {X:Cx} {tg:Expr}
def Qf(tl:TE):TI:=fun σ H R=>tl σ H fun x H1=>∃d kvs,x=.ref d/\Rd H1 d (.dK kvs)/\∀o H2,H2 d=some (.mC o (.dK kvs))->(∀b,b≠d->H2 b=H1 b)->R (Wv d o kvs) H2
theorem IR{l:Expr}{tl:TE}(hl:PE X l tl):PI X tg l (Qf tl):=by
 intro ae s σ H R I h;refine cy (hl ae s σ H _ I h) fun v s1 ⟨x,H1,I1,r1,q1⟩=>?_;obtain⟨d,kvs,e,hd,q⟩:=q1;subst e;cases r1;have cH:∀ (o:Obj) (H2:Hp),aG X ae σ H2 s1->H2 d=some (.mC o (.dK kvs))->(∀b,b≠d->H2 b=H1 b)->wpAny (model X.prog X.w) X.A (pyIter (.ref d)) (W_ X ae σ tg R) X.xe s1:=by
  intro o H2 I2 h2 k2;obtain⟨ho,z,hS,vs,kv,o',es,ep,g1,g2,g3,g4,g5,g6⟩:=I2.cf d _ h2;rw[ho] at g1;cases g1;have hm:s1.heap.DictAt (dD X.prog X.w) d vs ep:=⟨o,es,ho,g2,g3,g4,g5,g6⟩
  refine wpAny_pyIter_dict hS hm ?_;refine⟨s1.heap.objs.size,[s1.heap.objs.size],_,_,_,rfl,I2.kept (t':=s1.toks) fun b o e=>a8 _ e,Ea d _ o kvs es ep g3,⟨_,bz _ rfl,rfl,by rw[kv.length];rfl⟩,fun b hb=>?_,q o H2 h2 k2⟩;have e:b=s1.heap.objs.size:=by simpa using hb
  subst e;exact I2.uB (aX _) (I2.cf.fresh (aX _))
 rcases hd with hd|⟨o,hd⟩
 .obtain⟨z,hS,vs,kv,o,es,ep,g1,g2,g3,g4,g5,g6⟩:=M9 I1.cf hd;exact cH o _ (I1.freeze hd g1 ⟨(fun _ z=>by cases z),(fun _ _ z=>by cases z),(fun _ z=>by cases z),(fun _ z=>by cases z)⟩) ag fun b hb=>al hb
 .exact cH o H1 I1 hd fun b _=>rfl
end
theorem EQ{d D:Addr}{o:Obj}{kvs:List (fR×V)}{g:TG}{tt:TT}{te:TE}{cH:Hp->Prop}{σB:St}{H0:Hp}(Pv:Nat->List V->St->Hp->Prop)(h0:Pv 0 [] σB H0)(hl:∀i ys σ H,i<=kvs.length->Pv i ys σ H->H d=some (.mC o (.dK kvs)))(hs:∀i k v ys σ H (Kt:V->St->Hp->Prop) (Kf:St->Hp->Prop),kvs[i]?=some (k,v)->Pv i ys σ H->
   (∀v σ2 H4,H4 D=some (.lst ys)->ys.length<sizeLine->Pv (i+1) (ys++[v]) σ2 (upd H4 D (.lst (ys++[v])))->Kt v σ2 H4)->(∀σ2 H3,Pv (i+1) ys σ2 H3->Kf σ2 H3)->
   g (kV k) σ H fun σ2 H2=>tt σ2 H2 fun b H3=>if b=true then te σ2 H3 fun v H4=>Kt v σ2 H4 else Kf σ2 H3)(hd:∀ys σ H,Pv kvs.length ys σ H->cH H):gR (Wv d o kvs) g tt te D cH σB H0:=by
 refine⟨fun i m σ H=>m=kvs.length-i/\i<=kvs.length/\∃ys,Pv i ys σ H,⟨kvs.length,by simp,cr _,[],h0⟩,?_⟩;rintro i m σ H ⟨rfl,hi,ys,p⟩;have q:=hl i ys σ H hi p;by_cases de:i<kvs.length
 .refine .inr ⟨⟨q,de⟩,?_⟩;rintro x H' ⟨rfl,k,v,hk,rfl⟩;exact hs i k v ys σ _ (fun v σ2 H4=>∃ys,H4 D=some (.lst ys)/\ys.length<sizeLine/\∃m',m'<kvs.length-i/\m'=kvs.length-(i+1)/\i+1<=kvs.length/\∃pI,Pv (i+1) pI σ2 (upd H4 D (.lst (ys++[v]))))
   (fun σ2 H3=>∃m',m'<kvs.length-i/\m'=kvs.length-(i+1)/\i+1<=kvs.length/\∃pI,Pv (i+1) pI σ2 H3) hk p
   (fun v σ2 H4 z1 z2 z3=>⟨ys,z1,z2,_,by lia,rfl,de,_,z3⟩) (fun σ2 H3 z=>⟨_,by lia,rfl,de,_,z⟩)
 .have e:i=kvs.length:=by lia
  subst e;exact .inl ⟨⟨q,aX _⟩,hd ys σ H p⟩
theorem By{K:PySem.W.Frag}{a D:Addr}{xs:List V}{g:TG}{tt:TT}{tk tv:TE}{cH:Hp->Prop}{σB:St}{H0:Hp}(Pv:Nat->List (fR×V)->St->Hp->Prop)(h0:Pv 0 [] σB H0)(hl:∀i kvs σ H,i<=xs.length->Pv i kvs σ H->bo K H a xs)(hs:∀i x kvs σ H (Kt:V->V->St->Hp->Prop) (Kf:St->Hp->Prop),xs[i]?=some x->Pv i kvs σ H->
   (∀k v σ2 H4,H4 D=some (.dK kvs)->kvs.length<sizeLine->Pv (i+1) (pJ kvs k v) σ2 (upd H4 D (.dK (pJ kvs k v)))->Kt (kV k) v σ2 H4)->(∀σ2 H3,Pv (i+1) kvs σ2 H3->Kf σ2 H3)->
   g x σ H fun σ2 H2=>tt σ2 H2 fun b H3=>if b=true then tk σ2 H3 fun y H4=>tv σ2 H4 fun v H5=>Kt y v σ2 H5 else Kf σ2 H3)(hd:∀kvs σ H,Pv xs.length kvs σ H->cH H):yF (FG K a) g tt tk tv D cH σB H0:=by
 refine⟨fun i m σ H=>m=xs.length-i/\i<=xs.length/\∃kvs,Pv i kvs σ H,⟨xs.length,by simp,cr _,[],h0⟩,?_⟩;rintro i m σ H ⟨rfl,hi,ys,p⟩;have q:=hl i ys σ H hi p;by_cases de:i<xs.length
 .refine .inr ⟨⟨xs,xs[i],q,by simp[de]⟩,?_⟩;rintro x H' ⟨rfl,y⟩;exact hs i x ys σ _ (fun y v σ2 H4=>∃kvs k,H4 D=some (.dK kvs)/\y=kV k/\kvs.length<sizeLine/\∃m',m'<xs.length-i/\m'=xs.length-(i+1)/\i+1<=xs.length/\∃ZH,Pv (i+1) ZH σ2 (upd H4 D (.dK (pJ kvs k v))))
   (fun σ2 H3=>∃m',m'<xs.length-i/\m'=xs.length-(i+1)/\i+1<=xs.length/\∃pI,Pv (i+1) pI σ2 H3) (y xs q) p
   (fun k v σ2 H4 z1 z2 z3=>⟨ys,k,z1,rfl,z2,_,by lia,rfl,de,_,z3⟩) (fun σ2 H3 z=>⟨_,by lia,rfl,de,_,z⟩)
 .have e:i=xs.length:=by lia
  subst e;exact .inl ⟨⟨xs,q,aX _⟩,hd ys σ H p⟩
end L2
namespace jR
theorem UR{p q:Prop}[Decidable p][Decidable q]{α:Type}{a b:α}(h:p↔q):(if p then a else b)=if q then a else b:=by
 by_cases c:p
 .rw[ak c,ak (h.mp c)]
 .rw[aq c,aq (fun z=>c (h.mpr z))]
abbrev Gf:=Nat->Option Nat
def sg(g:Gf)(i y:Nat):Gf:=fun j=>if j=i then some y else g j
theorem jY{g:Gf}{i y:Nat}:sg g i y i=some y:=ak rfl
theorem on{g:Gf}{i y j:Nat}(h:j≠i):sg g i y j=g j:=aq h
def uJ(W:Nat->Nat)(s:Gf×List Nat)(i:Nat):Gf×List Nat:=if W i∈s.2 then (sg s.1 i (W i),s.2.erase (W i)) else s
def jd(c:Nat->Nat)(s:Gf×List Nat)(i:Nat):Gf×List Nat:=
 if s.1 i=none then (if c i∈s.2 then (sg s.1 i (c i),s.2.erase (c i)) else (sg s.1 i (s.2.headD 0),s.2.erase (s.2.headD 0))) else s
def FT(W:Nat->Nat)(ls T:List Nat)(g:Gf):Gf:=fun i=>if W i∈T/\ls.find? (fun j=>decide (W j=W i))=some i then some (W i) else g i
def FR(W:Nat->Nat)(ls T:List Nat):List Nat:=T.filter fun t=>decide (∀j∈ls,W j≠t)
theorem iW(W:Nat->Nat):∀ (ls T:List Nat) (g:Gf),T.Nodup->ls.foldl (uJ W) (g,T)=(FT W ls T g,FR W ls T)
 |[],T,g,_=>by
  show (g,T)=_;refine gy (funext fun i=>?_) ?_
  .show g i=if _ then _ else _
   rw[aq (fun z=>(nomatch z.2))]
  .show T=T.filter _;exact(List.filter_eq_self.mpr fun t _=>bn fun j hj=>(nomatch hj)).symm
 |i0::ls,T,g,nd=>by
  rw[iJ];by_cases c:W i0∈T
  .rw[show uJ W (g,T) i0=(sg g i0 (W i0),T.erase (W i0)) from ak c,iW W ls _ _ (nd.erase _)];have ne:W i0∉T.erase (W i0):=fun z=>((nd.mem_erase_iff).mp z).1 rfl;refine gy (funext fun i=>?_) ?_
   .show (if _ then _ else _)=if _ then _ else _
    by_cases e:W i0=W i
    .rw[aq (by rw[<-e];exact fun z=>ne z.1),List.find?_cons_of_pos (by rw[e];exact bn rfl)];by_cases ei:i=i0
     .subst ei;rw[jY,ak ⟨c,rfl⟩]
     .rw[on ei,aq (fun z=>ei (bg z.2).symm)]
    .have ei:i≠i0:=fun z=>e (by rw[z]);rw[List.find?_cons_of_neg (by simpa using e),on ei];exact UR (by rw[rq (ck e)])
   .show (T.erase (W i0)).filter _=T.filter _;rw[nd.erase_eq_filter,List.filter_filter];refine zK fun t _=>?_;rw[im,gP,iG,iG,bne_iff_ne];constructor
    .rintro⟨h1,h2⟩ j hj;rcases aV.mp hj with rfl|hj
     .exact fun e=>h2 e.symm
     .exact h1 j hj
    .exact fun h=>⟨fun j hj=>h j (bU _ hj),fun e=>h i0 bV e.symm⟩
  .rw[show uJ W (g,T) i0=(g,T) from aq c,iW W ls _ _ nd];refine gy (funext fun i=>?_) ?_
   .show (if _ then _ else _)=if _ then _ else _
    by_cases e:W i0=W i
    .rw[aq (by rw[<-e];exact fun z=>c z.1),aq (by rw[<-e];exact fun z=>c z.1)]
    .rw[List.find?_cons_of_neg (by simpa using e)]
   .show T.filter _=T.filter _;refine zK fun t ht=>?_;rw[im,iG,iG];constructor
    .intro h1 j hj;rcases aV.mp hj with rfl|hj
     .exact fun e=>c (e ▸ ht)
     .exact h1 j hj
    .exact fun h j hj=>h j (bU _ hj)
structure KI(c:Nat->Nat)(bZ:List Nat)(s:Gf×List Nat):Prop where
 nd:bZ.Nodup
 fn:s.2.Nodup
 l2:s.2.length<=2
 ct:(bZ.filter fun i=>decide (s.1 i=none)).length<=s.2.length
 co:s.2.length=2->∀i∈bZ,s.1 i=none->c i∈s.2
theorem KI.skip{c:Nat->Nat}{i:Nat}{bZ:List Nat}{s:Gf×List Nat}(K:KI c (i::bZ) s)(h:s.1 i≠none):KI c bZ s:=
 ⟨(dq.mp K.nd).2,K.fn,K.l2,by have:=K.ct;rwa [List.filter_cons_of_neg (by simpa using h)] at this,fun z j hj=>K.co z j (bU _ hj)⟩
theorem KI.take{c:Nat->Nat}{i y:Nat}{bZ:List Nat}{s:Gf×List Nat}(K:KI c (i::bZ) s)(h:s.1 i=none)(hy:y∈s.2):KI c bZ (sg s.1 i y,s.2.erase y):=by
 obtain⟨n1,n2⟩:=dq.mp K.nd;have ct:=K.ct;rw[List.filter_cons_of_pos (p:=fun i=>decide (s.1 i=none)) (bn h),cQ] at ct;have le:=rd hy;have l2:=K.l2;have ef:(bZ.filter fun j=>decide (sg s.1 i y j=none))=bZ.filter fun j=>decide (s.1 j=none):=zK fun j hj=>by rw[on (fun (e:j=i)=>n1 (e ▸ hj))]
 refine⟨n2,K.fn.erase _,by show (s.2.erase y).length<=2;lia,?_,fun z=>?_⟩
 .show (bZ.filter fun j=>decide (sg s.1 i y j=none)).length<=(s.2.erase y).length;rw[ef];lia
 .have z:(s.2.erase y).length=2:=z;lia
theorem KI.head{c:Nat->Nat}{i:Nat}{bZ:List Nat}{s:Gf×List Nat}(K:KI c (i::bZ) s)(h:s.1 i=none)(hc:c i∉s.2):∃y,s.2=[y]:=by
 have ct:=K.ct;rw[List.filter_cons_of_pos (p:=fun i=>decide (s.1 i=none)) (bn h),cQ] at ct;have l2:=K.l2;have h1:s.2.length=1:=by
  rcases fG s.2.length 2 with z|z
  .lia
  .exact absurd (K.co (by lia) i bV h) hc
 match e:s.2,h1 with
 |[y],_=>exact⟨y,rfl⟩
theorem KI.step{c:Nat->Nat}{i:Nat}{bZ:List Nat}{s:Gf×List Nat}(K:KI c (i::bZ) s):KI c bZ (jd c s i)/\(jd c s i).1 i≠none/\∀s':Gf×List Nat,s'.1=s.1->s'.2.Perm s.2->(jd c s' i).1=(jd c s i).1/\(jd c s' i).2.Perm (jd c s i).2:=by
 unfold jd;by_cases h:s.1 i=none
 .rw[ak h];by_cases hc:c i∈s.2
  .rw[ak hc];refine⟨K.take h hc,(fun z=>by have z:sg s.1 i _ i=none:=z;rw[jY] at z;cases z),fun s' e p=>?_⟩;rw[e,ak h,ak (p.mem_iff.mpr hc)];exact⟨rfl,p.erase _⟩
  .rw[aq hc];obtain⟨y,ey⟩:=K.head h hc;have hy:s.2.headD 0=y:=by rw[ey];rfl
   rw[hy];refine⟨K.take h (by rw[ey];exact bV),(fun z=>by have z:sg s.1 i _ i=none:=z;rw[jY] at z;cases z),fun s' e p=>?_⟩;have e2:s'.2=s.2:=by rw[ey] at p |-;exact List.perm_singleton.mp p
   rw[e,ak h,e2,aq hc,hy];exact⟨rfl,.refl _⟩
 .rw[aq h];refine⟨K.skip h,h,fun s' e p=>?_⟩;rw[e,aq h];exact⟨e,p⟩
theorem yN{c:Nat->Nat}{s:Gf×List Nat}{i j:Nat}(h:s.1 j≠none):(jd c s i).1 j=s.1 j:=by
 unfold jd;by_cases h0:s.1 i=none
 .have ne:j≠i:=fun e=>h (e ▸ h0);rw[ak h0];split
  .exact on ne
  .exact on ne
 .rw[aq h0]
theorem pT{c:Nat->Nat}:∀ (bZ:List Nat) (s:Gf×List Nat) (j:Nat),s.1 j≠none->(bZ.foldl (jd c) s).1 j=s.1 j
 |[],s,j,_=>rfl
 |i::bZ,s,j,h=>by
  rw[iJ,pT bZ _ j (by rw[yN h];exact h),yN h]
theorem pU{c:Nat->Nat}:∀ (bZ:List Nat) (s:Gf×List Nat) (j:Nat),j∉bZ->(bZ.foldl (jd c) s).1 j=s.1 j
 |[],s,j,_=>rfl
 |i::bZ,s,j,h=>by
  rw[iJ,pU bZ _ j (fun z=>h (bU _ z))];have ne:j≠i:=fun e=>h (e ▸ bV);unfold jd;split
  .split <;> exact on ne
  .rfl
theorem Dg{c:Nat->Nat}:∀ (bZ:List Nat) (s:Gf×List Nat) (y:Nat),y∈(bZ.foldl (jd c) s).2->y∈s.2
 |[],s,y,h=>h
 |i::bZ,s,y,h=>by
  rw[iJ] at h;have:=Dg bZ _ y h;unfold jd at this;split at this
  .split at this <;> exact zi this
  .exact this
theorem IS{c:Nat->Nat}:∀ (bZ:List Nat) (s:Gf×List Nat),s.2.Nodup->(bZ.foldl (jd c) s).2.Nodup
 |[],s,h=>h
 |i::bZ,s,h=>by
  rw[iJ];refine IS bZ _ ?_;unfold jd;split
  .split <;> exact h.erase _
  .exact h
theorem kst_all{c:Nat->Nat}:∀ (bZ:List Nat) (s:Gf×List Nat),KI c bZ s->(∀i∈bZ,(bZ.foldl (jd c) s).1 i≠none)/\∀s':Gf×List Nat,s'.1=s.1->s'.2.Perm s.2->(bZ.foldl (jd c) s').1=(bZ.foldl (jd c) s).1/\(bZ.foldl (jd c) s').2.Perm (bZ.foldl (jd c) s).2
 |[],s,_=>⟨fun i h=>(nomatch h),fun s' e p=>⟨e,p⟩⟩
 |i::bZ,s,K=>by
  obtain⟨K1,n1,r1⟩:=K.step;obtain⟨a1,a2⟩:=kst_all bZ _ K1;refine⟨fun j hj=>?_,fun s' e p=>?_⟩
  .rcases aV.mp hj with rfl|hj
   .rw[iJ,pT bZ _ _ n1];exact n1
   .exact a1 j hj
  .obtain⟨e1,p1⟩:=r1 s' e p;exact a2 _ e1 p1
theorem Nw{α:Type}{p q:α->Bool}(h:∀x,p x=true->q x=true->False):∀l:List α,(l.filter p).length+(l.filter q).length<=l.length
 |[]=>aX _
 |x::l=>by
  have ih:=Nw h l;rw[e8,e8,cQ];by_cases c1:p x=true
  .by_cases c2:q x=true
   .exact(h x c1 c2).elim
   .rw[ak c1,aq c2,cQ];lia
  .rw[aq c1];split
   .rw[cQ];lia
   .lia
theorem Nx{α:Type}{p:α->Bool}:∀l:List α,l.length=(l.filter p).length+(l.filter fun x=>!p x).length
 |[]=>rfl
 |x::l=>by
  have ih:=Nx (p:=p) l;rw[e8,e8,cQ];cases c:p x <;> simp <;> lia
theorem Dh{α:Type}[DecidableEq α]:∀ {a b:List α},a.Nodup->(∀x∈a,x∈b)->a.length<=b.length
 |[],b,_,_=>cr _
 |x::xs,b,hn,hs=>by
  obtain⟨h1,h2⟩:=dq.mp hn;have hx:x∈b:=hs x bV;have:=Dh (b:=b.erase x) h2 fun y hy=>(rq (fun (e:y=x)=>h1 (e ▸ hy))).mpr (hs y (bU _ hy));rw[rd hx] at this;have:0<b.length:=vE hx;rw[cQ];lia
theorem IT{W c:Nat->Nat}{own T:List Nat}{g:Gf}(nd:own.Nodup)(tn:T.Nodup)(t2:T.length<=2)(hc:∀i∈own,c i∈T)(inj:∀i∈own,∀j∈own,c i=c j->i=j):KI c own (FT W own T g,FR W own T):=by
 have fl:(FR W own T).length<=T.length:=ji _ _;refine⟨nd,tn.filter _,bj fl t2,?_,fun z i hi _=>?_⟩
 .have o1:own.length<=T.length:=by
   have:=Dh (a:=own.map c) (b:=T) ?_ (fun x hx=>by obtain⟨i,hi,rfl⟩:=a9.mp hx;exact hc i hi)
   .rwa [aP] at this
   .unfold List.Nodup;rw[j5];exact nd.imp_of_mem fun {a b} ha hb ne e=>ne (inj a ha b hb e)
  have o2:=Nw (p:=fun i=>decide (FT W own T g i=none)) (q:=fun i=>decide (W i∈T/\own.find? (fun j=>decide (W j=W i))=some i)) (fun x h1 h2=>by
   have h1:=dM h1;have h2:=dM h2;unfold FT at h1;rw[ak h2] at h1;cases h1) own
  have o3:=Nx (p:=fun t=>decide (∀j∈own,W j≠t)) T;have o4:=Dh (a:=T.filter fun t=>!decide (∀j∈own,W j≠t)) (b:=(own.filter fun i=>decide (W i∈T/\own.find? (fun j=>decide (W j=W i))=some i)).map W) (tn.filter _) fun t ht=>by
   obtain⟨h1,h2⟩:=bE.mp ht;have h2:∃j∈own,W j=t:=by
    refine y_ fun z=>?_;rw[bn (show ∀j∈own,W j≠t from fun j hj e=>z ⟨j,hj,e⟩)] at h2;cases h2
   obtain⟨j,hj,ej⟩:=h2;cases ec:own.find? (fun i=>decide (W i=t)) with
   |none=>exact absurd ej (by simpa using vM.mp ec j hj)
   |some i=>
    have wi:W i=t:=by simpa using zW ec
    exact a9.mpr ⟨i,bE.mpr ⟨y8 ec,bn ⟨by rw[wi];exact h1,by rw[wi];exact ec⟩⟩,wi⟩
  rw[aP] at o4;show (own.filter fun i=>decide (FT W own T g i=none)).length<=(FR W own T).length;unfold FR;lia
 .have z:(FR W own T).length=2:=z;have e:FR W own T=T:=(vJ (p:=fun t=>decide (∀j∈own,W j≠t)) (l:=T)).eq_of_length (show (FR W own T).length=T.length by lia);show c i∈FR W own T;rw[e];exact hc i hi
structure HA(d:Nat)(here:List Nat)(W c p l:Nat->Nat)(T:Nat->List Nat):Prop where
 nd:here.Nodup
 hw:∀i∈here,∀k,k<d->(W i∈T k↔p i=k)
 hc:∀i∈here,∀k,k<d->(c i∈T k↔l i=k)
 le:∀i∈here,l i<=p i/\p i<d
 inj:∀i∈here,∀j∈here,c i=c j->i=j
 tn:∀k,k<d->(T k).Nodup/\(T k).length<=2
def d8(here:List Nat)(l:Nat->Nat)(k:Nat):List Nat:=here.filter fun i=>decide (l i=k)
def xg(here:List Nat)(l:Nat->Nat)(k:Nat):List Nat:=here.filter fun i=>decide (l i<k)
def t9(here:List Nat)(W c l:Nat->Nat)(T:List Nat)(k:Nat)(g:Gf):Gf:=((xg here l k).foldl (uJ W) ((d8 here l k).foldl (jd c) ((d8 here l k).foldl (uJ W) (g,T)))).1
structure JI(here:List Nat)(p l:Nat->Nat)(k:Nat)(g:Gf):Prop where
 lo:∀i∈here,g i≠none->k<=p i
 hi:∀i∈here,k<=l i->g i≠none
section
variable {d:Nat} {here:List Nat} {W c p l:Nat->Nat} {T:Nat->List Nat}
theorem HA.own(A:HA d here W c p l T){k:Nat}(hk:k<d){g:Gf}:KI c (d8 here l k) (FT W (d8 here l k) (T k) g,FR W (d8 here l k) (T k)):=
 IT (A.nd.filter _) (A.tn k hk).1 (A.tn k hk).2 (fun i hi=>(A.hc i (bE.mp hi).1 k hk).mpr (dM (bE.mp hi).2)) fun i hi j hj=>A.inj i (bE.mp hi).1 j (bE.mp hj).1
theorem xh{ls T:List Nat}{g:Gf}{i:Nat}(h:g i≠none):FT W ls T g i≠none:=by
 unfold FT;split
 .exact fun z=>(nomatch z)
 .exact h
theorem yO{ls T:List Nat}{g:Gf}{i:Nat}:(W i∈T/\i∈ls/\FT W ls T g i=some (W i))\/FT W ls T g i=g i:=by
 unfold FT;split
 .rename_i h;exact .inl ⟨h.1,y8 h.2,rfl⟩
 .exact .inr rfl
theorem JI.step(A:HA d here W c p l T){k:Nat}(hk:k<d){g:Gf}(J:JI here p l (k+1) g):JI here p l k (t9 here W c l (T k) k g):=by
 have K:=A.own hk (g:=g);obtain⟨ka,_⟩:=kst_all _ _ K;have e1:=iW W (d8 here l k) (T k) g (A.tn k hk).1;have fn:((d8 here l k).foldl (jd c) (FT W (d8 here l k) (T k) g,FR W (d8 here l k) (T k))).2.Nodup:=IS _ _ ((A.tn k hk).1.filter _);have e2:=iW W (xg here l k) _ ((d8 here l k).foldl (jd c) (FT W (d8 here l k) (T k) g,FR W (d8 here l k) (T k))).1 fn;have e:t9 here W c l (T k) k g=FT W (xg here l k) ((d8 here l k).foldl (jd c) (FT W (d8 here l k) (T k) g,FR W (d8 here l k) (T k))).2 ((d8 here l k).foldl (jd c) (FT W (d8 here l k) (T k) g,FR W (d8 here l k) (T k))).1:=by
  unfold t9;rw[e1,e2]
 refine⟨fun i hi h=>?_,fun i hi h=>?_⟩
 .have hp:W i∈T k->k<=p i:=fun z=>oW ((A.hw i hi k hk).mp z).symm;rw[e] at h;rcases yO (W:=W) (ls:=xg here l k) (T:=((d8 here l k).foldl (jd c) (FT W (d8 here l k) (T k) g,FR W (d8 here l k) (T k))).2) (g:=((d8 here l k).foldl (jd c) (FT W (d8 here l k) (T k) g,FR W (d8 here l k) (T k))).1) (i:=i) with ⟨z,_,_⟩|z
  .exact hp (bE.mp (Dg _ _ _ z)).1
  .rw[z] at h;by_cases o:i∈d8 here l k
   .have:=(A.le i hi).1;have:=dM (bE.mp o).2;lia
   .rw[pU _ _ _ o] at h;rcases yO (W:=W) (ls:=d8 here l k) (T:=T k) (g:=g) (i:=i) with ⟨y,_,_⟩|y
    .exact hp y
    .have h:FT W (d8 here l k) (T k) g i≠none:=h;rw[y] at h;have:=J.lo i hi h;lia
 .rw[e];refine xh ?_;by_cases o:i∈d8 here l k
  .exact ka i o
  .have ne:l i≠k:=fun z=>o (bE.mpr ⟨hi,bn z⟩);have hg:=J.hi i hi (by lia);rw[pT _ _ _ (xh hg)];exact xh hg
end
def yP(here:List Nat)(W c l:Nat->Nat)(T:Nat->List Nat)(d:Nat):Nat->Gf->Gf
 |0,g=>g
 |m+1,g=>t9 here W c l (T (d-1-m)) (d-1-m) (yP here W c l T d m g)
theorem JI.all{d:Nat}{here:List Nat}{W c p l:Nat->Nat}{T:Nat->List Nat}(A:HA d here W c p l T){g:Gf}(hg:∀i∈here,g i=none):∀m,m<=d->JI here p l (d-m) (yP here W c l T d m g)
 |0,_=>⟨fun i hi h=>absurd (hg i hi) h,fun i hi h=>by have:=A.le i hi;lia⟩
 |m+1,hm=>by
  have ih:=JI.all A hg m (by lia);rw[show d-m=(d-1-m)+1 by lia] at ih;have:=ih.step A (k:=d-1-m) (by lia);rw[show d-(m+1)=d-1-m by lia];exact this
def WM(S:List Nat)(s s':Gf×List Nat):Prop:=(∀i∈S,s.1 i=s'.1 i)/\s.2=s'.2
theorem Bz{S:List Nat}{g g':Gf}{i y:Nat}(h:∀j∈S,g j=g' j):∀j∈S,sg g i y j=sg g' i y j:=fun j hj=>by
 unfold sg;split
 .rfl
 .exact h j hj
theorem xi{S:List Nat}{W:Nat->Nat}:∀ (ls:List Nat) {s s':Gf×List Nat},WM S s s'->WM S (ls.foldl (uJ W) s) (ls.foldl (uJ W) s')
 |[],s,s',h=>h
 |i::ls,s,s',h=>by
  refine xi ls ?_;unfold uJ;rw[h.2];split
  .exact⟨Bz h.1,rfl⟩
  .exact h
theorem Di{S:List Nat}{c:Nat->Nat}:∀ (ls:List Nat) {s s':Gf×List Nat},(∀i∈ls,i∈S)->WM S s s'->WM S (ls.foldl (jd c) s) (ls.foldl (jd c) s')
 |[],s,s',_,h=>h
 |i::ls,s,s',hs,h=>by
  refine Di ls (fun j hj=>hs j (bU _ hj)) ?_;unfold jd;rw[h.2,h.1 i (hs i bV)];split
  .split
   .exact⟨Bz h.1,rfl⟩
   .exact⟨Bz h.1,rfl⟩
  .exact h
theorem L3{here:List Nat}{W c l:Nat->Nat}{T:List Nat}{k:Nat}{g g':Gf}(h:∀i∈here,g i=g' i):∀i∈here,t9 here W c l T k g i=t9 here W c l T k g' i:=
 (xi (S:=here) _ (Di _ (fun i hi=>(bE.mp hi).1) (xi _ (s:=(g,T)) (s':=(g',T)) ⟨h,rfl⟩))).1
theorem Dj{here:List Nat}{W c l:Nat->Nat}{T:Nat->List Nat}{d:Nat}{g g':Gf}(h:∀i∈here,g i=g' i):∀m,∀i∈here,yP here W c l T d m g i=yP here W c l T d m g' i
 |0=>h
 |m+1=>L3 (Dj h m)
theorem xj{W:Nat->Nat}{i:Nat}:∀ (ls:List Nat) (s:Gf×List Nat),i∉ls->(ls.foldl (uJ W) s).1 i=s.1 i
 |[],s,_=>rfl
 |j::ls,s,h=>by
  rw[iJ,xj ls _ (fun z=>h (bU _ z))];unfold uJ;split
  .exact on fun e=>h (e ▸ bV)
  .rfl
theorem L4{here:List Nat}{W c l:Nat->Nat}{T:List Nat}{k:Nat}{g:Gf}{i:Nat}(h:i∉here):t9 here W c l T k g i=g i:=by
 unfold t9 xg d8;rw[xj _ _ (fun z=>h (bE.mp z).1),pU _ _ _ (fun z=>h (bE.mp z).1),xj _ _ (fun z=>h (bE.mp z).1)]
theorem Dk{here:List Nat}{W c l:Nat->Nat}{T:Nat->List Nat}{d:Nat}{g:Gf}{i:Nat}(h:i∉here):∀m,yP here W c l T d m g i=g i
 |0=>rfl
 |m+1=>(L4 h).trans (Dk h m)
structure SI(d:Nat)(here:List Nat)(W l:Nat->Nat)(T:Nat->List Nat)(k:Nat)(s:Gf×List Nat):Prop where
 fn:s.2.Nodup
 fs:∀y∈s.2,y∈T k
 fr:∀i∈here,∀y,s.1 i=some y->y∉s.2
 ty:∀i∈here,∀y,s.1 i=some y->∃q,k<=q/\q<d/\y∈T q/\(y=W i\/l i=q)
 inj:∀i∈here,∀j∈here,∀y,s.1 i=some y->s.1 j=some y->i=j
structure JT(d:Nat)(here:List Nat)(W l:Nat->Nat)(T:Nat->List Nat)(k:Nat)(g:Gf):Prop where
 ty:∀i∈here,∀y,g i=some y->∃q,k<=q/\q<d/\y∈T q/\(y=W i\/l i=q)
 inj:∀i∈here,∀j∈here,∀y,g i=some y->g j=some y->i=j
section
variable {d k:Nat} {here:List Nat} {W c p l:Nat->Nat} {T:Nat->List Nat} {s:Gf×List Nat} {g:Gf}
theorem SI.jt(S:SI d here W l T k s):JT d here W l T k s.1:=⟨S.ty,S.inj⟩
theorem SI.take(S:SI d here W l T k s)(hk:k<d){i y:Nat}(hi:i∈here)(hy:y∈s.2)(h:y=W i\/l i=k):SI d here W l T k (sg s.1 i y,s.2.erase y):=by
 have at_:∀ {j z:Nat},sg s.1 i y j=some z->(j=i/\z=y)\/(j≠i/\s.1 j=some z):=fun {j z} e=>by
  by_cases c:j=i
  .subst c;rw[jY] at e;exact .inl ⟨rfl,(bg e).symm⟩
  .rw[on c] at e;exact .inr ⟨c,e⟩
 refine⟨S.fn.erase _,fun z hz=>S.fs z (zi hz),fun j hj z e=>?_,fun j hj z e=>?_,fun a ha b hb z ea eb=>?_⟩
 .rcases at_ e with ⟨_,rfl⟩|⟨_,e⟩
  .exact fun m=>((S.fn.mem_erase_iff).mp m).1 rfl
  .exact fun m=>S.fr j hj z e (zi m)
 .rcases at_ e with ⟨rfl,rfl⟩|⟨_,e⟩
  .exact⟨k,aX _,hk,S.fs _ hy,h⟩
  .exact S.ty j hj z e
 .rcases at_ ea with ⟨a1,a2⟩|⟨_,a2⟩
  .rcases at_ eb with ⟨b1,_⟩|⟨_,b2⟩
   .rw[a1,b1]
   .exact absurd hy (S.fr b hb _ (a2 ▸ b2))
  .rcases at_ eb with ⟨_,b2⟩|⟨_,b2⟩
   .exact absurd hy (S.fr a ha _ (b2 ▸ a2))
   .exact S.inj a ha b hb z a2 b2
theorem SI.Qg(hk:k<d):∀ (ls:List Nat) {s:Gf×List Nat},(∀i∈ls,i∈here)->SI d here W l T k s->SI d here W l T k (ls.foldl (uJ W) s)
 |[],s,_,S=>S
 |i::ls,s,hl,S=>by
  refine SI.Qg hk ls (fun j hj=>hl j (bU _ hj)) ?_;unfold uJ;split
  .rename_i h;exact S.take hk (hl i bV) h (.inl rfl)
  .exact S
theorem SI.US(hk:k<d):∀ (ls:List Nat) {s:Gf×List Nat},(∀i∈ls,i∈here/\l i=k)->KI c ls s->SI d here W l T k s->SI d here W l T k (ls.foldl (jd c) s)
 |[],s,_,_,S=>S
 |i::ls,s,hl,K,S=>by
  refine SI.US hk ls (fun j hj=>hl j (bU _ hj)) K.step.1 ?_;obtain⟨hi,li⟩:=hl i bV;unfold jd;split
  .rename_i h;split
   .rename_i hc;exact S.take hk hi hc (.inr li)
   .rename_i hc;obtain⟨y,ey⟩:=K.head h hc;have hy:s.2.headD 0=y:=by rw[ey];rfl
    rw[hy];exact S.take hk hi (by rw[ey];exact bV) (.inr li)
  .exact S
theorem JT.step(A:HA d here W c p l T)(dj:∀y q q',q<d->q'<d->y∈T q->y∈T q'->q=q')(hk:k<d)(J:JT d here W l T (k+1) g):JT d here W l T k (t9 here W c l (T k) k g):=by
 have S0:SI d here W l T k (g,T k):=⟨(A.tn k hk).1,fun y hy=>hy,fun i hi y e m=>by
  obtain⟨q,h1,h2,h3,_⟩:=J.ty i hi y e;have:=dj y q k h2 hk h3 m;lia,fun i hi y e=>by
  obtain⟨q,h1,h2,h3⟩:=J.ty i hi y e;exact⟨q,by lia,h2,h3⟩,J.inj⟩
 have own:∀i∈d8 here l k,i∈here/\l i=k:=fun i hi=>⟨(bE.mp hi).1,dM (bE.mp hi).2⟩
 have S1:=SI.Qg hk (d8 here l k) (fun i hi=>(own i hi).1) S0;have K:=A.own hk (g:=g);rw[iW W (d8 here l k) (T k) g (A.tn k hk).1] at S1;have S2:=SI.US hk (d8 here l k) own K S1;rw[<-iW W (d8 here l k) (T k) g (A.tn k hk).1] at S2;exact(SI.Qg hk (xg here l k) (fun i hi=>(bE.mp hi).1) S2).jt
theorem JT.all(A:HA d here W c p l T)(dj:∀y q q',q<d->q'<d->y∈T q->y∈T q'->q=q')(hg:∀i∈here,g i=none):∀m,m<=d->JT d here W l T (d-m) (yP here W c l T d m g)
 |0,_=>⟨fun i hi y h=>absurd ((hg i hi).symm.trans h) (fun z=>nomatch z),fun i hi j hj y h=>absurd ((hg i hi).symm.trans h) (fun z=>nomatch z)⟩
 |m+1,hm=>by
  have ih:=JT.all A dj hg m (by lia);rw[show d-m=(d-1-m)+1 by lia] at ih;have:=ih.step A dj (k:=d-1-m) (by lia);rw[show d-(m+1)=d-1-m by lia];exact this
end
theorem t_:∀ {ns:List Nat} {q a b:Nat},EE ns q a b->(∀k,k≠q->(bw ns b).getD k 0=(bw ns a).getD k 0)/\(bw ns b).getD q 0=(bw ns a).getD q 0+1
 |n::ns,0,a,b,⟨h,e⟩=>by
  subst e;obtain⟨s1,s2⟩:=jV h;refine⟨fun k hk=>?_,?_⟩
  .cases k with
   |zero=>exact absurd rfl hk
   |succ k=>show (bw ns ((a+1) / n)).getD k 0=(bw ns (a / n)).getD k 0;rw[s1]
  .exact s2
 |n::ns,q+1,a,b,⟨e,h⟩=>by
  obtain⟨i1,i2⟩:=t_ h;refine⟨fun k hk=>?_,i2⟩;cases k with
  |zero=>exact e.symm
  |succ k=>exact i1 k fun z=>hk (by rw[z])
def UT(x:Int):Int:=if x<0 then -x else x
def df(ns:List Nat)(a b k:Nat):Int:=UT (((bw ns a).getD k 0:Nat)-((bw ns b).getD k 0:Nat))
def IU(ns:List Nat)(a b:Nat):Int:=((List.range ns.length).map (df ns a b)).sum
theorem Dl{f f':Nat->Int}{q:Nat}:∀n,q<n->(∀k,k≠q->f k=f' k)->((List.range n).map f').sum+f q=((List.range n).map f).sum+f' q
 |0,h,_=>absurd h (j8 _)
 |n+1,h,e=>by
  rw[il,dG,dG,List.sum_append,List.sum_append];simp only[e_,wc,List.sum_cons,List.sum_nil,Int.add_zero];rcases fG q n with c|c
  .have:=Dl n c e;rw[<-e n (by lia)];lia
  .have:q=n:=by lia
   subst this;rw[show (List.range q).map f'=(List.range q).map f from kn fun k hk=>(e k (by have:=dt.mp hk;lia)).symm];lia
theorem BB{ns:List Nat}{a b q:Nat}(t:wY ns a b q):(∀k,k≠q->(bw ns b).getD k 0=(bw ns a).getD k 0)/\((EE ns q a b/\(bw ns b).getD q 0=(bw ns a).getD q 0+1)\/(EE ns q b a/\(bw ns a).getD q 0=(bw ns b).getD q 0+1)):=by
 rcases t with t|t
 .exact⟨(t_ t).1,.inl ⟨t,(t_ t).2⟩⟩
 .exact⟨fun k hk=>((t_ t).1 k hk).symm,.inr ⟨t,(t_ t).2⟩⟩
theorem Qh{ns:List Nat}{a b g q:Nat}(t:wY ns a b q)(hq:q<ns.length):IU ns b g+df ns a g q=IU ns a g+df ns b g q:=
 Dl ns.length hq fun k hk=>by unfold df;rw[(BB t).1 k hk]
theorem Ny{ns:List Nat}{a g p k:Nat}(h:iU ns a g=some p)(hk:k<p):(bw ns a).getD k 0=(bw ns g).getD k 0:=by
 have hp:=(eU h).1;refine y_ fun z=>?_;have h0:∀n:Nat,∀f:Nat->Bool,(List.range n).find? f=some p->f k=true->False:=fun n=>by
  intro f e hf;obtain⟨_,as,bs,e2,no⟩:=List.find?_eq_some_iff_append.mp e;have l1:as.length=p:=by
   have:=congrArg (fun l=>l[as.length]?) e2;simp only[ra (aX _),v_,List.getElem?_cons_zero] at this;have hl:as.length<(List.range n).length:=by rw[e2,dU,cQ];lia
   rw[cZ hl,zF] at this;exact bg this
  have:k∈as:=by
   have hl:k<(List.range n).length:=by rw[e2,dU];lia
   have e3:(List.range n)[k]=k:=zF _;have e4:(List.range n)[k]?=as[k]?:=by rw[e2,nE (by lia)]
   rw[cZ hl,e3] at e4;exact dh e4.symm
  have:=no k this;rw[hf] at this;cases this
 exact h0 _ _ h (bn z)
theorem IW{ns:List Nat}{h g y q p:Nat}(hp:∀x∈ns,0<x)(t:wY ns h y q)(e:iU ns h g=some p)(hq:q<=p)(ne:yy ns h g≠some y):IU ns y g=IU ns h g+1:=by
 have pl:=(eU e).1;have F:=Qh (g:=g) t (by lia);obtain⟨_,t2⟩:=BB t;have D:df ns y g q=df ns h g q+1:=by
  unfold df UT;rcases fG q p with c|c
  .have z:=Ny e c;rcases t2 with ⟨_,z2⟩|⟨_,z2⟩
   .rw[z2,z];split <;> split <;> lia
   .rw[z] at z2;rw[z2] ;split <;> split <;> lia
  .have:q=p:=by lia
   subst this;have w:yy ns h g=some (if (bw ns h).getD q 0<(bw ns g).getD q 0 then h+pr (ns.take q) else h-pr (ns.take q)):=by unfold yy;rw[e];rfl
   rw[w] at ne;have nq:=(eU e).2;rcases t2 with ⟨u,z2⟩|⟨u,z2⟩
   .have:=((Bd hp pl).mp u).2;by_cases lt:(bw ns h).getD q 0<(bw ns g).getD q 0
    .rw[ak lt] at ne;exact absurd (congrArg some this.symm) ne
    .split <;> split <;> lia
   .have:=((wX hp pl).mp u).2;by_cases lt:(bw ns h).getD q 0<(bw ns g).getD q 0
    .split <;> split <;> lia
    .rw[aq lt] at ne;exact absurd (congrArg some (by lia)) ne
 lia
theorem UU{ns:List Nat}{h g y q p p':Nat}(t:wY ns h y q)(e:iU ns h g=some p)(hq:q<=p)(e':iU ns y g=some p'):q<=p':=by
 rcases fG p' q with c|c
 .obtain⟨t1,_⟩:=BB t;have a:=(eU e').2;rw[t1 p' (by lia)] at a;exact absurd (Ny e (by lia)) a
 .exact c
end jR
namespace L2
open PySem PySem.Spec PyProof.Rows
def zC(k:Bool):String:=if k then "list" else "tuple"
def zI(k:Bool):String:=if k then "list_iterator" else "tuple_iterator"
def xx(k:Bool)(h:Heap)(a:Addr)(items:Array Value):Prop:=∃o,h.get? a=some o/\o.cls=.type (zC k)/\∃n,o.data=.seq items n
def hU(k:Bool)(h:Heap)(it a:Addr)(i:Nat):Prop:=∃o,h.get? it=some o/\o.cls=.type (zI k)/\o.data=.fields #[.ref a,.int (i:Int) 0]
def Dm(k:Bool)(K:PySem.W.Frag)(H:Hp)(a:Addr)(xs:List V):Prop:=match k with
 |true=>bo K H a xs
 |false=>bh K H a xs
theorem hU.at{k:Bool}{it a:Addr}{i:Nat}{h h':Heap}(r:hU k h it a i)(e:∀o,h.get? it=some o->h'.get? it=some o):hU k h' it a i:=let ⟨o,q,z⟩:=r;⟨o,e o q,z⟩
theorem lx{k:Bool}{c it t:Addr}{h h':Heap}{i:Nat}(r:hU k h it t i)(sb:Heap.SameBut c h h')(n:it≠c):hU k h' it t i:=r.at fun o e=>aR sb n e
theorem IX{k:Bool}{c t:Addr}{h h':Heap}{xs:Array Value}(r:xx k h t xs)(sb:Heap.SameBut c h h')(n:t≠c):xx k h' t xs:=let ⟨o,e,z⟩:=r;⟨o,aR sb n e,z⟩
theorem aG.q{k:Bool}{X:Cx}{ae:List (Addr×Obj)}{σ:St}{H:Hp}{s:Shared}{a:Addr}{xs:List V}(I:aG X ae σ H s)(h:Dm k X.K H a xs):∃us,aZ xs us/\xx k s.heap a us.toArray/\xs.length<=sizeLine:=by
 cases k
 .exact I.tuple h
 .obtain⟨us,r,p,z⟩:=I.list h;exact⟨us,r,p.isList,z⟩
theorem aG.Nz{k:Bool}{X:Cx}{ae:List (Addr×Obj)}{σ:St}{H:Hp}{s:Shared}{a:Addr}{xs ys:List V}(I:aG X ae σ H s)(h:Dm k X.K H a xs)(h':Dm k X.K H a ys):xs=ys:=by
 cases k
 .exact I.ff h h'
 .exact I.xD h h'
variable {ka kb:Bool}
section
variable {prog:Program} {w:World} {A:Around} {E:Value->Shared->Prop} {s:Shared}
theorem ub{k:Bool}{it t:Addr}{i:Nat}{xs:Array Value}{x:Value}{Q:Value->Shared->Prop}(iK:hU k s.heap it t i)(ht:xx k s.heap t xs)(hx:xs[i]?=some x)(q:∀h',hU k h' it t (i+1)->Heap.SameBut it s.heap h'->Q x { s with heap:=h' }):wpAny (model prog w) A (Builtin.SmallTypes.nextOf (.ref it)) Q E s:=by
 cases k
 .exact jP iK ht hx q
 .exact wpAny_nextOf_list_item iK ht hx q
theorem ER{k:Bool}{it t:Addr}{i:Nat}{xs:Array Value}{Q:Value->Shared->Prop}(hh:A.handled=none)(iK:hU k s.heap it t i)(ht:xx k s.heap t xs)(hx:xs[i]?=none)(q:∀h' e,Heap.ExtBut it s.heap h'->(∃o,h'.get? e=some o/\o.cls=.type "StopIteration")->E (.ref e) { s with heap:=h' }):wpAny (model prog w) A (Builtin.SmallTypes.nextOf (.ref it)) Q E s:=by
 cases k
 .exact lI hh iK ht hx q
 .exact wpAny_nextOf_list_end hh iK ht hx q
theorem lA{k:Bool}{t:Addr}{items:Array Value}{Q:Value->Shared->Prop}(g:xx k s.heap t items)(q:Q (.ref s.heap.objs.size) { s with heap:=s.heap.push { cls:=.type (zI k),data:=.fields #[.ref t,.int 0 0] } }):wpAny (model prog w) A (pyIter (.ref t)) Q E s:=by
 cases k
 .exact oJ g q
 .exact rH g q
theorem ES{z ti tq i1 i2 t1 t2:Addr}{k:Nat}{xs ys:Array Value}{x y a b:Value}{Q:Value->Shared->Prop}(dj:ZipApart z ti tq i1 i2 t1 t2)(gz:IsZip s.heap z ti tq .none)(gi:IsPair s.heap ti (.ref i1) (.ref i2))(gq:IsPair s.heap tq a b)(r1:hU ka s.heap i1 t1 k)(r2:hU kb s.heap i2 t2 k)(g1:xx ka s.heap t1 xs)(g2:xx kb s.heap t2 ys)(ex:xs[k]?=some x)(ey:ys[k]?=some y)(q:∀h',IsZip h' z ti tq (rawInt s.heap.objs.size)->IsPair h' tq x y->hU ka h' i1 t1 (k+1)->hU kb h' i2 t2 (k+1)->IsPair h' s.heap.objs.size x y->(∀c o,c≠z->c≠tq->c≠i1->c≠i2->s.heap.get? c=some o->h'.get? c=some o)->Q (.ref s.heap.objs.size) { s with heap:=h' }):
  wpAny (model prog w) A (Builtin.«zip.__next__» ⟨[.ref z],[]⟩) (fun cH s'=>∃v,cH=.done (.ret v)/\Q v s') E s:=by
 change wpAny _ _ (field (.ref z) 2 >>= _) _ _ _;refine ai (cX gz rfl (x:=.bool false) rfl ?_);change wpAny _ _ (field (.ref z) 3 >>= _) _ _ _;refine ai (cX gz rfl (x:=.ref ti) rfl (ai (fN gi rfl ?_)));change wpAny _ _ (Builtin.SmallTypes.ownedTupleIsFree (.ref z) >>= _) _ _ _;refine ai ?_;unfold Builtin.SmallTypes.ownedTupleIsFree;refine ai (cX gz rfl (x:=.none) rfl (wpAny_pure ?_));simp only[jI];refine ai (wpAny_rule (ai (cX gz rfl (x:=.ref tq) rfl ?_)));refine ai (jj gz (by simp) fun m1 wF jB=>?_);replace wF:IsZip m1 z ti tq .ellipsis:=wF;refine ai ?_;simp only[rG,vS,oN,oQ];refine ai (ai (oX ?_));change wpAny _ _ (Builtin.SmallTypes.nextOf (.ref i1) >>= _) _ _ _;refine ai (ub (lx r1 jB dj.i1z) (IX g1 jB dj.l1z) ex fun m2 Ye iN=>wpAny_pure ?_);have Th:IsPair m2 tq a b:=aR iN dj.TOi1 (aR jB dj.TOz gq);refine ai (fN Th rfl (ai (vK Th fun m3 OS wG=>?_)));replace OS:IsPair m3 tq x b:=OS;refine ai (wpAny_letGo (wpAny_pure ?_));refine ai (ai (oX ?_));change wpAny _ _ (Builtin.SmallTypes.nextOf (.ref i2) >>= _) _ _ _;refine ai (ub (lx (lx (lx r2 jB dj.i2z) iN dj.i12.symm) wG dj.TOi2.symm) (IX (IX (IX g2 jB dj.l2z) iN dj.l2i1) wG dj.l2TO) ey fun m4 Yf G6=>wpAny_pure ?_);have Ti:IsPair m4 tq x b:=aR G6 dj.TOi2 OS;refine ai (fN Ti rfl (ai (vK Ti fun m5 KW G7=>?_)));replace KW:IsPair m5 tq x y:=KW;refine ai (wpAny_letGo (wpAny_pure (wpAny_pure ?_)));refine ai (fN KW rfl (ai (wpAny_newTuple ?_)));have sz:m5.objs.size=s.heap.objs.size:=by rw[G7.1,G6.1,wG.1,iN.1,jB.1]
 have Tj:IsZip m5 z ti tq .ellipsis:=aR G7 dj.TOz.symm (aR G6 dj.i2z.symm (aR wG dj.TOz.symm (aR iN dj.i1z.symm wF)));have Yg:∀c o,c≠z->c≠tq->c≠i1->c≠i2->s.heap.get? c=some o->m5.get? c=some o:=fun c o c1 c2 c3 c4 e=>
  aR G7 c2 (aR G6 c4 (aR wG c2 (aR iN c3 (aR jB c1 e))))
 have Yh:hU ka m5 i1 t1 (k+1):=lx (lx (lx Ye wG dj.TOi1.symm) G6 dj.i12) G7 dj.TOi1.symm;have Yi:hU kb m5 i2 t2 (k+1):=lx Yf G7 dj.TOi2.symm;have zl:z<m5.objs.size:=aL Tj;change wpAny _ _ (Builtin.SmallTypes.ownedTupleHandOut (.ref z) (.ref m5.objs.size) >>= _) _ _ _;refine ai ?_;unfold Builtin.SmallTypes.ownedTupleHandOut;have Yj:IsZip (m5.push { cls:=.type "tuple",data:=.seq #[x,y] }) z ti tq .ellipsis:=a8 _ Tj;refine ai (jj Yj (by simp) fun m7 OT Tk=>?_);replace OT:IsZip m7 z ti tq (rawInt m5.objs.size):=OT;refine jj OT (by simp) fun m8 KY Tl=>?_;replace KY:IsZip m8 z ti tq (rawInt m5.objs.size):=KY;have up:∀c o,c≠z->m5.get? c=some o->m8.get? c=some o:=fun c o c1 e=>aR Tl c1 (aR Tk c1 (a8 _ e));have Tn:IsPair m8 m5.objs.size x y:=aR Tl (ig zl) (aR Tk (ig zl) (bz _ rfl));rw[sz] at KY Tn;refine wpAny_pure ⟨_,rfl,?_⟩;change Q (.ref m5.objs.size) _;rw[sz];exact q m8 KY (up _ _ dj.TOz KW) (Yh.at fun o e=>up _ o dj.i1z e) (Yi.at fun o e=>up _ o dj.i2z e) Tn fun c o c1 c2 c3 c4 e=>up c o c1 (Yg c o c1 c2 c3 c4 e)
theorem IY{z ti tq i1 i2 t1 t2:Addr}{k:Nat}{xs:Array Value}{Q:PySem.Fin->Shared->Prop}(hh:A.handled=none)(dj:ZipApart z ti tq i1 i2 t1 t2)(gz:IsZip s.heap z ti tq .none)(gi:IsPair s.heap ti (.ref i1) (.ref i2))(r1:hU ka s.heap i1 t1 k)(g1:xx ka s.heap t1 xs)(ex:xs[k]?=none)(q:∀h' e,(∀c o,c≠z->c≠i1->s.heap.get? c=some o->h'.get? c=some o)->(∃o,h'.get? e=some o/\o.cls=.type "StopIteration")->E (.ref e) { s with heap:=h' }):
  wpAny (model prog w) A (Builtin.«zip.__next__» ⟨[.ref z],[]⟩) Q E s:=by
 change wpAny _ _ (field (.ref z) 2 >>= _) _ _ _;refine ai (cX gz rfl (x:=.bool false) rfl ?_);change wpAny _ _ (field (.ref z) 3 >>= _) _ _ _;refine ai (cX gz rfl (x:=.ref ti) rfl (ai (fN gi rfl ?_)));change wpAny _ _ (Builtin.SmallTypes.ownedTupleIsFree (.ref z) >>= _) _ _ _;refine ai ?_;unfold Builtin.SmallTypes.ownedTupleIsFree;refine ai (cX gz rfl (x:=.none) rfl (wpAny_pure ?_));simp only[jI];refine ai (wpAny_rule (ai (cX gz rfl (x:=.ref tq) rfl ?_)));refine ai (jj gz (by simp) fun m1 wF jB=>?_);replace wF:IsZip m1 z ti tq .ellipsis:=wF;refine ai ?_;simp only[rG,vS,oN,oQ];refine ai (ai (oX ?_));change wpAny _ _ (Builtin.SmallTypes.nextOf (.ref i1) >>= _) _ _ _;refine ai (ER hh (lx r1 jB dj.i1z) (IX g1 jB dj.l1z) ex fun m2 e iN he=>?_);obtain⟨oe,OU,Tp⟩:=he;have KZ:IsZip m2 z ti tq .ellipsis:=iN _ _ dj.i1z.symm wF;have Yk:e≠z:=fun y=>by subst y;rw[KZ] at OU;cases OU;simp at Tp
 exact jj KZ (by simp) fun m3 _ wG=>q m3 e (fun c o c1 c3 y=>aR wG c1 (iN _ _ c3 (aR jB c1 y))) ⟨oe,aR wG Yk OU,Tp⟩
theorem BC{z ti tq i1 i2 t1 t2:Addr}{k:Nat}{xs ys:Array Value}{x y a b:Value}{Q:Option Value->Shared->Prop}(dj:ZipApart z ti tq i1 i2 t1 t2)(gz:IsZip s.heap z ti tq .none)(gi:IsPair s.heap ti (.ref i1) (.ref i2))(gq:IsPair s.heap tq a b)(r1:hU ka s.heap i1 t1 k)(r2:hU kb s.heap i2 t2 k)(g1:xx ka s.heap t1 xs)(g2:xx kb s.heap t2 ys)(ex:xs[k]?=some x)(ey:ys[k]?=some y)(q:∀h',IsZip h' z ti tq (rawInt s.heap.objs.size)->IsPair h' tq x y->hU ka h' i1 t1 (k+1)->hU kb h' i2 t2 (k+1)->IsPair h' s.heap.objs.size x y->(∀c o,c≠z->c≠tq->c≠i1->c≠i2->s.heap.get? c=some o->h'.get? c=some o)->Q (some (.ref s.heap.objs.size)) { s with heap:=h' }):
  wpAny (model prog w) A (pyNext (.ref z)) Q E s:=by
 have ty:s.TypeIs (.ref z) "zip":=⟨_,gz,rfl⟩
 unfold pyNext;refine ai (jE (j3 (name:=Str.ofString "__next__") ty F.slot_zip_next (gn F.slot_zip_next ty F.entry_zip_next ?_ (F.args_zip_next_1 _))));exact ES dj gz gi gq r1 r2 g1 g2 ex ey fun h' a1 a2 a3 a4 a5 a6=>wpAny_pure (q h' a1 a2 a3 a4 a5 a6)
theorem BF{z ti tq i1 i2 t1 t2:Addr}{k:Nat}{xs:Array Value}{Q:Option Value->Shared->Prop}(hh:A.handled=none)(dj:ZipApart z ti tq i1 i2 t1 t2)(gz:IsZip s.heap z ti tq .none)(gi:IsPair s.heap ti (.ref i1) (.ref i2))(r1:hU ka s.heap i1 t1 k)(g1:xx ka s.heap t1 xs)(ex:xs[k]?=none)(q:∀h',(∀c o,c≠z->c≠i1->s.heap.get? c=some o->h'.get? c=some o)->Q none { s with heap:=h' }):wpAny (model prog w) A (pyNext (.ref z)) Q E s:=by
 have ty:s.TypeIs (.ref z) "zip":=⟨_,gz,rfl⟩
 unfold pyNext;refine ai (jE (j3 (name:=Str.ofString "__next__") ty F.slot_zip_next (gn F.slot_zip_next ty F.entry_zip_next (IY hh dj gz gi r1 g1 ex fun h' e hk he=>?_) (F.args_zip_next_1 _))));obtain⟨o,ho,hc⟩:=he;exact ai (oP (T:="StopIteration") (b:=true) ⟨o,ho,hc⟩ rQ (wpAny_pure (q _ hk)))
abbrev zQ(k:Bool)(t:Addr):Obj:={ cls:=.type (zI k),data:=.fields #[.ref t,.int 0 0] }
abbrev WN(k j:Bool)(h:Heap)(t1 t2:Addr):Heap:=((h.push (zQ k t1)).push (zQ j t2)).push { cls:=.type "tuple",data:=.seq #[.ref h.objs.size,.ref (h.push (zQ k t1)).objs.size] }
abbrev WO(k j:Bool)(h:Heap)(t1 t2:Addr):Heap:=(WN k j h t1 t2).push { cls:=.type "tuple",data:=.seq #[.none,.none] }
abbrev RD(k j:Bool)(h:Heap)(t1 t2:Addr):Heap:=(WO k j h t1 t2).push { cls:=.type "zip",data:=.fields #[.none,.bool false,.bool false,.ref ((h.push (zQ k t1)).push (zQ j t2)).objs.size,.ref (WN k j h t1 t2).objs.size] }
theorem IZ(t1 t2:Addr)(xs ys:Array Value):
  Meets (Builtin.«zip.__new__» ⟨[.type "zip",.ref t1,.ref t2],[]⟩) (fun _ R s=>xx ka s.heap t1 xs/\xx kb s.heap t2 ys/\R (.ok (.ret (.ref (WO ka kb s.heap t1 t2).objs.size))) { s with heap:=RD ka kb s.heap t1 t2 }):=
 .of_wp fun prog w A R s h=>by
  obtain⟨hp,g,d,tk,os⟩:=s;obtain⟨g1,g2,h⟩:=h;have Tq:=sub_zip;have gA:xx ka (Shared.heap ⟨hp,g,d,tk,os⟩) t1 xs:=g1;have gB:xx kb (Shared.heap ⟨hp.push (zQ ka t1),g,d,tk,os⟩) t2 ys:=let ⟨o,e,z⟩:=g2;⟨o,a8 _ e,z⟩
  wp_walk using lA gA,lA gB
  exact⟨_,rfl,h⟩
theorem ET{t1 t2:Addr}{xs ys:Array Value}{Q:Value->Shared->Prop}(g1:xx ka s.heap t1 xs)(g2:xx kb s.heap t2 ys)(q:∀h',IsZip h' (s.heap.objs.size+4) (s.heap.objs.size+2) (s.heap.objs.size+3) .none->IsPair h' (s.heap.objs.size+2) (.ref s.heap.objs.size) (.ref (s.heap.objs.size+1))->IsPair h' (s.heap.objs.size+3) .none .none->
   hU ka h' s.heap.objs.size t1 0->hU kb h' (s.heap.objs.size+1) t2 0->(∀c o,s.heap.get? c=some o->h'.get? c=some o)->Q (.ref (s.heap.objs.size+4)) { s with heap:=h' }):
  wpAny (model prog w) A (call (.type "zip") [.ref t1,.ref t2]) Q E s:=by
 refine callType_new F.called_zip (by decide) (F.typeCall_zip_2 _ _) (F.newCall_zip_2 _ _) (fun obj=>F.args_object_init_3 obj _ _) F.entry_zip_new (IZ t1 t2 xs ys) ⟨g1,g2,?_⟩;have n1:(s.heap.push (zQ ka t1)).objs.size=s.heap.objs.size+1:=fh ..;have n2:((s.heap.push (zQ ka t1)).push (zQ kb t2)).objs.size=s.heap.objs.size+2:=by rw[fh,n1]
 have n3:(WN ka kb s.heap t1 t2).objs.size=s.heap.objs.size+3:=by rw[fh,n2]
 have n4:(WO ka kb s.heap t1 t2).objs.size=s.heap.objs.size+4:=by rw[fh,n3]
 have e5:(RD ka kb s.heap t1 t2).get? (WO ka kb s.heap t1 t2).objs.size=some _:=bz _ rfl;have e4:(RD ka kb s.heap t1 t2).get? (WN ka kb s.heap t1 t2).objs.size=some _:=a8 _ (bz _ rfl);have e3:(RD ka kb s.heap t1 t2).get? ((s.heap.push (zQ ka t1)).push (zQ kb t2)).objs.size=some _:=a8 _ (a8 _ (bz _ rfl));have e2:(RD ka kb s.heap t1 t2).get? (s.heap.push (zQ ka t1)).objs.size=some _:=a8 _ (a8 _ (a8 _ (bz _ rfl)));have e1:(RD ka kb s.heap t1 t2).get? s.heap.objs.size=some _:=a8 _ (a8 _ (a8 _ (a8 _ (bz _ rfl))));change _/\_;rw[n2,n3,n4] at e5;rw[n1,n2] at e3;rw[n3] at e4;rw[n1] at e2;rw[n4];exact⟨⟨_,e5,rfl⟩,q _ e5 e3 e4 ⟨_,e1,rfl,rfl⟩ ⟨_,e2,rfl,rfl⟩ fun c o y=>
  a8 _ (a8 _ (a8 _ (a8 _ (a8 _ y))))⟩
end
def L5(ka kb:Bool)(K:PySem.W.Frag)(a b:Addr):It:=
 ⟨fun i H=>∃xs ys x y,Dm ka K H a xs/\Dm kb K H b ys/\xs[i]?=some x/\ys[i]?=some y,fun i H v H'=>∃p x y,v=.ref p/\H p=none/\H'=upd H p (.tup [x,y])/\(∀xs,Dm ka K H a xs->xs[i]?=some x)/\∀ys,Dm kb K H b ys->ys[i]?=some y,fun i H=>∃xs,Dm ka K H a xs/\xs.length<=i,fun _ _=>False⟩
theorem EU{P:Program}{w:World}{K:PySem.W.Frag}{es:List Expr}{x1:Nat}{pos:Pos}(a b z ti tq i1 i2:Addr)(dj:ZipApart z ti tq i1 i2 a b):
  pf P w K (.Tuple es x1 pos) (L5 ka kb K a b) [z,ti,tq,i1,i2] z (fun i h=>IsZip h z ti tq .none/\IsPair h ti (.ref i1) (.ref i2)/\(∃u v,IsPair h tq u v)/\hU ka h i1 a i/\hU kb h i2 b i) where
 mem:=by simp
 obj:=fun i h st c hc=>by
  obtain⟨gz,gi,⟨u,v,gq⟩,⟨o1,q1,c1,d1⟩,⟨o2,q2,c2,d2⟩⟩:=st;simp only[aV,eH,eI] at hc;rcases hc with rfl|rfl|rfl|rfl|rfl
  .exact⟨_,gz,fun v z=>by have z':Data.fields _=Data.cell v:=z;cases z'⟩
  .exact⟨_,gi,fun v z=>by have z':Data.seq _ _=Data.cell v:=z;cases z'⟩
  .exact⟨_,gq,fun v z=>by have z':Data.seq _ _=Data.cell v:=z;cases z'⟩
  .exact⟨o1,q1,fun v z=>by rw[d1] at z;cases z⟩
  .exact⟨o2,q2,fun v z=>by rw[d2] at z;cases z⟩
 keep:=fun i h h' st k=>by
  obtain⟨gz,gi,⟨u,v,gq⟩,r1,r2⟩:=st;exact⟨k z (by simp) _ gz,k ti (by simp) _ gi,⟨u,v,k tq (by simp) _ gq⟩,r1.at fun o q=>k i1 (by simp) o q,r2.at fun o q=>k i2 (by simp) o q⟩
 item:=by
  intro X hP hw hK i ae s σ H E qk I hf st hg;subst hP hw hK;have hc:X.calm=true:=qk.elim id fun z=>(show False from z).elim;obtain⟨xs,ys,x,y,hx,hy,ex,ey⟩:=hg;obtain⟨us,rx,px,_⟩:=I.q hx;obtain⟨vs,ry,py,_⟩:=I.q hy;obtain⟨u,hu,ru⟩:=rx.get ex;obtain⟨v,hv,rv⟩:=ry.get ey;obtain⟨gz,gi,⟨u0,v0,gq⟩,r1,r2⟩:=st;refine BC dj gz gi gq r1 r2 px py (x:=u) (y:=v) (by simpa using hu) (by simpa using hv) fun h1 wF Yl Ym Yn Yo kp=>?_;refine⟨_,rfl,wpAny_letOwnedTupleGo_zip wF fun h2 KZ iN=>?_⟩;have zl:z<s.heap.objs.size:=aL gz;have nz:s.heap.objs.size≠z:=ig zl;have Tt:∀c o,c∉[z,tq,i1,i2]->s.heap.get? c=some o->h2.get? c=some o:=fun c o hc e=>by
   simp only[aV,eH,eI,gC] at hc;exact aR iN hc.1 (kp c o hc.1 hc.2.1 hc.2.2.1 hc.2.2.2 e)
  have Yp:IsPair h2 ti (.ref i1) (.ref i2):=Tt _ _ (by simp only[aV,eH,eI,gC];exact⟨dj.TIz,dj.TITO,dj.TIi1,dj.TIi2⟩) gi;have fe:∀e∈[z,tq,i1,i2],fA X ae H e:=fun e he=>hf e (by simp only[aV,eH,eI] at he |-;rcases he with h|h|h|h <;> simp[h]);have I2:aG X ae σ (upd H s.heap.objs.size (.tup [x,y])) { s with heap:=h2,toks:=s.toks }:=
   I.CH (its:=[u,v]) fe Tt (aX _) (by show 2<=sizeLine;decide) (.cons ru (.cons rv .nil)) (aR iN nz Yo)
  refine⟨.ref s.heap.objs.size,_,I2,rfl,⟨_,x,y,rfl,I.cf.fresh (aX _),rfl,fun zs hz=>by rw[I.Nz hz hx];exact ex,fun zs hz=>by rw[I.Nz hz hy];exact ey⟩,⟨KZ,Yp,⟨u,v,aR iN dj.TOz Yl⟩,lx Ym iN dj.i1z,lx Yn iN dj.i2z⟩,fun c hc=>?_⟩;have f0:=(hf c hc).1;have cl:c<s.heap.objs.size:=by
   simp only[aV,eH,eI] at hc;rcases hc with rfl|rfl|rfl|rfl|rfl
   .exact zl
   .exact aL gi
   .exact aL gq
   .obtain⟨o,q,_⟩:=r1;exact aL q
   .obtain⟨o,q,_⟩:=r2;exact aL q
  rw[al (aY cl)];exact f0
 done:=by
  intro X hP hw hK i ae s σ H E qk I hf st hg;subst hP hw hK;have hc:X.calm=true:=qk.elim id fun z=>(show False from z).elim;obtain⟨xs,hx,hi⟩:=hg;obtain⟨us,rx,px,_⟩:=I.q hx;obtain⟨gz,gi,⟨u0,v0,gq⟩,r1,r2⟩:=st;have hl:=rx.length;refine BF (I.ok.hd hc) dj gz gi r1 px (by simp;lia) fun h' kp=>⟨rfl,?_⟩
  have fe:∀e∈[z,i1],fA X ae H e:=fun e he=>hf e (by simp only[aV,eH,eI] at he |-;rcases he with h|h <;> simp[h]);refine I.CG (t':=s.toks) fe fun c o hc e=>?_;simp only[aV,eH,eI,gC] at hc;exact kp c o hc.1 hc.2 e
 self:=fun _ _ _ _ _ st h=>vV st.1 h
section
variable {X:Cx}
def UV(ka kb:Bool)(K:PySem.W.Frag)(ta:TA):TI:=fun σ H R=>ta σ H fun vs H1=>∃a b xs ys,vs=[.ref a,.ref b]/\Dm ka K H1 a xs/\Dm kb K H1 b ys/\xs.length=ys.length/\R (L5 ka kb K a b) H1
theorem qY{es:List Expr}{x1:Nat}{xE:Pos}{a b:Expr}{ta:TA}{p pos:Pos}(hg:Gl X "zip")(hm:X.mg "zip"=none)(ha:PA X [a,b] ta)(hs:starEach [a,b] X.env=[(false,eval a X.env),(false,eval b X.env)]:=by rfl)(uo:starEach [b] X.env=[(false,eval b X.env)]:=by rfl):
  PI X (.Tuple es x1 xE) (.Call (.Name "zip" p) [a,b] [] pos) (UV ka kb X.K ta):=by
 intro ae s σ H R I h;refine Call_ (jJ I hg hm PyProof.Rows.boot_zip (oA (cy (ha pos ae s σ H _ I h) fun us s1 ⟨vs,H1,I1,r1,q1⟩=>?_) (by rw[hs,uo]) (by rw[uo];rfl)));obtain⟨l,m,xs,ys,rfl,hl,Yq,Nf,q⟩:=q1;obtain⟨u1,u2,rfl,Ta,Yr⟩:=r1.two;obtain rfl:u1=Value.ref l:=Ta;obtain rfl:u2=Value.ref m:=Yr;obtain⟨its,rv,pt,_⟩:=I1.q hl;obtain⟨F_,rv2,J6,_⟩:=I1.q Yq;have de:l<s1.heap.objs.size:=by obtain⟨o,e,_⟩:=pt;exact aL e
 have AX:m<s1.heap.objs.size:=by obtain⟨o,e,_⟩:=J6;exact aL e
 refine ET pt J6 fun h' gz gi gq r1 r2 k=>?_;refine vV gz ?_;have I2:aG X ae σ H1 { s1 with heap:=h' }:=I1.kept (t':=s1.toks) k;refine⟨s1.heap.objs.size+4,[s1.heap.objs.size+4,s1.heap.objs.size+2,s1.heap.objs.size+3,s1.heap.objs.size,s1.heap.objs.size+1],_,_,H1,rfl,I2,EU l m _ _ _ _ _ (zipApart_new de AX),⟨gz,gi,⟨_,_,gq⟩,r1,r2⟩,fun b hb=>?_,q⟩;have jq:s1.heap.objs.size<=b:=by
  simp only[aV,eH,eI] at hb;rcases hb with rfl|rfl|rfl|rfl|rfl
  .exact kB _ _
  .exact kB _ _
  .exact kB _ _
  .exact aX _
  .exact kB _ _
 exact I1.uB jq (I1.cf.fresh jq)
theorem vq{K:PySem.W.Frag}{a b D:Addr}{xs ys:List V}{g:TG}{tt:TT}{te:TE}{cH:Hp->Prop}{σB:St}{H0:Hp}(Nf:xs.length=ys.length)(Pv:Nat->List V->St->Hp->Prop)(h0:Pv 0 [] σB H0)(hl:∀i zs σ H,i<=xs.length->Pv i zs σ H->Dm ka K H a xs/\Dm kb K H b ys)(hs:∀i x y p zs σ H (Kt:V->St->Hp->Prop) (Kf:St->Hp->Prop),xs[i]?=some x->ys[i]?=some y->Pv i zs σ H->H p=none->
   (∀v σ2 H4,H4 D=some (.lst zs)->zs.length<sizeLine->Pv (i+1) (zs++[v]) σ2 (upd H4 D (.lst (zs++[v])))->Kt v σ2 H4)->(∀σ2 H3,Pv (i+1) zs σ2 H3->Kf σ2 H3)->
   g (.ref p) σ (upd H p (.tup [x,y])) fun σ2 H2=>tt σ2 H2 fun b H3=>if b=true then te σ2 H3 fun v H4=>Kt v σ2 H4 else Kf σ2 H3)(hd:∀zs σ H,Pv xs.length zs σ H->cH H):gR (L5 ka kb K a b) g tt te D cH σB H0:=by
 refine⟨fun i m σ H=>m=xs.length-i/\i<=xs.length/\∃zs,Pv i zs σ H,⟨xs.length,by simp,cr _,[],h0⟩,?_⟩;rintro i m σ H ⟨rfl,hi,zs,p⟩;obtain⟨q1,q2⟩:=hl i zs σ H hi p;by_cases de:i<xs.length
 .have AX:i<ys.length:=by lia
  refine .inr ⟨⟨xs,ys,xs[i],ys[i],q1,q2,by simp[de],by simp[AX]⟩,?_⟩;rintro v H' ⟨pp,x,y,rfl,hn,rfl,OF,YY⟩;exact hs i x y pp zs σ _ (fun v σ2 H4=>∃zs,H4 D=some (.lst zs)/\zs.length<sizeLine/\∃m',m'<xs.length-i/\m'=xs.length-(i+1)/\i+1<=xs.length/\∃qV,Pv (i+1) qV σ2 (upd H4 D (.lst (zs++[v]))))
   (fun σ2 H3=>∃m',m'<xs.length-i/\m'=xs.length-(i+1)/\i+1<=xs.length/\∃qV,Pv (i+1) qV σ2 H3) (OF xs q1) (YY ys q2) p hn
   (fun v σ2 H4 z1 z2 z3=>⟨zs,z1,z2,_,by lia,rfl,de,_,z3⟩) (fun σ2 H3 z=>⟨_,by lia,rfl,de,_,z⟩)
 .have e:i=xs.length:=by lia
  subst e;exact .inl ⟨⟨xs,q1,aX _⟩,hd zs σ H p⟩
end
end L2
namespace tf
open PySem L2 jR
section
variable {P:Program} {w:World} {K:PySem.W.Frag} {mg:Str->Option Value} {base:Heap}
def I0(K:PySem.W.Frag)(C CB:Addr):Sp:=fun vs H Q _=>∃ (L:Addr->Prop) (b ha sa xa:Addr) (ns homes:List Nat) (st:List (Option Nat)) (xs:List V),vs=[.ref b,.ref ha,.ref sa,.ref xa]/\fg C CB H L b ns/\H ha=some (.tup (NV homes))/\H sa=some (.tup (st.map oV))/\H xa=some (.tup xs)/\Sn ns homes st/\(∀x∈xs,∃o,Be K H x o)/\yC ns homes st xs/\∀ (H':Hp),az H H'->Q .bR H'
theorem Qi{f C CB:Addr}{fd:FuncData}(F:eK K "check_berthed" "check_berthed" Zi f fd)(IB:cu P w K mg base ba 9 "is_berthed" ["box","homes","stand","came"] (LP K C CB)):bi P w K mg base ba 10 f fd ["box","homes","stand","came"] (I0 K C CB):=by
 refine F.ok Zm (fun vs H Q E h=>?_) (fun dC A outer s H vs Q E hr h=>?_)
 .obtain⟨L,b,ha,sa,xa,ns,homes,st,xs,rfl,_⟩:=h;rfl
 .obtain⟨L,b,ha,sa,xa,ns,homes,st,xs,rfl,BA,vo,ny,uI,SN,hW,bt,k⟩:=h;refine⟨_,aj (bp (cN (cp (av IB hr aE (aa (pv 0) (aa (pv 1) (aa (pv 2) (aa (pv 3) af))))))) dk aK),?_⟩;refine⟨_,rfl,_,rfl,_,rfl,_,rfl,L,b,ha,sa,xa,ns,homes,st,xs,rfl,BA,vo,ny,uI,SN,hW,fun H1 bb s1 hb=>⟨_,rfl,?_⟩⟩;obtain rfl:bb=true:=hb.mpr bt;exact cM rfl (k H1 s1)
end
def l8(st:List (Option Nat))(h:Nat):List Nat:=(List.range st.length).filter fun i=>decide (st.getD i none=some h)
def yQ(ns homes:List Nat)(h i:Nat):Nat:=(yy ns h (homes.getD i 0)).getD 0
def kg(cs:List (Option Nat))(i:Nat):Nat:=(cs.getD i none).getD 0
def L6(ns homes:List Nat)(h i:Nat):Nat:=(iU ns h (homes.getD i 0)).getD 0
def oo(ns:List Nat)(cs:List (Option Nat))(h i:Nat):Nat:=(iU ns h (kg cs i)).getD 0
def L7(ns:List Nat)(h k:Nat):List Nat:=(dX (pr ns) (j9 ns) h).filter fun y=>decide (iU ns h y=some k)
theorem gJ{st:List (Option Nat)}{h i:Nat}:i∈l8 st h↔st.getD i none=some h:=by
 unfold l8;rw[bE,dt,iG];refine⟨fun z=>z.2,fun z=>⟨?_,z⟩⟩;rcases fG i st.length with c|c
 .exact c
 .rw[cq,gK c] at z;cases z
theorem oq{st:List (Option Nat)}{h i:Nat}(hi:i∈l8 st h):i<st.length:=dt.mp (bE.mp hi).1
theorem uc{ns:List Nat}{h y k:Nat}(BX:Bx ns)(FI:g8 (pr ns) (j9 ns))(hh:h<pr ns)(hk:k<ns.length):y∈L7 ns h k↔wY ns h y k:=by
 unfold L7;rw[bE,iG,eO FI hh];constructor
 .rintro⟨h1,h2⟩;have hy:y<pr ns:=rR.mp (FI.rg _ h1).2.2;obtain⟨k',t⟩:=(lN BX.pos hh hy).mp h1;have:=gW t;rw[h2] at this;rw[bg this];exact t
 .intro t;exact⟨(lN BX.pos hh (Bi BX FI hh hk t)).mpr ⟨k,t⟩,gW t⟩
theorem Qj{ns:List Nat}{h k:Nat}(BX:Bx ns)(hk:k<ns.length):(C9 ns h k).Nodup:=by
 have pp:0<pr (ns.take k):=Ij fun x hx=>BX.pos x (mf hx);unfold C9 w4;rw[aq (by decide),ak rfl];by_cases c1:1<=(bw ns h).getD k 0
 .rw[ak c1];by_cases c2:(bw ns h).getD k 0+1<ns.getD k 0
  .rw[ak c2];refine dq.mpr ⟨fun z=>?_,dq.mpr ⟨fun z=>(nomatch z),gQ⟩⟩;have:=dL.mp z;lia
  .rw[aq c2];exact dq.mpr ⟨fun z=>(nomatch z),gQ⟩
 .rw[aq c1];by_cases c2:(bw ns h).getD k 0+1<ns.getD k 0
  .rw[ak c2];exact dq.mpr ⟨fun z=>(nomatch z),gQ⟩
  .rw[aq c2];exact gQ
theorem I_{ns:List Nat}{h k:Nat}(BX:Bx ns)(FI:g8 (pr ns) (j9 ns))(hh:h<pr ns)(hk:k<ns.length):(C9 ns h k).Perm (L7 ns h k):=
 (Fp (Qj BX hk) ((mU hh).filter _)).mpr fun y=>(tT BX.pos hk).trans (uc BX FI hh hk).symm
structure Lt(ns homes:List Nat)(cs:List (Option Nat))(h i:Nat):Prop where
 hh:h<pr ns
 hg:homes.getD i 0<pr ns
 ph:iU ns h (homes.getD i 0)=some (L6 ns homes h i)
 ws:yy ns h (homes.getD i 0)=some (yQ ns homes h i)
 wt:wY ns h (yQ ns homes h i) (L6 ns homes h i)
 cm:cs.getD i none=some (kg cs i)
 ct:wY ns h (kg cs i) (oo ns cs h i)
 le:oo ns cs h i<=L6 ns homes h i
 pl:L6 ns homes h i<ns.length
theorem UX{ns:List Nat}{a b k:Nat}(BX:Bx ns)(h:iU ns a b=some k):∃y,yy ns a b=some y/\wY ns a y k:=by
 have hk:=(eU h).1;have e:=Nt BX.pos h;have e2:yy ns a b=some (if (bw ns a).getD k 0<(bw ns b).getD k 0 then a+pr (ns.take k) else a-pr (ns.take k)):=by unfold yy;rw[h];rfl
 refine⟨_,e2,(tT BX.pos hk).mp ?_⟩;rw[e] at e2;unfold C9;rw[dO];cases c:decide ((bw ns a).getD k 0<(bw ns b).getD k 0) with
 |true=>rw[c] at e2;right;rw[e2];exact dL.mpr rfl
 |false=>rw[c] at e2;left;rw[e2];exact dL.mpr rfl
theorem ud{ns homes:List Nat}{st cs:List (Option Nat)}{h i:Nat}(BX:Bx ns)(SN:Sn ns homes st)(BT:yC ns homes st (cs.map oV))(e:st.getD i none=some h):Lt ns homes cs h i:=by
 obtain⟨hh,hg,ne⟩:=SN.ok i h e;obtain⟨p,hp⟩:=Da hh hg ne;have hi:i<st.length:=oq (gJ.mpr e);obtain⟨y,ey,⟨k,p',Gs,t,kp⟩,_⟩:=(BT.2 i hi).2 h e;obtain rfl:p=p':=bg (hp.symm.trans Gs);rw[l7] at ey;have ey:=Bm ey;have ec:kg cs i=y:=by unfold kg;rw[ey];rfl
 have el:oo ns cs h i=k:=by unfold oo;rw[ec,gW t];rfl
 have ep:L6 ns homes h i=p:=by unfold L6;rw[hp];rfl
 obtain⟨w,ew,wt⟩:=UX BX hp;have eW:yQ ns homes h i=w:=by unfold yQ;rw[ew];rfl
 exact⟨hh,hg,by rw[ep];exact hp,by rw[eW];exact ew,by rw[eW,ep];exact wt,by rw[ec];exact ey,by rw[ec,el];exact t,by rw[el,ep];exact kp,by rw[ep];exact(eU hp).1⟩
theorem NA{ns homes:List Nat}{st cs:List (Option Nat)}{h:Nat}(BX:Bx ns)(FI:g8 (pr ns) (j9 ns))(SN:Sn ns homes st)(BT:yC ns homes st (cs.map oV))(hh:h<pr ns):HA ns.length (l8 st h) (yQ ns homes h) (kg cs) (L6 ns homes h) (oo ns cs h) (L7 ns h):=by
 have L:∀i∈l8 st h,Lt ns homes cs h i:=fun i hi=>ud BX SN BT (gJ.mp hi);refine⟨oK.filter _,fun i hi k hk=>?_,fun i hi k hk=>?_,fun i hi=>⟨(L i hi).le,(L i hi).pl⟩,?_,fun k hk=>⟨(mU hh).filter _,?_⟩⟩
 .rw[uc BX FI hh hk];exact⟨fun t=>bg ((gW (L i hi).wt).symm.trans (gW t)),fun e=>e ▸ (L i hi).wt⟩
 .rw[uc BX FI hh hk];exact⟨fun t=>bg ((gW (L i hi).ct).symm.trans (gW t)),fun e=>e ▸ (L i hi).ct⟩
 .have key:∀i∈l8 st h,∀j∈l8 st h,j<i->kg cs i=kg cs j->False:=fun i hi j hj lt e=>by
   obtain⟨y,ey,_,no⟩:=(BT.2 i (oq hi)).2 h (gJ.mp hi);refine no j lt (gJ.mp hj) ?_;rw[l7,(L j hj).cm,<-e,<-ey,l7,(L i hi).cm]
  intro i hi j hj e;rcases Nat.lt_trichotomy i j with z|z|z
  .exact(key j hj i hi z e.symm).elim
  .exact z
  .exact(key i hi j hj z e).elim
 .rw[<-(I_ BX FI hh hk).length_eq];exact xb
def nA(ns homes:List Nat)(st cs:List (Option Nat))(i:Nat):Option Nat:=
 match st.getD i none with
 |none=>none
 |some h=>yP (l8 st h) (yQ ns homes h) (kg cs) (oo ns cs h) (L7 ns h) ns.length ns.length (fun _=>none) i
abbrev ZI:Stmt:=fL 23
abbrev ZJ:Stmt:=fL 24
def yR(xs:List Addr)(H H':Hp):Prop:=∀b o,H b=some o->b∉xs->H' b=some o
theorem yR.refl{xs:List Addr}{H:Hp}:yR xs H H:=fun b o e _=>e
theorem yR.trans{xs:List Addr}{H H' H'':Hp}(a:yR xs H H')(b:yR xs H' H''):yR xs H H'':=fun c o e n=>b c o (a c o e n) n
theorem yR.upd{xs:List Addr}{H H':Hp}{a:Addr}{o:HO}(k:yR xs H H')(h:a∈xs):yR xs H (upd H' a o):=fun c u e n=>by rw[al (fun (z:c=a)=>n (z ▸ h))];exact k c u e n
def f9(n:Nat)(G:Gf):List V:=(List.range n).map fun i=>oV (G i)
theorem eR{n:Nat}{G:Gf}:(f9 n G).length=n:=by unfold f9;rw[aP,dW]
theorem jZ{n i:Nat}{G:Gf}(h:i<n):(f9 n G)[i]?=some (oV (G i)):=by
 unfold f9;rw[bJ,oH h];rfl
theorem ue{n i y:Nat}{G:Gf}:(f9 n G).set i (.int (y:Int))=f9 n (sg G i y):=by
 apply mm;intro j;rw[List.getElem?_set];rcases fG j n with z|z
 .rw[jZ z];by_cases e:i=j
  .subst e;rw[ak rfl,ak (by rw[eR];exact z),jZ z,jY];rfl
  .rw[aq e,jZ z,on (ck e)]
 .have n1:(f9 n (sg G i y))[j]?=none:=gK (by rw[eR];exact z);have n2:(f9 n G)[j]?=none:=gK (by rw[eR];exact z);rw[n1,n2];split
  .rw[aq (by rw[eR];lia)]
  .rfl
theorem Qk{y:Nat}{T:List Nat}:Cc (.int (y:Int)) (NV T)=decide (y∈T):=by
 rw[im,w6 w_,iG,a9];exact⟨fun ⟨z,hz,e⟩=>by injection e with e;rw[<-cR e];exact hz,fun h=>⟨y,h,rfl⟩⟩
theorem uf{T:List Nat}:NV T=(T.map fun (n:Nat)=>(n:Int)).map V.int:=by rw[fj];rfl
theorem ug{T:List Nat}{y:Nat}:((T.map fun (n:Nat)=>(n:Int)).eraseIdx ((T.map fun (n:Nat)=>(n:Int)).idxOf (y:Int))).map V.int=NV (T.erase y):=by
 rw[<-List.erase_eq_eraseIdx_of_idxOf (l:=T.map fun (n:Nat)=>(n:Int)) (a:=(y:Int)) rfl,uf];congr 1;induction T with
 |nil=>rfl
 |cons t T ih=>
  rw[e_,List.erase_cons,List.erase_cons];by_cases e:t=y
  .subst e;simp
  .rw[aq (by rw[et];exact fun z=>e (cR z)),aq (by rw[et];exact e),e_,ih]
theorem jy{α:Type}{l:List α}{i:Nat}{x:α}(h:l[i]?=some x):l.take (i+1)=l.take i++[x]:=by
 rw[List.take_succ,h];rfl
section
variable {P:Program} {w:World} {K:PySem.W.Frag} {mg:Str->Option Value} {base:Heap}
theorem UY:aA ["wishes","letters","free","goes","letter"] ["wishes","letters","free","goes"] (ao ZI):=⟨rfl,rfl,rfl,by decide +kernel,rfl,by decide +kernel,by decide +kernel⟩
def Ql:Sp:=fun vs H Q _=>∃ (wa la fa ga:Addr) (kvs:List (fR×V)) (W:Nat->Nat) (ls T:List Nat) (n:Nat) (G:Gf),vs=[.ref wa,.ref la,.ref fa,.ref ga]/\H wa=some (.dK kvs)/\(∀i∈ls,kW kvs (.inl (i:Int))=some (.int (W i:Nat)))/\H la=some (.lst (NV ls))/\H fa=some (.lst (NV T))/\H ga=some (.lst (f9 n G))/\la≠fa/\la≠ga/\fa≠ga/\(∀i∈ls,i<n)/\
 ∀ (H':Hp),yR [fa,ga] H H'->H' fa=some (.lst (NV (ls.foldl (uJ W) (G,T)).2))->H' ga=some (.lst (f9 n (ls.foldl (uJ W) (G,T)).1))->Q .bR H'
theorem UZ{f:Addr}{fd:FuncData}(F:eK K "take_wished" "take_wished" ZI f fd)(B:Bl mg):bi P w K mg base ba 1 f fd ["wishes","letters","free","goes"] Ql:=by
 refine F.ok UY (fun vs H Q E h=>?_) (fun dC A outer s H vs Q E hr h=>?_)
 .obtain⟨wa,la,fa,ga,kvs,W,ls,T,n,G,rfl,_⟩:=h;rfl
 .obtain⟨wa,la,fa,ga,kvs,W,ls,T,n,G,rfl,hw,hW,hl,hf,hg,n1,n2,n3,hn,q⟩:=h;have Fc:=hr.u (n:=1);refine⟨_,(aj (cF d9 rfl (cU (pv 1)) (au (i:=4) UY.nd rfl (Or.inl rfl))
    (aj (bp (aJ hV (lH Fc (pv 0) (pv 4) (fun _ _=>rfl)) (pv 2) rfl) (ah (i9 (lH Fc (pv 0) (pv 4) (fun _ _=>rfl)) (o_ (pv 3) (pv 4) ip))
     (aj (bG (ir hX Fw Fv u_ (pv 2) (aa (lH Fc (pv 0) (pv 4) (fun _ _=>rfl)) af))))) aK)))),?_⟩
  have nwf:wa≠fa:=dH hw hf (fun z=>nomatch z);have nwg:wa≠ga:=dH hw hg (fun z=>nomatch z);refine⟨_,rfl,la,rfl,⟨_,bo.of hl⟩,jm (K:=K) (a:=la) (xs:=NV ls) (fun i σ H1=>(∃u,σ=[some (.ref wa),some (.ref la),some (.ref fa),some (.ref ga),u])/\yR [fa,ga] H H1/\H1 fa=some (.lst (NV ((ls.take i).foldl (uJ W) (G,T)).2))/\H1 ga=some (.lst (f9 n ((ls.take i).foldl (uJ W) (G,T)).1))) ⟨⟨_,rfl⟩,.refl,hf,hg⟩ (fun i σ H1 _ z=>bo.of (z.2.1 _ _ hl (by simp[n1,n2]))) ?_ ?_⟩
  .rintro i x σ H1 hx ⟨⟨u,rfl⟩,k1,f1,g1⟩;have jA:(NV ls)[i]?=some x:=hx;rw[bJ] at jA;cases BG:ls[i]? with
   |none=>rw[BG] at jA;cases jA
   |some j=>
   rw[BG] at jA;obtain rfl:V.int (j:Int)=x:=bg jA;have hj:j∈ls:=dh BG;have ZK:H1 wa=some (.dK kvs):=k1 _ _ hw (by simp[nwf,nwg]);have gd:∀ {H2:Hp},H2 wa=some (.dK kvs)->x0 H2 wa (.int (j:Int)) (some (.int (W j:Nat))):=fun {H2} e=>by rw[<-hW j hj];exact x0.k (k:=.inl (j:Int)) e
   have ZL:(ls.take (i+1)).foldl (uJ W) (G,T)=uJ W ((ls.take i).foldl (uJ W) (G,T)) j:=by rw[jy BG,vN];rfl
   rw[ZL];generalize (ls.take i).foldl (uJ W) (G,T)=s1 at *;refine⟨_,rfl,_,rfl,wa,_,rfl,gd ZK,_,rfl,fa,_,rfl,.inl (bo.of f1),rfl,lO,?_⟩;rw[aq bq,Qk];unfold uJ;refine⟨_,rfl,iD (fun c=>?_) (fun c=>?_)⟩
   .have c:W j∈s1.2:=dM c;rw[ak c];refine⟨_,rfl,_,rfl,wa,_,rfl,gd ZK,_,rfl,_,rfl,ga,_,_,j,rfl,rfl,g1,iQ (by rw[eR];exact hn j hj),?_⟩;rw[ue];have f2:(upd H1 ga (.lst (f9 n (sg s1.1 j (W j))))) fa=some (.lst (NV s1.2)):=by rw[al n3];exact f1
    refine⟨_,rfl,.inl ⟨rfl,_,bo.of f2⟩,_,rfl,_,rfl,wa,_,rfl,gd (by rw[al nwg];exact ZK),fa,s1.2.map fun (n:Nat)=>(n:Int),_,rfl,rfl,by rw[f2,uf],a9.mpr ⟨_,c,rfl⟩,?_⟩;rw[ug];exact⟨⟨_,rfl⟩,(k1.upd (by simp)).upd (by simp),ag,by rw[al (ck n3),ag]⟩
   .have c:¬ W j∈s1.2:=fun z=>c (bn z);rw[aq c];exact⟨⟨_,rfl⟩,k1,f1,g1⟩
  .rintro σ H1 ⟨_,k1,f1,g1⟩;rw[aT,gm] at f1 g1;exact q H1 k1 f1 g1
theorem U0:aA ["came","letters","free","goes","letter"] ["came","letters","free","goes"] (ao ZJ):=⟨rfl,rfl,rfl,by decide +kernel,rfl,by decide +kernel,by decide +kernel⟩
def Qm:Sp:=fun vs H Q _=>∃ (ca la fa ga:Addr) (cs:List (Option Nat)) (ls T:List Nat) (n:Nat) (G:Gf),vs=[.ref ca,.ref la,.ref fa,.ref ga]/\H ca=some (.tup (cs.map oV))/\(∀i∈ls,cs.getD i none=some (kg cs i))/\H la=some (.lst (NV ls))/\H fa=some (.lst (NV T))/\H ga=some (.lst (f9 n G))/\la≠fa/\la≠ga/\fa≠ga/\(∀i∈ls,i<n/\i<cs.length)/\KI (kg cs) ls (G,T)/\
 ∀ (H':Hp),yR [fa,ga] H H'->H' fa=some (.lst (NV (ls.foldl (jd (kg cs)) (G,T)).2))->H' ga=some (.lst (f9 n (ls.foldl (jd (kg cs)) (G,T)).1))->Q .bR H'
theorem Dn{c:Nat->Nat}:∀ (i:Nat) (ls:List Nat) (s:Gf×List Nat),KI c ls s->KI c (ls.drop i) ((ls.take i).foldl (jd c) s)
 |0,ls,s,k=>k
 |i+1,[],s,k=>k
 |i+1,x::ls,s,k=>Dn i ls _ k.step.1
theorem U8{f:Addr}{fd:FuncData}(F:eK K "keep_to_lane" "keep_to_lane" ZJ f fd)(B:Bl mg):bi P w K mg base ba 1 f fd ["came","letters","free","goes"] Qm:=by
 refine F.ok U0 (fun vs H Q E h=>?_) (fun dC A outer s H vs Q E hr h=>?_)
 .obtain⟨ca,la,fa,ga,cs,ls,T,n,G,rfl,_⟩:=h;rfl
 .obtain⟨ca,la,fa,ga,cs,ls,T,n,G,rfl,hc,hC,hl,hf,hg,n1,n2,n3,hn,KK,q⟩:=h;have Fc:=hr.u (n:=1);refine⟨_,(aj (cF d9 rfl (cU (pv 1)) (au (i:=4) U0.nd rfl (Or.inl rfl))
    (aj (bp (aJ jM (a_ bQ (pv 3) (pv 4) (fun _ _=>rfl)) cn (aQ _)) (ah (i9 (jl (aJ hV (a_ bD (pv 0) (pv 4) (fun _ _=>rfl)) (pv 2) rfl) (a_ bD (pv 0) (pv 4) (fun _ _=>rfl)) (a_ bQ (pv 2) aD (fun _ _=>rfl))) (o_ (pv 3) (pv 4) ip))
     (aj (bG (ir hX Fw Fv u_ (pv 2) (aa (a_ bQ (pv 3) (pv 4) (fun _ _=>rfl)) af))))) aK)))),?_⟩
  have ncf:ca≠fa:=dH hc hf (fun z=>nomatch z);have ncg:ca≠ga:=dH hc hg (fun z=>nomatch z);refine⟨_,rfl,la,rfl,⟨_,bo.of hl⟩,jm (K:=K) (a:=la) (xs:=NV ls) (fun i σ H1=>(∃u,σ=[some (.ref ca),some (.ref la),some (.ref fa),some (.ref ga),u])/\yR [fa,ga] H H1/\H1 fa=some (.lst (NV ((ls.take i).foldl (jd (kg cs)) (G,T)).2))/\H1 ga=some (.lst (f9 n ((ls.take i).foldl (jd (kg cs)) (G,T)).1))) ⟨⟨_,rfl⟩,.refl,hf,hg⟩ (fun i σ H1 _ z=>bo.of (z.2.1 _ _ hl (by simp[n1,n2]))) ?_ ?_⟩
  .rintro i x σ H1 hx ⟨⟨u,rfl⟩,k1,f1,g1⟩;have jA:(NV ls)[i]?=some x:=hx;rw[bJ] at jA;cases BG:ls[i]? with
   |none=>rw[BG] at jA;cases jA
   |some j=>
   rw[BG] at jA;obtain rfl:V.int (j:Int)=x:=bg jA;have hj:j∈ls:=dh BG;have hc1:H1 ca=some (.tup (cs.map oV)):=k1 _ _ hc (by simp[ncf,ncg]);have gc:(cs.map oV)[j]?=some (.int (kg cs j:Nat)):=by rw[j_ (hn j hj).2,hC j hj];rfl
   have ZL:(ls.take (i+1)).foldl (jd (kg cs)) (G,T)=jd (kg cs) ((ls.take i).foldl (jd (kg cs)) (G,T)) j:=by rw[jy BG,vN];rfl
   rw[ZL];have K1:=Dn i ls (G,T) KK;have edr:ls.drop i=j::ls.drop (i+1):=by
    obtain⟨de,e⟩:=cW.mp BG;rw[rb de,e]
   rw[edr] at K1;generalize (ls.take i).foldl (jd (kg cs)) (G,T)=s1 at *;refine⟨_,rfl,_,rfl,ga,_,_,_,rfl,rfl,bo.of g1,aB (jZ (hn j hj).1),?_⟩;unfold jd;cases eg:s1.1 j with
   |some y=>
    refine⟨rfl,_,rfl,cM rfl ?_⟩;rw[aq (fun z=>nomatch z)];exact⟨⟨_,rfl⟩,k1,f1,g1⟩
   |none=>
    refine⟨rfl,_,rfl,gY ?_⟩;rw[ak rfl];refine⟨_,rfl,_,rfl,ca,_,_,_,rfl,rfl,bh.of hc1,aB gc,_,rfl,fa,_,rfl,.inl (bo.of f1),rfl,lO,?_⟩;rw[aq bq,Qk];have bZ:∀y:Nat,y∈s1.2->∀H2:Hp,H2=upd H1 ga (.lst (f9 n (sg s1.1 j y)))->H2 fa=some (.lst (NV s1.2))/\H2 ga=some (.lst (f9 n (sg s1.1 j y))):=fun y _ H2 e=>by
     subst e;exact⟨by rw[al n3];exact f1,ag⟩
    refine⟨_,rfl,iD (fun c=>?_) (fun c=>?_)⟩
    .have c:kg cs j∈s1.2:=dM c;rw[ak c];refine⟨_,rfl,_,rfl,ca,_,_,_,rfl,rfl,bh.of hc1,aB gc,_,rfl,_,rfl,ga,_,_,j,rfl,rfl,g1,iQ (by rw[eR];exact(hn j hj).1),?_⟩;rw[ue];obtain⟨f2,g2⟩:=bZ _ c _ rfl;refine⟨_,rfl,.inl ⟨rfl,_,bo.of f2⟩,_,rfl,_,rfl,ga,_,_,_,rfl,rfl,bo.of g2,aB (by rw[jZ (hn j hj).1,jY];rfl),fa,s1.2.map fun (n:Nat)=>(n:Int),_,rfl,rfl,by rw[f2,uf],a9.mpr ⟨_,c,rfl⟩,?_⟩;rw[ug];exact⟨⟨_,rfl⟩,(k1.upd (by simp)).upd (by simp),ag,by rw[al (ck n3),ag]⟩
    .have c:¬ kg cs j∈s1.2:=fun z=>c (bn z);rw[aq c];obtain⟨y,ey⟩:=K1.head eg c;have hy:s1.2.headD 0=y:=by rw[ey];rfl
     have my:y∈s1.2:=by rw[ey];exact bV
     rw[hy];refine⟨_,rfl,fa,_,0,_,rfl,rfl,bo.of f1,by rw[ey];exact aB (j:=0) rfl,_,rfl,_,rfl,ga,_,_,j,rfl,rfl,g1,iQ (by rw[eR];exact(hn j hj).1),?_⟩;rw[ue];obtain⟨f2,g2⟩:=bZ _ my _ rfl;refine⟨_,rfl,.inl ⟨rfl,_,bo.of f2⟩,_,rfl,_,rfl,ga,_,_,_,rfl,rfl,bo.of g2,aB (by rw[jZ (hn j hj).1,jY];rfl),fa,s1.2.map fun (n:Nat)=>(n:Int),_,rfl,rfl,by rw[f2,uf],a9.mpr ⟨_,my,rfl⟩,?_⟩;rw[ug];exact⟨⟨_,rfl⟩,(k1.upd (by simp)).upd (by simp),ag,by rw[al (ck n3),ag]⟩
  .rintro σ H1 ⟨_,k1,f1,g1⟩;rw[aT,gm] at f1 g1;exact q H1 k1 f1 g1
end
abbrev ZM:Stmt:=eS (fL 47) 2
abbrev ZN:Stmt:=fL 15
abbrev ZO:Stmt:=fL 22
theorem NC:(["letter","house"]:List Str).Nodup:=by decide +kernel
theorem Qn:(["letter","stand","house"]:List Str).Nodup:=by decide +kernel
theorem L8:(["letter","box","house","homes"]:List Str).Nodup:=by decide +kernel
theorem Qo:(["other","box","house"]:List Str).Nodup:=by decide +kernel
theorem Do:(["letter","ways","came","way"]:List Str).Nodup:=by decide +kernel
theorem Qp:(["other","ways","way"]:List Str).Nodup:=by decide +kernel
theorem Ja{pn sr:Addr}:(C2 pn sr).lookup ("sides":Str)=none:=m9 (by decide +kernel) (by decide +kernel)
theorem L9{pn sr:Addr}:(C2 pn sr).lookup ("wish":Str)=none:=m9 (by decide +kernel) (by decide +kernel)
def ND:R2:=fun x y H Q=>y=.bR/\Q (.bl (!decide (x=.bR))) H
theorem Qq{st:List (Option Nat)}{i:Nat}{x:V}(h:(st.map oV)[i]?=some x):i<st.length/\x=oV (st.getD i none):=by
 have hi:=(cW.mp h).1;rw[aP] at hi;refine⟨hi,?_⟩;rw[j_ hi] at h;exact(bg h).symm
theorem L_{o:Option Nat}:(!decide (oV o=.bR))=o.isSome:=by cases o <;> simp[oV]
def yS(st:List (Option Nat))(i:Nat):List Nat:=(List.range i).filter fun j=>(st.getD j none).isSome
theorem yT{st:List (Option Nat)}{i:Nat}:yS st (i+1)=yS st i++if (st.getD i none).isSome then [i] else []:=by
 unfold yS;rw[il,j4,e8];rfl
theorem qZ{st:List (Option Nat)}{i:Nat}:(yS st i).length<=i:=by
 have:=ji (fun j=>(st.getD j none).isSome) (List.range i);rwa [dW] at this
theorem Ma{kvs:List (fR×V)}{f:Nat->V}{ms:List Nat}{m:Nat}(e:kvs=ms.map fun (n:Nat)=>((.inl (n:Int):fR),f n))(h:m∉ms):pJ kvs (.inl (m:Int)) (f m)=(ms++[m]).map fun (n:Nat)=>((.inl (n:Int):fR),f n):=by
 rw[GU _ ?_,e,dG]
 .rfl
 .cases q:kW kvs (.inl (m:Int)) with
  |none=>rfl
  |some v=>
   have:=KD q;rw[e,fj] at this;obtain⟨n,hn,en⟩:=a9.mp this;have en:(Sum.inl (n:Int):fR)=Sum.inl (m:Int):=en;injection en with en;exact absurd (cR en ▸ hn) h
theorem q0{f:Nat->V}{m:Nat}:∀ {ms:List Nat},m∈ms->kW (ms.map fun (n:Nat)=>((.inl (n:Int):fR),f n)) (.inl (m:Int))=some (f m)
 |n::ms,h=>by
  by_cases e:n=m
  .subst e;exact n9 rfl
  .rw[e_,n_ (fun z=>e (by injection z with z;exact cR z))];exact q0 ((aV.mp h).resolve_left (ck e))
theorem yU{K:PySem.W.Frag}{a D:Addr}{g:TG}{tk tv:TE}{cH:Hp->Prop}{σB:St}{H0:Hp}(ms:List Nat)(f:Nat->V)(cS:St->Prop)(ha:H0 a=some (.lst (NV ms)))(hD:H0 D=none)(nd:ms.Nodup)(hn:ms.length<=1000)(h0:cS σB)(hs:∀m σ H (Kt:V->V->St->Hp->Prop),m∈ms->cS σ->az H0 H->(∀σ2 H2,cS σ2->az H H2->Kt (.int (m:Int)) (f m) σ2 H2)->g (.int (m:Int)) σ H fun σ2 H2=>tk σ2 H2 fun y H4=>tv σ2 H4 fun v H5=>Kt y v σ2 H5)(hd:∀H,az H0 H->H D=some (.dK (ms.map fun (n:Nat)=>((.inl (n:Int):fR),f n)))->cH H):yF (FG K a) g Gg tk tv D cH σB (upd H0 D (.dK [])):=by
 refine By (xs:=NV ms) (fun i kvs σ H=>cS σ/\az H0 H/\H D=some (.dK kvs)/\kvs=(ms.take i).map fun (n:Nat)=>((.inl (n:Int):fR),f n)) ⟨h0,am hD,ag,rfl⟩ (fun i ys σ H _ z=>bo.of (z.2.1 _ _ ha)) ?_ ?_
 .rintro i x kvs σ H Kt Kf hx ⟨sh,sm,l0,rfl⟩ kt kf;have jA:(ms.map fun (n:Nat)=>V.int (n:Int))[i]?=some x:=hx;rw[bJ] at jA;obtain⟨m,hm,rfl⟩:=vC.mp jA;have tk:ms.take (i+1)=ms.take i++[m]:=jy hm;have ZP:m∉ms.take i:=fun z=>by
   obtain⟨de,e⟩:=cW.mp hm;have n2:(ms.take (i+1)).Nodup:=nd.sublist (List.take_sublist _ _);rw[tk] at n2;exact(rC.mp n2).2.2 m z m (dL.mpr rfl) rfl
  have:=hs m σ H Kt (dh hm) sh sm fun σ2 H2 wO s2=>by
   refine kt (.inl (m:Int)) _ _ _ (s2 _ _ l0) ?_ ⟨wO,bN (sm.trans s2) hD,ag,?_⟩
   .rw[aP];exact eZ (zm _ _) (eZ hn (by decide))
   .rw[tk];exact Ma rfl ZP
  exact this
 .rintro kvs σ H ⟨_,sm,l0,rfl⟩;rw[aT,gm] at l0;exact hd H sm l0
section
variable {P:Program} {w:World} {K:PySem.W.Frag} {mg:Str->Option Value} {base:Heap}
theorem ZQ:aA ["self"] ["self"] (ao ZM):=⟨rfl,rfl,rfl,by decide +kernel,rfl,by decide +kernel,by decide +kernel⟩
def Qr(C CB:Addr):Sp:=fun vs H Q _=>∃ (L:Addr->Prop) (b:Addr) (ns:List Nat),vs=[.ref b]/\fg C CB H L b ns/\∀sr:Addr,H sr=some (.tup (NV ns))->Q (.ref sr) H
theorem U9{f C CB:Addr}{fd:FuncData}(F:eK K "sides" "Box.sides" ZM f fd)(TB:Fh K mg CB):bi P w K mg base ba 1 f fd ["self"] (Qr C CB):=by
 refine F.ok ZQ (fun vs H Q E h=>?_) (fun dC A outer s H vs Q E hr h=>?_)
 .obtain⟨L,b,ns,rfl,_⟩:=h;rfl
 .obtain⟨L,b,ns,rfl,⟨BX,dx,pn,sr,hb,N,fE⟩,q⟩:=h;refine⟨_,aj (aF (gG (pv 0) rfl)),?_⟩;exact⟨_,rfl,b,CB,dx,_,_,rfl,hb,TB.cl,TB.nS,C3,q sr fE⟩
theorem ZR:aA ["stand"] ["stand"] (ao ZN):=⟨rfl,rfl,rfl,by decide +kernel,rfl,by decide +kernel,by decide +kernel⟩
def Qs:Sp:=fun vs H Q _=>∃ (sa:Addr) (st:List (Option Nat)),vs=[.ref sa]/\H sa=some (.tup (st.map oV))/\st.length<=16/\∀ (r:Addr) (H':Hp),az H H'->H r=none->H' r=some (.lst (NV (yS st st.length)))->Q (.ref r) H'
theorem U_{f:Addr}{fd:FuncData}(F:eK K "under_way" "under_way" ZN f fd)(hE:mg "enumerate"=none):bi P w K mg base ba 1 f fd ["stand"] Qs:=by
 refine F.ok ZR (fun vs H Q E h=>?_) (fun dC A outer s H vs Q E hr h=>?_)
 .obtain⟨sa,st,rfl,_⟩:=h;rfl
 .obtain⟨sa,st,rfl,hS,hl,q⟩:=h;refine'⟨_,(aj (aF ?c1)),?_⟩;case c1=>
   refine' dQ (g:=(uA K 2 (fk (bW 0) (fk (bW 1) uz)))) (tt:=(kO (oy ND (br 1) (tC .bR)))) (te:=(br 0)) (NB:=["letter","house"]) (src:=[none,none]) (cx (by kernel_rfl)) rfl (sR rfl hE (aa (pv 0) af)) ?g ?t ?e;case g=>exact fun cl C s₃ H₃ fp=>(eA (n:=2) rfl (aN (au (i:=0) NC rfl (Or.inl rfl) (Or.inr rfl)) (aN (au (i:=1) NC rfl (Or.inl rfl) (Or.inr rfl)) dv)))
   case t=>exact fun cl C s₃ H₃ fp=>eT (aJ lE (pv 1) cn (aQ _))
   case e=>exact fun cl C s₃ H₃ fp=>(pv 0)
  refine⟨_,rfl,sa,_,rfl,bh.of hS,fun D hD=>?_⟩;refine AQ (K:=K) (a:=sa) (xs:=st.map oV) (fun i ys σ H3=>(∃u v,σ=[u,v])/\ys=NV (yS st i)/\az H H3/\H3 D=some (.lst ys)) ⟨⟨_,_,rfl⟩,rfl,am hD,ag⟩ (fun i ys σ H3 _ z=>bh.of (z.2.2.1 _ _ hS)) ?_ ?_
  .rintro i x t ys σ H3 Kt Kf hx ⟨⟨u,v,rfl⟩,rfl,sm,qy⟩ ht kt kf;obtain⟨hi,rfl⟩:=Qq hx;have bf:=am (o:=.tup [.int (i:Int),oV (st.getD i none)]) ht;refine⟨_,_,rfl,bh.of ag,rfl,_,_,rfl,_,_,rfl,rfl,?_⟩;refine⟨_,rfl,rfl,_,rfl,?_⟩;rw[L_];refine iD (fun e=>?_) (fun e=>?_)
   .refine⟨_,rfl,kt _ _ _ (bf _ _ qy) (by rw[aT];exact eZ qZ (bA (show i<17 by lia) (by decide))) ⟨⟨_,_,rfl⟩,?_,bN (sm.trans bf) hD,ag⟩⟩;rw[yT,ak e,iS]
   .refine kf _ _ ⟨⟨_,_,rfl⟩,?_,sm.trans bf,bf _ _ qy⟩;rw[yT,aq e,rK]
  .rintro ys σ H3 ⟨_,rfl,sm,qy⟩;rw[aP] at qy;exact q D H3 sm hD qy
end
theorem Mb{d D:Addr}{o:Obj}{g:TG}{tt:TT}{te:TE}{cH:Hp->Prop}{σB:St}{H0:Hp}(ms:List Nat)(f:Nat->V)(c:Nat->Bool)(cS:St->Prop)(ha:H0 d=some (.mC o (.dK (ms.map fun (n:Nat)=>((.inl (n:Int):fR),f n)))))(hD:H0 D=none)(hn:ms.length<=1000)(h0:cS σB)(hs:∀m σ H (Kt:V->St->Hp->Prop) (Kf:St->Hp->Prop),m∈ms->cS σ->az H0 H->(∀σ2 H2,cS σ2->az H H2->c m=true->Kt (.int (m:Int)) σ2 H2)->(∀σ2 H2,cS σ2->az H H2->c m=false->Kf σ2 H2)->
   g (.int (m:Int)) σ H fun σ2 H2=>tt σ2 H2 fun b H3=>if b=true then te σ2 H3 fun v H4=>Kt v σ2 H4 else Kf σ2 H3)(hd:∀H,az H0 H->H D=some (.lst (NV (ms.filter c)))->cH H):gR (Wv d o (ms.map fun (n:Nat)=>((.inl (n:Int):fR),f n))) g tt te D cH σB (upd H0 D (.lst [])):=by
 refine EQ (kvs:=ms.map fun (n:Nat)=>((.inl (n:Int):fR),f n)) (fun i ys σ H=>cS σ/\az H0 H/\H D=some (.lst ys)/\ys=NV ((ms.take i).filter c)) ⟨h0,am hD,ag,rfl⟩ (fun i ys σ H _ z=>z.2.1 _ _ ha) ?_ ?_
 .rintro i k v ys σ H Kt Kf hx ⟨sh,sm,l0,rfl⟩ kt kf;rw[bJ] at hx;obtain⟨y,hy,e⟩:=vC.mp hx;obtain⟨rfl,rfl⟩:=Prod.mk.inj e;have tk:ms.take (i+1)=ms.take i++[y]:=jy hy;refine hs y σ H Kt Kf (dh hy) sh sm (fun σ2 H2 wO s2 e=>?_) (fun σ2 H2 wO s2 e=>?_)
  .refine kt _ _ _ (s2 _ _ l0) ?_ ⟨wO,bN (sm.trans s2) hD,ag,?_⟩
   .rw[aT];exact eZ (bj (ji _ _) (zm _ _)) (eZ hn (by decide))
   .rw[tk,j4,e8,e,ak rfl];exact iS (xs:=(ms.take i).filter c)
  .refine kf _ _ ⟨wO,sm.trans s2,s2 _ _ l0,?_⟩;rw[tk,j4,e8,e];simp
 .rintro ys σ H ⟨_,sm,l0,rfl⟩;rw[aP,gm] at l0;exact hd H sm l0
section
variable {P:Program} {w:World} {K:PySem.W.Frag} {mg:Str->Option Value} {base:Heap}
theorem yV:aA ["box","homes","stand","came","house","goes","letters","wishes","ways","way","same_lane","lesser_lane","free"] ["box","homes","stand","came","house","goes"] (ao ZO):=⟨rfl,rfl,rfl,by decide +kernel,rfl,by decide +kernel,by decide +kernel⟩
abbrev ot(ns homes:List Nat)(st cs:List (Option Nat))(h m:Nat)(G:Gf):Gf:=yP (l8 st h) (yQ ns homes h) (kg cs) (oo ns cs h) (L7 ns h) ns.length m G
def Qt(C CB:Addr):Sp:=fun vs H Q _=>∃ (L:Addr->Prop) (b ha sa xa ga:Addr) (ns homes:List Nat) (st cs:List (Option Nat)) (h:Nat) (G:Gf),vs=[.ref b,.ref ha,.ref sa,.ref xa,.int h,.ref ga]/\fg C CB H L b ns/\H ha=some (.tup (NV homes))/\H sa=some (.tup (st.map oV))/\H xa=some (.tup (cs.map oV))/\Sn ns homes st/\yC ns homes st (cs.map oV)/\h<pr ns/\H ga=some (.lst (f9 st.length G))/\
 ∀H',yR [ga] H H'->H' ga=some (.lst (f9 st.length (ot ns homes st cs h ns.length G)))->Q .bR H'
set_option maxHeartbeats 8000000 in
theorem Va{f C CB CE CT:Addr}{fd:FuncData}(F:eK K "hand_from" "hand_from" ZO f fd)(B:Bl mg)(hRv:mg "reversed"=none)(TB:Fh K mg CB)(MT:fD P w K mg base ba 6 CB "tied" ["self","house"] (LN C CB))(MY:fD P w K mg base (iE P w) 7 CB "way" ["self","one","other"] (yA K C CB CT))(MI:fD P w K mg base (iE P w) 7 CB "wish" ["self","house","home"] (C7 K C CB CE))(MS:fD P w K mg base ba 1 CB "sides" ["self"] (Qr C CB))(TW:cu P w K mg base ba 1 "take_wished" ["wishes","letters","free","goes"] Ql)(KL:cu P w K mg base ba 1 "keep_to_lane" ["came","letters","free","goes"] Qm):
  bi P w K mg base ba 8 f fd ["box","homes","stand","came","house","goes"] (Qt C CB):=by
 obtain⟨fT,fdT,mT,bT,GT⟩:=MT.ex;obtain⟨fY,fdY,mY,bY,GY⟩:=MY.ex;obtain⟨fI,YM,mI,bI,GI⟩:=MI.ex;obtain⟨fS,fdS,mS,bS,GS⟩:=MS.ex;refine F.ok yV (fun vs H Q E h=>?_) (fun dC A outer s H vs Q E hr h=>?_)
 .obtain⟨L,b,ha,sa,xa,ga,ns,homes,st,cs,h,G,rfl,_⟩:=h;rfl
 .obtain⟨L,b,ha,sa,xa,ga,ns,homes,st,cs,h,G,rfl,BA,vo,ny,uI,SN,BT,hh,hga,q⟩:=h;have h1:bL 1 _:=hr.mono (by decide);have h6:bL 6 _:=hr.mono (by decide);have h7:bL 7 _:=hr.mono (by decide);have Fc:=hr.u (n:=1);have BX:=BA.bx;obtain⟨dx,pn,sr,hb,N,fE⟩:=id BA.ob;have FI:=N.qw;have vn:=SN.vn;have l5:=BX.l5;have cl:cs.length=st.length:=by have:=BT.1;rwa [aP] at this
  have ZS:=NA BX FI SN BT hh;have LT:∀i∈l8 st h,Lt ns homes cs h i:=fun i hi=>ud BX SN BT (gJ.mp hi);refine'⟨_,(ah (dR (i:=6) (g:=(bW 0)) (tt:=(kO (oy Sa (oy (xL K) (br 1) (br 0)) (br 2)))) (te:=(br 0)) (NB:=["letter","stand","house"]) (src:=[none,some 2,some 4]) (cx (by kernel_rfl)) rfl (cj rfl B.range (aa (aI aM (by rfl) B.len ee (aa (pv 2) af)) af)) ?g1 ?t1 ?e1 yV.nd rfl rfl rfl)
   (ah (yG (i:=7) (g:=(bW 0)) (tt:=Gg) (tk:=(br 0)) (tv:=(B4 CB "wish" (C7 K C CB CE) [] E0 (br 1) (eE (br 2) (eE (oy (xL K) (br 3) (br 0)) mL)))) (NB:=["letter","box","house","homes"]) (src:=[none,some 0,some 4,some 1]) (cx (by kernel_rfl)) rfl (cU (pv 6)) ?g2 ?t2 ?k2 ?v2 yV.nd rfl rfl rfl)
   (ah (aW (i:=8) yV.nd rfl (Or.inr rfl) ?c3)
   (aj (cF d9 rfl (LU rfl hRv (aa (bX qa (by rfl) B.range PyProof.Rows.boot_range (aa (aI aM (by rfl) B.len ee (aa (se (pv 0) TB.cl mS GS h1 bS .nil aE) af)) af)) af)) (au (i:=9) yV.nd rfl (Or.inr rfl))
    (ah (dR (i:=10) (g:=(bW 0)) (tt:=(kO (oy Sa (Cv (br 1) (oy (xL K) (br 2) (br 0))) (br 3)))) (te:=(br 0)) (NB:=["letter","ways","came","way"]) (src:=[none,some 8,some 3,some 9]) (cx (by kernel_rfl)) rfl (cU (pv 6)) ?g4 ?t4 ?e4 yV.nd rfl rfl rfl)
    (ah (dR (i:=11) (g:=(bW 0)) (tt:=(kO (oy (JK fun i j=>.bl (decide (i<j))) (Cv (br 1) (oy (xL K) (br 2) (br 0))) (br 3)))) (te:=(br 0)) (NB:=["letter","ways","came","way"]) (src:=[none,some 8,some 3,some 9]) (cx (by kernel_rfl)) rfl (cU (pv 6)) ?g5 ?t5 ?e5 yV.nd rfl rfl rfl)
    (ah (dR (i:=12) (g:=(bW 0)) (tt:=(kO (oy Sa (Cv (br 1) (br 0)) (br 2)))) (te:=(br 0)) (NB:=["other","ways","way"]) (src:=[none,some 8,some 9]) (cx (by kernel_rfl)) rfl (IR (pv 8)) ?g6 ?t6 ?e6 yV.nd rfl rfl rfl)
    (ah (bG (av TW h1 aE (aa (pv 7) (aa (pv 10) (aa (pv 12) (aa (pv 5) af))))))
    (ah (bG (av KL h1 aE (aa (pv 3) (aa (pv 10) (aa (pv 12) (aa (pv 5) af))))))
    (aj (bG (av TW h1 aE (aa (pv 7) (aa (pv 11) (aa (pv 12) (aa (pv 5) af))))))))))))))))),?_⟩
  case c3=>
   refine' II (g:=(bW 0)) (tt:=Gg) (tk:=(br 0)) (tv:=(B4 CB "way" (yA K C CB CT) [] E0 (br 1) (eE (br 2) (eE (br 0) mL)))) (NB:=["other","box","house"]) (src:=[none,some 0,some 4]) (cx (by kernel_rfl)) rfl (cU (dg (pv 0) TB.cl mT GT h6 bT .nil aE (aa (pv 4) af))) ?g ?t ?k ?v;case g=>exact fun cl C s₃ H₃ fp=>(au (i:=0) Qo rfl (Or.inl rfl) (Or.inr rfl))
   case t=>exact fun cl C s₃ H₃ fp=>d_
   case k=>exact fun cl C s₃ H₃ fp=>(pv 0)
   case v=>exact fun cl C' s₃ H₃ fp=>(dg (pv 1) TB.cl mY GY h7 bY .nil kR (aa (pv 2) (aa (pv 0) af)))
  case g1=>exact fun cl C s₃ H₃ fp=>(au (i:=0) Qn rfl (Or.inl rfl) (Or.inr rfl))
  case t1=>exact fun cl C s₃ H₃ fp=>eT (aJ jn (a_ bD (pv 1) (pv 0) (fun _ _=>rfl)) (pv 2) (aQ _))
  case e1=>exact fun cl C s₃ H₃ fp=>(pv 0)
  case g2=>exact fun cl C s₃ H₃ fp=>(au (i:=0) L8 rfl (Or.inl rfl) (Or.inr rfl))
  case t2=>exact fun cl C s₃ H₃ fp=>d_
  case k2=>exact fun cl C s₃ H₃ fp=>(pv 0)
  case v2=>exact fun cl C' s₃ H₃ fp=>(dg (pv 1) TB.cl mI GI h7 bI .nil kR (aa (pv 2) (aa (a_ bD (pv 3) (pv 0) (fun _ _=>rfl)) af)))
  case g4=>exact fun cl C s₃ H₃ fp=>(au (i:=0) Do rfl (Or.inl rfl) (Or.inr rfl))
  case t4=>exact fun cl C s₃ H₃ fp=>eT (aJ jn (lH Fc (pv 1) (a_ bD (pv 2) (pv 0) (fun _ _=>rfl)) (fun _ _=>rfl)) (pv 3) (aQ _))
  case e4=>exact fun cl C s₃ H₃ fp=>(pv 0)
  case g5=>exact fun cl C s₃ H₃ fp=>(au (i:=0) Do rfl (Or.inl rfl) (Or.inr rfl))
  case t5=>exact fun cl C s₃ H₃ fp=>eT (aJ r0 (lH Fc (pv 1) (a_ bD (pv 2) (pv 0) (fun _ _=>rfl)) (fun _ _=>rfl)) (pv 3) (aQ _))
  case e5=>exact fun cl C s₃ H₃ fp=>(pv 0)
  case g6=>exact fun cl C s₃ H₃ fp=>(au (i:=0) Qp rfl (Or.inl rfl) (Or.inr rfl))
  case t6=>exact fun cl C s₃ H₃ fp=>eT (aJ jn (lH Fc (pv 1) (pv 0) (fun _ _=>rfl)) (pv 2) (aQ _))
  case e6=>exact fun cl C s₃ H₃ fp=>(pv 0)
  have Gr:∀ {H1:Hp},az H H1->bh K H1 sa (st.map oV):=fun s=>bh.of (s _ _ ny);refine⟨_,rfl,sa,_,rfl,.inr (bh.of ny),_,rfl,by rw[aP];lia,by rw[aP];lia,fun D1 Jb=>?_⟩;rw[aP];refine C8 (lo:=0) (n:=st.length) (fun j=>decide (st.getD j none=some h)) (fun σ=>∃u,σ=[u,some (.ref sa),some (.int (h:Int))]) Jb (by lia) ⟨_,rfl⟩ ?_ ?_
  .rintro j σ H5 Kt Kf hj ⟨u,rfl⟩ s5 kt kf;rw[fJ] at kt |-;refine⟨_,rfl,_,rfl,sa,_,_,_,rfl,rfl,Gr s5,aB (j_ hj),_,rfl,Bj,_,rfl,?_⟩;rw[ID];exact iD (fun c=>⟨_,rfl,kt _ _ ⟨_,rfl⟩ (az.refl _) c⟩) (fun c=>kf _ _ ⟨_,rfl⟩ (az.refl _) (iX.mpr c))
  intro H1 s1 Jc;rw[show (((List.range st.length).filter fun j=>decide (st.getD j none=some h)).map fun (x:Nat)=>V.int (0+(x:Int)))=NV (l8 st h) from kn fun x _=>by rw[fJ]] at Jc;have Nv:(l8 st h).length<=16:=bj (ji _ _) (by rw[dW];exact vn);have hen:(l8 st h).Nodup:=oK.filter _;refine⟨_,rfl,D1,rfl,⟨_,bo.of Jc⟩,fun D2 pQ=>?_⟩;refine yU (K:=K) (l8 st h) (fun i=>.int (yQ ns homes h i:Nat)) (fun σ=>∃u,σ=[u,some (.ref b),some (.int (h:Int)),some (.ref ha)]) Jc pQ hen (by lia) ⟨_,rfl⟩ ?_ ?_
  .rintro j σ H5 Kt hj ⟨u,rfl⟩ s5 kt;have xy:=s1.trans s5;have Lj:=LT j hj;refine⟨_,rfl,_,rfl,b,dx,_,rfl,xy _ _ hb,L9,_,rfl,_,rfl,_,rfl,ha,_,_,_,rfl,rfl,bh.of (xy _ _ vo),aB (qg (by rw[SN.l];exact oq hj)),L,b,ns,_,_,some (h:Int),some (homes.getD j 0:Nat),rfl,BA.same xy,g_,g_,(fun z=>by rw[dI hh,dI Lj.hg] at z;rcases z with z|z <;> cases z),fun h' g' _ _ e1 e2 H6 s6=>?_⟩;obtain rfl:h=h':=cR (bg e1);obtain rfl:homes.getD j 0=g':=cR (bg e2);rw[Lj.ws];exact kt _ _ ⟨_,rfl⟩ s6
  intro H2 s2 Qu;have mX:=s1.trans s2;have NE:=s2 _ _ Jc;refine⟨_,rfl,b,dx,_,rfl,mX _ _ hb,C_,_,rfl,L,b,ns,h,rfl,BA.same mX,hh,fun r H3 s3 Vb=>⟨r,rfl,⟨_,bo.of Vb⟩,fun D3 qy=>?_⟩⟩;have ut:=mX.trans s3;refine yU (K:=K) (dX (pr ns) (j9 ns) h) (fun y=>oV (iU ns h y)) (fun σ=>∃u,σ=[u,some (.ref b),some (.int (h:Int))]) Vb qy (mU hh) (by have h0:(dX (pr ns) (j9 ns) h).length<=pr ns:=bj (ji _ _) (by rw[aP,dW];exact aX _);have:=BX.Rz;lia) ⟨_,rfl⟩ ?_ ?_
  .rintro y σ H5 Kt hy ⟨u,rfl⟩ s5 kt;have xy:=ut.trans s5;have ht:((h:Int),(y:Int))∈j9 ns:=(eO FI hh).mp hy;have PQ:y<pr ns:=rR.mp (FI.rg _ ht).2.2;have PU:=(IA BX hh PQ).mpr ((lN BX.pos hh PQ).mp ht);refine⟨_,rfl,_,rfl,b,dx,_,rfl,xy _ _ hb,Iz,_,rfl,_,rfl,L,b,ns,_,_,some (h:Int),some (y:Int),rfl,BA.same xy,g_,g_,(fun z=>by rw[PU] at z;cases z),fun h' y' _ _ e1 e2 _ H6 s6=>?_⟩;obtain rfl:h=h':=cR (bg e1);obtain rfl:y=y':=cR (bg e2);exact kt _ _ ⟨_,rfl⟩ s6
  intro H4 s4 Ey;have P1:=s3.trans s4;have yW:=mX.trans P1;refine⟨_,rfl,b,dx,_,rfl,yW _ _ hb,Ja,L,b,ns,rfl,BA.same yW,fun sr fE=>⟨sr,_,rfl,.inr (bh.of fE),_,rfl,fun rp hrp=>⟨rp,ns.length,rfl,by rw[ag,aT],by lia,?_⟩⟩⟩;have RE:=am (o:=.BQ 0 ((NV ns).length:Nat)) hrp;have xy:=yW.trans RE;generalize ZT:upd H4 rp (.BQ 0 ((NV ns).length:Nat))=H5 at RE xy |-;clear ZT;have d1:=RE _ _ (P1 _ _ NE);have d2:=RE _ _ (P1 _ _ Qu);have d3:=RE _ _ Ey;have g5:=xy _ _ hga;have n3g:D3≠ga:=dH d3 g5 (fun z=>nomatch z);have n1g:D1≠ga:=fun z=>by rw[z,hga] at Jb;cases Jb
  have ZU:D2≠D3:=fun z=>by rw[<-z,s3 _ _ Qu] at qy;cases qy
  have Ys:D1≠D3:=dH d1 d3 (fun z=>nomatch z);have ZV:D2≠ga:=dH d2 g5 (fun z=>nomatch z);have ngg:∀ {a:Addr} {ys:List V},H5 a=some (.tup ys)->a≠ga/\a≠D3:=fun e=>⟨dH e g5 (fun z=>nomatch z),dH e d3 (fun z=>nomatch z)⟩
  have x5:=xy _ _ uI;obtain⟨nxg,ZW⟩:=ngg x5;have n3:H D3=none:=by
   cases e:H D3 with
   |none=>rfl
   |some u=>rw[ut _ _ e] at qy;cases qy
  clear Jb pQ qy hrp Gr s1 s2 s3 s4 mX ut yW P1 RE Jc NE Qu Ey Vb fE;have rd0:Rd H5 D3 (.dK ((dX (pr ns) (j9 ns) h).map fun (n:Nat)=>((.inl (n:Int):fR),oV (iU ns h n)))):=.inl d3;refine IQ (hi:=(ns.length:Int)-1) (n:=ns.length) (fun i σ H6=>(∃u9 ZX ZY ZZ,σ=[some (.ref b),some (.ref ha),some (.ref sa),some (.ref xa),some (.int (h:Int)),some (.ref ga),some (.ref D1),some (.ref D2),some (.ref D3),u9,ZX,ZY,ZZ])/\yR [D3,ga] H5 H6/\Rd H6 D3 (.dK ((dX (pr ns) (j9 ns) h).map fun (n:Nat)=>((.inl (n:Int):fR),oV (iU ns h n))))/\H6 ga=some (.lst (f9 st.length (ot ns homes st cs h i G)))) ⟨⟨_,_,_,_,rfl⟩,.refl,rd0,g5⟩ ?_ ?_
  .rintro i σ H6 hi ⟨⟨u9,ZX,ZY,ZZ,rfl⟩,k6,WP,g6⟩;have hk:ns.length-1-i<ns.length:=by lia
   rw[show ((ns.length:Int)-1-(i:Int))=((ns.length-1-i:Nat):Int) by lia];have Vc:ot ns homes st cs h (i+1) G=t9 (l8 st h) (yQ ns homes h) (kg cs) (oo ns cs h) (L7 ns h (ns.length-1-i)) (ns.length-1-i) (ot ns homes st cs h i G):=rfl;rw[Vc];generalize ot ns homes st cs h i G=G1 at *;clear Vc hi;generalize ns.length-1-i=k at *;have x6:H6 xa=some (.tup (cs.map oV)):=k6 _ _ x5 (by simp[nxg,ZW]);have e1:H6 D1=some (.lst (NV (l8 st h))):=k6 _ _ d1 (by simp[n1g,Ys]);have e2:=k6 _ _ d2 (by simp[ZU,ZV]);have LK:∀j∈l8 st h,kg cs j∈dX (pr ns) (j9 ns) h/\iU ns h (kg cs j)=some (oo ns cs h j):=fun j hj=>by
    have Lj:=LT j hj;have hl:oo ns cs h j<ns.length:=eZ Lj.le Lj.pl;exact⟨(bE.mp ((uc BX FI hh hl).mpr Lj.ct)).1,gW Lj.ct⟩
   have gx:∀ {H7:Hp} {j:Nat},j∈l8 st h->az H6 H7->bh K H7 xa (cs.map oV)/\(cs.map oV)[j]?=some (.int (kg cs j:Nat))/\∀H8,(∀o,H6 D3=some o->H8 D3=some o)->x0 H8 D3 (.int (kg cs j:Nat)) (some (.int (oo ns cs h j:Nat))):=fun {H7 j} hj s7=>by
    obtain⟨l1,l2⟩:=LK j hj;refine⟨bh.of (s7 _ _ x6),by rw[j_ (by rw[cl];exact oq hj),(LT j hj).cm];rfl,fun H8 s8=>.inl ⟨_,.inl (kg cs j:Nat),WP.elim (fun z=>.inl (s8 _ z)) (fun ⟨o,z⟩=>.inr ⟨o,s8 _ z⟩),rfl,?_⟩⟩;rw[q0 (f:=fun n=>oV (iU ns h n)) l1,l2];rfl
   refine⟨_,rfl,D1,rfl,⟨_,bo.of e1⟩,fun D4 yv=>?_⟩;refine om (l8 st h) (fun (j:Nat)=>V.int (j:Int)) (fun j=>decide (oo ns cs h j=k)) (fun (j:Nat)=>V.int (j:Int)) (fun σ=>∃u,σ=[u,some (.ref D3),some (.ref xa),some (.int (k:Int))]) e1 yv (by lia) ⟨_,rfl⟩ ?_ ?_
   .rintro j σ H7 Kt Kf hj ⟨u,rfl⟩ s7 kt kf;obtain⟨t1,t2,t3⟩:=gx hj s7;refine⟨_,rfl,_,rfl,_,rfl,xa,_,_,_,rfl,rfl,t1,aB t2,D3,_,rfl,t3 _ (s7 _),_,rfl,rfl,_,rfl,?_⟩;rw[show decide (V.int ((oo ns cs h j:Nat):Int)=V.int (k:Int))=decide (oo ns cs h j=k) from rF.mpr ⟨fun z=>by injection z with z;exact cR z,fun z=>by rw[z]⟩];exact iD (fun c=>⟨_,rfl,kt _ _ ⟨_,rfl⟩ (az.refl _) c⟩) (fun c=>kf _ _ ⟨_,rfl⟩ (az.refl _) (iX.mpr c))
   intro H7 s7 f4;have f4:H7 D4=some (.lst (NV (d8 (l8 st h) (oo ns cs h) k))):=f4;refine⟨_,rfl,D1,rfl,⟨_,bo.of (s7 _ _ e1)⟩,fun D5 ur=>?_⟩;refine om (l8 st h) (fun (j:Nat)=>V.int (j:Int)) (fun j=>decide (oo ns cs h j<k)) (fun (j:Nat)=>V.int (j:Int)) (fun σ=>∃u,σ=[u,some (.ref D3),some (.ref xa),some (.int (k:Int))]) (s7 _ _ e1) ur (by lia) ⟨_,rfl⟩ ?_ ?_
   .rintro j σ H8 Kt Kf hj ⟨u,rfl⟩ s8 kt kf;have s78:=s7.trans s8;obtain⟨t1,t2,t3⟩:=gx hj s78;refine⟨_,rfl,_,rfl,_,rfl,xa,_,_,_,rfl,rfl,t1,aB t2,D3,_,rfl,t3 _ (s78 _),_,rfl,_,_,rfl,rfl,_,rfl,?_⟩;rw[show decide (((oo ns cs h j:Nat):Int)<(k:Int))=decide (oo ns cs h j<k) from rF.mpr rR];exact iD (fun c=>⟨_,rfl,kt _ _ ⟨_,rfl⟩ (az.refl _) c⟩) (fun c=>kf _ _ ⟨_,rfl⟩ (az.refl _) (iX.mpr c))
   intro H8 s8 f5;have f5:H8 D5=some (.lst (NV (xg (l8 st h) (oo ns cs h) k))):=f5;have Z0:=s7.trans s8;refine⟨_,rfl,D3,_,rfl,WP.elim (fun z=>.inl (Z0 _ _ z)) (fun ⟨o,z⟩=>.inr ⟨o,Z0 _ _ z⟩),fun o H9 h9 k9 D6 tm=>?_⟩;have RF:∀ {a:Addr} {u:HO},a≠D3->H6 a=some u->H9 a=some u:=fun n e=>by rw[k9 _ n];exact Z0 _ _ e
   refine Mb (dX (pr ns) (j9 ns) h) (fun y=>oV (iU ns h y)) (fun y=>decide (iU ns h y=some k)) (fun σ=>∃u,σ=[u,some (.ref D3),some (.int (k:Int))]) h9 tm (by have h0:(dX (pr ns) (j9 ns) h).length<=pr ns:=bj (ji _ _) (by rw[aP,dW];exact aX _);have:=BX.Rz;lia) ⟨_,rfl⟩ ?_ ?_
   .rintro y σ Z1 Kt Kf hy ⟨u,rfl⟩ JV kt kf;refine⟨_,rfl,_,rfl,D3,_,rfl,.inl ⟨_,.inl (y:Int),.inr ⟨_,JV _ _ h9⟩,rfl,(q0 (f:=fun n=>oV (iU ns h n)) hy).symm⟩,_,rfl,Bj,_,rfl,?_⟩;rw[ID];exact iD (fun c=>⟨_,rfl,kt _ _ ⟨_,rfl⟩ (az.refl _) c⟩) (fun c=>kf _ _ ⟨_,rfl⟩ (az.refl _) (iX.mpr c))
   intro Z1 JV f6;have f6:Z1 D6=some (.lst (NV (L7 ns h k))):=f6;obtain⟨o3,ho3⟩:∃u,H6 D3=some u:=WP.elim (fun z=>⟨_,z⟩) fun ⟨o,z⟩=>⟨_,z⟩;have n43:D4≠D3:=fun z=>by rw[z,ho3] at yv;cases yv
   have n53:D5≠D3:=fun z=>by rw[z,s7 _ _ ho3] at ur;cases ur
   have n63:D6≠D3:=fun z=>by rw[z,h9] at tm;cases tm
   have g9:=RF (ck n3g) g6;have Z2:D4≠ga:=fun z=>by rw[z,g6] at yv;cases yv
   have Z3:D5≠ga:=fun z=>by rw[z,s7 _ _ g6] at ur;cases ur
   have Z4:D6≠ga:=fun z=>by rw[z,g9] at tm;cases tm
   have Z5:H9 D4=some (.lst (NV (d8 (l8 st h) (oo ns cs h) k))):=by rw[k9 _ n43];exact s8 _ _ f4
   have c59:H9 D5=some (.lst (NV (xg (l8 st h) (oo ns cs h) k))):=by rw[k9 _ n53];exact f5
   have Z6:D4≠D6:=fun z=>by rw[<-z,Z5] at tm;cases tm
   have Z7:D5≠D6:=fun z=>by rw[<-z,c59] at tm;cases tm
   have c2:=JV _ _ (RF ZU e2);have n26:D2≠D6:=fun z=>by rw[<-z,RF ZU e2] at tm;cases tm
   have nx6:xa≠D6:=fun z=>by rw[<-z,RF ZW x6] at tm;cases tm
   have c3:=JV _ _ h9;have own:∀j∈d8 (l8 st h) (oo ns cs h) k,j∈l8 st h:=fun j hj=>(bE.mp hj).1;have les:∀j∈xg (l8 st h) (oo ns cs h) k,j∈l8 st h:=fun j hj=>(bE.mp hj).1;have wv:∀j∈l8 st h,kW ((l8 st h).map fun (n:Nat)=>((.inl (n:Int):fR),V.int ((yQ ns homes h n:Nat):Int))) (.inl (j:Int))=some (.int (yQ ns homes h j:Nat)):=fun j hj=>q0 (f:=fun n=>V.int ((yQ ns homes h n:Nat):Int)) hj;refine⟨_,rfl,_,rfl,_,rfl,_,rfl,D2,D4,D6,ga,_,yQ ns homes h,_,_,st.length,G1,rfl,c2,fun j hj=>wv j (own j hj),JV _ _ Z5,f6,JV _ _ g9,Z6,Z2,Z4,fun j hj=>oq (own j hj),fun H11 Vd f11 g11=>?_⟩;have KI1:=ZS.own hk (g:=G1);rw[iW _ _ _ _ (ZS.tn k hk).1] at f11 g11;refine⟨_,rfl,_,rfl,_,rfl,_,rfl,xa,D4,D6,ga,cs,_,_,st.length,_,rfl,Vd _ _ (JV _ _ (RF ZW x6)) (by simp[nx6,nxg]),fun j hj=>(LT j (own j hj)).cm,Vd _ _ (JV _ _ Z5) (by simp[Z6,Z2]),f11,g11,Z6,Z2,Z4,fun j hj=>⟨oq (own j hj),by rw[cl];exact oq (own j hj)⟩,KI1,fun H12 Z8 f12 g12=>?_⟩;refine⟨_,rfl,_,rfl,_,rfl,_,rfl,D2,D5,D6,ga,_,yQ ns homes h,_,_,st.length,_,rfl,Z8 _ _ (Vd _ _ c2 (by simp[n26,ZV])) (by simp[n26,ZV]),fun j hj=>wv j (les j hj),Z8 _ _ (Vd _ _ (JV _ _ c59) (by simp[Z7,Z3])) (by simp[Z7,Z3]),f12,g12,Z7,Z3,Z4,fun j hj=>oq (les j hj),fun H13 k13 f13 g13=>?_⟩;have kk:yR [D6,ga] Z1 H13:=(Vd.trans Z8).trans k13;refine⟨⟨_,_,_,_,rfl⟩,fun b' u e jq=>?_,.inr ⟨_,kk _ _ c3 (by simp[ck n63,n3g])⟩,?_⟩
   .have Nm:b'≠D3:=fun z=>jq (by simp[z]);have TQ:b'≠ga:=fun z=>jq (by simp[z]);have e9:=RF Nm (k6 _ _ e jq);have WH:b'≠D6:=fun z=>by rw[<-z,e9] at tm;cases tm
    exact kk _ _ (JV _ _ e9) (by simp[TQ,WH])
   .rw[g13];unfold t9;rw[iW _ _ _ _ (ZS.tn k hk).1]
  .rintro σ H6 ⟨⟨u9,ZX,ZY,ZZ,rfl⟩,k6,WP,g6⟩;refine q H6 (fun b' o e jq=>?_) g6;have Nm:b'≠D3:=fun z=>by rw[<-z,e] at n3;cases n3
   have TQ:b'≠ga:=fun z=>jq (by simp[z]);exact k6 _ _ (xy _ _ e) (by simp[Nm,TQ])
end
theorem q9:∀ (ns ks:List Int),ks.Nodup->(ns.foldl (fun ks i=>if i∈ks then ks else ks++[i]) ks).Nodup/\∀i,i∈ns.foldl (fun ks i=>if i∈ks then ks else ks++[i]) ks↔i∈ks\/i∈ns
 |[],ks,h=>⟨h,fun i=>⟨.inl,fun z=>z.elim id fun z=>(nomatch z)⟩⟩
 |n::ns,ks,h=>by
  rw[iJ];by_cases c:n∈ks
  .rw[ak c];obtain⟨a,b⟩:=q9 ns ks h;refine⟨a,fun i=>(b i).trans ⟨fun z=>z.imp id (bU _),fun z=>z.elim .inl fun z=>(aV.mp z).elim (fun e=>.inl (e ▸ c)) .inr⟩⟩
  .rw[aq c];obtain⟨a,b⟩:=q9 ns (ks++[n]) (rC.mpr ⟨h,dq.mpr ⟨fun z=>(nomatch z),gQ⟩,fun a ha b hb e=>c (by rw[<-dL.mp hb,<-e];exact ha)⟩);refine⟨a,fun i=>(b i).trans ?_⟩;rw[dO,dL,aV,or_assoc]
theorem Mc(ns:List Int):(iV ns).Nodup/\∀i,i∈iV ns↔i∈ns:=
 ⟨(q9 ns [] gQ).1,fun i=>((q9 ns [] gQ).2 i).trans ⟨fun z=>z.elim (fun z=>(nomatch z)) id,.inr⟩⟩
def BH(ns homes:List Nat)(st cs:List (Option Nat))(hs:List Nat)(G:Gf):Gf:=hs.foldl (fun G h=>ot ns homes st cs h ns.length G) G
theorem Jd{ns homes:List Nat}{st cs:List (Option Nat)}:∀ {hs:List Nat} {G:Gf} {i:Nat},hs.Nodup->(∀j,G j=none\/∀h∈hs,st.getD j none≠some h)->BH ns homes st cs hs G i=match st.getD i none with
  |none=>G i
  |some h=>if h∈hs then ot ns homes st cs h ns.length (fun _=>none) i else G i
 |[],G,i,_,_=>by cases st.getD i none <;> simp[BH]
 |h0::hs,G,i,nd,hG=>by
  obtain⟨n1,n2⟩:=dq.mp nd;have e0:BH ns homes st cs (h0::hs) G=BH ns homes st cs hs (ot ns homes st cs h0 ns.length G):=rfl;have Z9:∀j,st.getD j none≠some h0->ot ns homes st cs h0 ns.length G j=G j:=fun j hj=>Dk (fun z=>hj (gJ.mp z)) _;rw[e0,Jd n2 fun j=>?_]
  .cases e:st.getD i none with
   |none=>exact Z9 i (by rw[e];exact fun z=>nomatch z)
   |some h=>
    dsimp only;by_cases c:h=h0
    .subst c;rw[aq n1,ak bV];refine Dj (fun j hj=>?_) _ i (gJ.mpr e);rcases hG j with z|z
     .exact z
     .exact absurd (gJ.mp hj) (z h bV)
    .rw[Z9 i (by rw[e];exact fun z=>c (bg z))];exact UR ⟨fun z=>bU _ z,fun z=>(aV.mp z).resolve_left c⟩
  .by_cases c:st.getD j none=some h0
   .right;intro h hh z;rw[c] at z;exact n1 (bg z ▸ hh)
   .rw[Z9 j c];exact(hG j).imp id fun z h hh=>z h (bU _ hh)
theorem Qv{ns homes:List Nat}{st cs:List (Option Nat)}{hs:List Nat}(nd:hs.Nodup)(hm:∀i h,st.getD i none=some h->h∈hs):BH ns homes st cs hs (fun _=>none)=nA ns homes st cs:=by
 funext i;rw[Jd nd fun j=>.inl rfl];unfold nA;cases e:st.getD i none with
 |none=>rfl
 |some h=>exact ak (hm i h e)
theorem EV{n:Nat}:f9 n (fun _=>none)=List.replicate n V.bR:=by
 unfold f9;exact List.map_const' .. |>.trans (by rw[dW];rfl)
section
variable {P:Program} {w:World} {K:PySem.W.Frag} {mg:Str->Option Value} {base:Heap}
theorem Md:(["home"]:List Str).Nodup:=by decide +kernel
theorem Ve:(["letter","stand"]:List Str).Nodup:=by decide +kernel
def Je(K:PySem.W.Frag)(C CB:Addr):Sp:=fun vs H Q _=>∃ (L:Addr->Prop) (b ha sa xa:Addr) (ns homes:List Nat) (st cs:List (Option Nat)),vs=[.ref b,.ref ha,.ref sa,.ref xa]/\fg C CB H L b ns/\H ha=some (.tup (NV homes))/\H sa=some (.tup (st.map oV))/\H xa=some (.tup (cs.map oV))/\Sn ns homes st/\yC ns homes st (cs.map oV)/\
 ∀ (r:Addr) (H':Hp),az H H'->H' r=some (.tup (f9 st.length (nA ns homes st cs)))->Q (.ref r) H'
theorem NF{H:Hp}{cs:List (Option Nat)}:∀x∈cs.map oV,∃o,Be K H x o:=fun x hx=>by
 obtain⟨o,_,rfl⟩:=a9.mp hx;cases o with
 |none=>exact⟨none,fun H' _=>.no ⟨_,.of .bR,.inl rfl⟩⟩
 |some y=>exact⟨_,g_⟩
set_option maxHeartbeats 8000000 in
theorem Qw{f C CB:Addr}{fd:FuncData}(F:eK K "lane_hand" "lane_hand" Zj f fd)(B:Bl mg)(CK:cu P w K mg base ba 10 "check_berthed" ["box","homes","stand","came"] (I0 K C CB))(UW:cu P w K mg base ba 1 "under_way" ["stand"] Qs)(HF:cu P w K mg base ba 8 "hand_from" ["box","homes","stand","came","house","goes"] (Qt C CB)):bi P w K mg base ba 11 f fd ["box","homes","stand","came"] (Je K C CB):=by
 refine F.ok PV (fun vs H Q E h=>?_) (fun dC A outer s H vs Q E hr h=>?_)
 .obtain⟨L,b,ha,sa,xa,ns,homes,st,cs,rfl,_⟩:=h;rfl
 .obtain⟨L,b,ha,sa,xa,ns,homes,st,cs,rfl,BA,vo,ny,uI,SN,BT,q⟩:=h;have h1:bL 1 _:=hr.mono (by decide);have h8:bL 8 _:=hr.mono (by decide);have vn:=SN.vn;refine'⟨_,(ah (bG (av CK hr aE (aa (pv 0) (aa (pv 1) (aa (pv 2) (aa (pv 3) af))))))
   (ah (dR (i:=4) (g:=(bW 0)) (te:=(tC .bR)) (NB:=["home"]) (src:=[none]) (cx (by kernel_rfl)) rfl (mJ (pv 1)) ?g1 ?t1 ?e1 PV.nd rfl rfl rfl)
   (ah (cF d9 rfl (cU (aI (Bw rfl) (by rfl) B.sorted zc (aa (bX (Bv rfl) (by rfl) B.set PyProof.Rows.boot_set (aa ?c2 af)) af))) (au (i:=5) PV.nd rfl (Or.inl rfl))
    (aj (bG (av HF h8 aE (aa (pv 0) (aa (pv 1) (aa (pv 2) (aa (pv 3) (aa (pv 5) (aa (pv 4) af))))))))))
   (aj (aF (bX b_ (by rfl) B.tup jh (aa (pv 4) af))))))),?_⟩
  case g1=>exact fun cl C s₃ H₃ fp=>(au (i:=0) Md rfl (Or.inl rfl) (Or.inr rfl))
  case t1=>exact fun cl C s₃ H₃ fp=>d_
  case e1=>exact fun cl C s₃ H₃ fp=>cn
  case c2=>
   refine' dQ (g:=(bW 0)) (te:=(oy (xL K) (br 1) (br 0))) (NB:=["letter","stand"]) (src:=[none,some 2]) (cx (by kernel_rfl)) rfl (cU (av UW h1 aE (aa (pv 2) af))) ?g ?t ?e;case g=>exact fun cl C s₃ H₃ fp=>(au (i:=0) Ve rfl (Or.inl rfl) (Or.inr rfl))
   case t=>exact fun cl C s₃ H₃ fp=>d_
   case e=>exact fun cl C s₃ H₃ fp=>(a_ bD (pv 1) (pv 0) (fun _ _=>rfl))
  refine⟨_,rfl,_,rfl,_,rfl,_,rfl,L,b,ha,sa,xa,ns,homes,st,_,rfl,BA,vo,ny,uI,SN,NF,BT,fun H1 s1=>?_⟩;have a1:=s1 _ _ vo;refine⟨_,rfl,ha,rfl,⟨_,bh.of a1⟩,fun D1 Jb=>?_⟩;rw[show (NV homes)=homes.map (fun (n:Nat)=>V.int (n:Int)) from rfl] at a1;refine HY (xs:=NV homes) (fun i ys σ H2=>(∃u,σ=[u])/\az H1 H2/\H2 D1=some (.lst ys)/\ys=List.replicate i V.bR) ⟨⟨_,rfl⟩,am Jb,ag,rfl⟩ (fun i ys σ H2 _ z=>bh.of (z.2.1 _ _ a1)) ?_ ?_
  .rintro i x ys σ H2 Kt Kf hx ⟨⟨u,rfl⟩,s2,d2,rfl⟩ kt kf;have hi:=(cW.mp hx).1;rw[aT,SN.l] at hi;exact kt _ _ _ d2 (by rw[me];exact bA (show i<17 by lia) (by decide)) ⟨⟨_,rfl⟩,bN s2 Jb,ag,zk.symm⟩
  rintro ys σ H2 ⟨⟨u,rfl⟩,s2,d2,rfl⟩;rw[aT,SN.l,<-EV] at d2;have mX:=s1.trans s2;have nD:H D1=none:=by
   cases e:H D1 with
   |none=>rfl
   |some u=>rw[s1 _ _ e] at Jb;cases Jb
  refine⟨_,rfl,sa,st,rfl,mX _ _ ny,vn,fun D2 H3 s3 _ f2=>⟨D2,rfl,⟨_,bo.of f2⟩,fun D3 qy=>?_⟩⟩;have ut:=mX.trans s3;refine om (yS st st.length) (fun (j:Nat)=>V.int (j:Int)) (fun _=>true) (fun (j:Nat)=>V.int (((st.getD j none).getD 0:Nat):Int)) (fun σ=>∃u,σ=[u,some (.ref sa)]) f2 qy (bj qZ (by lia)) ⟨_,rfl⟩ ?_ ?_
  .rintro j σ H4 Kt Kf hj ⟨u,rfl⟩ s4 kt kf;obtain⟨EH,LO⟩:=bE.mp hj;have EH:=dt.mp EH;refine⟨_,rfl,_,rfl,sa,_,_,_,rfl,rfl,bh.of (s4 _ _ (ut _ _ ny)),aB (j_ EH),?_⟩;cases e:st.getD j none with
   |none=>rw[e] at LO;cases LO
   |some h=>
    have:=kt [some (.int (j:Int)),some (.ref sa)] H4 ⟨_,rfl⟩ (az.refl _) rfl;rw[e] at this;exact this
  intro H4 s4 f3;have yW:=ut.trans s4;have f3:H4 D3=some (.lst ((((yS st st.length).filter fun _=>true).map fun j=>(((st.getD j none).getD 0:Nat):Int)).map V.int)):=by rw[f3,fj];rfl
  rw[List.filter_eq_self.mpr fun _ _=>rfl] at f3;refine⟨D3,_,rfl,bo.of f3,by rw[aP];exact bj qZ (by lia),fun S hS=>?_⟩;obtain⟨o1,o2⟩:=Mc ((yS st st.length).map fun j=>(((st.getD j none).getD 0:Nat):Int));have ol:(iV ((yS st st.length).map fun j=>(((st.getD j none).getD 0:Nat):Int))).length<=17:=by
   refine bj (Dh o1 fun x hx=>(o2 x).mp hx) ?_;rw[aP];exact bj qZ (by lia)
  refine⟨S,_,rfl,ag,ol,fun D4 hs yv hp=>⟨D4,rfl,⟨_,bo.of ag⟩,?_⟩⟩;have uC:∀z,z∈hs↔∃i h,st.getD i none=some h/\z=(h:Int):=fun z=>by
   rw[hp.mem_iff,o2,a9];constructor
   .rintro⟨j,hj,rfl⟩;obtain⟨_,LO⟩:=bE.mp hj;cases e:st.getD j none with
    |none=>rw[e] at LO;cases LO
    |some h=>exact⟨j,h,e,rfl⟩
   .rintro⟨i,h,e,rfl⟩;exact⟨i,bE.mpr ⟨dt.mpr (oq (gJ.mpr e)),by rw[e];rfl⟩,by rw[e];rfl⟩
  have eh:hs=(hs.map Int.toNat).map fun (n:Nat)=>(n:Int):=by
   rw[fj];refine Eq.trans (jG hs).symm (kn fun z hz=>?_);obtain⟨_,h,_,rfl⟩:=(uC z).mp hz;rfl
  have hnd:(hs.map Int.toNat).Nodup:=by
   have h0:hs.Nodup:=hp.nodup_iff.mpr o1;unfold List.Nodup;rw[j5];refine h0.imp_of_mem fun {x y} hx hy ne e=>ne ?_;obtain⟨_,h,_,rfl⟩:=(uC x).mp hx;obtain⟨_,h',_,rfl⟩:=(uC y).mp hy;rw[mn,mn] at e;rw[e]
  have pK:∀h∈hs.map Int.toNat,∃i,st.getD i none=some h:=fun h hh=>by
   obtain⟨z,hz,rfl⟩:=a9.mp hh;obtain⟨i,h,e,rfl⟩:=(uC z).mp hz;exact⟨i,e⟩
  have hal:∀i h,st.getD i none=some h->h∈hs.map Int.toNat:=fun i h e=>a9.mpr ⟨(h:Int),(uC _).mpr ⟨i,h,e,rfl⟩,rfl⟩;generalize hs.map Int.toNat=hn at *;have eV:hs.map V.int=NV hn:=by rw[eh,uf]
  rw[eV];have yv:(upd H4 S (tZ P w S (iV ((yS st st.length).map fun j=>(((st.getD j none).getD 0:Nat):Int))))) D4=none:=yv;have s5:=(am (o:=tZ P w S (iV ((yS st st.length).map fun j=>(((st.getD j none).getD 0:Nat):Int)))) hS).trans (am (o:=.lst (NV hn)) yv);have f4:(upd (upd H4 S (tZ P w S (iV ((yS st st.length).map fun j=>(((st.getD j none).getD 0:Nat):Int))))) D4 (.lst (NV hn))) D4=some (.lst (NV hn)):=ag;generalize ZT:upd (upd H4 S (tZ P w S (iV ((yS st st.length).map fun j=>(((st.getD j none).getD 0:Nat):Int))))) D4 (.lst (NV hn))=H5 at s5 f4;have xy:=yW.trans s5;have d5:=s5 _ _ (s4 _ _ (s3 _ _ d2));have n41:D4≠D1:=fun z=>by
   have e4:=s4 _ _ (s3 _ _ d2);rw[<-z] at e4;have:=(am (o:=tZ P w S (iV ((yS st st.length).map fun j=>(((st.getD j none).getD 0:Nat):Int)))) hS) _ _ e4;rw[yv] at this;cases this
  subst ZT;refine jm (K:=K) (a:=D4) (xs:=NV hn) (H:=upd (upd H4 S (tZ P w S (iV ((yS st st.length).map fun j=>(((st.getD j none).getD 0:Nat):Int))))) D4 (.lst (NV hn))) (fun i σ H6=>(∃u,σ=[some (.ref b),some (.ref ha),some (.ref sa),some (.ref xa),some (.ref D1),u])/\yR [D1] (upd (upd H4 S (tZ P w S (iV ((yS st st.length).map fun j=>(((st.getD j none).getD 0:Nat):Int))))) D4 (.lst (NV hn))) H6/\H6 D1=some (.lst (f9 st.length (BH ns homes st cs (hn.take i) (fun _=>none))))) ⟨⟨_,rfl⟩,.refl,d5⟩ (fun i σ H6 _ z=>bo.of (z.2.1 _ _ f4 (by simp[n41]))) ?_ ?_
  .rintro i x σ H6 hx ⟨⟨u,rfl⟩,k6,g6⟩;have jA:(NV hn)[i]?=some x:=hx;rw[bJ] at jA;cases BG:hn[i]? with
   |none=>rw[BG] at jA;cases jA
   |some h=>
   rw[BG] at jA;obtain rfl:V.int (h:Int)=x:=bg jA;obtain⟨j,ej⟩:=pK h (dh BG);have to:∀ {c:Addr} {o:HO},H c=some o->H6 c=some o:=fun {c o} e=>k6 _ _ (xy _ _ e) (by
    have:c≠D1:=fun z=>by rw[z,nD] at e;cases e
    simp[this])
   have sT:az H H6:=fun c o e=>to e;refine⟨_,rfl,_,rfl,_,rfl,_,rfl,_,rfl,_,rfl,L,b,ha,sa,xa,D1,ns,homes,st,cs,h,_,rfl,BA.same sT,to vo,to ny,to uI,SN,BT,(SN.ok j h ej).1,g6,fun H7 k7 g7=>⟨⟨_,rfl⟩,k6.trans k7,?_⟩⟩;rw[g7,jy BG];unfold BH;rw[vN];rfl
  .rintro σ H6 ⟨⟨u,rfl⟩,k6,g6⟩;rw[aT,gm,Qv hnd hal] at g6;refine⟨_,rfl,D1,_,rfl,.inl ⟨bo.of g6,fun r hr=>q r _ (fun c o e=>?_) ag⟩⟩;have n1:c≠D1:=fun z=>by rw[z,nD] at e;cases e
   exact am (o:=.tup (f9 st.length (nA ns homes st cs))) hr _ _ (k6 _ _ (xy _ _ e) (by simp[n1]))
end
end tf
namespace L2
open PySem PySem.Spec PyProof.Rows
theorem aG.Vf{X:Cx}{ae:List (Addr×Obj)}{σ:St}{H:Hp}{s:Shared}{h':Heap}{m:Str->Option Value}{t':Nat}(I:aG X ae σ H s)(F:Fr X.base X.env.locals s.heap m)(F':Fr X.base X.env.locals h' m)(N':News X.base X.env.locals h' (iL X.base s.heap X.env.locals)):aG X ae σ H { s with heap:=h',toks:=t' }:=by
 have keep:∀b u,b≠X.env.locals->s.heap.get? b=some u->h'.get? b=some u:=fun b u hb e=>by
  cases q:X.base.get? b with
  |some v=>
   have:=I.bk b v q;rw[e] at this;cases this;exact F'.keep b _ q
  |none=>exact(N' (b,u) (iM hb q e)).1
 refine I.step (g':=s.gens) (d':=s.drawn) (ch:=[]) (fun _ z=>absurd z (by simp)) (fun b u hb _ _ e _=>keep b u hb e) (fun b u hb _ _ e _=>⟨u.slots,keep b u hb e⟩) (fun b u _ e n=>n) (fun b u _ e=>?_)
  (fun b xs e=>e) (fun b u v e=>e) (fun b ps e=>⟨#[],by rw[e];simp⟩) (fun m1 hm=>by rw[Cf hm F.ns];exact F'.ns) (fun b u e=>?_) I.bare
 .by_cases hb:b=X.env.locals
  .obtain⟨o',_,_,q,_⟩:=F'.ns;exact⟨o',by rw[hb];exact q⟩
  .exact⟨u,keep b u hb e⟩
 .refine(I.cf b u e).nJ (fun c v hc q=>keep c v ?_ q) (fun c q=>q) fun c xs q=>q;rintro rfl;rcases hc with z|hc
  .have f:=I.free;rw[z,e] at f;cases f
  .rw[I.free] at hc;cases hc
def Z_(K:PySem.W.Frag):List V->Hp->VK->Prop:=fun xs H Q=>∃ (l:Addr) (ns:List Int),xs=[.ref l]/\bo K H l (ns.map V.int)/\Q (.int ns.sum) H
theorem Jf{X:Cx}(hc:X.calm=true):fm X (.builtin "sum") (Z_ X.K):=by
 intro ae s σ H xs us Q I r h;obtain⟨l,ns,rfl,hl,q⟩:=h;obtain⟨u1,rfl,r1⟩:=r.one;obtain rfl:u1=Value.ref l:=r1;obtain⟨its,rv,pl,_⟩:=I.list hl;obtain⟨m,F⟩:=I.fr;refine LSm.sum_ints F xB (I.ok.hd hc) pl.isList (sj rv) fun h' tk t' F' N'=>?_;exact⟨.int _,H,I.Vf (t':=tk) F F' N',⟨_,rfl⟩,q⟩
end L2
namespace tf
open PySem L2 jR
section
variable {ns homes:List Nat} {st cs:List (Option Nat)}
theorem Jg{h:Nat}(BX:Bx ns)(FI:g8 (pr ns) (j9 ns))(SN:Sn ns homes st)(BT:yC ns homes st (cs.map oV))(hh:h<pr ns):JI (l8 st h) (L6 ns homes h) (oo ns cs h) 0 (ot ns homes st cs h ns.length fun _=>none)/\JT ns.length (l8 st h) (yQ ns homes h) (oo ns cs h) (L7 ns h) 0 (ot ns homes st cs h ns.length fun _=>none):=by
 have A:=NA BX FI SN BT hh;have a:=JI.all A (g:=fun _=>none) (fun _ _=>rfl) ns.length (aX _);have b:=JT.all A (fun y q q' hq MR h1 h2=>bg ((dM (bE.mp h1).2).symm.trans (dM (bE.mp h2).2))) (g:=fun _=>none) (fun _ _=>rfl) ns.length (aX _);rw[v_] at a b;exact⟨a,b⟩
theorem BI{i h:Nat}(BX:Bx ns)(FI:g8 (pr ns) (j9 ns))(SN:Sn ns homes st)(BT:yC ns homes st (cs.map oV))(e:st.getD i none=some h):∃y q,nA ns homes st cs i=some y/\q<ns.length/\wY ns h y q/\q<=L6 ns homes h i/\(y=yQ ns homes h i\/oo ns cs h i=q):=by
 have L:=ud BX SN BT e;obtain⟨a,b⟩:=Jg (h:=h) BX FI SN BT L.hh;have hi:=gJ.mpr e;have el:nA ns homes st cs i=ot ns homes st cs h ns.length (fun _=>none) i:=by unfold nA;rw[e]
 cases ey:ot ns homes st cs h ns.length (fun _=>none) i with
 |none=>exact absurd ey (a.hi i hi (cr _))
 |some y=>
  obtain⟨q,_,hq,hy,hw⟩:=b.ty i hi y ey;have t:=(uc BX FI L.hh hq).mp hy;refine⟨y,q,el.trans ey,hq,t,?_,hw⟩;rcases hw with z|z
  .rw[z] at t;exact oW (bg ((gW t).symm.trans (gW L.wt)))
  .rw[<-z];exact L.le
theorem Jh{i j h y:Nat}(BX:Bx ns)(FI:g8 (pr ns) (j9 ns))(SN:Sn ns homes st)(BT:yC ns homes st (cs.map oV))(ei:st.getD i none=some h)(ej:st.getD j none=some h)(yi:nA ns homes st cs i=some y)(yj:nA ns homes st cs j=some y):i=j:=by
 obtain⟨_,b⟩:=Jg (h:=h) BX FI SN BT (ud BX SN BT ei).hh;have el:∀ {i:Nat},st.getD i none=some h->nA ns homes st cs i=ot ns homes st cs h ns.length (fun _=>none) i:=fun e=>by unfold nA;rw[e]
 exact b.inj i (gJ.mpr ei) j (gJ.mpr ej) y ((el ei).symm.trans yi) ((el ej).symm.trans yj)
def xk(ns homes:List Nat)(st cs:List (Option Nat))(i:Nat):Bool:=match nA ns homes st cs i with
 |some y=>decide (y≠homes.getD i 0)
 |none=>false
def EW(ns homes:List Nat)(st cs:List (Option Nat)):List (Option Nat):=(List.range st.length).map fun i=>if xk ns homes st cs i=true then nA ns homes st cs i else none
def EX(ns homes:List Nat)(st cs:List (Option Nat)):List (Option Nat):=(List.range st.length).map fun i=>if xk ns homes st cs i=true then st.getD i none else none
theorem WQ{n i:Nat}{f:Nat->Option Nat}(h:i<n):((List.range n).map f).getD i none=f i:=by
 rw[cq,bJ,oH h];rfl
theorem Ji{n i h:Nat}{f:Nat->Option Nat}(e:((List.range n).map f).getD i none=some h):i<n/\f i=some h:=by
 rcases fG i n with c|c
 .exact⟨c,(WQ c).symm.trans e⟩
 .rw[cq,gK (by rw[aP,dW];exact c)] at e;cases e
theorem xm{i:Nat}(h:xk ns homes st cs i=true):∃g y,st.getD i none=some g/\nA ns homes st cs i=some y/\y≠homes.getD i 0:=by
 unfold xk at h;cases e:nA ns homes st cs i with
 |none=>rw[e] at h;cases h
 |some y=>
  rw[e] at h;cases e2:st.getD i none with
  |none=>unfold nA at e;rw[e2] at e;cases e
  |some g=>exact⟨g,y,rfl,rfl,dM h⟩
theorem xn{i y:Nat}(e:(EW ns homes st cs).getD i none=some y):i<st.length/\xk ns homes st cs i=true/\nA ns homes st cs i=some y/\(EX ns homes st cs).getD i none=st.getD i none:=by
 obtain⟨hi,e⟩:=Ji e;by_cases c:xk ns homes st cs i=true
 .rw[ak c] at e;exact⟨hi,c,e,by unfold EX;rw[WQ hi,ak c]⟩
 .rw[aq c] at e;cases e
theorem xo:(EW ns homes st cs).length=st.length:=by unfold EW;rw[aP,dW]
theorem Qx:(EX ns homes st cs).length=st.length:=by unfold EX;rw[aP,dW]
theorem Dp(BX:Bx ns)(FI:g8 (pr ns) (j9 ns))(SN:Sn ns homes st)(BT:yC ns homes st (cs.map oV)):Sn ns homes (EW ns homes st cs):=by
 refine⟨SN.l.trans xo.symm,fun i y e=>?_,by rw[xo];exact SN.vn⟩;obtain⟨hi,c,el,_⟩:=xn e;obtain⟨g,y',e2,e3,ne⟩:=xm c;obtain rfl:=bg (el.symm.trans e3);obtain⟨y',q,f1,f2,f3,_⟩:=BI BX FI SN BT e2;obtain rfl:=bg (el.symm.trans f1);exact⟨Bi BX FI (SN.ok i g e2).1 f2 f3,(SN.ok i g e2).2.1,ne⟩
theorem Me(BX:Bx ns)(FI:g8 (pr ns) (j9 ns))(SN:Sn ns homes st)(BT:yC ns homes st (cs.map oV)):yC ns homes (EW ns homes st cs) ((EX ns homes st cs).map oV):=by
 have Vg:=Dp BX FI SN BT;refine⟨by rw[aP,Qx,xo],fun i hi=>⟨fun e=>?_,fun y e=>?_⟩⟩
 .rw[xo] at hi;rw[l7];unfold EW at e;unfold EX;rw[WQ hi] at e |-;by_cases c:xk ns homes st cs i=true
  .rw[ak c] at e;obtain⟨g,y',e2,e3,ne⟩:=xm c;rw[e3] at e;cases e
  .rw[aq c];rfl
 .obtain⟨_,c,el,ec⟩:=xn e;obtain⟨g,y',e2,e3,ne⟩:=xm c;obtain rfl:=bg (el.symm.trans e3);obtain⟨y',q,f1,f2,f3,f4,_⟩:=BI BX FI SN BT e2;obtain rfl:=bg (el.symm.trans f1);obtain⟨hy,hg,lR⟩:=Vg.ok i y e;obtain⟨p',Gs⟩:=Da hy hg lR;have L:=ud BX SN BT e2;refine⟨g,by rw[l7,ec,e2];rfl,⟨q,p',Gs,?_,UU f3 L.ph f4 Gs⟩,fun j hj ej z=>?_⟩
  .rcases f3 with u|u
   .exact .inr u
   .exact .inl u
  .obtain⟨_,_,el2,ec2⟩:=xn ej;rw[l7,ec2] at z;have z:=Bm z;have:=Jh BX FI SN BT z e2 el2 el;lia
end
abbrev sFr:Stmt:=fL 61
abbrev sWa:Stmt:=fL 62
abbrev sSR:Stmt:=fL 63
section
variable {P:Program} {w:World} {K:PySem.W.Frag} {mg:Str->Option Value} {base:Heap}
theorem NG:(["_law_x","_law_y"]:List Str).Nodup:=by decide +kernel
theorem aaa:aA ["_law_sides_here","_law_house","_law_home"] ["_law_sides_here","_law_house","_law_home"] (ao sFr):=⟨rfl,rfl,rfl,by decide +kernel,rfl,by decide +kernel,by decide +kernel⟩
def Qy:Sp:=fun vs H Q _=>∃ (sr:Addr) (ns:List Nat) (a b:Nat),vs=[.ref sr,.int a,.int b]/\H sr=some (.tup (NV ns))/\Bx ns/\∀H',az H H'->Q (.int (IU ns a b)) H'
theorem Vh{f:Addr}{fd:FuncData}(F:eK K "_law_far" "_law_far" sFr f fd)(aab:mg "sum"=none)(Jj:mg "zip"=none)(aac:mg "abs"=none)(PL:cu P w K mg base ba 1 "_law_place" ["_law_sides_here","_law_house"] yB):bi P w K mg base ba 2 f fd ["_law_sides_here","_law_house","_law_home"] Qy:=by
 refine F.ok aaa (fun vs H Q E h=>?_) (fun dC A outer s H vs Q E hr h=>?_)
 .obtain⟨sr,ns,a,b,rfl,_⟩:=h;rfl
 .obtain⟨sr,ns,a,b,rfl,fE,BX,q⟩:=h;have l5:=BX.l5;refine'⟨_,(aj (aF (aI (Jf rfl) (by rfl) aab PyProof.Rows.boot_sum (aa ?c1 af)))),?_⟩;case c1=>
   refine' dQ (g:=(uA K 2 (fk (bW 0) (fk (bW 1) uz)))) (te:=(Xj (fun xs H Q=>∃i,xs=[.int i]/\Q (.int (if i<0 then -i else i)) H) (eE (oy (JK fun i j=>.int (i-j)) (br 0) (br 1)) mL))) (NB:=["_law_x","_law_y"]) (src:=[none,none]) (cx (by kernel_rfl)) rfl (qY (ka:=true) (kb:=true) rfl Jj (aa (av PL hr aE (aa (pv 0) (aa (pv 1) af))) (aa (av PL hr aE (aa (pv 0) (aa (pv 2) af))) af))) ?g ?t ?e;case g=>exact fun cl C s₃ H₃ fp=>(eA (n:=2) rfl (aN (au (i:=0) NG rfl (Or.inl rfl) (Or.inr rfl)) (aN (au (i:=1) NG rfl (Or.inl rfl) (Or.inr rfl)) dv)))
   case t=>exact fun cl C s₃ H₃ fp=>d_
   case e=>exact fun cl C s₃ H₃ fp=>(aI FW (by rfl) aac PyProof.Rows.boot_abs (aa (bu mK (pv 0) (pv 1)) af))
  refine⟨_,rfl,_,rfl,sr,ns,a,rfl,fE,BX,fun r1 H1 s1 _ h1=>⟨_,rfl,_,rfl,sr,ns,b,rfl,s1 _ _ fE,BX,fun r2 H2 s2 _ h2=>?_⟩⟩;have h12:=s2 _ _ h1;refine⟨r1,r2,_,_,rfl,bo.of h12,bo.of h2,by rw[aT,aT,cV,cV],fun D hD=>?_⟩;refine vq (ka:=true) (kb:=true) (xs:=NV (bw ns a)) (ys:=NV (bw ns b)) (by rw[aT,aT,cV,cV]) (fun i ys σ H3=>(∃u v,σ=[u,v])/\az H2 H3/\H3 D=some (.lst ys)/\ys=((List.range i).map (df ns a b)).map V.int) ⟨⟨_,_,rfl⟩,am hD,ag,rfl⟩ (fun i ys σ H3 _ z=>⟨bo.of (z.2.1 _ _ h12),bo.of (z.2.1 _ _ h2)⟩) ?_ ?_
  .rintro i x y p ys σ H3 Kt Kf hx hy ⟨⟨u,v,rfl⟩,s3,d3,rfl⟩ hp kt kf;have hi:i<ns.length:=by have:=(cW.mp hx).1;rwa [aT,cV] at this
   obtain rfl:=bg (hx.symm.trans (eX hi));obtain rfl:=bg (hy.symm.trans (eX hi));have sp:=am (o:=.tup [.int (((bw ns a).getD i 0:Nat):Int),.int (((bw ns b).getD i 0:Nat):Int)]) hp;refine⟨p,_,rfl,bh.of ag,rfl,_,_,rfl,_,_,rfl,rfl,?_⟩;refine⟨_,rfl,_,rfl,_,_,rfl,rfl,_,rfl,?_⟩;refine kt _ _ _ (sp _ _ d3) (by rw[aP,aP,dW];exact bA (show i<17 by lia) (by decide)) ⟨⟨_,_,rfl⟩,bN (s3.trans sp) hD,ag,?_⟩;rw[il,dG,dG];rfl
  rintro ys σ H3 ⟨_,s3,d3,rfl⟩;rw[aT,cV] at d3;exact⟨D,_,rfl,bo.of d3,q H3 ((s1.trans s2).trans s3)⟩
theorem Vi:aA ["_law_sides_here","_law_one","_law_other","_law_k"] ["_law_sides_here","_law_one","_law_other"] (ao sWa):=⟨rfl,rfl,rfl,by decide +kernel,rfl,by decide +kernel,by decide +kernel⟩
def Mf:Sp:=fun vs H Q _=>∃ (sr:Addr) (ns:List Nat) (a b k:Nat),vs=[.ref sr,.int a,.int b]/\H sr=some (.tup (NV ns))/\Bx ns/\wY ns a b k/\∀H',az H H'->Q (.int (k:Nat)) H'
theorem Vj{f:Addr}{fd:FuncData}(F:eK K "_law_way" "_law_way" sWa f fd)(B:Bl mg)(TI:cu P w K mg base ba 3 "_law_ties" ["_law_sides_here","_law_house","_law_k"] LI):bi P w K mg base ba 4 f fd ["_law_sides_here","_law_one","_law_other"] Mf:=by
 refine F.ok Vi (fun vs H Q E h=>?_) (fun dC A outer s H vs Q E hr h=>?_)
 .obtain⟨sr,ns,a,b,k,rfl,_⟩:=h;rfl
 .obtain⟨sr,ns,a,b,k,rfl,fE,BX,t,q⟩:=h;have l5:=BX.l5;have kl:=(eU (gW t)).1;refine⟨_,(ah (cF d9 rfl (cj rfl B.range (aa (aI aM (by rfl) B.len ee (aa (pv 0) af)) af)) (au (i:=3) Vi.nd rfl (Or.inl rfl))
    (aj (bp (aJ hV (pv 2) (av TI hr aE (aa (pv 0) (aa (pv 1) (aa (pv 3) af)))) rfl) (aj (aF (pv 3))) aK)))
   (aj (aF cn))),?_⟩
  refine⟨_,rfl,sr,_,rfl,.inr (bh.of fE),_,rfl,by rw[aT];lia,by rw[aT];lia,?_⟩;rw[aT];refine dZ (n:=ns.length) (lo:=0) (fun j σ H2=>(∃z,σ=[some (.ref sr),some (.int (a:Int)),some (.int (b:Int)),z])/\az H H2/\j<=k) ⟨⟨_,rfl⟩,az.refl _,cr _⟩ ?_ ?_
  .rintro j σ H2 hj ⟨⟨z,rfl⟩,s2,jk⟩;rw[fJ];refine⟨_,rfl,_,rfl,_,rfl,_,rfl,sr,ns,a,j,rfl,s2 _ _ fE,BX,hj,fun r H3 s3 nr Vb=>⟨r,_,rfl,.inl (bo.of Vb),rfl,lO,_,rfl,?_⟩⟩;rw[aq bq,Qk];refine iD (fun c=>?_) (fun c=>?_)
   .have t2:=(tT BX.pos hj).mp (dM c);obtain rfl:=bg ((gW t).symm.trans (gW t2));exact⟨_,rfl,q H3 (s2.trans s3)⟩
   .refine⟨⟨_,rfl⟩,s2.trans s3,?_⟩;have:j≠k:=fun e=>c (bn ((tT BX.pos hj).mpr (e ▸ t)));lia
  .rintro σ H2 ⟨⟨z,rfl⟩,s2,jk⟩;exact absurd jk (by lia)
theorem aad:aA ["_law_sides_here","_law_house","_law_home","_law_tie","_law_to"] ["_law_sides_here","_law_house","_law_home","_law_tie","_law_to"] (ao sSR):=⟨rfl,rfl,rfl,by decide +kernel,rfl,by decide +kernel,by decide +kernel⟩
def Qz:Sp:=fun vs H Q _=>∃ (sr:Addr) (ns:List Nat) (h g ti to q p k wi:Nat),vs=[.ref sr,.int h,.int g,.int ti,.int to]/\H sr=some (.tup (NV ns))/\Bx ns/\wY ns h to q/\q<=p/\iU ns h g=some p/\wY ns h ti k/\yy ns h g=some wi/\(to=wi\/k=q)/\∀H',az H H'->Q (.bl true) H'
theorem Vk{f:Addr}{fd:FuncData}(F:eK K "_law_step_right" "_law_step_right" sSR f fd)(B:Bl mg)(WA:cu P w K mg base ba 4 "_law_way" ["_law_sides_here","_law_one","_law_other"] Mf)(WI:cu P w K mg base ba 3 "_law_wish" ["_law_sides_here","_law_house","_law_home"] PF)(FR:cu P w K mg base ba 2 "_law_far" ["_law_sides_here","_law_house","_law_home"] Qy):bi P w K mg base ba 5 f fd ["_law_sides_here","_law_house","_law_home","_law_tie","_law_to"] Qz:=by
 refine F.ok aad (fun vs H Q E h=>?_) (fun dC A outer s H vs Q E hr h=>?_)
 .obtain⟨sr,ns,h,g,ti,to,q,p,k,wi,rfl,_⟩:=h;rfl
 .obtain⟨sr,ns,h,g,ti,to,q,p,k,wi,rfl,fE,BX,tq,qp,hp,tk,hw,ho,cH⟩:=h;have h4:bL 4 _:=hr;have h3:bL 3 _:=hr.mono (by decide);have h2:bL 2 _:=hr.mono (by decide);refine⟨_,(ah (bp (PW.pt (nM (cN (cp (aI fq (by rfl) B.K8 nB (aa (pv 4) (aa (gX (v:=.ty "int") rfl B.int PyProof.Rows.boot_int rfl) af))))) (nM (cp (aI fq (by rfl) B.K8 nB (aa (pv 4) (aa (gX (v:=.ty "bool") rfl B.bool PyProof.Rows.boot_bool rfl) af)))) (kK (aJ jM (av WA h4 aE (aa (pv 0) (aa (pv 1) (aa (pv 4) af)))) cn (aQ _)))))) (aj (aF fc)) aK)
   (ah (bp (aJ jn (pv 4) (av WI h3 aE (aa (pv 0) (aa (pv 1) (aa (pv 2) af)))) (aQ _)) (aj (aF fc)) aK)
   (ah (bp (aJ pX (av FR h2 aE (aa (pv 0) (aa (pv 4) (aa (pv 2) af)))) (bu eC (av FR h2 aE (aa (pv 0) (aa (pv 1) (aa (pv 2) af)))) aD) (aQ _)) (aj (aF fc)) aK)
   (aj (aF (ge jn (av WA h4 aE (aa (pv 0) (aa (pv 1) (aa (pv 4) af)))) (av WA h4 aE (aa (pv 0) (aa (pv 1) (aa (pv 3) af)))) (aQ _))))))),?_⟩
  refine⟨_,rfl,_,_,_,.type "int",true,rfl,⟨rfl,k_⟩,.of (.int _),_,rfl,cM rfl ⟨_,rfl,_,_,_,.type "int",false,rfl,⟨rfl,jW⟩,.of (.int _),_,rfl,cM rfl ?_⟩⟩;refine⟨_,rfl,_,rfl,_,rfl,sr,ns,h,to,q,rfl,fE,BX,tq,fun H1 s1=>⟨rfl,_,rfl,cM rfl ?_⟩⟩;refine⟨_,rfl,_,rfl,_,rfl,_,rfl,sr,ns,h,g,rfl,s1 _ _ fE,BX,fun H2 s2=>?_⟩;rw[hw];have mX:=s1.trans s2;refine⟨rfl,_,rfl,?_⟩;by_cases c:to=wi
  .subst c;exact iT (bn rfl) (cH H2 mX)
  .refine cM (dF fun z=>c (by injection z with z;exact cR z)) ?_;obtain rfl:=ho.resolve_left c;refine⟨_,rfl,_,rfl,_,rfl,sr,ns,to,g,rfl,mX _ _ fE,BX,fun H3 s3=>⟨_,rfl,_,rfl,_,rfl,sr,ns,h,g,rfl,s3 _ _ (mX _ _ fE),BX,fun H4 s4=>?_⟩⟩;have yW:=(mX.trans s3).trans s4;rw[IW BX.pos tq hp qp (by rw[hw];exact fun z=>c (bg z).symm)];refine⟨_,_,rfl,rfl,rfl,_,rfl,cM (by simp) ?_⟩;refine⟨_,rfl,_,rfl,_,rfl,sr,ns,h,to,k,rfl,yW _ _ fE,BX,tq,fun H5 s5=>⟨_,rfl,_,rfl,_,rfl,sr,ns,h,ti,k,rfl,s5 _ _ (yW _ _ fE),BX,tk,fun H6 s6=>⟨rfl,?_⟩⟩⟩;rw[bn rfl];exact cH H6 ((yW.trans s5).trans s6)
end
abbrev sRi:Stmt:=fL 64
abbrev sJB:Stmt:=fL 65
structure Us(H:Hp)(ua:Addr)(st fs:List (Option Nat))(i:Nat)(zs:Zs):Prop where
 hu:H ua=some (.lst (zr zs))
 po:PO H zs
 ln:zs.length<=i
 us:∀u∈zp zs,∃j h y,j<i/\st.getD j none=some h/\fs.getD j none=some y/\u=((h:Int),(y:Int))
theorem Us.same{H H':Hp}{ua:Addr}{st fs:List (Option Nat)}{i:Nat}{zs:Zs}(u:Us H ua st fs i zs)(s:az H H'):Us H' ua st fs i zs:=⟨s _ _ u.hu,u.po.same s,u.ln,u.us⟩
theorem Us.up{H:Hp}{ua:Addr}{st fs:List (Option Nat)}{i:Nat}{zs:Zs}(u:Us H ua st fs i zs):Us H ua st fs (i+1) zs:=⟨u.hu,u.po,Nat.le_succ_of_le u.ln,fun v hv=>let ⟨j,h,y,a,b⟩:=u.us v hv;⟨j,h,y,dN a,b⟩⟩
theorem Us.put{H:Hp}{ua t:Addr}{st fs:List (Option Nat)}{i h y:Nat}{zs:Zs}(u:Us H ua st fs i zs)(ht:H t=some (La ((h:Int),(y:Int))))(e1:st.getD i none=some h)(e2:fs.getD i none=some y):Us (upd H ua (.lst (zr zs++[.ref t]))) ua st fs (i+1) (zs++[(t,((h:Int),(y:Int)))]):=by
 have po:=u.po.putL (o:=.lst (zr zs++[.ref t])) u.hu;have nt:t≠ua:=fun z=>by rw[z,u.hu] at ht;cases ht
 refine⟨by rw[ag,lK];rfl,po.append (PO.one (by rw[al nt];exact ht)),by rw[dU];exact zO u.ln,fun v hv=>?_⟩;rw[Bk] at hv;rcases dO.mp hv with z|z
 .exact let ⟨j,h,y,a,b⟩:=u.us v z;⟨j,h,y,dN a,b⟩
 .exact⟨i,h,y,kq _,e1,e2,dL.mp z⟩
section
variable {P:Program} {w:World} {K:PySem.W.Frag} {mg:Str->Option Value} {base:Heap}
theorem Mg:aA ["_law_sides_here","_law_homes","_law_stand","_law_came","_law_told","_law_used","_law_i","_law_house"] ["_law_sides_here","_law_homes","_law_stand","_law_came","_law_told"] (ao sRi):=⟨rfl,rfl,rfl,by decide +kernel,rfl,by decide +kernel,by decide +kernel⟩
def lhL(ns homes:List Nat)(st cs:List (Option Nat)):List (Option Nat):=(List.range st.length).map (nA ns homes st cs)
def QA:Sp:=fun vs H Q _=>∃ (sr ha sa xa ta:Addr) (ns homes:List Nat) (st cs:List (Option Nat)),vs=[.ref sr,.ref ha,.ref sa,.ref xa,.ref ta]/\H sr=some (.tup (NV ns))/\Bx ns/\g8 (pr ns) (j9 ns)/\Sn ns homes st/\yC ns homes st (cs.map oV)/\H ha=some (.tup (NV homes))/\H sa=some (.tup (st.map oV))/\H xa=some (.tup (cs.map oV))/\H ta=some (.tup (f9 st.length (nA ns homes st cs)))/\∀H',az H H'->Q (.bl true) H'
set_option maxHeartbeats 4000000 in
theorem Vl{f:Addr}{fd:FuncData}(F:eK K "_law_right" "_law_right" sRi f fd)(B:Bl mg)(he:mg "enumerate"=none)(SR:cu P w K mg base ba 5 "_law_step_right" ["_law_sides_here","_law_house","_law_home","_law_tie","_law_to"] Qz):bi P w K mg base ba 6 f fd ["_law_sides_here","_law_homes","_law_stand","_law_came","_law_told"] QA:=by
 refine F.ok Mg (fun vs H Q E h=>?_) (fun dC A outer s H vs Q E hr h=>?_)
 .obtain⟨sr,ha,sa,xa,ta,ns,homes,st,cs,rfl,_⟩:=h;rfl
 .obtain⟨sr,ha,sa,xa,ta,ns,homes,st,cs,rfl,fE,BX,FN,SN,BT,vo,ny,uI,RG,q⟩:=h;have vn:=SN.vn;have cl:cs.length=st.length:=by have:=BT.1;rwa [aP] at this
  refine⟨_,(ah (bp (PW.pt (nM (cN (cp (aI fq (by rfl) B.K8 nB (aa (pv 4) (aa (gX (v:=.ty "tuple") rfl B.tup jh rfl) af))))) (kK (aJ pX (aI aM (by rfl) B.len ee (aa (pv 4) af)) (aI aM (by rfl) B.len ee (aa (pv 2) af)) (aQ _))))) (aj (aF fc)) aK)
   (ah (aW (i:=5) Mg.nd rfl (Or.inl rfl) (eF af))
   (ah (cF d9 rfl (sR rfl he (aa (pv 2) af)) (eA (n:=2) rfl (aN (au (i:=6) Mg.nd rfl (Or.inl rfl)) (aN (au (i:=7) Mg.nd rfl (Or.inl rfl)) dv)))
    (ah (bp (PW.pt (N4 (aJ jM (pv 7) cn (aQ _)) (J3 (aJ lE (a_ bD (pv 4) (pv 6) (fun _ _=>rfl)) cn (aQ _))))) (aj (aF fc)) aK)
    (aj (bp (aJ lE (pv 7) cn (aQ _)) (ah (bp (cN (cp (av SR hr aE (aa (pv 0) (aa (pv 7) (aa (a_ bD (pv 1) (pv 6) (fun _ _=>rfl)) (aa (a_ bD (pv 3) (pv 6) (fun _ _=>rfl)) (aa (a_ bD (pv 4) (pv 6) (fun _ _=>rfl)) af)))))))) (aj (aF fc)) aK)
     (ah (bp (aJ (Hb hr.u) (fV (aa (pv 7) (aa (a_ bD (pv 4) (pv 6) (fun _ _=>rfl)) af))) (pv 5) rfl) (aj (aF fc)) aK)
     (aj (bG (ir hX jg jf cI (pv 5) (aa (fV (aa (pv 7) (aa (a_ bD (pv 4) (pv 6) (fun _ _=>rfl)) af))) af)))))) aK))))
   (aj (aF fc))))),?_⟩
  refine⟨_,rfl,_,_,_,.type "tuple",true,rfl,⟨rfl,wM⟩,.of (.tup RG),_,rfl,cM rfl ?_⟩;refine⟨_,rfl,ta,_,rfl,.inr (bh.of RG),_,rfl,sa,_,rfl,.inr (bh.of ny),rfl,_,rfl,?_⟩;rw[eR,aP];refine cM (by rw[bn rfl];rfl) ?_;refine⟨by show 0<=sizeLine;decide,fun ua qh=>?_⟩;have s0:=am (o:=.lst []) qh;have u0:Us (upd H ua (.lst [])) ua st (lhL ns homes st cs) 0 []:=⟨ag,.nil,aX _,fun _ z=>(nomatch z)⟩
  generalize upd H ua (.lst [])=H0 at *;refine⟨_,rfl,sa,_,rfl,bh.of (s0 _ _ ny),u8 (K:=K) (xs:=st.map oV) (fun i σ H1=>(∃z6 z7,σ=[some (.ref sr),some (.ref ha),some (.ref sa),some (.ref xa),some (.ref ta),some (.ref ua),z6,z7])/\az H H1/\∃zs,Us H1 ua st (lhL ns homes st cs) i zs) ⟨⟨_,_,rfl⟩,s0,[],u0⟩ (fun i σ H1 _ z=>bh.of (z.2.1 _ _ ny)) ?_ (fun σ H1 z=>q H1 z.2.1)⟩;rintro i x pt σ H1 hx ⟨⟨z6,z7,rfl⟩,s1,zs,U1⟩ hpt;have hi:i<st.length:=by have:=(cW.mp hx).1;rwa [aP] at this
  obtain rfl:=bg (hx.symm.trans (j_ hi));have sP:=am (o:=.tup [.int (i:Int),oV (st.getD i none)]) hpt;refine⟨pt,_,rfl,bh.of ag,rfl,_,_,rfl,_,_,rfl,rfl,?_⟩;have s2:=s1.trans sP;have U2:=U1.same sP;generalize upd H1 pt (.tup [.int (i:Int),oV (st.getD i none)])=H2 at *;have gt:(f9 st.length (nA ns homes st cs))[i]?=some (oV (nA ns homes st cs i)):=jZ hi;cases ho:st.getD i none with
  |none=>
   have el:nA ns homes st cs i=none:=by unfold nA;rw[ho]
   rw[el] at gt;refine⟨_,rfl,rfl,_,rfl,iT rfl ⟨_,rfl,_,rfl,ta,_,_,_,rfl,rfl,bh.of (s2 _ _ RG),aB gt,rfl,_,rfl,cM rfl ?_⟩⟩;exact⟨_,rfl,rfl,_,rfl,cM rfl ⟨⟨_,_,rfl⟩,s2,zs,U2.up⟩⟩
  |some h=>
   obtain⟨y,qq,ey,hq,t,qp,hw⟩:=BI BX FN SN BT ho;have L:=ud BX SN BT ho;rw[ey] at gt;refine⟨_,rfl,rfl,_,rfl,cM rfl (fW ?_)⟩;refine⟨_,rfl,rfl,_,rfl,iT rfl ?_⟩;refine⟨_,rfl,_,rfl,_,rfl,_,rfl,ha,_,_,_,rfl,rfl,bh.of (s2 _ _ vo),aB (qg (by rw[SN.l];exact hi)),_,rfl,_,rfl,xa,_,_,_,rfl,rfl,bh.of (s2 _ _ uI),aB (show (cs.map oV)[i]?=some (.int (kg cs i:Nat)) by rw[j_ (by rw[cl];exact hi),L.cm];rfl),_,rfl,_,rfl,ta,_,_,_,rfl,rfl,bh.of (s2 _ _ RG),aB gt,sr,ns,h,homes.getD i 0,kg cs i,y,qq,_,oo ns cs h i,yQ ns homes h i,rfl,s2 _ _ fE,BX,t,qp,L.ph,L.ct,L.ws,hw,fun H3 s3=>⟨_,rfl,cM rfl ?_⟩⟩;have ut:=s2.trans s3;have U3:=U2.same s3;refine⟨_,rfl,_,rfl,_,rfl,ta,_,_,_,rfl,rfl,bh.of (ut _ _ RG),aB gt,by show 2<=sizeLine;decide,fun t4 IE=>?_⟩;have sT:=am (o:=.tup [.int (h:Int),.int (y:Int)]) IE;have U4:=U3.same sT;refine⟨_,rfl,A3 (u:=((h:Int),(y:Int))) ag U4.hu U4.po ⟨_,rfl,?_⟩⟩;have no:((h:Int),(y:Int))∉zp zs:=fun m=>by
    obtain⟨j,h',y',hj,e1,e2,e3⟩:=U1.us _ m;obtain⟨a1,a2⟩:=Prod.mk.inj e3;obtain rfl:=cR a1;obtain rfl:=cR a2;have:=Jh BX FN SN BT e1 ho (Ji e2).2 ey;lia
   rw[aq bq];refine cM (dF no) ?_;have yW:=ut.trans sT;refine⟨_,rfl,.inl ⟨rfl,_,bo.of U4.hu⟩,_,rfl,_,rfl,_,rfl,ta,_,_,_,rfl,rfl,bh.of (yW _ _ RG),aB gt,by show 2<=sizeLine;decide,fun t5 ht5=>?_⟩;have sV:=am (o:=.tup [.int (h:Int),.int (y:Int)]) ht5;have U5:=U4.same sV;refine⟨ua,_,_,rfl,rfl,U5.hu,by show (zs.map _).length<_;rw[aP];exact eZ U5.ln (bA (show i<17 by lia) (by decide)),?_⟩;exact⟨⟨_,_,rfl⟩,bN (yW.trans sV) qh,_,U5.put (t:=t5) ag ho (by unfold lhL;rw[WQ hi];exact ey)⟩
theorem Mh:aA ["_law_sides_here","_law_homes","_law_stand","_law_came","_law_used","_law_i","_law_house"] ["_law_sides_here","_law_homes","_law_stand","_law_came"] (ao sJB):=⟨rfl,rfl,rfl,by decide +kernel,rfl,by decide +kernel,by decide +kernel⟩
def QB:Sp:=fun vs H Q _=>∃ (sr ha sa xa:Addr) (ns homes:List Nat) (st cs:List (Option Nat)),vs=[.ref sr,.ref ha,.ref sa,.ref xa]/\H sr=some (.tup (NV ns))/\Bx ns/\Sn ns homes st/\yC ns homes st (cs.map oV)/\H ha=some (.tup (NV homes))/\H sa=some (.tup (st.map oV))/\H xa=some (.tup (cs.map oV))/\∀H',az H H'->Q (.bl true) H'
set_option maxHeartbeats 4000000 in
theorem Vm{f:Addr}{fd:FuncData}(F:eK K "_law_is_berthed" "_law_is_berthed" sJB f fd)(B:Bl mg)(he:mg "enumerate"=none)(WA:cu P w K mg base ba 4 "_law_way" ["_law_sides_here","_law_one","_law_other"] Mf)(PH:cu P w K mg base ba 2 "_law_phase" ["_law_sides_here","_law_house","_law_home"] Iy):bi P w K mg base ba 5 f fd ["_law_sides_here","_law_homes","_law_stand","_law_came"] QB:=by
 refine F.ok Mh (fun vs H Q E h=>?_) (fun dC A outer s H vs Q E hr h=>?_)
 .obtain⟨sr,ha,sa,xa,ns,homes,st,cs,rfl,_⟩:=h;rfl
 .obtain⟨sr,ha,sa,xa,ns,homes,st,cs,rfl,fE,BX,SN,BT,vo,ny,uI,q⟩:=h;have h2:bL 2 _:=hr.mono (by decide);have vn:=SN.vn;have cl:cs.length=st.length:=by have:=BT.1;rwa [aP] at this
  refine⟨_,(ah (aW (i:=4) Mh.nd rfl (Or.inl rfl) (eF af))
   (ah (cF d9 rfl (sR rfl he (aa (pv 2) af)) (eA (n:=2) rfl (aN (au (i:=5) Mh.nd rfl (Or.inl rfl)) (aN (au (i:=6) Mh.nd rfl (Or.inl rfl)) dv)))
    (aj (bp (aJ lE (pv 6) cn (aQ _)) (ah (bp (PW.pt (nM (aJ jM (av WA hr aE (aa (pv 0) (aa (pv 6) (aa (a_ bD (pv 3) (pv 5) (fun _ _=>rfl)) af)))) cn (aQ _)) (kK (aJ (Hb hr.u) (fV (aa (pv 6) (aa (a_ bD (pv 3) (pv 5) (fun _ _=>rfl)) af))) (pv 4) rfl)))) (aj (aF fc)) aK)
     (ah (bp (aJ xG (av WA hr aE (aa (pv 0) (aa (pv 6) (aa (a_ bD (pv 3) (pv 5) (fun _ _=>rfl)) af)))) (av PH h2 aE (aa (pv 0) (aa (pv 6) (aa (a_ bD (pv 1) (pv 5) (fun _ _=>rfl)) af)))) (aQ _)) (aj (aF fc)) aK)
     (aj (bG (ir hX jg jf cI (pv 4) (aa (fV (aa (pv 6) (aa (a_ bD (pv 3) (pv 5) (fun _ _=>rfl)) af))) af)))))) aK)))
   (aj (aF fc)))),?_⟩
  refine⟨by show 0<=sizeLine;decide,fun ua qh=>?_⟩;have s0:=am (o:=.lst []) qh;have u0:Us (upd H ua (.lst [])) ua st cs 0 []:=⟨ag,.nil,aX _,fun _ z=>(nomatch z)⟩
  generalize upd H ua (.lst [])=H0 at *;refine⟨_,rfl,sa,_,rfl,bh.of (s0 _ _ ny),u8 (K:=K) (xs:=st.map oV) (fun i σ H1=>(∃z6 z7,σ=[some (.ref sr),some (.ref ha),some (.ref sa),some (.ref xa),some (.ref ua),z6,z7])/\az H H1/\∃zs,Us H1 ua st cs i zs) ⟨⟨_,_,rfl⟩,s0,[],u0⟩ (fun i σ H1 _ z=>bh.of (z.2.1 _ _ ny)) ?_ (fun σ H1 z=>q H1 z.2.1)⟩;rintro i x pt σ H1 hx ⟨⟨z6,z7,rfl⟩,s1,zs,U1⟩ hpt;have hi:i<st.length:=by have:=(cW.mp hx).1;rwa [aP] at this
  obtain rfl:=bg (hx.symm.trans (j_ hi));have sP:=am (o:=.tup [.int (i:Int),oV (st.getD i none)]) hpt;refine⟨pt,_,rfl,bh.of ag,rfl,_,_,rfl,_,_,rfl,rfl,?_⟩;have s2:=s1.trans sP;have U2:=U1.same sP;generalize upd H1 pt (.tup [.int (i:Int),oV (st.getD i none)])=H2 at *;cases ho:st.getD i none with
  |none=>exact⟨_,rfl,rfl,_,rfl,cM rfl ⟨⟨_,_,rfl⟩,s2,zs,U2.up⟩⟩
  |some h=>
   have L:=ud BX SN BT ho;have gt:(cs.map oV)[i]?=some (.int (kg cs i:Nat)):=by rw[j_ (by rw[cl];exact hi),L.cm];rfl
   refine⟨_,rfl,rfl,_,rfl,iT rfl ?_⟩;refine⟨_,rfl,_,rfl,_,rfl,_,rfl,xa,_,_,_,rfl,rfl,bh.of (s2 _ _ uI),aB gt,sr,ns,h,kg cs i,oo ns cs h i,rfl,s2 _ _ fE,BX,L.ct,fun H3 s3=>⟨rfl,_,rfl,cM rfl ?_⟩⟩;have ut:=s2.trans s3;have U3:=U2.same s3;refine⟨_,rfl,_,rfl,_,rfl,xa,_,_,_,rfl,rfl,bh.of (ut _ _ uI),aB gt,by show 2<=sizeLine;decide,fun t4 IE=>?_⟩;have sT:=am (o:=.tup [.int (h:Int),.int (kg cs i:Nat)]) IE;have U4:=U3.same sT;refine⟨_,rfl,A3 (u:=((h:Int),((kg cs i:Nat):Int))) ag U4.hu U4.po ⟨_,rfl,?_⟩⟩;have no:((h:Int),((kg cs i:Nat):Int))∉zp zs:=fun m=>by
    obtain⟨j,h',y',hj,e1,e2,e3⟩:=U1.us _ m;obtain⟨a1,a2⟩:=Prod.mk.inj e3;obtain rfl:=cR a1;obtain⟨y,ey,_,un⟩:=(BT.2 i hi).2 h ho;refine un j hj e1 ?_;rw[l7] at ey |-;rw[e2,<-ey,L.cm,<-cR a2]
   rw[aq bq];refine cM (dF no) ?_;have yW:=ut.trans sT;refine⟨_,rfl,_,rfl,_,rfl,_,rfl,xa,_,_,_,rfl,rfl,bh.of (yW _ _ uI),aB gt,sr,ns,h,kg cs i,oo ns cs h i,rfl,yW _ _ fE,BX,L.ct,fun H5 s5=>?_⟩;have xy:=yW.trans s5;refine⟨_,rfl,_,rfl,_,rfl,_,rfl,ha,_,_,_,rfl,rfl,bh.of (xy _ _ vo),aB (qg (by rw[SN.l];exact hi)),sr,ns,h,homes.getD i 0,rfl,xy _ _ fE,BX,fun H6 s6=>?_⟩;rw[L.ph];have s16:=xy.trans s6;refine⟨_,_,rfl,rfl,_,rfl,cM (dF (by have:=L.le;lia)) ?_⟩;have U6:=(U4.same s5).same s6;refine⟨_,rfl,.inl ⟨rfl,_,bo.of U6.hu⟩,_,rfl,_,rfl,_,rfl,xa,_,_,_,rfl,rfl,bh.of (s16 _ _ uI),aB gt,by show 2<=sizeLine;decide,fun t5 ht5=>?_⟩;have sV:=am (o:=.tup [.int (h:Int),.int (kg cs i:Nat)]) ht5;have U7:=U6.same sV;refine⟨ua,_,_,rfl,rfl,U7.hu,by show (zs.map _).length<_;rw[aP];exact eZ U7.ln (bA (show i<17 by lia) (by decide)),?_⟩;exact⟨⟨_,_,rfl⟩,bN (s16.trans sV) qh,_,U7.put (t:=t5) ag ho L.cm⟩
end
abbrev BJ:Stmt:=fL 66
theorem QC{ns:List Nat}(B:Bx ns):2<=pr ns:=by
 have h1:=B.l1;have hs:=B.sd;have hp:=B.pos;cases ns with
 |nil=>exact absurd h1 (by decide)
 |cons n l=>
  have a:=(hs n bV).1;have b:=Ij (ns:=l) fun x hx=>hp x (bU _ hx);show 2<=n*pr l;exact bj (show 2<=n*1 by lia) (oG n b)
theorem _root_.L2.n6.kE{lp:Pos}{q:Str}{p Pt:Addr}{H H':Hp}(t:n6 lp q Pt H)(s:cw p H H')(hp:cT H p):n6 lp q Pt H':=by
 obtain⟨a,b,e,_⟩:=hp;rcases t with z|⟨c,z,y⟩
 .exact .inl (s _ _ z (by rintro rfl;rw[z] at e;cases e))
 .exact .inr ⟨c,s _ _ z (by rintro rfl;rw[z] at e;cases e),s _ _ y (by rintro rfl;rw[y] at e;cases e)⟩
theorem _root_.L2.n6.sm{lp:Pos}{q:Str}{Pt:Addr}{H H':Hp}(t:n6 lp q Pt H)(s:az H H'):n6 lp q Pt H':=by
 rcases t with z|⟨c,z,y⟩
 .exact .inl (s _ _ z)
 .exact .inr ⟨c,s _ _ z,s _ _ y⟩
theorem fg.eQ{C CB b p:Addr}{H H':Hp}{L:Addr->Prop}{ns:List Nat}(h:fg C CB H L b ns)(s:cw p H H')(hp:cT H p)(nL:¬ L p):fg C CB H' L b ns:=by
 obtain⟨dx,pn,sr,hb,N,fE⟩:=h.ob;obtain⟨x,y,e,_⟩:=hp;refine⟨h.bx,dx,pn,sr,s _ _ hb (by rintro rfl;rw[hb] at e;cases e),N.keep (fun c o l z=>s _ _ z (by rintro rfl;exact nL l)) (fun o z=>s _ _ z ?_),s _ _ fE (by rintro rfl;rw[fE] at e;cases e)⟩;obtain⟨_,_,_,_,g,_⟩:=N.ob;rintro rfl;rw[g] at e;cases e
section
variable {P:Program} {w:World} {K:PySem.W.Frag} {mg:Str->Option Value} {base:Heap}
def Fj(K:PySem.W.Frag)(H:Hp)(a:Addr)(xs:List V):Prop:=(∃o,H a=some (.mC o (.lst xs)))\/(∀H':Hp,bo K H' a xs)
theorem Fj.seq{H:Hp}{a:Addr}{xs:List V}(h:Fj K H a xs):bo K H a xs:=by
 rcases h with ⟨o,h⟩|h
 .exact .inl (.inr ⟨o,h⟩)
 .exact h H
theorem Fj.mono{H H':Hp}{a:Addr}{xs:List V}(h:Fj K H a xs)(e:∀o u,H a=some (.mC o u)->H' a=some (.mC o u)):Fj K H' a xs:=by
 rcases h with ⟨o,h⟩|h
 .exact .inl ⟨o,e _ _ h⟩
 .exact .inr h
theorem Fj.eQ{H H':Hp}{a p:Addr}{xs:List V}(h:Fj K H a xs)(s:cw p H H')(hp:cT H p):Fj K H' a xs:=by
 obtain⟨x,y,e,_⟩:=hp;exact h.mono fun o u z=>s _ _ z (by rintro rfl;rw[z] at e;cases e)
structure Cs(K:PySem.W.Frag)(C CB Pt:Addr)(L:Addr->Prop)(a p bx sd:Addr)(xs:List V)(ns:List Nat)(H:Hp):Prop where
 scr:Fj K H a xs
 qz:cT H p
 box:fg C CB H L bx ns
 nl:¬ L p
 hd:H sd=some (.tup (NV ns))
 tp:nk Pt H
theorem Cs.eQ{C CB Pt a p bx sd:Addr}{L:Addr->Prop}{xs:List V}{ns:List Nat}{H H':Hp}(c:Cs K C CB Pt L a p bx sd xs ns H)(s:cw p H H')(hp:cT H' p):Cs K C CB Pt L a p bx sd xs ns H':=
 ⟨c.scr.eQ s c.qz,hp,c.box.eQ s c.qz c.nl,c.nl,s _ _ c.hd (c.qz.neT c.hd),c.tp.kE s c.qz⟩
structure Ct(K:PySem.W.Frag)(C CB Pt:Addr)(L:Addr->Prop)(a p bx sd ha sa ca:Addr)(xs:List V)(ns homes:List Nat)(st cm:List (Option Nat))(H:Hp):Prop where
 cs:Cs K C CB Pt L a p bx sd xs ns H
 hh:H ha=some (.tup (NV homes))
 hs:H sa=some (.tup (st.map oV))
 hc:H ca=some (.tup (cm.map oV))
theorem Ct.eQ{C CB Pt:Addr}{L:Addr->Prop}{a p bx sd ha sa ca:Addr}{xs:List V}{ns homes:List Nat}{st cm:List (Option Nat)}{H H':Hp}(c:Ct K C CB Pt L a p bx sd ha sa ca xs ns homes st cm H)(s:cw p H H')(hp:cT H' p):Ct K C CB Pt L a p bx sd ha sa ca xs ns homes st cm H':=
 ⟨c.cs.eQ s hp,s _ _ c.hh (c.cs.qz.neT c.hh),s _ _ c.hs (c.cs.qz.neT c.hs),s _ _ c.hc (c.cs.qz.neT c.hc)⟩
theorem Ct.same{C CB Pt:Addr}{L:Addr->Prop}{a p bx sd ha sa ca:Addr}{xs:List V}{ns homes:List Nat}{st cm:List (Option Nat)}{H H':Hp}(c:Ct K C CB Pt L a p bx sd ha sa ca xs ns homes st cm H)(s:az H H'):Ct K C CB Pt L a p bx sd ha sa ca xs ns homes st cm H':=c.eQ (cw.of s) (c.cs.qz.same s)
theorem NH:(["_law_to","_law_home"]:List Str).Nodup:=by decide +kernel
theorem NI:(["_law_house","_law_on"]:List Str).Nodup:=by decide +kernel
theorem NJ:(["_law_to","_law_on"]:List Str).Nodup:=by decide +kernel
theorem jz:aA ["_law_script","_law_k","_law_pot_here","_law_sides_here","_law_box","_law_homes","_law_stand","_law_came","_law_turn","_law_told","_law_gone"] ["_law_script"] (ao BJ):=⟨rfl,rfl,rfl,by decide +kernel,rfl,by decide +kernel,by decide +kernel⟩
def Dq(K:PySem.W.Frag)(Pt:Addr):Sp:=fun vs H Q _=>∃ (a:Addr) (ns:List Int),vs=[.ref a]/\Fj K H a (ns.map V.int)/\ns.length<=63/\nk Pt H/\∀H',Q (.bl true) H'
theorem uh{K:PySem.W.Frag}{ka kb:Bool}{a b D:Addr}{n:Nat}{f g v:Nat->V}{gg:TG}{te:TE}{cH:Hp->Prop}{H0:Hp}(hn:n<=16)(hD:H0 D=none)(hl:∀H,az H0 H->Dm ka K H a ((List.range n).map f)/\Dm kb K H b ((List.range n).map g))(hs:∀i u w p H (Kt:V->St->Hp->Prop),i<n->az H0 H->H p=some (.tup [f i,g i])->(∀u w,Kt (v i) [u,w] H)->gg (.ref p) [u,w] H fun σ2 H2=>te σ2 H2 fun x H4=>Kt x σ2 H4)(hd:∀H,az H0 H->H D=some (.lst ((List.range n).map v))->cH H):gR (L5 ka kb K a b) gg Gg te D cH [none,none] (upd H0 D (.lst [])):=by
 have len:∀f:Nat->V,((List.range n).map f).length=n:=fun f=>by rw[aP,dW]
 refine vq (xs:=(List.range n).map f) (ys:=(List.range n).map g) (by rw[len,len]) (fun i ys σ H=>(∃u w,σ=[u,w])/\az H0 H/\H D=some (.lst ys)/\ys=(List.range i).map v) ⟨⟨_,_,rfl⟩,am hD,ag,rfl⟩ (fun i ys σ H _ z=>hl H z.2.1) ?_ ?_
 .rintro i x y p ys σ H Kt Kf hx hy ⟨⟨u,w,rfl⟩,s,d,rfl⟩ hp kt kf;have hi:i<n:=by have:=(cW.mp hx).1;rwa [len] at this
  rw[bJ,oH hi] at hx hy;obtain rfl:=bg hx;obtain rfl:=bg hy;have sp:=am (o:=.tup [f i,g i]) hp;refine hs i u w p _ Kt hi (s.trans sp) ag fun u w=>kt _ _ _ (sp _ _ d) (by rw[aP,dW];exact bA (show i<17 by lia) (by decide)) ⟨⟨_,_,rfl⟩,bN (s.trans sp) hD,ag,?_⟩;rw[il,dG];rfl
 .rintro ys σ H ⟨_,s,d,rfl⟩;rw[len] at d;exact hd H s d
theorem Jk{st:List (Option Nat)}:st.map oV=(List.range st.length).map fun i=>oV (st.getD i none):=by
 refine mm fun i=>?_;rcases fG i st.length with c|c
 .rw[j_ c,bJ,oH c];rfl
 .rw[gK (by rw[aP];exact c),gK (by rw[aP,dW];exact c)]
theorem Jl{ns:List Nat}{n:Nat}(h:ns.length=n):NV ns=(List.range n).map fun i=>V.int (ns.getD i 0:Nat):=by
 subst h;refine mm fun i=>?_;rcases fG i ns.length with c|c
 .rw[qg c,bJ,oH c];rfl
 .rw[gK (by rw[aT];exact c),gK (by rw[aP,dW];exact c)]
set_option maxHeartbeats 8000000 in
theorem QD{f C CB Pt fB:Addr}{fd fdB:FuncData}(F:eK K "law" "law" BJ f fd)(B:Bl mg)(Jj:mg "zip"=none)(TB:Fh K mg CB)(MB:Mk K CB fB)(bB:jo K fdB ["self","sides"] [])(GB:bi P w K mg base ba 11 fB fdB ["self","sides"] (Ie C CB Pt))(PT:cu P w K mg base ba 1 "_law_pot" ["_law_script","_law_k"] (Ir K))(DR:cu P w K mg base ba 1 "_law_draw" ["_law_pot_here","_law_many_here"] Bg)(SI:cu P w K mg base ba 2 "_law_sides" ["_law_pot_here"] PC)(BT:cu P w K mg base ba 5 "_law_berthed" ["_law_pot_here","_law_sides_here"] P8)(LH:cu P w K mg base ba 11 "lane_hand" ["box","homes","stand","came"] (Je K C CB))(RI:cu P w K mg base ba 6 "_law_right" ["_law_sides_here","_law_homes","_law_stand","_law_came","_law_told"] QA)(JB:cu P w K mg base ba 5 "_law_is_berthed" ["_law_sides_here","_law_homes","_law_stand","_law_came"] QB)(IB:cu P w K mg base ba 9 "is_berthed" ["box","homes","stand","came"] (LP K C CB)):
  bi P w K mg base ba 13 f fd ["_law_script"] (Dq K Pt):=by
 refine F.ok jz (fun vs H Q E h=>?_) (fun dC A outer s H vs Q E hr h=>?_)
 .obtain⟨a,ns,rfl,_⟩:=h;rfl
 .obtain⟨a,JW,rfl,hS,AL,tb,q⟩:=h;have h1:bL 1 _:=hr.mono (by decide);have h2:bL 2 _:=hr.mono (by decide);have h5:bL 5 _:=hr.mono (by decide);have h6:bL 6 _:=hr.mono (by decide);have h9:bL 9 _:=hr.mono (by decide);have h11:bL 11 _:=hr.mono (by decide);refine'⟨_,(ah (cF d9 rfl (cj rfl B.range (aa (aI (uQ rfl) (by rfl) B.max PyProof.Rows.boot_max (aa aD (aa (aI (uR rfl) (by rfl) B.min PyProof.Rows.boot_min (aa (aI aM (by rfl) B.len ee (aa (pv 0) af)) (aa aD af))) af))) af)) (au (i:=1) jz.nd rfl (Or.inl rfl))
    (ah (aW (i:=2) jz.nd rfl (Or.inl rfl) (av PT h1 aE (aa (pv 0) (aa (pv 1) af))))
    (ah (aW (i:=3) jz.nd rfl (Or.inl rfl) (av SI h2 aE (aa (pv 2) af)))
    (ah (aW (i:=4) jz.nd rfl (Or.inl rfl) (B5 MB GB hr rfl TB.Yt bB .nil aE (aa (pv 3) af)))
    (ah (i9 (av BT h5 aE (aa (pv 2) (aa (pv 3) af))) (eA (n:=3) rfl (aN (au (i:=5) jz.nd rfl (Or.inl rfl)) (aN (au (i:=6) jz.nd rfl (Or.inl rfl)) (aN (au (i:=7) jz.nd rfl (Or.inl rfl)) dv)))))
    (aj (cF d9 rfl (cj rfl B.range (aa (bu eC aD (av DR h1 aE (aa (pv 2) (aa aD af)))) af)) (au (i:=8) jz.nd rfl (Or.inl rfl))
     (ah (aW (i:=9) jz.nd rfl (Or.inl rfl) (av LH h11 aE (aa (pv 4) (aa (pv 5) (aa (pv 6) (aa (pv 7) af))))))
     (ah (bp (cN (cp (av RI h6 aE (aa (pv 3) (aa (pv 5) (aa (pv 6) (aa (pv 7) (aa (pv 9) af)))))))) (aj (aF fc)) aK)
     (ah (dR (i:=10) (g:=(uA K 2 (fk (bW 0) (fk (bW 1) uz)))) (te:=(MN (oy ND (br 0) (tC .bR)) (oy (Xe) (br 0) (br 1)))) (NB:=["_law_to","_law_home"]) (src:=[none,none]) (cx (by kernel_rfl)) rfl (qY (ka:=false) (kb:=false) rfl Jj (aa (pv 9) (aa (pv 5) af))) ?g1 ?t1 ?e1 jz.nd rfl rfl rfl)
     (ah (aW (i:=7) jz.nd rfl (Or.inl rfl) (bX b_ (by rfl) B.tup jh (aa ?c2 af)))
     (ah (aW (i:=6) jz.nd rfl (Or.inl rfl) (bX b_ (by rfl) B.tup jh (aa ?c3 af)))
     (aj (bp (PW.pt (nM (cN (cp (av JB h5 aE (aa (pv 3) (aa (pv 5) (aa (pv 6) (aa (pv 7) af))))))) (kK (cN (cp (av IB h9 aE (aa (pv 4) (aa (pv 5) (aa (pv 6) (aa (pv 7) af)))))))))) (aj (aF fc)) aK))))))))))))))
   (aj (aF fc))),?_⟩
  case g1=>exact fun cl C s₃ H₃ fp=>(eA (n:=2) rfl (aN (au (i:=0) NH rfl (Or.inl rfl) (Or.inr rfl)) (aN (au (i:=1) NH rfl (Or.inl rfl) (Or.inr rfl)) dv)))
  case t1=>exact fun cl C s₃ H₃ fp=>d_
  case e1=>exact fun cl C s₃ H₃ fp=>(kL (ge lE (pv 0) cn (aQ _)) (mG (ge pX (pv 0) (pv 1) (aQ _))))
  case c2=>
   refine' dQ (g:=(uA K 2 (fk (bW 0) (fk (bW 1) uz)))) (te:=(W3 (tB (br 1)) (br 0) (tC .bR))) (NB:=["_law_house","_law_on"]) (src:=[none,none]) (cx (by kernel_rfl)) rfl (qY (ka:=false) (kb:=true) rfl Jj (aa (pv 6) (aa (pv 10) af))) ?g ?t ?e;case g=>exact fun cl C s₃ H₃ fp=>(eA (n:=2) rfl (aN (au (i:=0) NI rfl (Or.inl rfl) (Or.inr rfl)) (aN (au (i:=1) NI rfl (Or.inl rfl) (Or.inr rfl)) dv)))
   case t=>exact fun cl C s₃ H₃ fp=>d_
   case e=>exact fun cl C s₃ H₃ fp=>(jl (cp (pv 1)) (pv 0) cn)
  case c3=>
   refine' dQ (g:=(uA K 2 (fk (bW 0) (fk (bW 1) uz)))) (te:=(W3 (tB (br 1)) (br 0) (tC .bR))) (NB:=["_law_to","_law_on"]) (src:=[none,none]) (cx (by kernel_rfl)) rfl (qY (ka:=false) (kb:=true) rfl Jj (aa (pv 9) (aa (pv 10) af))) ?g ?t ?e;case g=>exact fun cl C s₃ H₃ fp=>(eA (n:=2) rfl (aN (au (i:=0) NJ rfl (Or.inl rfl) (Or.inr rfl)) (aN (au (i:=1) NJ rfl (Or.inl rfl) (Or.inr rfl)) dv)))
   case t=>exact fun cl C s₃ H₃ fp=>d_
   case e=>exact fun cl C s₃ H₃ fp=>(jl (cp (pv 1)) (pv 0) cn)
  refine⟨_,rfl,a,_,rfl,.inl hS.seq,_,3,rfl,1,_,rfl,_,rfl,?_⟩;obtain⟨j,hj,j1⟩:∃j:Int,(if (if (3:Int)<(((JW.map V.int).length:Nat):Int) then (3:Int) else (((JW.map V.int).length:Nat):Int)) > 1 then (if (3:Int)<(((JW.map V.int).length:Nat):Int) then (3:Int) else (((JW.map V.int).length:Nat):Int)) else 1)=j/\1<=j/\j<=3:=⟨_,rfl,by split <;> split <;> lia⟩
  rw[hj];refine⟨by lia,by lia,dZ (n:=j.toNat) (lo:=0) (fun k σ H2=>(∃x1 x2 x3 x4 x5 x6 x7 x8 x9 y1,σ=[some (.ref a),x1,x2,x3,x4,x5,x6,x7,x8,x9,y1])/\Fj K H2 a (JW.map V.int)/\nk Pt H2) ⟨⟨_,_,_,_,_,_,_,_,_,_,rfl⟩,hS,tb⟩ ?_ (fun σ H2 _=>q H2)⟩;rintro k σ H2 hk ⟨⟨x1,x2,x3,x4,x5,x6,x7,x8,x9,y1,rfl⟩,S2,t2⟩;refine⟨_,rfl,_,rfl,a,JW,k,by rw[fJ];rfl,S2.seq,by lia,fun p H3 s3 np p3=>?_⟩;refine⟨_,rfl,p,rfl,p3,fun sd ns H6 s6 p6 P9 BX=>?_⟩;have Rz:=BX.Rz;have pr2:=QC BX;have S6:=(S2.mono fun o u e=>s3 _ _ e).eQ s6 p3;have t6:=(t2.sm s3).kE s6 p3;refine⟨_,rfl,fun bx dx nx YR YS=>?_⟩;have sN:az H6 (upd (upd H6 dx (.own bx)) bx (.ins CB dx [])):=(am (o:=.own bx) YR).trans (am (D:=bx) (o:=.ins CB dx []) (by rw[al YS.symm];exact nx));have gbx:(upd (upd H6 dx (.own bx)) bx (.ins CB dx [])) bx=some (.ins CB dx []):=ag;generalize upd (upd H6 dx (.own bx)) bx (.ins CB dx [])=HM at *;refine⟨bx,dx,sd,ns,rfl,gbx,sN _ _ P9,BX,t6.sm sN,fun H8 BA t8 s8=>⟨rfl,?_⟩⟩;have tN:nk Pt HM:=t6.sm sN;have kp:∀ {c o},H6 c=some o->(∀ps,o≠.qI ps)->H8 c=some o:=fun {c o} e nt=>s8 _ _ (sN _ _ e) (ap e nx) (tN.not (sN _ _ e) nt);have cs:Cs K C CB Pt (fun a=>HM a=none) a p bx sd (JW.map V.int) ns H8:=by
   refine⟨S6.mono fun o u e=>kp e (by intro ps z;cases z),?_,BA,fun z=>?_,kp P9 (by intro ps z;cases z),t8⟩
   .obtain⟨u,v,e,r⟩:=p6;exact⟨u,v,kp e (by intro ps z;cases z),r⟩
   .exact(p6.same sN).full z
  clear kp;refine⟨_,rfl,_,rfl,p,sd,ns,rfl,cs.qz,cs.hd,BX,pr2,fun t ha sa ca homes st cm H9 s9 p9 ht vo ny Uy SN cl QE=>⟨t,_,rfl,bh.of ht,rfl,_,_,rfl,_,_,rfl,_,_,rfl,rfl,?_⟩⟩;have ct:Ct K C CB Pt (fun a=>HM a=none) a p bx sd ha sa ca (JW.map V.int) ns homes st cm H9:=⟨cs.eQ s9 p9,vo,ny,Uy⟩
  clear cs S6 t6 p6 p3 P9 s9 p9 ht vo ny Uy;obtain⟨_,_,_,_,NN,_⟩:=id ct.cs.box.ob;have FN:=NN.qw;refine⟨_,rfl,p,10,rfl,by decide,by decide,ct.cs.qz,fun d HA hd sA pA=>?_⟩;have cA:=ct.eQ sA pA;clear ct sA pA;refine⟨_,_,rfl,rfl,_,rfl,by lia,by lia,dZ (n:=1+d) (lo:=0) (fun _ σ HB=>∃ (sa ca:Addr) (st cm:List (Option Nat)) (x8 x9 y1:Option V),σ=[some (.ref a),some (.int (k:Int)),some (.ref p),some (.ref sd),some (.ref bx),some (.ref ha),some (.ref sa),some (.ref ca),x8,x9,y1]/\Ct K C CB Pt (fun a=>HM a=none) a p bx sd ha sa ca (JW.map V.int) ns homes st cm HB/\Sn ns homes st/\yC ns homes st (cm.map oV)) ⟨sa,ca,st,cm,_,_,_,by rw[fJ];rfl,cA,SN,QE⟩ ?_ ?_⟩
  rotate_left
  .rintro σ HB ⟨sa,ca,st,cm,x8,x9,y1,rfl,c9,_,_⟩;exact⟨⟨_,_,_,_,_,_,_,_,_,_,rfl⟩,c9.cs.scr,c9.cs.tp⟩
  clear cA SN QE cl;rintro i σ HB hi ⟨sa,ca,st,cm,x8,x9,y1,rfl,cB,SN,QE⟩;have vn:=SN.vn;refine⟨_,rfl,_,rfl,_,rfl,_,rfl,_,bx,ha,sa,ca,ns,homes,st,cm,rfl,cB.cs.box,cB.hh,cB.hs,cB.hc,SN,QE,fun tl HC sC Ru=>?_⟩;have cC:=cB.same sC;refine⟨_,rfl,_,rfl,_,rfl,_,rfl,_,rfl,sd,ha,sa,ca,tl,ns,homes,st,cm,rfl,cC.cs.hd,BX,FN,SN,QE,cC.hh,cC.hs,cC.hc,Ru,fun HD sD=>⟨_,rfl,cM rfl ?_⟩⟩;have cD:=cC.same sD;have tD:=sD _ _ Ru;have ehm:NV homes=(List.range st.length).map fun i=>V.int (homes.getD i 0:Nat):=Jl SN.l;refine⟨_,rfl,_,rfl,tl,ha,_,_,rfl,bh.of tD,bh.of cD.hh,by rw[eR,aT,SN.l],fun D1 Jb=>?_⟩;refine uh (ka:=false) (kb:=false) (n:=st.length) (f:=fun i=>oV (nA ns homes st cm i)) (g:=fun i=>V.int (homes.getD i 0:Nat)) (v:=fun i=>V.bl (xk ns homes st cm i)) vn Jb (fun H s=>⟨bh.of (s _ _ tD),by rw[<-ehm];exact bh.of (s _ _ cD.hh)⟩) ?_ ?_
  .rintro i u w' p' H Kt hi s hp kt;refine⟨p',_,rfl,bh.of hp,rfl,_,_,rfl,_,_,rfl,rfl,?_⟩;refine⟨_,rfl,rfl,_,rfl,?_⟩;have kt:=kt (some (oV (nA ns homes st cm i))) (some (.int (homes.getD i 0:Nat)));unfold xk at kt;cases e:nA ns homes st cm i with
   |none=>rw[e] at kt;exact cM rfl kt
   |some y=>
    rw[e] at kt;refine iT rfl ⟨_,rfl,_,rfl,rfl,?_⟩;rw[show (!decide (oV (some y)=V.int (homes.getD i 0:Nat)))=decide (y≠homes.getD i 0) by
     rw[decide_not];congr 1;exact rF.mpr ⟨fun z=>by injection z with z;exact cR z,fun z=>by rw[z];rfl⟩]
    exact kt
  intro HE sE f1;have cE:=cD.same sE;have tE:=sE _ _ tD;refine⟨_,rfl,_,rfl,sa,D1,_,_,rfl,bh.of cE.hs,bo.of f1,by rw[aP,aP,dW],fun D2 pQ=>?_⟩;refine uh (ka:=false) (kb:=true) (n:=st.length) (f:=fun i=>oV (st.getD i none)) (g:=fun i=>V.bl (xk ns homes st cm i)) (v:=fun i=>oV (if xk ns homes st cm i=true then st.getD i none else none)) vn pQ (fun H s=>⟨by rw[<-Jk];exact bh.of (s _ _ cE.hs),bo.of (s _ _ f1)⟩) ?_ ?_
  .rintro i u w' p' H Kt hi s hp kt;refine⟨p',_,rfl,bh.of hp,rfl,_,_,rfl,_,_,rfl,rfl,?_⟩;have kt:=kt (some (oV (st.getD i none))) (some (.bl (xk ns homes st cm i)));refine⟨_,rfl,_,rfl,?_⟩;cases e:xk ns homes st cm i with
   |true=>rw[e,ak rfl] at kt;exact iT rfl ⟨_,rfl,kt⟩
   |false=>rw[e,aq bq] at kt;exact cM rfl kt
  intro HF sF f2;have ec:((List.range st.length).map fun i=>oV (if xk ns homes st cm i=true then st.getD i none else none))=(EX ns homes st cm).map oV:=by unfold EX;rw[fj];rfl
  rw[ec] at f2;refine⟨D2,_,rfl,.inl ⟨bo.of f2,fun M7 aae=>?_⟩⟩;have sG:=am (o:=.tup ((EX ns homes st cm).map oV)) aae;have gca:upd HF M7 (.tup ((EX ns homes st cm).map oV)) M7=some (.tup ((EX ns homes st cm).map oV)):=ag;generalize upd HF M7 (.tup ((EX ns homes st cm).map oV))=HG at *;have sEG:=sF.trans sG;have cG:=cE.same sEG;have tG:=sEG _ _ tE;have f1G:=sEG _ _ f1;refine⟨_,rfl,_,rfl,tl,D1,_,_,rfl,bh.of tG,bo.of f1G,by rw[eR,aP,dW],fun D3 qy=>?_⟩;refine uh (ka:=false) (kb:=true) (n:=st.length) (f:=fun i=>oV (nA ns homes st cm i)) (g:=fun i=>V.bl (xk ns homes st cm i)) (v:=fun i=>oV (if xk ns homes st cm i=true then nA ns homes st cm i else none)) vn qy (fun H s=>⟨bh.of (s _ _ tG),bo.of (s _ _ f1G)⟩) ?_ ?_
  .rintro i u w' p' H Kt hi s hp kt;refine⟨p',_,rfl,bh.of hp,rfl,_,_,rfl,_,_,rfl,rfl,?_⟩;have kt:=kt (some (oV (nA ns homes st cm i))) (some (.bl (xk ns homes st cm i)));refine⟨_,rfl,_,rfl,?_⟩;cases e:xk ns homes st cm i with
   |true=>rw[e,ak rfl] at kt;exact iT rfl ⟨_,rfl,kt⟩
   |false=>rw[e,aq bq] at kt;exact cM rfl kt
  intro HI sI f3;have es:((List.range st.length).map fun i=>oV (if xk ns homes st cm i=true then nA ns homes st cm i else none))=(EW ns homes st cm).map oV:=by unfold EW;rw[fj];rfl
  rw[es] at f3;refine⟨D3,_,rfl,.inl ⟨bo.of f3,fun QF aaf=>?_⟩⟩;have sJ:=am (o:=.tup ((EW ns homes st cm).map oV)) aaf;have gsa:upd HI QF (.tup ((EW ns homes st cm).map oV)) QF=some (.tup ((EW ns homes st cm).map oV)):=ag;generalize upd HI QF (.tup ((EW ns homes st cm).map oV))=HJ at *;have sGJ:=sI.trans sJ;have cJ:=cG.same sGJ;have gcJ:=sGJ _ _ gca;have Vg:=Dp BX FN SN QE;have BT':=Me BX FN SN QE;have cK:Ct K C CB Pt (fun a=>HM a=none) a p bx sd ha QF M7 (JW.map V.int) ns homes (EW ns homes st cm) (EX ns homes st cm) HJ:=⟨cJ.cs,cJ.hh,gsa,gcJ⟩
  refine⟨_,rfl,_,rfl,_,rfl,_,rfl,sd,ha,QF,M7,ns,homes,_,_,rfl,cK.cs.hd,BX,Vg,BT',cK.hh,cK.hs,cK.hc,fun HL sL=>⟨_,rfl,cM rfl ?_⟩⟩;have cL:=cK.same sL;refine⟨_,rfl,_,rfl,_,rfl,_,rfl,_,bx,ha,QF,M7,ns,homes,_,_,rfl,cL.cs.box,cL.hh,cL.hs,cL.hc,Vg,NF,fun HN bb sN' hb=>⟨_,rfl,?_⟩⟩;obtain rfl:bb=true:=hb.mpr BT';exact cM rfl ⟨QF,M7,_,_,_,_,_,rfl,cL.same sN',Vg,BT'⟩
end
def FD(K:PySem.W.Frag)(n:Str)(st:Stmt):Prop:=∃ (f:Addr) (oc:Value) (od an:Option Addr) (sl:Array (Option Value)) (kV dc pm cd ct:Value),PySem.W.nsIn K mainGlobals n=some (some (.ref f))/\K.lookup f=some ⟨oc,od,.func (PySem.W.fnOf n n (dz st) (cz st) (ao st) .none kV dc pm an cd ct),sl⟩/\PySem.W.codeIn K cd n=true/\PySem.W.keepIn K (.ref f)=true
def FC(K:PySem.W.Frag)(n:Str)(st:Stmt)(c:Addr):Prop:=∃ (f:Addr) (oc:Value) (od an:Option Addr) (sl:Array (Option Value)) (kV dc pm ct:Value),PySem.W.nsIn K mainGlobals n=some (some (.ref f))/\K.lookup f=some ⟨oc,od,.func (PySem.W.fnOf n n (dz st) (cz st) (ao st) .none kV dc pm an (.ref c) ct),sl⟩/\PySem.W.codeIn K (.ref c) n=true/\PySem.W.keepIn K (.ref f)=true
def MD(K:PySem.W.Frag)(C:Addr)(n q:Str)(st:Stmt):Prop:=∃ (f:Addr) (oc:Value) (od an:Option Addr) (sl:Array (Option Value)) (kV dc pm cd ct:Value),PySem.W.findIn K (.ref C) n=some (some (.ref f))/\PySem.W.isFn K (.ref f)=true/\K.lookup f=some ⟨oc,od,.func (PySem.W.fnOf n q (dz st) (cz st) (ao st) .none kV dc pm an cd ct),sl⟩/\PySem.W.codeIn K cd q=true/\PySem.W.keepIn K (.ref f)=true
def MC(K:PySem.W.Frag)(C:Addr)(n q:Str)(st:Stmt)(c:Addr):Prop:=∃ (f:Addr) (oc:Value) (od an:Option Addr) (sl:Array (Option Value)) (kV dc pm ct:Value),PySem.W.findIn K (.ref C) n=some (some (.ref f))/\PySem.W.isFn K (.ref f)=true/\K.lookup f=some ⟨oc,od,.func (PySem.W.fnOf n q (dz st) (cz st) (ao st) .none kV dc pm an (.ref c) ct),sl⟩/\PySem.W.codeIn K (.ref c) q=true/\PySem.W.keepIn K (.ref f)=true
section
variable {P:Program} {w:World} {K:PySem.W.Frag} {mg:Str->Option Value} {base h:Heap} {n q:Str} {st:Stmt} {f c C:Addr} {oc kV dc pm cd ct:Value} {od an:Option Addr} {sl:Array (Option Value)} {CX:xw} {k:Nat} {ps:List Str} {sp:Sp}
theorem FD.mk(a:PySem.W.nsIn K mainGlobals n=some (some (.ref f)))(l:K.lookup f=some ⟨oc,od,.func (PySem.W.fnOf n n (dz st) (cz st) (ao st) .none kV dc pm an cd ct),sl⟩)(d:PySem.W.codeIn K cd n=true)(k:PySem.W.keepIn K (.ref f)=true):FD K n st:=⟨f,oc,od,an,sl,kV,dc,pm,cd,ct,a,l,d,k⟩
theorem FC.mk(a:PySem.W.nsIn K mainGlobals n=some (some (.ref f)))(l:K.lookup f=some ⟨oc,od,.func (PySem.W.fnOf n n (dz st) (cz st) (ao st) .none kV dc pm an (.ref c) ct),sl⟩)(d:PySem.W.codeIn K (.ref c) n=true)(k:PySem.W.keepIn K (.ref f)=true):FC K n st c:=⟨f,oc,od,an,sl,kV,dc,pm,ct,a,l,d,k⟩
theorem MD.mk(a:PySem.W.findIn K (.ref C) n=some (some (.ref f)))(i:PySem.W.isFn K (.ref f)=true)(l:K.lookup f=some ⟨oc,od,.func (PySem.W.fnOf n q (dz st) (cz st) (ao st) .none kV dc pm an cd ct),sl⟩)(d:PySem.W.codeIn K cd q=true)(k:PySem.W.keepIn K (.ref f)=true):MD K C n q st:=⟨f,oc,od,an,sl,kV,dc,pm,cd,ct,a,i,l,d,k⟩
theorem MC.mk(a:PySem.W.findIn K (.ref C) n=some (some (.ref f)))(i:PySem.W.isFn K (.ref f)=true)(l:K.lookup f=some ⟨oc,od,.func (PySem.W.fnOf n q (dz st) (cz st) (ao st) .none kV dc pm an (.ref c) ct),sl⟩)(d:PySem.W.codeIn K (.ref c) q=true)(k:PySem.W.keepIn K (.ref f)=true):MC K C n q st c:=⟨f,oc,od,an,sl,kV,dc,pm,ct,a,i,l,d,k⟩
def BD(n q:Str)(st:Stmt)(ps:List Str):Prop:=∀ (kV ni pm:Value) (an:Option Addr) (dC ct:Value) (us:List Value),us.length=ps.length->bindArgs (PySem.W.fnOf n q (dz st) (cz st) (ao st) .none kV ni pm an dC ct) ⟨us,[]⟩=pure (ps.zip us)
theorem FD.f_(X:K.In h)(G:h.Ns mainGlobals mg)(D:FD K n st)(b:BD n n st ps)(o:∀ {f fd},eK K n n st f fd->bi P w K mg base CX k f fd ps sp):cu P w K mg base CX k n ps sp:=by
 obtain⟨f,_,_,_,_,_,_,_,_,_,a,l,d,kp⟩:=D;have F:=sk (x:=n) (qual:=n) (st:=st) l d kp;exact⟨⟨f,_,ic X G a,kp,F.binds b,o F⟩⟩
theorem FC.f_(X:K.In h)(G:h.Ns mainGlobals mg)(D:FC K n st c)(b:BD n n st ps)(o:∀ {f fd},AM K n n st f fd c->bi P w K mg base CX k f fd ps sp):cu P w K mg base CX k n ps sp:=by
 obtain⟨f,_,_,_,_,_,_,_,_,a,l,d,kp⟩:=D;have F:=Kz (x:=n) (qual:=n) (st:=st) l d kp;exact⟨⟨f,_,ic X G a,kp,F.fun.binds b,o F⟩⟩
theorem MD.f_(D:MD K C n q st)(b:BD n q st ps)(o:∀ {f fd},eK K n q st f fd->bi P w K mg base CX k f fd ps sp):fD P w K mg base CX k C n ps sp:=by
 obtain⟨f,_,_,_,_,_,_,_,_,_,a,i,l,d,kp⟩:=D;have F:=sk (x:=n) (qual:=q) (st:=st) l d kp;exact⟨⟨f,_,⟨a,i,kp⟩,F.binds b,o F⟩⟩
end
theorem kh{α:Type}{P:List α->Prop}(h:∀a0,P [a0])(l:List α)(e:l.length=1):P l:=by
 cases l with
 |nil=>cases e
 |cons a t=>cases t with
  |nil=>exact h a
  |cons b t=>cases e
theorem fz{α:Type}{P:List α->Prop}(h:∀a0 a1,P [a0,a1])(l:List α)(e:l.length=2):P l:=by
 cases l with
 |nil=>cases e
 |cons a t=>exact kh (P:=fun t=>P (a::t)) (h a) t (mx e)
theorem iA{α:Type}{P:List α->Prop}(h:∀a0 a1 a2,P [a0,a1,a2])(l:List α)(e:l.length=3):P l:=by
 cases l with
 |nil=>cases e
 |cons a t=>exact fz (P:=fun t=>P (a::t)) (h a) t (mx e)
theorem ou{α:Type}{P:List α->Prop}(h:∀a0 a1 a2 a3,P [a0,a1,a2,a3])(l:List α)(e:l.length=4):P l:=by
 cases l with
 |nil=>cases e
 |cons a t=>exact iA (P:=fun t=>P (a::t)) (h a) t (mx e)
theorem Dr{α:Type}{P:List α->Prop}(h:∀a0 a1 a2 a3 a4,P [a0,a1,a2,a3,a4])(l:List α)(e:l.length=5):P l:=by
 cases l with
 |nil=>cases e
 |cons a t=>exact ou (P:=fun t=>P (a::t)) (h a) t (mx e)
theorem Vn{α:Type}{P:List α->Prop}(h:∀a0 a1 a2 a3 a4 a5,P [a0,a1,a2,a3,a4,a5])(l:List α)(e:l.length=6):P l:=by
 cases l with
 |nil=>cases e
 |cons a t=>exact Dr (P:=fun t=>P (a::t)) (h a) t (mx e)
theorem QG{l:PySem.W.OpenLaw}{w:World}{K:PySem.W.Frag}{h:Heap}{mg:Str->Option Value}{fa:Addr}(X:K.In h)(G:h.Ns mainGlobals mg)(hfa:mg "law"=some (.ref fa)){C cO Pt qj lQ gb xp cg:Addr}{qC uK qD xq qE ui:Tok}(aC:PySem.W.nsIn K mainGlobals "Net"=some (some (.ref C)))(NK:PySem.W.nsIn K mainGlobals "BeatError"=some (some (.ref qj)))(EY:PySem.W.nsIn K mainGlobals "NoShape"=some (some (.ref lQ)))(EZ:PySem.W.nsIn K mainGlobals "NoHouse"=some (some (.ref gb)))(Mi:PySem.W.nsIn K mainGlobals "NoTie"=some (some (.ref xp)))(Vo:PySem.W.nsIn K mainGlobals "Box"=some (some (.ref cg)))(Mj:FD K "is_whole" A1)(Jm:FD K "is_whole_within" wL)(Ml:FD K "is_house" A2)(Vp:FD K "is_row" OX)(Vq:FD K "are_unlike_houses" O4)(Vr:FD K "is_tie" O1)(Mm:FD K "check_ties" A5)(Vs:FD K "check_balance" O2)(QH:FC K "houses_out" yu cO)(QI:FD K "distances_from" Hu)(Mn:FD K "check_reached" A6)(QJ:FD K "product" HQ)(Jn:FD K "pairs_net" wT)(Jo:FD K "check_sides" wU)(Jp:FD K "box_pairs" wV)(QK:FD K "box_net" HP)(aag:FD K "are_tied" YX)(Vt:FD K "_law_pot" Py)(aah:FD K "_law_draw" Y3)(aai:FD K "_law_sides" Y5)(aaj:FD K "_law_many" Y6)(aak:FD K "_law_place" Y7)(aal:FD K "_law_step" Y8)(aam:FD K "_law_ties" Y_)(aan:FD K "_law_phase" Za)(aao:FD K "came_by_at" Zh)(aap:FD K "is_berth" Zg)(aaq:FD K "is_berthed" Zf)(aar:FD K "under_way" ZN)(Vu:FD K "take_wished" ZI)(aas:FD K "keep_to_lane" ZJ)(aat:FD K "hand_from" ZO)(aau:FD K "check_berthed" Zi)(aav:FD K "lane_hand" Zj)(aaw:FD K "_law_wish" Zb)(aax:FD K "_law_far" sFr)(aay:FD K "_law_way" sWa)(aaz:FD K "_law_step_right" sSR)(aaA:FD K "_law_right" sRi)(aaB:FD K "_law_is_berthed" sJB)(aaC:FD K "_law_lane_ties" Zn)(aaD:FD K "_law_houses" Zo)(aaE:FD K "_law_berthed" Zq)(Vv:FD K "law" BJ)(QL:MD K C "__init__" "Net.__init__" CP)(Mo:MD K C "check_house" "Net.check_house" A4)(Vw:MD K C "out" "Net.out" OZ)(QM:MD K C "many" "Net.many" Hn)(pg:PySem.W.plainGet K C Str.empty=true)(aaF:PySem.W.hasDictIn K C=true)(po:PySem.W.plainOver K C=true)(sa:PySem.W.findIn K (.ref C) "__setattr__"=some (some (.builtin "object.__setattr__")))(mk:PySem.W.makesIn K C=true)(kc:PySem.W.keepIn K (.ref C)=true)(nH:PySem.W.findIn K (.ref C) "house_count"=some none)(nT:PySem.W.findIn K (.ref C) "tie_list"=some none)(nO:PySem.W.findIn K (.ref C) "out_lists"=some none)(nD:PySem.W.findIn K (.ref C) "distances"=some none)(xr:PySem.W.nsIn K mainGlobals "isinstance"=some none)(Vx:PySem.W.nsIn K mainGlobals "int"=some none)(QN:PySem.W.nsIn K mainGlobals "bool"=some none)(Mp:PySem.W.nsIn K mainGlobals "tuple"=some none)(QO:PySem.W.nsIn K mainGlobals "list"=some none)(Vy:PySem.W.nsIn K mainGlobals "str"=some none)(Vz:PySem.W.nsIn K mainGlobals "set"=some none)(VA:PySem.W.nsIn K mainGlobals "len"=some none)(Mq:PySem.W.nsIn K mainGlobals "range"=some none)(Jq:PySem.W.nsIn K mainGlobals "sorted"=some none)(VB:PySem.W.nsIn K mainGlobals "any"=some none)(VC:PySem.W.nsIn K mainGlobals "max"=some none)(VD:PySem.W.nsIn K mainGlobals "min"=some none)(xt:PySem.W.nsIn K mainGlobals "ValueError"=some none)(VE:PySem.W.nsIn K mainGlobals "all"=some none)(VF:PySem.W.nsIn K mainGlobals "abs"=some none)(Jr:PySem.W.nsIn K mainGlobals "divmod"=some none)(QP:PySem.W.nsIn K mainGlobals "dict"=some none)(VG:PySem.W.nsIn K mainGlobals "zip"=some none)(QQ:PySem.W.nsIn K mainGlobals "repr"=some none)(lB:PySem.W.nsIn K mainGlobals "enumerate"=some none)(BK:PySem.W.nsIn K mainGlobals "reversed"=some none)(VH:PySem.W.nsIn K mainGlobals "sum"=some none)(qF:PySem.W.nsIn K mainGlobals "FEWEST_HOUSES"=some (some (.int 2 qC)))(l9:PySem.W.nsIn K mainGlobals "MOST_HOUSES"=some (some (.int 32 uK)))(qG:PySem.W.nsIn K mainGlobals "MOST_TIES_OUT"=some (some (.int 8 qD)))(xu:PySem.W.nsIn K mainGlobals "MOST_SIDES"=some (some (.int 5 xq)))(qH:PySem.W.nsIn K mainGlobals "SHORTEST_SIDE"=some (some (.int 2 qE)))(uj:PySem.W.nsIn K mainGlobals "LONGEST_SIDE"=some (some (.int 8 ui)))(NL:qr K qj)(E2:qr K lQ)(E3:qr K gb)(Mr:qr K xp)(aaG:PySem.W.plainGet K cg Str.empty=true)(aaH:PySem.W.hasDictIn K cg=true)(aaI:PySem.W.plainOver K cg=true)(aaJ:PySem.W.findIn K (.ref cg) "__setattr__"=some (some (.builtin "object.__setattr__")))(aaK:PySem.W.makesIn K cg=true)(aaL:PySem.W.keepIn K (.ref cg)=true)(aaM:PySem.W.findIn K (.ref cg) "tied_net"=some none)(aaN:PySem.W.findIn K (.ref cg) "side_row"=some none)(QR:MD K cg "__init__" "Box.__init__" Lz)(aaO:MD K cg "place" "Box.place" Ph)(aaP:MD K cg "tied" "Box.tied" Ze)(aaQ:MD K cg "way" "Box.way" Pj)(aaR:MD K cg "phase" "Box.phase" Pk)(aaS:MD K cg "sides" "Box.sides" ZM)(aaT:MD K cg "house" "Box.house" Pi)(aaU:MD K cg "wish" "Box.wish" Pl)(QS:PySem.W.codeHdIn K cO Pt=true):
  ∃fd:FuncData,(∀ (s:Shared) (v:Value),BindsTo s fd ⟨[v],[]⟩ [("_law_script",v)])/\∀base:Heap,K.In base->base.Ns mainGlobals mg->wA mg base->bi l.prog w K mg base ba 13 fa fd ["_law_script"] (Dq K Pt):=by
 obtain⟨abM,oc,od,an,sl,kV,dc,pm,cd,ct,VI,VJ,VL,VM⟩:=Vv;have e:=hfa.symm.trans (ic X G VI);cases e;have VN:=sk (x:="law") (qual:="law") (st:=BJ) VJ VL VM;obtain⟨f_i,oci,odi,ani,sli,kVi,dci,pmi,cdi,cti,a_i,i_i,l_i,d_i,k_i⟩:=QL;have yX:=sk (x:="__init__") (qual:="Net.__init__") (st:=CP) l_i d_i k_i;have Js:=yX.binds (ps:=["self","many","ties"]) fun _ _ _ _ _ _=>iA fun _ _ _=>rfl;have MK:Mk K C f_i:=⟨mk,a_i,i_i,kc⟩
 have B:Bl mg:=⟨dS X G xr,dS X G Vx,dS X G QN,dS X G Mp,dS X G QO,dS X G Vy,dS X G Vz,dS X G VA,dS X G Mq,dS X G Jq,dS X G VB,dS X G VC,dS X G VD,dS X G xt,dS X G VE⟩
 have T:NT K mg C:=⟨⟨pg,aaF,po,sa⟩,nH,nT,nO,nD,ic X G aC⟩
 have B2:Bl2 mg:=⟨dS X G VF,dS X G Jr,dS X G QP,dS X G VG,dS X G QQ⟩
 have TB:Fh K mg cg:=⟨⟨aaG,aaH,aaI,aaJ⟩,aaM,aaN,ic X G Vo⟩
 obtain⟨VO,oc9,od9,an9,sl9,kV9,dc9,pm9,cd9,ct9,aaV,aaW,aaX,aaY,aaZ⟩:=QR;have VP:=sk (x:="__init__") (qual:="Box.__init__") (st:=Lz) aaX aaY aaZ;have aa0:=VP.binds (ps:=["self","sides"]) fun _ _ _ _ _ _=>fz fun _ _=>rfl;have MB:Mk K cg VO:=⟨aaK,aaV,aaW,aaL⟩
 refine⟨PySem.W.fnOf "law" "law" (dz BJ) (cz BJ) (ao BJ) .none kV dc pm an cd ct,fun s v=>.of_eq rfl,fun base kb nb hb=>?_⟩;have Ds:cu l.prog w K mg base ba 1 "is_whole" ["thing"] (qT K):=FD.f_ X G Mj (fun _ _ _ _ _ _=>kh fun _=>rfl) fun Ms=>Hi Ms B;have uk:cu l.prog w K mg base ba 2 "is_whole_within" ["thing","least","most"] (lf K):=FD.f_ X G Jm (fun _ _ _ _ _ _=>iA fun _ _ _=>rfl) fun Jt=>Et Jt Ds;have q_:cu l.prog w K mg base ba 3 "is_house" ["many","thing"] (lJ K):=FD.f_ X G Ml (fun _ _ _ _ _ _=>fz fun _ _=>rfl) fun Mt=>Hk Mt uk;have Dt:cu l.prog w K mg base ba 1 "is_row" ["thing","length"] (vf K):=FD.f_ X G Vp (fun _ _ _ _ _ _=>fz fun _ _=>rfl) fun VQ=>OY VQ B;have VR:cu l.prog w K mg base ba 4 "are_unlike_houses" ["many","one","other"] Hq:=FD.f_ X G Vq (fun _ _ _ _ _ _=>iA fun _ _ _=>rfl) fun VS=>O5 VS q_;have VT:cu l.prog w K mg base ba 5 "is_tie" ["many","thing"] Hr:=FD.f_ X G Vr (fun _ _ _ _ _ _=>fz fun _ _=>rfl) fun VU=>O6 VU Dt VR;have Mu:cu l.prog w K mg base ba 6 "check_ties" ["many","ties"] lL:=FD.f_ X G Mm (fun _ _ _ _ _ _=>fz fun _ _=>rfl) fun Mv=>Hs Mv B ⟨_,ic X G qF⟩ ⟨_,ic X G l9⟩ uk VT;have VV:cu l.prog w K mg base ba 1 "check_balance" ["many","ties"] lL:=FD.f_ X G Vs (fun _ _ _ _ _ _=>fz fun _ _=>rfl) fun VW=>O7 VW B ⟨_,ic X G qG⟩;have QT:cu l.prog w K mg base ba 1 "houses_out" ["many","ties","house"] (wQ Pt):=FC.f_ X G QH (fun _ _ _ _ _ _=>iA fun _ _ _=>rfl) fun QU=>Ll QU B kb hb QS;have QV:cu l.prog w K mg base ba 1 "distances_from" ["out_lists","start"] wR:=FD.f_ X G QI (fun _ _ _ _ _ _=>fz fun _ _=>rfl) fun QW=>Lm QW B;have Mw:cu l.prog w K mg base ba 1 "check_reached" ["distances"] wS:=FD.f_ X G Mn (fun _ _ _ _ _ _=>kh fun _=>rfl) fun Mx=>Hw Mx B;have QX:bi l.prog w K mg base ba 7 f_i _ ["self","many","ties"] (A8 C Pt):=Lr yX T B Mu VV QT QV Mw;have Du:fD l.prog w K mg base (iE l.prog w) 4 C "check_house" ["self","thing"] (qW K C gb):=MD.f_ Mo (fun _ _ _ _ _ _=>fz fun _ _=>rfl) fun E4=>Ho E4 T ⟨ic X G EZ,E3⟩ q_;have NM:fD l.prog w K mg base (iE l.prog w) 5 C "out" ["self","house"] (CU K C gb Lf):=MD.f_ Vw (fun _ _ _ _ _ _=>fz fun _ _=>rfl) fun My=>O0 My T B Du;have QY:fD l.prog w K mg base ba 1 C "many" ["self"] (A_ C):=MD.f_ QM (fun _ _ _ _ _ _=>kh fun _=>rfl) fun Ju=>Lu Ju T;have BL:cu l.prog w K mg base ba 1 "product" ["numbers"] (tw K):=FD.f_ X G QJ (fun _ _ _ _ _ _=>kh fun _=>rfl) fun QZ=>Lv QZ;have Jv:cu l.prog w K mg base ba 9 "pairs_net" ["many","pairs"] (tu C Pt):=FD.f_ X G Jn (fun _ _ _ _ _ _=>fz fun _ _=>rfl) fun Jw=>Ez Jw B T MK Js QX Dt;have Jx:cu l.prog w K mg base (iE l.prog w) 3 "check_sides" ["sides"] (tJ K lQ):=FD.f_ X G Jo (fun _ _ _ _ _ _=>kh fun _=>rfl) fun Jy=>EA Jy B ⟨ic X G EY,E2⟩ ⟨_,ic X G xu⟩ ⟨_,ic X G qH⟩ ⟨_,ic X G uj⟩ ⟨_,ic X G l9⟩ uk BL;have Jz:cu l.prog w K mg base ba 2 "box_pairs" ["sides"] tK:=FD.f_ X G Jp (fun _ _ _ _ _ _=>kh fun _=>rfl) fun JA=>EB JA B BL;have Q0:cu l.prog w K mg base (iE l.prog w) 10 "box_net" ["sides"] (Bc K C Pt lQ):=FD.f_ X G QK (fun _ _ _ _ _ _=>kh fun _=>rfl) fun Q3=>Lw Q3 Jx Jv BL Jz;have aa1:cu l.prog w K mg base ba 6 "are_tied" ["net","one","other"] (Pr K C):=FD.f_ X G aag (fun _ _ _ _ _ _=>iA fun _ _ _=>rfl) fun aa2=>Ue aa2 T q_ QY NM;have aa3:bi l.prog w K mg base ba 11 VO _ ["self","sides"] (Ie C cg Pt):=Pm VP B TB Q0;have NO:fD l.prog w K mg base (iE l.prog w) 5 cg "place" ["self","house"] (C5 K C cg gb):=MD.f_ aaO (fun _ _ _ _ _ _=>fz fun _ _=>rfl) fun F=>Pn F B T TB Du;have VX:fD l.prog w K mg base ba 1 cg "sides" ["self"] (Qr C cg):=MD.f_ aaS (fun _ _ _ _ _ _=>kh fun _=>rfl) fun F=>U9 F TB;have VY:fD l.prog w K mg base ba 4 cg "house" ["self","place"] (Ik C cg):=MD.f_ aaT (fun _ _ _ _ _ _=>fz fun _ _=>rfl) fun F=>Po F B B2.zip TB Dt q_;have NP:fD l.prog w K mg base ba 6 cg "tied" ["self","house"] (LN C cg):=MD.f_ aaP (fun _ _ _ _ _ _=>fz fun _ _=>rfl) fun F=>Uw F T TB NM;have JC:fD l.prog w K mg base (iE l.prog w) 6 cg "phase" ["self","house","home"] (yz K C cg gb):=MD.f_ aaR (fun _ _ _ _ _ _=>iA fun _ _ _=>rfl) fun F=>Ps F B TB NO;have NQ:fD l.prog w K mg base (iE l.prog w) 7 cg "way" ["self","one","other"] (yA K C cg xp):=MD.f_ aaQ (fun _ _ _ _ _ _=>iA fun _ _ _=>rfl) fun F=>Pw F TB ⟨ic X G Mi,Mr⟩ aa1 JC;have VZ:fD l.prog w K mg base (iE l.prog w) 7 cg "wish" ["self","house","home"] (C7 K C cg gb):=MD.f_ aaU (fun _ _ _ _ _ _=>iA fun _ _ _=>rfl) fun F=>Px F B TB JC NO VY;have aa4:cu l.prog w K mg base ba 1 "came_by_at" ["stand","came","house"] PM:=FD.f_ X G aao (fun _ _ _ _ _ _=>iA fun _ _ _=>rfl) fun aa5=>Ux aa5 B;have aa6:cu l.prog w K mg base ba 8 "is_berth" ["box","homes","stand","came","letter"] (PP K C cg):=FD.f_ X G aap (fun _ _ _ _ _ _=>Dr fun _ _ _ _ _=>rfl) fun aa7=>UA aa7 TB Ds NP NQ JC aa4;have V0:cu l.prog w K mg base ba 9 "is_berthed" ["box","homes","stand","came"] (LP K C cg):=FD.f_ X G aaq (fun _ _ _ _ _ _=>ou fun _ _ _ _=>rfl) fun aa8=>UC aa8 B Dt aa6;have aa9:cu l.prog w K mg base ba 1 "under_way" ["stand"] Qs:=FD.f_ X G aar (fun _ _ _ _ _ _=>kh fun _=>rfl) fun aba=>U_ aba (dS X G lB);have V1:cu l.prog w K mg base ba 1 "take_wished" ["wishes","letters","free","goes"] Ql:=FD.f_ X G Vu (fun _ _ _ _ _ _=>ou fun _ _ _ _=>rfl) fun V2=>UZ V2 B;have abb:cu l.prog w K mg base ba 1 "keep_to_lane" ["came","letters","free","goes"] Qm:=FD.f_ X G aas (fun _ _ _ _ _ _=>ou fun _ _ _ _=>rfl) fun abc=>U8 abc B;have abd:cu l.prog w K mg base ba 8 "hand_from" ["box","homes","stand","came","house","goes"] (Qt C cg):=FD.f_ X G aat (fun _ _ _ _ _ _=>Vn fun _ _ _ _ _ _=>rfl) fun abe=>Va abe B (dS X G BK) TB NP NQ VZ VX V1 abb;have abf:cu l.prog w K mg base ba 10 "check_berthed" ["box","homes","stand","came"] (I0 K C cg):=FD.f_ X G aau (fun _ _ _ _ _ _=>ou fun _ _ _ _=>rfl) fun abg=>Qi abg V0;have abh:cu l.prog w K mg base ba 11 "lane_hand" ["box","homes","stand","came"] (Je K C cg):=FD.f_ X G aav (fun _ _ _ _ _ _=>ou fun _ _ _ _=>rfl) fun abi=>Qw abi B abf aa9 abd;have V3:cu l.prog w K mg base ba 1 "_law_pot" ["_law_script","_law_k"] (Ir K):=FD.f_ X G Vt (fun _ _ _ _ _ _=>fz fun _ _=>rfl) fun V4=>PB V4 B;have Mz:cu l.prog w K mg base ba 1 "_law_draw" ["_law_pot_here","_law_many_here"] Bg:=FD.f_ X G aah (fun _ _ _ _ _ _=>fz fun _ _=>rfl) fun abj=>Ui abj B2;have abk:cu l.prog w K mg base ba 2 "_law_sides" ["_law_pot_here"] PC:=FD.f_ X G aai (fun _ _ _ _ _ _=>kh fun _=>rfl) fun abl=>Uj abl B Mz;have V5:cu l.prog w K mg base ba 1 "_law_many" ["_law_sides_here"] Iw:=FD.f_ X G aaj (fun _ _ _ _ _ _=>kh fun _=>rfl) fun abm=>Uk abm;have ME:cu l.prog w K mg base ba 1 "_law_place" ["_law_sides_here","_law_house"] yB:=FD.f_ X G aak (fun _ _ _ _ _ _=>fz fun _ _=>rfl) fun abn=>Ul abn;have V6:cu l.prog w K mg base ba 2 "_law_step" ["_law_sides_here","_law_house","_law_k","_law_by"] LF:=FD.f_ X G aal (fun _ _ _ _ _ _=>ou fun _ _ _ _=>rfl) fun abo=>Uo abo ME V5;have V7:cu l.prog w K mg base ba 3 "_law_ties" ["_law_sides_here","_law_house","_law_k"] LI:=FD.f_ X G aam (fun _ _ _ _ _ _=>iA fun _ _ _=>rfl) fun abp=>Up abp V6;have Q4:cu l.prog w K mg base ba 2 "_law_phase" ["_law_sides_here","_law_house","_law_home"] Iy:=FD.f_ X G aan (fun _ _ _ _ _ _=>iA fun _ _ _=>rfl) fun abq=>Ur abq B ME;have abr:cu l.prog w K mg base ba 3 "_law_wish" ["_law_sides_here","_law_house","_law_home"] PF:=FD.f_ X G aaw (fun _ _ _ _ _ _=>iA fun _ _ _=>rfl) fun abt=>Uu abt ME V6 Q4;have abu:cu l.prog w K mg base ba 4 "_law_lane_ties" ["_law_sides_here","_law_house","_law_home","_law_used"] P0:=FD.f_ X G aaC (fun _ _ _ _ _ _=>ou fun _ _ _ _=>rfl) fun abv=>UD abv B Q4 V7;have abw:cu l.prog w K mg base ba 2 "_law_houses" ["_law_pot_here","_law_many_here"] P3:=FD.f_ X G aaD (fun _ _ _ _ _ _=>fz fun _ _=>rfl) fun abx=>UE abx B Mz;have aby:cu l.prog w K mg base ba 5 "_law_berthed" ["_law_pot_here","_law_sides_here"] P8:=FD.f_ X G aaE (fun _ _ _ _ _ _=>fz fun _ _=>rfl) fun abz=>UG abz B V5 Mz abw abu;have abA:cu l.prog w K mg base ba 2 "_law_far" ["_law_sides_here","_law_house","_law_home"] Qy:=FD.f_ X G aax (fun _ _ _ _ _ _=>iA fun _ _ _=>rfl) fun abB=>Vh abB (dS X G VH) B2.zip B2.abs ME;have V8:cu l.prog w K mg base ba 4 "_law_way" ["_law_sides_here","_law_one","_law_other"] Mf:=FD.f_ X G aay (fun _ _ _ _ _ _=>iA fun _ _ _=>rfl) fun abC=>Vj abC B V7;have abD:cu l.prog w K mg base ba 5 "_law_step_right" ["_law_sides_here","_law_house","_law_home","_law_tie","_law_to"] Qz:=FD.f_ X G aaz (fun _ _ _ _ _ _=>Dr fun _ _ _ _ _=>rfl) fun abE=>Vk abE B V8 abr abA;have abF:cu l.prog w K mg base ba 6 "_law_right" ["_law_sides_here","_law_homes","_law_stand","_law_came","_law_told"] QA:=FD.f_ X G aaA (fun _ _ _ _ _ _=>Dr fun _ _ _ _ _=>rfl) fun abG=>Vl abG B (dS X G lB) abD;have abH:cu l.prog w K mg base ba 5 "_law_is_berthed" ["_law_sides_here","_law_homes","_law_stand","_law_came"] QB:=FD.f_ X G aaB (fun _ _ _ _ _ _=>ou fun _ _ _ _=>rfl) fun abI=>Vm abI B (dS X G lB) V8 Q4;exact QD VN B B2.zip TB MB aa0 aa3 V3 Mz abk aby abh abF abH V0
theorem V9(h:((List.range 2000).any fun c=>PySem.W.codeHdIn K c P)=true):∃c,PySem.W.codeHdIn K c P=true:=
 let ⟨c,_,e⟩:=vQ.mp h;⟨c,e⟩
theorem Q5(hO:Cr ts H)(h:bo K H a xs):Fj K H a xs:=by
 rcases h with h|h
 .rcases h with h|⟨o,h⟩
  .rcases hO.2 a with z|⟨_,z⟩|⟨o,ys,z⟩ <;> · rw[h] at z;cases z
  .exact .inl ⟨o,h⟩
 .exact .inr fun H'=>.inr h
theorem walk{l:PySem.W.OpenLaw}{q:Program}{uW:List Str}{XP:(Str->Option Value)->Heap->Prop}{YP:World->Heap->Prop}{d:DefRec}{K:Params->PySem.W.Frag}{Pt:Addr}(hn:l.most=some 63)(Sq:d.params.defaults=[])(hY:∀ (w:World) (h:Heap),YP w h->(K w.params).In h)(hT:∀ (w:World) (h:Heap),YP w h->∀P∈[Pt],h.get? P=some (PySem.W.tabObj #[]))(abJ:∀ (w:World),((List.range 2000).any fun c=>PySem.W.codeHdIn (K w.params) c Pt)=true)(abK:∀ (w:World),(K w.params).lookup Pt=none)(F:∀ (w:World) (mg:Str->Option Value) (fa:Addr) (h:Heap),(K w.params).In h->h.Ns mainGlobals mg->mg d.name=some (.ref fa)->
   ∃fd:FuncData,(∀ (s:Shared) (u:Value),BindsTo s fd ⟨[u],[]⟩ [("_law_script",u)])/\∀base:Heap,(K w.params).In base->base.Ns mainGlobals mg->wA mg base->bi l.prog w (K w.params) mg base ba 13 fa fd ["_law_script"] (Dq (K w.params) Pt)):
  PySem.W.WalkO q uW XP YP l.row.toRowW d [] (fun f vs=>PySem.call f vs):=
 GN (n:=63) (k:=13) (x:="_law_script") (ts:=[Pt]) (K:=K) (CX:=fun _=>ba) (sp:=fun w=>(Dq (K w.params) Pt)) hn (by decide) Sq ⟨rfl,by decide,by decide,rfl⟩ hY hT
  (fun w P=>fun e=>by rw[dL.mp e];exact V9 (abJ w)) (fun w P=>fun e=>by rw[dL.mp e];exact abK w) F
  (fun w H a ns hl hO hS=>⟨a,ns,rfl,Q5 hO hS,hl,.inl (hO.1 _ (by simp)),fun _=>rfl⟩) fun _ _ _ _ _ z=>z
end tf
open PySem PySem.W PyProof.Rows
namespace PySem.W.Fast
def tw14057165532124035382:=trivial
def tw5690364017351422458:=trivial
def tw9061719107127395597:=trivial
def tw6743146662489229848:=trivial
def tw6774165808218494779:=trivial
def tw1157366305427392731:=trivial
def tw12819173822811612259:=trivial
def tw1848814102501223169:=trivial
def tw17463652529700549424:=trivial
def tw13593993251828417255:=trivial
def tw18078215470361320112:=trivial
def tw11834992665548604732:=trivial
def tw3415057102260112252:=trivial
def tw2936426293870154292:=trivial
def tw12140295828571103611:=trivial
def tw2960564695650828319:=trivial
def tw16832878857816427087:=trivial
def tw9390350987097203663:=trivial
def tw7323116583895038858:=trivial
def tw4416515210131163777:=trivial
def tw14773457682527919645:=trivial
def tw422689919761405055:=trivial
def tw15936269808718395674:=trivial
def tw15316325943677911426:=trivial
def tw1250227756290147100:=trivial
def tw10581410453278216111:=trivial
def tw8494667495500700583:=trivial
def tw6372009918337339976:=trivial
def tw8135745265232257415:=trivial
def tw3036749485135233373:=trivial
def tw17825428351690944364:=trivial
def tw8217306939445499383:=trivial
def tw10365387105204419218:=trivial
def tw482840582458830766:=trivial
def tw11925434050864832020:=trivial
def tw7583940056827816149:=trivial
def tw1752745601892534009:=trivial
def tw10005492094546266402:=trivial
def tw7026520543824449471:=trivial
def tw9954082655780757304:=trivial
def tw4992553683487331146:=trivial
def tw6461490016625852467:=trivial
def tw11662221437364033746:=trivial
def tw11366605028813846224:=trivial
def tw14012226852453337912:=trivial
def tw8151983855526764338:=trivial
def tw4918176163973428124:=trivial
def tw11117041947576246015:=trivial
def tw10647319565972635608:=trivial
def tw1337933239933395169:=trivial
def tw2691912298893672522:=trivial
def tw13993996427634659110:=trivial
def tw15810788899606203165:=trivial
def tw17400882642177121532:=trivial
def tw85024755471339314:=trivial
def tw9267547168995431344:=trivial
def tw11129113830810020378:=trivial
def tw1042526325828944762:=trivial
def tw4167632715628143205:=trivial
def tw8761368422509840059:=trivial
def tw18367237664558552107:=trivial
def tw5037626591104826648:=trivial
def tw4406198261145017211:=trivial
def tw990414519036165343:=trivial
def tw7271972041013816260:=trivial
def tw16051939124299520816:=trivial
def tw7484717919489996344:=trivial
def tw17143283498189809786:=trivial
def tw13563577165226109826:=trivial
def tw14270249460609123398:=trivial
def tw6722168215830138220:=trivial
def tw3912560203890787747:=trivial
def tw7712113476629174338:=trivial
def tw15178586531713573435:=trivial
def tw3343510207913379546:=trivial
def tw3050495874682527141:=trivial
def tw12050876499171577685:=trivial
def tw5788739421271927724:=trivial
def tw13377881243841998736:=trivial
def tw6794468122897890017:=trivial
def tw3180920685655383141:=trivial
def tw3433858025545526162:=trivial
def tw11385084645425478189:=trivial
def tw4348555045183389220:=trivial
def tw10741459306934751199:=trivial
def tw13472831825396419815:=trivial
def tw14829811589192000196:=trivial
def tw4391255798687756182:=trivial
def tw5111956928991554204:=trivial
def tw2405652038066004236:=trivial
def tw10672303608137110459:=trivial
def tw3934955477899897884:=trivial
def tw17111827155192659618:=trivial
def tw6502961582700267645:=trivial
def tw14394500337465076053:=trivial
def tw12984535435612479383:=trivial
def tw13548340082802046336:=trivial
def tw8688431489003758234:=trivial
def tw3495933515942084872:=trivial
def tw15064800251027967618:=trivial
def tw8282435893235593959:=trivial
def tw1174316637248400030:=trivial
def tw10061796568072174877:=trivial
def tw2820453093305327051:=trivial
def tw11762246299006548773:=trivial
def tw4658740140120024775:=trivial
def tw1137458920910992497:=trivial
def tw17841441377129622267:=trivial
def tw5798158059487904589:=trivial
def tw12314641883787023262:=trivial
def tw8376830585038142382:=trivial
def tw4574032500963099404:=trivial
def tw6964080000547500413:=trivial
def tw4321652901246127839:=trivial
def tw7901754025595761593:=trivial
def tw17545344201644947921:=trivial
def tw17506894029136562619:=trivial
def tw16962602176065695261:=trivial
def tw16252563820350300184:=trivial
def tw8221217986905005862:=trivial
def tw38121723516271920:=trivial
def tw902633788233075710:=trivial
def tw7518894001404184392:=trivial
def tw1540058112153102184:=trivial
def tw16990038134220159521:=trivial
def tw4587709859632817421:=trivial
def tw8147350823804851994:=trivial
def tw2945692595729639711:=trivial
def tw2146697130297240756:=trivial
def tw12462337823738896538:=trivial
def tw2847102872451389862:=trivial
def tw9220748190323950652:=trivial
def tw4396449529606162296:=trivial
def tw4937368723907152083:=trivial
def tw15779771195375702295:=trivial
def tw13445770936698258169:=trivial
def tw14222421693885033552:=trivial
def tw1235730092710951684:=trivial
def tw3807609276902659029:=trivial
def tw10248716020448174573:=trivial
def tw1690182284593167145:=trivial
def tw12349930185888898485:=trivial
def tw17822292010384032673:=trivial
def tw13914709788553240459:=trivial
def tw1699820524437056015:=trivial
def tw16069711018226133447:=trivial
def tw2527862243923813996:=trivial
def tw10978211920256578399:=trivial
def tw5889232739856411075:=trivial
def tw5460202491510306508:=trivial
def tw13470096061986801659:=trivial
def tw11180664462690478027:=trivial
def tw6453334080409066292:=trivial
def tw12668297144907038086:=trivial
def tw13055791145254071702:=trivial
def tw8954693818746205267:=trivial
def tw12806746135393856266:=trivial
def tw3745816732934871630:=trivial
def tw3337217275693524731:=trivial
def tw5100651459859411903:=trivial
def tw8856225718812674768:=trivial
def tw4697161700932187620:=trivial
def tw8182600278229283794:=trivial
def tw13613651497344028983:=trivial
def tw2870082527044549896:=trivial
def tw2694534003956381024:=trivial
def tw12080059155124958893:=trivial
def tw3450360239616606803:=trivial
def tw6774631151926892997:=trivial
def tw12628085267280070003:=trivial
def tw16961856239766502349:=trivial
def tw238551901934909198:=trivial
def tw18196019414680440423:=trivial
def tw588831895521350009:=trivial
def tw705141858332921268:=trivial
def tw1586547832020833350:=trivial
def tw9869687081528880053:=trivial
def tw4257129137101335052:=trivial
def tw2457868477728148210:=trivial
def tw9568858115388707755:=trivial
def tw5787961607970425809:=trivial
def tw12692927662721050560:=trivial
def tw14145970294477954164:=trivial
def tw16282583728861111578:=trivial
def tw640192714216002555:=trivial
def tw1824275882012003547:=trivial
def tw11853645486302745037:=trivial
def tw1714433620781659832:=trivial
def tw13271235266942447768:=trivial
def tw509533289344623469:=trivial
def tw6333519959294808677:=trivial
def tw10207048565304390725:=trivial
def tw7330591352319264696:=trivial
def tw7196534202402263512:=trivial
def tw18047105350675238072:=trivial
def tw712596005342383766:=trivial
def tw5075234929988885928:=trivial
def tw13337367801552662803:=trivial
def tw17882504232838760086:=trivial
def tw13866190487337153716:=trivial
def tw14723926988051353687:=trivial
def tw480964272944111401:=trivial
def tw11002217524554209291:=trivial
def tw2710769443304543694:=trivial
def tw18215310604762985149:=trivial
def tw4578754186581535145:=trivial
def tw12796897432089395317:=trivial
def tw17189093452859033114:=trivial
def tw3622651075960358804:=trivial
def tw9443056453600790847:=trivial
def tw8706208405709591013:=trivial
def tw140618131269650442:=trivial
def tw583771018655963836:=trivial
def tw5534282244627620373:=trivial
def tw1958015936737932982:=trivial
def tw17629686605191165365:=trivial
def tw16165720188015813384:=trivial
def tw16817525067497263519:=trivial
def tw13014630525336947056:=trivial
def tw3390886009940492972:=trivial
def tw17873783111499704806:=trivial
def tw375687612908537560:=trivial
def tw12997995763797670884:=trivial
def tw12976774277045312548:=trivial
def tw10107505394045035233:=trivial
def tw10845995574572841293:=trivial
def tw8135411928441735428:=trivial
def tw4706778902136073074:=trivial
def tw15291614164537429668:=trivial
def tw16552618406676333496:=trivial
def tw6482865601909858628:=trivial
def tw15120881735227956145:=trivial
def tw17310516556307918346:=trivial
def tw10363215391772075082:=trivial
def tw9474799093453399563:=trivial
def tw4217430058009596349:=trivial
def tw13973497946545856274:=trivial
def tw16081511938127004193:=trivial
def tw2561890857161991396:=trivial
def tw14464325026498949992:=trivial
def tw17629717438201551829:=trivial
def tw146371339667908744:=trivial
def tw5192091745523959762:=trivial
def tw10859926375223974070:=trivial
def tw1973224565101053274:=trivial
def tw9750689938966162888:=trivial
def tw10974847791690444481:=trivial
def tw12928911956357493965:=trivial
def tw9519159015737190135:=trivial
def tw3345962864495109003:=trivial
def tw7519339238039370432:=trivial
def tw7974286480293367484:=trivial
def tw16720656500775831128:=trivial
def tw5657989039091250004:=trivial
def tw12298245462837356466:=trivial
def tw4413207466543863687:=trivial
def tw7950167451197169641:=trivial
def tw11221308666779983872:=trivial
def tw13073714968852223114:=trivial
def tw11187144920334055636:=trivial
def tw17687813061579652366:=trivial
def tw7321036069775243545:=trivial
def tw3413653237084692246:=trivial
def tw4624929088054070605:=trivial
def tw9474648096194735942:=trivial
def tw13239289326616120217:=trivial
def tw15539338533806943422:=trivial
def tw17546634980528611885:=trivial
def tw3490353512461101261:=trivial
def tw16938908839188752601:=trivial
def tw8739760595784190932:=trivial
def tw5053382500485285457:=trivial
def tw10312450331616653145:=trivial
def tw6053864943604706284:=trivial
def tw4349082680241971352:=trivial
def tw70711059118050907:=trivial
def tw1482529757127380301:=trivial
def tw14567640199479008225:=trivial
def tw12427614090243853412:=trivial
def tw8418218492397010638:=trivial
def tw9389093785235610102:=trivial
def tw13493283799692404885:=trivial
def tw4027981274017244254:=trivial
def tw10179428564532661307:=trivial
def tw17282744787983777658:=trivial
def tw8503144512397344883:=trivial
def tw9137811095107536307:=trivial
def tw13443155558372659476:=trivial
def tw4756095118143046509:=trivial
def tw1703788651906872673:=trivial
def tw17012130184624329836:=trivial
def tw2504393136164049489:=trivial
def tw13734034569634714021:=trivial
def tw11747311286243177656:=trivial
def tw11224354471263867632:=trivial
def tw5972232923161322402:=trivial
def tw11258036997692911928:=trivial
def tw1226052591790756435:=trivial
def tw8416416359833117564:=trivial
def tw6290500042172062187:=trivial
def tw285505980070524719:=trivial
def tw1562363331065836549:=trivial
def tw14661291739176518983:=trivial
def tw6187025632600010878:=trivial
def tw5125365553210593797:=trivial
def tw492823104109209505:=trivial
def tw5219440442165539773:=trivial
def tw475757669290373406:=trivial
def tw17027387350821881768:=trivial
def tw15231698877741187592:=trivial
def tw12106555980209522356:=trivial
def tw7365596892223923942:=trivial
def tw10861878182273754098:=trivial
def tw4429093225398185143:=trivial
def tw14616220656831989310:=trivial
def tw10545709266521376206:=trivial
def tw17786015274929237622:=trivial
def tw16690002614976401599:=trivial
def tw16953983495842852973:=trivial
def tw2599039605457621304:=trivial
def tw1644010702349959401:=trivial
def tw15056642692941002392:=trivial
def tw5643178657656145795:=trivial
def tw7233841736849070454:=trivial
def tw1742252905907942009:=trivial
def tw4827969647169941301:=trivial
def tw3495217906874135749:=trivial
def tw2703508657026779090:=trivial
def tw3845982569322979205:=trivial
def tw5625392977045899129:=trivial
def tw12854544601775980372:=trivial
def tw5951087807432332779:=trivial
def tw14798661063697047961:=trivial
def tw11843501778085081654:=trivial
def tw17520975635000250197:=trivial
def tw12918693916797325816:=trivial
def tw11305440193044582664:=trivial
def tw13115147355987973988:=trivial
def tw7466957527746092592:=trivial
def tw4815499850800364517:=trivial
def tw18161728012776473198:=trivial
def tw10969575883485452603:=trivial
def tw2535855939392225219:=trivial
def tw4243362784428560734:=trivial
def tw17405573226956608300:=trivial
def tw9573829143027173183:=trivial
def tw1831159988417644441:=trivial
def tw11782532357299135936:=trivial
def tw3579527702213619592:=trivial
def tw13603971450472039334:=trivial
def tw8896224903665526279:=trivial
def tw2284895855591537979:=trivial
def tw13677858319611124950:=trivial
def tw15951417373852795595:=trivial
def tw12815472203816156222:=trivial
def tw18203028392010529997:=trivial
def tw5983806516892864899:=trivial
def tw2231021329009260643:=trivial
def tw13979332212571037486:=trivial
def tw7012259663665447045:=trivial
def tw15063064922345158655:=trivial
def tw12650794620332264868:=trivial
def tw10917600334033237542:=trivial
def tw15918057770416019626:=trivial
def tw4242991885972605788:=trivial
def tw6931788496801854147:=trivial
def tw4337154650361782798:=trivial
def tw17798490889323949216:=trivial
def tw8322831262535204380:=trivial
def tw12683667960556764800:=trivial
def tw16566107343518904093:=trivial
def tw16443696602069759381:=trivial
def tw4988487846335852280:=trivial
def tw13686278533062989659:=trivial
def tw9005698708855315245:=trivial
def tw8136702088799222054:=trivial
def tw13383873502191676605:=trivial
def tw506542197767464832:=trivial
def tw10566897745240867421:=trivial
def tw673746505711117243:=trivial
def tw6111749539666684285:=trivial
def tw2499450758105745994:=trivial
def tw4112315392689675214:=trivial
def tw14570732881207390959:=trivial
def tw8850366712940781569:=trivial
def tw17355869134670787689:=trivial
def tw7219422686177459590:=trivial
def tw4263298105670996364:=trivial
def tw509194022591125877:=trivial
def tw18311351309886120808:=trivial
def tw8880343844983034024:=trivial
def tw5984143577854423393:=trivial
def tw7164523738386078296:=trivial
def tw663713254222812659:=trivial
def tw214886338479568379:=trivial
def tw1134505061381156148:=trivial
def tw945596627287040581:=trivial
def tw473680647695348200:=trivial
def tw7554323394664939381:=trivial
def tw13857751932316114113:=trivial
def tw10669604888562778337:=trivial
def tw18285763885369393867:=trivial
def tw3393668274899983884:=trivial
def tw12335058516291464784:=trivial
def tw544313672061704714:=trivial
def tw5063061056593481013:=trivial
def tw758224395512978466:=trivial
def tw899414681675683830:=trivial
def tw8053660649315020573:=trivial
def tw13050685925770825997:=trivial
def tw9639287369111659221:=trivial
def tw11145259250538854844:=trivial
def tw10065429995593532551:=trivial
def tw11291499828812825007:=trivial
def tw455464084448819791:=trivial
def tw7123574840015408627:=trivial
def tw9120760421794498895:=trivial
def tw8452049764438478390:=trivial
def tw13651260936942258913:=trivial
def tw13908862660445936745:=trivial
def tw1412759513699301235:=trivial
def tw6762806901628987974:=trivial
def tw17799354910301599464:=trivial
def tw7702513708647028612:=trivial
def tw10563625037752493420:=trivial
def tw8721294225229588179:=trivial
def tw15759814673835503877:=trivial
def tw6670300777246006049:=trivial
def tw17183029281335976628:=trivial
def tw7354233996104536731:=trivial
def tw1570028240441594032:=trivial
def tw579872209217536207:=trivial
def tw12850315622382700969:=trivial
def tw12442136301096030235:=trivial
def tw5368758781842481660:=trivial
def tw3309210350330854986:=trivial
def tw10814690472938589462:=trivial
def tw11725282070014139696:=trivial
def tw10784455156716736860:=trivial
def tw8956744909503383459:=trivial
def tw12475415188281441554:=trivial
def tw12267121624683010001:=trivial
def tw10321273548784325907:=trivial
def tw17365802303657682207:=trivial
def tw18261227646686856754:=trivial
def tw1078906265730822115:=trivial
def tw5166741658956336296:=trivial
def tw2983533297781433452:=trivial
def tw11659888681209988755:=trivial
def tw8029699779059073618:=trivial
def tw14852889247705073257:=trivial
def tw13514727875794729552:=trivial
def tw14942867780079001840:=trivial
def tw6803755169128926613:=trivial
def tw199503197045931360:=trivial
def tw6213734967309821779:=trivial
def tw13909445437720950317:=trivial
def tw17905188426717241222:=trivial
def tw107648821572964493:=trivial
def tw15919515332159827949:=trivial
def tw14370639260185870883:=trivial
def tw12799256905620280030:=trivial
def tw15958559133291680449:=trivial
def tw11675830572745786378:=trivial
def tw12053513075883896163:=trivial
def tw6256081178356398812:=trivial
def tw8571909626047816145:=trivial
def tw14273622318856557722:=trivial
def tw5769818184879793622:=trivial
def tw17035023052688826320:=trivial
def tw8290024485705254445:=trivial
def tw4028322055223276981:=trivial
def tw10658517226618408723:=trivial
def tw12048815065139439693:=trivial
def tw16361361422849312145:=trivial
def tw12975033437930978084:=trivial
def tw17081254206284309627:=trivial
def tw7126324239017170433:=trivial
def tw4254547326757107320:=trivial
def tw4564459203696448133:=trivial
def tw9308270549855551201:=trivial
def tw16954836184496513483:=trivial
def tw796931518453403345:=trivial
def tw9281121941108529930:=trivial
def tw12857553624688295802:=trivial
def tw14026778476560189549:=trivial
def tw13102901841439906958:=trivial
def tw18220382452974636092:=trivial
def tw16955477117687765656:=trivial
def tw15763802378655969611:=trivial
def tw12456059775966802674:=trivial
def tw8016840769939735825:=trivial
def tw13143617740049091511:=trivial
end PySem.W.Fast
set_option maxRecDepth 100000 in
set_option maxHeartbeats 0 in
theorem PySem.Challenge.cw_neverwait_k46_whole_lanes_go_on_holds : PySem.Challenge.rw_neverwait_k46_whole_lanes_go_on.Holds := by
 w_on; o_law; k_head; (case hw=>w_witness2)
 k_fill
 refine tf.walk (l:=PySem.Challenge.rw_neverwait_k46_whole_lanes_go_on) (Pt:=_) rfl rfl (fun w h Y=>PySem.W.km_in_of Y) (fun w h Y=>PySem.W.km_tabs_of Y) ?cd0 ?kt0 ?F;case F =>
  intro w mg fa h KX G Sr;refine' tf.QG (Pt:=_) KX G Sr ?_ ?_ ?_ ?_ ?_ ?_ ?_ ?_ ?_ ?_ ?_ ?_ ?_ ?_ ?_ ?_ ?_ ?_ ?_ ?_ ?_ ?_ ?_ ?_ ?_ ?_ ?_ ?_ ?_ ?_ ?_ ?_ ?_ ?_ ?_ ?_ ?_ ?_ ?_ ?_ ?_ ?_ ?_ ?_ ?_ ?_ ?_ ?_ ?_ ?_ ?_ ?_ ?_ ?_ ?_ ?_ ?_ ?_ ?_ ?_ ?_ ?_ ?_ ?_ ?_ ?_ ?_ ?_ ?_ ?_ ?_ ?_ ?_ ?_ ?_ ?_ ?_ ?_ ?_ ?_ ?_ ?_ ?_ ?_ ?_ ?_ ?_ ?_ ?_ ?_ ?_ ?_ ?_ ?_ ?_ ?_ ?_ ?_ ?_ ?_ ?_ ?_ ?_ ?_ ?_ ?_ ?_ ?_ ?_ ?_ ?_ ?_ ?_ ?_;all_goals first
   | (refine' tf.FD.mk ?a ?l ?d ?k; (case a=>k_is); (case l=>k_is); (case d=>k_is); (case k=>k_is))
   | (refine' tf.FC.mk ?a ?l ?d ?k; (case a=>k_is); (case l=>k_is); (case d=>k_is); (case k=>k_is))
   | (refine' tf.MD.mk ?a ?i ?l ?d ?k; (case a=>k_is); (case i=>k_is); (case l=>k_is); (case d=>k_is); (case k=>k_is))
   | (refine' tf.MC.mk ?a ?i ?l ?d ?k; (case a=>k_is); (case i=>k_is); (case l=>k_is); (case d=>k_is); (case k=>k_is))
   | k_is
   | kernel_rfl
   | decide
   | exact ⟨by kernel_rfl,by k_is,by k_is,by k_is,by k_is,by k_is,by k_is,by kernel_rfl⟩
   | skip
 case kt0=>intro w; kernel_rfl
 case cd0=>intro w; kernel_rfl
