import PyProof.Rows.All
import Wide.All
import OpenK.AllK
import Wide.FinOn
import Lean
import PyProof.EqAt
import PyProof.EqKinds
import PyProof.TupleCall
import PySem.Challenge.RW_neverwait_k47_reasons
set_option Elab.async false
set_option linter.all false
set_option maxRecDepth 100000
set_option maxHeartbeats 8000000
def ak:=@PySem.wpAny_bind
def bz:=@PySem.Heap.get?_push_of_some
def aP:=@List.length_map
def cr:=@List.getD_eq_getElem?_getD
def bJ:=@List.mem_cons_of_mem
def a8:=@Option.some.inj
def bG:=@List.mem_cons_self
def cU:=@List.getElem?_eq_getElem
def ap:=@if_neg
def aW:=@Nat.le_refl
def ai:=@if_pos
def bq:=@Bool.false_ne_true
def aT:=@decide_eq_true
def a_:=@List.mem_filter
def aO:=@PySem.Heap.lt_size
def bK:=@Nat.lt_of_lt_of_le
def av:=@PyProof.Rows.wpS_bind
def b_:=@PySem.Heap.get?_push_size
def dk:=@List.getElem?_eq_some_iff
def bL:=@List.getElem?_map
def ba:=@List.mem_cons
def aX:=@Nat.ne_of_lt
def a9:=@List.mem_map
def cZ:=@List.mem_of_getElem?
def bj:=@Nat.le_trans
def cu:=@List.length_cons
def cV:=@List.size_toArray
def c_:=@of_decide_eq_true
def aM:=@PyProof.Rows.wpS_pure
def dL:=@List.mem_singleton
def cW:=@decide_eq_false
def cX:=@List.nodup_cons
def dG:=@List.append_assoc
def dY:=@List.length_append
def cY:=@List.mem_range
def dO:=@List.length_range
def cN:=@Int.ofNat.inj
def dZ:=@Nat.lt_succ_of_lt
def eN:=@Array.length_toList
def eJ:=@PySem.W.mg_none_of
def iF:=@Array.getD_eq_getD_getElem?
def eY:=@Array.toList_append
def cF:=@Nat.zero_le
def dH:=@PySem.boot_len
def dP:=@List.mem_append
def dQ:=@PySem.PassesOwn.never
def d_:=@List.map_append
def gN:=@List.getElem?_eq_none
def jc:=@Array.getElem?_eq_getElem
def fD:=@decide_eq_true_iff
def fE:=@Nat.lt_of_le_of_lt
def hX:=@List.mem_append_right
def eZ:=@List.filter_cons
def jd:=@PySem.F.plainAttrs_list
def dM:=@getElem?_pos
def gO:=@PySem.F.called_set
def jQ:=@PyProof.Rows.boot_tuple
def je:=@List.length_filter_le
def gf:=@List.take_length
def gh:=@Bool.and_eq_true
def j5:=@PySem.F.type_list_append
def j6:=@PySem.F.slot_list_append
def gP:=@List.lookup_cons
def eK:=@Int.zero_add
def hZ:=@PySem.wpAny_newObj_type
def d0:=@PySem.wpAny_field
def fg:=@List.map_cons
def iG:=@List.take_add_one
def gj:=@List.nodup_nil
def nG:=@Array.perm_iff_toList_perm
def h_:=@PySem.wpAny_call_entry
def j7:=@List.perm_append_comm
def cj:=@Ne.symm
def nI:=@List.getElem?_append_left
def lS:=@PySem.wpAny_callSpecial?_slot
def iH:=@List.not_mem_nil
def iI:=@List.getElem_mem
def ic:=@List.foldl_cons
def fh:=@List.map_map
def jR:=@List.filter_append
def gm:=@PySem.wpAny_holding
def uG:=@PyProof.Rows.F.plain_set_update_loop
def jS:=@List.pairwise_map
def ie:=@PySem.Heap.size_push
def jT:=@PySem.Heap.get?_push_ne
def fG:=@PyProof.Rows.wpS_forRange
def ig:=@PySem.W.mg_of
def ii:=@Nat.lt_irrefl
def lT:=@List.map_congr_left
def nJ:=@List.Perm.append_left
def nK:=@Array.getElem?_toList
def gQ:=@Nat.lt_or_ge
def j8:=@Bool.eq_false_iff
def uH:=@PyProof.Rows.slot_tuple_getitem
def re:=@List.getElem?_append_right
def jU:=@PySem.W.kia_one
def j9:=@List.length_take
def j_:=@List.all_eq_true
def nM:=@PySem.Around.under_plainId
def jV:=@PySem.codeAny_builtin
def oH:=@PyProof.Rows.boot_isinstance
def ij:=@Nat.not_lt_zero
def ik:=@Nat.div_add_mod
def im:=@Bool.eq_iff_iff
def eA:=@beq_iff_eq
def iT:=@Nat.lt_succ_self
def kd:=@List.mem_append_left
def l9:=@Nat.lt_of_succ_lt_succ
def l_:=@Nat.div_div_eq_div_mul
def oI:=@List.nodup_iff_pairwise_ne
def iU:=@PySem.Heap.size_update
def oJ:=@Array.getElem?_eq_some_iff
def kg:=@PySem.mem_of_lookup
def iV:=@List.range_succ
def oK:=@List.mem_of_find?_eq_some
def oM:=@Decidable.byContradiction
def jx:=@PySem.wpAny_setState_of
def md:=@List.take_append_drop
def me:=@List.length_replicate
def gw:=@Nat.ne_of_gt
def mf:=@List.mem_of_mem_take
def iW:=@Array.size_map
def kh:=@PySem.wpAny_setField_rec
def kj:=@Array.toList_push
def fK:=@PySem.wpAny_of_eq
def mh:=@beq_eq_false_iff_ne
def vt:=@PyProof.Rows.F.entry_set_update_loop
def rf:=@PyProof.Rows.callWith_type1
def km:=@Nat.mod_eq_of_lt
def mi:=@List.mem_filterMap
def mj:=@List.find?_eq_none
def ml:=@Bool.false_eq_true
def iX:=@PySem.wpAny_standAt
def rh:=@List.drop_eq_getElem_cons
def mm:=@decide_eq_true_eq
def oN:=@List.mem_erase_of_ne
def mn:=@List.ext_getElem?
def mq:=@Int.toNat_natCast
def dW:=@PyProof.Rows.wpS_mono
def oO:=@PySem.Heap.get?_update_self
def rj:=@List.length_erase_of_mem
def rk:=@List.getElem?_take_of_lt
def oP:=@Nat.mul_le_mul_left
def oQ:=@List.getElem?_range
def mr:=@PySem.wpAny_truthy_bool
def mv:=@List.nodup_range
def gy:=@PySem.wpAny_mono
def iY:=@Nat.mul_add
def rn:=@PyProof.Rows.boot_list
def jy:=@Nat.le_of_lt
def rq:=@List.getElem?_set_self
def oR:=@Int.emod_lt_of_pos
def rA:=@Array.toList_filterMap
def kn:=@PySem.wpAny_seqItems
def mw:=@List.find?_cons
def kq:=@List.any_cons
def gC:=@PyProof.Rows.wpS_modify
def rB:=@PySem.Heap.get?_update_other
def mx:=@PySem.wpAny_passesOwn
def rC:=@List.mem_iff_getElem
def jz:=@List.map_id
def vw:=@Int.fdiv_eq_ediv_of_nonneg
def vy:=@Classical.byContradiction
def gD:=@Prod.ext
def mz:=@Nat.mul_assoc
def vz:=@Nat.lt_succ_iff_lt_or_eq
def rD:=@PySem.Heap.get?_none_of_le
def oU:=@ne_of_beq_false
def oW:=@List.find?_some
def oX:=@Int.emod_nonneg
def kr:=@PySem.codeAny_mono
def jA:=@Nat.mod_lt
def vA:=@decide_eq_false_iff_not
def ku:=@Nat.mul_one
def rE:=@PySem.Heap.get?_update_ne
def vB:=@PySem.wpAny_comprehension_free
def mB:=@PySem.wpAny_attempt
def vC:=@Option.map_eq_some_iff
def mC:=@Nat.succ.inj
def mD:=@Nat.le_of_eq
def vD:=@List.range_succ_eq_map
def rF:=@List.nodup_append
def vE:=@List.length_pos_of_mem
def vF:=@Array.getElem?_eq_none
def rG:=@PySem.wpAny_Call_Name_kw
def rH:=@PySem.Obj.data_mapFields
def ky:=@PySem.sizeLine_eq
def vG:=@List.mem_of_mem_erase
def rJ:=@decide_eq_decide
def oY:=@not_false_iff
def oZ:=@List.cons.inj
def rK:=@PySem.wpAny_pyIter_list
def iZ:=@if_false
def vH:=@List.mem_of_mem_drop
def vI:=@List.getElem?_set_ne
def zd:=@List.eq_nil_of_length_eq_zero
def rL:=@List.of_mem_zip
def rM:=@List.append_nil
def vJ:=@PySem.W.hideAll_get
def vK:=@List.filter_sublist
def rN:=@PySem.wpAny_isInstance
def rO:=@PySem.wpAny_askSetting
def vL:=@PySem.codeAny_call_builtin
def ze:=@List.perm_ext_iff_of_nodup
def zf:=@Int.fmod_eq_emod_of_nonneg
def rP:=@PySem.pushCells_keeps
def o0:=@Nat.mul_pos
def o5:=@Nat.div_one
def vM:=@List.foldl_append
def vN:=@PySem.Heap.SameBut.update
def vO:=@Bool.not_eq_true'
def zg:=@PyProof.Rows.boot_sorted
def zh:=@Option.isSome_iff_exists
def rQ:=@Nat.add_assoc
def rR:=@Bool.not_true
def kA:=@PyProof.Rows.size_push'
def rS:=@PySem.wpAny_setField
def vP:=@PySem.wpAny_pyIter_tuple
def kB:=@or_false
def zi:=@Nat.le_mul_of_pos_right
def vQ:=@Nat.le_add_right
def vR:=@List.any_eq_true
def vS:=@Array.toList_map
def rT:=@Nat.sub_self
def rV:=@Nat.lt_trans
def zj:=@List.take_of_length_le
def zk:=@List.pairwise_lt_range
def zm:=@List.find?_cons_of_neg
def zn:=@List.Perm.append_right
def rW:=@Int.ofNat_lt
def vT:=@List.length_set
def vU:=@List.forIn_cons
def vV:=@List.Perm.of_eq
def rX:=@PySem.plainId_quiet
def io:=@PyProof.Rows.wpS_get
def zo:=@Nat.div_lt_of_lt_mul
def zq:=@List.replicate_succ'
def zu:=@List.length_take_le'
def vW:=@List.forIn_nil
def zw:=@Array.toList_reverse
def zx:=@Array.toList_extract
def zy:=@PySem.wpAny_pyNext_list_item
def zA:=@PySem.wpAny_pyIter_rangeiter
def o6:=@PySem.wpAny_Name
def zB:=@PySem.W.plainGet_of
def zD:=@List.filterMap_cons
def vX:=@PySem.wpAny_specialOf
def vY:=@PySem.wpAny_execs_nil
def vZ:=@PySem.codeAny_of_tree
def v6:=@List.all_cons
def zE:=@PySem.wpAny_pyNext_list_end
def jB:=@not_or
def zF:=@PySem.W.callWith_K
def zG:=@PySem.Obj.isFreed_of_fields
def zH:=@Nat.eq_zero_or_pos
def zJ:=@Nat.add_sub_cancel
def zK:=@List.getElem_range
def zL:=@List.filterMap_map
def v7:=@PySem.wpAny_runValue
def zM:=@PySem.wpAny_loadName_local
def v8:=@PySem.isSubtype_type
def v_:=@PySem.isSubtype_stop
def mE:=@if_true
def o7:=@and_true
def wb:=@Nat.succ_pos
def zN:=@List.reverse_perm
def zO:=@List.filter_congr
def zP:=@List.any_eq_false
def zR:=@PySem.wpAny_setEntries_of
def zS:=@PySem.wpAny_loadName_free
def zT:=@Nat.le_of_not_lt
def zU:=@Nat.div_eq_of_lt
def zV:=@List.zipIdx_cons
def zW:=@List.mem_flatMap
def zX:=@List.countP_cons
def wc:=@Nat.one_mul
def Fb:=@Int.mul_le_mul_of_nonneg_left
def rY:=@PySem.wpAny_call
def zY:=@Option.map_some
def zZ:=@PySem.Code.quiet_builtin
def Fc:=@PySem.F.typeOf_object_class
def wd:=@PySem.wpAny_typeOf
def z0:=@PySem.wpAny_storeSet_of
def z4:=@PySem.wpAny_loadPart_at
def z5:=@PySem.wpAny_assign_Name
def z6:=@PySem.Value.isInt_shape
def Fe:=@PySem.F.sub_list_frozenset
def Ff:=@PySem.F.excBase_ValueError
def z7:=@PySem.Obj.cls_mapFields
def Fg:=@Nat.mul_lt_mul_of_pos_left
def z8:=@Nat.mul_le_mul
def z_:=@List.drop_zero
def Fh:=@Array.toList_setIfInBounds
def mG:=@PyProof.Rows.wpS_lift
def Fj:=@Nat.add_mul_mod_self_left
def Fk:=@List.pairwise_iff_getElem
def Fl:=@List.getElem?_eq_none_iff
def Aa:=@PySem.wpAny_eqBool_int
def Fm:=@PySem.F.type_list_remove
def Fn:=@PySem.F.slot_list_remove
def Fo:=@List.filterMap_cons_some
def Ab:=@Bool.and_true
namespace L2
open PySem PySem.Spec PyProof.Rows
def Nr(h:Heap)(e:Addr)(cls:Value)(tb:Value):Prop:=∃o vs,h.get? e=some o/\o.cls=cls/\o.data=.fields vs/\vs[1]?=some tb/\vs[2]?=some .none
def Ry(h:Heap)(T:Addr)(fl:Value):Prop:=∃o vs,h.get? T=some o/\o.data=.fields vs/\vs[3]?=some fl
structure BJ(B:Heap)(l:List Env)(e:Addr)(cls fl:Value)(h:Heap):Prop where
 stays:B.StaysIn h
 new:B.get? e=none
 frames:h.FunFrames B l
 rc:∃T,Nr h e cls (.ref T)/\B.get? T=none/\T≠e/\Ry h T fl
abbrev Dn(B:Heap)(l:List Env)(e:Addr)(cls:Value)(h:Heap):Prop:=BJ B l e cls .none h
section
variable {M:Model} {A:Around} {E:Value->Shared->Prop} {s:Shared} {B:Heap} {l outer:List Env} {env:Env} {e L:Addr} {cls:Value}
theorem we{h:Heap}{T:Addr}{o:Obj}{vs:Array Value}{f:Array Value->Array Value}(hT:h.get? T=some o)(hd:o.data=.fields vs):
  (∀b,b≠T->(h.update T (Obj.mapFields f)).get? b=h.get? b)/\(h.update T (Obj.mapFields f)).get? T=some (Obj.mapFields f o)/\(Obj.mapFields f o).data=.fields (f vs)/\(Obj.mapFields f o).cls=o.cls/\h.UpToSlots (h.update T (Obj.mapFields f)):=by
 have o1:∀b,b≠T->(h.update T (Obj.mapFields f)).get? b=h.get? b:=fun b n=>rB _ _ (cj n);refine⟨o1,oO _ hT (zG (rH hd _)),rH hd _,z7 _ _,fun b u q nf=>⟨u.slots,?_⟩⟩;by_cases c:b=T
 .subst c;rw[hT] at q;cases q;exact absurd hd (nf vs)
 .rw[o1 b c];exact q
theorem lw{h h':Heap}(F:h.FunFrames B l)(u:h.UpToSlots h'):h'.FunFrames B l:=F.of_keeps fun b o q nf=>let ⟨sl,z⟩:=u b o q nf;⟨_,z,rfl⟩
theorem p7{fl:Value}{Q:Unit->Shared->Prop}(x:BJ B l e cls fl s.heap)(q:∀h',Dn B l e cls h'->s.heap.UpToSlots h'->Q () { s with heap:=h' }):wpAny M A (setFlight (.ref e) none) Q E s:=by
 obtain⟨T,⟨o,vs,he,hc,hd,h1,h2⟩,nT,Te,oT,ts,hT,QS,h3⟩:=x.rc;have z3:3<ts.size:=(oJ.mp h3).1;unfold setFlight;refine ak (d0 he hd h1 ?_);rw[ai (show (Value.ref T != Value.none)=true from by simp)];refine rS hT QS z3 ?_;obtain⟨p1,p2,p3,_,p5⟩:=we (f:=(·.setIfInBounds 3 ((none:Option Addr).elim Value.none fun f=>rawInt f))) hT QS;exact q _ ⟨fun b u z=>(p1 b fun c=>by rw[c,nT] at z;cases z).trans (x.stays b u z),x.new,lw x.frames p5,T,⟨o,vs,(p1 e (cj Te)).trans he,hc,hd,h1,h2⟩,nT,Te,_,_,p2,p3,by simp[z3]⟩ p5
theorem uI{o:Obj}{vs:Array Value}{head:Value}{JE:Bool}{Q:Unit->Shared->Prop}(Nt:A.frames=some (env::outer))(F:s.heap.FunFrames B (env::outer))(hf:env.frame=some L)(st:B.StaysIn s.heap)(nw:B.get? e=none)(he:s.heap.get? e=some o)(hd:o.data=.fields vs)(z1:1<vs.size)(h2:vs[2]?=some .none)(q:∀h',BJ B (env::outer) e o.cls (rawInt L) h'->s.heap.UpToSlots h'->Q () { s with heap:=h' }):
  wpAny M A (do let a <- frameOf env;let pl <- entryPlaceOf L JE;let b <- EntryCells.newEntry head a .none (rawInt L) .none pl;setField (.ref e) 1 b) Q E s:=by
 have ne:e∉(env::outer).filterMap (·.frame):=fun m=>by
  obtain⟨_,u,hu,nf⟩:=F.mem m;rw[he] at hu;cases hu;exact nf vs hd
 refine ak (wpAny_frameOf_fun Nt F hf fun h1 so=>?_);refine ak (wpAny_entryPlaceOf fun pl uJ=>?_);unfold EntryCells.newEntry newFields;refine ak (hZ ?_ (uJ.sizeOk5 _ _ _ _ _));have e1:h1.get? e=some o:=(so.2.1 e ne).trans he;have JF:B.StaysIn h1:=fun b u z=>(so.2.1 b fun m=>by rw[(F.mem m).1] at z;cases z).trans (st b u z);have up1:s.heap.UpToSlots h1:=fun b u z _=>so.2.2 b u z;generalize hTo:({ cls:=.type "traceback",dict:=none,data:=.fields ([head,.ref L,.none,rawInt L,.none]++(if pl.isEmpty then List.replicate 6 Value.none else pl)).toArray }:Obj)=To;have e2:=bz (h:=h1) To e1;refine rS e2 hd z1 ?_;obtain⟨p1,p2,p3,p4,p5⟩:=we (f:=(·.setIfInBounds 1 (Value.ref h1.objs.size))) e2 hd;have Te:h1.objs.size≠e:=gw (aO e1);have upP:h1.UpToSlots (h1.push To):=Heap.UpToSlots.of_keeps fun b u z=>bz _ z;refine q _ ⟨fun b u z=>(p1 b fun c=>by rw[c,nw] at z;cases z).trans (bz _ (JF b u z)),nw,lw F ((up1.trans upP).trans p5),h1.objs.size,⟨_,_,p2,p4,p3,by simp[z1],by rw[Array.getElem?_setIfInBounds_ne (by decide)];exact h2⟩,?_,Te,To,_,(p1 _ Te).trans (b_ h1 (by rw[<-hTo];rfl)),by rw[<-hTo],?_⟩ ((up1.trans upP).trans p5)
 .cases z:B.get? h1.objs.size with
  |none=>rfl
  |some u=>exact absurd (aO (JF _ u z)) (ii _)
 .first|(simp;done)|(rcases uJ with rfl|⟨_,_,_,_,_,_,_,rfl⟩ <;> simp)
theorem JG{Q:Unit->Shared->Prop}(Nt:A.frames=some (env::outer))(hf:env.frame=some L)(x:Dn B (env::outer) e cls s.heap)(q:∀h',BJ B (env::outer) e cls (rawInt L) h'->s.heap.UpToSlots h'->Q () { s with heap:=h' }):wpAny M A (noteFrame (.ref e) env) Q E s:=by
 obtain⟨T,⟨o,vs,he,hc,hd,h1,h2⟩,nT,Te,oT,ts,hT,QS,h3⟩:=x.rc;subst hc;unfold noteFrame;simp only[hf];refine ak (d0 he hd h1 ?_);rw[ai (show (Value.ref T != Value.none)=true from by simp)];refine ak (d0 hT QS h3 ?_);rw[ap (show ¬ ((Value.none==rawInt L)=true) from by simp[rawInt])];refine ak (rS hT QS (oJ.mp h3).1 ?_);obtain⟨p1,p2,p3,p4,p5⟩:=we (f:=(·.setIfInBounds 3 Value.none)) hT QS;exact uI Nt (lw x.frames p5) hf (fun b u z=>(p1 b fun c=>by rw[c,nT] at z;cases z).trans (x.stays b u z)) x.new ((p1 e (cj Te)).trans he) hd (oJ.mp h1).1 h2 fun h' y u=>q h' y (p5.trans u)
theorem Fp{Q:Unit->Shared->Prop}(Nt:A.frames=some (env::outer))(hf:env.frame=some L)(x:Dn B (env::outer) e cls s.heap)(q:∀h',Dn B outer e cls h'->s.heap.UpToSlots h'->Q () { s with heap:=h' }):wpAny M A (leaving env (.ref e)) Q E s:=by
 unfold leaving;refine ak (JG Nt hf x fun h1 y u=>?_);refine p7 (s:={ s with heap:=h1 }) y fun h2 z v=>q h2 ⟨z.stays,z.new,z.frames.2.2,z.rc⟩ (u.trans v)
theorem Ac{h:Heap}{args:List Value}{Q:Unit->Shared->Prop}(Nt:A.frames=some (env::outer))(hf:env.frame=some L)(st:B.StaysIn h)(F:h.FunFrames B (env::outer))(x:Heap.MadeExcOf h s.heap e cls args)(q:∀h',Dn B outer e cls h'->s.heap.UpToSlots h'->Q () { s with heap:=h' }):wpAny M A (leaving env (.ref e)) Q E s:=by
 obtain⟨t,he,_,_⟩:=x.there;have nw:B.get? e=none:=by
  cases z:B.get? e with
  |none=>rfl
  |some u=>have:=st e u z;rw[x.new] at this;cases this
 unfold leaving noteFrame;simp only[hf];refine ak (ak (d0 he rfl (x:=.none) rfl ?_));rw[ap (by decide)];refine uI Nt (lw F (Heap.UpToSlots.of_keeps x.keeps)) hf (fun b u z=>x.keeps b u (st b u z)) nw he rfl (by simp) rfl fun h1 y u=>?_;exact p7 (s:={ s with heap:=h1 }) y fun h2 z v=>q h2 ⟨z.stays,z.new,z.frames.2.2,z.rc⟩ (u.trans v)
end
theorem ut:plainId "proto.unchain"=true:=by decide +kernel
theorem uv:entryFor table "proto.unchain"=some Builtin.«proto.unchain»:=PySem.entryFor_of_fast (by kernel_rfl)
def BK(p:Addr)(h:Heap):Prop:=∃o vs,h.get? p=some o/\o.data=.fields vs/\vs[2]?=some .none
theorem Fq{α:Type}{prog:Program}{w:World}{A:Around}{Q:α->Shared->Prop}{E:Value->Shared->Prop}{s:Shared}{a p:Addr}{o:Obj}{vs:Array Value}(hh:A.handled=some (.ref p))(hp:BK p s.heap)(ne:p≠a)(ha:s.heap.get? a=some o)(hd:o.data=.fields vs)(z2:2<vs.size)(q:E (.ref a) { s with heap:=s.heap.update a (Obj.mapFields (·.setIfInBounds 2 (.ref p))) }):wpAny (model prog w) A (raiseNew (.ref a):Sem α) Q E s:=by
 obtain⟨op,ws,h1,h2,h3⟩:=hp;unfold raiseNew;refine ak (wpAny_handled ?_);rw[hh];dsimp only;rw[ai (show (Value.ref p != Value.ref a)=true from by simp[ne])];refine ak (gm (v7 (jV uv ?_)));rw[nM ut _];show wpAny _ _ (field (.ref p) 2 >>= _) _ _ s;refine ak (d0 h1 h2 h3 ?_);rw[ai (by decide)];refine wpAny_pure ?_;show wpAny (model prog w) A (updateField a 2 (Value.ref p) >>= fun _=>throw (Value.ref a)) Q E s;unfold updateField;refine ak (ak (wpAny_load ha ?_));rw[hd];dsimp only;rw[ai z2];exact wpAny_update (by rw[ha]) (wpAny_throw q)
theorem Ae{prog:Program}{w:World}{A:Around}{E:Value->Shared->Prop}{s:Shared}{it p:Addr}{x left step:Int}{Q:Option Value->Shared->Prop}(hh:A.handled=some (.ref p))(hp:BK p s.heap)(iJ:IsRangeIter s.heap it x left step)(hl:left<=0)(hQ:∀h',(∀b o,s.heap.get? b=some o->h'.get? b=some o)->Q none { s with heap:=h' }):wpAny (model prog w) A (pyNext (.ref it)) Q E s:=by
 have hT:s.TypeIs (.ref it) "range_iterator":=⟨_,iJ,rfl⟩
 unfold pyNext;refine ak (mB (lS (name:=Str.ofString "__next__") hT F.slot_range_iterator_next
  (h_ F.slot_range_iterator_next hT F.entry_range_iterator_next ?_ (F.args_range_iterator_next_1 _))))
 show wpAny _ _ (field (.ref it) 0 >>= _) _ _ s;refine ak (d0 iJ rfl (x:=rawInt x) rfl ?_);refine ak (d0 iJ rfl (x:=rawInt left) rfl ?_);refine ak (d0 iJ rfl (x:=rawInt step) rfl ?_);dsimp only[rawInt];rw[ai hl];refine ak (wpAny_rule ?_);refine ak ?_;show wpAny _ _ (newExc (.type "StopIteration") [] >>= _) _ _ _;refine ak ?_;simp only[newExc,newTuple];refine ak (hZ ?_ (by size_fits));refine ak (m:=firstArgMember _ _) (fK (a:=Value.none) (by first|rfl|(simp only[firstArgMember];rfl)) ?_);refine hZ ?_ (by size_fits);generalize hTu:({ cls:=.type "tuple",data:=.seq ([]:List Value).toArray }:Obj)=Tu;generalize Ww:({ cls:=.type "StopIteration",data:=.fields (#[Value.ref s.heap.objs.size,Value.none,Value.none,Value.none,Value.bool false,Value.none]++ownMembersOf (Value.type "StopIteration") []) }:Obj)=Ex;have dEx:Ex.data=.fields (#[Value.ref s.heap.objs.size,Value.none,Value.none,Value.none,Value.bool false,Value.none]++ownMembersOf (Value.type "StopIteration") []):=by rw[<-Ww]
 have cEx:Ex.cls=.type "StopIteration":=by rw[<-Ww]
 have k1:∀b o,s.heap.get? b=some o->((s.heap.push Tu).push Ex).get? b=some o:=fun b o e=>bz _ (bz _ e);have gE:((s.heap.push Tu).push Ex).get? (s.heap.push Tu).objs.size=some Ex:=b_ _ (by rw[<-Ww];rfl);have mJ:∀b o,s.heap.get? b=some o->b≠(s.heap.push Tu).objs.size:=fun b o e=>aX (aO (bz Tu e));obtain⟨op,ws,n1,n2,n3⟩:=id hp;refine Fq (A:=A.in1) (p:=p) hh ⟨op,ws,k1 _ _ n1,n2,n3⟩ (mJ _ _ n1) gE dEx (by simp;lia) ?_;refine ak (rN (T:="StopIteration") (b:=true) ⟨_,oO _ gE (zG (rH dEx _)),(z7 _ _).trans cEx⟩ v_ ?_);exact wpAny_pure (hQ _ fun b o e=>(rB _ _ (cj (mJ b o e))).trans (k1 b o e))
abbrev fL:=Sum Int Str
def uK:fL->Value->Bool
 |.inl k,v=>Value.isInt k v
 |.inr x,v=>Value.isStrOf x v
def Wx(w:World):fL->Int
 |.inl k=>hashInt k
 |.inr x=>hashStr w x
theorem dq:∀ {k:fL} {v:Value},uK k v=true->(∃i t,k=Sum.inl i/\v=Value.int i t)\/(∃x t,k=Sum.inr x/\v=Value.str x t)
 |.inl i,v,h=>by
  obtain⟨t,e⟩:=z6 (k:=i) (v:=v) h;exact .inl ⟨i,t,rfl,e⟩
 |.inr x,v,h=>by
  obtain⟨t,e⟩:=Value.isStrOf_shape (x:=x) (v:=v) h;exact .inr ⟨x,t,rfl,e⟩
theorem Do(i:Int)(t:Tok):uK (.inl i) (.int i t)=true:=by simp[uK,Value.isInt]
theorem Dp(x:Str)(t:Tok):uK (.inr x) (.str x t)=true:=by simp[uK,Value.isStrOf]
theorem Nu(a b:Int):decide ((Sum.inl a:fL)=Sum.inl b)=(a==b):=by
 by_cases e:a=b
 .subst e;simp
 .have h:¬ (Sum.inl a:fL)=Sum.inl b:=fun q=>e (Sum.inl.inj q);rw[cW h];exact(mh.mpr e).symm
theorem Nv(a b:Str):decide ((Sum.inr a:fL)=Sum.inr b)=decide (a=b):=by
 by_cases e:a=b
 .subst e;simp
 .have h:¬ (Sum.inr a:fL)=Sum.inr b:=fun q=>e (Sum.inr.inj q);rw[cW h,cW e]
theorem Nw(a:Int)(b:Str):decide ((Sum.inl a:fL)=Sum.inr b)=false:=cW (fun q=>nomatch q)
theorem Nx(a:Str)(b:Int):decide ((Sum.inr a:fL)=Sum.inl b)=false:=cW (fun q=>nomatch q)
def dF(prog:Program)(w:World):PySem.KeyKind prog w fL where
 is:=uK
 hash:=Wx w
 inj:=fun v a b ha hb=>by
  rcases dq ha with ⟨i,t,rfl,rfl⟩|⟨x,t,rfl,rfl⟩
  .rcases dq hb with ⟨j,u,rfl,e⟩|⟨y,u,rfl,e⟩
   .injection e with e1 _;rw[e1]
   .exact nomatch e
  .rcases dq hb with ⟨j,u,rfl,e⟩|⟨y,u,rfl,e⟩
   .exact nomatch e
   .injection e with e1 _;rw[e1]
 byValue:=fun k v h=>by
  rcases dq h with ⟨i,t,rfl,rfl⟩|⟨x,t,rfl,rfl⟩ <;> rfl
 pyHash:=fun hv h=>by
  rcases dq hv with ⟨i,t,rfl,rfl⟩|⟨x,t,rfl,rfl⟩
  .exact wpAny_pyHash_int h
  .exact wpAny_pyHash_str h
 eqBool:=fun hu hv h=>by
  rcases dq hu with ⟨i,t,rfl,rfl⟩|⟨x,t,rfl,rfl⟩
  .rcases dq hv with ⟨j,u,rfl,rfl⟩|⟨y,u,rfl,rfl⟩
   .rw[Nu] at h;exact Aa h
   .rw[Nw] at h;exact SeqAt.EqAt.int_str i t y u _ _ _ _ h
  .rcases dq hv with ⟨j,u,rfl,rfl⟩|⟨y,u,rfl,rfl⟩
   .rw[Nx] at h;exact SeqAt.EqAt.str_int x t j u _ _ _ _ h
   .rw[Nv] at h;exact wpAny_eqBool_str h
 «strs»:=fun k x t v h=>by
  rcases dq h with ⟨i,u,rfl,e⟩|⟨y,u,rfl,e⟩
  .exact nomatch e
  .injection e with e1 _
   subst e1
   cases v <;> rfl
theorem xD(prog:Program)(w:World)(i:Int)(t:Tok):(dF prog w).is (.inl i) (.int i t)=true:=Do i t
theorem xE(prog:Program)(w:World)(x:Str)(t:Tok):(dF prog w).is (.inr x) (.str x t)=true:=Dp x t
inductive V where
 |bR|bl (b:Bool)|int (i:Int)|str (x:Str)|EX (b:Array UInt8)|Ny (b:UInt64)|ref (a:Addr)|ty (n:String)
 deriving DecidableEq
def bD:V->Value->Prop
 |.bR,u=>u=Value.none
 |.bl b,u=>u=Value.bool b
 |.int i,u=>∃t,u=Value.int i t
 |.str x,u=>∃t,u=Value.str x t
 |.EX b,u=>∃t,u=Value.bytes b t
 |.Ny b,u=>∃t,u=Value.float b t
 |.ref a,u=>u=Value.ref a
 |.ty n,u=>u=Value.type n
abbrev aY:List V->List Value->Prop:=Paired bD
theorem aY.length(r:aY xs us):xs.length=us.length:=Paired.length r
theorem aY.get:∀ {xs:List V} {us:List Value} {i:Nat} {x:V},aY xs us->xs[i]?=some x->∃u,us[i]?=some u/\bD x u
 |_,_,_,_,.nil,e=>by simp at e
 |_,_,0,_,.cons r _,e=>by simp at e;subst e;exact⟨_,rfl,r⟩
 |_,_,i+1,x,.cons _ t,e=>by
  obtain⟨u,h1,h2⟩:=aY.get (i:=i) (x:=x) t (by simpa using e);exact⟨u,by simpa using h1,h2⟩
theorem aY.set(r:bD x u):∀ {xs:List V} {us:List Value} (i:Nat),aY xs us->aY (xs.set i x) (us.set i u)
 |_,_,_,.nil=>.nil
 |_,_,0,.cons _ t=>.cons r t
 |_,_,i+1,.cons q t=>.cons q (aY.set r i t)
theorem aY.append:∀ {xs ys:List V} {us ws:List Value},aY xs us->aY ys ws->aY (xs++ys) (us++ws)
 |_,_,_,_,.nil,s=>s
 |_,_,_,_,.cons r t,s=>.cons r (aY.append t s)
theorem aY.take:∀ {xs:List V} {us:List Value} (n:Nat),aY xs us->aY (xs.take n) (us.take n)
 |_,_,0,_=>.nil
 |_,_,_+1,.nil=>.nil
 |_,_,n+1,.cons r t=>.cons r (aY.take n t)
theorem aY.drop:∀ {xs:List V} {us:List Value} (n:Nat),aY xs us->aY (xs.drop n) (us.drop n)
 |_,_,0,r=>r
 |_,_,_+1,.nil=>.nil
 |_,_,n+1,.cons _ t=>aY.drop n t
def nP:Option V->Option Value->Prop
 |some v,some u=>bD v u
 |none,none=>True
 |_,_=>False
def KV{κ:Type}:List (κ×V)->List (κ×Value)->Prop:=Paired fun (p:κ×V) (q:κ×Value)=>p.1=q.1/\bD p.2 q.2
def kV:fL->V
 |.inl i=>.int i
 |.inr x=>.str x
inductive HO where
 |lst (xs:List V)
 |tup (xs:List V)
 |dK (kvs:List (fL×V))|dT (kvs:List (List fL×V))
 |set (S:Int->Bool) (n:Nat)
 |ins (C dx:Addr) (fs:List (Str×V))
 |own (x:Addr)
 |xd (fs:List (Str×V))
 |met (f x:Addr)
 |BL (lo hi:Int)
 |mK (o:Obj) (u:HO)
 |qJ (ps:Array Value)
 |ext (φ:Heap->Prop)
abbrev Hp:=Addr->Option HO
def upd(H:Hp)(a:Addr)(o:HO):Hp:=fun b=>if b=a then some o else H b
theorem ah:upd H a o a=some o:=by unfold upd;rw[ai rfl]
theorem al(h:b≠a):upd H a o b=H b:=by unfold upd;rw[ap h]
theorem qK:upd (upd H a o) a u=upd H a u:=by
 funext b;unfold upd;split <;> rfl
theorem dI{H:Hp}{a b:Addr}{o u:HO}(h:H a=some o)(h':H b=some u)(d:o≠u):a≠b:=by
 intro e;subst e;rw[h] at h';exact d (a8 h')
theorem aq{H:Hp}{a b:Addr}{o:HO}(h:H a=some o)(h':H b=none):a≠b:=by
 intro e;subst e;rw[h] at h';cases h'
section
variable (P:Program) (w:World)
def mL(h:Heap)(a:Addr)(items:Array Value):Prop:=∃o,h.get? a=some o/\o.cls=.type "tuple"/\∃n,o.data=.seq items n/\o.dict=none
theorem mL.tup(p:mL h a items):IsTup h a items:=let ⟨o,e,c,n,d,_⟩:=p;⟨o,e,c,n,d⟩
theorem mL.new(h:Heap)(items:Array Value):mL (h.push { cls:=.type "tuple",data:=.seq items }) h.objs.size items:=⟨_,b_ _ rfl,rfl,_,rfl,rfl⟩
def cf(H:Hp)(h:Heap)(a:Addr):HO->Prop
 |.lst xs=>xs.length<=sizeLine/\∃ (its:List Value) (n:Nat),aY xs its/\h.get? a=some { cls:=.type "list",data:=.seq its.toArray n }
 |.tup xs=>xs.length<=sizeLine/\∃its:List Value,aY xs its/\mL h a its.toArray
 |.dK kvs=>kvs.length<=sizeLine/\(a==sysModules)=false/\∃vs,KV kvs vs/\h.DictOf (dF P w) a vs
 |.dT kvs=>kvs.length<=sizeLine/\(a==sysModules)=false/\∃xs:List (List fL×Addr×Value),
   Paired (fun (p:List fL×V) (q:List fL×Addr×Value)=>p.1=q.1/\H q.2.1=some (.tup (p.1.map kV))/\bD p.2 q.2.2) kvs xs/\
   ∃o es ep,h.get? a=some o/\o.ExactDict/\o.data=.dict es ep/\es.toList=xs.map (entryOfKey (tupleKind (dF P w)))/\(xs.map (·.1)).Nodup
 |.set S n=>h.SetOf (intKind P w) a S n
 |.ins C dx fs=>H dx=some (.own a)/\fs.length<=1000/\dx≠a/\h.get? a=some (PySem.W.instObj C dx)/\
   ∃mA,h.Ns1 dx mA/\(∀f,nP (fs.lookup f) (mA f))/\PySem.Within mA (fs.map (·.1))
 |.own _=>∃o,h.get? a=some o
 |.xd fs=>∃mA,h.Ns1 a mA/\∀f,nP (fs.lookup f) (mA f)
 |.BL lo hi=>∃t u v,h.get? a=some { cls:=.type "range",data:=.fields #[.int lo t,.int hi u,.int 1 v] }
 |.mK o u=>h.get? a=some o/\cf H h a u
 |.qJ ps=>h.get? a=some { cls:=.none,data:=.fields ps }
 |.met f x=>h.get? a=some (PySem.W.methodObj (.ref f) (.ref x))
 |.ext φ=>φ h/\(∃o,h.get? a=some o)/\∀h1 h2:Heap,φ h1->(∀o,h1.get? a=some o->h2.get? a=some o)->φ h2
def kC(H:Hp)(h:Heap):Prop:=∀a o,H a=some o->cf P w H h a o
end
section
variable {P:Program} {w:World} {H H':Hp} {h h':Heap} {a:Addr} {o:HO}
theorem cf.lt(x:cf P w H h a o):a<h.objs.size:=by
 cases o with
 |lst xs=>obtain⟨_,_,_,_,e⟩:=x;exact aO e
 |tup xs=>obtain⟨_,_,_,p⟩:=x;exact p.tup.lt
 |dK kvs=>obtain⟨_,_,_,_,o,_,_,e,_⟩:=x;exact aO e
 |dT kvs=>obtain⟨_,_,_,_,o,_,_,e,_⟩:=x;exact aO e
 |set S n=>obtain⟨o,_,_,_,e,_⟩:=x;exact aO e
 |ins C dx fs=>obtain⟨_,_,_,e,_⟩:=x;exact aO e
 |own y=>obtain⟨_,e⟩:=x;exact aO e
 |xd fs=>obtain⟨_,⟨_,_,_,e,_⟩,_⟩:=x;exact aO e
 |BL lo hi=>obtain⟨_,_,_,e⟩:=x;exact aO e
 |mK ob u=>obtain⟨e,_⟩:=x;exact aO e
 |qJ ps=>exact aO (show h.get? a=some _ from x)
 |met f y=>exact aO (show h.get? a=some _ from x)
 |ext φ=>obtain⟨_,⟨_,e⟩,_⟩:=x;exact aO e
theorem Paired.Rz:∀ {l₁:List α} {l₂:List β},Paired F l₁ l₂->(∀a b,F a b->G a b)->Paired G l₁ l₂
 |_,_,.nil,_=>.nil
 |_,_,.cons r t,f=>.cons (f _ _ r) (Paired.Rz t f)
theorem cf.lL(x:cf P w H h a o)(k:∀b u,(b=a\/H b=some (.own a))->h.get? b=some u->h'.get? b=some u)(ho:∀b,H b=some (.own a)->H' b=some (.own a))(ht:∀b xs,H b=some (.tup xs)->H' b=some (.tup xs)):cf P w H' h' a o:=by
 induction o with
 |lst xs=>obtain⟨z,its,n,r,e⟩:=x;exact⟨z,its,n,r,k _ _ (.inl rfl) e⟩
 |tup xs=>obtain⟨z,its,r,ob,e,c⟩:=x;exact⟨z,its,r,ob,k _ _ (.inl rfl) e,c⟩
 |dK kvs=>obtain⟨z,y,vs,r,ob,es,ep,e,c⟩:=x;exact⟨z,y,vs,r,ob,es,ep,k _ _ (.inl rfl) e,c⟩
 |dT kvs=>
  obtain⟨z,y,xs,r,ob,es,ep,e,c⟩:=x;exact⟨z,y,xs,Paired.Rz r fun p q z=>⟨z.1,ht _ _ z.2.1,z.2.2⟩,ob,es,ep,k _ _ (.inl rfl) e,c⟩
 |set S n=>obtain⟨ob,es,ep,t,e,c⟩:=x;exact⟨ob,es,ep,t,k _ _ (.inl rfl) e,c⟩
 |ins C dx fs=>
  obtain⟨d,z,ne,e,mA,⟨od,es,ep,e2,c⟩,r⟩:=x;exact⟨ho _ d,z,ne,k _ _ (.inl rfl) e,mA,⟨od,es,ep,k _ _ (.inr d) e2,c⟩,r⟩
 |own y=>obtain⟨ob,e⟩:=x;exact⟨ob,k _ _ (.inl rfl) e⟩
 |xd fs=>obtain⟨mA,⟨od,es,ep,e,c⟩,r⟩:=x;exact⟨mA,⟨od,es,ep,k _ _ (.inl rfl) e,c⟩,r⟩
 |BL lo hi=>obtain⟨t,u,v,e⟩:=x;exact⟨t,u,v,k _ _ (.inl rfl) e⟩
 |mK ob u ih=>obtain⟨e,q⟩:=x;exact⟨k _ _ (.inl rfl) e,ih q⟩
 |qJ ps=>
  have e:h.get? a=some { cls:=.none,data:=.fields ps }:=x;show h'.get? a=some { cls:=.none,data:=.fields ps };exact k a _ (.inl rfl) e
 |met f y=>
  have e:h.get? a=some (PySem.W.methodObj (.ref f) (.ref y)):=x;show h'.get? a=some (PySem.W.methodObj (.ref f) (.ref y));exact k a _ (.inl rfl) e
 |ext φ=>obtain⟨p,⟨o,e⟩,st⟩:=x;exact⟨st _ _ p fun o q=>k _ _ (.inl rfl) q,⟨o,k _ _ (.inl rfl) e⟩,st⟩
theorem kC.lt(x:kC P w H h)(e:H a=some o):a<h.objs.size:=(x a o e).lt
theorem kC.fresh(x:kC P w H h)(e:h.objs.size<=a):H a=none:=by
 cases q:H a with
 |none=>rfl
 |some u=>exact absurd (bK (x.lt q) e) (ii _)
theorem kC.kept(x:kC P w H h)(k:∀b u,h.get? b=some u->h'.get? b=some u):kC P w H h':=fun a o e=>
 (x a o e).lL (fun b u _ q=>k b u q) (fun _ q=>q) fun _ _ q=>q
theorem kC.laid(x:kC P w H h)(k:∀b u,h.get? b=some u->h'.get? b=some u)(hp:h.objs.size<=a)(new:cf P w (upd H a o) h' a o):kC P w (upd H a o) h':=fun b u e=>by
 have hn:=x.fresh hp;by_cases hb:b=a
 .subst hb;rw[ah] at e;cases e;exact new
 .rw[al hb] at e;exact(x b u e).lL (fun c v _ q=>k c v q) (fun c q=>by rw[al (aq q hn)];exact q) fun c xs q=>by rw[al (aq q hn)];exact q
end
def Rd(H:Hp)(a:Addr)(u:HO):Prop:=H a=some u\/∃o,H a=some (.mK o u)
theorem Rd.ok(r:Rd H a u)(x:kC P w H h):cf P w H h a u:=by
 rcases r with r|⟨o,r⟩
 .exact x a u r
 .obtain⟨_,q⟩:=x a _ r;exact q
def RA:Option HO->Prop
 |some (.lst _)=>True
 |some (.dK _)=>True
 |some (.dT _)=>True
 |some (.set _ _)=>True
 |some (.ins _ _ _)=>True
 |some (.ext _)=>True
 |_=>False
section
variable {P:Program} {w:World} {H:Hp} {h h':Heap} {x e:Addr} {o':HO}
theorem kC.write(ok:kC P w H h)(mu:RA (H x))(he:e=x\/H e=some (.own x))(k:∀b u,b≠e->h.get? b=some u->h'.get? b=some u)(QT:∃u,h'.get? e=some u)(new:cf P w (upd H x o') h' x o'):kC P w (upd H x o') h':=fun b u q=>by
 have RB:∀c y,H c=some (.own y)->c≠x:=fun c y r z=>by subst z;rw[r] at mu;exact mu
 have Wy:∀c xs,H c=some (.tup xs)->c≠x:=fun c xs r z=>by subst z;rw[r] at mu;exact mu
 by_cases hb:b=x
 .subst hb;rw[ah] at q;cases q;exact new
 .rw[al hb] at q;by_cases Jn:b=e
  .have q':H b=some (.own x):=by
    rcases he with z|z
    .exact absurd (Jn.trans z) hb
    .rw[Jn];exact z
   rw[q] at q';cases q';obtain⟨v,hv⟩:=QT;exact⟨v,by rw[Jn];exact hv⟩
  .refine(ok b u q).lL (fun c v hc r=>k c v ?_ r) (fun c r=>by rw[al (RB c b r)];exact r) fun c xs r=>by rw[al (Wy c xs r)];exact r
   rcases hc with rfl|hc
   .exact Jn
   .rintro rfl;rcases he with z|z
    .exact RB c b hc z
    .rw[hc] at z;cases z;exact hb rfl
end
structure Un(fs ex:List Addr)(H H':Hp)(h h':Heap):Prop where
 keep:∀b o,h.get? b=some o->H b=none->b∉fs->b∉ex->h'.get? b=some o
 slot:∀b o,h.get? b=some o->H b=none->b∈fs->b∉ex->∃sl,h'.get? b=some { o with slots:=sl }
 free:∀b o,h.get? b=some o->H b=none->b∉ex->H' b=none
 there:∀b o,h.get? b=some o->b∉ex->∃o',h'.get? b=some o'
 mQ:∀b xs,H b=some (.tup xs)->H' b=some (.tup xs)
 o8:∀b o u,H b=some (.mK o u)->H' b=some (.mK o u)
 o9:∀b ps,H b=some (.qJ ps)->∃more,H' b=some (.qJ (ps++more))
section
variable {fs fs' ex ex':List Addr} {H H1 H2:Hp} {h h1 h2 h':Heap} {a x e:Addr} {o:HO}
theorem Un.any(u:Un fs ex H H1 h h1)(q:h.get? b=some ob)(n:H b=none)(hx:b∉ex):∃sl,h1.get? b=some { ob with slots:=sl }:=by
 by_cases hb:b∈fs
 .exact u.slot b ob q n hb hx
 .exact⟨ob.slots,u.keep b ob q n hb hx⟩
theorem Un.kept(k:∀b u,h.get? b=some u->h'.get? b=some u):Un fs ex H H h h':=
 ⟨fun b ob q _ _ _=>k b ob q,fun b ob q _ _ _=>⟨ob.slots,k b ob q⟩,fun _ _ _ n _=>n,fun b ob q _=>⟨ob,k b ob q⟩,fun _ _ q=>q,fun _ _ _ q=>q,fun _ ps q=>⟨#[],by rw[q];simp⟩⟩
theorem Un.refl:Un fs ex H H h h:=Un.kept fun _ _ q=>q
theorem Un.laid(k:∀b u,h.get? b=some u->h'.get? b=some u)(hp:h.objs.size<=a)(hn:H a=none):Un fs ex H (upd H a o) h h' where
 keep:=fun b u q _ _ _=>k b u q
 slot:=fun b u q _ _ _=>⟨u.slots,k b u q⟩
 free:=fun b u q n _=>by rw[al (aX (bK (aO q) hp))];exact n
 there:=fun b u q _=>⟨u,k b u q⟩
 mQ:=fun b xs q=>by rw[al (aq q hn)];exact q
 o8:=fun b u xs q=>by rw[al (aq q hn)];exact q
 o9:=fun b ps q=>⟨#[],by rw[al (aq q hn),q];simp⟩
theorem Un.write(mu:RA (H x))(he:e=x\/H e=some (.own x))(k:∀b u,b≠e->h.get? b=some u->h'.get? b=some u)(QT:∃u,h'.get? e=some u):Un fs ex H (upd H x o) h h':=by
 have hx:∀b,H b=none->b≠x:=fun b n z=>by subst z;rw[n] at mu;exact mu
 have hb:∀b,H b=none->b≠e:=fun b n z=>by
  subst z;rcases he with r|r
  .exact hx b n r
  .rw[n] at r;cases r
 have hm:∀b u,H b=some u->¬ RA (some u)->b≠x:=fun b u q nm z=>by subst z;rw[q] at mu;exact nm mu
 refine⟨fun b u q n _ _=>k b u (hb b n) q,fun b u q n _ _=>⟨u.slots,k b u (hb b n) q⟩,fun b u q n _=>by rw[al (hx b n)];exact n,fun b u q _=>?_,
  fun b xs q=>by rw[al (hm b _ q fun z=>z)];exact q,fun b u xs q=>by rw[al (hm b _ q fun z=>z)];exact q,fun b ps q=>⟨#[],by rw[al (hm b _ q fun z=>z),q];simp⟩⟩
 by_cases Jn:b=e
 .subst Jn;exact QT
 .exact⟨u,k b u Jn q⟩
end
def VP(h:Heap)(H:Hp):List Addr:=(List.range h.objs.size).filter fun a=>(H a).isSome
def uw(h:Heap)(H:Hp):Heap:=PySem.W.hideAll h (VP h H)
theorem Dq(h:Heap)(H:Hp):(uw h H).objs.size=h.objs.size:=PySem.W.hideAll_size _ _
theorem Fs(e:h.get? b=some o)(n:H b=none):(uw h H).get? b=some o:=
 vJ _ e fun hm=>by
  have q:(H b).isSome=true:=(a_.mp hm).2;rw[n] at q;simp at q
theorem JJ(e:(uw h H).get? b=some o):h.get? b=some o/\H b=none:=by
 have e':h.get? b=some o:=PySem.W.of_hideAll (VP h H) e;refine⟨e',?_⟩;cases q:H b with
 |none=>rfl
 |some x=>
  have hm:b∈VP h H:=a_.mpr ⟨cY.mpr (aO e'),by simp[q]⟩;have z:(uw h H).get? b=none:=PySem.W.hideAll_none (VP h H) hm;rw[z] at e;cases e
def jC(g h:Heap)(L:Addr):List (Addr×Obj):=(List.range h.objs.size).filterMap fun a=>if a=L\/(g.get? a).isSome=true then none else (h.get? a).map fun o=>(a,o)
theorem kD(h1:a≠L)(h2:g.get? a=none)(h3:h.get? a=some o):(a,o)∈jC g h L:=
 mi.mpr ⟨a,cY.mpr (aO h3),by simp[h1,h2,h3]⟩
theorem rZ(hp:p∈jC g h L):p.1≠L/\g.get? p.1=none/\h.get? p.1=some p.2:=by
 obtain⟨b,_,e⟩:=mi.mp hp;split at e
 .cases e
 .rename_i hn;cases q:h.get? b with
  |none=>rw[q] at e;simp at e
  |some u=>
   rw[q] at e;simp only[zY,Option.some.injEq] at e;subst e;refine⟨fun z=>hn (.inl z),?_,q⟩;show g.get? b=none;cases r:g.get? b with
   |none=>rfl
   |some v=>exact(hn (.inr (by simp[r]))).elim
theorem Ft:News g L h (jC g h L):=fun p hp=>let ⟨a,b,c⟩:=rZ hp;⟨c,a,b⟩
structure Mod(K:PySem.W.Frag)(mg:Str->Option Value)(base:Heap):Prop where
 QU:K.In base
 glob:base.Ns mainGlobals mg
 blt:∃mb,base.Ns builtinsNs mb/\∀x:Str,x≠"__name__"->mb x=bootBuiltins x
 nolimit:base.NoLimit
structure Cx where
 prog:Program
 w:World
 K:PySem.W.Frag
 mg:Str->Option Value
 base:Heap
 A:Around
 N:List Str
 s₀:Shared
 H₀:Hp
 env:Env
 outer:List Env
 stack:List Env
 ex:List Addr
 fn:Str->Bool
 calm:Bool
 pn:List (Addr×Obj)
 xe:Value->Shared->Prop
def o_(l:List Env):List Addr:=l.filterMap (·.frame)
abbrev Cx.fs(X:Cx):List Addr:=o_ X.outer
def RC(sc:Scope)(x:Str):Prop:=sc.names.lookup x=some .local\/sc.names.lookup x=some .cell\/sc.names.lookup x=some .free
def RD(sc:Scope)(x:Str):Prop:=sc.names.lookup x=some .local\/sc.names.lookup x=some .cell
def Wz(env:Env)(h:Heap)(m:Str->Option Value)(x:Str)(u:Value):Prop:=
 (env.kindOf x=some .local/\m x=some u)\/((env.kindOf x=some .cell\/env.kindOf x=some .free)/\∃c,env.cells.lookup x=some c/\h.IsCell c (some u))
structure Cx.Ok(X:Cx):Prop where
 mod:Mod X.K X.mg X.base
 kind:X.env.scope.kind=.function
 glob:X.env.globals=mainGlobals
 blt:X.env.builtins=builtinsNs
 above:X.s₀.heap.objs.size<=X.env.locals
 inj:∀x y c,X.env.cells.lookup x=some c->X.env.cells.lookup y=some c->x=y
 has:∀x,(X.env.kindOf x=some .cell\/X.env.kindOf x=some .free)->∃c,X.env.cells.lookup x=some c
 RF:∀x c,X.fn x=true->X.env.cells.lookup x=some c->X.s₀.heap.objs.size<=c
 hd:X.calm=true->X.A.handled=none
 frames:X.A.frames=some X.stack
 Jo:X.stack=X.outer\/(X.stack=X.env::X.outer/\X.env.frame=some X.env.locals)
 VQ:∀b∈X.ex,b≠X.env.locals/\∀x c,X.env.cells.lookup x=some c->c≠b
 bs:∀b o,X.base.get? b=some o->X.s₀.heap.get? b=some o/\X.H₀ b=none
 Jp:X.base.objs.size<=X.s₀.heap.objs.size
 r0:∀b o,X.base.get? b=some o->b∉X.ex
 JK:∀b∈X.ex,b∉X.fs
 nQ:X.s₀.heap.FunFrames X.base X.outer
 JM:∀b∈X.fs,X.H₀ b=none
structure aI(X:Cx)(ae:List (Addr×Obj))(σ:List (Option V))(H:Hp)(s:Shared):Prop where
 ok:X.Ok
 os:s.os=X.s₀.os
 bare:AllBare s.gens
 base:Un X.fs X.ex X.H₀ H X.s₀.heap s.heap
 loc:∃m,s.heap.Ns X.env.locals m/\∀ (i:Nat) (x:Str) (v:V),X.N[i]?=some x->σ[i]?=some (some v)->RC X.env.scope x->∃u,bD v u/\Wz X.env s.heap m x u
 cell:∀x c,X.env.cells.lookup x=some c->∃v,s.heap.IsCell c v
 free:H X.env.locals=none
 lU:∀x c,X.env.cells.lookup x=some c->H c=none
 pin:∀p∈X.pn++ae,s.heap.get? p.1=some p.2/\H p.1=none/\p.1≠X.env.locals/\p.1∉X.fs/\∀v,p.2.data≠.cell v
 ck:kC X.prog X.w H s.heap
 len:σ.length=X.N.length
section
variable {X:Cx} {ae:List (Addr×Obj)} {σ:List (Option V)} {H H':Hp} {s:Shared} {h':Heap}
theorem Cx.Ok.WB(ok:X.Ok)(e:X.base.get? b=some o):b∉X.fs:=fun hb=>by
 have:=(ok.nQ.mem hb).1;rw[e] at this;cases this
theorem aI.bs(I:aI X ae σ H s):∀b o,X.base.get? b=some o->s.heap.get? b=some o/\H b=none:=fun b o e=>
 ⟨I.base.keep b o (I.ok.bs b o e).1 (I.ok.bs b o e).2 (I.ok.WB e) (I.ok.r0 b o e),I.base.free b o (I.ok.bs b o e).1 (I.ok.bs b o e).2 (I.ok.r0 b o e)⟩
theorem aI.bk(I:aI X ae σ H s):∀b o,X.base.get? b=some o->s.heap.get? b=some o:=fun b o e=>(I.bs b o e).1
theorem aI.mod(I:aI X ae σ H s):Mod X.K X.mg X.base:=I.ok.mod
theorem aI.p8(I:aI X ae σ H s):X.K.In s.heap:=I.ok.mod.QU.keeps I.bk
theorem aI.fr(I:aI X ae σ H s):∃m,Fr X.base X.env.locals s.heap m:=
 let ⟨m,hn,_⟩:=I.loc
 ⟨m,hn,I.bk,bj I.ok.Jp I.ok.above⟩
theorem aI.lt(I:aI X ae σ H s):X.env.locals<s.heap.objs.size:=let ⟨_,hn,_⟩:=I.loc;hn.lt
theorem aI.sz(I:aI X ae σ H s):X.s₀.heap.objs.size<=s.heap.objs.size:=bj I.ok.above (jy I.lt)
theorem aI.WC(I:aI X ae σ H s)(h:s.heap.objs.size<=a):a∉X.fs:=fun hb=>by
 obtain⟨_,o,ho,_⟩:=I.ok.nQ.mem hb;exact absurd (bK (aO ho) (bj I.sz h)) (ii _)
theorem aI.Nz(I:aI X ae σ H s):∀x c,X.env.cells.lookup x=some c->c≠X.env.locals:=fun x c e z=>by
 obtain⟨v,o,ho,hd⟩:=I.cell x c e;obtain⟨m,⟨o',es,ep,Af,RG,_⟩,_⟩:=I.loc;rw[z,Af] at ho;cases ho;rw[RG] at hd;cases hd
theorem aI.nQ(I:aI X ae σ H s):s.heap.FunFrames X.base X.outer:=by
 have all:∀ (l:List Env),(∀b∈o_ l,b∈X.fs)->X.s₀.heap.FunFrames X.base l->s.heap.FunFrames X.base l:=by
  intro l;induction l with
  |nil=>intro _ _;trivial
  |cons env r ih=>
   intro hs hl;obtain⟨hk,⟨L,o,hf,hn,ho,hd⟩,hr⟩:=hl;have hL:L∈X.fs:=hs L (by unfold o_;rw[zD,hf];exact bG);obtain⟨sl,e⟩:=I.base.slot L o ho (I.ok.JM L hL) hL fun z=>I.ok.JK L z hL;exact⟨hk,⟨L,_,hf,hn,e,hd⟩,ih (fun b hb=>hs b (by unfold o_;rw[zD,hf];exact bJ _ hb)) hr⟩
 exact all X.outer (fun _ hb=>hb) I.ok.nQ
theorem aI.stack(I:aI X ae σ H s):s.heap.FunFrames X.base X.stack:=by
 rcases I.ok.Jo with e|⟨e,hf⟩
 .rw[e];exact I.nQ
 .rw[e];obtain⟨m,hn,_⟩:=I.loc;refine .cons (by rw[I.ok.kind];decide) hf hn ?_ I.nQ;exact rD (bj I.ok.Jp I.ok.above)
theorem aI.r6(I:aI X ae σ H s):∀b∈o_ X.stack,b∈X.env.locals::X.fs:=fun b hb=>by
 rcases I.ok.Jo with e|⟨e,hf⟩
 .rw[e] at hb;exact bJ _ hb
 .rw[e] at hb;unfold o_ at hb;rw[zD,hf] at hb;exact hb
theorem aI.wf(I:aI X ae σ H s):∀b∈o_ X.stack,H b=none:=fun b hb=>by
 rcases ba.mp (I.r6 b hb) with e|hb
 .rw[e];exact I.free
 .obtain⟨_,o,ho,_⟩:=I.ok.nQ.mem hb;exact I.base.free b o ho (I.ok.JM b hb) fun z=>I.ok.JK b z hb
theorem aI.step{g':Array GenState}{t':Nat}{d':Drawn}{ch:List Addr}(I:aI X ae σ H s)(Jq:∀b∈ch,(b∈X.ex\/X.s₀.heap.objs.size<=b)/\b≠X.env.locals/\(∀x c,X.env.cells.lookup x=some c->c≠b)/\∀p∈X.pn++ae,p.1≠b)(keep:∀b o,b≠X.env.locals->b∉X.fs->b∉ch->s.heap.get? b=some o->H b=none->h'.get? b=some o)(slot:∀b o,b≠X.env.locals->b∈X.fs->b∉ch->s.heap.get? b=some o->H b=none->∃sl,h'.get? b=some { o with slots:=sl })(free:∀b o,b∉ch->s.heap.get? b=some o->H b=none->H' b=none)(there:∀b o,b∉ch->s.heap.get? b=some o->∃o',h'.get? b=some o')(mQ:∀b xs,H b=some (.tup xs)->H' b=some (.tup xs))(o8:∀b o u,H b=some (.mK o u)->H' b=some (.mK o u))(o9:∀b ps,H b=some (.qJ ps)->∃more,H' b=some (.qJ (ps++more)))(ns:∀m,s.heap.Ns X.env.locals m->h'.Ns X.env.locals m)(ck:kC X.prog X.w H' h')(hg:AllBare g'):
  aI X ae σ H' { s with heap:=h',gens:=g',drawn:=d',toks:=t' }:=by
 have neL:∀b o,X.s₀.heap.get? b=some o->b≠X.env.locals:=fun b o e=>aX (bK (aO e) I.ok.above);have VR:∀b o,X.s₀.heap.get? b=some o->b∉X.ex->b∉ch:=fun b o e hx hb=>by
  rcases(Jq b hb).1 with z|z
  .exact hx z
  .exact absurd (bK (aO e) z) (ii _)
 have Mh:∀x c,X.env.cells.lookup x=some c->∀v,s.heap.IsCell c v->h'.IsCell c v:=fun x c e v ⟨o,ho,hd⟩=>by
  have RH:c∉ch:=fun z=>(Jq c z).2.2.1 x c e rfl;by_cases hc:c∈X.fs
  .obtain⟨sl,q⟩:=slot c o (I.Nz x c e) hc RH ho (I.lU x c e);exact⟨_,q,hd⟩
  .exact⟨o,keep c o (I.Nz x c e) hc RH ho (I.lU x c e),hd⟩
 refine⟨I.ok,I.os,hg,⟨fun b o e n hb hx=>?_,fun b o e n hb hx=>?_,fun b o e n hx=>?_,fun b o e hx=>?_,fun b xs e=>mQ b xs (I.base.mQ b xs e),fun b o xs e=>o8 b o xs (I.base.o8 b o xs e),fun b ps e=>?_⟩,?_,fun x c e=>?_,?_,fun x c e=>?_,fun p hp=>?_,ck,I.len⟩
 .exact keep b o (neL b o e) hb (VR b o e hx) (I.base.keep b o e n hb hx) (I.base.free b o e n hx)
 .obtain⟨sl,e1⟩:=I.base.slot b o e n hb hx;obtain⟨WD,e2⟩:=slot b _ (neL b o e) hb (VR b o e hx) e1 (I.base.free b o e n hx);exact⟨WD,e2⟩
 .obtain⟨o',e1⟩:=I.base.there b o e hx;exact free b o' (VR b o e hx) e1 (I.base.free b o e n hx)
 .obtain⟨o',e1⟩:=I.base.there b o e hx;exact there b o' (VR b o e hx) e1
 .obtain⟨m1,e1⟩:=I.base.o9 b ps e;obtain⟨m2,e2⟩:=o9 b _ e1;exact⟨m1++m2,by rw[e2,Array.append_assoc]⟩
 .obtain⟨m,hn,hl⟩:=I.loc;refine⟨m,ns m hn,fun i x v e1 e2 e3=>?_⟩;obtain⟨u,r,l⟩:=hl i x v e1 e2 e3;refine⟨u,r,?_⟩;rcases l with l|⟨k,c,e,z⟩
  .exact .inl l
  .exact .inr ⟨k,c,e,Mh x c e _ z⟩
 .obtain⟨v,z⟩:=I.cell x c e;exact⟨v,Mh x c e v z⟩
 .obtain⟨m,⟨o,_,_,ho,_⟩,_⟩:=I.loc;exact free _ o (fun z=>(Jq _ z).2.1 rfl) ho I.free
 .obtain⟨v,o,ho,hd⟩:=I.cell x c e;exact free c o (fun z=>(Jq c z).2.2.1 x c e rfl) ho (I.lU x c e)
 .obtain⟨e,n,ne,nf,d⟩:=I.pin p hp;have RH:p.1∉ch:=fun z=>(Jq p.1 z).2.2.2 p hp rfl;exact⟨keep p.1 p.2 ne nf RH e n,free p.1 p.2 RH e n,ne,nf,d⟩
theorem aI.un{t':Nat}(I:aI X ae σ H s)(u:Un X.fs [] H H' s.heap h')(ck:kC X.prog X.w H' h'):aI X ae σ H' { s with heap:=h',toks:=t' }:=by
 obtain⟨m,⟨o,es,ep,ho,r⟩,_⟩:=id I.loc;obtain⟨sl,hL⟩:=u.any ho I.free (by simp);exact I.step (g':=s.gens) (d':=s.drawn) (ch:=[]) (fun _ z=>nomatch z) (fun b o _ hb _ e n=>u.keep b o e n hb (by simp)) (fun b o _ hb _ e n=>u.slot b o e n hb (by simp)) (fun b o _ e n=>u.free b o e n (by simp)) (fun b o _ e=>u.there b o e (by simp)) u.mQ u.o8 u.o9 (fun m' hm=>by
  obtain⟨o',es',QV,Af,r'⟩:=hm;rw[ho] at Af;cases Af;exact⟨_,es',QV,hL,r'⟩) ck I.bare
theorem aI.call{g':Array GenState}{t':Nat}{d':Drawn}{ch:List Addr}(I:aI X ae σ H s)(u:Un (o_ X.stack) ch H H' s.heap h')(ck:kC X.prog X.w H' h')(hg:AllBare g')(Jq:∀b∈ch,(b∈X.ex\/X.s₀.heap.objs.size<=b)/\b≠X.env.locals/\(∀x c,X.env.cells.lookup x=some c->c≠b)/\∀p∈X.pn++ae,p.1≠b):
  aI X ae σ H' { s with heap:=h',gens:=g',drawn:=d',toks:=t' }:=by
 obtain⟨m,⟨o,es,ep,ho,r⟩,_⟩:=id I.loc;obtain⟨sl,hL⟩:=u.any ho I.free fun z=>(Jq _ z).2.1 rfl;exact I.step (ch:=ch) Jq (fun b o hL hb hc e n=>u.keep b o e n (fun z=>(ba.mp (I.r6 b z)).elim hL hb) hc) (fun b o _ _ hc e n=>u.any e n hc) (fun b o hc e n=>u.free b o e n hc) (fun b o hc e=>u.there b o e hc) u.mQ u.o8 u.o9 (fun m' hm=>by
  obtain⟨o',es',QV,Af,r'⟩:=hm;rw[ho] at Af;cases Af;exact⟨_,es',QV,hL,r'⟩) ck hg
theorem aI.turned{t':Nat}{it:Addr}(I:aI X ae σ H s)(k:∀b o,b≠it->s.heap.get? b=some o->h'.get? b=some o)(hn:H it=none)(hL:it≠X.env.locals)(h1:it∈X.ex\/X.s₀.heap.objs.size<=it)(h2:∀x c,X.env.cells.lookup x=some c->c≠it)(h3:∀p∈X.pn++ae,p.1≠it):aI X ae σ H { s with heap:=h',toks:=t' }:=by
 have Mi:∀b u,H b=some u->b≠it:=fun b u e z=>by rw[z,hn] at e;cases e
 refine I.step (g':=s.gens) (d':=s.drawn) (ch:=[it]) (fun b hb=>?_) (fun b o _ _ hc e _=>k b o (fun z=>hc (by simp[z])) e) (fun b o _ _ hc e _=>⟨o.slots,k b o (fun z=>hc (by simp[z])) e⟩) (fun _ _ _ _ n=>n)
  (fun b o hc e=>⟨o,k b o (fun z=>hc (by simp[z])) e⟩) (fun _ _ e=>e) (fun _ _ _ e=>e) (fun b ps e=>⟨#[],by rw[e];simp⟩) (fun m hm=>?_) (fun b u e=>?_) I.bare
 .have e:b=it:=by simpa using hb
  subst e;exact⟨h1,hL,h2,h3⟩
 .obtain⟨o,es,ep,ho,r⟩:=hm;exact⟨o,es,ep,k _ o (cj hL) ho,r⟩
 .refine(I.ck b u e).lL (fun c v hc q=>k c v ?_ q) (fun _ q=>q) fun _ _ q=>q;rcases hc with z|z
  .rw[z];exact Mi b u e
  .exact Mi c _ z
theorem aI.tok(I:aI X ae σ H s)(t:Nat):aI X ae σ H { s with toks:=t }:=I.un (h':=s.heap) (t':=t) Un.refl I.ck
theorem aI.kept(I:aI X ae σ H s)(k:∀b u,s.heap.get? b=some u->h'.get? b=some u):aI X ae σ H { s with heap:=h',toks:=t' }:=I.un (Un.kept k) (I.ck.kept k)
theorem aI.laid(I:aI X ae σ H s)(k:∀b u,s.heap.get? b=some u->h'.get? b=some u)(hp:s.heap.objs.size<=a)(new:cf X.prog X.w (upd H a o) h' a o):
  aI X ae σ (upd H a o) { s with heap:=h',toks:=t' }:=I.un (Un.laid k hp (I.ck.fresh hp)) (I.ck.laid k hp new)
theorem aI.write(I:aI X ae σ H s)(mu:RA (H x))(he:e=x\/H e=some (.own x))(k:∀b u,b≠e->s.heap.get? b=some u->h'.get? b=some u)(QT:∃u,h'.get? e=some u)(new:cf X.prog X.w (upd H x o) h' x o):aI X ae σ (upd H x o) { s with heap:=h',toks:=t' }:=I.un (Un.write mu he k QT) (I.ck.write mu he k QT new)
theorem aI.BM(I:aI X ae σ H s)(h:∀p∈RJ,s.heap.get? p.1=some p.2/\H p.1=none/\p.1≠X.env.locals/\p.1∉X.fs/\∀v,p.2.data≠.cell v):aI X RJ σ H s:=
 ⟨I.ok,I.os,I.bare,I.base,I.loc,I.cell,I.free,I.lU,fun p hp=>(dP.mp hp).elim (fun z=>I.pin p (kd _ z)) (h p),I.ck,I.len⟩
theorem xF{N:List Str}(hN:N.Nodup){i j:Nat}{x:Str}(a:N[i]?=some x)(b:N[j]?=some x):i=j:=by
 obtain⟨h1,e1⟩:=dk.mp a;obtain⟨h2,e2⟩:=dk.mp b;exact(List.getElem_inj hN).mp (e1.trans e2.symm)
theorem pf{M:Model}{A:Around}{E:Value->Shared->Prop}{i:Nat}{x:Str}{v:V}{u:Value}{Q:Unit->Shared->Prop}(I:aI X ae σ H s)(hN:X.N.Nodup)(hi:X.N[i]?=some x)(hx:RD X.env.scope x)(r:bD v u)(h:∀s',aI X ae (σ.set i (some v)) H s'->(∃a,Heap.SameBut a s.heap s'.heap/\(a=X.env.locals\/X.env.cells.lookup x=some a))->Q () s')(hf:X.fn x=true\/X.env.scope.names.lookup x=some .local:=by first|exact .inl rfl|exact .inr rfl|assumption):wpAny M A (storeName X.env x u) Q E s:=by
 obtain⟨m,hn,hl⟩:=id I.loc;have WE:(X.env.scope.kind==.class||(X.env.scope.kind==.module&&X.env.locals != X.env.globals))=false:=by rw[I.ok.kind];rfl
 have hiσ:i<σ.length:=by rw[I.len];exact(dk.mp hi).1
 have Nz:=I.Nz;have BO:∀ {a:Addr} {h':Heap},(∃o,s.heap.get? a=some o/\H a=none)->Heap.SameBut a s.heap h'->kC X.prog X.w H h':=fun {a h'} ha hs b ob e=>by
  obtain⟨_,_,Mj⟩:=ha;refine(I.ck b ob e).lL (fun c w' hc q=>(hs.2 c ?_).trans q) (fun _ q=>q) fun _ _ q=>q;rintro rfl;rcases hc with rfl|hc
  .rw[Mj] at e;cases e
  .rw[Mj] at hc;cases hc
 rcases hx with hk|hk
 .refine wpAny_storeName_local hk hn (fun h' VS hs=>?_) WE;obtain⟨oL,_,_,EY,_⟩:=id hn;refine h _ ⟨I.ok,I.os,I.bare,⟨fun b o e n hb hx=>?_,fun b o e n hb hx=>?_,I.base.free,fun b o e hx=>?_,I.base.mQ,I.base.o8,I.base.o9⟩,⟨_,VS,fun j y v' e1 e2 e3=>?_⟩,fun y c e=>?_,I.free,I.lU,fun p hp=>?_,BO ⟨oL,EY,I.free⟩ hs,by simpa using I.len⟩ ⟨_,hs,.inl rfl⟩
  .exact(hs.2 b (aX (bK (aO e) I.ok.above))).trans (I.base.keep b o e n hb hx)
  .obtain⟨sl,e1⟩:=I.base.slot b o e n hb hx;exact⟨sl,(hs.2 b (aX (bK (aO e) I.ok.above))).trans e1⟩
  .obtain⟨o',e1⟩:=I.base.there b o e hx;exact⟨o',(hs.2 b (aX (bK (aO e) I.ok.above))).trans e1⟩
  .by_cases hj:j=i
   .subst hj;rw[hi] at e1;cases e1;rw[rq hiσ] at e2;cases e2;exact⟨u,r,.inl ⟨hk,by simp⟩⟩
   .rw[vI (cj hj)] at e2;obtain⟨u',r',q⟩:=hl j y v' e1 e2 e3;refine⟨u',r',?_⟩;rcases q with ⟨k,e⟩|⟨k,c,e,z⟩
    .refine .inl ⟨k,?_⟩;have:y≠x:=fun e=>hj (xF hN e1 (e ▸ hi));simp[this,e]
    .exact .inr ⟨k,c,e,z.sameBut hs (Nz y c e)⟩
  .obtain⟨w',z⟩:=I.cell y c e;exact⟨w',z.sameBut hs (Nz y c e)⟩
  .obtain⟨e,n,ne,nf,d⟩:=I.pin p hp;exact⟨(hs.2 p.1 ne).trans e,n,ne,nf,d⟩
 .have WF:X.fn x=true:=by
   rcases hf with z|z
   .exact z
   .rw[z] at hk;cases hk
  obtain⟨c,hc⟩:=I.ok.has x (.inl hk);obtain⟨w',z⟩:=I.cell x c hc;refine wpAny_storeName_cell I.ok.kind hk hc z (fun h' NA hs=>?_);obtain⟨oc,VT,WG⟩:=id z;refine h { s with heap:=h' } ⟨I.ok,I.os,I.bare,⟨fun b o e n hb hx=>?_,fun b o e n hb hx=>?_,I.base.free,fun b o e hx=>?_,I.base.mQ,I.base.o8,I.base.o9⟩,⟨m,hn.sameBut hs (cj (Nz x c hc)),fun j y v' e1 e2 e3=>?_⟩,fun y c' e=>?_,I.free,I.lU,fun p hp=>?_,BO ⟨oc,VT,I.lU x c hc⟩ hs,by simpa using I.len⟩ ⟨c,hs,.inr hc⟩
  .exact(hs.2 b (aX (bK (aO e) (I.ok.RF x c WF hc)))).trans (I.base.keep b o e n hb hx)
  .obtain⟨sl,e1⟩:=I.base.slot b o e n hb hx;exact⟨sl,(hs.2 b (aX (bK (aO e) (I.ok.RF x c WF hc)))).trans e1⟩
  .obtain⟨o',e1⟩:=I.base.there b o e hx;exact⟨o',(hs.2 b (aX (bK (aO e) (I.ok.RF x c WF hc)))).trans e1⟩
  .by_cases hj:j=i
   .subst hj;rw[hi] at e1;cases e1;rw[rq hiσ] at e2;cases e2;exact⟨u,r,.inr ⟨.inl hk,c,hc,NA⟩⟩
   .rw[vI (cj hj)] at e2;obtain⟨u',r',q⟩:=hl j y v' e1 e2 e3;refine⟨u',r',?_⟩;rcases q with q|⟨k,c',e,z'⟩
    .exact .inl q
    .refine .inr ⟨k,c',e,z'.sameBut hs ?_⟩;rintro rfl;exact hj (xF hN e1 (I.ok.inj _ _ _ e hc ▸ hi))
  .by_cases hcc:c'=c
   .subst hcc;exact⟨_,NA⟩
   .obtain⟨w2,z2⟩:=I.cell y c' e;exact⟨w2,z2.sameBut hs hcc⟩
  .obtain⟨e,n,ne,nf,d⟩:=I.pin p hp;refine⟨(hs.2 p.1 ?_).trans e,n,ne,nf,d⟩;intro q;rw[q,VT] at e;have q':oc=p.2:=a8 e;exact d w' (by rw[<-q'];exact WG)
theorem kF(I:aI X ae σ H s)(hN:X.N.Nodup)(hi:X.N[i]?=some x)(hx:RD X.env.scope x)(r:bD v u)(h:∀s',aI X ae (σ.set i (some v)) H s'->Q () s')(hf:X.fn x=true\/X.env.scope.names.lookup x=some .local:=by first|exact .inl rfl|exact .inr rfl|assumption):wpAny M A (storeName X.env x u) Q E s:=
 pf I hN hi hx r (fun s' I' _=>h s' I') hf
theorem aI.RK(I:aI X ae σ H s)(ho:s'.os=s.os)(u:Un (o_ X.stack) ch H H' s.heap s'.heap)(ck:kC X.prog X.w H' s'.heap)(hg:AllBare s'.gens)(Jq:∀b∈ch,(b∈X.ex\/X.s₀.heap.objs.size<=b)/\b≠X.env.locals/\(∀x c,X.env.cells.lookup x=some c->c≠b)/\∀p∈X.pn++ae,p.1≠b):aI X ae σ H' s':=by
 obtain⟨h',g',d',t',o'⟩:=s';have e:o'=s.os:=ho;subst e;exact I.call (g':=g') (t':=t') (d':=d') u ck hg Jq
end
abbrev XK:=Value->Option Addr->Hp->Prop
abbrev St:=List (Option V)
abbrev VK:=V->Hp->Prop
abbrev TE:=St->Hp->VK->Prop
abbrev TT:=St->Hp->(Bool->Hp->Prop)->Prop
abbrev TA:=St->Hp->(List V->Hp->Prop)->Prop
structure wg where
 nx:St->Hp->Prop
 rt:VK
 bk:St->Hp->Prop:=fun _ _=>False
 ct:St->Hp->Prop:=fun _ _=>False
abbrev TS:=wg->St->Hp->Prop
def EP(X:Cx)(ae:List (Addr×Obj))(σ:St)(Q:VK)(u:Value)(s':Shared):Prop:=∃v H',aI X ae σ H' s'/\bD v u/\Q v H'
def TP(X:Cx)(ae:List (Addr×Obj))(σ:St)(Q:Bool->Hp->Prop)(b:Bool)(s':Shared):Prop:=∃H',aI X ae σ H' s'/\Q b H'
def AP(X:Cx)(ae:List (Addr×Obj))(σ:St)(Q:List V->Hp->Prop)(us:List Value)(s':Shared):Prop:=∃vs H',aI X ae σ H' s'/\aY vs us/\Q vs H'
def SP(X:Cx)(ae:List (Addr×Obj))(D:wg)(f:Flow)(s':Shared):Prop:=
 match f with
 |.next=>∃σ' H',aI X ae σ' H' s'/\D.nx σ' H'
 |.brk=>∃σ' H',aI X ae σ' H' s'/\D.bk σ' H'
 |.cont=>∃σ' H',aI X ae σ' H' s'/\D.ct σ' H'
 |.ret u=>∃v σ' H',aI X ae σ' H' s'/\bD v u/\D.rt v H'
def PE(X:Cx)(e:Expr)(t:TE):Prop:=
 ∀ (ae:List (Addr×Obj)) (s:Shared) (σ:St) (H:Hp) (Q:VK),aI X ae σ H s->t σ H Q->wpAny (model X.prog X.w) X.A (eval e X.env) (EP X ae σ Q) X.xe s
def PT(X:Cx)(e:Expr)(t:TT):Prop:=
 ∀ (ae:List (Addr×Obj)) (s:Shared) (σ:St) (H:Hp) (Q:Bool->Hp->Prop),aI X ae σ H s->t σ H Q->wpAny (model X.prog X.w) X.A (isTrue e X.env (eval e X.env)) (TP X ae σ Q) X.xe s
def PW(X:Cx)(e:Expr)(t:TT):Prop:=
 ∀ (BQ:Sem Value) (ae:List (Addr×Obj)) (s:Shared) (σ:St) (H:Hp) (Q:Bool->Hp->Prop),aI X ae σ H s->t σ H Q->wpAny (model X.prog X.w) X.A (isTrue e X.env BQ) (TP X ae σ Q) X.xe s
theorem PW.pt(h:PW X e t):PT X e t:=h _
def PA(X:Cx)(es:List Expr)(t:TA):Prop:=
 ∀ (pos:Pos) (ae:List (Addr×Obj)) (s:Shared) (σ:St) (H:Hp) (Q:List V->Hp->Prop),aI X ae σ H s->t σ H Q->wpAny (model X.prog X.w) X.A (spliced (backTo pos (starEach es X.env))) (AP X ae σ Q) X.xe s
def PS(X:Cx)(st:Stmt)(t:TS):Prop:=
 ∀ (ae:List (Addr×Obj)) (s:Shared) (σ:St) (H:Hp) (D:wg),aI X ae σ H s->t D σ H->wpAny (model X.prog X.w) X.A (exec st X.env) (SP X ae D) X.xe s
def y0(X:Cx)(st:List Stmt)(t:TS):Prop:=
 ∀ (ae:List (Addr×Obj)) (s:Shared) (σ:St) (H:Hp) (D:wg),aI X ae σ H s->t D σ H->wpAny (model X.prog X.w) X.A (execs st X.env) (SP X ae D) X.xe s
theorem cz(h:wpAny M A t Q E s)(hQ:∀a s,Q a s->Q' a s):wpAny M A t Q' E s:=gy h hQ fun _ _ x=>x
section
variable {X:Cx}
def be(i:Nat):TE:=fun σ H Q=>∃v,σ[i]?=some (some v)/\Q v H
def tC(v:V):TE:=fun _ H Q=>Q v H
theorem NC(hN:X.N[i]?=some x)(hv:RC X.env.scope x)(hd:(x==("__debug__":Str))=false:=by decide)(um:(x==("__classdict__":Str))=false:=by decide):PE X (.Name x pos) (be i):=by
 intro ae s σ H Q I h;obtain⟨v,e,h⟩:=h;obtain⟨m,hn,hl⟩:=I.loc;obtain⟨u,r,l⟩:=hl i x v hN e hv;have fin:EP X ae σ Q u s:=⟨v,H,I,r,h⟩
 rcases l with ⟨hk,hm⟩|⟨hk,c,hc,BR⟩
 .exact o6 (zM I.ok.kind hk hn hm fin) hd
 .rcases hk with hk|hk
  .exact o6 (wpAny_loadName_cell I.ok.kind hk hc BR fin) hd
  .exact o6 (zS I.ok.kind hk hc BR fin um) hd
theorem aB{i j pos}:PE X (.Constant (.int i) j pos) (tC (.int i)):=fun _ _ _ H _ I h=>wpAny_Constant_int ⟨.int i,H,I.tok _,⟨_,rfl⟩,h⟩
theorem kG{b j pos}:PE X (.Constant (.bool b) j pos) (tC (.bl b)):=fun _ _ _ H _ I h=>Constant_bool ⟨.bl b,H,I,rfl,h⟩
theorem cn{j pos}:PE X (.Constant .none j pos) (tC .bR):=fun _ _ _ H _ I h=>Constant_none ⟨.bR,H,I,rfl,h⟩
theorem r_{x j pos}:PE X (.Constant (.str x) j pos) (tC (.str x)):=fun _ _ _ H _ I h=>Calls.Constant_str ⟨.str x,H,I.tok _,⟨_,rfl⟩,h⟩
def Gl(X:Cx)(x:Str):Prop:=X.env.kindOf x=some .globalImplicit
theorem qL(I:aI X ae σ H s)(hg:Gl X x)(hm:X.mg x=some u)(h:Q u s)(hd:(x==("__debug__":Str))=false:=by decide):wpAny (model X.prog X.w) X.A (eval (.Name x pos) X.env) Q E s:=
 Calls.Name_function_global I.ok.kind hg (Calls.loadGlobal_global (by rw[I.ok.glob];exact I.mod.glob.keeps I.bk) hm h) hd
theorem kH(I:aI X ae σ H s)(hg:Gl X x)(hm:X.mg x=none)(hv:bootBuiltins x=some u)(h:Q u s)(hn:x≠"__name__":=by decide)(hd:(x==("__debug__":Str))=false:=by decide):wpAny (model X.prog X.w) X.A (eval (.Name x pos) X.env) Q E s:=by
 obtain⟨mb,h1,h2⟩:=I.mod.blt;exact Calls.Name_function_global I.ok.kind hg (Calls.loadGlobal_builtin (by rw[I.ok.glob];exact I.mod.glob.keeps I.bk) hm (by rw[I.ok.blt];exact h1.keeps I.bk) ((h2 x hn).trans hv) h) hd
theorem jD(hg:Gl X x)(hm:X.mg x=some u)(r:bD v u)(hd:(x==("__debug__":Str))=false:=by decide):PE X (.Name x pos) (tC v):=
 fun _ _ _ H _ I h=>qL I hg hm ⟨v,H,I,r,h⟩ hd
theorem lx(hg:Gl X x)(hm:X.mg x=none)(hv:bootBuiltins x=some u)(r:bD v u)(hn:x≠"__name__":=by decide)(hd:(x==("__debug__":Str))=false:=by decide):PE X (.Name x pos) (tC v):=
 fun _ _ _ H _ I h=>kH I hg hm hv ⟨v,H,I,r,h⟩ hn hd
variable {a b:Expr} {ta tb:TE} {pos:Pos}
def tB(t:TE):TT:=fun σ H Q=>t σ H fun x H1=>∃c,x=.bl c/\Q c H1
theorem cR(h:PE X e t)(he:∀BQ,isTrue e X.env BQ=(do let v <- BQ;standAt e.pos;holding [v] (truthy v)):=by intro _;rfl):PT X e (tB t):=by
 intro ae s σ H Q I hw;refine isTrue_plain (cz (h ae s σ H _ I hw) fun v s1 ⟨x,H1,I1,r1,q1⟩=>?_) (he _);obtain⟨d,rfl,q⟩:=q1;cases r1;exact mr ⟨H1,I1,q⟩
variable {tA VU:TT} {bZ:List Expr}
def RL(t u:TT):TT:=fun σ H Q=>t σ H fun c H1=>if c=true then u σ H1 Q else Q false H1
def tOr(t u:TT):TT:=fun σ H Q=>t σ H fun c H1=>if c=true then Q true H1 else u σ H1 Q
def WH(t:TT):TT:=fun σ H Q=>t σ H fun c H1=>Q (!c) H1
theorem BU(ha:PT X a tA):PW X (.BoolOp .And [a] pos) tA:=by
 intro wh ae s σ H Q I h;refine isTrue_and (cz (ha ae s σ H Q I h) fun c s1 e=>?_);cases c with
 |true=>exact isTrue_and_nil e
 |false=>exact e
theorem se(ha:PT X a tA):PW X (.BoolOp .Or [a] pos) tA:=by
 intro wh ae s σ H Q I h;refine isTrue_or (cz (ha ae s σ H Q I h) fun c s1 e=>?_);cases c with
 |false=>exact isTrue_or_nil e
 |true=>exact e
theorem Fu(ha:PT X a tA)(hb:PW X (.BoolOp .And (b::bZ) pos) VU):PW X (.BoolOp .And (a::b::bZ) pos) (RL tA VU):=by
 intro wh ae s σ H Q I h;refine isTrue_and (cz (ha ae s σ H _ I h) fun c s1 ⟨H1,I1,q1⟩=>?_);cases c with
 |true=>exact hb wh ae s1 σ H1 Q I1 q1
 |false=>exact⟨H1,I1,q1⟩
theorem xG(ha:PT X a tA)(hb:PW X (.BoolOp .Or (b::bZ) pos) VU):PW X (.BoolOp .Or (a::b::bZ) pos) (tOr tA VU):=by
 intro wh ae s σ H Q I h;refine isTrue_or (cz (ha ae s σ H _ I h) fun c s1 ⟨H1,I1,q1⟩=>?_);cases c with
 |true=>exact⟨H1,I1,q1⟩
 |false=>exact hb wh ae s1 σ H1 Q I1 q1
theorem dw(ha:PT X a tA):PT X (.UnaryOp .Not a pos) (WH tA):=by
 intro ae s σ H Q I h;exact isTrue_not (ha ae s σ H (fun c H1=>Q (!c) H1) I h)
def Ml(ta tb:TE):TE:=fun σ H Q=>ta σ H fun x H1=>∃c,x=.bl c/\if c=true then tb σ H1 Q else Q (.bl false) H1
def RM(ta:TE):TE:=fun σ H Q=>ta σ H fun x H1=>∃c,x=.bl c/\Q (.bl (!c)) H1
theorem mR{op}(h:PE X a t):PE X (.BoolOp op [a] pos) t:=fun ae s σ H Q I hw=>BoolOp_one (h ae s σ H Q I hw)
theorem kI(ha:PE X a ta)(hb:PE X (.BoolOp .And (b::bZ) pos) tb):PE X (.BoolOp .And (a::b::bZ) pos) (Ml ta tb):=by
 intro ae s σ H Q I h;refine BoolOp_and (cz (ha ae s σ H _ I h) fun v s1 ⟨x,H1,I1,r1,q1⟩=>?_);obtain⟨c,rfl,q1⟩:=q1;cases r1;refine mr ?_;cases c with
 |true=>exact hb ae s1 σ H1 Q I1 q1
 |false=>exact⟨.bl false,H1,I1,rfl,q1⟩
theorem ND(ha:PE X a ta):PE X (.UnaryOp .Not a pos) (RM ta):=by
 intro ae s σ H Q I h;refine UnaryOp_ (cz (ha ae s σ H _ I h) fun v s1 ⟨x,H1,I1,r1,q1⟩=>?_);obtain⟨c,rfl,q1⟩:=q1;cases r1;exact not_of (mr ⟨.bl (!c),H1,I1,rfl,q1⟩)
def WJ(t:TT)(ta tb:TE):TE:=fun σ H Q=>t σ H fun c H1=>if c=true then ta σ H1 Q else tb σ H1 Q
theorem ip(hc:PT X c tA)(ha:PE X a ta)(hb:PE X b tb):PE X (.IfExp c a b pos) (WJ tA ta tb):=by
 intro ae s σ H Q I h;refine wpAny_IfExp (cz (hc ae s σ H _ I h) fun d s1 ⟨H1,I1,q1⟩=>?_);cases d with
 |true=>exact ha ae s1 σ H1 Q I1 q1
 |false=>exact hb ae s1 σ H1 Q I1 q1
end
def br(K:PySem.W.Frag)(H:Hp)(a:Addr)(xs:List V):Prop:=
 Rd H a (.lst xs)\/
  ∃ (o:Obj) (its:Array Value) (n:Nat),K.lookup a=some o/\o.cls=.type "list"/\o.dict=none/\o.data=.seq its n/\its.size<=sizeLine/\aY xs its.toList
def bp(K:PySem.W.Frag)(H:Hp)(a:Addr)(xs:List V):Prop:=
 Rd H a (.tup xs)\/
  ∃ (o:Obj) (its:Array Value) (n:Nat),K.lookup a=some o/\o.cls=.type "tuple"/\o.data=.seq its n/\its.size<=sizeLine/\aY xs its.toList
def WK:Value->Option V
 |.none=>some .bR
 |.bool b=>some (.bl b)
 |.int i _=>some (.int i)
 |.str x _=>some (.str x)
 |.bytes b _=>some (.EX b)
 |.float b _=>some (.Ny b)
 |.ref a=>some (.ref a)
 |.type n=>some (.ty n)
 |_=>none
theorem bD.abs(r:bD x u):WK u=some x:=by
 cases x with
 |bR=>cases r;rfl
 |bl _=>cases r;rfl
 |int _=>obtain⟨t,rfl⟩:=r;rfl
 |str _=>obtain⟨t,rfl⟩:=r;rfl
 |EX _=>obtain⟨t,rfl⟩:=r;rfl
 |Ny _=>obtain⟨t,rfl⟩:=r;rfl
 |ref _=>cases r;rfl
 |ty _=>cases r;rfl
theorem bD.inj(r:bD x u)(q:bD y u):x=y:=a8 (r.abs.symm.trans q.abs)
theorem aY.inj:∀ {xs ys:List V} {us:List Value},aY xs us->aY ys us->xs=ys
 |_,_,_,.nil,.nil=>rfl
 |_,_,_,.cons r t,.cons r' t'=>by rw[r.inj r',aY.inj t t']
section
variable {X:Cx} {ae:List (Addr×Obj)} {σ:St} {H:Hp} {s:Shared} {a:Addr} {xs ys:List V}
theorem br.of{K:PySem.W.Frag}(h:H a=some (.lst xs)):br K H a xs:=.inl (.inl h)
theorem bp.of{K:PySem.W.Frag}(h:H a=some (.tup xs)):bp K H a xs:=.inl (.inl h)
theorem aI.list(I:aI X ae σ H s)(h:br X.K H a xs):∃its:List Value,aY xs its/\PlainL s.heap a its.toArray/\xs.length<=sizeLine:=by
 rcases h with h|⟨o,its,n,hk,hc,hd,hs,hz,r⟩
 .obtain⟨z,its,n,r,e⟩:=h.ok I.ck;exact⟨its,r,⟨_,n,e,rfl,rfl,rfl⟩,z⟩
 .refine⟨its.toList,r,⟨o,n,I.p8 a o hk,hc,hd,by simpa using hs⟩,?_⟩;have e:=r.length;simp only[eN] at e;lia
theorem aI.tuple(I:aI X ae σ H s)(h:bp X.K H a xs):∃its:List Value,aY xs its/\IsTup s.heap a its.toArray/\xs.length<=sizeLine:=by
 rcases h with h|⟨o,its,n,hk,hc,hs,hz,r⟩
 .obtain⟨z,its,r,p⟩:=h.ok I.ck;exact⟨its,r,p.tup,z⟩
 .refine⟨its.toList,r,⟨o,I.p8 a o hk,hc,n,by simpa using hs⟩,?_⟩;have e:=r.length;simp only[eN] at e;lia
theorem aI.xH(I:aI X ae σ H s)(h:br X.K H a xs)(h':br X.K H a ys):xs=ys:=by
 obtain⟨its,r,⟨o,n,e,_,_,d⟩,_⟩:=I.list h;obtain⟨its',r',⟨o',n',e',_,_,d'⟩,_⟩:=I.list h';rw[e] at e';cases e';rw[d] at d';injection d' with d1 _;have:its=its':=by simpa using congrArg Array.toList d1
 subst this;exact r.inj r'
theorem aI.g_(I:aI X ae σ H s)(h:bp X.K H a xs)(h':bp X.K H a ys):xs=ys:=by
 obtain⟨its,r,⟨o,e,_,n,d⟩,_⟩:=I.tuple h;obtain⟨its',r',⟨o',e',_,n',d'⟩,_⟩:=I.tuple h';rw[e] at e';cases e';rw[d] at d';injection d' with d1 _;have:its=its':=by simpa using congrArg Array.toList d1
 subst this;exact r.inj r'
end
abbrev Cx.wish(X:Cx)(E:Value->Shared->Prop):Cx:={ X with xe:=E }
abbrev Cx.Mm(X:Cx):Cx:=X.wish fun _ _=>False
theorem Cx.Ok.wish{X:Cx}(ok:X.Ok)(E:Value->Shared->Prop):(X.wish E).Ok:=
 ⟨ok.mod,ok.kind,ok.glob,ok.blt,ok.above,ok.inj,ok.has,ok.RF,ok.hd,ok.frames,ok.Jo,ok.VQ,ok.bs,ok.Jp,ok.r0,ok.JK,ok.nQ,ok.JM⟩
theorem Cx.Ok.kJ{X:Cx}{E:Value->Shared->Prop}(ok:(X.wish E).Ok):X.Ok:=
 ⟨ok.mod,ok.kind,ok.glob,ok.blt,ok.above,ok.inj,ok.has,ok.RF,ok.hd,ok.frames,ok.Jo,ok.VQ,ok.bs,ok.Jp,ok.r0,ok.JK,ok.nQ,ok.JM⟩
section
variable {X:Cx} {ae:List (Addr×Obj)} {σ:St} {H:Hp} {s:Shared} {E:Value->Shared->Prop}
theorem aI.wish(I:aI X ae σ H s)(E:Value->Shared->Prop):aI (X.wish E) ae σ H s:=⟨I.ok.wish E,I.os,I.bare,I.base,I.loc,I.cell,I.free,I.lU,I.pin,I.ck,I.len⟩
theorem aI.kJ(I:aI (X.wish E) ae σ H s):aI X ae σ H s:=⟨I.ok.kJ,I.os,I.bare,I.base,I.loc,I.cell,I.free,I.lU,I.pin,I.ck,I.len⟩
theorem SP.kJ(h:SP (X.wish E) ae D f s'):SP X ae D f s':=by
 cases f with
 |next=>obtain⟨σ',H',I,q⟩:=h;exact⟨σ',H',I.kJ,q⟩
 |brk=>obtain⟨σ',H',I,q⟩:=h;exact⟨σ',H',I.kJ,q⟩
 |cont=>obtain⟨σ',H',I,q⟩:=h;exact⟨σ',H',I.kJ,q⟩
 |ret u=>obtain⟨v,σ',H',I,r,q⟩:=h;exact⟨v,σ',H',I.kJ,r,q⟩
theorem y0.Mm{st:List Stmt}{t:TS}(h:y0 X.Mm st t):y0 X st t:=fun ae s σ H D I hw=>
 gy (h ae s σ H D (I.wish _) hw) (fun _ _ q=>q.kJ) fun _ _ z=>False.elim z
end
section
variable {X:Cx} {st:Stmt} {bZ:List Stmt} {t u:TS} {e:Expr} {te:TE} {pos:Pos}
def RO:TS:=fun D σ H=>D.nx σ H
def RP(t u:TS):TS:=fun D σ H=>t { D with nx:=u D } σ H
theorem aL:y0 X [] RO:=fun _ _ σ H _ I h=>vY ⟨σ,H,I,h⟩
theorem ag(h1:PS X st t)(h2:y0 X bZ u):y0 X (st::bZ) (RP t u):=by
 intro ae s σ H D I h;refine wpAny_execs_cons (cz (h1 ae s σ H { D with nx:=u D } I h) fun f s1 q=>?_);cases f with
 |next=>
  obtain⟨σ',H',I',q⟩:=q;exact h2 ae s1 σ' H' D I' q
 |ret v=>exact q
 |brk=>exact q
 |cont=>exact q
theorem aj(h1:PS X st t):y0 X [st] t:=by
 intro ae s σ H D I h;refine wpAny_execs_cons (cz (h1 ae s σ H D I h) fun f s1 q=>?_);cases f with
 |next=>exact vY q
 |ret v=>exact q
 |brk=>exact q
 |cont=>exact q
theorem aI.quiet(I:aI X ae σ H s):interactive X.env=false:=by simp[interactive,I.ok.kind]
def RQ(te:TE):TS:=fun D σ H=>te σ H fun _ H1=>D.nx σ H1
theorem bX(he:PE X e te)(hs:swapsWith e none pos.line X.env=pure false:=by rfl):PS X (.Expr e pos) (RQ te):=by
 intro ae s σ H D I h;exact wpAny_Expr_any (cz (he ae s σ H _ I h) fun v s1 ⟨x,H1,I1,r1,q1⟩=>⟨σ,H1,I1,q1⟩) I.quiet hs
def NE(te:TE):TS:=fun D σ H=>te σ H D.rt
theorem aG(he:PE X e te):PS X (.Return (some e) pos) (NE te):=by
 intro ae s σ H D I h;exact wpAny_Return_some (cz (he ae s σ H _ I h) fun v s1 ⟨x,H1,I1,r1,q1⟩=>⟨x,σ,H1,I1,r1,q1⟩)
def WL(c:TT)(t u:TS):TS:=fun D σ H=>c σ H fun b H1=>if b=true then t D σ H1 else u D σ H1
theorem bE(hc:PT X c tc)(ha:y0 X a t)(hb:y0 X b u):PS X (.If c a b pos) (WL tc t u):=by
 intro ae s σ H D I h;refine wpAny_If (cz (hc ae s σ H _ I h) fun d s1 ⟨H1,I1,q1⟩=>?_);cases d with
 |true=>exact ha ae s1 σ H1 D I1 q1
 |false=>exact hb ae s1 σ H1 D I1 q1
def NF:TS:=fun _ _ _=>False
theorem df:y0 X sts NF:=fun _ _ _ _ _ _ h=>h.elim
end
abbrev TG:=V->St->Hp->(St->Hp->Prop)->Prop
abbrev RS:=List V->St->Hp->(St->Hp->Prop)->Prop
def PG(X:Cx)(NG:Expr)(t:TG):Prop:=
 ∀ (ae:List (Addr×Obj)) (s:Shared) (σ:St) (H:Hp) (v:V) (u:Value) (Q:St->Hp->Prop),aI X ae σ H s->bD v u->t v σ H Q->
  wpAny (model X.prog X.w) X.A (assign NG X.env u) (fun _ s'=>∃σ' H',aI X ae σ' H' s'/\Q σ' H') X.xe s
def VV(X:Cx)(ts:List Expr)(t:RS):Prop:=
 ∀ (ae:List (Addr×Obj)) (s:Shared) (σ:St) (H:Hp) (vs:List V) (us:List Value) (Q:St->Hp->Prop),aI X ae σ H s->aY vs us->t vs σ H Q->
  wpAny (model X.prog X.w) X.A (assignInOrder ((assignEach ts X.env).map (·.2)) us) (fun _ s'=>∃σ' H',aI X ae σ' H' s'/\Q σ' H') X.xe s
abbrev JN:=V->V->V->Hp->(Hp->Prop)->Prop
def NH(X:Cx)(t:JN):Prop:=
 ∀ (ae:List (Addr×Obj)) (s:Shared) (σ:St) (H:Hp) (o i v:V) (ov iv u:Value) (Q:Hp->Prop),aI X ae σ H s->bD o ov->bD i iv->bD v u->t o i v H Q->
  wpAny (model X.prog X.w) X.A (setItem ov iv u) (fun _ s'=>∃H',aI X ae σ H' s'/\Q H') X.xe s
abbrev RT:=V->V->Hp->VK->Prop
def RU(X:Cx)(op:Operator)(t:RT):Prop:=
 ∀ (ae:List (Addr×Obj)) (s:Shared) (σ:St) (H:Hp) (x y:V) (v u:Value) (Q:VK),aI X ae σ H s->bD x v->bD y u->t x y H Q->
  wpAny (model X.prog X.w) X.A (inplaceOp op v u) (EP X ae σ Q) X.xe s
section
variable {X:Cx} {pos:Pos}
def bV(i:Nat):TG:=fun v σ H Q=>Q (σ.set i (some v)) H
theorem au(hN:X.N.Nodup)(hi:X.N[i]?=some x)(hx:RD X.env.scope x)(hf:X.fn x=true\/X.env.scope.names.lookup x=some .local:=by first|exact .inl rfl|exact .inr rfl|assumption):PG X (.Name x pos) (bV i):=by
 intro ae s σ H v u Q I r h;exact z5 (kF I hN hi hx r (fun s' I'=>⟨_,H,I',h⟩) hf)
def wm:RS:=fun vs σ H Q=>vs=[]/\Q σ H
def gn(t:TG)(u:RS):RS:=fun vs σ H Q=>∃v r,vs=v::r/\t v σ H fun σ' H'=>u r σ' H' Q
theorem d7:VV X [] wm:=by
 intro ae s σ H vs us Q I r h;obtain⟨e,h⟩:=h;subst e;cases r;exact assignInOrder_nil ⟨σ,H,I,h⟩
theorem aV(h1:PG X e t)(h2:VV X es u)(hs:(assignEach (e::es) X.env).map (·.2)=assign e X.env::(assignEach es X.env).map (·.2):=by rfl):VV X (e::es) (gn t u):=by
 intro ae s σ H vs us Q I r h;obtain⟨v,vr,e1,h⟩:=h;subst e1;cases r with
 |cons r rr=>
  rw[hs];refine assignInOrder_cons (cz (h1 ae s σ H _ _ _ I r h) fun _ s1 ⟨σ1,H1,I1,q1⟩=>?_);exact h2 ae s1 σ1 H1 _ _ Q I1 rr q1
def wq(K:PySem.W.Frag)(n:Nat)(t:RS):TG:=fun v σ H Q=>∃a xs,v=.ref a/\bp K H a xs/\xs.length=n/\t xs σ H Q
theorem fj(hc:X.calm=true)(h:VV X es t)(hn:(assignEach es X.env).length=n:=by rfl)(iD:(assignEach es X.env).findIdx? (·.1)=none:=by rfl):PG X (.Tuple es k pos) (wq X.K n t):=by
 intro ae s σ H v u Q I r hw;obtain⟨a,xs,e1,hq,hl,hw⟩:=hw;subst e1;cases r;obtain⟨its,rv,ht,hz⟩:=I.tuple hq;refine assign_Tuple_tuple (I.ok.hd hc) ht (by simp[hn,<-hl,rv.length]) iD fun h' hx=>?_;have I1:aI X ae σ H { s with heap:=h' }:=I.kept (t':=s.toks) fun b o e=>hx b o (aX (aO e)) e;exact h ae _ σ H xs _ Q I1 (by simpa using rv) hw
def WM(to ti:TE)(t:JN):TG:=fun v σ H Q=>to σ H fun o H1=>ti σ H1 fun i H2=>t o i v H2 fun H3=>Q σ H3
theorem pi(ho:PE X o to)(hi:PE X i ti)(hs:NH X t)(ha:∀v,assign (.Subscript o i pos) X.env v=(do
   let ov <- holding [v] (eval o X.env)
   let iv <- holding [v,ov] (eval i X.env)
   standAt pos
   holding [v,ov,iv] (setItem ov iv v)
   release [v,ov,iv] []):=by intro _;rfl):PG X (.Subscript o i pos) (WM to ti t):=by
 intro ae s σ H v u Q I r h;rw[ha];refine ak (gm (cz (ho ae s σ H _ I h) fun ov s1 ⟨x,H1,I1,r1,q1⟩=>?_));refine ak (gm (cz (hi ae s1 σ H1 _ I1 q1) fun iv s2 ⟨y,H2,I2,r2,q2⟩=>?_));refine ak (iX (ak (gm (cz (hs ae s2 σ H2 x y v ov iv u _ I2 r1 r2 r q2) fun _ s3 ⟨H3,I3,q3⟩=>?_))));exact wpAny_release ⟨σ,H3,I3,q3⟩
def JO(te:TE)(g:TG):TS:=fun D σ H=>te σ H fun x H1=>g x σ H1 D.nx
theorem i6(he:PE X e te)(hg:PG X tg g)(hs:swapsWithSole [tg] e pos.line X.env=pure false:=by rfl)(hw:swappedStores [tg] e X.env=pure none:=by rfl)(h1:(assignEach [tg] X.env).map (·.2)=[assign tg X.env]:=by rfl):PS X (.Assign [tg] e pos) (JO te g):=by
 intro ae s σ H D I h;refine wpAny_Assign_stores (cz (he ae s σ H _ I h) fun v s1 ⟨x,H1,I1,r1,q1⟩=>?_) hs hw;rw[h1];exact cz (hg ae s1 σ H1 x v _ I1 r1 q1) fun _ s2 q=>q
theorem aN(hN:X.N.Nodup)(hi:X.N[i]?=some x)(hx:RD X.env.scope x)(he:PE X e te)(hs:swapsWith e (some (.Name x Dr)) pos.line X.env=pure false:=by rfl)(hf:X.fn x=true\/X.env.scope.names.lookup x=some .local:=by first|exact .inl rfl|exact .inr rfl|assumption):
  PS X (.Assign [.Name x Dr] e pos) (JO te (bV i)):=by
 intro ae s σ H D I h;refine wpAny_Assign_Name (cz (he ae s σ H _ I h) fun v s1 ⟨y,H1,I1,r1,q1⟩=>?_) hs;exact kF I1 hN hi hx r1 (fun s2 I2=>⟨_,H1,I2,q1⟩) hf
def WN(i j:Nat)(ta:TA):TS:=fun D σ H=>ta σ H fun vs H1=>∃v w,vs=[v,w]/\D.nx ((σ.set i (some v)).set j (some w)) H1
theorem NI{kt k2 QW}(hc:X.calm=true)(hN:X.N.Nodup)(hi:X.N[i]?=some x)(hj:X.N[j]?=some y)(hij:i≠j)(hx:X.env.scope.names.lookup x=some .local)(hy:X.env.scope.names.lookup y=some .local)(ha:PA X [a,b] ta)(hw:swappedStores [.Tuple [.Name x px,.Name y py] kt pt] (.Tuple [a,b] k2 QW) X.env=pure (some [x,y]))(hs:swapsWithSole [.Tuple [.Name x px,.Name y py] kt pt] (.Tuple [a,b] k2 QW) pos.line X.env=pure false:=by rfl):
  PS X (.Assign [.Tuple [.Name x px,.Name y py] kt pt] (.Tuple [a,b] k2 QW) pos) (WN i j ta):=by
 intro ae s σ H D I h;rw[exec_Assign_arm];refine ak (iX ?_);rw[hs];refine ak (wpAny_pure ?_);rw[ap (by decide)];refine ak (Tuple_ (cz (ha _ ae s σ H _ I h) fun us s1 ⟨vs,H1,I1,r1,q1⟩=>?_));obtain⟨v,w,e1,q1⟩:=q1;subst e1;obtain⟨u1,u2,rfl,rv,Ds⟩:∃u1 u2,us=[u1,u2]/\bD v u1/\bD w u2:=by
  cases r1 with
  |cons p q=>
   cases q with
   |cons p' q'=>
    cases q';exact⟨_,_,rfl,p,p'⟩
 refine hZ ?_ (by show 2<=sizeLine;decide);have I2:aI X ae σ H1 { s1 with heap:=s1.heap.push { cls:=.type "tuple",data:=.seq [u1,u2].toArray } }:=I1.kept (t':=s1.toks) fun b o e=>bz _ e;rw[hw];refine ak (wpAny_pure ?_);show wpAny (model X.prog X.w) X.A (do rule "assign.swapped-stores";let items <- unpackItems (.ref s1.heap.objs.size) 2 none;assignInOrder [fun v=>bindName X.env y v,fun v=>bindName X.env x v] items.reverse;pure Flow.next) _ _ _;refine ak (wpAny_rule (ak (unpackItems_tuple (items:=#[u1,u2]) (I.ok.hd hc) (IsTup.new s1.heap _) fun h' jw=>?_)));have I3:=I2.kept (h':=h') (t':=s1.toks) fun b o e=>jw b o (aX (aO e)) e;show wpAny _ _ (assignInOrder [fun v=>bindName X.env y v,fun v=>bindName X.env x v] [u2,u1] >>= fun _=>pure Flow.next) _ _ _;refine ak (assignInOrder_cons (wpAny_bindName (kF I3 hN hj (.inl hy) Ds (fun s2 I4=>?_) (.inr hy))));refine assignInOrder_cons (wpAny_bindName (kF I4 hN hi (.inl hx) rv (fun s3 I5=>assignInOrder_nil (wpAny_pure ?_)) (.inr hx)));rw[List.set_comm _ _ (cj hij)] at I5;exact⟨_,H1,I5,q1⟩
def WO(i:Nat)(te:TE)(ti:RT):TS:=fun D σ H=>∃x,σ[i]?=some (some x)/\te σ H fun y H1=>ti x y H1 fun z H2=>D.nx (σ.set i (some z)) H2
theorem pj(hN:X.N.Nodup)(hi:X.N[i]?=some x)(hx:RD X.env.scope x)(he:PE X e te)(ho:RU X op ti)(hf:X.fn x=true\/X.env.scope.names.lookup x=some .local:=by first|exact .inl rfl|exact .inr rfl|assumption):
  PS X (.AugAssign (.Name x Dr) op e pos) (WO i te ti):=by
 intro ae s σ H D I h;obtain⟨v,e1,h⟩:=h;obtain⟨m,hn,hl⟩:=I.loc;have WP:RC X.env.scope x:=by rcases hx with k|k;exact .inl k;exact .inr (.inl k)
 obtain⟨u,r,l⟩:=hl i x v hi e1 WP;refine wpAny_AugAssign_Name ?_;have go:wpAny (model X.prog X.w) X.A (eval e X.env) (fun w s₂=>wpAny (model X.prog X.w) X.A (inplaceOp op u w) (fun r s₃=>wpAny (model X.prog X.w) X.A (storeName X.env x r) (fun _=>SP X ae D .next) X.xe s₃) X.xe s₂) X.xe s:=by
  refine cz (he ae s σ H _ I h) fun w s1 ⟨y,H1,I1,r1,q1⟩=>?_;refine cz (ho ae s1 σ H1 v y u w _ I1 r r1 q1) fun z s2 ⟨zv,H2,I2,r2,q2⟩=>?_;exact kF I2 hN hi hx r2 (fun s3 I3=>⟨_,H2,I3,q2⟩) hf
 rcases l with ⟨hk,hm⟩|⟨hk,c,hc,BR⟩
 .exact zM I.ok.kind hk hn hm go
 .rcases hk with hk|hk
  .exact wpAny_loadName_cell I.ok.kind hk hc BR go
  .rcases hx with k|k
   .have:X.env.scope.names.lookup x=some .free:=hk;rw[k] at this;cases this
   .have:X.env.scope.names.lookup x=some .free:=hk;rw[k] at this;cases this
def RV(to ti te:TE)(JP:V->V->Hp->VK->Prop)(VW:RT)(JQ:JN):TS:=fun D σ H=>to σ H fun o H1=>ti σ H1 fun i H2=>JP o i H2 fun x H3=>te σ H3 fun y H4=>VW x y H4 fun z H5=>JQ o i z H5 fun H6=>D.nx σ H6
def RX(X:Cx)(t:V->V->Hp->VK->Prop):Prop:=
 ∀ (ae:List (Addr×Obj)) (s:Shared) (σ:St) (H:Hp) (o i:V) (ov iv:Value) (Q:VK),aI X ae σ H s->bD o ov->bD i iv->t o i H Q->
  wpAny (model X.prog X.w) X.A (getItem ov iv) (EP X ae σ Q) X.xe s
theorem JR{o i e:Expr}{to ti te:TE}{JP:V->V->Hp->VK->Prop}{VW:RT}{JQ:JN}{op:Operator}{Dt:Pos}(ho:PE X o to)(hi:PE X i ti)(hg:RX X JP)(he:PE X e te)(hp:RU X op VW)(hs:NH X JQ)(ha:∀ov iv new,augStore i ov iv new=(do holding [new,ov,iv] (setItem ov iv new);release [new,ov,iv] [];pure .next):=by intros;rfl):PS X (.AugAssign (.Subscript o i Dt) op e pos) (RV to ti te JP VW JQ):=by
 intro ae s σ H D I h;refine wpAny_AugAssign_SubscriptAny (cz (ho ae s σ H _ I h) fun ov s1 ⟨x1,H1,I1,r1,q1⟩=>?_) ha;refine cz (hi ae s1 σ H1 _ I1 q1) fun iv s2 ⟨x2,H2,I2,r2,q2⟩=>?_;refine cz (hg ae s2 σ H2 x1 x2 ov iv _ I2 r1 r2 q2) fun mJ s3 ⟨x3,H3,I3,r3,q3⟩=>?_;refine cz (he ae s3 σ H3 _ I3 q3) fun v s4 ⟨x4,H4,I4,r4,q4⟩=>?_;refine cz (hp ae s4 σ H4 x3 x4 mJ v _ I4 r3 r4 q4) fun new s5 ⟨x5,H5,I5,r5,q5⟩=>?_;exact cz (hs ae s5 σ H5 x1 x2 x5 ov iv new _ I5 r1 r2 r5 q5) fun _ s6 ⟨H6,I6,q6⟩=>⟨σ,H6,I6,q6⟩
def ipI(f:Int->Int->Int):RT:=fun x y H Q=>∃i j,x=.int i/\y=.int j/\Q (.int (f i j)) H
theorem Ag:RU X .Add (ipI fun i j=>i+j):=by
 intro ae s σ H x y v u Q I r1 r2 h;obtain⟨i,j,e1,e2,q⟩:=h;subst e1;subst e2;obtain⟨t,rfl⟩:=r1;obtain⟨t',rfl⟩:=r2;exact iadd_int ⟨.int _,H,I.tok _,⟨_,rfl⟩,q⟩
def Fv(c:TT)(tb:TS):TS:=fun D σ H=>∃W:Nat->St->Hp->Prop,(∃m,W m σ H)/\∀m σ H,W m σ H->
 c σ H fun b H1=>if b=true then ∃N:St->Hp->Prop,(∀σ' H',N σ' H'->∃m',m'<m/\W m' σ' H')/\tb { D with nx:=N,ct:=N,bk:=D.nx } σ H1 else D.nx σ H1
theorem xI(hp:PassesOwn (model X.prog X.w) X.A X.env X.xe)(hc:PT X c tc)(hb:y0 X body tb):PS X (.While c body [] pos) (Fv tc tb):=by
 intro ae s σ H D I h;obtain⟨W,⟨m0,w0⟩,Ah⟩:=h;refine wpAny_While (codeAny_whileLoop (fun n s'=>∃σ' H',aI X ae σ' H' s'/\W n σ' H') ?_ m0 ⟨σ,H,I,w0⟩);rintro n s1 ⟨σ1,H1,I1,w1⟩;refine mx hp (cz (hc ae s1 σ1 H1 _ I1 (Ah n σ1 H1 w1)) fun b s2 ⟨H2,I2,q2⟩=>?_);cases b with
 |true=>
  obtain⟨N,hN,q2⟩:=q2;rw[ai rfl];refine mx hp (cz (hb ae s2 σ1 H2 _ I2 q2) fun f s3 q3=>?_);cases f with
  |next=>
   obtain⟨σ3,H3,I3,n3⟩:=q3;obtain⟨m',hm,w3⟩:=hN σ3 H3 n3;exact⟨m',hm,σ3,H3,I3,w3⟩
  |cont=>
   obtain⟨σ3,H3,I3,n3⟩:=q3;obtain⟨m',hm,w3⟩:=hN σ3 H3 n3;exact⟨m',hm,σ3,H3,I3,w3⟩
  |brk=>exact q3
  |ret v=>exact q3
 |false=>
  rw[ap bq];exact vY ⟨σ1,H2,I2,q2⟩
end
structure It where
 go:Nat->Hp->Prop
 Jr:Nat->Hp->V->Hp->Prop
 stop:Nat->Hp->Prop
 VX:Around->Hp->Prop
def gs(X:Cx)(ae:List (Addr×Obj))(H:Hp)(b:Addr):Prop:=
 H b=none/\b≠X.env.locals/\b∉X.fs/\(b∈X.ex\/X.s₀.heap.objs.size<=b)/\(∀x c,X.env.cells.lookup x=some c->c≠b)/\∀p∈X.pn++ae,p.1≠b
theorem aI.wr(I:aI X ae σ H s)(hb:s.heap.objs.size<=b)(hn:H' b=none):gs X ae H' b:=by
 refine⟨hn,gw (bK I.lt hb),I.WC hb,.inr (bj I.sz hb),fun x c e z=>?_,fun p hp z=>?_⟩
 .obtain⟨v,q⟩:=I.cell x c e;exact absurd (bK q.lt (by rw[z];exact hb)) (ii _)
 .exact absurd (bK (aO (I.pin p hp).1) (by rw[z];exact hb)) (ii _)
structure qm(P:Program)(w:World)(K:PySem.W.Frag)(tg:Expr)(J:It)(fp:List Addr)(it:Addr)(tn:Nat->Heap->Prop):Prop where
 mem:it∈fp
 obj:∀i h,tn i h->∀b∈fp,∃o,h.get? b=some o/\∀v,o.data≠.cell v
 keep:∀i h h',tn i h->(∀b∈fp,∀o,h.get? b=some o->h'.get? b=some o)->tn i h'
 item:∀ (X:Cx),X.prog=P->X.w=w->X.K=K->∀ (i:Nat) (ae:List (Addr×Obj)) (s:Shared) (σ:St) (H:Hp) (E:Value->Shared->Prop),(X.calm=true\/J.VX X.A H)->aI X ae σ H s->(∀b∈fp,gs X ae H b)->tn i s.heap->J.go i H->
  wpAny (model P w) X.A (pyNext (.ref it)) (fun r s1=>∃u,r=some u/\
   wpAny (model P w) X.A (letOwnedTupleGo tg (.ref it) u) (fun _ s2=>∃x H',aI X ae σ H' s2/\bD x u/\J.Jr i H x H'/\tn (i+1) s2.heap/\∀b∈fp,H' b=none) E s1) E s
 done:∀ (X:Cx),X.prog=P->X.w=w->X.K=K->∀ (i:Nat) (ae:List (Addr×Obj)) (s:Shared) (σ:St) (H:Hp) (E:Value->Shared->Prop),(X.calm=true\/J.VX X.A H)->aI X ae σ H s->(∀b∈fp,gs X ae H b)->tn i s.heap->J.stop i H->
  wpAny (model P w) X.A (pyNext (.ref it)) (fun r s1=>r=none/\aI X ae σ H s1) E s
 self:∀ (A:Around) (i:Nat) (s:Shared) (Q:Value->Shared->Prop) (E:Value->Shared->Prop),tn i s.heap->Q (.ref it) s->wpAny (model P w) A (pyIter (.ref it)) Q E s
abbrev TI:=St->Hp->(It->Hp->Prop)->Prop
def WQ(X:Cx)(ae:List (Addr×Obj))(σ:St)(tg:Expr)(R:It->Hp->Prop)(QX:Value)(s2:Shared):Prop:=
 ∃ (it:Addr) (fp:List Addr) (tn:Nat->Heap->Prop) (J:It) (H':Hp),QX=.ref it/\aI X ae σ H' s2/\qm X.prog X.w X.K tg J fp it tn/\tn 0 s2.heap/\(∀b∈fp,gs X ae H' b)/\R J H'
def PI(X:Cx)(tg iter:Expr)(wi:TI):Prop:=
 ∀ (ae:List (Addr×Obj)) (s:Shared) (σ:St) (H:Hp) (R:It->Hp->Prop),aI X ae σ H s->wi σ H R->
  wpAny (model X.prog X.w) X.A (eval iter X.env) (fun v s1=>wpAny (model X.prog X.w) X.A (pyIter v) (WQ X ae σ tg R) X.xe s1) X.xe s
theorem xJ(ho:s.heap.get? it=some o)(hc:o.cls=.type n)(hd:o.data=.fields vs)(hn:["enumerate","zip","dict_itemiterator","dict_reverseitemiterator","odict_iterator","itertools.zip_longest","itertools.pairwise"].contains n=false)(hQ:Q () s):wpAny M A (letOwnedTupleGo tg (.ref it) u) Q E s:=by
 unfold letOwnedTupleGo;cases tg <;> first
  |exact wpAny_pure hQ
  |(cases u <;> first
    |exact wpAny_pure hQ
    |(refine ak (wpAny_load ho ?_);rw[hc,hd];show wpAny M A (if (["enumerate","zip","dict_itemiterator","dict_reverseitemiterator","odict_iterator","itertools.zip_longest","itertools.pairwise"].contains n&&vs[0]?==some (rawInt _))=true then _ else _) Q E s;rw[ap (by intro h;rw[hn,Bool.false_and] at h;cases h)];exact wpAny_pure hQ))
def Fw(K:PySem.W.Frag)(a:Addr):It:=
 ⟨fun i H=>∃xs x,br K H a xs/\xs[i]?=some x,fun i H x H'=>H'=H/\∀xs,br K H a xs->xs[i]?=some x,fun i H=>∃xs,br K H a xs/\xs.length<=i,fun _ _=>False⟩
def QY(K:PySem.W.Frag)(a:Addr):It:=
 ⟨fun i H=>∃xs x,bp K H a xs/\xs[i]?=some x,fun i H x H'=>H'=H/\∀xs,bp K H a xs->xs[i]?=some x,fun i H=>∃xs,bp K H a xs/\xs.length<=i,fun _ _=>False⟩
def JS(lo:Int)(n:Nat):It:=⟨fun i _=>i<n,fun i H x H'=>H'=H/\x=.int (lo+i),fun i _=>n<=i,fun A H=>A.handled=none\/∃p φ,A.handled=some (.ref p)/\H p=some (.ext φ)/\∀h,φ h->BK p h⟩
theorem Du{P:Program}{w:World}{K:PySem.W.Frag}{tg:Expr}(a it:Addr):qm P w K tg (Fw K a) [it] it (fun i h=>h.IsListIter it a i) where
 mem:=by simp
 obj:=fun i h st b hb=>by
  have e:b=it:=by simpa using hb
  subst e;obtain⟨o,e,c,d⟩:=st;exact⟨o,e,fun v z=>by rw[d] at z;cases z⟩
 keep:=fun i h h' st k=>st.at fun o e=>k it (by simp) o e
 item:=by
  intro X hP hw hK i ae s σ H E ux I hf st hg;subst hP hw hK;have hc:X.calm=true:=ux.elim id fun z=>(show False from z).elim;obtain⟨xs,x,hq,hx⟩:=hg;obtain⟨its,rv,p,hz⟩:=I.list hq;obtain⟨u,hu,ru⟩:=rv.get hx;obtain⟨f0,f1,f2,f3,f4,f5⟩:=hf it (by simp);refine zy st p.isList (x:=u) (by simpa using hu) fun h' bg sb=>?_;have I1:aI X ae σ H { s with heap:=h' }:=I.turned (t':=s.toks) (fun b o hb e=>(sb.2 b hb).trans e) f0 f1 f3 f4 f5;obtain⟨o,e,c,d⟩:=id bg;exact⟨u,rfl,xJ (s:={ s with heap:=h' }) e c d (by decide) ⟨x,H,I1,ru,⟨rfl,fun ys hy=>by rw[I.xH hy hq];exact hx⟩,bg,fun b hb=>(hf b hb).1⟩⟩
 done:=by
  intro X hP hw hK i ae s σ H E ux I hf st hg;subst hP hw hK;have hc:X.calm=true:=ux.elim id fun z=>(show False from z).elim;obtain⟨xs,hq,hx⟩:=hg;obtain⟨its,rv,p,hz⟩:=I.list hq;obtain⟨f0,f1,f2,f3,f4,f5⟩:=hf it (by simp);have hl:=rv.length;exact zE (I.ok.hd hc) st p.isList (by simp;lia) fun h' eb=>⟨rfl,I.turned (t':=s.toks) (fun b o hb e=>eb b o hb e) f0 f1 f3 f4 f5⟩
 self:=fun _ _ _ _ _ st h=>wpAny_pyIter_listiter st h
theorem Ai{P:Program}{w:World}{K:PySem.W.Frag}{tg:Expr}(a it:Addr):qm P w K tg (QY K a) [it] it (fun i h=>h.IsTupleIter it a i) where
 mem:=by simp
 obj:=fun i h st b hb=>by
  have e:b=it:=by simpa using hb
  subst e;obtain⟨o,e,c,d⟩:=st;exact⟨o,e,fun v z=>by rw[d] at z;cases z⟩
 keep:=fun i h h' st k=>st.at fun o e=>k it (by simp) o e
 item:=by
  intro X hP hw hK i ae s σ H E ux I hf st hg;subst hP hw hK;have hc:X.calm=true:=ux.elim id fun z=>(show False from z).elim;obtain⟨xs,x,hq,hx⟩:=hg;obtain⟨its,rv,p,hz⟩:=I.tuple hq;obtain⟨u,hu,ru⟩:=rv.get hx;obtain⟨f0,f1,f2,f3,f4,f5⟩:=hf it (by simp);refine wpAny_pyNext_tuple_item st (show s.heap.IsTuple a its.toArray from p) (x:=u) (by simpa using hu) fun h' bg sb=>?_;have I1:aI X ae σ H { s with heap:=h' }:=I.turned (t':=s.toks) (fun b o hb e=>(sb.2 b hb).trans e) f0 f1 f3 f4 f5;obtain⟨o,e,c,d⟩:=id bg;exact⟨u,rfl,xJ (s:={ s with heap:=h' }) e c d (by decide) ⟨x,H,I1,ru,⟨rfl,fun ys hy=>by rw[I.g_ hy hq];exact hx⟩,bg,fun b hb=>(hf b hb).1⟩⟩
 done:=by
  intro X hP hw hK i ae s σ H E ux I hf st hg;subst hP hw hK;have hc:X.calm=true:=ux.elim id fun z=>(show False from z).elim;obtain⟨xs,hq,hx⟩:=hg;obtain⟨its,rv,p,hz⟩:=I.tuple hq;obtain⟨f0,f1,f2,f3,f4,f5⟩:=hf it (by simp);have hl:=rv.length;exact wpAny_pyNext_tuple_end (I.ok.hd hc) st (show s.heap.IsTuple a its.toArray from p) (by simp;lia) fun h' eb=>⟨rfl,I.turned (t':=s.toks) (fun b o hb e=>eb b o hb e) f0 f1 f3 f4 f5⟩
 self:=fun _ _ _ _ _ st h=>wpAny_pyIter_tupleiter st h
theorem Aj{P:Program}{w:World}{K:PySem.W.Frag}{tg:Expr}(it:Addr)(lo:Int)(n:Nat):qm P w K tg (JS lo n) [it] it (fun i h=>IsRangeIter h it (lo+(i:Nat)*1) ((n:Int)-(i:Nat)) 1) where
 mem:=by simp
 obj:=fun i h st b hb=>by
  have e:b=it:=by simpa using hb
  subst e;exact⟨_,st,fun v z=>by
   have z':Data.fields _=Data.cell v:=z;cases z'⟩
 keep:=fun i h h' st k=>k it (by simp) _ st
 item:=by
  intro X hP hw hK i ae s σ H E hc I hf st hg;subst hP hw hK;obtain⟨f0,f1,f2,f3,f4,f5⟩:=hf it (by simp);refine wpAny_pyNext_range_item st (by have:i<n:=hg;lia) fun h' bg sb=>?_;have I1:aI X ae σ H { s with heap:=h',toks:=s.toks+1 }:=I.turned (fun b o hb e=>(sb.2 b hb).trans e) f0 f1 f3 f4 f5;have oC:IsRangeIter h' it (lo+((i+1:Nat):Int)*1) ((n:Int)-((i+1:Nat):Int)) 1:=by
   rw[show lo+((i+1:Nat):Int)*1=lo+(i:Int)*1+1 by lia,show (n:Int)-((i+1:Nat):Int)=(n:Int)-(i:Int)-1 by lia];exact bg
  exact⟨_,rfl,xJ (s:={ s with heap:=h',toks:=s.toks+1 }) (n:="range_iterator") oC rfl rfl (by decide) ⟨.int (lo+i),H,I1,⟨s.toks,by rw[Int.mul_one]⟩,⟨rfl,rfl⟩,oC,fun b hb=>(hf b hb).1⟩⟩
 done:=by
  intro X hP hw hK i ae s σ H E hc I hf st hg;subst hP hw hK;obtain⟨f0,f1,f2,f3,f4,f5⟩:=hf it (by simp);have he:X.A.handled=none\/∃p φ,X.A.handled=some (.ref p)/\H p=some (.ext φ)/\∀h,φ h->BK p h:=hc.elim (fun z=>.inl (I.ok.hd z)) id;rcases he with hn|⟨p,φ,hp,hH,hφ⟩
  .exact wpAny_pyNext_range_end hn st (by have:n<=i:=hg;lia) fun h' eb=>⟨rfl,I.turned (t':=s.toks) (fun b o hb e=>eb b o hb e) f0 f1 f3 f4 f5⟩
  .exact Ae hp (hφ _ (I.ck p _ hH).1) st (by have:n<=i:=hg;lia) fun h' eb=>⟨rfl,I.kept (t':=s.toks) eb⟩
 self:=fun _ _ _ _ _ st h=>zA st h
section
variable {X:Cx} {tg:Expr}
def RY(K:PySem.W.Frag)(tl:TE):TI:=fun σ H R=>tl σ H fun x H1=>∃a,x=.ref a/\(∃xs,br K H1 a xs)/\R (Fw K a) H1
def WR(K:PySem.W.Frag)(tl:TE):TI:=fun σ H R=>tl σ H fun x H1=>∃a,x=.ref a/\(∃xs,bp K H1 a xs)/\R (QY K a) H1
theorem cS{l:Expr}{tl:TE}(hl:PE X l tl):PI X tg l (RY X.K tl):=by
 intro ae s σ H R I h;refine cz (hl ae s σ H _ I h) fun v s1 ⟨x,H1,I1,r1,q1⟩=>?_;obtain⟨a,e,⟨xs,hq⟩,q⟩:=q1;subst e;cases r1;obtain⟨its,rv,p,hz⟩:=I1.list hq;refine rK p.isList ?_;refine⟨s1.heap.objs.size,[s1.heap.objs.size],_,_,H1,rfl,I1.kept (t':=s1.toks) fun b o e=>bz _ e,Du a _,⟨_,b_ _ rfl,rfl,rfl⟩,fun b hb=>?_,q⟩;have e:b=s1.heap.objs.size:=by simpa using hb
 subst e;exact I1.wr (aW _) (I1.ck.fresh (aW _))
theorem mU{l:Expr}{tl:TE}(hl:PE X l tl):PI X tg l (WR X.K tl):=by
 intro ae s σ H R I h;refine cz (hl ae s σ H _ I h) fun v s1 ⟨x,H1,I1,r1,q1⟩=>?_;obtain⟨a,e,⟨xs,hq⟩,q⟩:=q1;subst e;cases r1;obtain⟨its,rv,p,hz⟩:=I1.tuple hq;refine vP (show s1.heap.IsTuple a its.toArray from p) ?_;refine⟨s1.heap.objs.size,[s1.heap.objs.size],_,_,H1,rfl,I1.kept (t':=s1.toks) fun b o e=>bz _ e,Ai a _,⟨_,b_ _ rfl,rfl,rfl⟩,fun b hb=>?_,q⟩;have e:b=s1.heap.objs.size:=by simpa using hb
 subst e;exact I1.wr (aW _) (I1.ck.fresh (aW _))
theorem Fx{ae:List (Addr×Obj)}{σ:St}{H:Hp}{s:Shared}{R:It->Hp->Prop}{E:Value->Shared->Prop}{lo hi:Int}{t u v:Tok}{tk:Nat}(I:aI X ae σ H s)(h1:-(2 ^ 62)<=lo)(h2:lo<2 ^ 62)(h3:-(2 ^ 62)<=hi)(h4:hi<2 ^ 62)(q:R (JS lo (hi-lo).toNat) H):wpAny (model X.prog X.w) X.A (pyIter (.ref s.heap.objs.size)) (WQ X ae σ tg R) E { s with heap:=s.heap.push { cls:=.type "range",data:=.fields #[.int lo t,.int hi u,.int 1 v] },toks:=tk }:=by
 refine wpAny_pyIter_range (IsRange.new ..) (small_one h1 h2 h3 h4) ?_;have I1:aI X ae σ H { s with heap:=s.heap.push { cls:=.type "range",data:=.fields #[.int lo t,.int hi u,.int 1 v] },toks:=tk }:=I.kept fun b o e=>bz _ e;refine⟨(s.heap.push { cls:=.type "range",data:=.fields #[.int lo t,.int hi u,.int 1 v] }).objs.size,[(s.heap.push { cls:=.type "range",data:=.fields #[.int lo t,.int hi u,.int 1 v] }).objs.size],_,_,H,rfl,
  I1.kept (t':=tk) fun b o e=>bz _ e,Aj _ lo (hi-lo).toNat,?_,fun b hb=>?_,q⟩
 .have e1:lo+((0:Nat):Int)*1=lo:=by simp
  have e2:(((hi-lo).toNat:Nat):Int)-((0:Nat):Int)=Builtin.Range.rangeSize lo hi 1:=by rw[rangeSize_one];split <;> lia
  show IsRangeIter _ _ (lo+((0:Nat):Int)*1) ((((hi-lo).toNat:Nat):Int)-((0:Nat):Int)) 1;rw[e1,e2];exact b_ _ rfl
 .have e:b=(s.heap.push { cls:=.type "range",data:=.fields #[.int lo t,.int hi u,.int 1 v] }).objs.size:=by simpa using hb
  subst e;exact I1.wr (aW _) (I1.ck.fresh (aW _))
def RZ(ta:TA):TI:=fun σ H R=>ta σ H fun vs H1=>∃j:Int,vs=[.int j]/\-(2 ^ 62)<=j/\j<2 ^ 62/\R (JS 0 j.toNat) H1
theorem bu{a:Expr}{ta:TA}{p pos:Pos}(hg:Gl X "range")(hm:X.mg "range"=none)(ha:PA X [a] ta)(hs:starEach [a] X.env=[(false,eval a X.env)]:=by rfl):PI X tg (.Call (.Name "range" p) [a] [] pos) (RZ ta):=by
 intro ae s σ H R I h;refine Call_ (kH I hg hm boot_range (rf (cz (ha pos ae s σ H _ I h) fun us s1 ⟨vs,H1,I1,r1,q1⟩=>?_) hs rfl));obtain⟨j,e,q1,q2,q⟩:=q1;subst e;cases r1 with
 |cons r rr=>
  cases rr;obtain⟨t,rfl⟩:=r;exact call_range_1 (Fx I1 (by lia) (by lia) q1 q2 (by simpa using q))
def WS(wi:TI)(g:TG)(tb:TS):TS:=fun D σ H=>wi σ H fun J H1=>∃W:Nat->Nat->St->Hp->Prop,(∃m,W 0 m σ H1)/\∀i m σ H,W i m σ H->
 (J.stop i H/\D.nx σ H)\/(J.go i H/\∃N:St->Hp->Prop,(∀σ' H',N σ' H'->∃m',m'<m/\W (i+1) m' σ' H')/\∀x H',J.Jr i H x H'->g x σ H' fun σ2 H2=>tb { D with nx:=N,ct:=N,bk:=D.nx } σ2 H2)
def pq(fp:List Addr)(h:Heap):List (Addr×Obj):=fp.filterMap fun b=>(h.get? b).map fun o=>(b,o)
theorem fN(hb:b∈fp)(e:h.get? b=some o):(b,o)∈pq fp h:=mi.mpr ⟨b,hb,by rw[e];rfl⟩
theorem Dv(hp:p∈pq fp h):p.1∈fp/\h.get? p.1=some p.2:=by
 obtain⟨b,hb,e⟩:=mi.mp hp;cases q:h.get? b with
 |none=>rw[q] at e;cases e
 |some o=>
  rw[q] at e;have e':(b,o)=p:=a8 e;subst e';exact⟨hb,q⟩
theorem aI.pinned(I:aI X ae σ H s)(hf:∀b∈fp,gs X ae H b)(ho:∀b∈fp,∃o,s.heap.get? b=some o/\∀v,o.data≠.cell v):aI X (ae++pq fp s.heap) σ H s:=
 I.BM fun p hp=>(dP.mp hp).elim (fun z=>I.pin p (hX _ z)) fun z=>by
  obtain⟨hb,e⟩:=Dv z;obtain⟨f0,f1,f2,_⟩:=hf p.1 hb;obtain⟨o,e',d⟩:=ho p.1 hb;rw[e] at e';cases e';exact⟨e,f0,f1,f2,d⟩
theorem aI.kK(I:aI X (ae++pl) σ H s):aI X ae σ H s:=I.BM fun p hp=>I.pin p (hX _ (kd _ hp))
theorem cI(hp:PassesOwn (model X.prog X.w) X.A X.env X.xe)(hc:X.calm=true)(hi:PI X tg iter wi)(hg:PG X tg g)(hb:y0 X body tb)(hs:∀x,foldedSetIterable iter X.env x=pure x:=by intro _;rfl):PS X (.For tg iter body [] pos) (WS wi g tb):=by
 intro ae s σ H D I h;refine wpAny_For (cz (hi ae s σ H _ I h) fun v s1 h1=>cz h1 fun QX s2 h2=>?_) hs;obtain⟨it,fp,tn,J,H2,e,I2,T,oC,f2,W,⟨m0,w0⟩,Ah⟩:=h2;subst e;have sf:∀ {H':Hp},(∀b∈fp,H' b=none)->∀b∈fp,gs X ae H' b:=fun hn b hb=>⟨hn b hb,(f2 b hb).2⟩
 refine codeAny_forLoop_any (fun n s'=>∃i σ' H',aI X ae σ' H' s'/\tn i s'.heap/\(∀b∈fp,H' b=none)/\W i n σ' H') ?_ m0 ⟨0,σ,H2,I2,oC,fun b hb=>(f2 b hb).1,w0⟩;rintro n s3 ⟨i,σ3,H3,I3,xA,Js,w3⟩;rcases Ah i n σ3 H3 w3 with ⟨stop,qn⟩|⟨go,N,hN,step⟩
 .refine mx hp (cz (T.done X rfl rfl rfl i ae s3 σ3 H3 X.xe (.inl hc) I3 (sf Js) xA stop) fun r s4 ⟨hr,I4⟩=>?_);subst hr;exact vY ⟨σ3,H3,I4,qn⟩
 .refine mx hp (cz (T.item X rfl rfl rfl i ae s3 σ3 H3 X.xe (.inl hc) I3 (sf Js) xA go) fun r s4 ⟨u,hr,h4⟩=>?_);subst hr;refine mx hp (cz h4 fun _ s5 ⟨x,H5,I5,r5,y5,uo,R0⟩=>?_);have R1:=I5.pinned (sf R0) (T.obj _ _ uo);refine mx hp (cz (hg _ s5 σ3 H5 x u _ R1 r5 (step x H5 y5)) fun _ s6 ⟨σ6,H6,I6,q6⟩=>?_);refine mx hp (cz (hb _ s6 σ6 H6 _ I6 q6) fun f s7 q7=>?_);have again:∀ {σ7:St} {H7:Hp},aI X (ae++pq fp s5.heap) σ7 H7 s7->N σ7 H7->∃m,m<n/\∃i σ' H',aI X ae σ' H' s7/\tn i s7.heap/\(∀b∈fp,H' b=none)/\W i m σ' H':=fun {σ7 H7} I7 n7=>by
   obtain⟨m',hm,w7⟩:=hN σ7 H7 n7;refine⟨m',hm,i+1,σ7,H7,I7.kK,T.keep _ _ _ uo fun b hb o e=>(I7.pin (b,o) (hX _ (hX _ (fN hb e)))).1,fun b hb=>?_,w7⟩;obtain⟨o,e,d⟩:=T.obj _ _ uo b hb;exact(I7.pin (b,o) (hX _ (hX _ (fN hb e)))).2.1
  cases f with
  |next=>obtain⟨σ7,H7,I7,n7⟩:=q7;exact again I7 n7
  |cont=>obtain⟨σ7,H7,I7,n7⟩:=q7;exact again I7 n7
  |brk=>obtain⟨σ7,H7,I7,q7⟩:=q7;exact⟨σ7,H7,I7.kK,q7⟩
  |ret v=>obtain⟨x7,σ7,H7,I7,r7,q7⟩:=q7;exact⟨x7,σ7,H7,I7.kK,r7,q7⟩
end
theorem jf{K:PySem.W.Frag}{a:Addr}{xs:List V}{g:TG}{tb:TS}{D:wg}{σ:St}{H:Hp}(Pv:Nat->St->Hp->Prop)(h0:Pv 0 σ H)(hl:∀i σ H,i<=xs.length->Pv i σ H->br K H a xs)(hs:∀i x σ H,xs[i]?=some x->Pv i σ H->g x σ H fun σ2 H2=>tb { D with nx:=Pv (i+1),ct:=Pv (i+1),bk:=D.nx } σ2 H2)(hd:∀σ H,Pv xs.length σ H->D.nx σ H):
  ∃W:Nat->Nat->St->Hp->Prop,(∃m,W 0 m σ H)/\∀i m σ H,W i m σ H->
   ((Fw K a).stop i H/\D.nx σ H)\/((Fw K a).go i H/\∃N:St->Hp->Prop,(∀σ' H',N σ' H'->∃m',m'<m/\W (i+1) m' σ' H')/\∀x H',(Fw K a).Jr i H x H'->g x σ H' fun σ2 H2=>tb { D with nx:=N,ct:=N,bk:=D.nx } σ2 H2):=by
 refine⟨fun i m σ H=>m=xs.length-i/\i<=xs.length/\Pv i σ H,⟨xs.length,by simp,cF _,h0⟩,?_⟩;rintro i m σ H ⟨rfl,hi,p⟩;have q:=hl i σ H hi p;by_cases dt:i<xs.length
 .refine .inr ⟨⟨xs,xs[i],q,by simp[dt]⟩,Pv (i+1),fun σ' H' p'=>⟨xs.length-(i+1),by lia,rfl,dt,p'⟩,fun x H' y=>?_⟩;obtain⟨e,y⟩:=y;subst e;exact hs i x σ _ (y xs q) p
 .have e:i=xs.length:=by lia
  subst e;exact .inl ⟨⟨xs,q,aW _⟩,hd σ H p⟩
theorem lA{K:PySem.W.Frag}{a:Addr}{xs:List V}{g:TG}{tb:TS}{D:wg}{σ:St}{H:Hp}(Pv:Nat->St->Hp->Prop)(h0:Pv 0 σ H)(hl:∀i σ H,i<=xs.length->Pv i σ H->bp K H a xs)(hs:∀i x σ H,xs[i]?=some x->Pv i σ H->g x σ H fun σ2 H2=>tb { D with nx:=Pv (i+1),ct:=Pv (i+1),bk:=D.nx } σ2 H2)(hd:∀σ H,Pv xs.length σ H->D.nx σ H):
  ∃W:Nat->Nat->St->Hp->Prop,(∃m,W 0 m σ H)/\∀i m σ H,W i m σ H->
   ((QY K a).stop i H/\D.nx σ H)\/((QY K a).go i H/\∃N:St->Hp->Prop,(∀σ' H',N σ' H'->∃m',m'<m/\W (i+1) m' σ' H')/\∀x H',(QY K a).Jr i H x H'->g x σ H' fun σ2 H2=>tb { D with nx:=N,ct:=N,bk:=D.nx } σ2 H2):=by
 refine⟨fun i m σ H=>m=xs.length-i/\i<=xs.length/\Pv i σ H,⟨xs.length,by simp,cF _,h0⟩,?_⟩;rintro i m σ H ⟨rfl,hi,p⟩;have q:=hl i σ H hi p;by_cases dt:i<xs.length
 .refine .inr ⟨⟨xs,xs[i],q,by simp[dt]⟩,Pv (i+1),fun σ' H' p'=>⟨xs.length-(i+1),by lia,rfl,dt,p'⟩,fun x H' y=>?_⟩;obtain⟨e,y⟩:=y;subst e;exact hs i x σ _ (y xs q) p
 .have e:i=xs.length:=by lia
  subst e;exact .inl ⟨⟨xs,q,aW _⟩,hd σ H p⟩
theorem dg{lo:Int}{n:Nat}{g:TG}{tb:TS}{D:wg}{σ:St}{H:Hp}(Pv:Nat->St->Hp->Prop)(h0:Pv 0 σ H)(hs:∀i σ H,i<n->Pv i σ H->g (.int (lo+i)) σ H fun σ2 H2=>tb { D with nx:=Pv (i+1),ct:=Pv (i+1),bk:=D.nx } σ2 H2)(hd:∀σ H,Pv n σ H->D.nx σ H):
  ∃W:Nat->Nat->St->Hp->Prop,(∃m,W 0 m σ H)/\∀i m σ H,W i m σ H->
   ((JS lo n).stop i H/\D.nx σ H)\/((JS lo n).go i H/\∃N:St->Hp->Prop,(∀σ' H',N σ' H'->∃m',m'<m/\W (i+1) m' σ' H')/\∀x H',(JS lo n).Jr i H x H'->g x σ H' fun σ2 H2=>tb { D with nx:=N,ct:=N,bk:=D.nx } σ2 H2):=by
 refine⟨fun i m σ H=>m=n-i/\i<=n/\Pv i σ H,⟨n,by simp,cF _,h0⟩,?_⟩;rintro i m σ H ⟨rfl,hi,p⟩;by_cases dt:i<n
 .refine .inr ⟨dt,Pv (i+1),fun σ' H' p'=>⟨n-(i+1),by lia,rfl,dt,p'⟩,fun x H' y=>?_⟩;obtain⟨e,y⟩:=y;subst e y;exact hs i σ _ dt p
 .have e:i=n:=by lia
  subst e;exact .inl ⟨aW _,hd σ H p⟩
theorem Fy(Pv:St->Hp->Prop)(μ:St->Hp->Nat)(h0:Pv σ H)(hs:∀σ H,Pv σ H->c σ H fun b H1=>if b=true then tb { D with nx:=fun σ' H'=>Pv σ' H'/\μ σ' H'<μ σ H,ct:=fun σ' H'=>Pv σ' H'/\μ σ' H'<μ σ H,bk:=D.nx } σ H1 else D.nx σ H1)(mono:∀σ H Q Q',(∀b H1,Q b H1->Q' b H1)->c σ H Q->c σ H Q'):Fv c tb D σ H:=by
 refine⟨fun m σ H=>m=μ σ H/\Pv σ H,⟨_,rfl,h0⟩,?_⟩;rintro m σ H ⟨rfl,p⟩;refine mono σ H _ _ (fun b H1 q=>?_) (hs σ H p);cases b with
 |true=>exact⟨_,fun σ' H' ⟨p',l⟩=>⟨_,l,rfl,p'⟩,q⟩
 |false=>exact q
abbrev R2:=V->V->Hp->VK->Prop
def lV(X:Cx)(f:Value->Value->Sem Value)(r:R2):Prop:=
 ∀ (ae:List (Addr×Obj)) (s:Shared) (σ:St) (H:Hp) (x y:V) (v u:Value) (Q:VK),aI X ae σ H s->bD x v->bD y u->r x y H Q->
  wpAny (model X.prog X.w) X.A (f v u) (EP X ae σ Q) X.xe s
def WT(X:Cx)(f:Value->Sem Value)(r:V->Hp->VK->Prop):Prop:=
 ∀ (ae:List (Addr×Obj)) (s:Shared) (σ:St) (H:Hp) (x:V) (v:Value) (Q:VK),aI X ae σ H s->bD x v->r x H Q->
  wpAny (model X.prog X.w) X.A (f v) (EP X ae σ Q) X.xe s
def gu(X:Cx)(f:Value)(r:List V->Hp->VK->Prop):Prop:=
 ∀ (ae:List (Addr×Obj)) (s:Shared) (σ:St) (H:Hp) (xs:List V) (us:List Value) (Q:VK),aI X ae σ H s->aY xs us->r xs H Q->
  wpAny (model X.prog X.w) X.A (call f us) (EP X ae σ Q) X.xe s
def lM(r:R2)(ta tb:TE):TE:=fun σ H Q=>ta σ H fun x H1=>tb σ H1 fun y H2=>r x y H2 Q
def tUn(r:V->Hp->VK->Prop)(ta:TE):TE:=fun σ H Q=>ta σ H fun x H1=>r x H1 Q
def rI(C:Int->Int->Prop)(g:Int->Int->V):R2:=fun x y H Q=>∃i j,x=.int i/\y=.int j/\C i j/\Q (g i j) H
def Jt(g:Int->Int->V):R2:=fun x y H Q=>∃i j,x=.int i/\y=.int j/\Q (g i j) H
def rU(g:Int->V):V->Hp->VK->Prop:=fun x H Q=>∃i,x=.int i/\Q (g i) H
section
variable {X:Cx} {a b c:Expr} {ta tb tc:TE} {pos:Pos}
theorem NJ(ha:PE X a ta)(hb:PE X b tb){ae:List (Addr×Obj)}{s:Shared}{σ:St}{H:Hp}{R:V->V->Hp->Prop}(I:aI X ae σ H s)(h:ta σ H fun x H1=>tb σ H1 fun y H2=>R x y H2){Q:Value->Shared->Prop}{f:Value->Value->Sem Value}(hf:∀v u s2 x y H2,aI X ae σ H2 s2->bD x v->bD y u->R x y H2->wpAny (model X.prog X.w) X.A (f v u) Q X.xe s2):
  wpAny (model X.prog X.w) X.A (eval a X.env) (fun v s₁=>wpAny (model X.prog X.w) X.A (eval b X.env) (fun u s₂=>wpAny (model X.prog X.w) X.A (f v u) Q X.xe s₂) X.xe s₁) X.xe s:=by
 refine cz (ha ae s σ H _ I h) fun v s1 ⟨x,H1,I1,r1,q1⟩=>?_;refine cz (hb ae s1 σ H1 _ I1 q1) fun u s2 ⟨y,H2,I2,r2,q2⟩=>?_;exact hf v u s2 x y H2 I2 r1 r2 q2
theorem bv{op:Operator}{r:R2}(ho:lV X (binaryOp op) r)(ha:PE X a ta)(hb:PE X b tb):PE X (.BinOp a op b pos) (lM r ta tb):=by
 intro ae s σ H Q I h;exact wpAny_BinOp (NJ ha hb I h fun v u s2 x y H2 I2 rx ry q=>ho ae s2 σ H2 x y v u Q I2 rx ry q)
theorem uL(ho:WT X (unaryOp op) r)(ha:PE X a ta):PE X (.UnaryOp op a pos) (tUn r ta):=by
 intro ae s σ H Q I h;exact UnaryOp_ (cz (ha ae s σ H _ I h) fun v s1 ⟨x,H1,I1,r1,q1⟩=>ho ae s1 σ H1 x v Q I1 r1 q1)
theorem QZ{f:Value->Value->Sem Value}{C:Int->Int->Prop}{g:Int->Int->Int}(rule:∀ (i j:Int) (t u:Tok) (s:Shared) (Q:Value->Shared->Prop) (E:Value->Shared->Prop),C i j->Q (.int (g i j) s.toks) { s with toks:=s.toks+1 }->wpAny (model X.prog X.w) X.A (f (.int i t) (.int j u)) Q E s):
  lV X f (rI C fun i j=>.int (g i j)):=by
 intro ae s σ H x y v u Q I rx ry h;obtain⟨i,j,rfl,rfl,hc,q⟩:=h;obtain⟨t,rfl⟩:=rx;obtain⟨t',rfl⟩:=ry;exact rule i j t t' s _ _ hc ⟨.int (g i j),H,I.tok _,⟨_,rfl⟩,q⟩
theorem R3{f:Value->Value->Sem Value}{g:Int->Int->Int}(rule:∀ (i j:Int) (t u:Tok) (s:Shared) (Q:Value->Shared->Prop) (E:Value->Shared->Prop),Q (.int (g i j) s.toks) { s with toks:=s.toks+1 }->wpAny (model X.prog X.w) X.A (f (.int i t) (.int j u)) Q E s):
  lV X f (Jt fun i j=>.int (g i j)):=by
 intro ae s σ H x y v u Q I rx ry h;obtain⟨i,j,rfl,rfl,q⟩:=h;obtain⟨t,rfl⟩:=rx;obtain⟨t',rfl⟩:=ry;exact rule i j t t' s _ _ ⟨.int (g i j),H,I.tok _,⟨_,rfl⟩,q⟩
theorem JU{f:Value->Value->Sem Value}{g:Int->Int->Bool}(rule:∀ (i j:Int) (t u:Tok) (s:Shared) (Q:Value->Shared->Prop) (E:Value->Shared->Prop),Q (.bool (g i j)) s->wpAny (model X.prog X.w) X.A (f (.int i t) (.int j u)) Q E s):
  lV X f (Jt fun i j=>.bl (g i j)):=by
 intro ae s σ H x y v u Q I rx ry h;obtain⟨i,j,rfl,rfl,q⟩:=h;obtain⟨t,rfl⟩:=rx;obtain⟨t',rfl⟩:=ry;exact rule i j t t' s _ _ ⟨.bl (g i j),H,I,rfl,q⟩
def NK(i j:Int):Prop:=0<j/\j<1073741824
def WU(i j:Int):Prop:=0<=j/\j<=1000000/\i.natAbs<2 ^ 64
def Fz(i j:Int):Prop:=(-(2 ^ 64)<i/\i<2 ^ 64)\/(-(2 ^ 64)<j/\j<2 ^ 64)
theorem Fz.ok(h:Fz i j):IntMulOk i j:=by
 rcases h with ⟨h1,h2⟩|⟨h1,h2⟩
 .exact .of_left (intBits_le_64 h1 h2)
 .exact .of_right (intBits_le_64 h1 h2)
theorem eC:lV X (binaryOp .Add) (Jt fun i j=>.int (i+j)):=R3 fun _ _ _ _ _ _ _ q=>add_int q
theorem mV:lV X (binaryOp .Sub) (Jt fun i j=>.int (i-j)):=R3 fun _ _ _ _ _ _ _ q=>sub_int q
theorem pz:lV X (binaryOp .Mult) (rI Fz fun i j=>.int (i*j)):=QZ fun _ _ _ _ _ _ _ hc q=>mul_int q hc.ok
theorem qM:lV X (binaryOp .FloorDiv) (rI NK fun i j=>.int (i / j)):=QZ fun i j _ _ _ _ _ hc q=>by
 have h1:(0:Int)<j:=hc.1;have h2:j<1073741824:=hc.2;exact floordiv_int (by lia) (by rw[vw i (by lia)];exact q) (.inl (PyProof.noPylong_small (by lia)))
theorem jE:lV X (binaryOp .Mod) (rI (fun _ j=>0<j) fun i j=>.int (i % j)):=QZ fun i j _ _ _ _ _ hc q=>by
 have h1:(0:Int)<j:=hc;exact mod_int' (by lia) (by rw[zf i (by lia)];exact q)
theorem FA:lV X (binaryOp .Pow) (rI WU fun i j=>.int (i ^ j.toNat)):=QZ fun _ _ _ _ _ _ _ hc q=>pow_int_small hc.1 hc.2.1 hc.2.2 q
theorem FB:lV X (inplaceOp .FloorDiv) (rI NK fun i j=>.int (i / j)):=QZ fun i j _ _ _ _ _ hc q=>by
 have h1:(0:Int)<j:=hc.1;have h2:j<1073741824:=hc.2;exact ifloordiv_int (by lia) (by rw[vw i (by lia)];exact q) (.inl (PyProof.noPylong_small (by lia)))
theorem unI{f:Value->Sem Value}{g:Int->Int}(rule:∀ (i:Int) (t:Tok) (s:Shared) (Q:Value->Shared->Prop) (E:Value->Shared->Prop),Q (.int (g i) s.toks) { s with toks:=s.toks+1 }->wpAny (model X.prog X.w) X.A (f (.int i t)) Q E s):
  WT X f (rU fun i=>.int (g i)):=by
 intro ae s σ H x v Q I rx h;obtain⟨i,rfl,q⟩:=h;obtain⟨t,rfl⟩:=rx;exact rule i t s _ _ ⟨.int (g i),H,I.tok _,⟨_,rfl⟩,q⟩
theorem pB:WT X (unaryOp .USub) (rU fun i=>.int (-i)):=unI fun _ _ _ _ _ q=>neg_int q
end
def JV:V->V->Bool
 |.bR,.bR=>true|.bR,.int _=>true|.int _,.bR=>true|.bR,.bl _=>true|.bl _,.bR=>true|.bR,.str _=>true|.str _,.bR=>true
 |.int _,.int _=>true|.bl _,.bl _=>true|.str _,.str _=>true|.EX _,.EX _=>true
 |.int _,.str _=>true|.str _,.int _=>true|.bl _,.str _=>true|.str _,.bl _=>true
 |_,_=>false
def NL:R2:=fun x y H Q=>JV x y=true/\Q (.bl (decide (x=y))) H
def WV:R2:=fun x y H Q=>JV x y=true/\Q (.bl (!decide (x=y))) H
theorem BV:decide (V.int i=V.int j)=(i==j):=by
 rw[im];simp
theorem FE:decide (V.bl i=V.bl j)=(i==j):=by
 rw[im];simp
theorem BW:decide (V.str i=V.str j)=(i==j):=by
 rw[im];simp
theorem BY:decide (V.EX i=V.EX j)=(i.toList==j.toList):=by
 rw[im];cases i;cases j;simp
section
variable {X:Cx} {a b c:Expr} {ta tb tc:TE} {pos:Pos}
theorem bN(I:aI X ae σ H s)(q:Q (.bl k) H)(e:k=k'):EP X ae σ Q (.bool k') s:=by
 subst e;exact⟨.bl k,H,I,rfl,q⟩
theorem gv:lV X (compareOp .Eq) NL:=by
 intro ae s σ H x y v u Q I rx ry h;obtain⟨hs,q⟩:=h;cases x with
 |bR=>
  cases rx;cases y with
  |bR=>cases ry;exact PySem.EqNone.eq_none_none (bN I q (by simp))
  |bl j=>cases ry;exact PySem.EqNone.eq_none_bool (bN I q (by simp))
  |int j=>obtain⟨t',rfl⟩:=ry;exact PySem.EqNone.eq_none_int (bN I q (by simp))
  |str j=>obtain⟨t',rfl⟩:=ry;exact PySem.EqNone.eq_none_str (bN I q (by simp))
  |_=>exact absurd (show false=true from hs) bq
 |bl i=>
  cases rx;cases y with
  |bR=>cases ry;exact PySem.EqNone.eq_bool_none (bN I q (by simp))
  |bl j=>cases ry;exact eq_bool (bN I q FE)
  |str j=>obtain⟨t',rfl⟩:=ry;exact PySem.EqMixed.eq_bool_str (bN I q (by simp))
  |_=>exact absurd (show false=true from hs) bq
 |int i=>
  obtain⟨t,rfl⟩:=rx;cases y with
  |bR=>cases ry;exact PySem.EqNone.eq_int_none (bN I q (by simp))
  |int j=>obtain⟨t',rfl⟩:=ry;exact eq_int (bN I q BV)
  |str j=>obtain⟨t',rfl⟩:=ry;exact PySem.EqMixed.eq_int_str (bN I q (by simp))
  |_=>exact absurd (show false=true from hs) bq
 |str i=>
  obtain⟨t,rfl⟩:=rx;cases y with
  |bR=>cases ry;exact PySem.EqNone.eq_str_none (bN I q (by simp))
  |bl j=>cases ry;exact PySem.EqMixed.eq_str_bool (bN I q (by simp))
  |int j=>obtain⟨t',rfl⟩:=ry;exact PySem.EqMixed.eq_str_int (bN I q (by simp))
  |str j=>obtain⟨t',rfl⟩:=ry;exact eq_str (bN I q BW)
  |_=>exact absurd (show false=true from hs) bq
 |EX i=>
  obtain⟨t,rfl⟩:=rx;cases y with
  |EX j=>obtain⟨t',rfl⟩:=ry;exact PySem.W.eq_bytes (bN I q BY)
  |_=>exact absurd (show false=true from hs) bq
 |_=>cases y <;> exact absurd (show false=true from hs) bq
theorem nR:lV X (compareOp .NotEq) WV:=by
 intro ae s σ H x y v u Q I rx ry h;obtain⟨hs,q⟩:=h;cases x with
 |bR=>
  cases rx;cases y with
  |bR=>cases ry;exact PySem.EqNone.ne_none_none (bN I q (by simp))
  |bl j=>cases ry;exact PySem.EqNone.ne_none_bool (bN I q (by simp))
  |int j=>obtain⟨t',rfl⟩:=ry;exact PySem.EqNone.ne_none_int (bN I q (by simp))
  |str j=>obtain⟨t',rfl⟩:=ry;exact PySem.EqNone.ne_none_str (bN I q (by simp))
  |_=>exact absurd (show false=true from hs) bq
 |bl i=>
  cases rx;cases y with
  |bR=>cases ry;exact PySem.EqNone.ne_bool_none (bN I q (by simp))
  |bl j=>cases ry;exact ne_bool (bN I q (congrArg not FE))
  |str j=>obtain⟨t',rfl⟩:=ry;exact PySem.EqMixed.ne_bool_str (bN I q (by simp))
  |_=>exact absurd (show false=true from hs) bq
 |int i=>
  obtain⟨t,rfl⟩:=rx;cases y with
  |bR=>cases ry;exact PySem.EqNone.ne_int_none (bN I q (by simp))
  |int j=>obtain⟨t',rfl⟩:=ry;exact ne_int (bN I q (congrArg not BV))
  |str j=>obtain⟨t',rfl⟩:=ry;exact PySem.EqMixed.ne_int_str (bN I q (by simp))
  |_=>exact absurd (show false=true from hs) bq
 |str i=>
  obtain⟨t,rfl⟩:=rx;cases y with
  |bR=>cases ry;exact PySem.EqNone.ne_str_none (bN I q (by simp))
  |bl j=>cases ry;exact PySem.EqMixed.ne_str_bool (bN I q (by simp))
  |int j=>obtain⟨t',rfl⟩:=ry;exact PySem.EqMixed.ne_str_int (bN I q (by simp))
  |str j=>obtain⟨t',rfl⟩:=ry;exact ne_str (bN I q (congrArg not BW))
  |_=>exact absurd (show false=true from hs) bq
 |EX i=>
  obtain⟨t,rfl⟩:=rx;cases y with
  |EX j=>obtain⟨t',rfl⟩:=ry;exact PySem.W.ne_bytes (bN I q (congrArg not BY))
  |_=>exact absurd (show false=true from hs) bq
 |_=>cases y <;> exact absurd (show false=true from hs) bq
theorem si:lV X (compareOp .Lt) (Jt fun i j=>.bl (decide (i<j))):=JU fun _ _ _ _ _ _ _ q=>lt_int q
theorem FF:lV X (compareOp .LtE) (Jt fun i j=>.bl (decide (i<=j))):=JU fun _ _ _ _ _ _ _ q=>le_int q
theorem BZ:lV X (compareOp .Gt) (Jt fun i j=>.bl (decide (j<i))):=JU fun _ _ _ _ _ _ _ q=>gt_int q
theorem R4:lV X (compareOp .GtE) (Jt fun i j=>.bl (decide (j<=i))):=JU fun _ _ _ _ _ _ _ q=>ge_int q
theorem i7:lV X (compareOp .Is) (fun x y H Q=>y=.bR/\Q (.bl (decide (x=.bR))) H):=by
 intro ae s σ H x y v u Q I rx ry h;obtain⟨rfl,q⟩:=h;cases ry;refine is_none_gen (bN I q ?_);cases x <;> first
  |(cases rx;rfl)
  |(obtain⟨t,rfl⟩:=rx;rfl)
theorem wu:lV X (compareOp .IsNot) (fun x y H Q=>y=.bR/\Q (.bl (!decide (x=.bR))) H):=by
 intro ae s σ H x y v u Q I rx ry h;obtain⟨rfl,q⟩:=h;cases ry;refine isnot_none_gen (bN I q ?_);cases x <;> first
  |(cases rx;rfl)
  |(obtain⟨t,rfl⟩:=rx;rfl)
theorem aQ(b:Expr)(h:op≠.In:=by decide)(h2:op≠.NotIn:=by decide):behindInMarks op b=false:=by
 have e1:(op==CmpOp.In)=false:=by cases op <;> first|rfl|exact absurd rfl h
 have e2:(op==CmpOp.NotIn)=false:=by cases op <;> first|rfl|exact absurd rfl h2
 cases b <;> simp[behindInMarks,e1,e2]
theorem eT(ho:lV X (compareOp op) r)(ha:PE X a ta)(hb:PE X b tb)(hm:behindInMarks op b=false):PE X (.Compare a [op] [b] pos) (lM r ta tb):=by
 intro ae s σ H Q I h;exact wpAny_Compare1 (NJ ha hb I h fun v u s2 x y H2 I2 rx ry q=>ho ae s2 σ H2 x y v u Q I2 rx ry q) hm
def iK(t:TE):TT:=fun σ H Q=>t σ H fun x H'=>∃k,x=.bl k/\Q k H'
theorem aK(ho:lV X (compareOp op) r)(ha:PE X a ta)(hb:PE X b tb)(hm:behindInMarks op b=false):PT X (.Compare a [op] [b] pos) (iK (lM r ta tb)):=by
 intro ae s σ H Q I h;refine wpAny_isTrue_Compare1 (cz (ha ae s σ H _ I h) fun v s1 ⟨x,H1,I1,r1,q1⟩=>cz (hb ae s1 σ H1 _ I1 q1) fun u s2 ⟨y,H2,I2,r2,q2⟩=>
  cz (ho ae s2 σ H2 x y v u _ I2 r1 r2 q2) fun c s3 ⟨z,H3,I3,r3,k,e,q3⟩=>?_) hm
 subst e;cases r3;exact mr ⟨H3,I3,q3⟩
def FG(r r':R2)(ta tb tc:TE):TE:=fun σ H Q=>ta σ H fun x H1=>tb σ H1 fun y H2=>r x y H2 fun z H3=>∃k,z=.bl k/\
 (if k=true then tc σ H3 fun w' H4=>r' y w' H4 Q else Q (.bl false) H3)
theorem FH(ho:lV X (compareOp op) r)(Af:lV X (compareOp Q0) r')(ha:PE X a ta)(hb:PE X b tb)(hc:PE X c tc)(hm:lastMarks [op,Q0] [b,c]=false:=by with_unfolding_all rfl):PE X (.Compare a [op,Q0] [b,c] pos) (FG r r' ta tb tc):=by
 intro ae s σ H Q I h;refine Compare_chain (cz (ha ae s σ H _ I h) fun v s1 ⟨x,H1,I1,r1,q1⟩=>chain_link (cz (hb ae s1 σ H1 _ I1 q1) fun u s2 ⟨y,H2,I2,r2,q2⟩=>
  cz (ho ae s2 σ H2 x y v u _ I2 r1 r2 q2) fun d s3 ⟨z,H3,I3,r3,k,e,q3⟩=>?_)) hm
 subst e;cases r3;refine mr ?_;cases k with
 |false=>exact ite_ff ⟨.bl false,H3,I3,rfl,q3⟩
 |true=>exact ite_tt (chain_last (cz (hc ae s3 σ H3 _ I3 q3) fun w' s4 ⟨z',H4,I4,r4,q4⟩=>Af ae s4 σ H4 y z' u w' Q I4 r2 r4 q4))
theorem FJ{op Q0:CmpOp}{r r':R2}(ho:lV X (compareOp op) r)(Af:lV X (compareOp Q0) r')(ha:PE X a ta)(hb:PE X b tb)(hc:PE X c tc)(hm:lastMarks [op,Q0] [b,c]=false:=by with_unfolding_all rfl):PT X (.Compare a [op,Q0] [b,c] pos) (iK (FG r r' ta tb tc)):=by
 intro ae s σ H Q I h;refine isTrue_chain (cz (ha ae s σ H _ I h) fun v s1 ⟨x,H1,I1,r1,q1⟩=>test_link (cz (hb ae s1 σ H1 _ I1 q1) fun u s2 ⟨y,H2,I2,r2,q2⟩=>
  cz (ho ae s2 σ H2 x y v u _ I2 r1 r2 q2) fun d s3 ⟨z,H3,I3,r3,k,e,q3⟩=>?_)) hm
 subst e;cases r3;refine mr ?_;cases k with
 |false=>
  obtain⟨k',e',q'⟩:=q3;cases e';exact ite_ff ⟨H3,I3,q'⟩
 |true=>
  refine ite_tt (test_last (cz (hc ae s3 σ H3 _ I3 q3) fun w' s4 ⟨z',H4,I4,r4,q4⟩=>cz (Af ae s4 σ H4 y z' u w' _ I4 r2 r4 q4) fun d' s5 ⟨z2,H5,I5,r5,k2,e2,q5⟩=>?_));subst e2;cases r5;exact mr ⟨H5,I5,q5⟩
theorem sk:(sizeLine:Nat)<2 ^ 63:=by rw[ky];decide
theorem FK(r:aY [x] us):∃u,us=[u]/\bD x u:=by
 cases r with
 |cons r1 r2=>cases r2;exact⟨_,rfl,r1⟩
theorem FL(r:aY [x,y] us):∃u w',us=[u,w']/\bD x u/\bD y w':=by
 cases r with
 |cons r1 r2=>
  cases r2 with
  |cons r3 r4=>cases r4;exact⟨_,_,rfl,r1,r3⟩
theorem uM(hc:X.calm=true):gu X (.builtin "max") (fun xs H Q=>∃i j,xs=[.int i,.int j]/\Q (.int (if j > i then j else i)) H):=by
 intro ae s σ H xs us Q I r h;obtain⟨i,j,rfl,q⟩:=h;obtain⟨u,w',rfl,⟨t,rfl⟩,⟨t',rfl⟩⟩:=FL r;refine max_two_ints (I.ok.hd hc) fun h' tk k=>⟨_,H,I.kept k,?_,q⟩
 by_cases hj:j > i
 .rw[ai hj,ai hj];exact⟨_,rfl⟩
 .rw[ap hj,ap hj];exact⟨_,rfl⟩
theorem uN(hc:X.calm=true):gu X (.builtin "min") (fun xs H Q=>∃i j,xs=[.int i,.int j]/\Q (.int (if j<i then j else i)) H):=by
 intro ae s σ H xs us Q I r h;obtain⟨i,j,rfl,q⟩:=h;obtain⟨u,w',rfl,⟨t,rfl⟩,⟨t',rfl⟩⟩:=FL r;refine min_two_ints (I.ok.hd hc) fun h' tk k=>⟨_,H,I.kept k,?_,q⟩
 by_cases hj:j<i
 .rw[ai hj,ai hj];exact⟨_,rfl⟩
 .rw[ap hj,ap hj];exact⟨_,rfl⟩
end
structure Ak(h:Heap)(x dx C:Addr)(mA:Str->Option Value):Prop where
 obj:h.get? x=some (PySem.W.instObj C dx)
 ns:h.Ns1 dx mA
 ne:dx≠x
theorem Dw{h:Heap}{dx:Addr}{mA:Str->Option Value}(n:h.Ns1 dx mA):∃od,h.get? dx=some od/\∀name,PySem.W.lookIn name od=some (mA name):=by
 obtain⟨o,es,ep,ho,hd,hk,_,hm⟩:=n;refine⟨o,ho,fun name=>?_⟩;have e:=hm name;unfold nsFind findBy at e;rw[<-Array.find?_toList] at e;unfold PySem.W.lookIn;rw[hd];dsimp only;split
 .rename_i y q;rw[q] at e;exact congrArg some e
 .rename_i q;rw[q] at e;have a:es.toList.any (·.refKey)=false:=by
   rw[zP];intro y hy;obtain⟨z,t,nU⟩:=hk y (Array.mem_toList_iff.mp hy);simp[DictEntry.refKey,nU]
  have a':¬ es.toList.any (·.refKey)=true:=by rw[a];exact bq
  rw[ap a'];exact congrArg some e
theorem Ak.look(I:Ak h x dx C mA):∃od,PySem.W.InstAt h x (PySem.W.instObj C dx) C (some od)/\∀name,PySem.W.lookIn name od=some (mA name):=
 let ⟨od,ho,hl⟩:=Dw I.ns
 ⟨od,⟨I.obj,rfl,rfl,ho⟩,hl⟩
section
variable {prog:Program} {w:World} {A:Around} {E:Value->Shared->Prop} {s:Shared} {K:PySem.W.Frag} {x dx C f:Addr} {mA:Str->Option Value} {name:Str} {v:Value}
theorem JW(X:K.In s.heap)(I:Ak s.heap x dx C mA)(hg:PySem.W.plainGet K C name=true)(hh:PySem.W.hasDictIn K C=true)(ha:PySem.W.findIn K (.ref C) name=some none)(hv:mA name=some v)(NM:PySem.W.handedIn v=true)(h:Q v { s with toks:=s.toks+1 }):
  wpAny (model prog w) A (getAttr (.ref x) name JX) Q E s:=by
 obtain⟨od,J,hl⟩:=I.look;exact PySem.W.get_value X J (zB hg).1 (PySem.W.findObj_own hh ha rfl (by rw[hl,hv])) NM h
theorem FM(X:K.In s.heap)(I:Ak s.heap x dx C mA)(hg:PySem.W.plainGet K C name=true)(hf:PySem.W.findIn K (.ref C) name=some (some (.ref f)))(ht:PySem.W.isFn K (.ref f)=true)(hv:mA name=none)(h:Q (.ref f,[.ref x]) s):
  wpAny (model prog w) A (getMethod (.ref x) name pl) Q E s:=by
 obtain⟨od,J,hl⟩:=I.look;exact PySem.W.method_fn X J (zB hg).1 (zB hg).2 hf (eA.mp ht) (by show (PySem.W.lookIn name od).map (·.isSome)=some false;rw[hl,hv];rfl) h
theorem JY(X:K.In s.heap)(I:Ak s.heap x dx C mA)(hs:PySem.W.findIn K (.ref C) "__setattr__"=some (some (.builtin "object.__setattr__")))(hp:PySem.W.plainOver K C=true)(ht:PySem.W.takerIn K C name=some none)(hh:PySem.W.hasDictIn K C=true)(hw:PySem.Within mA ns)(hsz:ns.length<=sizeLine)(h:∀h',Ak h' x dx C (fun y=>if y=name then some v else mA y)->Heap.SameBut dx s.heap h'->Q () { s with heap:=h',toks:=s.toks+2 }):
  wpAny (model prog w) A (setAttr (.ref x) name v) Q E s:=by
 obtain⟨od,J,hl⟩:=I.look;refine PySem.W.set_plain X J hs (PySem.W.osa_open (s:={ s with toks:=s.toks+1 }) (r:=none) X J hp ht fun b=>?_);obtain⟨cd,hc,RG⟩:=PySem.W.any_some hh;have hx:s.heap.get? x=some ⟨.ref C,some dx,.plain,#[]⟩:=I.obj;refine ak (wpAny_pure (ak (ak (wpAny_loadPart hx (ak (PySem.W.Looks.here (s:={ s with toks:=s.toks+1 }) (PySem.W.looks_clsIn X hc) ?_))))));rw[RG];refine wpAny_pure (a:=some dx) (ak (wpAny_pure (ak ?_)));refine wpAny_nsSet1 (s:={ s with toks:=s.toks+1 }) I.ns fun h' Q3 ww=>?_;obtain⟨oD,esD,epD,hoD,R5,JZ⟩:=Q3.count (PySem.Within.cons name v hw);refine ak (wpAny_lookBehind hoD (by rw[R5];exact pastItsLine_dict (bj JZ (by rw[cu];lia))) ?_);exact wpAny_pure (h _ ⟨(ww.2 _ (cj I.ne)).trans I.obj,Q3,I.ne⟩ ww)
theorem FO(X:K.In s.heap)(hm:PySem.W.makesIn K C=true)(hi:PySem.W.findIn K (.ref C) "__init__"=some (some (.ref f)))(hf:PySem.W.typeIn K (.ref f)=some (.type "function"))(h:codeAny (model prog w) (A.under (.builtin "type.__call__" ⟨.ref C::vs,kw⟩)) (.call (.ref f) ⟨.ref (s.heap.objs.size+1)::vs,kw⟩) (PySem.W.InitBack (s.heap.objs.size+1) R)
   { s with heap:=(s.heap.push PySem.W.emptyDict).push (PySem.W.instObj C s.heap.objs.size) }):
  codeAny (model prog w) A (.call (.ref C) ⟨vs,kw⟩) R s:=by
 obtain⟨hh,g,d,t,os⟩:=s;exact PySem.W.make_core (PySem.W.makes_of X hm) (PySem.W.looks_findIn X hi) (fun self=>PySem.W.bind_fn X self hf) (.inl rfl) h
end
def du(f:Str)(v:V):List (Str×V)->List (Str×V)
 |[]=>[(f,v)]
 |(g,x)::r=>if g=f then (g,v)::r else (g,x)::du f v r
theorem aZ(f g:Str)(v:V):∀fs:List (Str×V),(du f v fs).lookup g=if g=f then some v else fs.lookup g
 |[]=>by
  show List.lookup g [(f,v)]=_;by_cases h:g=f
  .have hb:(g==f)=true:=eA.mpr h;simp only[List.lookup,hb,ai h]
  .have hb:(g==f)=false:=mh.mpr h;simp only[List.lookup,hb,ap h]
 |(k,x)::r=>by
  have ih:=aZ f g v r;rw[show du f v ((k,x)::r)=(if k=f then (k,v)::r else (k,x)::du f v r) from rfl];by_cases hk:k=f
  .rw[ai hk];by_cases h:g=k
   .have hb:(g==k)=true:=eA.mpr h;simp only[List.lookup,hb,ai (h.trans hk)]
   .have hb:(g==k)=false:=mh.mpr h;simp only[List.lookup,hb,ap (fun e:g=f=>h (e.trans hk.symm))]
  .rw[ap hk];by_cases h:g=k
   .have hb:(g==k)=true:=eA.mpr h;simp only[List.lookup,hb,ap (fun e:g=f=>hk (h.symm.trans e))]
   .have hb:(g==k)=false:=mh.mpr h;simp only[List.lookup,hb];exact ih
theorem pC(f:Str)(v:V):∀fs:List (Str×V),f∈(du f v fs).map (·.1)/\∀g,g∈fs.map (·.1)->g∈(du f v fs).map (·.1)
 |[]=>⟨by simp[du],fun g h=>by simp at h⟩
 |(k,x)::r=>by
  obtain⟨i1,i2⟩:=pC f v r;rw[show du f v ((k,x)::r)=(if k=f then (k,v)::r else (k,x)::du f v r) from rfl];by_cases hk:k=f
  .rw[ai hk];subst hk;exact⟨by simp,fun g h=>by simpa using h⟩
  .rw[ap hk];refine⟨?_,fun g h=>?_⟩
   .rw[fg];exact bJ _ i1
   .rw[fg] at h |-;rcases ba.mp h with e|e
    .exact ba.mpr (.inl e)
    .exact bJ _ (i2 g e)
theorem eD(f:Str)(v:V):∀fs:List (Str×V),(du f v fs).length<=fs.length+1
 |[]=>by simp[du]
 |(k,x)::r=>by
  have ih:=eD f v r;rw[show du f v ((k,x)::r)=(if k=f then (k,v)::r else (k,x)::du f v r) from rfl];by_cases hk:k=f
  .rw[ai hk,cu,cu];lia
  .rw[ap hk,cu,cu];lia
theorem nP.some_of(r:nP (some v) o):∃u,o=some u/\bD v u:=by
 cases o with
 |none=>exact(show False from r).elim
 |some u=>exact⟨u,rfl,r⟩
theorem nP.none_of(r:nP none o):o=none:=by
 cases o with
 |none=>rfl
 |some u=>exact(show False from r).elim
theorem Dx(r:bD v u):PySem.W.handedIn u=true:=by
 cases v with
 |bR=>cases (show u=Value.none from r);rfl
 |bl b=>cases (show u=Value.bool b from r);rfl
 |int i=>obtain⟨t,e⟩:=(show ∃t,u=Value.int i t from r);cases e;rfl
 |str x=>obtain⟨t,e⟩:=(show ∃t,u=Value.str x t from r);cases e;rfl
 |EX b=>obtain⟨t,e⟩:=(show ∃t,u=Value.bytes b t from r);cases e;rfl
 |Ny b=>obtain⟨t,e⟩:=(show ∃t,u=Value.float b t from r);cases e;rfl
 |ref a=>cases (show u=Value.ref a from r);rfl
 |ty n=>cases (show u=Value.type n from r);rfl
section
variable {P:Program} {w:World} {H H':Hp} {h h':Heap} {a C dx:Addr} {fs fs':List (Str×V)}
theorem qN(ck:kC P w H h)(e:H a=some (.ins C dx fs)):∃mA,Ak h a dx C mA/\(∀f,nP (fs.lookup f) (mA f))/\PySem.Within mA (fs.map (·.1))/\fs.length<=1000/\H dx=some (.own a):=by
 obtain⟨d,z,ne,ob,mA,n,r,q⟩:=(show cf P w H h a (.ins C dx fs) from ck a _ e)
 exact⟨mA,⟨ob,n,ne⟩,r,q,z,d⟩
end
structure EZ(K:PySem.W.Frag)(C:Addr):Prop where
 pg:PySem.W.plainGet K C Str.empty=true
 hd:PySem.W.hasDictIn K C=true
 po:PySem.W.plainOver K C=true
 sa:PySem.W.findIn K (.ref C) "__setattr__"=some (some (.builtin "object.__setattr__"))
theorem EZ.get{K:PySem.W.Frag}{C:Addr}(c:EZ K C)(f:Str):PySem.W.plainGet K C f=true:=c.pg
def gG(K:PySem.W.Frag)(C:Addr)(f:Str):Prop:=PySem.W.findIn K (.ref C) f=some none
theorem gG.taker{K:PySem.W.Frag}{C:Addr}{f:Str}(n:gG K C f):PySem.W.takerIn K C f=some none:=by
 unfold PySem.W.takerIn;rw[show PySem.W.findIn K (.ref C) f=some none from n];rfl
structure J0(K:PySem.W.Frag)(C:Addr)(m:Str)(f:Addr):Prop where
 at_:PySem.W.findIn K (.ref C) m=some (some (.ref f))
 fn:PySem.W.isFn K (.ref f)=true
 kp:PySem.W.keepIn K (.ref f)=true
section
variable {X:Cx} {ae:List (Addr×Obj)} {σ:St} {H:Hp} {s:Shared} {a C dx:Addr} {fs:List (Str×V)} {f:Str} {v:V} {A:Around} {E:Value->Shared->Prop}
theorem Al(I:aI X ae σ H s)(e:H a=some (.ins C dx fs))(c:EZ X.K C)(n:gG X.K C f)(l:fs.lookup f=some v)(h:∀u s',aI X ae σ H s'->bD v u->Q u s'):wpAny (model X.prog X.w) A (getAttr (.ref a) f b) Q E s:=by
 obtain⟨mA,O,r,_,_,_⟩:=qN I.ck e;obtain⟨u,hu,ru⟩:=nP.some_of (v:=v) (o:=mA f) (by rw[<-l];exact r f);exact JW I.p8 O (c.get f) c.hd n hu (Dx ru) (h u _ (I.tok _) ru)
theorem sq(I:aI X ae σ H s)(e:H a=some (.ins C dx fs))(c:EZ X.K C)(k:J0 X.K C m g)(l:fs.lookup m=none)(h:Q (.ref g,[.ref a]) s):wpAny (model X.prog X.w) A (getMethod (.ref a) m pl) Q E s:=by
 obtain⟨mA,O,r,_,_,_⟩:=qN I.ck e;have hn:mA m=none:=nP.none_of (by rw[<-l];exact r m);exact FM I.p8 O (c.get m) k.at_ k.fn hn h
theorem Am(I:aI X ae σ H s)(e:H a=some (.ins C dx fs))(c:EZ X.K C)(n:gG X.K C f)(hl:fs.length<1000)(ry:bD y u)(h:∀s',aI X ae σ (upd H a (.ins C dx (du f y fs))) s'->Q () s'):wpAny (model X.prog X.w) A (setAttr (.ref a) f u) Q E s:=by
 obtain⟨mA,O,r,wi,_,ho⟩:=qN I.ck e;have hz:(fs.map (·.1)).length<=sizeLine:=by rw[aP,ky];lia
 refine JY I.p8 O c.sa c.po n.taker c.hd wi hz fun h' O' sb=>h _ ?_;have hd:∃o,h'.get? dx=some o:=let ⟨o,_,_,e',_⟩:=O'.ns;⟨o,e'⟩;refine I.write (x:=a) (e:=dx) (by rw[e];exact True.intro) (.inr ho) (fun b q hb z=>(sb.2 b hb).trans z) hd ?_;refine⟨by rw[al O.ne];exact ho,?_,O.ne,O'.obj,_,O'.ns,fun g=>?_,fun g hg=>?_⟩
 .have:=eD f y fs;lia
 .show nP ((du f y fs).lookup g) (if g=f then some u else mA g);rw[aZ];by_cases q:g=f
  .rw[ai q,ai q];exact ry
  .rw[ap q,ap q];exact r g
 .by_cases q:g=f
  .rw[q];exact(pC f y fs).1
  .refine(pC f y fs).2 g (wi g fun z=>hg ?_);show (if g=f then some u else mA g)=none;rw[ap q];exact z
theorem aI.made(I:aI X ae σ H s):aI X ae σ (upd (upd H s.heap.objs.size (.own (s.heap.objs.size+1))) (s.heap.objs.size+1) (.ins C s.heap.objs.size []))
  { s with heap:=(s.heap.push PySem.W.emptyDict).push (PySem.W.instObj C s.heap.objs.size) }:=by
 have e1:(s.heap.push PySem.W.emptyDict).get? s.heap.objs.size=some PySem.W.emptyDict:=b_ s.heap rfl;have e2:((s.heap.push PySem.W.emptyDict).push (PySem.W.instObj C s.heap.objs.size)).get? (s.heap.objs.size+1)=some (PySem.W.instObj C s.heap.objs.size):=by
  have:=b_ (s.heap.push PySem.W.emptyDict) (o:=PySem.W.instObj C s.heap.objs.size) rfl;rwa [ie] at this
 have e3:(s.heap.push PySem.W.emptyDict).Ns s.heap.objs.size (fun _=>none):=⟨PySem.W.emptyDict,#[],_,e1,rfl,(fun e he=>absurd he (by simp)),fun _=>rfl⟩
 have I1:=I.laid (a:=s.heap.objs.size) (o:=.own (s.heap.objs.size+1)) (h':=s.heap.push PySem.W.emptyDict) (t':=s.toks) (fun b u q=>bz _ q) (aW _) ⟨_,e1⟩;refine I1.laid (a:=s.heap.objs.size+1) (o:=.ins C s.heap.objs.size []) (t':=s.toks) (fun b u q=>bz _ q) (mD (ie _ _)) ?_;have ne:s.heap.objs.size≠s.heap.objs.size+1:=aX (iT _);refine⟨by rw[al ne,ah],cF _,ne,e2,fun _=>none,(Heap.Ns1.of_empty e3).at fun o q=>bz _ q,fun _=>True.intro,fun y hy=>absurd rfl hy⟩
theorem J1(hb:attributeBase e f env (eval e env)=eval e env)(h:wpAny (model prog w) A (eval e env) (fun o s₁=>wpAny (model prog w) A (getAttr o f true) Q E s₁) E s):wpAny (model prog w) A (eval (.Attribute e f pos) env) Q E s:=
 Attribute_any_ h (by rw[arm_eval_Attribute,hb])
end
def R6(K:PySem.W.Frag)(ta:TE)(f:Str):TE:=fun σ H Q=>ta σ H fun x H1=>∃a C dx fs v,x=.ref a/\H1 a=some (.ins C dx fs)/\EZ K C/\gG K C f/\fs.lookup f=some v/\Q v H1
def WX(K:PySem.W.Frag)(ta tv:TE)(f:Str):TS:=fun D σ H=>tv σ H fun y H1=>ta σ H1 fun x H2=>∃a C dx fs,x=.ref a/\H2 a=some (.ins C dx fs)/\EZ K C/\gG K C f/\fs.length<1000/\
 D.nx σ (upd H2 a (.ins C dx (du f y fs)))
section
variable {X:Cx} {o e value:Expr} {f:Str} {pos Dr Dt:Pos} {ta tv:TE}
theorem gI(he:PE X e ta)(hb:attributeBase e f X.env (eval e X.env)=eval e X.env):PE X (.Attribute e f pos) (R6 X.K ta f):=by
 intro ae s σ H Q I h;refine J1 hb (cz (he ae s σ H _ I h) fun u s1 ⟨x,H1,I1,rx,a,C,dx,fs,v,ex,ea,c,n,l,q⟩=>?_);subst ex;obtain rfl:u=Value.ref a:=rx;exact Al I1 ea c n l fun u' s2 I2 ru=>⟨v,H1,I2,ru,q⟩
theorem pD(ha:PE X o ta)(hv:PE X value tv)(hs:swapsWith value (some (.Attribute o f Dr)) pos.line X.env=pure false):PS X (.Assign [.Attribute o f Dr] value pos) (WX X.K ta tv f):=by
 intro ae s σ H D I h;refine plainObj_wpAny_Assign_Attribute (cz (hv ae s σ H _ I h) fun u s1 ⟨y,H1,I1,ry,q⟩=>cz (ha ae s1 σ H1 _ I1 q) fun ov s2 ⟨x,H2,I2,rx,a,C,dx,fs,ex,ea,c,n,l,q2⟩=>?_) hs;subst ex;obtain rfl:ov=Value.ref a:=rx;exact Am I2 ea c n l ry fun s3 I3=>⟨σ,_,I3,q2⟩
end
section
variable {X:Cx} {ae:List (Addr×Obj)} {σ:St} {H:Hp} {s:Shared} {A:Around} {E:Value->Shared->Prop} {Q:Value->Shared->Prop} {c:Value} {b:Bool}
inductive pE (K:PySem.W.Frag) (H:Hp):V->Value->Prop where
 |bR:pE K H .bR (.type "NoneType")
 |bl (x:Bool):pE K H (.bl x) (.type "bool")
 |int (i:Int):pE K H (.int i) (.type "int")
 |str (x:Str):pE K H (.str x) (.type "str")
 |Ny (x:UInt64):pE K H (.Ny x) (.type "float")
 |lst {a:Addr} {xs:List V} (e:H a=some (.lst xs)):pE K H (.ref a) (.type "list")
 |mK {a:Addr} {o:Obj} {xs:List V} (e:H a=some (.mK o (.lst xs))):pE K H (.ref a) (.type "list")
 |tup {a:Addr} {xs:List V} (e:H a=some (.tup xs)):pE K H (.ref a) (.type "tuple")
 |dK {a:Addr} {kvs:List (fL×V)} (e:H a=some (.dK kvs)):pE K H (.ref a) (.type "dict")
 |dT {a:Addr} {kvs:List (List fL×V)} (e:H a=some (.dT kvs)):pE K H (.ref a) (.type "dict")
 |ins {a C dx:Addr} {fs:List (Str×V)} (e:H a=some (.ins C dx fs)) (cl:EZ K C) (ha:PySem.W.findIn K (.ref C) "__class__"=some (some (.builtin "object.__class__")))
   (hn:PySem.W.specialIn K (.builtin "object.__class__") "__get__"=some (some (.builtin "getset_descriptor.__get__"))) (WY:PySem.W.takesIn K (.builtin "object.__class__")=some true)
   (hm:PySem.W.mroIn K C (.type "object")=some true):pE K H (.ref a) (.ref C)
theorem Dy(I:aI X ae σ H s)(rx:bD x u)(ty:pE X.K H x t)(e:PySem.W.kitOne X.K t c=some b)(h:∀tk,Q (.bool b) { s with toks:=tk }):
  wpAny (model X.prog X.w) A (call (.builtin "isinstance") [u,c]) Q E s:=by
 cases ty with
 |bR=>cases (show u=Value.none from rx);exact jU PySem.W.kitx_none I.p8 True.intro e (fun z=>nomatch z) h
 |bl y=>cases (show u=Value.bool y from rx);exact jU PySem.W.kitx_bool I.p8 True.intro e (fun z=>nomatch z) h
 |int i=>obtain⟨t,q⟩:=(show ∃t,u=Value.int i t from rx);cases q;exact jU PySem.W.kitx_int I.p8 True.intro e (fun z=>nomatch z) h
 |str y=>obtain⟨t,q⟩:=(show ∃t,u=Value.str y t from rx);cases q;exact jU PySem.W.kitx_str I.p8 True.intro e (fun z=>nomatch z) h
 |Ny y=>obtain⟨t,q⟩:=(show ∃t,u=Value.float y t from rx);cases q;exact jU PySem.W.kitx_float I.p8 True.intro e (fun z=>nomatch z) h
 |@lst a xs ea=>
  cases (show u=Value.ref a from rx);obtain⟨_,_,n,_,h1⟩:=(show cf X.prog X.w H s.heap a (.lst xs) from I.ck a _ ea)
  exact jU PySem.W.kitx_list I.p8 ⟨_,h1,rfl⟩ e (fun z=>nomatch z) h
 |@mK a ob xs ea=>
  cases (show u=Value.ref a from rx);obtain⟨_,_,_,n,_,h1⟩:=(show cf X.prog X.w H s.heap a (.mK ob (.lst xs)) from I.ck a _ ea)
  exact jU PySem.W.kitx_list I.p8 ⟨_,h1,rfl⟩ e (fun z=>nomatch z) h
 |@tup a xs ea=>
  cases (show u=Value.ref a from rx);obtain⟨_,_,_,p⟩:=(show cf X.prog X.w H s.heap a (.tup xs) from I.ck a _ ea)
  obtain⟨o,h1,h2,_⟩:=p;exact jU PySem.W.kitx_tuple I.p8 ⟨o,h1,h2⟩ e (fun z=>nomatch z) h
 |@dK a kvs ea=>
  cases (show u=Value.ref a from rx);obtain⟨_,_,vs,_,p⟩:=(show cf X.prog X.w H s.heap a (.dK kvs) from I.ck a _ ea)
  obtain⟨o,es,ep,h1,h2,_⟩:=p;exact jU PySem.W.kitx_dict I.p8 ⟨o,h1,h2.1⟩ e (fun z=>nomatch z) h
 |@dT a kvs ea=>
  cases (show u=Value.ref a from rx);obtain⟨_,_,xs,_,o,es,ep,h1,h2,_⟩:=(show cf X.prog X.w H s.heap a (.dT kvs) from I.ck a _ ea)
  exact jU PySem.W.kitx_dict I.p8 ⟨o,h1,h2.1⟩ e (fun z=>nomatch z) h
 |@ins a C dx fs ea cl ha hn WY hm=>
  cases (show u=Value.ref a from rx);obtain⟨mA,O,_⟩:=qN I.ck ea;obtain⟨od,J,_⟩:=O.look;exact jU (PySem.W.kitx_own (cl.get _) cl.hd ha hn WY hm) I.p8 J e (fun z=>nomatch z) h
end
structure bA(k:Nat)(A:Around):Prop where
 hd:A.handled=none
 dp:A.depth+3*k+5<recursionLimit
 un:A.units+16*k+200<cLine
 gd:A.guards=some []
theorem bA.mono(r:bA k A)(h:j<=k):bA j A:=⟨r.hd,by have:=r.dp;lia,by have:=r.un;lia,r.gd⟩
theorem bA.deeper(r:bA (k+1) A)(env:Env):bA k (A.deeper env):=
 ⟨r.hd,by have:=r.dp;show A.depth+1+3*k+5<_;lia,by have:=r.un;show A.units+3+16*k+200<_;lia,r.gd⟩
theorem An{A:Around}{C:Addr}{us:List Value}{kw:List (Str×Value)}:(A.under (.builtin "type.__call__" ⟨.ref C::us,kw⟩)).depth=A.depth+1:=by
 first|rfl|simp[Around.under,Code.weight,Code.isCreation,Code.isGuard,Code.isCaller,Code.frames,Code.isFrame,guardIds]
theorem Ao{A:Around}{C:Addr}{us:List Value}{kw:List (Str×Value)}:(A.under (.builtin "type.__call__" ⟨.ref C::us,kw⟩)).units=A.units+1:=by
 first|rfl|simp[Around.under,Code.cUnits,Code.frames,Code.isFrame]
theorem bA.make(r:bA (k+1) A)(C:Addr)(us:List Value)(kw:List (Str×Value)):bA k (A.under (.builtin "type.__call__" ⟨.ref C::us,kw⟩)):=
 ⟨r.hd,by have:=r.dp;rw[An];lia,by have:=r.un;rw[Ao];lia,r.gd⟩
theorem bA.depth(r:bA k A):A.depth<recursionLimit:=by have:=r.dp;lia
theorem bA.u(r:bA k A)(h:n<=200:=by decide):A.units+n<cLine:=by have:=r.un;lia
def mW:TA:=fun _ H Q=>Q [] H
def dR(ta:TE)(tr:TA):TA:=fun σ H Q=>ta σ H fun x H1=>tr σ H1 fun xs H2=>Q (x::xs) H2
section
variable {X:Cx} {e:Expr} {es:List Expr} {te:TE} {t:TA} {pos:Pos}
theorem af:PA X [] mW:=fun _ _ _ _ H Q I h=>Calls.spliced_nil ⟨[],H,I,.nil,h⟩
theorem aa(ha:PE X e te)(hr:PA X es t)(hs:starEach (e::es) X.env=(false,eval e X.env)::starEach es X.env:=by rfl):PA X (e::es) (dR te t):=by
 intro pos ae s σ H Q I h;rw[hs];show wpAny _ _ (spliced ((false,eval e X.env)::backTo pos (starEach es X.env))) _ _ s;refine Calls.spliced_cons (cz (ha ae s σ H _ I h) fun u s1 ⟨x,H1,I1,r1,q1⟩=>?_);exact cz (hr pos ae s1 σ H1 _ I1 q1) fun us s2 ⟨xs,H2,I2,r2,q2⟩=>⟨x::xs,H2,I2,.cons r1 r2,q2⟩
def NO(t:TA):TE:=fun σ H Q=>t σ H fun xs H1=>xs.length<=sizeLine/\∀p,H1 p=none->Q (.ref p) (upd H1 p (.tup xs))
def WZ(t:TA):TE:=fun σ H Q=>t σ H fun xs H1=>xs.length<=sizeLine/\∀p,H1 p=none->Q (.ref p) (upd H1 p (.lst xs))
theorem jF{x1}(h:PA X es t):PE X (.Tuple es x1 pos) (NO t):=by
 intro ae s σ H Q I hq;refine wpAny_Tuple_spliced (cz (h pos ae s σ H _ I hq) fun us s1 ⟨xs,H1,I1,r,z,q⟩=>⟨by rw[<-r.length];exact z,?_⟩);have hf:H1 s1.heap.objs.size=none:=I1.ck.fresh (aW _);refine⟨.ref s1.heap.objs.size,upd H1 s1.heap.objs.size (.tup xs),I1.laid (t':=s1.toks) (fun b u e=>bz _ e) (aW _) ?_,rfl,q _ hf⟩;exact⟨z,us,r,⟨_,b_ _ rfl,rfl,_,rfl,rfl⟩⟩
theorem eX(h:PA X es t):PE X (.List es pos) (WZ t):=by
 intro ae s σ H Q I hq;refine wpAny_List_spliced (cz (h pos ae s σ H _ I hq) fun us s1 ⟨xs,H1,I1,r,z,q⟩=>⟨by rw[<-r.length];exact z,?_⟩);have hf:H1 s1.heap.objs.size=none:=I1.ck.fresh (aW _);refine⟨.ref s1.heap.objs.size,upd H1 s1.heap.objs.size (.lst xs),I1.laid (t':=s1.toks) (fun b u e=>bz _ e) (aW _) ?_,rfl,q _ hf⟩;exact⟨z,us,0,r,b_ _ rfl⟩
end
abbrev Sp:=List V->Hp->VK->XK->Prop
abbrev xB:=List Env->Hp->Shared->XK->Value->Shared->Prop
structure Ap(P:Program)(w:World)(K:PySem.W.Frag)(mg:Str->Option Value)(base:Heap)(A:Around)(outer:List Env)(s:Shared)(H:Hp):Prop where
 frames:A.frames=some outer
 mod:Mod K mg base
 bs:∀b o,base.get? b=some o->s.heap.get? b=some o/\H b=none
 Jp:base.objs.size<=s.heap.objs.size
 nQ:s.heap.FunFrames base outer
 JM:∀b∈o_ outer,H b=none
 ck:kC P w H s.heap
 bare:AllBare s.gens
def CE(outer:List Env)(P:Program)(w:World)(H:Hp)(s:Shared)(Q:VK)(u:Value)(s':Shared):Prop:=
 ∃v H',s'.os=s.os/\AllBare s'.gens/\Un (o_ outer) [] H H' s.heap s'.heap/\kC P w H' s'.heap/\bD v u/\Q v H'
def CR(CX:xB)(outer:List Env)(P:Program)(w:World)(H:Hp)(s:Shared)(Q:VK)(E:XK)(r:Result)(s':Shared):Prop:=
 match r with
 |.ok (.ret u)=>CE outer P w H s Q u s'
 |.ok _=>False
 |.error e=>CX outer H s E e s'
structure bn(P:Program)(w:World)(K:PySem.W.Frag)(mg:Str->Option Value)(base:Heap)(CX:xB)(k:Nat)(f:Addr)(fd:FuncData)(ps:List Str)(sp:Sp):Prop where
 len:∀vs H Q E,sp vs H Q E->vs.length=ps.length
 run:∀ (A:Around) (outer:List Env) (s:Shared) (H:Hp) (args:Args) (us:List Value) (vs:List V) (Q:VK) (E:XK),bA k A->Ap P w K mg base A outer s H->BindsTo s fd args (ps.zip us)->aY vs us->sp vs H Q E->
  codeAny (model P w) A (.call (.ref f) args) (CR CX outer P w H s Q E) s
theorem Ap.make{P:Program}{w:World}{K:PySem.W.Frag}{mg:Str->Option Value}{base:Heap}{A:Around}{outer:List Env}{s:Shared}{H:Hp}(e:Ap P w K mg base A outer s H)(C:Addr)(us:List Value)(kw:List (Str×Value)):
  Ap P w K mg base (A.under (.builtin "type.__call__" ⟨.ref C::us,kw⟩)) outer s H:=⟨by first|exact e.frames|(simpa [Around.under,Code.envs,Code.isFrame,pushEnvs] using e.frames),e.mod,e.bs,e.Jp,e.nQ,e.JM,e.ck,e.bare⟩
section
variable {X:Cx} {ae:List (Addr×Obj)} {σ:St} {H:Hp} {s s':Shared}
theorem aI.R7(I:aI X ae σ H s):Ap X.prog X.w X.K X.mg X.base X.A X.stack s H:=
 ⟨I.ok.frames,I.ok.mod,I.bs,bj I.ok.Jp I.sz,I.stack,I.wf,I.ck,I.bare⟩
theorem aI.after(I:aI X ae σ H s)(h:CE X.stack X.prog X.w H s Q u s'):EP X ae σ Q u s':=by
 obtain⟨v,H',os,bare,un,ck,r,q⟩:=h;obtain⟨hh,g,d,t,os'⟩:=s';obtain rfl:os'=s.os:=os;exact⟨v,H',I.call (h':=hh) (g':=g) (d':=d) (t':=t) (ch:=[]) un ck bare (fun b z=>absurd z (by simp)),r,q⟩
end
def nV(sp:Sp)(qO:List V)(E:XK)(t:TA):TE:=fun σ H Q=>t σ H fun vs H1=>sp (vs++qO) H1 Q E
def B0(C:Addr)(m:Str)(sp:Sp)(qO:List V)(E:XK)(ta:TE)(t:TA):TE:=fun σ H Q=>ta σ H fun x H1=>∃a dx fs,x=.ref a/\H1 a=some (.ins C dx fs)/\fs.lookup m=none/\
 t σ H1 fun vs H2=>sp (x::(vs++qO)) H2 Q E
def R8(C:Addr)(sp:Sp)(qO:List V)(E:XK)(t:TA):TE:=fun σ H Q=>t σ H fun vs H1=>∀x dx,H1 x=none->H1 dx=none->dx≠x->
 sp (.ref x::(vs++qO)) (upd (upd H1 dx (.own x)) x (.ins C dx [])) (fun v H2=>v=.bR/\Q (.ref x) H2) E
def jg(K:PySem.W.Frag)(fd:FuncData)(ps:List Str)(ds:List Value):Prop:=
 ∀ (s:Shared) (us:List Value),K.In s.heap->(us++ds).length=ps.length->BindsTo s fd ⟨us,[]⟩ (ps.zip (us++ds))
theorem jg.all{K:PySem.W.Frag}{fd:FuncData}{ps:List Str}(h:∀us:List Value,us.length=ps.length->bindArgs fd ⟨us,[]⟩=pure (ps.zip us)):jg K fd ps []:=fun s us _ hl=>by
 rw[rM] at hl |-;exact .of_eq (h us hl)
def i8(CX:xB)(X:Cx)(E:XK):Prop:=∀ (ae:List (Addr×Obj)) (σ:St) (H:Hp) (s:Shared) (e:Value) (s':Shared),aI X ae σ H s->CX X.stack H s E e s'->X.xe e s'
section
variable {X:Cx} {CX:xB} {k:Nat} {f C:Addr} {fd:FuncData} {ps:List Str} {sp:Sp} {qO:List V} {ds:List Value} {E:XK} {x m:Str} {p pos qo:Pos} {e o:Expr} {es:List Expr} {ta:TE} {t:TA}
theorem Aq(F:bn X.prog X.w X.K X.mg X.base CX k f fd ps sp)(hr:bA k X.A)(hb:jg X.K fd ps ds)(hd:aY qO ds)(hx:i8 CX X E)(I:aI X ae σ H s)(r:aY vs us)(h:sp (vs++qO) H Q E):wpAny (model X.prog X.w) X.A (call (.ref f) us) (EP X ae σ Q) X.xe s:=by
 have r2:aY (vs++qO) (us++ds):=r.append hd;have hl:(us++ds).length=ps.length:=by rw[<-r2.length];exact F.len _ _ _ _ h
 refine rY (kr (F.run X.A X.stack s H ⟨us,[]⟩ (us++ds) (vs++qO) Q E hr I.R7 (hb s us I.p8 hl) r2 h) fun r s' hq=>?_);cases r with
 |error e=>exact hx ae σ H s e s' I hq
 |ok fl=>
  cases fl with
  |ret u=>exact I.after hq
  |next=>exact False.elim hq
  |brk=>exact False.elim hq
  |cont=>exact False.elim hq
theorem J2(F:bn X.prog X.w X.K X.mg X.base CX k f fd ps sp)(hr:bA k X.A)(hg:Gl X x)(hm:X.mg x=some (.ref f))(hk:PySem.W.keepIn X.K (.ref f)=true)(hb:jg X.K fd ps ds)(hd:aY qO ds)(hx:i8 CX X E)(ha:PA X (e::es) t)(Dz:(x==("__debug__":Str))=false:=by decide)(he:starEach (e::es) X.env=(false,eval e X.env)::starEach es X.env:=by rfl)(uJ:(backTo pos (starEach es X.env)).any (·.1)=false:=by rfl):
  PE X (.Call (.Name x p) (e::es) [] pos) (nV sp qO E t):=by
 intro ae s σ H Q I h;refine rG (qL I hg hm ?_ Dz);refine zF (h₀:=X.base) I.ok.mod.QU hk (cz (ha pos ae s σ H _ I h) fun us s1 ⟨vs,H1,I1,r,q⟩=>⟨I1.p8,?_⟩) he uJ;exact Aq F hr hb hd hx I1 r q
theorem cL(he:PE X o ta)(c:EZ X.K C)(hm:J0 X.K C m f)(F:bn X.prog X.w X.K X.mg X.base CX k f fd ps sp)(hr:bA k X.A)(hb:jg X.K fd ps ds)(hd:aY qO ds)(hx:i8 CX X E)(ha:PA X (e::es) t)(iD:starEach (e::es) X.env=(false,eval e X.env)::starEach es X.env:=by rfl)(uJ:(backTo pos (starEach es X.env)).any (·.1)=false:=by rfl)(ht:eval (.Call (.Attribute o m qo) (e::es) [] pos) X.env=(do
   let ov <- eval o X.env
   standAt qo.atName
   let (f,first) <- holding [ov] (getMethod ov m pl)
   callWith pos f first (backTo pos (starEach (e::es) X.env)) (backToKw pos (keywordEach [] X.env))):=by rfl):
  PE X (.Call (.Attribute o m qo) (e::es) [] pos) (B0 C m sp qO E ta t):=by
 intro ae s σ H Q I h;refine PySem.W.methodCall_KW (pl:=pl) (cz (he ae s σ H _ I h) fun u s1 ⟨x,H1,I1,rx,a,dx,fs,ex,ea,l,q⟩=>?_) ht;subst ex;obtain rfl:u=Value.ref a:=rx;refine sq I1 ea c hm l ?_;refine zF (first:=[.ref a]) (h₀:=X.base) I.ok.mod.QU hm.kp (cz (ha pos ae s1 σ H1 _ I1 q) fun us s2 ⟨vs,H2,I2,r,q2⟩=>⟨I2.p8,?_⟩) iD uJ;exact Aq (us:=.ref a::us) (vs:=.ref a::vs) F hr hb hd hx I2 (.cons rfl r) q2
theorem su{pl:Sem Bool}(he:PE X o ta)(c:EZ X.K C)(hm:J0 X.K C m f)(F:bn X.prog X.w X.K X.mg X.base CX k f fd ps sp)(hr:bA k X.A)(hb:jg X.K fd ps ds)(hd:aY qO ds)(hx:i8 CX X E)(ht:eval (.Call (.Attribute o m qo) [] [] pos) X.env=(do
   let ov <- eval o X.env
   standAt qo.atName
   let (f,first) <- holding [ov] (getMethod ov m pl)
   callWith pos f first (backTo pos (starEach [] X.env)) (backToKw pos (keywordEach [] X.env))):=by rfl):
  PE X (.Call (.Attribute o m qo) [] [] pos) (B0 C m sp qO E ta mW):=by
 intro ae s σ H Q I h;refine PySem.W.methodCall_KW (pl:=pl) (cz (he ae s σ H _ I h) fun u s1 ⟨x,H1,I1,rx,a,dx,fs,ex,ea,l,q⟩=>?_) ht;subst ex;obtain rfl:u=Value.ref a:=rx;refine sq I1 ea c hm l ?_;exact PySem.W.callWith_K0 (first:=[.ref a]) I1.p8 hm.kp (Aq (us:=[.ref a]) (vs:=[.ref a]) F hr hb hd hx I1 (.cons rfl .nil) q)
structure Mk(K:PySem.W.Frag)(C f:Addr):Prop where
 makes:PySem.W.makesIn K C=true
 init:PySem.W.findIn K (.ref C) "__init__"=some (some (.ref f))
 fn:PySem.W.isFn K (.ref f)=true
 kp:PySem.W.keepIn K (.ref C)=true
theorem FP(M:Mk X.K C f)(F:bn X.prog X.w X.K X.mg X.base CX k f fd ps sp)(hr:bA (k+1) X.A)(hb:jg X.K fd ps ds)(hd:aY qO ds)(hx:i8 CX X E)(I:aI X ae σ H s)(r:aY vs us)(h:∀x dx,H x=none->H dx=none->dx≠x->sp (.ref x::(vs++qO)) (upd (upd H dx (.own x)) x (.ins C dx [])) (fun v H2=>v=.bR/\Q (.ref x) H2) E):
  wpAny (model X.prog X.w) X.A (call (.ref C) us) (EP X ae σ Q) X.xe s:=by
 have hq:=h (s.heap.objs.size+1) s.heap.objs.size (I.ck.fresh (Nat.le_succ _)) (I.ck.fresh (aW _)) (aX (iT _));have I2:=aI.made (C:=C) I;have r2:aY (V.ref (s.heap.objs.size+1)::(vs++qO)) (Value.ref (s.heap.objs.size+1)::(us++ds)):=.cons rfl (r.append hd);have hl:(Value.ref (s.heap.objs.size+1)::us++ds).length=ps.length:=by
  have e:=r2.length;rw[F.len _ _ _ _ hq] at e;exact e.symm
 refine rY (FO (f:=f) I.p8 M.makes M.init (eA.mp M.fn) (kr (F.run _ X.stack _ _ ⟨Value.ref (s.heap.objs.size+1)::us,[]⟩ (Value.ref (s.heap.objs.size+1)::(us++ds)) _ _ E (hr.make C us [])
  (I2.R7.make C us []) (hb _ (Value.ref (s.heap.objs.size+1)::us) I2.p8 hl) r2 hq) fun r s' Mn=>?_))
 cases r with
 |error e=>exact hx ae σ _ _ e s' I2 Mn
 |ok fl=>
  cases fl with
  |ret u=>
   obtain⟨v,H',I3,rv,ev,q3⟩:=I2.after Mn;subst ev;exact⟨rv,⟨V.ref (s.heap.objs.size+1),H',I3,rfl,q3⟩⟩
  |next=>exact False.elim Mn
  |brk=>exact False.elim Mn
  |cont=>exact False.elim Mn
theorem B1(M:Mk X.K C f)(F:bn X.prog X.w X.K X.mg X.base CX k f fd ps sp)(hr:bA (k+1) X.A)(hg:Gl X x)(hm:X.mg x=some (.ref C))(hb:jg X.K fd ps ds)(hd:aY qO ds)(hx:i8 CX X E)(ha:PA X (e::es) t)(Dz:(x==("__debug__":Str))=false:=by decide)(he:starEach (e::es) X.env=(false,eval e X.env)::starEach es X.env:=by rfl)(uJ:(backTo pos (starEach es X.env)).any (·.1)=false:=by rfl):
  PE X (.Call (.Name x p) (e::es) [] pos) (R8 C sp qO E t):=by
 intro ae s σ H Q I h;refine rG (qL I hg hm ?_ Dz);refine zF (h₀:=X.base) I.ok.mod.QU M.kp (cz (ha pos ae s σ H _ I h) fun us s1 ⟨vs,H1,I1,r,q⟩=>⟨I1.p8,?_⟩) he uJ;exact FP M F hr hb hd hx I1 r q
end
def PK(X:Cx)(FQ:List Keyword)(t:TA):Prop:=
 ∀ (pos:Pos) (ae:List (Addr×Obj)) (s:Shared) (σ:St) (H:Hp) (Q:List V->Hp->Prop),aI X ae σ H s->t σ H Q->wpAny (model X.prog X.w) X.A (evalAll ((backToKw pos (keywordEach FQ X.env)).map (·.2))) (AP X ae σ Q) X.xe s
section
variable {X:Cx} {CX:xB} {k:Nat} {f C:Addr} {fd:FuncData} {ps ks:List Str} {sp:Sp} {E:XK} {x m:Str} {p pos qo W0:Pos} {e o:Expr} {es:List Expr} {FQ:List Keyword} {te ta:TE} {t tk:TA} {nm:Option Str}
theorem NP:PK X [] mW:=fun _ _ _ _ H Q I h=>wpAny_evalAll_nil ⟨[],H,I,.nil,h⟩
theorem J3(ha:PE X e te)(hr:PK X FQ t):PK X (⟨nm,e,W0⟩::FQ) (dR te t):=by
 intro pos ae s σ H Q I h;show wpAny _ _ (evalAll ((do let v <- eval e X.env;standAt pos;pure v)::(backToKw pos (keywordEach FQ X.env)).map (·.2))) _ _ s;refine wpAny_evalAll_cons (ak (cz (ha ae s σ H _ I h) fun u s1 ⟨x,H1,I1,r1,q1⟩=>ak (iX (wpAny_pure ?_))));exact cz (hr pos ae s1 σ H1 _ I1 q1) fun us s2 ⟨xs,H2,I2,r2,q2⟩=>⟨x::xs,H2,I2,.cons r1 r2,q2⟩
variable {g:List Value->List Value->List Value} {gV:List V->List V->List V}
end
structure aD(N P:List Str)(sc:Scope):Prop where
 kind:sc.kind=.function
 co:sc.isCoroutine=false
 gen:sc.isGenerator=false
 nd:N.Nodup
 pre:N.take P.length=P
 par:∀x∈P,sc.names.lookup x=some .local\/sc.names.lookup x=some .cell
 NQ:∀y∈sc.names,y.2≠.free
theorem uO{kindOf:Str->Option NameKind}{x:Str}:∀ {binds:List (Str×Value)} {m:Str->Option Value},(∀v,(x,v)∉binds)->bindL kindOf binds m x=m x
 |[],_,_=>rfl
 |(n,v)::r,m,h=>by
  unfold bindL;rw[uO fun w hw=>h w (bJ _ hw)];split
  .have:x≠n:=by rintro rfl;exact h v bG
   simp[this]
  .rfl
theorem uP{kindOf:Str->Option NameKind}{x:Str}:∀ {binds:List (Str×Value)} {m:Str->Option Value},(∀v,(x,v)∉binds)->bindC kindOf binds m x=m x
 |[],_,_=>rfl
 |(n,v)::r,m,h=>by
  unfold bindC;rw[uP fun w hw=>h w (bJ _ hw)];split
  .rfl
  .have:x≠n:=by rintro rfl;exact h v bG
   simp[this]
theorem uQ{kindOf:Str->Option NameKind}{x:Str}{v:Value}:∀ {P:List Str} {vs:List Value} {i:Nat} {m:Str->Option Value},P.Nodup->P[i]?=some x->vs[i]?=some v->kindOf x=some .local->
  bindL kindOf (P.zip vs) m x=some v
 |[],_,_,_,_,h,_,_=>by simp at h
 |_::_,[],_,_,_,_,h,_=>by simp at h
 |p::P,w::vs,0,m,nd,h1,h2,hk=>by
  simp at h1 h2;subst h1;subst h2;show bindL kindOf ((p,w)::P.zip vs) m p=_;unfold bindL;rw[uO fun v hv=>(cX.mp nd).1 (rL hv).1,ai hk];simp
 |p::P,w::vs,i+1,m,nd,h1,h2,hk=>by
  show bindL kindOf ((p,w)::P.zip vs) m x=_;unfold bindL;exact uQ (i:=i) (cX.mp nd).2 (by simpa using h1) (by simpa using h2) hk
theorem uR{kindOf:Str->Option NameKind}{x:Str}{v:Value}:∀ {P:List Str} {vs:List Value} {i:Nat} {m:Str->Option Value},P.Nodup->P[i]?=some x->vs[i]?=some v->kindOf x≠some .local->
  bindC kindOf (P.zip vs) m x=some v
 |[],_,_,_,_,h,_,_=>by simp at h
 |_::_,[],_,_,_,_,h,_=>by simp at h
 |p::P,w::vs,0,m,nd,h1,h2,hk=>by
  simp at h1 h2;subst h1;subst h2;show bindC kindOf ((p,w)::P.zip vs) m p=_;unfold bindC;rw[uP fun v hv=>(cX.mp nd).1 (rL hv).1,ap hk];simp
 |p::P,w::vs,i+1,m,nd,h1,h2,hk=>by
  show bindC kindOf ((p,w)::P.zip vs) m x=_;unfold bindC;exact uR (i:=i) (cX.mp nd).2 (by simpa using h1) (by simpa using h2) hk
def start(N:List Str)(vs:List V):St:=vs.map some++List.replicate (N.length-vs.length) none
def jG(CX:xB)(P:Program)(w:World)(K:PySem.W.Frag)(mg:Str->Option Value)(base:Heap)(N:List Str)(qual:Str)(scope:Scope)(f:Addr)(cd:Value)(A:Around)(outer:List Env)(s:Shared)(H:Hp)(E:XK):Cx where
 prog:=P
 w:=w
 K:=K
 mg:=mg
 base:=base
 A:=A.deeper (envOfC qual scope s.heap.objs.size f cd)
 N:=N
 s₀:=s
 H₀:=H
 env:=envOfC qual scope s.heap.objs.size f cd
 outer:=outer
 stack:=envOfC qual scope s.heap.objs.size f cd::outer
 ex:=[]
 calm:=true
 fn:=fun _=>true
 pn:=[]
 xe:=fun e s'=>wpAny (model P w) (A.deeper (envOfC qual scope s.heap.objs.size f cd)) (leaving (envOfC qual scope s.heap.objs.size f cd) e) (fun _ FS=>CX outer H s E e FS) (fun e' FS=>CX outer H s E e' FS) s'
theorem xK{sc:Scope}{n:Nat}{x:Str}(h:sc.names.lookup x=some .cell):∃c,(cellsFrom n sc.names []).lookup x=some c:=by
 have q:=PySem.W.cellsFrom_some sc.names n [] (.inl h);exact zh.mp q
theorem DA{CX:xB}{P:Program}{w:World}{K:PySem.W.Frag}{mg:Str->Option Value}{base:Heap}{N ps:List Str}{qual:Str}{scope:Scope}{f:Addr}{cd:Value}{A:Around}{outer:List Env}{s s1:Shared}{H:Hp}{E:XK}{us:List Value}{vs:List V}(S:aD N ps scope)(hd:A.handled=none)(e0:Ap P w K mg base A outer s H)(hl:vs.length=ps.length)(r:aY vs us)(x:InCallC s s.heap.objs.size (bindL (envOfC qual scope s.heap.objs.size f cd).kindOf (ps.zip us) fun _=>none) (cellsFrom (s.heap.objs.size+1) scope.names []) (bindC (envOfC qual scope s.heap.objs.size f cd).kindOf (ps.zip us) fun _=>none) s1):
  aI (jG CX P w K mg base N qual scope f cd A outer s H E) [] (start N vs) H s1:=by
 have uJ:ps.length<=N.length:=by have:=congrArg List.length S.pre;rw[j9] at this;lia
 obtain⟨h1,tk,rfl,hk⟩:=x.done;have Q4:∀b:Addr,b∉(jG CX P w K mg base N qual scope f cd A outer s H E).ex:=fun b z=>absurd (show b∈([]:List Addr) from z) (by simp);refine⟨⟨e0.mod,S.kind,rfl,rfl,aW _,fun y z c h1 h2=>?_,fun y hy=>?_,fun y c _ h=>?_,fun _=>hd,Around.frames_deeper e0.frames,.inr ⟨rfl,rfl⟩,fun b z=>absurd z (Q4 b),e0.bs,e0.Jp,fun b _ _=>Q4 b,fun b z=>absurd z (Q4 b),e0.nQ,e0.JM⟩,
  rfl,e0.bare,Un.kept hk,⟨_,x.toInCall.ns,fun i y v h1 h2 h3=>?_⟩,fun y c h=>⟨_,x.cell y c h⟩,e0.ck.fresh (aW _),fun y c h=>?_,fun p hp=>absurd (show p∈([]:List (Addr×Obj)) from hp) (by simp),e0.ck.kept hk,?_⟩
 .exact name_of_addr x.apart (kg h1) (kg h2)
 .have hy:scope.names.lookup y=some .cell\/scope.names.lookup y=some .free:=hy;rcases hy with hy|hy
  .exact xK hy
  .exact absurd rfl (S.NQ _ (kg hy))
 .exact jy (x.above y c (kg h))
 .have hi:i<vs.length:=by
   unfold start at h2;by_cases hi:i<vs.length
   .exact hi
   .rw[re (by simpa using hi)] at h2;rw[List.getElem?_replicate] at h2;split at h2 <;> cases h2
  have ha:vs[i]?=some v:=by
   unfold start at h2;rw[nI (by simpa using hi),bL] at h2;cases e:vs[i]? with
   |none=>rw[e] at h2;cases h2
   |some a=>rw[e] at h2;cases h2;rfl
  obtain⟨u,hu,rv⟩:=r.get ha;have hp:ps[i]?=some y:=by
   rw[<-S.pre,rk (by lia)];exact h1
  have ndP:ps.Nodup:=by rw[<-S.pre];exact S.nd.sublist (List.take_sublist _ _)
  refine⟨u,rv,?_⟩;rcases S.par y (cZ hp) with k|k
  .exact .inl ⟨k,uQ ndP hp hu k⟩
  .obtain⟨c,e⟩:=xK (n:=s.heap.objs.size+1) k;refine .inr ⟨.inl k,c,e,?_⟩;have q:=x.cell y c e;rw[uR ndP hp hu (by show scope.names.lookup y≠_;rw[k];decide)] at q;exact q
 .exact e0.ck.fresh (jy (x.above y c (kg h)))
 .unfold start;show _=N.length;rw[dY,aP,me];lia
theorem FU{CX:xB}{P:Program}{w:World}{K:PySem.W.Frag}{mg:Str->Option Value}{base:Heap}{k:Nat}{f:Addr}{name qual:Str}{params:Arguments}{body:List Stmt}{scope:Scope}{dV kV nB pm dz ct oc:Value}{an od:Option Addr}{xL:Array (Option Value)}{N ps:List Str}{sp:Sp}(lk:K.lookup f=some ⟨oc,od,.func (PySem.W.fnOf name qual params body scope dV kV nB pm an dz ct),xL⟩)(um:PySem.W.codeIn K dz qual=true)(S:aD N ps scope)(len:∀vs H Q E,sp vs H Q E->vs.length=ps.length)(sv:∀ (A:Around) (outer:List Env) (s:Shared) (H:Hp) (vs:List V) (Q:VK) (E:XK),bA k (A.deeper (envOfC qual scope s.heap.objs.size f dz))->sp vs H Q E->
   ∃t,y0 (jG CX P w K mg base N qual scope f dz A outer s H E) body t/\t { nx:=fun _ H'=>Q .bR H',rt:=Q } (start N vs) H):
  bn P w K mg base CX (k+1) f (PySem.W.fnOf name qual params body scope dV kV nB pm an dz ct) ps sp:=by
 refine⟨len,fun A outer s H args us vs Q E hr e0 hb r E2=>?_⟩;have hl:=len _ _ _ _ E2;have KX:K.In s.heap:=e0.mod.QU.keeps fun b o e=>(e0.bs b o e).1;have lim:s.heap.NoLimit:=e0.mod.nolimit.keeps fun b o e=>(e0.bs b o e).1;have R9:∀y∈ps.zip us,scope.names.lookup y.1=some .local\/(scope.names.lookup y.1=some .cell/\((cellsFrom (s.heap.objs.size+1) scope.names []).lookup y.1).isSome=true):=fun ⟨n,v⟩ hy=>by
  rcases S.par n (rL hy).1 with q|q
  .exact .inl q
  .exact .inr ⟨q,PySem.W.cellsFrom_some _ _ _ (.inl q)⟩
 refine codeAny_call_function hr.depth (KX _ _ lk) rfl S.co S.gen rfl (PySem.W.codeRec_of KX um) (hb _ _ _ _ ?_);refine wpAny_newFunctionEnv_cells S.kind R9 fun env he s1 x=>?_;subst he;refine⟨lim.keeps x.toInCall.keep,codeAny_func ?_⟩;obtain⟨t,ht,hq⟩:=sv A outer s H vs Q E (hr.deeper _) E2;have I:aI (jG CX P w K mg base N qual scope f dz A outer s H E) [] (start N vs) H s1:=DA S hr.hd e0 hl r x;refine gy (ht [] s1 (start N vs) H _ I hq) (fun fl s' hs=>?_) fun e s' hs=>hs;have fin:∀ {σ':St} {H':Hp} {v:V} {u:Value},aI (jG CX P w K mg base N qual scope f dz A outer s H E) [] σ' H' s'->bD v u->Q v H'->CE outer P w H s Q u s':=
  fun {σ' H' v u} J rv q=>⟨v,H',J.os,J.bare,J.base,J.ck,rv,q⟩
 cases fl with
 |ret u=>
  obtain⟨v,σ',H',J,rv,q⟩:=hs;exact fin J rv q
 |next=>
  obtain⟨σ',H',J,q⟩:=hs;exact fin (v:=V.bR) (u:=Value.none) J rfl q
 |brk=>
  obtain⟨_,_,_,q⟩:=hs;exact False.elim q
 |cont=>
  obtain⟨_,_,_,q⟩:=hs;exact False.elim q
section
variable {X:Cx} {x:Str} {p pos:Pos} {e:Expr} {es:List Expr} {t:TA} {id T:String} {r:List V->Hp->VK->Prop}
def tCB(r:List V->Hp->VK->Prop)(t:TA):TE:=fun σ H Q=>t σ H fun vs H1=>r vs H1 Q
theorem aJ(hc:gu X (.builtin id) r)(hg:Gl X x)(hm:X.mg x=none)(hv:bootBuiltins x=some (.builtin id))(ha:PA X (e::es) t)(hn:x≠"__name__":=by decide)(Dz:(x==("__debug__":Str))=false:=by decide)(he:starEach (e::es) X.env=(false,eval e X.env)::starEach es X.env:=by rfl)(uJ:(backTo pos (starEach es X.env)).any (·.1)=false:=by rfl):PE X (.Call (.Name x p) (e::es) [] pos) (tCB r t):=by
 intro ae s σ H Q I h;refine rG (kH I hg hm hv ?_ hn Dz);exact PyProof.Rows.callWith_builtin1 (cz (ha pos ae s σ H _ I h) fun us s1 ⟨vs,H1,I1,r1,q1⟩=>hc ae s1 σ H1 vs us Q I1 r1 q1) he uJ
theorem bW(hc:gu X (.type T) r)(hg:Gl X x)(hm:X.mg x=none)(hv:bootBuiltins x=some (.type T))(ha:PA X (e::es) t)(hn:x≠"__name__":=by decide)(Dz:(x==("__debug__":Str))=false:=by decide)(he:starEach (e::es) X.env=(false,eval e X.env)::starEach es X.env:=by rfl)(uJ:(backTo pos (starEach es X.env)).any (·.1)=false:=by rfl):PE X (.Call (.Name x p) (e::es) [] pos) (tCB r t):=by
 intro ae s σ H Q I h;refine rG (kH I hg hm hv ?_ hn Dz);exact rf (cz (ha pos ae s σ H _ I h) fun us s1 ⟨vs,H1,I1,r1,q1⟩=>hc ae s1 σ H1 vs us Q I1 r1 q1) he uJ
end
end L2
namespace HT
open PySem PyProof.Rows
section
open PySem.SeqAt
open PySem.AutoSeq1 (wpAny_loadPart')
open PySem.MeetsSeq PySem.MeetsSeq2 PySem.MeetsSeq3
end
section
variable {prog:Program} {w:World} {A:Around} {E:Value->Shared->Prop} {s:Shared}
def fX(n d:Nat):Option Int->Nat
 |none=>d
 |some v=>if v<0 then (v+(n:Int)).toNat else min v.toNat n
theorem NR(n d:Nat)(hd:d<=n)(o:Option Int):fX n d o<=n:=by
 cases o with
 |none=>exact hd
 |some v=>
  show (if v<0 then (v+(n:Int)).toNat else min v.toNat n)<=n;by_cases hv:v<0
  .rw[ai hv];lia
  .rw[ap hv];exact Nat.min_le_right _ _
theorem B3(v:Int)(n d:Nat):(if v<0 then max (v+(n:Int)) 0 else min v (n:Int))=((fX n d (some v):Nat):Int):=by
 show (if v<0 then max (v+(n:Int)) 0 else min v (n:Int))=(((if v<0 then (v+(n:Int)).toNat else min v.toNat n):Nat):Int);by_cases hv:v<0
 .simp only[ai hv];lia
 .simp only[ap hv];lia
theorem Ar(lo hi:Option Int)(n:Nat):Builtin.Slice.sliceAdjust lo hi 1 (n:Int)=(((fX n 0 lo:Nat):Int),((fX n n hi:Nat):Int)):=by
 have h1:¬ ((1:Int)<0):=by lia
 unfold Builtin.Slice.sliceAdjust;simp only[h1,iZ];refine gD ?_ ?_
 .cases lo with
  |none=>rfl
  |some v=>exact B3 v n 0
 .cases hi with
  |none=>rfl
  |some v=>exact B3 v n n
theorem As(i j:Nat):Builtin.Slice.slicePlaces (i:Int) (j:Int) 1=j-i:=by
 unfold Builtin.Slice.slicePlaces;have h1:(1:Int) > 0:=by lia
 simp only[h1,mE,Int.ediv_one];split <;> lia
theorem sw(p:IsPart v o)(h:Q o s):wpAny (model prog w) A (Builtin.Slice.slicePartIndex v) Q E s:=by
 cases p with
 |none=>exact slicePart_none h
 |int i t=>exact slicePart_int h
theorem jh{sl:Addr}{vl vu:Value}{lo hi:Option Int}{n:Nat}{Q:Int×Int×Nat->Shared->Prop}(hs:s.heap.IsSliceOf sl vl vu .none)(pl:IsPart vl lo)(pu:IsPart vu hi)(h:Q (((fX n 0 lo:Nat):Int),1,fX n n hi-fX n 0 lo) s):wpAny (model prog w) A (Builtin.Slice.sliceApplied (.ref sl) (pure (n:Int))) Q E s:=by
 obtain⟨os,Ju,VY,R_⟩:=id hs;unfold Builtin.Slice.sliceApplied Builtin.Slice.sliceFields;refine ak (ak (d0 Ju R_ (x:=vl) rfl (ak (d0 Ju R_ (x:=vu) rfl (ak (d0 Ju R_ (x:=.none) rfl (wpAny_pure ?_)))))));refine ak (slicePart_none ?_);show wpAny _ _ (if ((1:Int)==0)=true then _ else _) _ _ s;rw[ap (by decide)];refine ak (sw pl (ak (sw pu (ak (wpAny_pure ?_)))));show wpAny _ _ (match Builtin.Slice.sliceAdjust lo hi 1 (n:Int) with|(lo,hi)=>pure (lo,(1:Int),Builtin.Slice.slicePlaces lo hi 1)) _ _ s;rw[Ar lo hi n];show wpAny _ _ (pure (((fX n 0 lo:Nat):Int),(1:Int),Builtin.Slice.slicePlaces ((fX n 0 lo:Nat):Int) ((fX n n hi:Nat):Int) 1)) _ _ s;rw[As];exact wpAny_pure h
theorem FV(xs:Array Value)(i k:Nat):((List.range k).filterMap fun (m:Nat)=>xs[((i:Int)+(m:Int)*1).toNat]?).toArray=((xs.toList.drop i).take k).toArray:=by
 have e:(fun (m:Nat)=>xs[((i:Int)+(m:Int)*1).toNat]?)=fun m=>xs[i+m]?:=by
  funext m;have:((i:Int)+(m:Int)*1).toNat=i+m:=by lia
  rw[this]
 rw[e];have:=pick_run xs i k;rw[zL] at this;have e2:((fun x=>xs[x]?) ∘ fun x=>i+x)=fun m=>xs[i+m]?:=rfl;rw[e2] at this;rw[this]
theorem nW{t sl:Addr}{items:Array Value}{vl vu:Value}{lo hi:Option Int}{Q:Value->Shared->Prop}(ht:IsTup s.heap t items)(hs:s.heap.IsSliceOf sl vl vu .none)(pl:IsPart vl lo)(pu:IsPart vu hi)(hw:¬ (fX items.size 0 lo=0/\fX items.size items.size hi=items.size))(h:Q (.ref s.heap.objs.size) { s with heap:=s.heap.push { cls:=.type "tuple",data:=.seq ((items.toList.drop (fX items.size 0 lo)).take (fX items.size items.size hi-fX items.size 0 lo)).toArray } })(hsz:items.size<=sizeLine):wpAny (model prog w) A (getItem (.ref t) (.ref sl)) Q E s:=by
 have B4:sizeOk (.seq ((items.toList.drop (fX items.size 0 lo)).take (fX items.size items.size hi-fX items.size 0 lo)).toArray):=by
  show ((items.toList.drop (fX items.size 0 lo)).take (fX items.size items.size hi-fX items.size 0 lo)).toArray.size<=sizeLine;rw[cV,j9,List.length_drop,eN];lia
 have hj:fX items.size items.size hi<=items.size:=NR _ _ (aW _) hi;obtain⟨os,Ju,VY,R_⟩:=id hs;have W1:s.TypeIs (.ref sl) "slice":=⟨os,Ju,VY⟩
 unfold getItem;try with_reducible refine gm ?_
 first|refine ak (wpAny_pure ?_)|skip
 refine ak (wpAny_sequenceKey ht.typeIs (by decide) ?_);refine ak (lS (name:=Str.ofString "__getitem__") ht.typeIs uH
  (h_ uH ht.typeIs entry_tuple_getitem ?_ (args_tuple_getitem _ _)))
 show wpAny _ _ (Builtin.Tuple.tupleItemsOf (.ref t) >>= _) _ _ s;refine ak (tupleItemsOf_ ht ?_);refine ak (wd W1 ?_);rw[ai (by decide)];refine ak (jh hs pl pu ?_);have FW:¬ ((((fX items.size 0 lo:Nat):Int)==0&&(1:Int)==1&&(fX items.size items.size hi-fX items.size 0 lo)==items.size)=true):=by
  intro q;rw[gh,gh] at q;have q1:((fX items.size 0 lo:Nat):Int)=0:=eq_of_beq q.1.1;have q2:fX items.size items.size hi-fX items.size 0 lo=items.size:=eq_of_beq q.2;exact hw ⟨by lia,by lia⟩
 show wpAny _ _ (if (((fX items.size 0 lo:Nat):Int)==0&&(1:Int)==1&&(fX items.size items.size hi-fX items.size 0 lo)==items.size)=true then _ else _) _ _ s;rw[ap FW,FV];first
  |exact ak (m:=Builtin.Tuple.tupleExact _) (hZ (wpAny_pure ⟨_,rfl,wpAny_pure h⟩) B4)
  |exact ak (m:=Builtin.Tuple.tupleExact _) (hZ (ak (wpAny_pure (wpAny_pure ⟨_,rfl,wpAny_pure h⟩))) B4)
  |exact ak (ak (m:=Builtin.Tuple.tupleExact _) (hZ (wpAny_pure (wpAny_pure ⟨_,rfl,wpAny_pure h⟩)) B4))
  |exact ak (ak (m:=Builtin.Tuple.tupleExact _) (hZ (wpAny_pure ⟨_,rfl,wpAny_pure h⟩) B4))
end
end HT
namespace L2
open PySem PySem.Spec PyProof.Rows
abbrev TO:=St->Hp->(Option Int->Hp->Prop)->Prop
def PO(X:Cx)(e:Option Expr)(t:TO):Prop:=
 ∀ (ae:List (Addr×Obj)) (s:Shared) (σ:St) (H:Hp) (Q:Option Int->Hp->Prop),aI X ae σ H s->t σ H Q->
  wpAny (model X.prog X.w) X.A (evalPart e X.env) (fun u s'=>∃o H',aI X ae σ H' s'/\IsPart u o/\Q o H') X.xe s
def B5:TO:=fun _ H Q=>Q none H
def Mo(t:TE):TO:=fun σ H Q=>t σ H fun x H1=>∃i,x=.int i/\Q (some i) H1
theorem At{ns:List Int}:∀ {us:List Value},aY (ns.map V.int) us->IntsAre us ns:=by
 induction ns with
 |nil=>intro us r;rw[List.map_nil] at r;cases r;exact .nil
 |cons n ns ih=>
  intro us r;rw[fg] at r;cases r with
  |cons r1 r2=>
   obtain⟨t,e⟩:=r1;subst e;exact .cons n t (ih r2)
section
variable {X:Cx} {e:Expr} {te:TE} {lo hi:Option Expr} {tl th:TO} {pos p2:Pos}
theorem B6:PO X none B5:=by
 intro ae s σ H Q I h;rw[evalPart_none];exact wpAny_pure ⟨none,H,I,.none,h⟩
theorem B7(h:PE X e te):PO X (some e) (Mo te):=by
 intro ae s σ H Q I hw;rw[evalPart_some];refine cz (h ae s σ H _ I hw) fun u s1 ⟨x,H1,I1,r1,q1⟩=>?_;obtain⟨i,rfl,q⟩:=q1;obtain⟨t,rfl⟩:=r1;exact⟨some i,H1,I1,.int i t,q⟩
def W2(X:Cx)(r:V->Option Int->Option Int->Hp->VK->Prop):Prop:=
 ∀ (ae:List (Addr×Obj)) (s:Shared) (σ:St) (H:Hp) (x:V) (v vl vu:Value) (lo hi:Option Int) (sl:Addr) (Q:VK),aI X ae σ H s->bD x v->s.heap.IsSliceOf sl vl vu .none->IsPart vl lo->IsPart vu hi->r x lo hi H Q->
  ∃T id,typeLookup (.type T) "__getitem__"=pure (some (.builtin id))/\s.TypeIs v T/\wpAny (model X.prog X.w) X.A (getItem v (.ref sl)) (EP X ae σ Q) X.xe s
def tSl(r:V->Option Int->Option Int->Hp->VK->Prop)(te:TE)(tl th:TO):TE:=fun σ H Q=>te σ H fun x H1=>tl σ H1 fun l H2=>th σ H2 fun u H3=>r x l u H3 Q
theorem xM(hr:W2 X r)(he:PE X e te)(hl:PO X lo tl)(hu:PO X hi th):PE X (.Subscript e (.Slice lo hi none p2) pos) (tSl r te tl th):=by
 intro ae s σ H Q I h;refine Subscript_ (cz (he ae s σ H _ I h) fun v s1 ⟨x,H1,I1,r1,q1⟩=>?_);refine wpAny_Slice (cz (hl ae s1 σ H1 _ I1 q1) fun vl s2 ⟨l,H2,I2,pl,q2⟩=>cz (hu ae s2 σ H2 _ I2 q2) fun vu s3 ⟨u,H3,I3,pu,q3⟩=>?_);rw[evalPart_none];refine wpAny_pure ?_;have I4:aI X ae σ H3 { s3 with heap:=s3.heap.push { cls:=.type "slice",data:=.fields #[vl,vu,.none] } }:=I3.kept (t':=s3.toks) fun b ob q=>bz _ q;obtain⟨T,id,hT,ht,hg⟩:=hr ae { s3 with heap:=s3.heap.push { cls:=.type "slice",data:=.fields #[vl,vu,.none] } } σ H3 x v vl vu l u s3.heap.objs.size Q I4 r1 (Heap.IsSliceOf.new ..) pl pu q3;show wpAny (model X.prog X.w) X.A (subscriptTail e (.Slice lo hi none p2) v (.ref s3.heap.objs.size)) (EP X ae σ Q) X.xe { s3 with heap:=s3.heap.push { cls:=.type "slice",data:=.fields #[vl,vu,.none] } };exact tail_any (ops:=[.ref s3.heap.objs.size,v]) ht hT hg (by with_unfolding_all rfl)
def wz(xs:List V)(lo hi:Option Int):List V:=(xs.drop (HT.fX xs.length 0 lo)).take (HT.fX xs.length xs.length hi-HT.fX xs.length 0 lo)
theorem xN(xs:List V)(lo hi:Option Int):(wz xs lo hi).length<=xs.length:=by
 unfold wz;rw[j9,List.length_drop];lia
def W3(K:PySem.W.Frag):V->Option Int->Option Int->Hp->VK->Prop:=fun x lo hi H Q=>∃a xs,x=.ref a/\bp K H a xs/\
 ¬ (HT.fX xs.length 0 lo=0/\HT.fX xs.length xs.length hi=xs.length)/\∀p,H p=none->Q (.ref p) (upd H p (.tup (wz xs lo hi)))
theorem NS:W2 X (W3 X.K):=by
 intro ae s σ H x v vl vu lo hi sl Q I rx hs pl pu h;obtain⟨a,xs,rfl,hx,hw,q⟩:=h;cases rx;obtain⟨its,r,ht,hz⟩:=I.tuple hx;have de:its.toArray.size=xs.length:=by rw[cV];exact r.length.symm
 refine⟨"tuple",_,uH.lookup,ht.typeIs,?_⟩;refine HT.nW ht hs pl pu (by rw[de];exact hw) ?_ (by rw[de];exact hz);rw[de];refine⟨.ref s.heap.objs.size,_,I.laid (t':=s.toks) (o:=.tup (wz xs lo hi)) (fun b ob q=>bz _ q) (aW _) ?_,rfl,q _ (I.ck.fresh (aW _))⟩;exact⟨bj (xN xs lo hi) hz,_,(r.drop (HT.fX xs.length 0 lo)).take (HT.fX xs.length xs.length hi-HT.fX xs.length 0 lo),mL.new _ _⟩
end
def E3(n:Nat)(i:Int):Option Nat:=if 0<=i then (if i<n then some i.toNat else none) else if -(n:Int)<=i then some (i+n).toNat else none
def FX{α:Type}(xs:List α)(i:Int):Option α:=(E3 xs.length i).bind fun j=>xs[j]?
theorem B8(h:E3 n i=some j):seqIndex? i n=some j/\j<n/\-(n:Int)<=i/\i<n:=by
 unfold E3 at h;by_cases h0:0<=i
 .rw[ai h0] at h;by_cases h1:i<n
  .rw[ai h1] at h;have e:i.toNat=j:=a8 h;exact⟨by rw[seqIndex_of h0 h1,e],by lia,by lia,h1⟩
  .rw[ap h1] at h;cases h
 .rw[ap h0] at h;by_cases h1:-(n:Int)<=i
  .rw[ai h1] at h;have e:(i+n).toNat=j:=a8 h;exact⟨by rw[seqIndex_neg (by lia) h1,e],by lia,h1,by lia⟩
  .rw[ap h1] at h;cases h
theorem B9(h:FX xs i=some v):∃j,seqIndex? i xs.length=some j/\xs[j]?=some v/\j<xs.length/\-(xs.length:Int)<=i/\i<xs.length:=by
 unfold FX at h;cases e:E3 xs.length i with
 |none=>rw[e] at h;cases h
 |some j=>
  rw[e] at h;obtain⟨h1,h2,h3,h4⟩:=B8 e;exact⟨j,h1,h,h2,h3,h4⟩
theorem aw{α:Type}{xs:List α}{j:Nat}{v:α}(h:xs[j]?=some v):FX xs (j:Int)=some v:=by
 have hj:j<xs.length:=(dk.mp h).1;have e:E3 xs.length (j:Int)=some j:=by
  unfold E3;rw[ai (by lia),ai (by lia)];simp
 unfold FX;rw[e];exact h
theorem FY(xs:List α)(v:α):FX (xs++[v]) (-1)=some v:=by
 have hl:(xs++[v]).length=xs.length+1:=by simp
 have e:E3 (xs++[v]).length (-1)=some xs.length:=by
  unfold E3;rw[hl,ap (by decide),ai (by lia)];congr 1;lia
 unfold FX;rw[e];show (xs++[v])[xs.length]?=some v;simp
def J4(b:Expr):Prop:=∀o i,subscripted b false o i=operate [o,i] (getItem o i)
def W4(X:Cx)(r:R2):Prop:=
 ∀ (value slice:Expr) (ae:List (Addr×Obj)) (s:Shared) (σ:St) (H:Hp) (x y:V) (v u:Value) (Q:VK),aI X ae σ H s->bD x v->bD y u->r x y H Q->
  subscripted slice false v u=operate [v,u] (getItem v u)->wpAny (model X.prog X.w) X.A (subscriptTail value slice v u) (EP X ae σ Q) X.xe s
def MtR(X:Cx)(id:String)(r:V->List V->Hp->VK->Prop):Prop:=
 ∀ (ae:List (Addr×Obj)) (s:Shared) (σ:St) (H:Hp) (x:V) (xs:List V) (v:Value) (us:List Value) (Q:VK),aI X ae σ H s->bD x v->aY xs us->r x xs H Q->
  wpAny (model X.prog X.w) X.A (call (.builtin id) (v::us)) (EP X ae σ Q) X.xe s
section
variable {X:Cx} {a b:Expr} {ta tb:TE} {pos:Pos}
theorem aR(hr:W4 X r)(ha:PE X a ta)(hb:PE X b tb)(hs:J4 b):PE X (.Subscript a b pos) (lM r ta tb):=by
 intro ae s σ H Q I h;exact Subscript_ (NJ ha hb I h fun v u s2 x y H2 I2 rx ry q=>hr a b ae s2 σ H2 x y v u Q I2 rx ry q (hs _ _))
def NU(K:PySem.W.Frag):R2:=fun x y H Q=>∃p xs i v,x=.ref p/\y=.int i/\br K H p xs/\FX xs i=some v/\Q v H
def sB(K:PySem.W.Frag):R2:=fun x y H Q=>∃p xs i v,x=.ref p/\y=.int i/\bp K H p xs/\FX xs i=some v/\Q v H
theorem bC:W4 X (NU X.K):=by
 intro value slice ae s σ H x y v u Q I rx ry h hs;obtain⟨p,xs,i,z,rfl,rfl,hq,he,q⟩:=h;cases rx;obtain⟨t,rfl⟩:=ry;obtain⟨its,r,pl,hz⟩:=I.list hq;obtain⟨j,h1,h2,h3,h4,h5⟩:=B9 he;obtain⟨w,ew,Ds⟩:=r.get h2;have hl:=r.length;have hn:=sk;have fin:EP X ae σ Q w s:=⟨z,H,I,Ds,q⟩
 by_cases h0:0<=i
 .have hj:i.toNat=j:=by
   rw[seqIndex_of h0 h5] at h1;exact a8 h1
  exact item_listR pl.isList h0 (by lia) (by rw[hj];simpa using ew) fin hs
 .have hj:(i+(its.toArray.size:Int)).toNat=j:=by
   rw[seqIndex_neg (by lia) h4] at h1;rw[cV,<-hl];exact a8 h1
  exact subscriptTail_builtinR (x:=w) pl.isList.typeIs slot_list_getitem.lookup
   (wpAny_getItem_list_neg (Q:=fun r s'=>r=w/\EP X ae σ Q r s') pl.isList (by lia) (by rw[cV] <;> lia) (by lia) (by rw[hj];simpa using ew) ⟨rfl,fin⟩) hs
theorem bh:W4 X (sB X.K):=by
 intro value slice ae s σ H x y v u Q I rx ry h hs;obtain⟨p,xs,i,z,rfl,rfl,hq,he,q⟩:=h;cases rx;obtain⟨t,rfl⟩:=ry;obtain⟨its,r,pl,hz⟩:=I.tuple hq;obtain⟨j,h1,h2,h3,h4,h5⟩:=B9 he;obtain⟨w,ew,Ds⟩:=r.get h2;have hl:=r.length;have hn:=sk;have fin:EP X ae σ Q w s:=⟨z,H,I,Ds,q⟩
 exact subscriptTail_builtinR (x:=w) pl.typeIs slot_tuple_getitem.lookup
  (getItem_tuple (j:=j) (Q:=fun r s'=>r=w/\EP X ae σ Q r s') pl (by lia) (by lia) (by rw[cV,<-hl];exact h1) (by simpa using ew) ⟨rfl,fin⟩) hs
theorem Au(its:List Value)(n j:Nat)(u:Value):Obj.mapSeq (·.setIfInBounds j u) { cls:=.type "list",data:=.seq its.toArray n }={ cls:=.type "list",data:=.seq (its.set j u).toArray n }:=by
 simp[Obj.mapSeq]
theorem aI.lst(I:aI X ae σ H s)(h:H p=some (.lst xs)):
  ∃ (its:List Value) (n:Nat),aY xs its/\s.heap.get? p=some { cls:=.type "list",data:=.seq its.toArray n }/\xs.length<=sizeLine:=by
 obtain⟨z,its,n,r,e⟩:=I.ck p _ h;exact⟨its,n,r,e,z⟩
theorem aI.NX{ae:List (Addr×Obj)}{σ:St}{H:Hp}{s:Shared}{p:Addr}{xs ys:List V}{its its':List Value}{n n':Nat}{f:Obj->Obj}(I:aI X ae σ H s)(h:H p=some (.lst xs))(ho:s.heap.get? p=some { cls:=.type "list",data:=.seq its.toArray n })(hf:f { cls:=.type "list",data:=.seq its.toArray n }={ cls:=.type "list",data:=.seq its'.toArray n' })(r:aY ys its')(hz:ys.length<=sizeLine)(t:Nat):
  aI X ae σ (upd H p (.lst ys)) { s with heap:=s.heap.update p f,toks:=t }:=by
 have e:(s.heap.update p f).get? p=some { cls:=.type "list",data:=.seq its'.toArray n' }:=by
  rw[oO f ho (by rw[hf] <;> rfl),hf]
 refine I.write (x:=p) (e:=p) (by rw[h];trivial) (.inl rfl) (fun b u hb q=>(rB _ _ (cj hb)).trans q) ⟨_,e⟩ ?_;exact⟨hz,its',n',r,e⟩
def Sa:V->V->V->Hp->(Hp->Prop)->Prop:=fun o i v H Q=>∃p xs k j,o=.ref p/\i=.int k/\H p=some (.lst xs)/\E3 xs.length k=some j/\Q (upd H p (.lst (xs.set j v)))
theorem iq:NH X Sa:=by
 intro ae s σ H o i v ov iv u Q I ro ri rv h;obtain⟨p,xs,k,j,rfl,rfl,hp,hj,q⟩:=h;cases ro;obtain⟨t,rfl⟩:=ri;obtain⟨its,n,r,ho,hz⟩:=I.lst hp;obtain⟨h1,h2,h3,h4⟩:=B8 hj;have hl:=r.length;have hn:=sk;have I':aI X ae σ (upd H p (.lst (xs.set j v))) { s with heap:=s.heap.update p (Obj.mapSeq (·.setIfInBounds j u)) }:=
  I.NX hp ho (Au its n j u) (r.set rv j) (by rw[vT];exact hz) s.toks
 by_cases h0:0<=k
 .have hk:k.toNat=j:=by
   rw[seqIndex_of h0 h4] at h1;exact a8 h1
  exact PySem.W.ki_setAt ho h0 (by lia) (by rw[cV,<-hl];exact h4) (by rw[hk];exact⟨_,I',q⟩)
 .have hk:(k+(its.toArray.size:Int)).toNat=j:=by
   rw[seqIndex_neg (by lia) h3] at h1;rw[cV,<-hl];exact a8 h1
  exact PySem.W.ki_setBack ho (by lia) (by rw[cV,<-hl];exact h3) (by lia) (by rw[hk];exact⟨_,I',q⟩)
def ir:V->Bool
 |.bR=>true
 |.bl _=>true
 |.int _=>true
 |.str _=>true
 |_=>false
def xO:V->V->Bool
 |.bR,.bR=>true
 |.bl a,.bl b=>a==b
 |.bl a,.int b=>(if a then 1 else 0)==b
 |.int a,.bl b=>a==(if b then 1 else 0)
 |.int a,.int b=>a==b
 |.str a,.str b=>a==b
 |_,_=>false
theorem FZ(ry:bD y u)(rx:bD x v)(fy:ir y=true)(fx:ir x=true):SeqAt.EqAt A s u v (xO y x):=by
 cases y with
 |bR=>
  cases ry;cases x with
  |bR=>cases rx;exact SeqAt.EqAt.same _
  |bl b=>cases rx;exact SeqAt.EqAt.none_bool b
  |int b=>obtain⟨t,rfl⟩:=rx;exact SeqAt.EqAt.none_int b t
  |str b=>obtain⟨t,rfl⟩:=rx;exact SeqAt.EqAt.none_str b t
  |_=>exact absurd (show false=true from fx) bq
 |bl a=>
  cases ry;cases x with
  |bR=>cases rx;exact SeqAt.EqAt.bool_none a
  |bl b=>cases rx;exact SeqAt.EqAt.bool_bool a b
  |int b=>obtain⟨t,rfl⟩:=rx;exact SeqAt.EqAt.bool_int a b t
  |str b=>obtain⟨t,rfl⟩:=rx;exact SeqAt.EqAt.bool_str a b t
  |_=>exact absurd (show false=true from fx) bq
 |int a=>
  obtain⟨t',rfl⟩:=ry;cases x with
  |bR=>cases rx;exact SeqAt.EqAt.int_none a t'
  |bl b=>cases rx;exact SeqAt.EqAt.int_bool a t' b
  |int b=>obtain⟨t,rfl⟩:=rx;exact SeqAt.EqAt.int_int a t' b t
  |str b=>obtain⟨t,rfl⟩:=rx;exact SeqAt.EqAt.int_str a t' b t
  |_=>exact absurd (show false=true from fx) bq
 |str a=>
  obtain⟨t',rfl⟩:=ry;cases x with
  |bR=>cases rx;exact SeqAt.EqAt.str_none a t'
  |bl b=>cases rx;exact SeqAt.EqAt.str_bool a t' b
  |int b=>obtain⟨t,rfl⟩:=rx;exact SeqAt.EqAt.str_int a t' b t
  |str b=>obtain⟨t,rfl⟩:=rx;exact SeqAt.EqAt.str_str a t' b t
  |_=>exact absurd (show false=true from fx) bq
 |_=>exact absurd (show false=true from fy) bq
def Av(x:V)(u:Value):Bool:=match u with
 |.none=>xO .bR x
 |.bool b=>xO (.bl b) x
 |.int i _=>xO (.int i) x
 |.str z _=>xO (.str z) x
 |_=>false
theorem F1(r:bD y u)(f:ir y=true):Av x u=xO y x:=by
 cases y with
 |bR=>cases r;rfl
 |bl b=>cases r;rfl
 |int i=>obtain⟨t,rfl⟩:=r;rfl
 |str z=>obtain⟨t,rfl⟩:=r;rfl
 |_=>exact absurd (show false=true from f) bq
theorem nX:∀ {xs:List V} {us:List Value},aY xs us->xs.all ir=true->us.any (Av x)=xs.any fun y=>xO y x
 |_,_,.nil,_=>rfl
 |y::xs,u::us,.cons r t,f=>by
  rw[v6,gh] at f;rw[kq,kq,F1 r f.1,nX t f.2]
theorem kL(rx:bD x v)(fx:ir x=true):∀ {xs:List V} {us:List Value},aY xs us->xs.all ir=true->∀u∈us,SeqAt.EqAt A s u v (Av x u)
 |_,_,.nil,_=>fun u hu=>by cases hu
 |y::xs,u::us,.cons r t,f=>fun u' hu=>by
  rw[v6,gh] at f;rcases ba.mp hu with rfl|hu
  .rw[F1 r f.1];exact FZ r rx f.1 fx
  .exact kL rx fx t f.2 u' hu
def B_(x:V)(xs:List V):Bool:=xs.any fun y=>xO y x
def VZ(K:PySem.W.Frag)(Mp:Bool):R2:=fun x y H Q=>∃p xs,y=.ref p/\(br K H p xs\/bp K H p xs)/\ir x=true/\xs.all ir=true/\Q (.bl (if Mp then !B_ x xs else B_ x xs)) H
theorem hU:lV X (compareOp .In) (VZ X.K false):=by
 intro ae s σ H x y v u Q I rx ry h;obtain⟨p,xs,rfl,hq,fx,fs,q⟩:=h;cases ry;rcases hq with hq|hq
 .obtain⟨its,r,pl,hz⟩:=I.list hq;refine SeqAt.in_listAt (Av x) pl.isList (fun w hw=>kL rx fx r fs w (by simpa using hw)) ⟨.bl _,H,I,rfl,?_⟩;rw[show its.toArray.any (Av x)=its.any (Av x) by simp,nX r fs];exact q
 .obtain⟨its,r,pl,hz⟩:=I.tuple hq;refine SeqAt.in_tupleAt (Av x) pl (fun w hw=>kL rx fx r fs w (by simpa using hw)) ⟨.bl _,H,I,rfl,?_⟩;rw[show its.toArray.any (Av x)=its.any (Av x) by simp,nX r fs];exact q
theorem nY:lV X (compareOp .NotIn) (VZ X.K true):=by
 intro ae s σ H x y v u Q I rx ry h;obtain⟨p,xs,rfl,hq,fx,fs,q⟩:=h;cases ry;rcases hq with hq|hq
 .obtain⟨its,r,pl,hz⟩:=I.list hq;refine SeqAt.notIn_listAt (Av x) pl.isList (fun w hw=>kL rx fx r fs w (by simpa using hw)) ⟨.bl _,H,I,rfl,?_⟩;rw[show its.toArray.any (Av x)=its.any (Av x) by simp,nX r fs];exact q
 .obtain⟨its,r,pl,hz⟩:=I.tuple hq;refine SeqAt.notIn_tupleAt (Av x) pl (fun w hw=>kL rx fx r fs w (by simpa using hw)) ⟨.bl _,H,I,rfl,?_⟩;rw[show its.toArray.any (Av x)=its.any (Av x) by simp,nX r fs];exact q
theorem aF:gu X (.builtin "len") (fun xs H Q=>∃p ys,xs=[.ref p]/\(br X.K H p ys\/bp X.K H p ys)/\Q (.int ys.length) H):=by
 intro ae s σ H xs us Q I r h;obtain⟨p,ys,rfl,hq,q⟩:=h;obtain⟨u,rfl,rx⟩:=FK r;cases rx;have hn:=sk;rcases hq with hq|hq
 .obtain⟨its,r',pl,hz⟩:=I.list hq;have de:=r'.length;exact Calls.call_len_list pl.isList (by simp only[cV] <;> lia) ⟨.int ys.length,H,I.tok _,⟨s.toks+1,by rw[cV,de]⟩,q⟩
 .obtain⟨its,r',pl,hz⟩:=I.tuple hq;have de:=r'.length;exact len_tuple pl (by simp only[cV] <;> lia) ⟨.int ys.length,H,I.tok _,⟨s.toks+1,by rw[cV,de]⟩,q⟩
theorem nZ:gu X (.type "list") (fun xs H Q=>∃p ys,xs=[.ref p]/\(br X.K H p ys\/bp X.K H p ys)/\∀l,H l=none->Q (.ref l) (upd H l (.lst ys))):=by
 intro ae s σ H xs us Q I r h;obtain⟨p,ys,rfl,hq,q⟩:=h;obtain⟨u,rfl,rx⟩:=FK r;cases rx;have fin:∀ (its:List Value),aY ys its->ys.length<=sizeLine->∀ (h':Heap) (c':Nat),(∀b o',s.heap.get? b=some o'->h'.get? b=some o')->
   h'.get? s.heap.objs.size=some { cls:=.type "list",dict:=none,data:=.seq its.toArray c',slots:=#[] }->EP X ae σ Q (.ref s.heap.objs.size) { s with heap:=h' }:=fun its r' hz h' c' kp e=>
  ⟨.ref s.heap.objs.size,_,I.laid (t':=s.toks) kp (aW _) (show cf X.prog X.w _ h' _ (.lst ys) from ⟨hz,its,c',r',e⟩),rfl,q _ (I.ck.fresh (aW _))⟩
 rcases hq with hq|hq
 .obtain⟨its,r',pl,hz⟩:=I.list hq;have de:=r'.length;obtain⟨o,ho,hc,n,hd⟩:=pl.isList;exact call_list_seq p (.inl rfl) ho hc hd (fun h' c' kp e=>fin its r' hz h' c' kp e) (by simp only[cV] <;> lia)
 .obtain⟨its,r',pl,hz⟩:=I.tuple hq;have de:=r'.length;obtain⟨o,ho,hc,n,hd⟩:=pl;exact call_list_seq p (.inr rfl) ho hc hd (fun h' c' kp e=>fin its r' hz h' c' kp e) (by simp only[cV] <;> lia)
theorem ce:gu X (.type "tuple") (fun xs H Q=>∃p ys,xs=[.ref p]/\((br X.K H p ys/\∀l,H l=none->Q (.ref l) (upd H l (.tup ys)))\/(bp X.K H p ys/\Q (.ref p) H))):=by
 intro ae s σ H xs us Q I r h;obtain⟨p,ys,rfl,h⟩:=h;obtain⟨u,rfl,rx⟩:=FK r;cases rx;rcases h with ⟨hq,q⟩|⟨hq,q⟩
 .obtain⟨its,r',pl,hz⟩:=I.list hq;have de:=r'.length;refine call_tuple_list pl.isList (fun h' kp=>?_) (by simp only[cV] <;> lia);have I1:aI X ae σ H { s with heap:=h' }:=I.kept (t':=s.toks) kp;have I2:aI X ae σ (upd H h'.objs.size (.tup ys)) { s with heap:=h'.push { cls:=.type "tuple",data:=.seq its.toArray } }:=
   I1.laid (t':=s.toks) (fun b o e=>bz _ e) (aW _) (show cf X.prog X.w _ _ _ (.tup ys) from ⟨hz,its,r',mL.new _ _⟩)
  exact⟨.ref h'.objs.size,_,I2,rfl,q _ (I1.ck.fresh (aW _))⟩
 .obtain⟨its,r',pl,hz⟩:=I.tuple hq;exact call_tuple_same pl ⟨.ref p,H,I,rfl,q⟩
def tyV(K:PySem.W.Frag)(T:String)(x:V)(H:Hp):Prop:=match x with
 |.str _=>T="str"
 |.int _=>T="int"
 |.ref p=>(T="list"/\∃xs,br K H p xs)\/(T="tuple"/\∃o,K.lookup p=some o/\o.cls=.type "tuple"/\o.dict=none)\/
   (T="dict"/\((∃kvs,H p=some (.dK kvs))\/∃kvs,H p=some (.dT kvs)))\/(T="set"/\∃S n,H p=some (.set S n))
 |_=>False
theorem NY(I:aI X ae σ H s)(r:bD x v)(ty:tyV X.K T x H):
  s.TypeIs v T/\∀a,v=.ref a->∃ob,s.heap.get? a=some ob/\ob.dict=none:=by
 cases x with
 |str z=>
  obtain⟨t,rfl⟩:=r;cases (show T="str" from ty);exact⟨typeIs_str s z t,fun _ e=>nomatch e⟩
 |int i=>
  obtain⟨t,rfl⟩:=r;cases (show T="int" from ty);exact⟨typeIs_int s i t,fun _ e=>nomatch e⟩
 |ref p=>
  cases r;rcases ty with ⟨rfl,xs,hq⟩|⟨rfl,o,hk,hc,hd⟩|⟨rfl,hk⟩|⟨rfl,S,n,hk⟩
  .obtain⟨its,_,pl,_⟩:=I.list hq;refine⟨pl.isList.typeIs,fun a e=>?_⟩;cases e;obtain⟨o,n,e,c,hd,_⟩:=pl;exact⟨o,e,hd⟩
  .refine⟨⟨o,I.p8 p o hk,hc⟩,fun a e=>?_⟩;cases e;exact⟨o,I.p8 _ o hk,hd⟩
  .have z:∃o,s.heap.get? p=some o/\o.ExactDict:=by
    rcases hk with ⟨kvs,hk⟩|⟨kvs,hk⟩
    .obtain⟨_,_,_,_,o,_,_,e,ex,_⟩:=I.ck p _ hk;exact⟨o,e,ex⟩
    .obtain⟨_,_,_,_,o,_,_,e,ex,_⟩:=I.ck p _ hk;exact⟨o,e,ex⟩
   obtain⟨o,e,ex⟩:=z;refine⟨⟨o,e,ex.1⟩,fun a e2=>?_⟩;cases e2;exact⟨o,e,ex.2.1⟩
  .obtain⟨o,_,_,_,e,ex,_⟩:=I.ck p _ hk;refine⟨⟨o,e,ex.1⟩,fun a e2=>?_⟩;cases e2;exact⟨o,e,ex.2.1⟩
 |_=>exact False.elim ty
def tBM(K:PySem.W.Frag)(T:String)(r:V->List V->Hp->VK->Prop)(to:TE)(t:TA):TE:=fun σ H Q=>to σ H fun x H1=>tyV K T x H1/\t σ H1 fun xs H2=>r x xs H2 Q
variable {o e:Expr} {es:List Expr} {to:TE} {t:TA} {name:Str} {qo qr:Pos} {T id:String} {r:V->List V->Hp->VK->Prop}
theorem ji(pa:PlainAttrs T)(slot:Slot T name id)(hty:typeOf (.builtin id)=pure (.type "method_descriptor"))(hm:MtR X id r)(ho:PE X o to)(ha:PA X (e::es) t)(Sb:attributeBase o name X.env (eval o X.env)=eval o X.env:=by rfl)(W5:((backTo qr (starEach (e::es) X.env)).all (fun x=>!x.1)&&(backToKw qr (keywordEach [] X.env)).all (fun x=>x.1.isSome)
   && decide ((e::es).length+([]:List Keyword).length+(if ([]:List Keyword).isEmpty then 0 else 1)<30))=true:=by rfl)(Sc:(qo.endLine==qr.line)=true:=by rfl)(hs:starEach (e::es) X.env=(false,eval e X.env)::starEach es X.env:=by rfl)(Aw:(backTo qr (starEach es X.env)).any (·.1)=false:=by rfl):
  PE X (.Call (.Attribute o name qo) (e::es) [] qr) (tBM X.K T r to t):=by
 intro ae s σ H Q I h;refine wpAny_Call_method_late Sb W5 Sc rfl (cz (ho ae s σ H _ I h) fun v s1 ⟨x,H1,I1,r1,ty,q1⟩=>?_);obtain⟨h1,h2⟩:=NY I1 r1 ty;refine⟨T,id,pa,slot,hty,h1,h2,?_⟩;have hA:=ha qr ae s1 σ H1 _ I1 q1;rw[hs] at hA |-;refine Calls.callWith_builtin (by show (false||(backTo qr (starEach es X.env)).any (·.1))=false;rw[Aw] <;> rfl) (Calls.evalArgs_plain ?_);exact cz hA fun us s2 ⟨vs,H2,I2,r2,q2⟩=>hm ae s2 σ H2 x vs v us Q I2 r1 r2 q2
end
def MtM(X:Cx)(id:String)(r:V->List V->Hp->VK->Prop):Prop:=
 ∀ (ae:List (Addr×Obj)) (s:Shared) (σ:St) (H:Hp) (x:V) (xs:List V) (v:Value) (us:List Value) (Q:VK),aI X ae σ H s->bD x v->aY xs us->r x xs H Q->
  wpAny (model X.prog X.w) X.A (call (.builtin id) (v::us)) (EP X ae σ Q) X.xe s
theorem aY.one{x:V}{us:List Value}(h:aY [x] us):∃u,us=[u]/\bD x u:=by
 cases h with
 |cons r h=>cases h;exact⟨_,rfl,r⟩
theorem aY.two{x y:V}{us:List Value}(h:aY [x,y] us):∃u v,us=[u,v]/\bD x u/\bD y v:=by
 cases h with
 |cons r h=>
  cases h with
  |cons q h=>cases h;exact⟨_,_,rfl,r,q⟩
theorem aY.eraseIdx:∀ {xs:List V} {us:List Value} (i:Nat),aY xs us->aY (xs.eraseIdx i) (us.eraseIdx i)
 |_,_,_,.nil=>.nil
 |_,_,0,.cons _ t=>t
 |_,_,i+1,.cons r t=>.cons r (aY.eraseIdx i t)
section
variable {X:Cx} {ae:List (Addr×Obj)} {σ:St} {H:Hp} {s:Shared} {l b:Addr} {xs ys zs:List V}
theorem aI.Se{its its':List Value}{n:Nat}{f:Array Value->Array Value}{t':Nat}(I:aI X ae σ H s)(hH:H l=some (.lst xs))(e:s.heap.get? l=some { cls:=.type "list",data:=.seq its.toArray n })(hf:f its.toArray=its'.toArray)(hv:aY ys its')(hz:ys.length<=sizeLine):
  aI X ae σ (upd H l (.lst ys)) { s with heap:=s.heap.update l (Obj.mapSeq f),toks:=t' }:=by
 have q:=PySem.IsL.update e f;rw[hf] at q;refine I.write (x:=l) (e:=l) (by rw[hH];exact trivial) (.inl rfl) (fun b' u hb hu=>(rB s.heap (Obj.mapSeq f) (cj hb)).trans hu) ⟨_,q⟩ ?_;exact⟨hz,its',_,hv,q⟩
theorem aI.Sf(I:aI X ae σ H s)(hv:aY ys its)(hz:ys.length<=sizeLine):
  aI X ae σ (upd H s.heap.objs.size (.lst ys)) { s with heap:=s.heap.push { cls:=.type "list",data:=.seq its.toArray },toks:=t' }:=
 I.laid (fun _ _ q=>bz _ q) (aW _) ⟨hz,its,0,hv,b_ _ rfl⟩
theorem aI.fresh(I:aI X ae σ H s):H s.heap.objs.size=none:=I.ck.fresh (aW _)
theorem aI.J5(I:aI X ae σ H s)(hH:H l=some (.lst xs)):xs.length<=sizeLine/\∃ (its:List Value) (n:Nat),aY xs its/\xs.length=its.length/\s.heap.get? l=some { cls:=.type "list",data:=.seq its.toArray n }:=by
 obtain⟨z,its,n,r,e⟩:=I.ck l _ hH;exact⟨z,its,n,r,r.length,e⟩
end
section
variable {X:Cx}
def J6:V->List V->Hp->VK->Prop:=fun x vs H Q=>∃l xs y,x=.ref l/\vs=[y]/\H l=some (.lst xs)/\xs.length<sizeLine/\Q .bR (upd H l (.lst (xs++[y])))
theorem dh:MtM X "list.append" J6:=by
 intro ae s σ H x vs v us Q I rx rv h;obtain⟨l,xs,y,rfl,rfl,hH,hz,q⟩:=h;cases rx;obtain⟨u,rfl,ru⟩:=rv.one;obtain⟨z,its,n,r,hl,e⟩:=I.J5 hH;refine call_meets F.slot_list_append ⟨_,e,rfl⟩ F.entry_list_append (F.args_list_append_2 _ _) (PySem.list_append l its.toArray n u (by rw[cV];lia)) ⟨e,?_⟩;refine⟨.bR,_,I.Se (its':=its++[u]) hH e (by simp) (r.append (.cons ru .nil)) ?_,rfl,q⟩;rw[dY,List.length_singleton];lia
def W6:R2:=fun x y H Q=>∃l b xs zs,x=.ref l/\y=.ref b/\H l=some (.lst xs)/\H b=some (.lst zs)/\xs.length+zs.length<=sizeLine/\∀p,H p=none->Q (.ref p) (upd H p (.lst (xs++zs)))
theorem NZ:lV X (binaryOp .Add) W6:=by
 intro ae s σ H x y v u Q I rx ry h;obtain⟨l,b,xs,zs,rfl,rfl,hH,hB,hz,q⟩:=h;cases rx;cases ry;obtain⟨z,its,n,r,hl,e⟩:=I.J5 hH;obtain⟨z2,N0,n2,r2,hl2,e2⟩:=I.J5 hB;refine PySem.P.add_list e e2 ?_ (by rw[cV,cV];lia);have ea:its.toArray++N0.toArray=(its++N0).toArray:=by simp
 rw[ea];exact⟨.ref _,_,I.Sf (t':=s.toks) (r.append r2) (by rw[dY];lia),rfl,q _ I.fresh⟩
end
section
variable {prog:Program} {w:World} {A:Around} {E:Value->Shared->Prop} {s:Shared}
end
section
variable {X:Cx}
end
end L2
namespace Att
open PySem PySem.W PySem.Calls PyProof.Rows
theorem qt:∀ (ns:List Int) (vs:List Value),WellAll P h vs (ns.map WData.int)->IntsAre vs ns:=by
 intro ns;induction ns with
 |nil=>
  intro vs w;rw[List.map_nil] at w;cases w;exact .nil
 |cons n ns ih=>
  intro vs w;rw[fg] at w;cases w with
  |cons a b=>
   cases a;exact .cons _ _ (ih _ b)
theorem DB{l:OpenLaw}{n:Nat}(hn:l.most=some n){P:Params}{h:Heap}{args:List WData}{F2:List Value}(J7:l.row.toRowW.claim.pre args=true)(W7:WellAll P h F2 args):
  ∃a vs ns,F2=[Value.ref a]/\args=[WData.list (ns.map WData.int)]/\h.get? a=some { cls:=.type "list",data:=.seq vs.toArray }/\IntsAre vs ns/\ns.length<=n:=by
 have hsh:WShape.hasAll [] args [.list .int]=true:=(pre_splitW J7).1;have hc:l.pre.holds [] { args:=args }=true:=(pre_splitW J7).2;obtain⟨d,r,rfl,h1,h2⟩:=hasAllW_cons hsh;obtain rfl:=hasAllW_nil h2;obtain⟨xs,rfl,h3⟩:=hasW_list h1;obtain⟨ns,rfl⟩:=items_int h3;have de:ns.length<=n:=by
  unfold OpenLaw.pre at hc;have h4:(WTm.not (.lt (.lit (.int (n:Int))) (.len (.arg 0)))).holds [] { args:=[.list (ns.map .int)] }=true:=by
   have h4:=(holds_andW hc).1;rw[hn] at h4;exact h4
  have h5:=condW_of h4 (w_not (w_lt w_lit (w_len_list (w_arg rfl))));rw[aP] at h5;refine zT fun q=>?_;have q':(n:Int)<((ns.length:Nat):Int):=by lia
  first
   |(rw[aT q'] at h5;exact absurd h5 (by decide))
   |(simp at h5;lia)
 cases W7 with
 |cons w1 w2=>
  cases w2;cases w1 with
  |list ho xP=>exact⟨_,_,ns,rfl,rfl,ho,qt ns _ xP,de⟩
theorem DC(l:OpenLaw)(args:List WData):l.row.toRowW.claim.post args (.bool true) args=true:=
 postW_of (r:=l.row.toRowW) (X:=(true==true))
  (show WShape.has [] (.bool true) .bool=true by first|rfl|decide|simp[WShape.has,WShape.arms,WShape.armsAll])
  (show (WTm.eq .res (.lit (.bool true))).value [] { args:=args,res:=some (.bool true),after:=args }=some (.bool (true==true)) from w_eq_bool (w_res rfl) w_lit) rfl
theorem xQ{l:OpenLaw}{n:Nat}{q:Program}{uS:List Str}{XP:(Str->Option Value)->Heap->Prop}{YP:World->Heap->Prop}{d:DefRec}(hn:l.most=some n)(Sg:d.params.defaults=[])(call:∀ (w:World) (s₀ s₁:Shared) (mg mb:Str->Option Value) (fa:Addr) (o:Obj) (pm cd nB:Value) (a:Addr) (vs:List Value) (ns:List Int),
   Ground q uS [] XP w s₀ mg mb s₁.heap->YP w s₁.heap->
   s₁.heap.get? fa=some o->o.data=.func (docDef d.name d.params d.body d.scope pm cd nB)->s₁.heap.CodeRec cd d.name->mg d.name=some (.ref fa)->
   s₁.heap.get? a=some { cls:=.type "list",data:=.seq vs.toArray }->IntsAre vs ns->ns.length<=n->s₁.gens=#[]->
   codeAny (model l.prog w) callerA (.call (.ref fa) ⟨[.ref a],[]⟩) (fun r s'=>r=.ok (.ret (.bool true))/\OldK s₁.heap s'.heap/\s'.os=s₁.os/\AllBare s'.gens) s₁):
  WalkO q uS XP YP l.row.toRowW d [] (fun f vs=>PySem.call f vs):=by
 intro w s₀ s₁ mg mb G Y fa o pm cd nB dV kV ho hd um hD Sh hg args F2 as J7 abr hrd W7 V0;obtain rfl:dV=.none:=Dflts.none hD Sg;obtain rfl:kV=.none:=Dflts.noKw hD;obtain⟨a,vs,ns,rfl,rfl,N2,F3,de⟩:=DB hn J7 W7;refine enter_call (kr (call w s₀ s₁ mg mb fa o pm cd nB a vs ns G Y ho (fd_plain hd) um Sh N2 F3 de hg) fun r s' hq=>?_);obtain⟨rfl,h2,h3,h4⟩:=hq;exact⟨.inl ⟨.bool true,.bool true,[],rfl,fun _=>rfl,.bool true,DC l _,fun _=>⟨List.Pairwise.nil,fun _ hm=>(nomatch hm)⟩⟩,h2,h3,h4⟩
section
variable {prog:Program} {w:World} {A:Around} {E:Value->Shared->Prop} {s:Shared} {K:Frag}
end
end Att
namespace L2
open PySem PySem.Spec PyProof.Rows
theorem pF:∀ {vs:List Value} {ns:List Int},IntsAre vs ns->aY (ns.map V.int) vs
 |_,_,.nil=>.nil
 |_,_,.cons n t h=>.cons ⟨t,rfl⟩ (pF h)
def eU(s:Stmt)(j:Nat):Stmt:=match s with
 |.ClassDef _ _ _ body _ _ _ _ _ _ _=>body.getD j (.Pass ⟨0,0,0,0⟩)
 |_=>.Pass ⟨0,0,0,0⟩
def dv(s:Stmt):Arguments:=match s with
 |.FunctionDef _ a _ _ _ _ _ _ _ _=>a
 |_=>{ posonlyargs:=[],args:=[],vararg:=none,kwonlyargs:=[],kw_defaults:=[],kwarg:=none,defaults:=[] }
def cH(s:Stmt):List Stmt:=match s with
 |.FunctionDef _ _ b _ _ _ _ _ _ _=>b
 |_=>[]
def am(s:Stmt):Scope:=match s with
 |.FunctionDef _ _ _ _ _ _ sc _ _ _=>sc
 |_=>{ kind:=.function,names:=[],isGenerator:=false,isCoroutine:=false }
abbrev a7:xB:=fun _ _ _ _ _ _=>False
abbrev E0:XK:=fun _ _ _=>False
theorem aE:i8 a7 X E0:=fun _ _ _ _ _ _ _ h=>h.elim
structure eM(K:PySem.W.Frag)(x qual:Str)(st:Stmt)(f:Addr)(fd:FuncData):Prop where
 ex:∃ (oc:Value) (od:Option Addr) (kV nB pm:Value) (an:Option Addr) (dz ct:Value) (xL:Array (Option Value)),
  fd=PySem.W.fnOf x qual (dv st) (cH st) (am st) .none kV nB pm an dz ct/\K.lookup f=some ⟨oc,od,.func fd,xL⟩/\PySem.W.codeIn K dz qual=true
 kp:PySem.W.keepIn K (.ref f)=true
section
variable {P:Program} {w:World} {K:PySem.W.Frag} {mg:Str->Option Value} {base:Heap}
theorem eM.ok{x qual:Str}{st:Stmt}{f:Addr}{fd:FuncData}{N ps:List Str}{k:Nat}{sp:Sp}(F:eM K x qual st f fd)(S:aD N ps (am st))(len:∀vs H Q E,sp vs H Q E->vs.length=ps.length)(sv:∀ (dz:Value) (A:Around) (outer:List Env) (s:Shared) (H:Hp) (vs:List V) (Q:VK) (E:XK),bA k (A.deeper (envOfC qual (am st) s.heap.objs.size f dz))->sp vs H Q E->
   ∃t,y0 (jG a7 P w K mg base N qual (am st) f dz A outer s H E).Mm (cH st) t/\t { nx:=fun _ H'=>Q .bR H',rt:=Q } (start N vs) H):bn P w K mg base a7 (k+1) f fd ps sp:=by
 obtain⟨oc,od,kV,nB,pm,an,dz,ct,xL,rfl,lk,um⟩:=F.ex;refine FU lk um S len fun A outer s H vs Q E hr E2=>?_;obtain⟨t,h,q⟩:=sv dz A outer s H vs Q E hr E2;exact⟨t,h.Mm,q⟩
theorem eM.binds{x qual:Str}{st:Stmt}{f:Addr}{fd:FuncData}{ps:List Str}(F:eM K x qual st f fd)(h:∀ (kV nB pm:Value) (an:Option Addr) (dz ct:Value) (us:List Value),us.length=ps.length->bindArgs (PySem.W.fnOf x qual (dv st) (cH st) (am st) .none kV nB pm an dz ct) ⟨us,[]⟩=pure (ps.zip us)):jg K fd ps []:=by
 obtain⟨oc,od,kV,nB,pm,an,dz,ct,xL,rfl,lk,um⟩:=F.ex;exact .all (h kV nB pm an dz ct)
theorem sH{x qual:Str}{st:Stmt}{f:Addr}{oc:Value}{od an:Option Addr}{xL:Array (Option Value)}{kV nB pm dz ct:Value}(l:K.lookup f=some ⟨oc,od,.func (PySem.W.fnOf x qual (dv st) (cH st) (am st) .none kV nB pm an dz ct),xL⟩)(c:PySem.W.codeIn K dz qual=true)(k:PySem.W.keepIn K (.ref f)=true):eM K x qual st f (PySem.W.fnOf x qual (dv st) (cH st) (am st) .none kV nB pm an dz ct):=⟨⟨oc,od,kV,nB,pm,an,dz,ct,xL,rfl,l,c⟩,k⟩
end
section
variable {X:Cx}
theorem pv(i:Nat)(hN:X.N[i]?=some x:=by rfl)(hv:RC X.env.scope x:=by first|exact Or.inl rfl|exact Or.inr (Or.inl rfl)|exact Or.inr (Or.inr rfl))(hd:(x==("__debug__":Str))=false:=by decide)(um:(x==("__classdict__":Str))=false:=by decide):PE X (.Name x pos) (be i):=NC hN hv hd um
end
theorem e_{A B:Prop}(h:B):if false=true then A else B:=by
 rw[ap bq];exact h
theorem gJ{A B:Prop}(h:A):if true=true then A else B:=by
 rw[ai rfl];exact h
theorem iE{c A B:Prop}[Decidable c](h1:c->A)(h2:¬ c->B):if c then A else B:=by
 by_cases h:c
 .rw[ai h];exact h1 h
 .rw[ap h];exact h2 h
def aA(H H':Hp):Prop:=∀b o,H b=some o->H' b=some o
theorem aA.refl(H:Hp):aA H H:=fun _ _ h=>h
theorem aA.trans(a:aA H H1)(b:aA H1 H2):aA H H2:=fun c o h=>b c o (a c o h)
theorem aA.free(e:aA H H')(h:H' l=Option.none):H l=Option.none:=by
 cases q:H l with
 |none=>rfl
 |some o=>
  rw[e l o q] at h;cases h
def F4(src:List (Option Nat))(σ:St):St:=src.map fun o=>match o with|some j=>σ.getD j none|none=>none
theorem J8{src:List (Option Nat)}{σ:St}{i:Nat}{v:V}(h:(F4 src σ)[i]?=some (some v)):∃j,src[i]?=some (some j)/\σ[j]?=some (some v):=by
 unfold F4 at h;rw[bL] at h;cases e:src[i]? with
 |none=>rw[e] at h;cases h
 |some o=>
  rw[e] at h;cases o with
  |none=>cases h
  |some j=>
   refine⟨j,rfl,?_⟩;have h':σ.getD j none=some v:=a8 h;rw[cr] at h';cases e2:σ[j]? with
   |none=>rw[e2] at h';cases h'
   |some o=>rw[e2] at h';rw[show o=some v from h']
structure eO(NB:List Str)(src:List (Option Nat))(scope:Scope)(X:Cx):Prop where
 kind:scope.kind=.function
 nd:NB.Nodup
 len:src.length=NB.length
 cells:∀y∈scope.names,y.2=.cell->scope.names.lookup y.1=some .cell
 names:∀y∈scope.names,y.2=.local->scope.names.lookup y.1=some .local
 free:∀y∈scope.names,y.2=.free->X.env.scope.names.lookup y.1=some .cell\/X.env.scope.names.lookup y.1=some .free
 src:∀ (i:Nat) (x:Str) (j:Nat),NB[i]?=some x->src[i]?=some (some j)->X.N[j]?=some x/\scope.names.lookup x=some .free
def wA(scope:Scope)(x:Str):Bool:=match scope.names.lookup x with
 |some .cell=>true
 |_=>false
theorem xR:wA scope x=true↔scope.names.lookup x=some .cell:=by
 unfold wA;split
 .rename_i h;exact⟨fun _=>h,fun _=>rfl⟩
 .rename_i h;exact⟨fun z=>(by cases z),fun z=>absurd z h⟩
def n5(X:Cx)(NB:List Str)(scope:Scope)(cl:List (Str×Addr))(C:Addr)(s₃:Shared)(H₃:Hp)(fp:List Addr):Cx:=
 { X with N:=NB,s₀:=s₃,H₀:=H₃,env:=compEnvC scope cl C X.env,outer:=X.stack,stack:=X.stack,ex:=fp,fn:=wA scope,pn:=[],xe:=fun _ _=>False }
theorem mX:∀ (names:List (Str×NameKind)) (dX:List (Str×Addr)),(∀y∈names,y.2=NameKind.free->∃c,env.cells.lookup y.1=some c)->(∀x c,dX.lookup x=some c->env.cells.lookup x=some c)->
  ∃cl,(forIn names dX fun x r=>(if (x.2==NameKind.free)=true then (do let a <- cellOf env x.1;pure (ForInStep.yield ((x.1,a)::r))) else pure (ForInStep.yield r):Sem (ForInStep (List (Str×Addr)))))=(pure cl:Sem (List (Str×Addr)))/\
   (∀x c,cl.lookup x=some c->env.cells.lookup x=some c)/\(∀x c,dX.lookup x=some c->∃c',cl.lookup x=some c')/\∀x,(x,NameKind.free)∈names->∃c,cl.lookup x=some c
 |[],dX,_,ha=>⟨dX,by rw[vW],ha,fun x c h=>⟨c,h⟩,fun x h=>nomatch h⟩
 |(n,k)::r,dX,hf,ha=>by
  by_cases hk:k=NameKind.free
  .subst hk;obtain⟨c,hc⟩:=hf (n,NameKind.free) bG rfl;have Si:∀x c',((n,c)::dX).lookup x=some c'->env.cells.lookup x=some c':=fun x c' h=>by
    rw[gP] at h;cases hx:x==n with
    |true=>
     rw[hx] at h;cases h;have:x=n:=by simpa using hx
     rw[this];exact hc
    |false=>rw[hx] at h;exact ha x c' h
   obtain⟨cl,e1,e2,e3,e4⟩:=mX r ((n,c)::dX) (fun y hy=>hf y (bJ _ hy)) Si;refine⟨cl,?_,e2,fun x c' h=>?_,fun x h=>?_⟩
   .rw[vU];have ec:cellOf env n=pure c:=by unfold cellOf;rw[hc]
    have e0:(if ((n,NameKind.free).2==NameKind.free)=true then (do let a <- cellOf env (n,NameKind.free).1;pure (ForInStep.yield (((n,NameKind.free).1,a)::dX))) else pure (ForInStep.yield dX):Sem (ForInStep (List (Str×Addr))))=pure (ForInStep.yield ((n,c)::dX)):=by
     rw[ai (show (NameKind.free==NameKind.free)=true by decide)];show cellOf env n >>= _=_;rw[ec];rfl
    rw[e0];exact e1
   .cases hx:x==n with
    |true=>exact e3 x c (by rw[gP,hx])
    |false=>exact e3 x c' (by rw[gP,hx];exact h)
   .rcases ba.mp h with h|h
    .cases h;exact e3 n c (by rw[gP];simp)
    .exact e4 x h
  .obtain⟨cl,e1,e2,e3,e4⟩:=mX r dX (fun y hy=>hf y (bJ _ hy)) ha;refine⟨cl,?_,e2,e3,fun x h=>?_⟩
   .rw[vU];have hb:(k==NameKind.free)=false:=by simpa using hk
    have e0:(if ((n,k).2==NameKind.free)=true then (do let a <- cellOf env (n,k).1;pure (ForInStep.yield (((n,k).1,a)::dX))) else pure (ForInStep.yield dX):Sem (ForInStep (List (Str×Addr))))=pure (ForInStep.yield dX):=by
     rw[ap (by show ¬ (k==NameKind.free)=true;rw[hb];decide)]
    rw[e0];exact e1
   .rcases ba.mp h with h|h
    .cases h;exact absurd rfl hk
    .exact e4 x h
theorem iu(ok:X.Ok)(S:eO NB src scope X):
  ∃cl,closureFor scope X.env=pure cl/\(∀x c,cl.lookup x=some c->X.env.cells.lookup x=some c)/\∀x,(x,NameKind.free)∈scope.names->∃c,cl.lookup x=some c:=by
 obtain⟨cl,e1,e2,_,e4⟩:=mX (env:=X.env) scope.names [] (fun y hy hk=>ok.has y.1 (S.free y hy hk)) (fun x c h=>nomatch h);refine⟨cl,?_,e2,e4⟩;unfold closureFor;simp only[bind_pure];exact e1
theorem wB(h:scope.names.lookup x=some .free):(relabel scope env).names.lookup x=some .cell\/(relabel scope env).names.lookup x=some .free:=by
 have go:∀names:List (Str×NameKind),names.lookup x=some .free->
   (names.map fun (n,k)=>if (k==NameKind.free&&env.scope.kind==.function&&env.kindOf n==some .cell) then (n,NameKind.cell) else (n,k)).lookup x=some .cell\/
   (names.map fun (n,k)=>if (k==NameKind.free&&env.scope.kind==.function&&env.kindOf n==some .cell) then (n,NameKind.cell) else (n,k)).lookup x=some .free:=by
  intro names;induction names with
  |nil=>intro h;simp at h
  |cons y r ih=>
   intro h;obtain⟨n,k⟩:=y;rw[gP] at h;rw[fg];cases hx:x==n with
   |true=>
    rw[hx] at h;cases h;by_cases hc:(NameKind.free==NameKind.free&&env.scope.kind==.function&&env.kindOf n==some .cell)=true
    .left;show List.lookup x ((if _ then _ else _)::_)=_;rw[ai hc,gP,hx]
    .right;show List.lookup x ((if _ then _ else _)::_)=_;rw[ap hc,gP,hx]
   |false=>
    rw[hx] at h;by_cases hc:(k==NameKind.free&&env.scope.kind==.function&&env.kindOf n==some .cell)=true
    .show List.lookup x ((if _ then _ else _)::_)=_\/List.lookup x ((if _ then _ else _)::_)=_;rw[ai hc,gP,hx];exact ih h
    .show List.lookup x ((if _ then _ else _)::_)=_\/List.lookup x ((if _ then _ else _)::_)=_;rw[ap hc,gP,hx];exact ih h
 exact go scope.names h
theorem n6(h:(relabel scope env).names.lookup x=some k)(hk:k=.cell\/k=.free):(x,NameKind.free)∈scope.names\/(x,NameKind.cell)∈scope.names:=by
 have m:=kg h;obtain⟨⟨n,k'⟩,hm,e⟩:=a9.mp m;by_cases q:(k'==NameKind.free&&env.scope.kind==.function&&env.kindOf n==some .cell)=true
 .have e':(n,NameKind.cell)=(x,k):=by simpa [q] using e
  have k1:k'=NameKind.free:=by
   simp only[gh,eA] at q;exact q.1.1
  cases e';left;rw[<-k1];exact hm
 .have e':(n,k')=(x,k):=by simpa [q] using e
  cases e';rcases hk with z|z
  .subst z;exact .inr hm
  .subst z;exact .inl hm
theorem lB:∀ (names:List (Str×NameKind)) (h:Heap) (dX:List (Str×Addr)) (x:Str) (c:Addr),(cellsFrom h.objs.size names dX).lookup x=some c->dX.lookup x=some c\/(h.objs.size<=c/\(pushCells h names).IsCell c none)
 |[],_,_,_,_,e=>.inl e
 |(name,kind)::r,h,dX,x,c,e=>by
  unfold cellsFrom at e;unfold pushCells;split at e
  .rename_i hk;rw[ai hk];have hsz:(h.push { cls:=.type "cell",data:=.cell none }).objs.size=h.objs.size+1:=ie ..;rw[<-hsz] at e;rcases lB r _ _ x c e with z|⟨z1,z2⟩
   .rw[gP] at z;cases hx:x==name with
    |true=>
     rw[hx] at z;cases z;exact .inr ⟨aW _,_,rP r _ _ _ (b_ _ rfl),rfl⟩
    |false=>rw[hx] at z;exact .inl z
   .exact .inr ⟨by lia,z2⟩
  .rename_i hk;rw[ap hk];exact lB r h dX x c e
theorem uT:∀ (names:List (Str×NameKind)) (n:Nat) (dX:List (Str×Addr)) (x:Str),(x,NameKind.cell)∈names->∃c,n<=c/\(cellsFrom n names dX).lookup x=some c:=by
 have up:∀ (names:List (Str×NameKind)) (n m:Nat) (dX:List (Str×Addr)) (x:Str) (c:Addr),dX.lookup x=some c->m<=c->m<=n->∃c',m<=c'/\(cellsFrom n names dX).lookup x=some c':=by
  intro names;induction names with
  |nil=>intro n m dX x c e h _;exact⟨c,h,e⟩
  |cons y r ih=>
   intro n m dX x c e h hm;obtain⟨name,kind⟩:=y;unfold cellsFrom;split
   .cases hx:x==name with
    |true=>exact ih (n+1) m _ x n (by rw[gP,hx]) hm (by lia)
    |false=>exact ih (n+1) m _ x c (by rw[gP,hx];exact e) h (by lia)
   .exact ih n m dX x c e h hm
 intro names;induction names with
 |nil=>intro n dX x h;cases h
 |cons y r ih=>
  intro n dX x h;obtain⟨name,kind⟩:=y;unfold cellsFrom;rcases ba.mp h with z|z
  .cases z;rw[ai (by decide)];exact up r (n+1) n _ x n (by rw[gP];simp) (aW _) (by lia)
  .split
   .obtain⟨c,h1,h2⟩:=ih (n+1) ((name,n)::dX) x z;exact⟨c,by lia,h2⟩
   .exact ih n dX x z
theorem lC:∀ (names:List (Str×NameKind)) (n:Nat) (dX:List (Str×Addr)) (x:Str) (c:Addr),dX.lookup x=some c->(x,NameKind.cell)∉names->(cellsFrom n names dX).lookup x=some c
 |[],_,_,_,_,e,_=>e
 |(name,kind)::r,n,dX,x,c,e,h=>by
  have hr:(x,NameKind.cell)∉r:=fun z=>h (bJ _ z);unfold cellsFrom;split
  .rename_i hk;have lN:(x==name)=false:=by
    cases hx:x==name with
    |false=>rfl
    |true=>
     have e1:x=name:=by simpa using hx
     have e2:kind=.cell:=by simpa using hk
     exact absurd (by rw[e1,e2];exact bG) h
   exact lC r (n+1) _ x c (by rw[gP,lN];exact e) hr
  .exact lC r n dX x c e hr
theorem pG:∀ (names:List (Str×NameKind)) (n:Nat) (dX:List (Str×Addr)),(∀x y c,dX.lookup x=some c->dX.lookup y=some c->x=y)->(∀x c,dX.lookup x=some c->c<n)->∀x y c,(cellsFrom n names dX).lookup x=some c->(cellsFrom n names dX).lookup y=some c->x=y
 |[],_,_,hi,_=>hi
 |(name,kind)::r,n,dX,hi,hl=>by
  unfold cellsFrom;split
  .refine pG r (n+1) _ (fun x y c h1 h2=>?_) (fun x c h=>?_)
   .rw[gP] at h1 h2;cases hx:x==name <;> cases hy:y==name <;> rw[hx] at h1 <;> rw[hy] at h2
    .exact hi x y c h1 h2
    .cases h2;exact absurd (hl x _ h1) (ii _)
    .cases h1;exact absurd (hl y _ h2) (ii _)
    .have e1:x=name:=by simpa using hx
     have e2:y=name:=by simpa using hy
     rw[e1,e2]
   .rw[gP] at h;cases hx:x==name <;> rw[hx] at h
    .exact dZ (hl x c h)
    .cases h;exact iT _
  .exact pG r n dX hi hl
section
variable {X:Cx} {ae:List (Addr×Obj)} {σ:St} {H:Hp} {s:Shared} {NB:List Str} {src:List (Option Nat)} {scope:Scope} {cl:List (Str×Addr)} {fp:List Addr} {h₁:Heap} {t₁:Nat}
theorem Ca(I:aI X ae σ H s)(S:eO NB src scope X)(c1:∀x c,cl.lookup x=some c->X.env.cells.lookup x=some c)(c2:∀x,(x,NameKind.free)∈scope.names->∃c,cl.lookup x=some c)(hf:∀b∈fp,gs X ae H b)(Sj:∀b∈fp,b<s.heap.objs.size){m:Str->Option Value}(hn:h₁.Ns s.heap.objs.size m)(hk:∀b o,s.heap.get? b=some o->h₁.get? b=some o)(wC:∀x c,(cellsFrom (s.heap.objs.size+1) scope.names cl).lookup x=some c->cl.lookup x=some c\/(s.heap.objs.size<c/\h₁.IsCell c none)):
  aI (n5 X NB scope (cellsFrom (s.heap.objs.size+1) scope.names cl) s.heap.objs.size s H fp) [] (F4 src σ) H { s with heap:=h₁,toks:=t₁ }:=by
 have Jo:∀b∈o_ X.stack,b∈X.env.locals::X.fs:=I.r6;have F5:∀x c,cl.lookup x=some c->∃v,s.heap.IsCell c v:=fun x c e=>I.cell x c (c1 x c e);have W8:∀x c,cl.lookup x=some c->c<s.heap.objs.size:=fun x c e=>by obtain⟨v,o,ho,_⟩:=F5 x c e;exact aO ho
 refine⟨⟨I.ok.mod,S.kind,I.ok.glob,I.ok.blt,aW _,pG _ _ _ (fun x y c e1 e2=>I.ok.inj x y c (c1 x c e1) (c1 y c e2)) (fun x c e=>dZ (W8 x c e)),fun x hx=>?_,fun x c z e=>?_,I.ok.hd,I.ok.frames,.inl rfl,fun b hb=>⟨?_,fun x c e=>?_⟩,I.bs,bj I.ok.Jp I.sz,fun b o e hb=>?_,fun b hb=>?_,I.stack,I.wf⟩,
  rfl,I.bare,Un.kept hk,⟨m,hn,fun i x v e1 e2 e3=>?_⟩,fun x c e=>?_,I.ck.fresh (aW _),fun x c e=>?_,fun p hp=>absurd (show p∈([]:List (Addr×Obj)) from hp) (by simp),I.ck.kept hk,?_⟩
 .have J9:(x,NameKind.free)∈scope.names\/(x,NameKind.cell)∈scope.names:=by
   rcases hx with hx|hx
   .exact n6 hx (.inl rfl)
   .exact n6 hx (.inr rfl)
  by_cases hc:(x,NameKind.cell)∈scope.names
  .obtain⟨c,_,e⟩:=uT scope.names (s.heap.objs.size+1) cl x hc;exact⟨c,e⟩
  .rcases J9 with z|z
   .obtain⟨c,e⟩:=c2 x z;exact⟨c,lC _ _ _ _ _ e hc⟩
   .exact absurd z hc
 .have hm:=kg (xR.mp z);obtain⟨c',h1,h2⟩:=uT scope.names (s.heap.objs.size+1) cl x hm;have e':(cellsFrom (s.heap.objs.size+1) scope.names cl).lookup x=some c:=e;rw[h2] at e';cases e';exact Nat.le_of_succ_le h1
 .exact aX (Sj b hb)
 .rcases wC x c e with z|⟨z,_⟩
  .exact(hf b hb).2.2.2.2.1 x c (c1 x c z)
  .exact gw (rV (Sj b hb) z)
 .rcases(hf b hb).2.2.2.1 with z|z
  .exact I.ok.r0 b o e z
  .exact absurd (bK (aO e) (bj I.ok.Jp z)) (ii _)
 .intro z;rcases ba.mp (Jo b z) with e|e
  .exact(hf b hb).2.1 e
  .exact(hf b hb).2.2.1 e
 .obtain⟨j,hj,hv⟩:=J8 e2;obtain⟨hN,hF⟩:=S.src i x j e1 hj;obtain⟨m0,Jv,hl0⟩:=I.loc;have uy:=kg hF;have kx:=S.free _ uy rfl;have WP:RC X.env.scope x:=by
   rcases kx with z|z
   .exact .inr (.inl z)
   .exact .inr (.inr z)
  obtain⟨u,r,l⟩:=hl0 j x v hN hv WP;refine⟨u,r,.inr ⟨wB hF,?_⟩⟩;obtain⟨c,hc⟩:=c2 x uy;have hnc:(x,NameKind.cell)∉scope.names:=fun z=>by
   have:=S.cells _ z rfl;rw[hF] at this;cases this
  refine⟨c,lC _ _ _ _ _ hc hnc,?_⟩;rcases l with ⟨hk',_⟩|⟨_,c',e,z⟩
  .have Sk:X.env.scope.names.lookup x=some .local:=hk';rcases kx with z|z <;> (rw[z] at Sk;cases Sk)
  .rw[c1 x c hc] at e;cases e;obtain⟨o,ho,hd⟩:=z;exact⟨o,hk _ _ ho,hd⟩
 .rcases wC x c e with z|⟨_,z⟩
  .obtain⟨v,o,ho,hd⟩:=F5 x c z;exact⟨v,o,hk _ _ ho,hd⟩
  .exact⟨none,z⟩
 .rcases wC x c e with z|⟨z,_⟩
  .exact I.lU x c (c1 x c z)
  .exact I.ck.fresh (jy z)
 .show (F4 src σ).length=NB.length;unfold F4;rw[aP];exact S.len
theorem aI.Mq(I:aI X ae σ H s)(J:aI (n5 X NB scope cl C s H fp) [] σB H' s')(hf:∀b∈fp,gs X ae H b):aI X ae σ H' s':=by
 refine I.RK (ch:=fp) J.os J.base J.ck J.bare fun b hb=>?_;obtain⟨_,f1,_,f3,f4,f5⟩:=hf b hb;exact⟨f3,f1,f4,f5⟩
end
def Jw(X:Cx)(oE:List Expr)(t:TT):Prop:=
 ∀ (ae:List (Addr×Obj)) (s:Shared) (σ:St) (H:Hp) (Q:Bool->Hp->Prop),aI X ae σ H s->t σ H Q->
  wpAny (model X.prog X.w) X.A (forIn oE true fun c r=>if r=true then do let ok <- isTrue c X.env (eval c X.env);pure (ForInStep.yield ok) else pure (ForInStep.yield r)) (TP X ae σ Q) X.xe s
def F6:TT:=fun _ H Q=>Q true H
theorem eG:Jw X [] F6:=fun _ _ _ H _ I h=>wpAny_tests_nil ⟨H,I,h⟩
theorem d8(h:PT X c t):Jw X [c] t:=fun ae s σ H Q I q=>wpAny_tests_one (h ae s σ H Q I q)
def gR(J:It)(g:TG)(tt:TT)(te:TE)(D:Addr)(fin:Hp->Prop)(σB:St)(H1:Hp):Prop:=
 ∃W:Nat->Nat->St->Hp->Prop,(∃m,W 0 m σB H1)/\∀i m σ H,W i m σ H->(J.stop i H/\fin H)\/(J.go i H/\∀x H',J.Jr i H x H'->g x σ H' fun σ2 H2=>tt σ2 H2 fun b H3=>
  if b=true then te σ2 H3 fun v H4=>∃ys,H4 D=some (.lst ys)/\ys.length<sizeLine/\∃m',m'<m/\W (i+1) m' σ2 (upd H4 D (.lst (ys++[v]))) else ∃m',m'<m/\W (i+1) m' σ2 H3)
def Ax(G:Hp->Prop)(J:It)(g:TG)(tt:TT)(te:TE)(D:Addr)(fin:Hp->Prop)(σB:St)(H1:Hp):Prop:=
 ∃W:Nat->Nat->St->Hp->Prop,(∃m,W 0 m σB H1)/\∀i m σ H,W i m σ H->G H/\((J.stop i H/\fin H)\/(J.go i H/\∀x H',J.Jr i H x H'->g x σ H' fun σ2 H2=>tt σ2 H2 fun b H3=>
  if b=true then te σ2 H3 fun v H4=>∃ys,H4 D=some (.lst ys)/\ys.length<sizeLine/\∃m',m'<m/\W (i+1) m' σ2 (upd H4 D (.lst (ys++[v]))) else ∃m',m'<m/\W (i+1) m' σ2 H3))
theorem gR.g{J:It}{g:TG}{tt:TT}{te:TE}{D:Addr}{fin:Hp->Prop}{σB:St}{H1:Hp}(h:gR J g tt te D fin σB H1):Ax (fun _=>True) J g tt te D fin σB H1:=let ⟨W,a,b⟩:=h;⟨W,a,fun i m σ H w=>⟨trivial,b i m σ H w⟩⟩
theorem DD(hx:B.xe=fun _ _=>False)(hc:∀H,G H->B.calm=true\/J.VX B.A H)(T:qm B.prog B.w B.K tg J fp it tn)(hg:PG B tg g)(ht:Jw B oE tt)(he:PE B E4 te)(I:aI B [] σB H1 s)(st:tn 0 s.heap)(hf:∀b∈fp,gs B [] H1 b)(hw:Ax G J g tt te D fin σB H1)(hR:∀σ' H' s',aI B [] σ' H' s'->fin H'->R (.ok .next) s'):
  codeAny (model B.prog B.w) B.A (.compLoop (.ListComp E4 [⟨tg,iter,oE,0⟩] scope pos) 0 (.ref it) (.ref D) B.env) R s:=by
 obtain⟨W,⟨m0,w0⟩,Ah⟩:=hw;have sf:∀ {H':Hp},(∀b∈fp,H' b=none)->∀b∈fp,gs B [] H' b:=fun hn b hb=>⟨hn b hb,(hf b hb).2⟩
 refine codeAny_loop rfl (fun n s'=>∃i σ' H',aI B [] σ' H' s'/\tn i s'.heap/\(∀b∈fp,H' b=none)/\W i n σ' H') ?_ m0 ⟨0,σB,H1,I,st,fun b hb=>(hf b hb).1,w0⟩;rintro n s3 ⟨i,σ3,H3,I3,xA,Js,w3⟩;show wpAny _ B.A ((compTurn (.ListComp E4 [⟨tg,iter,oE,0⟩] scope pos) 0 (.ref it) (.ref D) B.env).onRaise (fun x=>do noteFrame x B.env;theTreesLotGoes x)) _ _ s3;refine wpAny_noted ?_;rw[compTurn_list];have nx:∀ {α:Type} {t:Sem α} {Q:α->Shared->Prop} {E':Value->Shared->Prop} {s:Shared},wpAny (model B.prog B.w) B.A t Q B.xe s->wpAny (model B.prog B.w) B.A t Q E' s:=fun h=>
  gy h (fun _ _ q=>q) fun _ _ z=>by rw[hx] at z;exact z.elim
 obtain⟨hG,Sl⟩:=Ah i n σ3 H3 w3;rcases Sl with ⟨stop,qn⟩|⟨go,step⟩
 .refine ak (iX (ak (cz (T.done B rfl rfl rfl i [] s3 σ3 H3 _ (hc _ hG) I3 (sf Js) xA stop) fun r s4 ⟨hr,I4⟩=>?_)));subst hr;exact wpAny_pure (hR σ3 H3 s4 I4 qn)
 .refine ak (iX (ak (cz (T.item B rfl rfl rfl i [] s3 σ3 H3 _ (hc _ hG) I3 (sf Js) xA go) fun r s4 ⟨u,hr,h4⟩=>?_)));subst hr;refine ak (cz h4 fun _ s5 ⟨x,H5,I5,r5,y5,uo,R0⟩=>?_);have R1:=I5.pinned (sf R0) (T.obj _ _ uo);refine ak (nx (cz (hg _ s5 σ3 H5 x u _ R1 r5 (step x H5 y5)) fun _ s6 ⟨σ6,H6,I6,q6⟩=>?_));have back:∀ {σ7:St} {H7:Hp} {s7:Shared} {m':Nat},aI B ([]++pq fp s5.heap) σ7 H7 s7->m'<n->W (i+1) m' σ7 H7->∃m,m<n/\∃i σ' H',aI B [] σ' H' s7/\tn i s7.heap/\(∀b∈fp,H' b=none)/\W i m σ' H':=fun {σ7 H7 s7 m'} I7 hm w7=>by
   refine⟨m',hm,i+1,σ7,H7,I7.kK,T.keep _ _ _ uo fun b hb o e=>(I7.pin (b,o) (hX _ (hX _ (fN hb e)))).1,fun b hb=>?_,w7⟩;obtain⟨o,e,d⟩:=T.obj _ _ uo b hb;exact(I7.pin (b,o) (hX _ (hX _ (fN hb e)))).2.1
  refine ak (nx (cz (ht _ s6 σ6 H6 _ I6 q6) fun ok s7 ⟨H7,I7,q7⟩=>?_));cases ok with
  |false=>
   rw[ap bq] at q7;obtain⟨m',hm,w7⟩:=q7;exact wpAny_pure ⟨rfl,back I7 hm w7⟩
  |true=>
   rw[ai rfl] at q7;refine ak (ak (nx (cz (he _ s7 σ6 H7 _ I7 q7) fun v s8 ⟨y,H8,I8,r8,ys,hD,hl,m',hm,w8⟩=>?_)));refine ak (nx (cz (dh _ s8 σ6 H8 (.ref D) [y] (.ref D) [v] (fun _ H9=>H9=upd H8 D (.lst (ys++[y]))) I8 rfl (.cons r8 .nil) ⟨D,ys,y,rfl,rfl,hD,hl,rfl⟩) fun _ s9 ⟨_,H9,I9,_,e9⟩=>?_));subst e9;exact wpAny_pure (wpAny_pure ⟨rfl,back I9 hm w8⟩)
theorem n9(hQ:Q { scope:=scope,locals:=s.heap.objs.size,globals:=globals,cells:=cellsFrom (s.heap.objs.size+1) scope.names cl,qual:=qual,func:=none,code:=outer.code,frame:=outer.frame,builtins:=outer.builtins }
   { s with heap:=pushCells (s.heap.push { cls:=.type "dict",data:=.dict #[] }) scope.names }):
  wpAny M A (newFunctionEnv scope globals cl [] qual none .none (some outer)) Q E s:=by
 simp only[newFunctionEnv,Option.isSome_some,mE];refine ak (wpAny_alloc ?_);refine ak (wpAny_layCells _ (fun name kind cells=>by cases hkc:kind==NameKind.cell <;> simp[hkc]) _ _ _ _ ?_);rw[show ({ s with heap:=s.heap.push { cls:=.type "dict",data:=.dict #[] } }:Shared).heap.objs.size=s.heap.objs.size+1 from ie ..];refine ak ?_;rw[vW];exact wpAny_pure (wpAny_pure hQ)
section
variable {X:Cx} {E4 tg iter:Expr} {oE:List Expr} {scope:Scope} {pos:Pos} {wi:TI} {g:TG} {tt:TT} {te:TE} {NB:List Str} {src:List (Option Nat)}
def Mr(src:List (Option Nat))(wi:TI)(g:TG)(tt:TT)(te:TE):TE:=fun σ H Q=>wi σ H fun J H1=>∀D,H1 D=none->gR J g tt te D (fun H'=>Q (.ref D) H') (F4 src σ) (upd H1 D (.lst []))
theorem sK{ae:List (Addr×Obj)}{σ:St}{H2:Hp}{s2:Shared}{J:It}{fp:List Addr}{it:Addr}{tn:Nat->Heap->Prop}{cl:List (Str×Addr)}{fin:Addr->Hp->Prop}{E':Value->Shared->Prop}{RR:Value->Addr->Result->Shared->Prop}{G:Hp->Prop}(S:eO NB src scope X)(hc:∀H,G H->X.calm=true\/J.VX X.A H)(c1:∀x c,cl.lookup x=some c->X.env.cells.lookup x=some c)(c2:∀x,(x,NameKind.free)∈scope.names->∃c,cl.lookup x=some c)(hg:∀cl C s₃ H₃ fp,PG (n5 X NB scope cl C s₃ H₃ fp) tg g)(ht:∀cl C s₃ H₃ fp,Jw (n5 X NB scope cl C s₃ H₃ fp) oE tt)(he:∀cl C s₃ H₃ fp,PE (n5 X NB scope cl C s₃ H₃ fp) E4 te)(I2:aI X ae σ H2 s2)(T:qm X.prog X.w X.K tg J fp it tn)(oC:tn 0 s2.heap)(f2:∀b∈fp,gs X ae H2 b)(hw:∀D,H2 D=none->Ax G J g tt te D (fin D) (F4 src σ) (upd H2 D (.lst [])))(hR:∀D C H' s',gs X ae H' C->aI X ae σ H' s'->(∃m,s'.heap.Ns C m)->fin D H'->RR (.ref D) C (.ok .next) s'):
  wpAny (model X.prog X.w) X.A (newList []) (fun dX s₃=>wpAny (model X.prog X.w) X.A (newFunctionEnv scope X.env.globals cl [] X.env.qual none .none (some X.env)) (fun F7 s₄=>
   codeAny (model X.prog X.w) X.A (.compStart (.ListComp E4 [⟨tg,iter,oE,0⟩] scope pos) 0 (.ref it) dX { F7 with scope:=relabel scope X.env }) (RR dX F7.locals) s₄) E' s₃) E' s2:=by
 refine hZ (n9 ?_);have I3:=I2.Sf (ys:=[]) (its:=[]) (t':=s2.toks) .nil (cF _);have hD:H2 s2.heap.objs.size=none:=I2.fresh;have fo:∀b∈fp,b<s2.heap.objs.size:=fun b hb=>by obtain⟨o,e,_⟩:=T.obj _ _ oC b hb;exact aO e
 have up:∀ {b:Addr},b∈fp->upd H2 s2.heap.objs.size (.lst []) b=H2 b:=fun {b} hb=>al (aX (fo b hb));have f3:∀b∈fp,gs X ae (upd H2 s2.heap.objs.size (.lst [])) b:=fun b hb=>⟨by rw[up hb];exact(f2 b hb).1,(f2 b hb).2⟩
 have hsz:(s2.heap.push { cls:=.type "list",data:=.seq ([]:List Value).toArray }).objs.size=s2.heap.objs.size+1:=by rw[ie]
 generalize W9:({ s2 with heap:=s2.heap.push { cls:=.type "list",data:=.seq ([]:List Value).toArray } }:Shared)=s3 at I3 |-;have Sm:s3.heap=s2.heap.push { cls:=.type "list",data:=.seq ([]:List Value).toArray }:=by rw[<-W9]
 have So:∀b∈fp,b<s3.heap.objs.size:=fun b hb=>by rw[Sm,hsz];exact dZ (fo b hb)
 have F8:(s3.heap.push { cls:=.type "dict",data:=.dict #[] }).objs.size=s3.heap.objs.size+1:=ie ..;have wC:∀x c,(cellsFrom (s3.heap.objs.size+1) scope.names cl).lookup x=some c->cl.lookup x=some c\/(s3.heap.objs.size<c/\(pushCells (s3.heap.push { cls:=.type "dict",data:=.dict #[] }) scope.names).IsCell c none):=fun x c e=>by
  rw[<-F8] at e;rcases lB _ _ _ _ _ e with z|⟨z1,z2⟩
  .exact .inl z
  .exact .inr ⟨by rw[F8] at z1;exact z1,z2⟩
 have F9:=(Heap.Ns.new s3.heap (.type "dict")).keeps (rP scope.names _);have keep:∀b o,s3.heap.get? b=some o->(pushCells (s3.heap.push { cls:=.type "dict",data:=.dict #[] }) scope.names).get? b=some o:=fun b o e=>rP _ _ b o (bz _ e);generalize hh1:pushCells (s3.heap.push { cls:=.type "dict",data:=.dict #[] }) scope.names=h₁ at wC F9 keep |-;have IB:aI (n5 X NB scope (cellsFrom (s3.heap.objs.size+1) scope.names cl) s3.heap.objs.size s3 (upd H2 s2.heap.objs.size (.lst [])) fp) [] (F4 src σ) (upd H2 s2.heap.objs.size (.lst [])) { s3 with heap:=h₁,toks:=s3.toks }:=
  Ca I3 S c1 c2 f3 So F9 keep wC
 have Sq:tn 0 h₁:=T.keep 0 s2.heap h₁ oC fun b hb o e=>keep b o (by rw[Sm];exact bz _ e);have fB:∀b∈fp,gs (n5 X NB scope (cellsFrom (s3.heap.objs.size+1) scope.names cl) s3.heap.objs.size s3 (upd H2 s2.heap.objs.size (.lst [])) fp) [] (upd H2 s2.heap.objs.size (.lst [])) b:=fun b hb=>by
  refine⟨(f3 b hb).1,aX (So b hb),fun z=>?_,.inl hb,fun x c e=>(IB.ok.VQ b hb).2 x c e,fun p hp=>absurd (show p∈([]:List (Addr×Obj)) from hp) (by simp)⟩;rcases ba.mp (I3.r6 b z) with e|e
  .exact(f3 b hb).2.1 e
  .exact(f3 b hb).2.2.1 e
 have loop:codeAny (model X.prog X.w) X.A (.compLoop (.ListComp E4 [⟨tg,iter,oE,0⟩] scope pos) 0 (.ref it) (.ref s2.heap.objs.size) (compEnvC scope (cellsFrom (s3.heap.objs.size+1) scope.names cl) s3.heap.objs.size X.env)) (RR (.ref s2.heap.objs.size) s3.heap.objs.size)
   { s3 with heap:=h₁,toks:=s3.toks }:=by
  refine DD (B:=n5 X NB scope (cellsFrom (s3.heap.objs.size+1) scope.names cl) s3.heap.objs.size s3 (upd H2 s2.heap.objs.size (.lst [])) fp) rfl hc T (hg _ _ _ _ _) (ht _ _ _ _ _) (he _ _ _ _ _) IB Sq fB (hw _ hD) fun σ' H' s' J' q=>?_;obtain⟨m,hm,_⟩:=J'.loc;exact hR _ _ H' s' (I3.wr (aW _) J'.free) (I3.Mq J' f3) ⟨m,hm⟩ q
 exact codeAny_compStart_list loop (T.self _ 0 _ _ _ Sq loop)
theorem dN(S:eO NB src scope X)(hc:X.calm=true)(hi:PI X tg iter wi)(hg:∀cl C s₃ H₃ fp,PG (n5 X NB scope cl C s₃ H₃ fp) tg g)(ht:∀cl C s₃ H₃ fp,Jw (n5 X NB scope cl C s₃ H₃ fp) oE tt)(he:∀cl C s₃ H₃ fp,PE (n5 X NB scope cl C s₃ H₃ fp) E4 te)(hs:∀x,foldedSetIterable iter X.env x=pure x:=by intro _;rfl):PE X (.ListComp E4 [⟨tg,iter,oE,0⟩] scope pos) (Mr src wi g tt te):=by
 intro ae s σ H Q I h;obtain⟨cl,Ay,c1,c2⟩:=iu I.ok S;rw[eval_ListComp];refine vB (use:=none) (cl:=cl) rfl hs Ay S.kind S.names (cz (hi ae s σ H _ I h) fun v s1 h1=>cz h1 fun QX s2 h2=>?_);obtain⟨it,fp,tn,J,H2,e,I2,T,oC,f2,hw⟩:=h2;subst e;refine sK (RR:=fun dX C=>compPost (model X.prog X.w) X.A X.xe none (EP X ae σ Q) dX C) S (G:=fun _=>True) (fun _ _=>.inl hc) c1 c2 hg ht he I2 T oC f2 (fun D hD=>(hw D hD).g) fun D C H' s' fC I' hm q=>?_;obtain⟨m,hm⟩:=hm;refine⟨m,hm,fun h' sb=>⟨.ref D,H',?_,rfl,q⟩⟩;obtain⟨g0,g1,_,g3,g4,g5⟩:=fC;exact I'.turned (t':=s'.toks) (fun b o hb e=>(sb.2 b hb).trans e) g0 g1 g3 g4 g5
theorem dA{i:Nat}{y:Str}{py F_:Pos}(S:eO NB src scope X)(hc:X.calm=true)(hi:PI X tg iter wi)(hg:∀cl C s₃ H₃ fp,PG (n5 X NB scope cl C s₃ H₃ fp) tg g)(ht:∀cl C s₃ H₃ fp,Jw (n5 X NB scope cl C s₃ H₃ fp) oE tt)(he:∀cl C s₃ H₃ fp,PE (n5 X NB scope cl C s₃ H₃ fp) E4 te)(hN:X.N.Nodup)(Ga:X.N[i]?=some y)(hy:X.env.scope.names.lookup y=some .local)(W_:swapsWith (.ListComp E4 [⟨tg,iter,oE,0⟩] scope pos) (some (.Name y py)) F_.line X.env=pure true)(hs:∀x,foldedSetIterable iter X.env x=pure x:=by intro _;rfl):
  PS X (.Assign [.Name y py] (.ListComp E4 [⟨tg,iter,oE,0⟩] scope pos) F_) (JO (Mr src wi g tt te) (bV i)):=by
 intro ae s σ H D0 I h;obtain⟨cl,Ay,c1,c2⟩:=iu I.ok S;rw[exec_Assign_Name_used _ _ _ _ W_];refine ak (iX (ak ?_));show wpAny _ X.A (do let _ <- comprehension (.ListComp E4 [⟨tg,iter,oE,0⟩] scope pos) scope X.env _ (newList []) false (eval iter X.env) (some (assign (.Name y py) X.env))) _ _ s;refine ak (gy (vB (use:=some (assign (.Name y py) X.env)) (Q:=fun _ s'=>SP X ae D0 .next s') (cl:=cl) rfl hs Ay S.kind S.names
  (cz (hi ae s σ H _ I h) fun v s1 h1=>cz h1 fun QX s2 h2=>?_)) (fun _ s' hq=>wpAny_pure (wpAny_pure hq)) fun _ _ e=>e)
 obtain⟨it,fp,tn,J,H2,e,I2,T,oC,f2,hw⟩:=h2;subst e;refine sK (RR:=fun dX C=>compPost (model X.prog X.w) X.A X.xe (some (assign (.Name y py) X.env)) (fun _ s'=>SP X ae D0 .next s') dX C) S (G:=fun _=>True) (fun _ _=>.inl hc) c1 c2 hg ht he I2 T oC f2 (fun D hD=>(hw D hD).g) fun D C H' s' fC I' hm q=>?_;obtain⟨m,hm⟩:=hm;obtain⟨g0,g1,_,g3,g4,g5⟩:=fC;show wpAny _ X.A (assign (.Name y py) X.env (.ref D)) _ _ _;refine z5 (pf I' hN Ga (.inl hy) (v:=.ref D) rfl (fun FS Xa sb=>?_) (.inr hy));obtain⟨a,sb,ha⟩:=sb;have lN:C≠a:=by
  rcases ha with z|z
  .rw[z];exact g1
  .exact fun z'=>g4 y a z z'.symm
 refine⟨m,hm.sameBut sb lN,fun h' Xb=>⟨_,H',Xa.turned (t':=FS.toks) (fun b o hb e=>(Xb.2 b hb).trans e) g0 g1 g3 g4 g5,q⟩⟩
end
structure Sr(P:Program)(w:World)(outer:List Env)(H:Hp)(s:Shared)(B:Heap)(p:Addr)(C a0:Value)(H':Hp)(s':Shared):Prop where
 os:s'.os=s.os
 bare:AllBare s'.gens
 ck:kC P w H' B
 keep:∀b o,s.heap.get? b=some o->H b=none->b∉o_ outer->B.get? b=some o/\H' b=none
 frame:∀b o,s.heap.get? b=some o->H b=none->b∈o_ outer->(∃sl,s'.heap.get? b=some { o with slots:=sl })/\H' b=none
 there:∀b o,s.heap.get? b=some o->H b≠none->∃o',B.get? b=some o'
 mQ:∀b xs,H b=some (.tup xs)->H' b=some (.tup xs)
 o8:∀b o u,H b=some (.mK o u)->H' b=some (.mK o u)
 o9:∀b ps,H b=some (.qJ ps)->∃more,H' b=some (.qJ (ps++more))
 fl:Dn B outer p C s'.heap
def iw(P:Program)(w:World):xB:=fun outer H s E e s'=>∃p C a0 B H',e=.ref p/\Sr P w outer H s B p C a0 H' s'/\E C none H'
section
variable {P:Program} {w:World} {K:PySem.W.Frag} {mg:Str->Option Value} {base:Heap} {N:List Str} {qual:Str} {scope:Scope} {f:Addr} {cd:Value} {A:Around} {outer:List Env} {s:Shared} {H:Hp} {E:XK}
abbrev Q5(h:Heap)(l:List Env):Heap:=PySem.W.hideAll h (o_ l)
theorem J_{l:List Env}{H1:Hp}{h:Heap}(ok:kC P w H1 h)(nf:∀b∈o_ l,H1 b=none):kC P w H1 (Q5 h l):=fun a o e=>by
 refine(ok a o e).lL (fun b u hb q=>vJ _ q fun z=>?_) (fun _ q=>q) fun _ _ q=>q;have n:=nf b z;rcases hb with rfl|hb
 .rw[n] at e;cases e
 .rw[n] at hb;cases hb
theorem kM{ae:List (Addr×Obj)}{σ:St}{H1:Hp}{s1:Shared}{h':Heap}{e:Addr}{C:Value}{vs:List Value}(I:aI (jG (iw P w) P w K mg base N qual scope f cd A outer s H E) ae σ H1 s1)(hx:Heap.MadeExcOf s1.heap h' e C vs)(q:E C none H1):
  (jG (iw P w) P w K mg base N qual scope f cd A outer s H E).xe (.ref e) { s1 with heap:=h' }:=by
 have Jo:o_ (envOfC qual scope s.heap.objs.size f cd::outer)=s.heap.objs.size::o_ outer:=rfl;have Xc:=I.stack;refine Ac (B:=Q5 s1.heap (envOfC qual scope s.heap.objs.size f cd::outer)) (h:=s1.heap) (L:=s.heap.objs.size) I.ok.frames rfl (fun b o z=>PySem.W.of_hideAll _ z)
  (PySem.W.funFrames_hide Xc fun env he b hb=>mi.mpr ⟨env,he,hb⟩) hx fun h2 x1 x4=>?_
 have inB:∀b o,s1.heap.get? b=some o->b∉o_ outer->b<s.heap.objs.size->(Q5 s1.heap (envOfC qual scope s.heap.objs.size f cd::outer)).get? b=some o:=fun b o z hb dt=>
  vJ _ z fun m=>by
   rw[Jo] at m;rcases ba.mp m with z'|z'
   .exact absurd dt (by rw[z'];exact ii _)
   .exact hb z'
 refine⟨e,C,.none,_,H1,rfl,⟨I.os,I.bare,J_ I.ck I.wf,fun b o z n hb=>⟨inB b o (I.base.keep b o z n hb (by intro m;exact absurd (show b∈([]:List Addr) from m) (by simp))) hb (aO z),I.base.free b o z n (by intro m;exact absurd (show b∈([]:List Addr) from m) (by simp))⟩,
  fun b o z n hb=>⟨?_,I.base.free b o z n (by intro m;exact absurd (show b∈([]:List Addr) from m) (by simp))⟩,fun b o z n=>?_,I.base.mQ,I.base.o8,I.base.o9,x1⟩,q⟩
 .obtain⟨sl,z1⟩:=I.base.slot b o z n hb (by intro m;exact absurd (show b∈([]:List Addr) from m) (by simp));obtain⟨_,o',Af,nd⟩:=I.ok.nQ.mem hb;have e':o'=o:=a8 (Af.symm.trans z);subst e';obtain⟨sl2,z2⟩:=x4 b _ (hx.keeps _ _ z1) nd;exact⟨sl2,z2⟩
 .have nfr:b∉o_ (envOfC qual scope s.heap.objs.size f cd::outer):=fun m=>by
   rw[Jo] at m;rcases ba.mp m with z'|z'
   .exact absurd (aO z) (by rw[z'];exact ii _)
   .exact n (I.ok.JM b z')
  obtain⟨o',z1⟩:=I.base.there b o z (by intro m;exact absurd (show b∈([]:List Addr) from m) (by simp));exact⟨o',vJ _ z1 nfr⟩
theorem uU{E':XK}(hE:∀C d H',E' C d H'->E C d H'):i8 (iw P w) (jG (iw P w) P w K mg base N qual scope f cd A outer s H E) E':=by
 intro ae σ H1 s1 e s' I h;obtain⟨p,C,a0,B,H',rfl,F,q⟩:=h;have Jo:o_ (envOfC qual scope s.heap.objs.size f cd::outer)=s.heap.objs.size::o_ outer:=rfl;have r0:∀b:Addr,b∉(jG (iw P w) P w K mg base N qual scope f cd A outer s H E).ex:=fun b m=>absurd (show b∈([]:List Addr) from m) (by simp);have nst:∀b o,s.heap.get? b=some o->b∉o_ outer->b∉o_ (jG (iw P w) P w K mg base N qual scope f cd A outer s H E).stack:=fun b o z hb m=>by
  have m':b∈s.heap.objs.size::o_ outer:=m;rcases ba.mp m' with z'|z'
  .exact absurd (aO z) (by rw[z'];exact ii _)
  .exact hb z'
 show wpAny _ _ (leaving (envOfC qual scope s.heap.objs.size f cd) (.ref p)) _ _ s';refine Fp (outer:=outer) (L:=s.heap.objs.size) I.ok.frames rfl F.fl fun h2 x1 x2=>?_;refine⟨p,C,a0,B,H',rfl,⟨F.os.trans I.os,F.bare,F.ck,fun b o z n hb=>?_,fun b o z n hb=>?_,fun b o z n=>?_,fun b xs z=>F.mQ b xs (I.base.mQ b xs z),fun b o u z=>F.o8 b o u (I.base.o8 b o u z),fun b ps z=>?_,x1⟩,hE _ _ _ q⟩
 .exact F.keep b o (I.base.keep b o z n hb (r0 b)) (I.base.free b o z n (r0 b)) (nst b o z hb)
 .obtain⟨sl,z1⟩:=I.base.slot b o z n hb (r0 b);have jW:b∈o_ (jG (iw P w) P w K mg base N qual scope f cd A outer s H E).stack:=bJ _ hb;obtain⟨⟨sl2,z2⟩,n2⟩:=F.frame b _ z1 (I.base.free b o z n (r0 b)) jW;obtain⟨_,o',Af,nd⟩:=I.ok.nQ.mem hb;have e':o'=o:=a8 (Af.symm.trans z);subst e';obtain⟨sl3,z3⟩:=x2 b _ z2 nd;exact⟨⟨sl3,z3⟩,n2⟩
 .obtain⟨o',z1⟩:=I.base.there b o z (r0 b);have FW:b∉o_ outer:=fun m=>n (I.ok.JM b m);cases n1:H1 b with
  |none=>exact⟨o',(F.keep b o' z1 n1 (nst b o z FW)).1⟩
  |some u=>exact F.there b o' z1 (by rw[n1];intro z';cases z')
 .obtain⟨m1,z1⟩:=I.base.o9 b ps z;obtain⟨m2,z2⟩:=F.o9 b _ z1;exact⟨m1++m2,by rw[z2,Array.append_assoc]⟩
theorem N3:PassesOwn (model P w) (jG (iw P w) P w K mg base N qual scope f cd A outer s H E).A (jG (iw P w) P w K mg base N qual scope f cd A outer s H E).env (jG (iw P w) P w K mg base N qual scope f cd A outer s H E).xe:=by
 intro e s' h;exact PassesOwn.leaving (M:=model P w) (A:=A.deeper (envOfC qual scope s.heap.objs.size f cd)) (env:=envOfC qual scope s.heap.objs.size f cd) (Q₁:=fun e FS=>iw P w outer H s E e FS) (E₁:=fun e' FS=>iw P w outer H s E e' FS) e s' h
end
theorem jj{P:Program}{w:World}{X:Cx}:i8 (iw P w) X E0:=fun _ _ _ _ _ _ _ h=>by
 obtain⟨_,_,_,_,_,_,_,q⟩:=h;exact q.elim
open PySem PySem.Spec PyProof.Rows PySem.W
abbrev bmV:List Value:=[.type "ValueError",.type "Exception",.type "BaseException",.type "object"]
structure qu(K:PySem.W.Frag)(C:Addr):Prop where
 ex:PySem.W.excIn K C bmV "ValueError.__new__"=true
 kp:PySem.W.keepIn K (.ref C)=true
 ga:PySem.W.findIn K (.ref C) "__getattribute__"=some (some (.builtin "BaseException.__getattribute__"))
 gt:PySem.W.findIn K (.ref C) "__getattr__"=some none
 cl:PySem.W.findIn K (.ref C) "__class__"=some (some (.builtin "object.__class__"))
 mo:PySem.W.mroIn K C (.type "object")=some true
 mb:PySem.W.mroIn K C (.type "BaseException")=some true
 ty:(PySem.W.clsIn K C).isSome=true
theorem Gb{K:PySem.W.Frag}{h:Heap}{C:Addr}{bmB:List Value}{Ms:String}(X:K.In h)(q:PySem.W.excIn K C bmB Ms=true):
  ∃bm N nm qn bs hdct sn sub ab col dd k0 k1 k2 k3 k5 mN,h.get? C=some (excClassObj nm qn C N bs bm hdct sn sub ab col dd k0 k1 k2 k3 k5 Ms)/\h.Ns N mN/\mN "__init__"=none/\OwnTail h bmB bm:=by
 unfold PySem.W.excIn at q;split at q
 .rename_i dd cd sl ho;split at q
  .rename_i C' bm k0 k1 k2 k3 n k5 hm hs;simp only[gh,eA,vO] at q;obtain⟨⟨⟨⟨⟨rfl,rfl⟩,Ss⟩,ht⟩,ck⟩,V1⟩:=q;obtain⟨nm,bs,mro,ns,qn,hd,sn,sub,ab,col,del⟩:=cd;dsimp only at hm Ss ck V1;subst hm Ss;have Q6:sl=#[k0,k1,k2,k3,some (.builtin n),k5]:=by
    obtain⟨l⟩:=sl;simp only at hs;rw[hs]
   subst Q6;exact⟨bm,ns,nm,qn,bs,hd,sn,sub,ab,col,dd,k0,k1,k2,k3,k5,_,X _ _ ho,.of_isNs (isNs_of_in X ck),nsMap_none_of_in X ck V1,tail_of_in X ht⟩
  .cases q
 .cases q
def Xd(p:Addr)(C:Value)(h:Heap):Prop:=∃o,h.get? p=some o/\o.cls=C/\∃vs,o.data=.fields vs/\vs[2]?=some .none
abbrev Xe(p:Addr)(C:Value):HO:=.ext (Xd p C)
theorem cf.get(x:cf P w H h a o):∃u,h.get? a=some u:=by
 cases o with
 |lst xs=>obtain⟨_,_,_,_,e⟩:=x;exact⟨_,e⟩
 |tup xs=>obtain⟨_,_,_,ob,e,_⟩:=x;exact⟨_,e⟩
 |dK kvs=>obtain⟨_,_,_,_,o,_,_,e,_⟩:=x;exact⟨_,e⟩
 |dT kvs=>obtain⟨_,_,_,_,o,_,_,e,_⟩:=x;exact⟨_,e⟩
 |set S n=>obtain⟨o,_,_,_,e,_⟩:=x;exact⟨_,e⟩
 |ins C dx fs=>obtain⟨_,_,_,e,_⟩:=x;exact⟨_,e⟩
 |own y=>exact x
 |xd fs=>obtain⟨_,⟨_,_,_,e,_⟩,_⟩:=x;exact⟨_,e⟩
 |BL lo hi=>obtain⟨_,_,_,e⟩:=x;exact⟨_,e⟩
 |mK ob u=>obtain⟨e,_⟩:=x;exact⟨_,e⟩
 |qJ ps=>exact⟨_,(show h.get? a=some _ from x)⟩
 |met f y=>exact⟨_,(show h.get? a=some _ from x)⟩
 |ext φ=>exact x.2.1
theorem kC.sL(x:kC P w H h)(e:h.get? a=none):H a=none:=by
 cases q:H a with
 |none=>rfl
 |some u=>obtain⟨o,z⟩:=(x a u q).get;rw[e] at z;cases z
theorem aI.xS(I:aI X ae σ H s)(k:∀b u,s.heap.get? b=some u->h'.get? b=some u)(hp:s.heap.get? a=none)(new:cf X.prog X.w (upd H a o) h' a o):
  aI X ae σ (upd H a o) { s with heap:=h',toks:=t' }:=by
 have hn:=I.ck.sL hp;have ne:∀b u,s.heap.get? b=some u->b≠a:=fun b u e z=>by rw[z,hp] at e;cases e
 refine I.un ⟨fun b u e _ _ _=>k b u e,fun b u e _ _ _=>⟨u.slots,k b u e⟩,fun b u e n _=>by rw[al (ne b u e)];exact n,fun b u e _=>⟨u,k b u e⟩,fun b xs e=>by rw[al (aq e hn)];exact e,fun b u v e=>by rw[al (aq e hn)];exact e,fun b ps e=>⟨#[],by rw[al (aq e hn),e];simp⟩⟩ fun b u e=>?_;by_cases hb:b=a
 .subst hb;rw[ah] at e;cases e;exact new
 .rw[al hb] at e;exact(I.ck b u e).lL (fun c v _ q=>k c v q) (fun c q=>by rw[al (aq q hn)];exact q) fun c xs q=>by rw[al (aq q hn)];exact q
section
variable {prog:Program} {w:World} {A:Around} {E:Value->Shared->Prop} {s:Shared} {K:PySem.W.Frag} {x C:Addr} {ox:Obj}
theorem Cb(hx:h.get? x=some ox)(hc:ox.cls=.ref C):PySem.W.Looks M h (typeOf (.ref x)) (.ref C):=hc ▸ (PySem.W.Looks.ld hx).andThen .now
open Builtin Builtin.ObjectAttr Builtin.Getset_descriptor in
theorem Az(X:K.In s.heap)(hx:s.heap.get? x=some ox)(hc:ox.cls=.ref C)(hm:PySem.W.mroIn K C (.type "object")=some true)(h:R (.ok (.ret (.ref C))) s):codeAny (model prog w) A (.call (.builtin "getset_descriptor.__get__") ⟨[.builtin "object.__class__",.ref x,tp],[]⟩) R s:=by
 obtain⟨hh,g,dr,t,os⟩:=s;have L0:=Cb (M:=model prog w) hx hc;have L1:=looks_mroIn (M:=model prog w) X hm;refine vL KF.slot_gs.plain KF.entry_gs (KF.slot_gs.check _ _ _ _ _ _ _ _ KF.type_class (KF.args_gs _ _ _) ?_);unfold Builtin.«getset_descriptor.__get__» descrGet;rw[dga_obj];refine ak (wpAny_pure ?_);unfold descrGetter descrCheckInstance descrNameAndClass isInstance;simp only[KF.owner_class];repeat lk
 refine⟨zZ _ (by decide +kernel),jV KF.entry_class ?_⟩;unfold Builtin.«object.__class__» shownTypeOf;repeat lk
 exact h
theorem DE{g d t os}(T:qu K C)(X:K.In h)(hx:h.get? x=some ox)(hc:ox.cls=.ref C)(hq:Q (.done (.ret (.ref C))) ⟨h,g,d,t,os⟩):
  wpAny (model prog w) A (Builtin.«object.__getattribute__» ⟨[.ref x,.str "__class__" tk],[]⟩) Q E ⟨h,g,d,t,os⟩:=by
 have f5:=F.typeOf_bexc_args;have hT5:(⟨h,g,d,t,os⟩:Shared).TypeIs (.builtin "object.__class__") "getset_descriptor":=Fc;have f5':=Fc;have f6:=F.slot_gs_get.lookup;have f7:=F.slot_gs_set.lookup;have L1:=looks_findIn (M:=model prog w) X T.cl;repeat (any_goals (first|assumption|(with_reducible refine z4 hx ?_;rw[hc])|with_reducible refine L1.at ?_|wp_step))
 refine Az (s:=⟨h,g,d,t,os⟩) X hx hc T.mo ?_;repeat (any_goals (first|assumption|wp_step))
theorem DG{g d t os}(T:qu K C)(X:K.In h)(hx:h.get? x=some ox)(hc:ox.cls=.ref C)(hq:Q () ⟨h,g,d,t,os⟩):
  wpAny M A (checkBuiltinCall "BaseException.__getattribute__" ⟨[.ref x,Su],[]⟩) Q E ⟨h,g,d,t,os⟩:=by
 have hk:builtinKind "BaseException.__getattribute__"=some .slot:=by decide +kernel
 have N4:splitId "BaseException.__getattribute__"=some ("BaseException","__getattribute__"):=by decide +kernel
 have ha:=F.args_bexc_ga (.ref x) Su;have L1:=looks_mroIn (M:=M) X T.mb;simp only[checkBuiltinCall,hk,N4];refine ak ?_
 .unfold isInstance;repeat (first|(with_reducible refine z4 hx ?_;rw[hc])|with_reducible refine L1.at ?_|wp_step)
  exact hq
theorem N5{tk:Tok}{fill JX:Bool}{Q:Value->Shared->Prop}{h:Heap}{g d t os}(T:qu K C)(X:K.In h)(hx:h.get? x=some ox)(hc:ox.cls=.ref C)(hq:Q (.ref C) ⟨h,g,d,t,os⟩):
  wpAny (model prog w) A (getAttrBy (.ref x) (.str "__class__" tk) fill JX) Q E ⟨h,g,d,t,os⟩:=by
 have f3:=F.attr_ValueError.ga.bind (.ref x);have hx0:(JX&&onTheHeap (Value.builtin "BaseException.__getattribute__"))=false:=by cases JX <;> rfl
 have hx2:(Value.builtin "BaseException.__getattribute__"==Value.builtin "object.__getattribute__")=false:=by decide +kernel
 have hx1:(onTheHeap (Value.ref C)&&Value.builtin "BaseException.__getattribute__"==Value.builtin "object.__getattribute__")=false:=by rw[hx2];rfl
 have L1:=looks_findIn (M:=model prog w) X T.ga;have L2:=looks_findIn (M:=model prog w) X T.gt;repeat (any_goals (first|assumption|(with_reducible refine z4 hx ?_;rw[hc])|with_reducible refine L1.at ?_|with_reducible refine L2.at ?_|wp_step))
 refine vL F.attr_ValueError.ga.plain F.entry_bexc_ga (DG T X hx hc (DE T X hx hc ?_));repeat (any_goals (first|assumption|wp_step))
theorem Gc{Q:Option Value->Shared->Prop}{h:Heap}{g d t os}(T:qu K C)(X:K.In h)(hx:h.get? x=some ox)(hc:ox.cls=.ref C)(hq:Q (some (.ref C)) ⟨h,g,d,t+1,os⟩):
  wpAny (model prog w) A (getAttr? (.ref x) "__class__") Q E ⟨h,g,d,t,os⟩:=by
 unfold getAttr?;repeat (any_goals (first|assumption|with_reducible apply N5 T X hx hc|wp_step))
theorem Ge(T:qu K C):PySem.W.KitX K (.ref x) (.ref C) (Xd x (.ref C)) where
 ty:=fun _ _ _ ⟨o,e,c,_⟩=>Cb e c
 it:=fun _ _ X _=>by
  obtain⟨cdD,JZ⟩:=zh.mp T.ty;unfold clsIn at JZ;split at JZ
  .rename_i c' d' cd' WD ho;intro A' Q' E' s' k q;unfold isType loadHead;exact ak (wpAny_loadPart (k _ _ (X _ _ ho)) (wpAny_pure q))
  .cases JZ
 ne:=fun h tp dd its n sl X Xf=>by
  obtain⟨cdD,JZ⟩:=zh.mp T.ty;refine j8.mpr fun q=>?_;have e:C=tp:=Value.ref.inj (eA.mp q);subst e;unfold clsIn at JZ;split at JZ
  .rename_i c' d' cd' WD ho;have z:=(X _ _ ho).symm.trans Xf;cases z
  .cases JZ
 ca:=fun {_ _ _ _ _ s} X ⟨o,e,c,_⟩ k=>by
  obtain⟨h,g,d,t,os⟩:=s;exact Gc T X e c k
end
section
variable {X:Cx}
inductive Q7 (K:PySem.W.Frag) (H:Hp):V->Value->Prop where
 |of {v:V} {t:Value} (h:pE K H v t):Q7 K H v t
 |exc {p C:Addr} (T:qu K C) (e:H p=some (Xe p (.ref C))):Q7 K H (.ref p) (.ref C)
def Xg(K:PySem.W.Frag):List V->Hp->VK->Prop:=fun xs H Q=>∃x c cv t b,xs=[x,c]/\(c=.ty cv/\PySem.W.kitOne K t (.type cv)=some b)/\Q7 K H x t/\Q (.bl b) H
theorem jk:gu X (.builtin "isinstance") (Xg X.K):=by
 intro ae s σ H xs us Q I r h;obtain⟨x,c,cv,t,b,rfl,⟨rfl,e⟩,ty,q⟩:=h;obtain⟨u1,u2,rfl,r1,r2⟩:=r.two;obtain rfl:u2=Value.type cv:=r2;cases ty with
 |of ty=>exact Dy I r1 ty e fun tk=>⟨.bl b,H,I.tok tk,rfl,q⟩
 |@exc p C T ea=>
  obtain rfl:u1=Value.ref p:=r1;have p1:Xd p (.ref C) s.heap:=(I.ck p _ ea).1;exact jU (Ge T) I.p8 p1 e (fun z=>nomatch z) fun tk=>⟨.bl b,H,I.tok tk,rfl,q⟩
end
section
variable {X:Cx} {x:Str} {C:Addr} {np qr pos:Pos} {e:Expr} {es:List Expr} {t:TA}
def N6(q:Hp->Prop)(t:TA):TS:=fun _ σ H=>t σ H fun vs H1=>vs.length<=sizeLine/\q H1
theorem kN{q:Hp->Prop}(hc:X.calm=true)(T:qu X.K C)(hg:Gl X x)(hm:X.mg x=some (.ref C))(ha:PA X (e::es) t)(hxe:∀ (ae:List (Addr×Obj)) (σ:St) (H1:Hp) (s1:Shared) (h':Heap) (p:Addr) (vs:List Value),aI X ae σ H1 s1->Heap.MadeExcOf s1.heap h' p (.ref C) vs->q H1->X.xe (.ref p) { s1 with heap:=h' })(Dz:(x==("__debug__":Str))=false:=by decide)(he:starEach (e::es) X.env=(false,eval e X.env)::starEach es X.env:=by rfl)(uJ:(backTo qr (starEach (e::es) X.env)).any (·.1)=false:=by rfl):
  PS X (.Raise (some (.Call (.Name x np) (e::es) [] qr)) none pos) (N6 q t):=by
 intro ae s σ H D I h;obtain⟨bm,N,nm,qn,bs,hdct,sn,sub,ab,col,dd,k0,k1,k2,k3,k5,mN,hC,hN,V1,TL⟩:=Gb I.ok.mod.QU T.ex;refine wpAny_Raise_call_subT (C:=C) (nm:=nm) (q:=qn) (N:=N) (bs:=bs) (bm:=bm) (hdct:=hdct) (sn:=sn) (sub:=sub) (ab:=ab) (col:=col) (dd:=dd) (k0:=k0) (k1:=k1) (k2:=k2) (k3:=k3) (k5:=k5)
  Ff (mN:=mN) (TL.hasType Ff.hasBase) (I.ok.hd hc) uJ V1 (qL I hg hm ⟨rfl,?_⟩ Dz)
 have h1:=ha qr ae s σ H _ I h;rw[he] at h1 |-;exact Calls.evalArgs_plain (gy h1 (fun us s2 ⟨vs,H2,I2,r,hl,z⟩=>⟨rfl,(by show us.length<=sizeLine;rw[<-r.length];exact hl),I2.bk _ _ hC,hN.keeps I2.bk,TL.keeps I2.bk,fun h' p m=>hxe ae σ H2 s2 h' p us I2 m z⟩) fun _ _ y=>y)
end
section
variable {X:Cx} {CX:xB} {k:Nat} {f C:Addr} {fd:FuncData} {ps:List Str} {sp:Sp} {qO:List V} {ds:List Value} {E:St->XK} {x m:Str} {p pos qo:Pos} {e o:Expr} {es:List Expr} {ta:TE} {t:TA}
end
section
variable {X:Cx} {CX:xB} {k:Nat} {f:Addr} {fd:FuncData} {ps:List Str} {sp:Sp} {qO:List V} {ds:List Value} {E:XK} {x:Str} {p pos:Pos} {e:Expr} {es:List Expr} {t:TA}
end
section
variable {P:Program} {w:World} {K:PySem.W.Frag} {mg:Str->Option Value} {base:Heap}
theorem eM.Mt{x qual:Str}{st:Stmt}{f:Addr}{fd:FuncData}{N ps:List Str}{k:Nat}{sp:Sp}(F:eM K x qual st f fd)(S:aD N ps (am st))(len:∀vs H Q E,sp vs H Q E->vs.length=ps.length)(sv:∀ (dz:Value) (A:Around) (outer:List Env) (s:Shared) (H:Hp) (vs:List V) (Q:VK) (E:XK),bA k (A.deeper (envOfC qual (am st) s.heap.objs.size f dz))->sp vs H Q E->
   ∃t,y0 (jG (iw P w) P w K mg base N qual (am st) f dz A outer s H E) (cH st) t/\t { nx:=fun _ H'=>Q .bR H',rt:=Q } (start N vs) H):bn P w K mg base (iw P w) (k+1) f fd ps sp:=by
 obtain⟨oc,od,kV,nB,pm,an,dz,ct,xL,rfl,lk,um⟩:=F.ex;exact FU lk um S len fun A outer s H vs Q E hr E2=>sv dz A outer s H vs Q E hr E2
end
section
variable {X:Cx} {ae:List (Addr×Obj)} {σ:St} {H:Hp} {s:Shared}
end
section
variable {X:Cx} {CX:xB} {k:Nat} {f:Addr} {fd:FuncData} {ps:List Str} {sp:Sp} {qO:List V} {ds:List Value} {E:XK} {x:Str} {p pos:Pos} {e:Expr} {es:List Expr} {t:TA}
end
section
variable {P:Program} {w:World} {K:PySem.W.Frag} {mg:Str->Option Value} {base:Heap}
end
theorem Ka{h:Heap}{a:Addr}{m m':Str->Option Value}(x:h.Ns a m)(y:h.Ns a m'):m=m':=by
 obtain⟨o,es,ep,e,d,_,q⟩:=x;obtain⟨o',es',QV,e',d',_,q'⟩:=y;rw[e] at e';cases e';rw[d] at d';cases d';funext z;rw[<-q z,q' z]
theorem aI.Sv{X:Cx}{ae:List (Addr×Obj)}{σ:St}{H:Hp}{s:Shared}{h':Heap}{m:Str->Option Value}{D:Addr}{o:HO}{t':Nat}(I:aI X ae σ H s)(F:Fr X.base X.env.locals s.heap m)(F':Fr X.base X.env.locals h' m)(N':News X.base X.env.locals h' (jC X.base s.heap X.env.locals))(hD:s.heap.get? D=none)(new:cf X.prog X.w (upd H D o) h' D o):aI X ae σ (upd H D o) { s with heap:=h',toks:=t' }:=by
 have hn:=I.ck.sL hD;have ne:∀b u,s.heap.get? b=some u->b≠D:=fun b u e z=>by rw[z,hD] at e;cases e
 have keep:∀b u,b≠X.env.locals->s.heap.get? b=some u->h'.get? b=some u:=fun b u hb e=>by
  cases q:X.base.get? b with
  |some v=>
   have:=I.bk b v q;rw[e] at this;cases this;exact F'.keep b _ q
  |none=>exact(N' (b,u) (kD hb q e)).1
 refine I.step (g':=s.gens) (d':=s.drawn) (ch:=[]) (fun _ z=>absurd z (by simp)) (fun b u hb _ _ e _=>keep b u hb e) (fun b u hb _ _ e _=>⟨u.slots,keep b u hb e⟩) (fun b u _ e n=>by rw[al (ne b u e)];exact n) (fun b u _ e=>?_)
  (fun b xs e=>by rw[al (aq e hn)];exact e) (fun b u v e=>by rw[al (aq e hn)];exact e) (fun b ps e=>⟨#[],by rw[al (aq e hn),e];simp⟩) (fun m1 hm=>by rw[Ka hm F.ns];exact F'.ns) (fun b u e=>?_) I.bare
 .by_cases hb:b=X.env.locals
  .obtain⟨o',_,_,q,_⟩:=F'.ns;exact⟨o',by rw[hb];exact q⟩
  .exact⟨u,keep b u hb e⟩
 .by_cases hb:b=D
  .subst hb;rw[ah] at e;cases e;exact new
  .rw[al hb] at e;refine(I.ck b u e).lL (fun c v hc q=>keep c v ?_ q) (fun c q=>by rw[al (aq q hn)];exact q) fun c xs q=>by rw[al (aq q hn)];exact q
   rintro rfl;rcases hc with z|hc
   .have f:=I.free;rw[z,e] at f;cases f
   .rw[I.free] at hc;cases hc
theorem uz(I:aI X ae σ H s)(N:News X.base X.env.locals h' ((D,o)::jC X.base s.heap X.env.locals))(dt:∀q∈jC X.base s.heap X.env.locals,q.1<D):s.heap.get? D=none:=by
 cases e:s.heap.get? D with
 |none=>rfl
 |some u=>
  obtain⟨_,n1,n2⟩:=N (D,o) bG;exact absurd (dt (D,u) (kD n1 n2 e)) (ii _)
def Gg(K:PySem.W.Frag)(H:Hp)(a:Addr)(y:Int×Int):Prop:=bp K H a [.int y.1,.int y.2]
section
variable {X:Cx}
theorem AA(I:aI X ae σ H s)(h:Gg X.K H a y):∃o n t u,s.heap.get? a=some o/\o.cls=.type "tuple"/\o.data=.seq #[.int y.1 t,.int y.2 u] n:=by
 obtain⟨its,r,p,_⟩:=I.tuple h;obtain⟨u1,u2,rfl,r1,r2⟩:=r.two;obtain⟨t,rfl⟩:=r1;obtain⟨t',rfl⟩:=r2;obtain⟨o,e,c,n,d⟩:=p;exact⟨o,n,t,t',e,c,d⟩
end
def N8(hs:Array Int)(i:Nat):Int:=(hs[i]?).getD 0
def fZ(hs:Array Int)(t:SetTable)(h:Int):Option (Array Int×SetTable):=
 if t.gaveWay then none else
 match t.probe (N8 hs) h (t.probeStart h) with
 |some (.empty j none)=>
  let q:=t.put j
  let Gh:=SetTable.insertAt hs q.2 h
  if q.1.fits Gh.size&&decide (Gh.size<=4096) then
   if q.1.tooFull then
    (match q.1.relaid Gh (SetTable.grown (hs.size+1)) with
    |some (t2,order)=>
     let ww:=order.filterMap (Gh[·]?)
     if ww.size==Gh.size&&t2.fits ww.size&&decide (SetTable.sizeAbove (SetTable.grown (hs.size+1))<=4096) then some (ww,t2) else none
    |none=>none)
   else some (Gh,q.1)
  else none
 |_=>none
def wD(led:Bool):List Int->Option (Array Int×SetTable):=fun l=>l.foldlM (fun q h=>fZ q.1 q.2 h) (#[],SetTable.fresh 0 0 led)
def kO(h:Heap)(S:Addr)(hs:Array Int)(t:SetTable):Prop:=∃o es ep,h.get? S=some o/\o.cls=.type "set"/\(o.dict=none/\o.slots=#[])/\o.data=.set es ep t/\es.map (·.1)=hs/\t.fits es.size=true
section
variable {prog:Program} {w:World} {A:Around} {E:Value->Shared->Prop} {s:Shared} {S:Addr}
theorem N9(es:Array (Int×Value)):(fun i=>(es[i]?.map (·.1)).getD 0)=N8 (es.map (·.1)):=by
 funext i;unfold N8;rw[Array.getElem?_map]
theorem n_(es:Array (Int×Value))(p:Nat)(x:Int×Value):(SetTable.insertAt es p x).map (·.1)=SetTable.insertAt (es.map (·.1)) p x.1:=by
 unfold SetTable.insertAt;simp
theorem pH(es:Array (Int×Value))(order:Array Nat):(order.filterMap (es[·]?)).map (·.1)=order.filterMap ((es.map (·.1))[·]?):=by
 apply Array.ext';rw[vS,rA,rA,List.map_filterMap];congr 1;funext i;rw[Array.getElem?_map]
theorem AB(hS:kO s.heap S hs t)(hg:t.gaveWay=false)(hp:t.probe (N8 hs) h (t.probeStart h)=some (.empty j none))(q:Q (.free j false) s):
  wpAny (model prog w) A (setSearch S x h true) Q E s:=by
 obtain⟨o,es,ep,ho,hc,hdi,hd,hm,hf⟩:=hS;unfold setSearch setSearchFrom;refine ak (jx ho hd hf ?_);dsimp only;rw[hg,ap bq];have Gi:t.probe (fun i=>(es[i]?.map (·.1)).getD 0) h (t.probeStart h)=some (.empty j none):=by rw[N9,hm];exact hp
 refine ak (wpAny_pure ?_);erw[Gi];exact wpAny_pure q
theorem DH(ho:s.heap.get? a=some o)(hc:o.cls=.type "tuple")(hd:o.data=.seq #[.int x t,.int y u] n)(q:Q true s):
  wpAny (model prog w) A (hashByValue 8 (.ref a)) Q E s:=by
 have hT:s.TypeIs (.ref a) "tuple":=⟨_,ho,hc⟩
 unfold hashByValue;refine ak (vX hT PySem.F.slot_tuple_hash.lookup ?_);refine ak (kn ho hd ?_);refine ak ?_;show wpAny _ _ (forIn #[Value.int x t,Value.int y u] _ _) _ _ s;rw[<-Array.forIn_toList];refine wpAny_forIn_list _ (fun bZ r s'=>r.1=none/\s'=s/\∀v∈bZ,∃z k,v=Value.int z k) _ ?_ ?_ _ _ ⟨rfl,rfl,fun v hv=>?_⟩
 .rintro v bZ r s' ⟨hr,rfl,xP⟩;obtain⟨z,k,rfl⟩:=xP v bG;refine ak (wpAny_pure ?_);exact wpAny_pure ⟨rfl,rfl,fun u' Cc=>xP u' (bJ _ Cc)⟩
 .rintro⟨r1,r2⟩ s' ⟨hr,rfl,_⟩;have E5:r1=none:=hr;subst E5;exact wpAny_pure q
 .rcases ba.mp hv with z|z
  .exact⟨_,_,z⟩
  .rcases ba.mp z with z|z
   .exact⟨_,_,z⟩
   .cases z
theorem Cd(hS:kO s.heap S hs t)(hf:t'.fits es'.size=true)(hz:es'.size<=4096)(q:∀h',Heap.SameBut S s.heap h'->kO h' S (es'.map (·.1)) t'->Q () { s with heap:=h' }):wpAny (model prog w) A (storeSet S es' t') Q E s:=by
 obtain⟨o,es,ep,ho,hc,hdi,hd,hm,_⟩:=hS;refine z0 ho hd (q _ (vN s.heap S (Obj.putSet es' t')) ?_) (bj hz (by decide));have g:=oO (Obj.putSet es' t') ho (by rw[putSet_of es' t' hd];rfl);rw[putSet_of es' t' hd] at g;exact⟨_,es',ep+1,g,hc,hdi,rfl,rfl,hf⟩
theorem Kb(hu:A.units<cLine)(hS:kO s.heap S hs t)(ho:s.heap.get? a=some o)(hc:o.cls=.type "tuple")(hd:o.data=.seq #[.int x tx,.int y ty] n)(lN:a≠S)(iD:fZ hs t (tupleKeyHash (intKind prog w) [x,y])=some (hs',t'))(q:∀h' tk,Heap.SameBut S s.heap h'->kO h' S hs' t'->Q true { s with heap:=h',toks:=tk }):wpAny (model prog w) A (setAdd S (.ref a)) Q E s:=by
 have hk:IsTupleKey (intKind prog w) s.heap [x,y] a:=⟨o,_,n,ho,hc,hd,.cons (intKind_is _ _ _ _) (.cons (intKind_is _ _ _ _) .nil)⟩
 unfold setAdd;refine gm (ak (wpAny_pyHash_tuple hu hk ?_));generalize WY:s.toks+([x,y].length+1)=tk;generalize hh:tupleKeyHash (intKind prog w) [x,y]=h at iD |-;have hS0:=hS;obtain⟨ob,es,ep,hb,Xh,hbd,Jn,hm,hf⟩:=hS;unfold setAddHashed setAddHashedIn;refine gm (ak (jx (s:={ s with toks:=tk }) hb Jn hf ?_));dsimp only;have Q8:byScan (.ref a) es=false:=by unfold byScan;rfl
 rw[Q8,ap bq];unfold fZ at iD;cases hg:t.gaveWay with
 |true=>rw[hg,ai rfl] at iD;cases iD
 |false=>
  rw[hg,ap bq] at iD;split at iD
  .rename_i j hp;dsimp only at iD;split at iD
   .rename_i V2;rw[gh,mm] at V2;refine ak (AB (s:={ s with toks:=tk }) hS0 hg hp ?_);dsimp only;refine ak (jx (s:={ s with toks:=tk }) hb Jn hf ?_);dsimp only;have byv:∀ {kk:Bool->Sem Bool},wpAny (model prog w) A (kk true) Q E { s with toks:=tk }->wpAny (model prog w) A (if (t.put j).1.plain=true then hashByValue 8 (.ref a) >>= kk else pure true >>= kk) Q E { s with toks:=tk }:=fun {kk} hP=>by
     split
     .exact ak (DH (s:={ s with toks:=tk }) ho hc hd hP)
     .exact ak (wpAny_pure hP)
    refine byv ?_;simp only[mE];have hsz:(SetTable.insertAt es (t.put j).2 (h,Value.ref a)).size=(SetTable.insertAt hs (t.put j).2 h).size:=by
     rw[<-hm,<-n_ es (t.put j).2 (h,Value.ref a),iW]
    refine ak (Cd (s:={ s with toks:=tk }) hS0 (by rw[hsz];exact V2.1) (by rw[hsz];exact V2.2) fun h1 oF S1=>?_);rw[n_,hm] at S1;split at iD
    .rename_i Xi;rw[show (!false&&(t.put j).1.tooFull)=true by rw[Xi];rfl,ai rfl];split at iD
     .rename_i t2 order hr;split at iD
      .rename_i hq;rw[gh,gh,mm,eA] at hq;obtain⟨⟨Mu,V3⟩,hq3⟩:=hq;cases iD;have hes:es.size=hs.size:=by rw[<-hm,iW]
       refine ak ?_;unfold setRelay;obtain⟨o1,i9,ep1,g1,g2,g3,g4,g5,g6⟩:=id S1;refine ak (jx (s:={ s with heap:=h1,toks:=tk }) g1 g4 g6 ?_);dsimp only;rw[hes];rw[ap (by (have h4:(4096:Nat)<=sizeLine:=by decide);lia)];refine ak ?_;rw[g5,hr];have pI:(order.filterMap (i9[·]?)).size=i9.size:=by
        have e1:=congrArg Array.size (pH i9 order);rw[iW,g5] at e1;rw[e1,Mu,<-g5,iW]
       refine fK (show _=(pure (order.filterMap (i9[·]?),t'):Sem (Array (Int×Value)×SetTable)) from ?_) ?_
       .show (do
         let es':=order.filterMap (i9[·]?)
         if es'.size != i9.size then unsupported "internal:set-table-lost-an-element"
         pure (es',t'):Sem (Array (Int×Value)×SetTable))=_
        simp[pI]
       dsimp only;have Sw:i9.size<=4096:=by
        have e1:=congrArg Array.size g5;rw[iW] at e1;rw[e1];exact V2.2
       have hfm:(order.filterMap (i9[·]?)).size=(order.filterMap ((SetTable.insertAt hs (t.put j).2 h)[·]?)).size:=by
        have e1:=congrArg Array.size (pH i9 order);rw[iW,g5] at e1;exact e1
       refine Cd (s:={ s with heap:=h1,toks:=tk }) S1 (by rw[hfm];exact V3) (by rw[pI];exact Sw) fun h2 oG S2=>?_;rw[pH,g5] at S2;exact wpAny_pure (q h2 tk (oF.trans oG) S2)
      .cases iD
     .cases iD
    .rename_i Xi;cases iD;have Xj:(t.put j).1.tooFull=false:=by simpa using Xi
     rw[show (!false&&(t.put j).1.tooFull)=false by rw[Xj];rfl,ap bq];exact wpAny_pure (q h1 tk oF S1)
   .cases iD
  .cases iD
end
section
variable {prog:Program} {w:World} {A:Around} {E:Value->Shared->Prop} {s:Shared} {S Ia l:Addr} {R:Result->Shared->Prop}
def jH(h:Heap)(vs:List Value)(ys:List (Int×Int)):Prop:=vs.length=ys.length/\∀i v,vs[i]?=some v->∃a o n t u,v=.ref a/\h.get? a=some o/\o.cls=.type "tuple"/\o.data=.seq #[.int (ys.getD i (0,0)).1 t,.int (ys.getD i (0,0)).2 u] n
theorem jH.keeps(p:jH h vs ys)(k:∀b o,(∃xs n,o.data=.seq xs n)->h.get? b=some o->h'.get? b=some o):jH h' vs ys:=
 ⟨p.1,fun i v e=>let ⟨a,o,n,t,u,e1,e2,c,d⟩:=p.2 i v e;⟨a,o,n,t,u,e1,k a o ⟨_,_,d⟩ e2,c,d⟩⟩
def fk(prog:Program)(w:World)(y:Int×Int):Int:=tupleKeyHash (intKind prog w) [y.1,y.2]
theorem Gj(hh:A.handled=none)(hu:A.units+1<cLine)(Xk:l≠S)(Xl:l≠Ia)(DI:S≠Ia):
  ∀ (k i:Nat) (s:Shared) (hs:Array Int) (t:SetTable),vs.length-i=k->i<=vs.length->s.heap.IsListIter Ia l i->s.heap.IsList l vs.toArray->jH s.heap vs ys->kO s.heap S hs t->
   ((ys.drop i).map (fk prog w)).foldlM (fun q h=>fZ q.1 q.2 h) (hs,t)=some (hsN,tN)->
   (∀h' tk,(∀b o,b≠S->b≠Ia->s.heap.get? b=some o->h'.get? b=some o)->kO h' S hsN tN->R (.ok (.ret .none)) { s with heap:=h',toks:=tk })->
   codeAny (model prog w) A (.builtin "set.update.loop" ⟨[.ref S,.ref Ia],[]⟩) R s:=by
 intro k;induction k with
 |zero=>
  intro i s hs t hk hi iJ hl hp hS hf hR;have e:i=vs.length:=by lia
  refine jV vt ?_;rw[nM uG _];show wpAny _ A.in1 (pyNext (.ref Ia) >>= _) _ _ s;refine ak (zE (show A.in1.handled=none from hh) iJ hl (by simp;lia) fun h' eb=>?_);show wpAny _ A.in1 (ret Value.none) _ _ _;have hd:ys.drop i=[]:=by rw[List.drop_eq_nil_iff];have:=hp.1;lia
  rw[hd] at hf;cases hf;obtain⟨o,es,ep,q1,q2⟩:=hS;exact wpAny_pure (hR h' s.toks (fun b o hb Kc e=>eb b o Kc e) ⟨o,es,ep,eb S o DI q1,q2⟩)
 |succ k ih=>
  intro i s hs t hk hi iJ hl hp hS hf hR;have dt:i<vs.length:=by lia
  refine jV vt ?_;rw[nM uG _];show wpAny _ A.in1 (pyNext (.ref Ia) >>= _) _ _ s;have hv:vs[i]?=some vs[i]:=cU dt;refine ak (zy iJ hl (x:=vs[i]) (by simpa using hv) fun h1 N_ oF=>?_);obtain⟨a,o,n,tx,ty,ea,eo,ec,ed⟩:=hp.2 i _ hv;rw[ea];have neI:∀b ob,(∃xs n,ob.data=.seq xs n)->s.heap.get? b=some ob->b≠Ia:=fun b ob ⟨xs,m,z⟩ e z'=>by
   obtain⟨oi,e1,_,d1⟩:=iJ;rw[z',e1] at e;cases e;rw[d1] at z;cases z
  have Mv:jH h1 vs ys:=hp.keeps fun b ob hb e=>(oF.2 b (neI b ob hb e)).trans e;have V4:kO h1 S hs t:=by
   obtain⟨oS,es,ep,q1,q2⟩:=hS;exact⟨oS,es,ep,(oF.2 S DI).trans q1,q2⟩
  have Kd:h1.IsList l vs.toArray:=by
   obtain⟨ol,q1,q2⟩:=hl;exact⟨ol,(oF.2 l Xl).trans q1,q2⟩
  have eo1:h1.get? a=some o:=(oF.2 a (neI a o ⟨_,_,ed⟩ eo)).trans eo;have neS:∀b ob,(∃xs n,ob.data=.seq xs n)->h1.get? b=some ob->b≠S:=fun b ob ⟨xs,m,z⟩ e z'=>by
   obtain⟨oS,es,ep,q1,_,_,q4,_⟩:=V4;rw[z',q1] at e;cases e;rw[q4] at z;cases z
  have AC:i<ys.length:=by have:=hp.1;lia
  have Xm:ys.drop i=ys[i]::ys.drop (i+1):=rh AC;have Xn:ys.getD i (0,0)=ys[i]:=by rw[cr,cU AC];rfl
  rw[Xm,fg,List.foldlM_cons] at hf;cases iD:fZ hs t (fk prog w ys[i]) with
  |none=>rw[iD] at hf;cases hf
  |some q=>
   obtain⟨ww,t2⟩:=q;rw[iD] at hf;have hf2:((ys.drop (i+1)).map (fk prog w)).foldlM (fun q h=>fZ q.1 q.2 h) (ww,t2)=some (hsN,tN):=hf;show wpAny _ A.in1 (holding [Value.ref a] (setAdd S (.ref a)) >>= _) _ _ _;refine ak (gm (Kb (s:={ s with heap:=h1 }) (by show A.units+1<cLine;exact hu) V4 eo1 ec ed (neS a o ⟨_,_,ed⟩ eo1) (hs':=ww) (t':=t2) (by rw[Xn];exact iD) fun h2 tk oG S2=>?_));refine wpAny_pure ⟨rX uG _,?_⟩;refine ih (i+1) { s with heap:=h2,toks:=tk } ww t2 (by lia) dt ?_ ?_ (Mv.keeps fun b ob hb e=>(oG.2 b (neS b ob hb e)).trans e) S2 hf2 fun h3 Xo k3 S3=>?_
   .obtain⟨oi,q1,q2⟩:=N_;exact⟨oi,(oG.2 Ia (cj DI)).trans q1,q2⟩
   .obtain⟨ol,q1,q2⟩:=Kd;exact⟨ol,(oG.2 l Xk).trans q1,q2⟩
   .exact hR h3 Xo (fun b ob hb Kc e=>k3 b ob hb Kc ((oG.2 b hb).trans ((oF.2 b Kc).trans e))) S3
theorem Gk{vs:List Value}{ys:List (Int×Int)}{hsN:Bool->Array Int}{tN:Bool->SetTable}{Q:Value->Shared->Prop}(hh:A.handled=none)(hu:A.units+8<cLine)(hl:s.heap.IsList l vs.toArray)(hp:jH s.heap vs ys)(DJ:∀led,wD led (ys.map (fk prog w))=some (hsN led,tN led))(h:∀ (led:Bool) (h':Heap) (tk:Nat),kO h' s.heap.objs.size (hsN led) (tN led)->(∀b o,b<s.heap.objs.size->s.heap.get? b=some o->h'.get? b=some o)->Q (.ref s.heap.objs.size) { s with heap:=h',toks:=tk }):
  wpAny (model prog w) A (call (.type "set") [.ref l]) Q E s:=by
 obtain⟨c,tl,Xp⟩:=gO.mro;have c1:=gO.made;have c2:=gO.sub;refine rY (vZ ?_);show wpAny _ _ (callAny (.type "set") _) _ _ _;refine wpAny_pure ⟨zZ _ (by decide +kernel),jV PySem.F.entry_type_call ?_⟩;rw[Around.under_plain (weight_type_call_type "set" [.ref l] []) rfl];have c3:=gO.notType;have c4:=gO.canCreate;have c5:=PySem.F.typeCall_set_1 (.ref l);repeat (any_goals (first|assumption|wp_step))
 refine kr (code_set_new_1 (.ref l) (E:=E) (Q₁:=fun obj s₁=>∃led:Bool,obj=.ref s.heap.objs.size/\s₁={ s with heap:=s.heap.push { cls:=.type "set",dict:=none,data:=.set #[] 0 (.fresh 0 0 led) } }) fun led=>⟨led,rfl,rfl⟩) fun r s₁ hr=>?_;cases r with
 |error e=>exact hr
 |ok fl=>
  cases fl with
  |next=>exact hr.elim
  |brk=>exact hr.elim
  |cont=>exact hr.elim
  |ret obj=>
   obtain⟨led,rfl,rfl⟩:=hr;generalize Oa:s.heap.push { cls:=.type "set",dict:=none,data:=.set #[] 0 (.fresh 0 0 led) }=hS;have hsz:hS.objs.size=s.heap.objs.size+1:=by rw[<-Oa,ie]
   have gS:hS.get? s.heap.objs.size=some { cls:=.type "set",dict:=none,data:=.set #[] 0 (.fresh 0 0 led) }:=by rw[<-Oa];exact b_ _ rfl
   have up:∀b o,s.heap.get? b=some o->hS.get? b=some o:=fun b o e=>by rw[<-Oa];exact bz _ e
   have hT:Shared.TypeIs { s with heap:=hS } (.ref s.heap.objs.size) "set":=⟨_,gS,rfl⟩
   have c6:=gO.init.lookup;have c7:=gO.init.bind (.ref s.heap.objs.size);repeat (any_goals (first|assumption|wp_step))
   refine kr (vL (R:=wants (fun r s₂=>r=.none/\∃h' tk,s₂={ s with heap:=h',toks:=tk }/\kO h' s.heap.objs.size (hsN led) (tN led)/\
     (∀b o,b<s.heap.objs.size->s.heap.get? b=some o->h'.get? b=some o)) E) gO.init.plain PySem.F.entry_set_init (check_set_init_1 hT ?_)) fun r₂ s₂ Gm=>?_
   .obtain⟨ol,Gn,Ay,nl,Ob⟩:=hl;obtain⟨Xq,Sx,Sy,Oc⟩:=ol;simp only at Ay Ob;subst Ay;subst Ob;have Od:=up _ _ Gn;have c8:=PySem.F.sub_list_set;have c9:=Fe;have c10:(Value.type "list"==Value.type "dict")=false:=by decide
    have Kd:hS.IsList l vs.toArray:=⟨_,Od,rfl,nl,rfl⟩
    unfold Builtin.«set.__init__» noKeywords Builtin.Frozenset.updateFrom;generalize Xr:pyIter=PI
    wp_walk
    subst Xr;refine rK Kd ?_;refine ak (v7 ?_);have dt:l<s.heap.objs.size:=aO Gn;refine Gj (l:=l) (vs:=vs) (ys:=ys) (hsN:=hsN led) (tN:=tN led) (by simp[hh]) (by simp;lia) (aX dt) (by rw[hsz];exact aX (dZ dt)) (by rw[hsz];exact aX (iT _))
     (vs.length-0) 0 _ #[] (.fresh 0 0 led) rfl (cF _) ⟨_,b_ _ rfl,rfl,rfl⟩ (Kd.push _) (hp.keeps fun b o _ e=>bz _ (up b o e)) ⟨_,#[],0,bz _ gS,rfl,⟨rfl,rfl⟩,rfl,by simp,rfl⟩ (DJ led) fun h' tk k S'=>?_
    show wpAny _ _ _ _ _ _;refine wpAny_pure ?_;show wpAny _ _ (ret Value.none) _ _ _;refine wpAny_pure ⟨rfl,h',tk,rfl,S',fun b o hb e=>?_⟩;exact k b o (aX hb) (by rw[hsz];exact aX (dZ hb)) (bz _ (up b o e))
   .cases r₂ with
    |error e=>exact Gm
    |ok Xs=>
     cases Xs with
     |next=>exact Gm.elim
     |brk=>exact Gm.elim
     |cont=>exact Gm.elim
     |ret r=>
      obtain⟨rfl,h',tk,rfl,S',k⟩:=Gm;repeat (any_goals (first|assumption|wp_step))
      exact h led h' tk S' k
end
open PySem
def Go(l:List Nat):Nat:=l.foldl (fun a x=>a ||| (1 <<< x)) 0
theorem DK(l:List Nat)(a j:Nat):(l.foldl (fun a x=>a ||| (1 <<< x)) a).testBit j=(a.testBit j||l.contains j):=by
 induction l generalizing a with
 |nil=>simp
 |cons x xs ih=>
  rw[ic,ih,Nat.testBit_or,List.contains_cons];have:(1 <<< x).testBit j=(j==x):=by
   rw[Nat.one_shiftLeft,Nat.testBit_two_pow];by_cases h:x=j
   .simp[h]
   .have h':¬ j=x:=fun e=>h e.symm;simp[h,h']
  rw[this,Bool.or_assoc]
theorem p_(h:Go l=2 ^ n-1)(hj:j<n):j∈l:=by
 have e:=DK l 0 j;have h':l.foldl (fun a x=>a ||| (1 <<< x)) 0=2 ^ n-1:=h;rw[h',Nat.testBit_two_pow_sub_one] at e;simp[hj] at e;exact e
def Gp(M:Nat):Nat->Nat->Nat
 |0,i=>i
 |n+1,i=>Gp M n ((i*5+1) % M)
theorem qP(M a:Nat):∀b i,Gp M (b+a) i=Gp M a (Gp M b i)
 |0,i=>by rw[Nat.zero_add];rfl
 |b+1,i=>by
  rw[show b+1+a=(b+a)+1 by lia];show Gp M (b+a) _=Gp M a (Gp M b _);exact qP M a b _
def Oe(M:Nat):Nat->Nat->List Nat
 |0,_=>[]
 |n+1,i=>i::Oe M n ((i*5+1) % M)
theorem sO:∀ {n i},j∈Oe M n i->∃k,k<n/\Gp M k i=j
 |0,_,h=>by cases h
 |n+1,i,h=>by
  rcases ba.mp h with z|z
  .exact⟨0,by lia,z.symm⟩
  .obtain⟨k,a,b⟩:=sO z;exact⟨k+1,by lia,b⟩
structure y3(M:Nat):Prop where
 all:Go (Oe M M 0)=2 ^ M-1
 back:Gp M M 0=0
theorem Sz:y3 8:=⟨by decide +kernel,by decide +kernel⟩
theorem xT:y3 32:=⟨by decide +kernel,by decide +kernel⟩
theorem Gq:y3 128:=⟨by decide +kernel,by decide +kernel⟩
theorem Gr:y3 512:=⟨by decide +kernel,by decide +kernel⟩
theorem y3.cover(R:y3 M)(hi:i<M)(hj:j<M):∃n,n<M/\Gp M n i=j:=by
 obtain⟨a,ha,ea⟩:=sO (p_ R.all hi);obtain⟨b,hb,eb⟩:=sO (p_ R.all hj);by_cases h:a<=b
 .refine⟨b-a,by lia,?_⟩;rw[<-ea,<-qP,show a+(b-a)=b by lia,eb]
 .refine⟨M+b-a,by lia,?_⟩;rw[<-ea,<-qP,show a+(M+b-a)=M+b by lia,qP,R.back,eb]
def gT(mask:Nat):Nat->Nat×Nat->Nat×Nat
 |0,q=>q
 |n+1,q=>gT mask n (SetTable.leap mask q.1 q.2)
theorem uV(m a:Nat):∀b q,gT m (b+a) q=gT m a (gT m b q)
 |0,q=>by rw[Nat.zero_add];rfl
 |b+1,q=>by
  rw[show b+1+a=(b+a)+1 by lia];exact uV m a b _
theorem xU:∀ {n:Nat} {q:Nat×Nat},q.1<m+1->(gT m n q).1<m+1
 |0,_,h=>h
 |n+1,q,h=>xU (n:=n) (jA _ (wb _))
theorem Ce:∀ {n:Nat} {q:Nat×Nat},(gT m n q).2=q.2 / 32 ^ n
 |0,_=>by simp[gT]
 |n+1,q=>by
  show (gT m n _).2=_;rw[Ce];show q.2 / 32 / 32 ^ n=_;rw[l_,Nat.pow_succ,Nat.mul_comm]
theorem uW:∀ {n i:Nat},gT m n (i,0)=(Gp (m+1) n i,0)
 |0,_=>rfl
 |n+1,i=>by
  show gT m n (SetTable.leap m i 0)=_;unfold SetTable.leap;simp only[Nat.zero_div,Nat.add_zero];exact uW
theorem qa(R:y3 (m+1))(hi:i<m+1)(hp:p<2 ^ 64)(hj:j<m+1):∃n,n<m+14/\(gT m n (i,p)).1=j:=by
 have h1:=xU (m:=m) (n:=13) (q:=(i,p)) hi;have h2:(gT m 13 (i,p)).2=0:=by
  rw[Ce];exact zU (bK hp (by decide))
 obtain⟨n,hn,e⟩:=R.cover h1 hj;refine⟨13+n,by lia,?_⟩;rw[uV];have:gT m 13 (i,p)=((gT m 13 (i,p)).1,0):=gD rfl h2;rw[this,uW];exact e
theorem Cf(h:Int):SetTable.bits h<2 ^ 64:=by
 unfold SetTable.bits;have a:=oX h (show (2 ^ 64:Int)≠0 by decide);have b:=oR h (show (0:Int)<2 ^ 64 by decide);lia
theorem SA{M:Nat}{l:List Nat}(h:l.length<M):∃j,j<M/\j∉l:=by
 have key:∀ (a b:List Nat),a.Nodup->(∀x∈a,x∈b)->a.length<=b.length:=by
  intro a;induction a with
  |nil=>intro b _ _;exact cF _
  |cons x xs ih=>
   intro b hn hs;obtain⟨h1,h2⟩:=cX.mp hn;have hx:x∈b:=hs x bG;have:=ih (b.erase x) h2 fun y hy=>(oN (fun (e:y=x)=>h1 (e ▸ hy))).mpr (hs y (bJ _ hy));rw[rj hx] at this;have:0<b.length:=vE hx;rw[cu];lia
 apply vy;intro FW;have:=key (List.range M) l mv fun x hx=>vy fun jw=>FW ⟨x,cY.mp hx,jw⟩;rw[dO] at this;lia
def AE(mask i p:Nat):SetTable.Probe:={ j:=i,more:=SetTable.runEnd mask i-i,i:=i,perturb:=p,dummy:=none }
theorem Of(mask i:Nat):SetTable.runEnd mask i-i<=9:=by unfold SetTable.runEnd;split <;> lia
theorem qQ{t:SetTable}(hd:t.dummies=#[])(j:Nat):t.slot j=.empty\/∃i,t.slot j=.live i/\t.place[i]?=some j:=by
 unfold SetTable.slot;dsimp only;split
 .rename_i h;exact .inr ⟨_,rfl,by simpa using h⟩
 .left;rw[hd];rfl
theorem AF{t:SetTable}(hd:t.dummies=#[]){j:Nat}(h:j∉t.place.toList):t.slot j=.empty:=by
 rcases qQ hd j with e|⟨i,_,e2⟩
 .exact e
 .exact absurd (by rw[<-nK] at e2;exact cZ e2) h
section
variable {t:SetTable} {hashAt:Nat->Int} {h:Int}
theorem Gs(hd:t.dummies=#[])(hh:∀i,i<t.place.size->hashAt i≠h)(i p:Nat):∀ (r:Nat) (j dB:Nat),
  (∃j',SetTable.probe.go t hashAt h (dB+r+1) { j:=j,more:=r,i:=i,perturb:=p,dummy:=none }=some (.empty j' none))\/
  SetTable.probe.go t hashAt h (dB+r+1) { j:=j,more:=r,i:=i,perturb:=p,dummy:=none }=SetTable.probe.go t hashAt h dB (AE t.mask (SetTable.leap t.mask i p).1 (SetTable.leap t.mask i p).2)
 |0,j,dB=>by
  rcases qQ hd j with e|⟨k,e,e2⟩
  .exact .inl ⟨j,by unfold SetTable.probe.go;rw[e]⟩
  .right;have hk:k<t.place.size:=(oJ.mp e2).1;conv=>lhs;unfold SetTable.probe.go
   rw[e];simp only[eA,hh k hk,iZ];rfl
 |r+1,j,dB=>by
  rcases qQ hd j with e|⟨k,e,e2⟩
  .exact .inl ⟨j,by rw[show dB+(r+1)+1=(dB+r+1)+1 by lia];unfold SetTable.probe.go;rw[e]⟩
  .have hk:k<t.place.size:=(oJ.mp e2).1;have st:SetTable.probe.go t hashAt h (dB+(r+1)+1) { j:=j,more:=r+1,i:=i,perturb:=p,dummy:=none }=SetTable.probe.go t hashAt h (dB+r+1) { j:=j+1,more:=r,i:=i,perturb:=p,dummy:=none }:=by
    rw[show dB+(r+1)+1=(dB+r+1)+1 by lia];conv=>lhs;unfold SetTable.probe.go
    rw[e];simp only[eA,hh k hk,iZ];rfl
   rw[st];exact Gs hd hh i p r (j+1) dB
theorem Cg(hd:t.dummies=#[])(hh:∀i,i<t.place.size->hashAt i≠h):∀ (m:Nat) (i p dB:Nat),10*(m+1)<=dB->t.slot (gT t.mask m (i,p)).1=.empty->
  ∃j',SetTable.probe.go t hashAt h dB (AE t.mask i p)=some (.empty j' none)
 |0,i,p,dB,hf,e=>by
  obtain⟨f,rfl⟩:∃f,dB=f+1:=⟨dB-1,by lia⟩
  refine⟨i,?_⟩;have e':t.slot i=.empty:=e;unfold SetTable.probe.go AE;dsimp only;rw[e']
 |m+1,i,p,dB,hf,e=>by
  have hr:=Of t.mask i;obtain⟨f,Ke⟩:∃f,dB=f+(SetTable.runEnd t.mask i-i)+1:=⟨dB-(SetTable.runEnd t.mask i-i)-1,by lia⟩
  rcases Gs (hashAt:=hashAt) (h:=h) hd hh i p (SetTable.runEnd t.mask i-i) i f with z|z
  .rw[Ke];exact z
  .rw[Ke];show ∃j',SetTable.probe.go t hashAt h _ { j:=i,more:=_,i:=i,perturb:=p,dummy:=none }=_;rw[z];exact Cg hd hh m _ _ f (by lia) e
theorem sP(R:y3 (t.mask+1))(hd:t.dummies=#[])(hs:t.place.size<=t.mask)(hh:∀i,i<t.place.size->hashAt i≠h):∃j,t.probe hashAt h (t.probeStart h)=some (.empty j none):=by
 obtain⟨j,hj,hn⟩:=SA (M:=t.mask+1) (l:=t.place.toList) (by simpa using Nat.lt_succ_of_le hs);obtain⟨m,hm,e⟩:=qa R (jA (SetTable.bits h) (wb t.mask)) (Cf h) hj;refine Cg hd hh m _ _ _ ?_ (by rw[e];exact AF hd hn);unfold SetTable.turns;lia
end
theorem AG{α β:Type}{f:α->Option β}:∀ {l:List α},(∀q∈l,(f q).isSome=true)->(l.filterMap f).length=l.length
 |[],_=>rfl
 |q::l,h=>by
  have hq:=h q bG;cases e:f q with
  |none=>rw[e] at hq;cases hq
  |some b=>rw[Fo e,cu,cu,AG fun x hx=>h x (bJ _ hx)]
theorem uX:∀ (m dB i p:Nat),m<dB->owner.getD (gT mask m (i,p)).1 (some 0)=none->∃j,SetTable.layClean.free mask owner dB i p=some j/\owner.getD j (some 0)=none
 |m,0,_,_,h,_=>by lia
 |m,dB+1,i,p,h,e=>by
  unfold SetTable.layClean.free;cases hf:(List.range (SetTable.runEnd mask i+1-i)).find? fun k=>(owner.getD (i+k) (some 0)).isNone with
  |some k=>
   refine⟨i+k,rfl,?_⟩;have:=oW hf;simpa using this
  |none=>
   cases m with
   |zero=>
    have h0:(0:Nat)∈List.range (SetTable.runEnd mask i+1-i):=cY.mpr (by unfold SetTable.runEnd;split <;> lia);have:=mj.mp hf 0 h0;have e':owner.getD i (some 0)=none:=e;rw[Nat.add_zero,e'] at this;exact absurd rfl this
   |succ m=>
    exact uX m dB _ _ (by lia) e
structure sQ(M:Nat)(owner:Array (Option Nat))(k:Nat):Prop where
 size:owner.size=M
 cnt:owner.toList.countP Option.isSome=k
 lt:∀x,some x∈owner.toList->x<k
theorem AH{l:List (Option Nat)}{j:Nat}{x:Nat}(hj:l[j]?=some none):(l.set j (some x)).countP Option.isSome=l.countP Option.isSome+1:=by
 induction l generalizing j with
 |nil=>cases hj
 |cons a l ih=>
  cases j with
  |zero=>
   obtain rfl:a=none:=by simpa using hj
   simp
  |succ j=>
   rw[List.set_cons_succ,zX,zX,ih (by simpa using hj)];lia
theorem sQ.one{mask:Nat}{owner:Array (Option Nat)}{k:Nat}(L:sQ (mask+1) owner k)(R:y3 (mask+1))(hk:k<mask+1)(h:Int):
  ∃j,SetTable.layClean.free mask owner (SetTable.turns mask) (SetTable.bits h % (mask+1)) (SetTable.bits h)=some j/\sQ (mask+1) (owner.setIfInBounds j (some k)) (k+1):=by
 have FW:∃j,j<mask+1/\owner.toList[j]?=some none:=by
  apply vy;intro FW;have xP:∀x∈owner.toList,x.isSome=true:=by
   intro x hx;obtain⟨j,hj,e⟩:=rC.mp hx;cases x with
   |some _=>rfl
   |none=>
    refine absurd ⟨j,?_,?_⟩ FW
    .rw[<-L.size];simpa using hj
    .rw[cU hj,e]
  have:=List.countP_eq_length.mpr xP;rw[L.cnt,eN,L.size] at this;lia
 obtain⟨j0,hj0,e0⟩:=FW;obtain⟨m,hm,em⟩:=qa R (jA (SetTable.bits h) (wb mask)) (Cf h) hj0;obtain⟨j,ej,en⟩:=uX (mask:=mask) (owner:=owner) m (SetTable.turns mask) (SetTable.bits h % (mask+1)) (SetTable.bits h) (by unfold SetTable.turns;lia)
  (by rw[em,iF,<-nK,e0];rfl)
 refine⟨j,ej,?_⟩;have hjn:owner.toList[j]?=some none:=by
  rw[iF,<-nK] at en;cases hq:owner.toList[j]? with
  |none=>rw[hq] at en;cases en
  |some v=>rw[hq] at en;rw[show v=none from en]
 have SB:(owner.setIfInBounds j (some k)).toList=owner.toList.set j (some k):=by simp
 refine⟨by simp[L.size],by rw[SB,AH hjn,L.cnt],fun x hx=>?_⟩;rw[SB] at hx;rcases List.mem_or_eq_of_mem_set hx with z|z
 .exact dZ (L.lt x z)
 .cases z;exact iT _
theorem wE(R:y3 (mask+1)):∀ (l:List Int) (owner:Array (Option Nat)) (k:Nat),sQ (mask+1) owner k->k+l.length<=mask->
  ∃Gu,l.foldl (fun dX h=>do
   let (owner,k) <- dX
   let j <- SetTable.layClean.free mask owner (SetTable.turns mask) (SetTable.bits h % (mask+1)) (SetTable.bits h)
   pure (owner.setIfInBounds j (some k),k+1)) (some (owner,k))=some (Gu,k+l.length)/\sQ (mask+1) Gu (k+l.length)
 |[],owner,k,L,_=>⟨owner,rfl,L⟩
 |h::l,owner,k,L,hl=>by
  rw[cu] at hl;obtain⟨j,ej,L'⟩:=L.one R (by lia) h;obtain⟨o',e,L2⟩:=wE R l _ _ L' (by lia);refine⟨o',?_,by rw[cu,show k+(l.length+1)=k+1+l.length by lia];exact L2⟩;rw[ic];have:(do
   let (owner,k) <- some (owner,k)
   let j <- SetTable.layClean.free mask owner (SetTable.turns mask) (SetTable.bits h % (mask+1)) (SetTable.bits h)
   pure (owner.setIfInBounds j (some k),k+1):Option (Array (Option Nat)×Nat))=some (owner.setIfInBounds j (some k),k+1):=by
   show (SetTable.layClean.free mask owner (SetTable.turns mask) (SetTable.bits h % (mask+1)) (SetTable.bits h)).bind _=_;rw[ej];rfl
  rw[this,e,cu,show k+(l.length+1)=k+1+l.length by lia]
theorem qb(R:y3 (mask+1))(hs:Array Int)(h:hs.size<=mask):∃owner,SetTable.layClean mask hs=some owner/\sQ (mask+1) owner hs.size:=by
 have L0:sQ (mask+1) (Array.replicate (mask+1) none) 0:=⟨by simp,by simp[List.countP_replicate],fun x hx=>by simp at hx⟩
 obtain⟨o,e,L⟩:=wE R hs.toList _ 0 L0 (by simpa using h);refine⟨o,?_,by simpa using L⟩;unfold SetTable.layClean;rw[<-Array.foldl_toList];have e':=congrArg (Option.map (·.1)) e;exact e'
theorem sR(L:sQ M owner n):
  ((List.range M).filterMap fun j=>(owner.getD j none).map (j,·)).length=n/\∀q∈(List.range M).filterMap (fun j=>(owner.getD j none).map (j,·)),q.2<n:=by
 constructor
 .rw[<-L.cnt];have e:owner.toList=(List.range M).map fun j=>owner.getD j none:=by
   apply List.ext_getElem
   .simp[L.size]
   .intro i h1 h2;simp only[List.getElem_map,zK,Array.getElem_toList];rw[iF,jc (by simpa using h1)];rfl
  conv=>rhs;rw[e]
  rw[List.countP_map];generalize List.range M=l;induction l with
  |nil=>rfl
  |cons a l ih=>
   rw[zX,<-ih];cases hq:owner.getD a none with
   |none=>rw[List.filterMap_cons_none (by rw[hq];rfl),show (Option.isSome ∘ fun j=>owner.getD j none) a=false by show (owner.getD a none).isSome=false;rw[hq];rfl];simp
   |some x=>rw[Fo (b:=(a,x)) (by rw[hq];rfl),show (Option.isSome ∘ fun j=>owner.getD j none) a=true by show (owner.getD a none).isSome=true;rw[hq];rfl];simp
 .intro q hq;obtain⟨j,_,e⟩:=mi.mp hq;cases hx:owner.getD j none with
  |none=>rw[hx] at e;cases e
  |some x=>
   rw[hx] at e;cases e;refine L.lt x ?_;rw[iF,<-nK] at hx;cases hy:owner.toList[j]? with
   |none=>rw[hy] at hx;cases hx
   |some v=>rw[hy] at hx;obtain rfl:v=some x:=hx;exact cZ hy
structure xV(hs:Array Int)(t:SetTable):Prop where
 dm:t.dummies=#[]
 sz:t.place.size=hs.size
 ms:(t.mask=7/\hs.size<=4)\/(t.mask=31/\hs.size<=18)\/(t.mask=127/\hs.size<=76)\/(t.mask=511/\hs.size<=306)
theorem xV.rnd(T:xV hs t):y3 (t.mask+1):=by
 rcases T.ms with ⟨e,_⟩|⟨e,_⟩|⟨e,_⟩|⟨e,_⟩ <;> rw[e]
 .exact Sz
 .exact xT
 .exact Gq
 .exact Gr
theorem eQ(xs:Array α)(p:Nat)(x:α):(SetTable.insertAt xs p x).size=xs.size+1:=by
 unfold SetTable.insertAt;simp;lia
theorem oa(h:y∈(SetTable.insertAt xs p x).toList):y=x\/y∈xs.toList:=by
 unfold SetTable.insertAt at h;rw[eY,kj,zx,zx] at h;rcases dP.mp h with z|z
 .rcases dP.mp z with z|z
  .right;rw[List.extract_eq_drop_take] at z;exact vH (mf z)
  .left;simpa using z
 .right;rw[List.extract_eq_drop_take] at z;exact vH (mf z)
theorem AI{hs:Array Int}{t:SetTable}{h:Int}(T:xV hs t)(hn:h∉hs.toList)(hl:hs.size<300):∃hs' t',fZ hs t h=some (hs',t')/\xV hs' t'/\hs'.size=hs.size+1/\∀x∈hs'.toList,x=h\/x∈hs.toList:=by
 have Sw:t.place.size<=t.mask:=by rw[T.sz];rcases T.ms with ⟨e,z⟩|⟨e,z⟩|⟨e,z⟩|⟨e,z⟩ <;> lia
 have hh:∀i,i<t.place.size->N8 hs i≠h:=by
  intro i hi e;rw[T.sz] at hi;unfold N8 at e;rw[jc hi] at e;exact hn (by rw[<-e];simp)
 obtain⟨j,hp⟩:=sP (hashAt:=N8 hs) (h:=h) T.rnd T.dm Sw hh;have hg:t.gaveWay=false:=by
  unfold SetTable.gaveWay;rcases T.ms with ⟨e,_⟩|⟨e,_⟩|⟨e,_⟩|⟨e,_⟩ <;> rw[e] <;> rfl
 have q1:(t.put j).1.place=SetTable.insertAt t.place (SetTable.below t.place j) j:=rfl;have q2:(t.put j).1.dummies=#[]:=by
  show (if SetTable.has t.dummies j=true then _ else t.dummies)=_;rw[T.dm];rfl
 have q3:(t.put j).1.mask=t.mask:=rfl;have s1:(SetTable.insertAt hs (t.put j).2 h).size=hs.size+1:=eQ _ _ _;have s2:(t.put j).1.place.size=hs.size+1:=by rw[q1,eQ,T.sz]
 have fl:(t.put j).1.fill=hs.size+1:=by unfold SetTable.fill;rw[s2,q2];rfl
 have Og:(t.put j).1.fits (SetTable.insertAt hs (t.put j).2 h).size=true:=by
  unfold SetTable.fits;rw[s1,s2,fl,q3];simp;rcases T.ms with ⟨e,z⟩|⟨e,z⟩|⟨e,z⟩|⟨e,z⟩ <;> lia
 unfold fZ;rw[hg,ap bq,hp];dsimp only;rw[ai (by rw[Og,s1];simp;lia)];by_cases hf:(t.put j).1.tooFull=true
 .rw[ai hf];have Ke:=hf;unfold SetTable.tooFull at Ke;rw[fl,q3] at Ke;have hf2:(hs.size+1)*5>=t.mask*3:=by simpa using Ke
  have gr:SetTable.grown (hs.size+1)=(hs.size+1)*4:=by unfold SetTable.grown;rw[ap (by lia)]
  obtain⟨m2,V5,SC,R2⟩:∃m2,SetTable.sizeAbove (SetTable.grown (hs.size+1))=m2+1/\((m2=31/\hs.size+1<=18)\/(m2=127/\hs.size+1<=76)\/(m2=511/\hs.size+1<=306))/\y3 (m2+1):=by
   rw[gr];rcases T.ms with ⟨e,z⟩|⟨e,z⟩|⟨e,z⟩|⟨e,z⟩
   .have:hs.size=4:=by lia
    exact⟨31,by rw[this];rfl,.inl ⟨rfl,by lia⟩,xT⟩
   .have:hs.size=18:=by lia
    exact⟨127,by rw[this];rfl,.inr (.inl ⟨rfl,by lia⟩),Gq⟩
   .have:hs.size=76:=by lia
    exact⟨511,by rw[this];rfl,.inr (.inr ⟨rfl,by lia⟩),Gr⟩
   .lia
  have Xt:(SetTable.insertAt hs (t.put j).2 h).size<=m2:=by rw[s1];rcases SC with ⟨e,z⟩|⟨e,z⟩|⟨e,z⟩ <;> lia
  obtain⟨owner,eo,L⟩:=qb R2 (SetTable.insertAt hs (t.put j).2 h) Xt;obtain⟨E6,Mw⟩:=sR L;rw[s1] at E6 Mw;generalize Gv:(List.range (m2+1)).filterMap (fun j=>(owner.getD j none).map (j,·))=live at E6 Mw;have er:(t.put j).1.relaid (SetTable.insertAt hs (t.put j).2 h) (SetTable.grown (hs.size+1))=some ({ mask:=m2,place:=(live.map (·.1)).toArray,dummies:=#[],finger:=(t.put j).1.finger,led:=(t.put j).1.led,moves:=(t.put j).1.movedTo m2,plain:=(t.put j).1.plain },(live.map (·.2)).toArray):=by
   unfold SetTable.relaid SetTable.laid;rw[V5];simp only[zJ];rw[eo];show some _=some _;rw[<-Gv]
  rw[er];dsimp only;have pI:((live.map (·.2)).toArray.filterMap ((SetTable.insertAt hs (t.put j).2 h)[·]?)).size=hs.size+1:=by
   rw[<-eN,rA];show ((live.map (·.2)).filterMap _).length=_;rw[<-E6,zL];refine AG fun q hq=>?_;show ((SetTable.insertAt hs (t.put j).2 h)[q.2]?).isSome=true;rw[jc (by rw[s1];exact Mw q hq)];rfl
  have emf:∀x,({ mask:=m2,place:=(live.map (·.1)).toArray,dummies:=#[],finger:=(t.put j).1.finger,led:=(t.put j).1.led,moves:=(t.put j).1.movedTo m2,plain:=(t.put j).1.plain }:SetTable).fits x=(decide (hs.size+1=x)&&decide (hs.size+1<=m2)):=by
   intro x;unfold SetTable.fits SetTable.fill;simp[E6];rw[im];simp
  rw[ai (by
   rw[pI,s1,emf,V5];have:hs.size+1<=m2:=by rw[<-s1];exact Xt
   simp[this];rcases SC with ⟨e,z⟩|⟨e,z⟩|⟨e,z⟩ <;> lia)]
  refine⟨_,_,rfl,⟨rfl,?_,?_⟩,pI,fun x hx=>?_⟩
  .rw[pI];simp[E6]
  .rw[pI];exact .inr SC
  .rw[rA] at hx;obtain⟨k,_,ek⟩:=mi.mp hx;refine oa (p:=(t.put j).2) ?_;rw[<-nK] at ek;exact cZ ek
 .rw[ap hf];refine⟨_,_,rfl,⟨q2,by rw[s2,s1],?_⟩,s1,fun x hx=>oa hx⟩;have Ke:¬ (hs.size+1)*5>=t.mask*3:=by
   intro z;refine hf ?_;unfold SetTable.tooFull;rw[fl,q3];simpa using z
  rw[s1,q3];rcases T.ms with ⟨e,z⟩|⟨e,z⟩|⟨e,z⟩|⟨e,z⟩ <;> lia
theorem qc:∀ (l:List Int) (hs:Array Int) (t:SetTable),xV hs t->(∀x∈l,x∉hs.toList)->l.Nodup->hs.size+l.length<=300->∃hs' t',l.foldlM (fun q h=>fZ q.1 q.2 h) (hs,t)=some (hs',t')/\hs'.size=hs.size+l.length
 |[],hs,t,_,_,_,_=>⟨hs,t,rfl,rfl⟩
 |h::l,hs,t,T,hn,nd,hl=>by
  rw[cu] at hl;obtain⟨n1,n2⟩:=cX.mp nd;obtain⟨Gh,t1,e1,T1,z1,m1⟩:=AI T (hn h bG) (by lia);obtain⟨ww,t2,e2,z2⟩:=qc l Gh t1 T1 (fun x hx hy=>by
   rcases m1 x hy with e|e
   .exact n1 (e ▸ hx)
   .exact hn x (bJ _ hx) e) n2 (by lia)
  refine⟨ww,t2,?_,by rw[z2,z1,cu];lia⟩;rw[List.foldlM_cons];show (fZ hs t h).bind _=_;rw[e1];exact e2
theorem DL(led:Bool)(nd:l.Nodup)(hl:l.length<=300):∃hs t,wD led l=some (hs,t)/\hs.size=l.length:=by
 obtain⟨hs,t,e,z⟩:=qc l #[] (SetTable.fresh 0 0 led) ⟨rfl,rfl,.inl ⟨rfl,by decide⟩⟩ (fun x _ h=>by simp at h) nd (by simpa using hl);exact⟨hs,t,e,by simpa using z⟩
def Ch:List Nat->Nat->Bool
 |[],_=>true
 |x::xs,dX=>bif Nat.testBit dX x then false else Ch xs (dX ||| (1 <<< x))
theorem xW:∀ (l:List Nat) (dX:Nat),Ch l dX=true->l.Nodup/\∀x∈l,dX.testBit x=false
 |[],_,_=>⟨gj,fun x h=>(nomatch h)⟩
 |x::xs,dX,h=>by
  unfold Ch at h;cases hb:dX.testBit x with
  |true=>rw[hb] at h;cases h
  |false=>
   rw[hb] at h;obtain⟨nd,hx⟩:=xW xs _ h;have hor:∀y∈xs,dX.testBit y=false/\y≠x:=by
    intro y hy;have:=hx y hy;rw[Nat.testBit_or,Nat.one_shiftLeft,Nat.testBit_two_pow] at this;rw[Bool.or_eq_false_iff] at this;exact⟨this.1,fun e=>by have:=this.2;simp[e] at this⟩
   refine⟨cX.mpr ⟨fun hm=>(hor x hm).2 rfl,nd⟩,fun y hy=>?_⟩;rcases ba.mp hy with z|z
   .rw[z];exact hb
   .exact(hor y z).1
def sS:List (Int×Int):=(List.range 32).flatMap fun a=>(List.range 32).map fun b=>(Int.ofNat a,Int.ofNat b)
def Mx(h:Int):Nat:=(h % 6554).toNat
theorem DM(P:Program)(w:World):Ch (sS.map fun y=>Mx (fk P w y)) 0=true:=by kernel_rfl
theorem Ci(h1:0<=y.1/\y.1<32)(h2:0<=y.2/\y.2<32):y∈sS:=by
 unfold sS;refine zW.mpr ⟨y.1.toNat,cY.mpr (by lia),a9.mpr ⟨y.2.toNat,cY.mpr (by lia),gD ?_ ?_⟩⟩
 .show ((y.1.toNat:Nat):Int)=y.1;lia
 .show ((y.2.toNat:Nat):Int)=y.2;lia
theorem lW:∀ {l:List α},(l.map f).Nodup->∀x∈l,∀y∈l,f x=f y->x=y
 |[],_,_,h,_,_,_=>by cases h
 |a::l,h,x,hx,y,hy,e=>by
  rw[fg] at h;obtain⟨h1,h2⟩:=cX.mp h;rcases ba.mp hx with z|z <;> rcases ba.mp hy with z'|z'
  .rw[z,z']
  .exact absurd (a9.mpr ⟨y,z',by rw[<-e,z]⟩) h1
  .exact absurd (a9.mpr ⟨x,z,by rw[e,z']⟩) h1
  .exact lW h2 x z y z' e
theorem wF(hx:(0<=x.1/\x.1<32)/\(0<=x.2/\x.2<32))(hy:(0<=y.1/\y.1<32)/\(0<=y.2/\y.2<32))(e:fk P w x=fk P w y):x=y:=
 lW (xW _ _ (DM P w)).1 x (Ci hx.1 hx.2) y (Ci hy.1 hy.2) (congrArg Mx e)
theorem pJ:∀ {l:List α},l.Nodup->(∀x∈l,∀y∈l,f x=f y->x=y)->(l.map f).Nodup
 |[],_,_=>gj
 |a::l,h,hf=>by
  obtain⟨h1,h2⟩:=cX.mp h;rw[fg];refine cX.mpr ⟨fun z=>?_,pJ h2 fun x hx y hy=>hf x (bJ _ hx) y (bJ _ hy)⟩;obtain⟨y,hy,e⟩:=a9.mp z;have:=hf y (bJ _ hy) a bG e;exact h1 (this ▸ hy)
theorem xX{P:Program}{w:World}(led:Bool){ys:List (Int×Int)}(nd:ys.Nodup)(hr:∀y∈ys,(0<=y.1/\y.1<32)/\(0<=y.2/\y.2<32))(hl:ys.length<=300):
  ∃hs t,wD led (ys.map (fk P w))=some (hs,t)/\hs.size=ys.length:=by
 obtain⟨hs,t,e,z⟩:=DL led (pJ nd fun x hx y hy e=>wF (P:=P) (w:=w) (hr x hx) (hr y hy) e) (by rw[aP];exact hl);exact⟨hs,t,e,by rw[z,aP]⟩
theorem Cj:∀ {as:List Addr} {its:List Value},aY (as.map V.ref) its->its=as.map Value.ref
 |[],_,r=>by cases r;rfl
 |a::as,_,r=>by
  cases r with
  |cons r rr=>
   obtain rfl:=(show _=Value.ref a from r)
   rw[Cj rr];rfl
def Kg(D:Addr)(n:Nat):HO:=.ext fun h=>∃hs t,kO h D hs t/\hs.size=n
section
variable {X:Cx}
def SD(K:PySem.W.Frag):List V->Hp->VK->Prop:=fun xs H Q=>∃ (l:Addr) (as:List Addr) (ys:List (Int×Int)),xs=[.ref l]/\br K H l (as.map V.ref)/\as.length=ys.length/\
 (∀i,i<ys.length->Gg K H (as.getD i 0) (ys.getD i (0,0)))/\ys.Nodup/\(∀y∈ys,(0<=y.1/\y.1<32)/\(0<=y.2/\y.2<32))/\ys.length<=300/\∀D,H D=none->Q (.ref D) (upd H D (Kg D ys.length))
theorem DN(hc:X.calm=true)(hu:X.A.units+8<cLine):gu X (.type "set") (SD X.K):=by
 intro ae s σ H xs us Q I r h;obtain⟨l,as,ys,rfl,hl,de,hp,nd,rg,h3,q⟩:=h;obtain⟨u1,rfl,r1⟩:=r.one;obtain rfl:u1=Value.ref l:=r1;obtain⟨its,rv,pl,hz⟩:=I.list hl;have e:=Cj rv;subst e;have hpi:jH s.heap (as.map Value.ref) ys:=⟨by rw[aP,de],fun i v hv=>by
  rw[bL] at hv;cases ea:as[i]? with
  |none=>rw[ea] at hv;cases hv
  |some a=>
   rw[ea] at hv;obtain rfl:Value.ref a=v:=a8 hv;have hi:i<as.length:=(dk.mp ea).1;obtain⟨o,n,t,u,e1,c,d⟩:=AA I (hp i (by lia));have eg:as.getD i 0=a:=by rw[cr,ea];rfl
   rw[eg] at e1;exact⟨a,o,n,t,u,rfl,e1,c,d⟩⟩
 have DJ:∀led,∃q:Array Int×SetTable,wD led (ys.map (fk X.prog X.w))=some q/\q.1.size=ys.length:=fun led=>
  let ⟨hs,t,e,z⟩:=xX (P:=X.prog) (w:=X.w) led nd rg h3;⟨(hs,t),e,z⟩
 refine Gk (I.ok.hd hc) hu pl.isList hpi (hsN:=fun led=>(DJ led).choose.1) (tN:=fun led=>(DJ led).choose.2) (fun led=>(DJ led).choose_spec.1) fun led h' tk S' k=>?_;refine⟨.ref s.heap.objs.size,_,I.xS (t':=tk) (o:=Kg s.heap.objs.size ys.length) (fun b u e=>k b u (aO e) e) (rD (aW _)) ⟨⟨_,_,S',(DJ led).choose_spec.2⟩,?_,fun h1 h2 ⟨hs,t,⟨o,es,ep,q1,q2⟩,z⟩ kk=>⟨hs,t,⟨o,es,ep,kk o q1,q2⟩,z⟩⟩,rfl,q _ I.fresh⟩;obtain⟨o,_,_,q1,_⟩:=S';exact⟨o,q1⟩
theorem xY:gu X (.builtin "len") (fun xs H Q=>∃D n,xs=[.ref D]/\H D=some (Kg D n)/\n<=4096/\Q (.int n) H):=by
 intro ae s σ H xs us Q I r h;obtain⟨D,n,rfl,e,hn,q⟩:=h;obtain⟨u1,rfl,r1⟩:=r.one;obtain rfl:u1=Value.ref D:=r1;obtain⟨⟨hs,t,⟨o,es,ep,q1,q2,q3,q4,q5,q6⟩,z⟩,_⟩:=(show cf X.prog X.w H s.heap D (Kg D n) from I.ck D _ e)
 have hsz:es.size=n:=by rw[<-z,<-q5,iW]
 exact call_len_set q1 ⟨q2,q3.1,q3.2⟩ q4 q6 (by rw[hsz];lia) ⟨.int n,H,I.tok _,⟨_,by rw[hsz]⟩,q⟩
theorem qd:gu X (.type "range") (fun xs H Q=>∃n,xs=[.int n]/\∀p,H p=none->Q (.ref p) (upd H p (.BL 0 n))):=by
 intro ae s σ H xs us Q I r h;obtain⟨n,rfl,q⟩:=h;obtain⟨u1,rfl,t,rfl⟩:=r.one;refine call_range_1 ⟨.ref s.heap.objs.size,_,I.laid (o:=.BL 0 n) (fun b u e=>bz _ e) (aW _) ⟨_,_,_,b_ _ rfl⟩,rfl,q _ I.fresh⟩
theorem AJ(hc:X.calm=true):gu X (.type "list") (fun xs H Q=>∃ (p:Addr) (n:Nat),xs=[.ref p]/\H p=some (.BL 0 n)/\n<=1000/\∀l,H l=none->Q (.ref l) (upd H l (.lst ((List.range n).map fun (i:Nat)=>V.int i)))):=by
 intro ae s σ H xs us Q I r h;obtain⟨p,n,rfl,e,hn,q⟩:=h;obtain⟨u1,rfl,r1⟩:=r.one;obtain rfl:u1=Value.ref p:=r1;obtain⟨t,u,v,hp⟩:=(show cf X.prog X.w H s.heap p (.BL 0 n) from I.ck p _ e)
 refine call_list_range (n:=n) (I.ok.hd hc) (show IsRange s.heap p 0 n 1 t u v from hp) (small_one (by lia) (by lia) (by lia) (by lia)) (by rw[rangeSize_one];split <;> lia) (by lia) fun h' tk dX c k g it=>?_;obtain⟨i1,i2⟩:=it;refine⟨.ref s.heap.objs.size,_,I.xS (t':=tk) (o:=.lst ((List.range n).map fun (i:Nat)=>V.int i)) (fun b u e=>k b u e) (rD (aW _)) ⟨?_,dX.toList,c,?_,by simpa using g⟩,rfl,q _ I.fresh⟩
 .rw[aP,dO];exact bj hn (by decide)
 .have go:∀ (m:Nat) (l:List Value),l.length=m->(∀ (j:Nat) v,l[j]?=some v->∃t,v=Value.int (0+(j:Int)*1) t)->aY ((List.range m).map fun (i:Nat)=>V.int i) l:=by
   intro m;induction m with
   |zero=>intro l hl _;cases l with
    |nil=>exact .nil
    |cons _ _=>cases hl
   |succ m ih=>
    intro l hl hv;have lN:l≠[]:=by intro z;rw[z] at hl;cases hl
    have el:l=l.dropLast++[l.getLast lN]:=(List.dropLast_concat_getLast lN).symm;rw[iV,d_,el];have Ob:l.dropLast.length=m:=by rw[List.length_dropLast,hl];rfl
    refine aY.append (ih _ Ob fun j v hj=>hv j v ?_) (.cons ?_ .nil)
    .rw[el];have Q9:j<l.dropLast.length:=(dk.mp hj).1;rw[nI Q9];exact hj
    .obtain⟨t,ht⟩:=hv m (l.getLast lN) (by
      rw[List.getLast_eq_getElem,cU (by lia:m<l.length)];simp[hl])
     exact⟨t,by rw[ht];simp⟩
  exact go n dX.toList (by simpa using i1) fun j v hj=>i2 j v (by simpa using hj)
end
def iL(e:V->V->Bool):List V->List V->Bool
 |[],[]=>true
 |x::xs,y::ys=>e x y&&iL e xs ys
 |_,_=>false
theorem iM:∀ {xs ys:List V},xs.length=ys.length->iL e xs ys=(List.range xs.length).all fun i=>e (xs.getD i .bR) (ys.getD i .bR)
 |[],[],_=>rfl
 |x::xs,y::ys,h=>by
  have h':xs.length=ys.length:=by simpa using h
  rw[iL,iM h',cu,vD,v6,List.all_map];rfl
 |[],_::_,h=>by simp at h
 |_::_,[],h=>by simp at h
theorem pK:∀ {xs ys:List V},xs.length≠ys.length->iL e xs ys=false
 |[],[],h=>absurd rfl h
 |x::xs,y::ys,h=>by
  have h':xs.length≠ys.length:=fun z=>h (by simp[z]);rw[iL,pK h',Bool.and_false]
 |[],_::_,_=>rfl
 |_::_,[],_=>rfl
section
variable {X:Cx}
def SE(X:Cx)(H:Hp)(e:V->V->Bool)(x y:V):Prop:=∀ (ae:List (Addr×Obj)) (s:Shared) (σ:St) (A:Around) (u v:Value),aI X ae σ H s->A.units+1<cLine->bD x u->bD y v->SeqAt.EqAt A s u v (e x y)
def SF(X:Cx)(Mp:Bool)(e:V->V->Bool):R2:=fun x y H Q=>∃p q xs ys,x=.ref p/\y=.ref q/\br X.K H p xs/\br X.K H q ys/\(∀i,i<xs.length->i<ys.length->SE X H e (xs.getD i .bR) (ys.getD i .bR))/\Q (.bl (if Mp then !iL e xs ys else iL e xs ys)) H
theorem xZ(I:aI X ae σ H s)(hu:A.units+1<cLine)(rx:aY xs us)(ry:aY ys vs)(he:∀i,i<xs.length->i<ys.length->SE X H e (xs.getD i .bR) (ys.getD i .bR)):∀j (h1:j<us.toArray.size) (h2:j<vs.toArray.size),SeqAt.EqAt A s us.toArray[j] vs.toArray[j] (e (xs.getD j .bR) (ys.getD j .bR)):=by
 intro j h1 h2;have j1:j<xs.length:=by rw[rx.length];simpa using h1
 have j2:j<ys.length:=by rw[ry.length];simpa using h2
 have e1:xs[j]?=some (xs.getD j .bR):=by rw[cr,cU j1];rfl
 have e2:ys[j]?=some (ys.getD j .bR):=by rw[cr,cU j2];rfl
 obtain⟨u,E7,ru⟩:=rx.get e1;obtain⟨v,Oh,rv⟩:=ry.get e2;have eu:us.toArray[j]=u:=by
  have:us[j]?=some us.toArray[j]:=by simp at h1 |-
  rw[E7] at this;exact(a8 this).symm
 have ev:vs.toArray[j]=v:=by
  have:vs[j]?=some vs.toArray[j]:=by simp at h2 |-
  rw[Oh] at this;exact(a8 this).symm
 rw[eu,ev];exact he j j1 j2 ae s σ A u v I hu ru rv
theorem Oi{e:V->V->Bool}(hu:X.A.units+2<cLine):lV X (compareOp .NotEq) (SF X true e):=by
 intro ae s σ H x y v u Q I rx ry h;obtain⟨p,q,xs,ys,rfl,rfl,hp,hq,he,k⟩:=h;obtain rfl:v=Value.ref p:=rx;obtain rfl:u=Value.ref q:=ry;obtain⟨us,r1,p1,_⟩:=I.list hp;obtain⟨vs,r2,p2,_⟩:=I.list hq;by_cases hl:xs.length=ys.length
 .refine SeqAt.RcNeAt.lists (e:=fun i=>e (xs.getD i .bR) (ys.getD i .bR)) p1.isList p2.isList (by simp only[cV];rw[<-r1.length,<-r2.length];exact hl) (by lia) (xZ I (by show X.A.units+1+1<cLine;lia) r1 r2 he) _ _ _ _ ⟨.bl _,H,I,rfl,?_⟩;rw[show us.toArray.size=xs.length by rw[cV,r1.length],<-iM hl];exact k
 .refine SeqAt.RcNeAt.lists_lengths p1.isList p2.isList (by simp only[cV];rw[<-r1.length,<-r2.length];simpa using hl) (by lia) _ _ _ _ ⟨.bl _,H,I,rfl,?_⟩;have k':=k;rw[pK hl] at k';exact k'
theorem Oj(hu:X.A.units+2<cLine):lV X (compareOp .Eq) (SF X false e):=by
 intro ae s σ H x y v u Q I rx ry h;obtain⟨p,q,xs,ys,rfl,rfl,hp,hq,he,k⟩:=h;obtain rfl:v=Value.ref p:=rx;obtain rfl:u=Value.ref q:=ry;obtain⟨us,r1,p1,_⟩:=I.list hp;obtain⟨vs,r2,p2,_⟩:=I.list hq;by_cases hl:xs.length=ys.length
 .refine SeqAt.eq_listAt (e:=fun i=>e (xs.getD i .bR) (ys.getD i .bR)) p1.isList p2.isList (by simp only[cV];rw[<-r1.length,<-r2.length];exact hl) (by lia) (xZ I (by show X.A.units+1+1<cLine;lia) r1 r2 he) ⟨.bl _,H,I,rfl,?_⟩;rw[show us.toArray.size=xs.length by rw[cV,r1.length],<-iM hl];exact k
 .refine SeqAt.eq_list_lengthsAt p1.isList p2.isList (by simp only[cV];rw[<-r1.length,<-r2.length];simpa using hl) (by lia) ⟨.bl _,H,I,rfl,?_⟩;have k':=k;rw[pK hl] at k';exact k'
theorem DO(hc:X.calm=true):gu X (.builtin "any") (fun xs H Q=>∃ (p:Addr) (bs:List Bool),xs=[.ref p]/\br X.K H p (bs.map V.bl)/\Q (.bl (bs.any id)) H):=by
 intro ae s σ H xs us Q I r h;obtain⟨p,bs,rfl,hp,q⟩:=h;obtain⟨u1,rfl,r1⟩:=r.one;obtain rfl:u1=Value.ref p:=r1;obtain⟨its,rv,pl,hz⟩:=I.list hp;have Ol:its=bs.map Value.bool:=by
  have go:∀ (bs:List Bool) (its:List Value),aY (bs.map V.bl) its->its=bs.map Value.bool:=by
   intro bs;induction bs with
   |nil=>intro its r;cases r;rfl
   |cons b bs ih=>
    intro its r;cases r with
    |cons r rr=>
     obtain rfl:=(show _=Value.bool b from r)
     rw[ih _ rr];rfl
  exact go bs its rv
 subst Ol;obtain⟨ob,hob,_⟩:=id pl.isList;have dt:p<s.heap.objs.size:=aO hob;refine call_any_walk (rK pl.isList ⟨s.heap.objs.size,_,_,_,_,_,fun i=>bs.getD i false,rfl,Walks.list (show X.A.in1.handled=none from I.ok.hd hc) _ p (aX dt) _,⟨⟨_,b_ _ rfl,rfl,rfl⟩,pl.isList.push _⟩,fun i v s1 Q' E' hv hq=>?_,fun h' tk k=>?_⟩)
 .have NM:(bs.map Value.bool)[i]?=some v:=by simpa using hv
  rw[bL] at NM;cases eb:bs[i]? with
  |none=>rw[eb] at NM;cases NM
  |some b=>
   rw[eb] at NM;obtain rfl:Value.bool b=v:=a8 NM;have:bs.getD i false=b:=by rw[cr,eb];rfl
   have Mn:Q' b s1:=by rw[<-this];exact hq
   exact wpAny_pure Mn
 .have keep:∀b o,s.heap.get? b=some o->h'.get? b=some o:=fun b o e=>k b o (by simpa using aX (aO e)) (bz _ e);refine⟨.bl (bs.any id),H,I.kept (t':=tk) keep,?_,q⟩;show Value.bool _=Value.bool _;congr 1;have go:∀ (bs:List Bool),((List.range bs.length).any fun i=>bs.getD i false)=bs.any id:=by
   intro bs;induction bs with
   |nil=>rfl
   |cons b bs ih=>
    rw[cu,vD,kq,List.any_map,kq,<-ih];rfl
  rw[<-go bs];simp
end
def uY(c:Addr)(qual:Str):HO:=.ext fun h=>h.CodeRec (.ref c) qual
theorem Gw(x:h.CodeRec (.ref c) qual):cf P w H h c (uY c qual):=by
 refine⟨x,?_,?_⟩
 .obtain⟨c',o,vs,t,e,ho,_⟩:=x;cases e;exact⟨o,ho⟩
 .rintro h1 h2 ⟨c',o,vs,t,e,ho,r⟩ k;cases e;exact⟨c,o,vs,t,rfl,k o ho,r⟩
def My(f:Addr)(qual:Str)(params:Arguments)(body:Expr)(scope:Scope)(cells:List (Str×Addr))(c:Addr)(h:Heap):Prop:=
 ∃ (kP:List (Str×Addr)) (pm Ck:Value),(∀x a,kP.lookup x=some a->cells.lookup x=some a)/\(∀x,(x,NameKind.free)∈scope.names->∃a,kP.lookup x=some a)/\
  h.get? f=some (PySem.W.kla_obj "<lambda>" qual params body scope kP pm c Ck)
def AK(f:Addr)(qual:Str)(params:Arguments)(body:Expr)(scope:Scope)(cells:List (Str×Addr))(c:Addr):HO:=.ext (My f qual params body scope cells c)
theorem Cm(x:My f qual params body scope cells c h):
  cf P w H h f (AK f qual params body scope cells c):=by
 refine⟨x,?_,?_⟩
 .obtain⟨_,_,_,_,_,e⟩:=x;exact⟨_,e⟩
 .rintro h1 h2 ⟨kP,pm,Ck,a,b,e⟩ k;exact⟨kP,pm,Ck,a,b,k _ e⟩
def og(lp:Pos)(qual:Str)(P:Addr)(H:Hp):Prop:=H P=some (.qJ #[])\/∃c,H P=some (.qJ #[rawInt lp.line,rawInt lp.col,.ref c])/\H c=some (uY c qual)
structure Kh(X:Cx)(c P:Addr):Prop where
 code:X.env.code=.ref c
 hd:PySem.W.CodeHd X.base c P
 bm:∃bm o,X.mg "__builtins__"=some (.ref bm)/\bm≠builtinsNs/\bm≠mainGlobals/\X.base.get? bm=some o/\o.cls=.type "module"/\o.dict=some builtinsNs/\o.data=.plain
def Xu(lp:Pos)(qual:Str)(P:Addr)(params:Arguments)(body:Expr)(scope:Scope)(cells:List (Str×Addr)):TE:=fun _ H Q=>og lp qual P H/\
 ∀ (f c:Addr) (H2:Hp),og lp qual P H2->(∀b o,H b=some o->b≠P->H2 b=some o)->H2 c=some (uY c qual)->H2 f=some (AK f qual params body scope cells c)->Q (.ref f) H2
theorem x0{lp:Pos}{c:Addr}:TriplesOk (#[rawInt lp.line,rawInt lp.col,.ref c]:Array Value).toList:=trivial
theorem DP:codeAmong lp (#[rawInt lp.line,rawInt lp.col,.ref c]:Array Value).toList=some (.ref c):=by
 show (if ((lp.line:Int)==(lp.line:Int)&&(lp.col:Int)==(lp.col:Int))=true then some (Value.ref c) else _)=_;simp
section
variable {X:Cx} {c P:Addr} {params:Arguments} {body:Expr} {scope:Scope} {lp:Pos} {NB:List Str} {src:List (Option Nat)}
theorem Kh.at(C:Kh X c P)(I:aI X ae σ H s)(hP:H P=some (.qJ ps)):s.heap.BuiltinsAt X.mg P:=by
 obtain⟨bm,o,b1,b2,b3,b4,b5,b6,b7⟩:=C.bm;refine⟨bm,o,b1,b2,b3,fun z=>?_,I.bk _ _ b4,b5,b6,b7⟩;have:=(I.bs _ _ b4).2;rw[z,hP] at this;cases this
theorem aI.Mz(I:aI X ae σ H s):s.heap.Ns mainGlobals X.mg:=I.mod.glob.keeps I.bk
theorem Om(C:Kh X c P)(S:eO NB src scope X)(Xv:defaultsOf params X.env=([],[]):=by rfl):PE X (.Lambda params body scope lp) (Xu lp (X.env.qual++"<lambda>") P params body scope X.env.cells):=by
 intro ae s σ H Q I h;obtain⟨tab,h⟩:=h;obtain⟨kP,ecl,c1,c2⟩:=iu I.ok S;refine PySem.W.kla_eval Xv ?_;have hsz:∀b o,s.heap.get? b=some o->b<s.heap.objs.size:=fun b o e=>aO e;rcases tab with hP|⟨c',hP,NA⟩
 .-- the first time
  have SG:s.heap.get? P=some (PySem.W.tabObj #[]):=I.ck P _ hP;have hPL:X.env.locals≠P:=fun z=>by have f:=I.free;rw[z,hP] at f;cases f
  have hPg:mainGlobals≠P:=fun z=>by
   obtain⟨o,es,ep,e,d,_⟩:=I.mod.glob;have:=(I.bs _ _ e).2;rw[z,hP] at this;cases this
  refine PySem.W.kla_makeFunction (mg:=X.mg) ecl I.ok.glob I.Mz C.code (C.hd.keeps I.bk) SG (by trivial) rfl hPg (C.at I hP) fun c' Ck h' tk hx Ki dt Xw htb=>?_;have Kj:∀b o,b≠P->s.heap.get? b=some o->(h'.push (PySem.W.kla_obj "<lambda>" (X.env.qual++"<lambda>") params body scope kP ((X.mg "__name__").getD .none) c' Ck)).get? b=some o:=fun b o hb e=>bz _ (hx b o hb e);have hcP:c'≠P:=gw (bK (hsz _ _ SG) Ki);have hfP:h'.objs.size≠P:=gw (bK (hsz _ _ SG) (bj Ki (jy dt)));have hfc:h'.objs.size≠c':=gw dt;have nf:H h'.objs.size=none:=I.ck.fresh (by lia);have nc:H c'=none:=I.ck.fresh Ki
  let H2:Hp:=upd (upd (upd H P (.qJ #[rawInt lp.line,rawInt lp.col,.ref c'])) c' (uY c' (X.env.qual++"<lambda>"))) h'.objs.size (AK h'.objs.size (X.env.qual++"<lambda>") params body scope X.env.cells c')
  have eP:H2 P=some (.qJ #[rawInt lp.line,rawInt lp.col,.ref c']):=by
   show upd _ _ _ _=_;rw[al hfP.symm,al hcP.symm,ah]
  have ec:H2 c'=some (uY c' (X.env.qual++"<lambda>")):=by
   show upd _ _ _ _=_;rw[al hfc.symm,ah]
  have ef:H2 h'.objs.size=some (AK h'.objs.size (X.env.qual++"<lambda>") params body scope X.env.cells c'):=ah;have eo:∀b,b≠P->b≠c'->b≠h'.objs.size->H2 b=H b:=fun b h1 h2 h3=>by
   show upd _ _ _ _=_;rw[al h3,al h2,al h1]
  have mJ:∀b o,H b=some o->b≠P->H2 b=some o:=fun b o e hb=>by
   rw[eo b hb (aq e nc) (aq e nf)];exact e
  have I2:aI X ae σ H2 { s with heap:=h'.push (PySem.W.kla_obj "<lambda>" (X.env.qual++"<lambda>") params body scope kP ((X.mg "__name__").getD .none) c' Ck),toks:=tk }:=by
   refine I.step (g':=s.gens) (d':=s.drawn) (ch:=[]) (fun _ z=>absurd z (by simp)) (fun b o _ _ _ e n=>Kj b o (fun z=>by rw[z,hP] at n;cases n) e) (fun b o _ _ _ e n=>⟨o.slots,Kj b o (fun z=>by rw[z,hP] at n;cases n) e⟩)
    (fun b o _ e n=>?_) (fun b o _ e=>?_) (fun b xs e=>mJ b _ e fun z=>by rw[z,hP] at e;cases e) (fun b o u e=>mJ b _ e fun z=>by rw[z,hP] at e;cases e) (fun b ps e=>?_) (fun m hm=>?_) (fun b o e=>?_) I.bare
   .rw[eo b (fun z=>by rw[z,hP] at n;cases n) (aX (bK (hsz b o e) Ki)) (aX (bK (hsz b o e) (bj Ki (jy dt))))];exact n
   .by_cases hb:b=P
    .exact⟨_,by rw[hb];exact bz _ htb⟩
    .exact⟨o,Kj b o hb e⟩
   .by_cases hb:b=P
    .rw[hb] at e |-;rw[hP] at e;cases e;exact⟨#[rawInt lp.line,rawInt lp.col,.ref c'],by rw[eP];simp⟩
    .exact⟨#[],by rw[mJ b _ e hb];simp⟩
   .exact(hm.extBut hx hPL).push _
   .by_cases hbf:b=h'.objs.size
    .subst hbf;rw[ef] at e;cases e;exact Cm ⟨kP,_,Ck,c1,c2,b_ _ rfl⟩
    .by_cases Xh:b=c'
     .subst Xh;rw[ec] at e;cases e;refine Gw ?_;obtain⟨c₂,oc,vs,t,e2,VT,r⟩:=Xw;exact⟨c₂,oc,vs,t,e2,bz _ VT,r⟩
     .by_cases Xx:b=P
      .subst Xx;rw[eP] at e;cases e;exact bz _ htb
      .rw[eo b Xx Xh hbf] at e;refine(I.ck b o e).lL (fun d u hd q=>Kj d u ?_ q) (fun d q=>mJ d _ q fun z=>by rw[z,hP] at q;cases q) fun d xs q=>mJ d _ q fun z=>by rw[z,hP] at q;cases q
       rintro rfl;rcases hd with z|z
       .exact Xx z.symm
       .rw[hP] at z;cases z
  exact⟨.ref h'.objs.size,H2,I2,rfl,h _ c' H2 (.inr ⟨c',eP,ec⟩) mJ ec ef⟩
 .-- again
  have SG:s.heap.get? P=some (PySem.W.tabObj #[rawInt lp.line,rawInt lp.col,.ref c']):=I.ck P _ hP;refine PySem.W.kla_makeFunctionHit (mg:=X.mg) ecl I.ok.glob I.Mz C.code (C.hd.keeps I.bk) SG x0 DP (C.at I hP) fun Ck h' tk hk Ki=>?_;have nf:H h'.objs.size=none:=I.ck.fresh Ki
  let H2:Hp:=upd H h'.objs.size (AK h'.objs.size (X.env.qual++"<lambda>") params body scope X.env.cells c')
  have ef:H2 h'.objs.size=some (AK h'.objs.size (X.env.qual++"<lambda>") params body scope X.env.cells c'):=ah;have mJ:∀b o,H b=some o->H2 b=some o:=fun b o e=>by
   show upd _ _ _ _=_;rw[al (aq e nf)];exact e
  have Kj:∀b o,s.heap.get? b=some o->(h'.push (PySem.W.kla_obj "<lambda>" (X.env.qual++"<lambda>") params body scope kP ((X.mg "__name__").getD .none) c' Ck)).get? b=some o:=fun b o e=>bz _ (hk b o e);have I2:aI X ae σ H2 { s with heap:=h'.push (PySem.W.kla_obj "<lambda>" (X.env.qual++"<lambda>") params body scope kP ((X.mg "__name__").getD .none) c' Ck),toks:=tk }:=by
   refine I.step (g':=s.gens) (d':=s.drawn) (ch:=[]) (fun _ z=>absurd z (by simp)) (fun b o _ _ _ e n=>Kj b o e) (fun b o _ _ _ e n=>⟨o.slots,Kj b o e⟩)
    (fun b o _ e n=>?_) (fun b o _ e=>⟨o,Kj b o e⟩) (fun b xs e=>mJ b _ e) (fun b o u e=>mJ b _ e) (fun b ps e=>⟨#[],by rw[mJ b _ e];simp⟩) (fun m hm=>(hm.keeps hk).push _) (I.ck.laid Kj Ki (Cm ⟨kP,_,Ck,c1,c2,b_ _ rfl⟩)) I.bare
   .show upd _ _ _ _=_;rw[al (aX (bK (hsz b o e) Ki))];exact n
  exact⟨.ref h'.objs.size,H2,I2,rfl,h _ c' H2 (.inr ⟨c',mJ _ _ hP,mJ _ _ NA⟩) (fun b o e _=>mJ b o e) (mJ _ _ NA) ef⟩
end
def Gx(X:Cx)(id:String)(ks:List Str)(r:St->List V->List V->Hp->VK->Prop):Prop:=
 ∀ (ae:List (Addr×Obj)) (s:Shared) (σ:St) (H:Hp) (vs zs:List V) (us ws:List Value) (Q:VK),aI X ae σ H s->aY vs us->aY zs ws->r σ vs zs H Q->
  wpAny (model X.prog X.w) X.A (call (.builtin id) us (ks.zip ws)) (EP X ae σ Q) X.xe s
def Xy(r:St->List V->List V->Hp->VK->Prop)(t tk:TA):TE:=fun σ H Q=>t σ H fun vs H1=>tk σ H1 fun zs H2=>r σ vs zs H2 Q
section
variable {X:Cx} {x:Str} {p pos:Pos} {e:Expr} {es:List Expr} {FQ:List Keyword} {t tk:TA} {id:String} {ks:List Str} {r:St->List V->List V->Hp->VK->Prop}
theorem DQ(hc:Gx X id ks r)(hg:Gl X x)(hm:X.mg x=none)(hv:bootBuiltins x=some (.builtin id))(ha:PA X (e::es) t)(hkw:PK X FQ tk)(hn:x≠"__name__":=by decide)(Dz:(x==("__debug__":Str))=false:=by decide)(hks:(backToKw pos (keywordEach FQ X.env)).filterMap (·.1)=ks:=by rfl)(he:backTo pos (starEach (e::es) X.env)=(false,eval e X.env)::backTo pos (starEach es X.env):=by rfl)(Aw:(backTo pos (starEach (e::es) X.env)).any (·.1)=false:=by rfl)(xP:(backToKw pos (keywordEach FQ X.env)).all (·.1.isSome)=true:=by rfl)(FW:(backToKw pos (keywordEach FQ X.env)).any (·.1.isNone)=false:=by rfl):PE X (.Call (.Name x p) (e::es) FQ pos) (Xy r t tk):=by
 intro ae s σ H Q I h;refine rG (kH I hg hm hv ?_ hn Dz);refine PyProof.Rows.callWith_kw (cz (ha pos ae s σ H _ I h) fun us s1 ⟨vs,H1,I1,r1,q1⟩=>?_) he Aw xP FW;refine cz (hkw pos ae s1 σ H1 _ I1 q1) fun ws s2 ⟨zs,H2,I2,rz,q2⟩=>?_;rw[hks];exact hc ae s2 σ H2 vs zs us ws Q I2 r1 rz q2
end
def On(za zb:Int)(ns out:List Int):Prop:=∃ps:List (Int×Int),ps.Perm (ns.map fun z=>((z-za) % zb,z))/\out=ps.map (·.2)/\ps.Pairwise fun p q=>p.1<=q.1
def Oo(X:Cx)(qual:Str)(params:Arguments)(body:Expr)(scope:Scope)(ia ib:Nat):St->List V->List V->Hp->VK->Prop:=fun σ vs zs H Q=>
 ∃ (l f c:Addr) (ns:List Int) (za zb:Int),vs=[.ref l]/\zs=[.ref f]/\br X.K H l (ns.map V.int)/\ns.length<64/\H f=some (AK f qual params body scope X.env.cells c)/\H c=some (uY c qual)/\
  σ[ia]?=some (some (.int za))/\σ[ib]?=some (some (.int zb))/\0<zb/\∀ (r:Addr) (out:List Int),H r=none->On za zb ns out->Q (.ref r) (upd H r (.lst (out.map V.int)))
theorem uZ:∀ {ns:List Int} {vs:List Value},aY (ns.map V.int) vs->IntsAre vs ns
 |[],_,.nil=>.nil
 |_::_,_,.cons ⟨t,e⟩ r=>by subst e;exact .cons _ t (uZ r)
structure SH(X:Cx)(qual:Str)(params:Arguments)(body:Expr)(scope:Scope)(y a b:Str)(ia ib:Nat):Prop where
 bd:∃p1 p2 p3 p4 p5,body=.BinOp (.BinOp (.Name y p1) .Sub (.Name a p2) p3) .Mod (.Name b p4) p5
 bind:∀kP pm c Ck v,bindArgs (PySem.W.kla_fn "<lambda>" qual params body scope kP pm (.ref c) Ck) ⟨[v],[]⟩=pure [(y,v)]
 na:X.N[ia]?=some a
 nb:X.N[ib]?=some b
 ca:X.env.scope.names.lookup a=some .cell
 cb:X.env.scope.names.lookup b=some .cell
 ly:scope.names.lookup y=some .local
 fa:scope.names.lookup a=some .free
 fb:scope.names.lookup b=some .free
 ma:(a,NameKind.free)∈scope.names
 mb:(b,NameKind.free)∈scope.names
 Op:∀z∈scope.names,z.2≠.cell
 kind:scope.kind=.function
 co:scope.isCoroutine=false
 gen:scope.isGenerator=false
 dy:(y==("__debug__":Str))=false
 da:(a==("__debug__":Str))=false/\(a==("__classdict__":Str))=false
 db:(b==("__debug__":Str))=false/\(b==("__classdict__":Str))=false
theorem AL(S:SH X qual params body scope y a b ia ib)(hr:bA k X.A):
  Gx X "sorted" ["key"] (Oo X qual params body scope ia ib):=by
 intro ae s σ H vs zs us ws Q I r rz h;obtain⟨l,f,c,ns,za,zb,rfl,rfl,hl,V6,hf,hc,sa,sb,hb0,q⟩:=h;obtain⟨u1,rfl,r1⟩:=r.one;obtain rfl:u1=Value.ref l:=r1;obtain⟨w1,rfl,rw1⟩:=rz.one;obtain rfl:w1=Value.ref f:=rw1;obtain⟨its,rv,pl,hz⟩:=I.list hl;have hI:=uZ rv;obtain⟨m,F⟩:=I.fr;obtain⟨p1,p2,p3,p4,p5,rfl⟩:=S.bd;obtain⟨kP,pm,Ck,c1,c2,Sj⟩:=(I.ck f _ hf).1;have hcr:s.heap.CodeRec (.ref c) qual:=(I.ck c _ hc).1;obtain⟨m',VS,hlk⟩:=I.loc;have SJ:∃ca ta,kP.lookup a=some ca/\s.heap.IsCell ca (some (.int za ta)):=by
  obtain⟨u,⟨ta,rfl⟩,lk⟩:=hlk ia a (.int za) S.na sa (.inr (.inl S.ca));obtain⟨ca,e1⟩:=c2 a S.ma;rcases lk with ⟨z,_⟩|⟨_,Q_,e2,e3⟩
  .have z':X.env.scope.names.lookup a=some .local:=z;rw[S.ca] at z';cases z'
  .have e4:=c1 a ca e1;rw[e2] at e4;cases e4;exact⟨ca,ta,e1,e3⟩
 have SK:∃cb tb,kP.lookup b=some cb/\s.heap.IsCell cb (some (.int zb tb)):=by
  obtain⟨u,⟨tb,rfl⟩,lk⟩:=hlk ib b (.int zb) S.nb sb (.inr (.inl S.cb));obtain⟨cb,e1⟩:=c2 b S.mb;rcases lk with ⟨z,_⟩|⟨_,cb',e2,e3⟩
  .have z':X.env.scope.names.lookup b=some .local:=z;rw[S.cb] at z';cases z'
  .have e4:=c1 b cb e1;rw[e2] at e4;cases e4;exact⟨cb,tb,e1,e3⟩
 obtain⟨ca,ta,ea,ha⟩:=SJ;obtain⟨cb,tb,eb,hb⟩:=SK;have V7:∀b' (o:Obj),s.heap.get? b'=some o->(∀es ep,o.data≠.dict es ep)->b'≠X.env.locals:=fun b' o e d z=>by
  obtain⟨o',es,ep,e',d',_⟩:=F.ns;rw[z,e'] at e;cases e;exact d _ _ d'
 have len:(ns.map fun z=>(z-za) % zb).length=its.length:=by rw[aP,hI.length]
 refine ksk_sorted (b:=false) (f:=.ref f) (kz:=ns.map fun z=>(z-za) % zb) F Ft pl.isList len (by rw[hI.length];exact V6) (ksk_s1 _ _) (fun x=>ksk_l1 _ _) (fun x=>ksk_t1 _ _) ?_ ?_
 .-- one key
  intro i v k hv hk h tk own F' N';have at_:∀b' u,b'≠X.env.locals->s.heap.get? b'=some u->h.get? b'=some u:=fun b' u lN e=>by
   cases z:X.base.get? b' with
   |some o=>
    have:=I.bk b' o z;rw[e] at this;cases this;exact F'.keep b' _ z
   |none=>exact(N' (b',u) (kd _ (kD lN z e))).1
  have Xz:=at_ f _ (V7 f _ Sj (by intro es ep z;cases z)) Sj;have XA:h.CodeRec (.ref c) qual:=by
   obtain⟨c0,o,vs0,t0,e0,ho,hd,hv0⟩:=hcr;refine⟨c0,o,vs0,t0,e0,at_ _ _ (V7 _ _ ho (by rw[hd];intro es ep z;cases z)) ho,hd,hv0⟩
  have Si:h.IsCell ca (some (.int za ta)):=by
   obtain⟨o,ho,hd⟩:=ha;exact⟨o,at_ _ _ (V7 _ _ ho (by rw[hd];intro es ep z;cases z)) ho,hd⟩
  have jW:h.IsCell cb (some (.int zb tb)):=by
   obtain⟨o,ho,hd⟩:=hb;exact⟨o,at_ _ _ (V7 _ _ ho (by rw[hd];intro es ep z;cases z)) ho,hd⟩
  obtain⟨z,tz,rfl,rfl⟩:∃z tz,v=.int z tz/\k=(z-za) % zb:=by
   obtain⟨n,t,e⟩:=hI.all v (cZ hv);refine⟨n,t,e,?_⟩;rw[bL] at hk;have hn:=hI.nums;have e1:(its.map numOf)[i]?=some n:=by rw[bL,hv,e];rfl
   rw[hn] at e1;rw[e1] at hk;exact(a8 hk).symm
  have SL:X.A.in1.in1.depth<recursionLimit:=by
   have:=hr.dp;show X.A.depth<_;lia
  refine rY (PySem.W.kla_callFunE SL Xz rfl S.co S.gen rfl XA ?_);rw[S.bind];refine wpAny_pure (wpAny_newFunctionEnv S.Op (fun x hx=>by rw[dL.mp hx];exact S.ly) (fun h₁ AM V8=>⟨((I.ok.mod.nolimit).keeps F'.keep).fresh _ V8,?_⟩) S.kind);have SO:∀b o,h.get? b=some o->h₁.get? b=some o:=fun b o e=>V8.extBut b o (aX (aO e)) (bz _ e);have ha₁:=Si.keeps SO;have hb₁:=jW.keeps SO;refine PySem.W.kla_codeExpr ?_;refine wpAny_BinOp (wpAny_BinOp ?_);refine o6 (zM S.kind S.ly AM (v:=.int z tz) (by simp) ?_) S.dy;refine o6 (zS S.kind S.fa ea ha₁ ?_ S.da.2) S.da.1;refine sub_int ?_;refine o6 (zS S.kind S.fb eb hb₁ ?_ S.db.2) S.db.1;refine mod_int' (by lia) ?_;rw[zf _ (by lia)];refine KskEnd.intro (news':=jC X.base s.heap X.env.locals++own) ⟨F'.ns.keeps SO,fun b o e=>SO b o (F'.keep b o e),F'.above⟩ (fun p hp=>⟨SO _ _ (N' p hp).1,(N' p hp).2⟩) fun p hp=>hp
 .-- the list
  intro D h' tk out cc F' N' dt XB;have hD:=uz I N' dt;obtain⟨ps,hp,ho,hs⟩:=XB;have uy:∀p∈ps,∃n t,p.2=.int n t:=fun p Gi=>by
   have:=hp.mem_iff.mp Gi;exact hI.all _ (rL this).2
  have hz':((ns.map fun z=>(z-za) % zb).zip its).map (fun p=>(p.1,numOf p.2))=ns.map fun z=>((z-za) % zb,z):=by
   have hn:=hI.nums;rw[<-hn];have go:∀ (l:List Value),((((l.map numOf).map fun z=>(z-za) % zb).zip l).map fun p=>(p.1,numOf p.2))=(l.map numOf).map fun z=>((z-za) % zb,z):=by
    intro l;induction l with
    |nil=>rfl
    |cons x l ih=>simp only[fg,List.zip_cons_cons,ih]
   exact go its
  have F2:aY ((ps.map fun p=>(p.1,numOf p.2)).map (fun p=>V.int p.2)) (ps.map Prod.snd):=by
   have go:∀ (l:List (Int×Value)),(∀p∈l,∃n t,p.2=.int n t)->aY ((l.map fun p=>(p.1,numOf p.2)).map (fun p=>V.int p.2)) (l.map Prod.snd):=by
    intro l;induction l with
    |nil=>intro _;exact .nil
    |cons x l ih=>
     intro hx;refine .cons ?_ (ih fun p hp=>hx p (bJ _ hp));obtain⟨n,t,e⟩:=hx x bG;show ∃t,x.2=Value.int (numOf x.2) t;rw[e];exact⟨t,rfl⟩
   exact go ps uy
  have DS:On za zb ns ((ps.map fun p=>(p.1,numOf p.2)).map (·.2)):=by
   refine⟨ps.map fun p=>(p.1,numOf p.2),?_,rfl,?_⟩
   .rw[<-hz'];exact hp.map _
   .refine jS.mpr (hs.imp fun {p q} z=>?_);simpa using z
  have hDo:h'.get? D=some (seqObj "list" out cc):=(N' _ bG).1;have I2:aI X ae σ (upd H D (.lst (((ps.map fun p=>(p.1,numOf p.2)).map (·.2)).map V.int))) { s with heap:=h',toks:=tk }:=by
   refine I.Sv F F' (fun p hp=>N' p (bJ _ hp)) hD ⟨?_,ps.map Prod.snd,cc,?_,?_⟩
   .have h1:=hp.length_eq;rw[List.length_zip,len,Nat.min_self] at h1;simp only[aP];rw[h1,hI.length];exact bj (jy V6) (by decide)
   .have ev:=F2;simp only[fh] at ev |-;exact ev
   .rw[hDo,<-ho]
  exact⟨.ref D,_,I2,rfl,q D _ (I.ck.sL hD) DS⟩
def wG(mg:Str->Option Value)(base:Heap):Prop:=∃bm o,mg "__builtins__"=some (.ref bm)/\bm≠builtinsNs/\bm≠mainGlobals/\base.get? bm=some o/\o.cls=.type "module"/\o.dict=some builtinsNs/\o.data=.plain
def Cn(ts:List Addr)(H:Hp):Prop:=(∀P∈ts,H P=some (.qJ #[]))/\∀b,H b=none\/(b∈ts/\H b=some (.qJ #[]))\/∃o xs,H b=some (.mK o (.lst xs))
theorem DT{P:Program}{w:World}{K:PySem.W.Frag}{mg mb:Str->Option Value}{CX:xB}{k:Nat}{fa a:Addr}{fd:FuncData}{x:Str}{sp:Sp}{s₁:Shared}{vs:List Value}{ns:List Int}{ts:List Addr}(KX:K.In s₁.heap)(AM:s₁.heap.Ns mainGlobals mg)(hb:s₁.heap.Ns builtinsNs mb)(hbb:∀x:Str,x≠"__name__"->mb x=bootBuiltins x)(XC:s₁.heap.NoLimit)(hg:s₁.gens=#[])(hbm:wG mg s₁.heap)(SS:∀P∈ts,s₁.heap.get? P=some (PySem.W.tabObj #[]))(um:∀P∈ts,∃c,PySem.W.codeHdIn K c P=true)(XD:∀P∈ts,K.lookup P=none)(ha:s₁.heap.get? a=some { cls:=.type "list",data:=.seq vs.toArray })(hi:IntsAre vs ns)(hl:ns.length<=sizeLine)(hr:bA k callerA)(F:∀base:Heap,K.In base->base.Ns mainGlobals mg->wG mg base->bn P w K mg base CX k fa fd [x] sp)(SU:∀ (s:Shared) (u:Value),BindsTo s fd ⟨[u],[]⟩ [(x,u)])(E2:∀H:Hp,Cn ts H->br K H a (ns.map V.int)->sp [.ref a] H (fun v _=>v=.bl true) fun _ _ _=>False)(XE:∀H e s',CX [] H s₁ (fun _ _ _=>False) e s'->False):
  codeAny (model P w) callerA (.call (.ref fa) ⟨[.ref a],[]⟩) (fun r s'=>r=.ok (.ret (.bool true))/\OldK s₁.heap s'.heap/\s'.os=s₁.os/\AllBare s'.gens) s₁:=by
 have rv:=pF hi;have XF:=hi.length;have V9:a∉ts:=fun z=>by
  have:=SS a z;rw[ha] at this;cases this
 have SV:∀H:Hp,Cn ts H->br K H a (ns.map V.int)->kC P w H s₁.heap->(∀b,H b≠none->b=a\/b∈ts)->(H a≠none->K.lookup a=none)->
   codeAny (model P w) callerA (.call (.ref fa) ⟨[.ref a],[]⟩) (fun r s'=>r=.ok (.ret (.bool true))/\OldK s₁.heap s'.heap/\s'.os=s₁.os/\AllBare s'.gens) s₁:=by
  intro H hO hS ck hA hK;have wH:∀ {b:Addr} {o:Obj},s₁.heap.get? b=some o->H b=none->(uw s₁.heap H).get? b=some o:=fun e n=>Fs e n;have Q4:∀ {b:Addr} {o:Obj},s₁.heap.get? b=some o->(∀v n,o.data≠.seq v n)->(∀v,o.data≠.fields v)->H b=none:=fun {b o} e d1 d2=>by
   cases q:H b with
   |none=>rfl
   |some u=>
    rcases hA b (by rw[q];simp) with e'|e'
    .subst e';rw[ha] at e;cases e;exact absurd rfl (d1 _ _)
    .rw[SS b e'] at e;cases e;exact absurd rfl (d2 _)
  have V_:∀ {b:Addr} {m:Str->Option Value},s₁.heap.Ns b m->(uw s₁.heap H).Ns b m:=fun {b m} ⟨o,es,ep,e,d,r⟩=>⟨o,es,ep,wH e (Q4 e (by rw[d];intro v n z;cases z) (by rw[d];intro v z;cases z)),d,r⟩
  have hKb:K.In (uw s₁.heap H):=fun b o e=>wH (KX b o e) (by
   cases q:H b with
   |none=>rfl
   |some u=>
    rcases hA b (by rw[q];simp) with e'|e'
    .subst e';rw[hK (by rw[q];simp)] at e;cases e
    .rw[XD b e'] at e;cases e)
  have hB:wG mg (uw s₁.heap H):=by
   obtain⟨bm,o,b1,b2,b3,b4,b5,b6,b7⟩:=hbm;exact⟨bm,o,b1,b2,b3,wH b4 (Q4 b4 (by rw[b7];intro v n z;cases z) (by rw[b7];intro v z;cases z)),b5,b6,b7⟩
  have hM:Mod K mg (uw s₁.heap H):=⟨hKb,V_ AM,⟨mb,V_ hb,hbb⟩,let ⟨mc,h1,h2⟩:=XC;⟨mc,V_ h1,h2⟩⟩
  have e0:Ap P w K mg (uw s₁.heap H) callerA [] s₁ H:=⟨rfl,hM,fun b o e=>JJ e,mD (Dq _ _),trivial,fun b hb=>absurd (show b∈([]:List Addr) from hb) (by simp),ck,.of_eq hg⟩
  refine kr ((F _ hKb (V_ AM) hB).run callerA [] s₁ H ⟨[.ref a],[]⟩ [.ref a] [.ref a] _ _ hr e0 (SU s₁ (.ref a)) (.cons rfl .nil) (E2 H hO hS)) fun r s' h=>?_;cases r with
  |error e=>exact(XE H e s' h).elim
  |ok fl=>
   cases fl with
   |next=>exact False.elim h
   |brk=>exact False.elim h
   |cont=>exact False.elim h
   |ret u=>
    obtain⟨v,H',os,bare,un,SW,r',q⟩:=h;have q':v=.bl true:=q;subst q';obtain rfl:u=Value.bool true:=r';refine⟨rfl,⟨fun b o e=>?_,fun b o e=>un.there b o e (by simp)⟩,os,bare⟩;cases q:H b with
    |none=>exact .inl (un.keep b o e q (by intro z;exact absurd (show b∈([]:List Addr) from z) (by simp)) (by simp))
    |some u=>
     rcases hO.2 b with z|⟨zt,z⟩|⟨ob,xs,z⟩
     .rw[q] at z;cases z
     .obtain⟨more,z2⟩:=un.o9 b _ z;have e1:=SS b zt;rw[e] at e1;cases e1;have e2:s'.heap.get? b=some { cls:=.none,data:=.fields (#[]++more) }:=SW b _ z2;obtain⟨c,hc⟩:=um b zt;obtain⟨oc,vsc,_,_,_,_,_,_,_,g1,g2,g3,g4,_⟩:=PySem.W.codeHd_of_K KX hc;exact .inr (.inl ⟨⟨c,oc,vsc,g1,g2,g3,g4⟩,rfl,#[],more,rfl,e2⟩)
     .have z2:=un.o8 b ob _ z;obtain⟨e1,_⟩:=ck b _ z;obtain⟨e2,_⟩:=SW b _ z2;rw[e] at e1;cases e1;exact .inl e2
 have abp:∀ (H:Hp),(∀P∈ts,H P=some (.qJ #[]))->True:=fun _ _=>trivial
 classical
 cases hk:K.lookup a with
 |some o=>
  have e:=KX a o hk;rw[ha] at e;cases e;refine SV (fun b=>if b∈ts then some (.qJ #[]) else none) ⟨fun P hP=>ai hP,fun b=>?_⟩ (.inr ⟨_,vs.toArray,_,hk,rfl,rfl,rfl,by rw[cV,XF];exact hl,by simpa using rv⟩) (fun b u z=>?_) (fun b z=>?_) fun z=>absurd (ap V9) z
  .by_cases hb:b∈ts
   .exact .inr (.inl ⟨hb,ai hb⟩)
   .exact .inl (ap hb)
  .by_cases hb:b∈ts
   .have z':=(ai hb).symm.trans z;cases z';exact SS b hb
   .have z':=(ap hb).symm.trans z;cases z'
  .by_cases hb:b∈ts
   .exact .inr hb
   .exact absurd (ap hb) z
 |none=>
  refine SV (fun b=>if b=a then some (.mK { cls:=.type "list",data:=.seq vs.toArray } (.lst (ns.map V.int))) else if b∈ts then some (.qJ #[]) else none) ⟨fun P hP=>?_,fun b=>?_⟩ (.inl (.inr ⟨{ cls:=.type "list",data:=.seq vs.toArray },ai rfl⟩)) (fun b u z=>?_) (fun b z=>?_) fun _=>hk
  .have:P≠a:=fun z=>V9 (z ▸ hP);show (if P=a then _ else if P∈ts then _ else _)=_;rw[ap this,ai hP]
  .by_cases hb:b=a
   .exact .inr (.inr ⟨_,_,ai hb⟩)
   .by_cases ht:b∈ts
    .exact .inr (.inl ⟨ht,by show (if b=a then _ else if b∈ts then _ else _)=_;rw[ap hb,ai ht]⟩)
    .exact .inl (by show (if b=a then _ else if b∈ts then _ else _)=_;rw[ap hb,ap ht])
  .by_cases hb:b=a
   .have z':=(ai hb).symm.trans z;cases z';subst hb;exact⟨ha,by rw[aP];exact hl,vs,_,rv,ha⟩
   .have z1:(if b∈ts then some (HO.qJ #[]) else none)=some u:=(ap hb).symm.trans z;by_cases ht:b∈ts
    .rw[ai ht] at z1;cases z1;exact SS b ht
    .rw[ap ht] at z1;cases z1
  .by_cases hb:b=a
   .exact .inl hb
   .by_cases ht:b∈ts
    .exact .inr ht
    .exact absurd (by show (if b=a then _ else if b∈ts then _ else _)=_;rw[ap hb,ap ht]) z
theorem Gy{l:PySem.W.OpenLaw}{n k:Nat}{q:Program}{uS:List Str}{XP:(Str->Option Value)->Heap->Prop}{YP:World->Heap->Prop}{d:DefRec}{K:Params->PySem.W.Frag}{CX:World->xB}{sp:World->Sp}{x:Str}{ts:List Addr}(hn:l.most=some n)(Q3:n<=sizeLine)(Sg:d.params.defaults=[])(hr:bA k callerA)(hY:∀ (w:World) (h:Heap),YP w h->(K w.params).In h)(hT:∀ (w:World) (h:Heap),YP w h->∀P∈ts,h.get? P=some (PySem.W.tabObj #[]))(um:∀ (w:World),∀P∈ts,∃c,PySem.W.codeHdIn (K w.params) c P=true)(XD:∀ (w:World),∀P∈ts,(K w.params).lookup P=none)(F:∀ (w:World) (mg:Str->Option Value) (fa:Addr) (h:Heap),(K w.params).In h->h.Ns mainGlobals mg->mg d.name=some (.ref fa)->
   ∃fd:FuncData,(∀ (s:Shared) (u:Value),BindsTo s fd ⟨[u],[]⟩ [(x,u)])/\
    ∀base:Heap,(K w.params).In base->base.Ns mainGlobals mg->wG mg base->bn l.prog w (K w.params) mg base (CX w) k fa fd [x] (sp w))(E2:∀ (w:World) (H:Hp) (a:Addr) (ns:List Int),ns.length<=n->Cn ts H->br (K w.params) H a (ns.map V.int)->sp w [.ref a] H (fun v _=>v=.bl true) fun _ _ _=>False)(XE:∀ (w:World) (H:Hp) (s:Shared) (e:Value) (s':Shared),CX w [] H s (fun _ _ _=>False) e s'->False):
  PySem.W.WalkO q uS XP YP l.row.toRowW d [] (fun f vs=>PySem.call f vs):=by
 refine Att.xQ hn Sg fun w s₀ s₁ mg mb fa o pm cd nB a vs ns G Y ho hd abt Sh N2 F3 de hg=>?_;have KX:=hY w _ Y;obtain⟨fd,hb,hF⟩:=F w mg fa _ KX G.T.g Sh;have hB:wG mg s₁.heap:=by
  obtain⟨bm,ob,b1,b2,b3,b4,b5,b6⟩:=G.T.bmain;refine⟨bm,ob,b1,b2,fun z=>?_,b3,b4,b5,b6⟩;obtain⟨o',es,ep,e,RG,_⟩:=G.T.g;rw[z,e] at b3;cases b3;rw[RG] at b6;cases b6
 exact DT KX G.T.g G.T.b G.T.builtins G.T.nolimit hg hB (hT w _ Y) (um w) (XD w) N2 F3 (bj de Q3) hr hF hb (fun H hO hS=>E2 w H a ns de hO hS) fun H e s'=>XE w H s₁ e s'
structure AN(K:PySem.W.Frag)(x qual:Str)(st:Stmt)(f:Addr)(fd:FuncData)(c:Addr):Prop where
 ex:∃ (oc:Value) (od:Option Addr) (kV nB pm:Value) (an:Option Addr) (ct:Value) (xL:Array (Option Value)),
  fd=PySem.W.fnOf x qual (dv st) (cH st) (am st) .none kV nB pm an (.ref c) ct/\K.lookup f=some ⟨oc,od,.func fd,xL⟩/\PySem.W.codeIn K (.ref c) qual=true
 kp:PySem.W.keepIn K (.ref f)=true
theorem AN.fun{K:PySem.W.Frag}{x qual:Str}{st:Stmt}{f:Addr}{fd:FuncData}{c:Addr}(F:AN K x qual st f fd c):eM K x qual st f fd:=by
 obtain⟨oc,od,kV,nB,pm,an,ct,xL,e,lk,um⟩:=F.ex;exact⟨⟨oc,od,kV,nB,pm,an,_,ct,xL,e,lk,um⟩,F.kp⟩
section
variable {P:Program} {w:World} {K:PySem.W.Frag} {mg:Str->Option Value} {base:Heap}
theorem AN.ok{x qual:Str}{st:Stmt}{f:Addr}{fd:FuncData}{c:Addr}{N ps:List Str}{k:Nat}{sp:Sp}(F:AN K x qual st f fd c)(S:aD N ps (am st))(len:∀vs H Q E,sp vs H Q E->vs.length=ps.length)(sv:∀ (A:Around) (outer:List Env) (s:Shared) (H:Hp) (vs:List V) (Q:VK) (E:XK),bA k (A.deeper (envOfC qual (am st) s.heap.objs.size f (.ref c)))->sp vs H Q E->
   ∃t,y0 (jG a7 P w K mg base N qual (am st) f (.ref c) A outer s H E).Mm (cH st) t/\t { nx:=fun _ H'=>Q .bR H',rt:=Q } (start N vs) H):bn P w K mg base a7 (k+1) f fd ps sp:=by
 obtain⟨oc,od,kV,nB,pm,an,ct,xL,rfl,lk,um⟩:=F.ex;refine FU lk um S len fun A outer s H vs Q E hr E2=>?_;obtain⟨t,h,q⟩:=sv A outer s H vs Q E hr E2;exact⟨t,h.Mm,q⟩
theorem Kk{x qual:Str}{st:Stmt}{f c:Addr}{oc:Value}{od an:Option Addr}{xL:Array (Option Value)}{kV nB pm ct:Value}(l:K.lookup f=some ⟨oc,od,.func (PySem.W.fnOf x qual (dv st) (cH st) (am st) .none kV nB pm an (.ref c) ct),xL⟩)(um:PySem.W.codeIn K (.ref c) qual=true)(kp:PySem.W.keepIn K (.ref f)=true):AN K x qual st f (PySem.W.fnOf x qual (dv st) (cH st) (am st) .none kV nB pm an (.ref c) ct) c:=⟨⟨oc,od,kV,nB,pm,an,ct,xL,rfl,l,um⟩,kp⟩
theorem Kl(kb:K.In base)(hb:wG mg base)(hc:PySem.W.codeHdIn K c P'=true):
  Kh (jG CX P w K mg base N qual scope f (.ref c) A outer s H E).Mm c P':=⟨rfl,PySem.W.codeHd_of_K kb hc,hb⟩
end
def qR(sc XG:Scope)(y:Str×NameKind):Bool:=match y.2 with
 |.cell=>(match sc.names.lookup y.1 with|some .cell=>true|_=>false)
 |.local=>(match sc.names.lookup y.1 with|some .local=>true|_=>false)
 |.free=>(match XG.names.lookup y.1 with|some .cell=>true|some .free=>true|_=>false)
 |_=>true
def Gz(NB:List Str)(src:List (Option Nat))(sc:Scope)(N:List Str)(i:Nat):Bool:=match NB[i]?,src[i]? with
 |some x,some (some j)=>(N[j]?==some x)&&(match sc.names.lookup x with|some .free=>true|_=>false)
 |_,_=>true
def Co(sc:Scope):Bool:=match sc.kind with|.function=>true|_=>false
def GA(NB:List Str)(src:List (Option Nat))(sc XG:Scope)(N:List Str):Bool:=
 Co sc&&decide NB.Nodup&&(src.length==NB.length)&&(sc.names.all (qR sc XG))&&(List.range NB.length).all (Gz NB src sc N)
theorem cp(h:GA NB src sc X.env.scope X.N=true):eO NB src sc X:=by
 unfold GA at h;simp only[gh,mm,eA,j_] at h;obtain⟨⟨⟨⟨h1,h2⟩,h3⟩,h4⟩,h5⟩:=h;refine⟨?_,h2,h3,fun y hy z=>?_,fun y hy z=>?_,fun y hy z=>?_,fun i x j e1 e2=>?_⟩
 .unfold Co at h1;split at h1
  .assumption
  .cases h1
 .have:=h4 y hy;obtain⟨n,k⟩:=y;obtain rfl:k=.cell:=z;dsimp only[qR] at this |-;split at this
  .assumption
  .cases this
 .have:=h4 y hy;obtain⟨n,k⟩:=y;obtain rfl:k=.local:=z;dsimp only[qR] at this |-;split at this
  .assumption
  .cases this
 .have:=h4 y hy;obtain⟨n,k⟩:=y;obtain rfl:k=.free:=z;dsimp only[qR] at this |-;split at this
  .exact .inl (by assumption)
  .exact .inr (by assumption)
  .cases this
 .have hi:i<NB.length:=(dk.mp e1).1;have:=h5 i (cY.mpr hi);unfold Gz at this;rw[e1,e2] at this;simp only[gh,eA] at this;refine⟨this.1,?_⟩;have t2:=this.2;split at t2
  .assumption
  .cases t2
theorem jl{K:PySem.W.Frag}{a D:Addr}{xs:List V}{g:TG}{tt:TT}{te:TE}{fin:Hp->Prop}{σB:St}{H0:Hp}(Pv:Nat->List V->St->Hp->Prop)(h0:Pv 0 [] σB H0)(hl:∀i ys σ H,i<=xs.length->Pv i ys σ H->br K H a xs)(hs:∀i x ys σ H (Kt:V->St->Hp->Prop) (Kf:St->Hp->Prop),xs[i]?=some x->Pv i ys σ H->
   (∀v σ2 H4,H4 D=some (.lst ys)->ys.length<sizeLine->Pv (i+1) (ys++[v]) σ2 (upd H4 D (.lst (ys++[v])))->Kt v σ2 H4)->(∀σ2 H3,Pv (i+1) ys σ2 H3->Kf σ2 H3)->
   g x σ H fun σ2 H2=>tt σ2 H2 fun b H3=>if b=true then te σ2 H3 fun v H4=>Kt v σ2 H4 else Kf σ2 H3)(hd:∀ys σ H,Pv xs.length ys σ H->fin H):gR (Fw K a) g tt te D fin σB H0:=by
 refine⟨fun i m σ H=>m=xs.length-i/\i<=xs.length/\∃ys,Pv i ys σ H,⟨xs.length,by simp,cF _,[],h0⟩,?_⟩;rintro i m σ H ⟨rfl,hi,ys,p⟩;have q:=hl i ys σ H hi p;by_cases dt:i<xs.length
 .refine .inr ⟨⟨xs,xs[i],q,by simp[dt]⟩,?_⟩;rintro x H' ⟨rfl,y⟩;exact hs i x ys σ _ (fun v σ2 H4=>∃ys,H4 D=some (.lst ys)/\ys.length<sizeLine/\∃m',m'<xs.length-i/\m'=xs.length-(i+1)/\i+1<=xs.length/\∃pL,Pv (i+1) pL σ2 (upd H4 D (.lst (ys++[v]))))
   (fun σ2 H3=>∃m',m'<xs.length-i/\m'=xs.length-(i+1)/\i+1<=xs.length/\∃pL,Pv (i+1) pL σ2 H3) (y xs q) p
   (fun v σ2 H4 z1 z2 z3=>⟨ys,z1,z2,_,by lia,rfl,dt,_,z3⟩) (fun σ2 H3 z=>⟨_,by lia,rfl,dt,_,z⟩)
 .have e:i=xs.length:=by lia
  subst e;exact .inl ⟨⟨xs,q,aW _⟩,hd ys σ H p⟩
theorem iy{lo:Int}{n:Nat}{D:Addr}{g:TG}{tt:TT}{te:TE}{fin:Hp->Prop}{σB:St}{H0:Hp}(Pv:Nat->List V->St->Hp->Prop)(h0:Pv 0 [] σB H0)(hs:∀i ys σ H (Kt:V->St->Hp->Prop) (Kf:St->Hp->Prop),i<n->Pv i ys σ H->
   (∀v σ2 H4,H4 D=some (.lst ys)->ys.length<sizeLine->Pv (i+1) (ys++[v]) σ2 (upd H4 D (.lst (ys++[v])))->Kt v σ2 H4)->(∀σ2 H3,Pv (i+1) ys σ2 H3->Kf σ2 H3)->
   g (.int (lo+i)) σ H fun σ2 H2=>tt σ2 H2 fun b H3=>if b=true then te σ2 H3 fun v H4=>Kt v σ2 H4 else Kf σ2 H3)(hd:∀ys σ H,Pv n ys σ H->fin H):gR (JS lo n) g tt te D fin σB H0:=by
 refine⟨fun i m σ H=>m=n-i/\i<=n/\∃ys,Pv i ys σ H,⟨n,by simp,cF _,[],h0⟩,?_⟩;rintro i m σ H ⟨rfl,hi,ys,p⟩;by_cases dt:i<n
 .refine .inr ⟨dt,?_⟩;rintro x H' ⟨rfl,rfl⟩;exact hs i ys σ _ (fun v σ2 H4=>∃ys,H4 D=some (.lst ys)/\ys.length<sizeLine/\∃m',m'<n-i/\m'=n-(i+1)/\i+1<=n/\∃pL,Pv (i+1) pL σ2 (upd H4 D (.lst (ys++[v]))))
   (fun σ2 H3=>∃m',m'<n-i/\m'=n-(i+1)/\i+1<=n/\∃pL,Pv (i+1) pL σ2 H3) dt p
   (fun v σ2 H4 z1 z2 z3=>⟨ys,z1,z2,_,by lia,rfl,dt,_,z3⟩) (fun σ2 H3 z=>⟨_,by lia,rfl,dt,_,z⟩)
 .have e:i=n:=by lia
  subst e;exact .inl ⟨aW _,hd ys σ H p⟩
section
variable {κ:Type} [DecidableEq κ]
def kQ(kvs:List (κ×V))(k:κ):Option V:=(kvs.find? fun kv=>decide (kv.1=k)).map (·.2)
def pM(kvs:List (κ×V))(k:κ)(v:V):List (κ×V):=
 if (kvs.any fun kv=>decide (kv.1=k))=true then kvs.map (fun kv=>if kv.1=k then (kv.1,v) else kv) else kvs++[(k,v)]
theorem oh{p:κ×V}{r:List (κ×V)}{k:κ}(e:p.1=k):kQ (p::r) k=some p.2:=by simp[kQ,mw,e]
theorem oj{p:κ×V}{r:List (κ×V)}{k:κ}(e:¬ p.1=k):kQ (p::r) k=kQ r k:=by simp[kQ,mw,e]
theorem sU(k:κ):∀kvs:List (κ×V),(kvs.any fun kv=>decide (kv.1=k))=(kQ kvs k).isSome
 |[]=>rfl
 |p::r=>by
  rw[kq];by_cases e:p.1=k
  .simp only[oh e,aT e,Bool.true_or,Option.isSome_some]
  .rw[oj e,cW e,Bool.false_or];exact sU k r
theorem x_(kvs:List (κ×V))(k:κ)(v:V):(pM kvs k v).length<=kvs.length+1:=by
 unfold pM;split
 .rw[aP];lia
 .rw[dY,cu,List.length_nil];lia
theorem GC{kvs:List (κ×V)}{k:κ}(v:V)(h:kQ kvs k=none):pM kvs k v=kvs++[(k,v)]:=by
 unfold pM;rw[sU,h];exact ap (by decide)
theorem KV.val{kvs:List (κ×V)}{vs:List (κ×Value)}(r:KV kvs vs)(k:κ):nP (kQ kvs k) (valueAt vs k):=by
 unfold KV at r;induction r with
 |nil=>exact True.intro
 |@cons p q ps qs h t ih=>
  obtain⟨h1,h2⟩:=h;by_cases e:p.1=k
  .have e':q.1=k:=h1.symm.trans e;have b:valueAt (q::qs) k=some q.2:=by simp[valueAt,mw,e']
   rw[oh e,b];exact h2
  .have e':¬ q.1=k:=fun z=>e (h1.trans z);have b:valueAt (q::qs) k=valueAt qs k:=by simp[valueAt,mw,e']
   rw[oj e,b];exact ih
theorem KV.any{kvs:List (κ×V)}{vs:List (κ×Value)}(r:KV kvs vs)(k:κ):(kvs.any fun kv=>decide (kv.1=k))=vs.any fun kv=>decide (kv.1=k):=by
 unfold KV at r;induction r with
 |nil=>rfl
 |cons h t ih=>rw[kq,kq,ih,h.1]
theorem KV.XH{kvs:List (κ×V)}{vs:List (κ×Value)}(r:KV kvs vs)(k:κ){y:V}{u:Value}(ry:bD y u):
  KV (kvs.map fun kv=>if kv.1=k then (kv.1,y) else kv) (vs.map fun kv=>if kv.1=k then (kv.1,u) else kv):=by
 unfold KV at r |-;induction r with
 |nil=>exact .nil
 |@cons p q ps qs h t ih=>
  rw[fg,fg];refine .cons ?_ ih;obtain⟨h1,h2⟩:=h;by_cases e:p.1=k
  .rw[ai e,ai (h1.symm.trans e)];exact⟨h1,ry⟩
  .rw[ap e,ap (fun z=>e (h1.trans z))];exact⟨h1,h2⟩
theorem KV.put{kvs:List (κ×V)}{vs:List (κ×Value)}(r:KV kvs vs)(k:κ){y:V}{u:Value}(ry:bD y u):KV (pM kvs k y) (stored vs k u):=by
 unfold pM stored;rw[r.any k];by_cases e:(vs.any fun kv=>decide (kv.1=k))=true
 .rw[ai e,ai e];exact r.XH k ry
 .rw[ap e,ap e];exact Paired.snoc r ⟨rfl,ry⟩
theorem KV.keys{kvs:List (κ×V)}{vs:List (κ×Value)}(r:KV kvs vs):kvs.map (·.1)=vs.map (·.1):=by
 unfold KV at r;induction r with
 |nil=>rfl
 |cons h t ih=>rw[fg,fg,ih,h.1]
theorem KV.length{kvs:List (κ×V)}{vs:List (κ×Value)}(r:KV kvs vs):kvs.length=vs.length:=Paired.length r
end
theorem GD(r:bD (kV k) u):(dF P w).is k u=true:=by
 cases k with
 |inl i=>obtain⟨t,e⟩:=(show ∃t,u=Value.int i t from r);subst e;exact xD P w i t
 |inr x=>obtain⟨t,e⟩:=(show ∃t,u=Value.str x t from r);subst e;exact xE P w x t
theorem u3:∀ {ks:List fL} {us:List Value},aY (ks.map kV) us->ItemsAre (dF P w) ks us
 |[],_,r=>by rw[List.map_nil] at r;cases r;exact .nil
 |k::ks,_,r=>by
  rw[fg] at r;cases r with
  |cons h t=>exact .cons (GD h) (u3 t)
abbrev KT(H:Hp):List (List fL×V)->List (List fL×Addr×Value)->Prop:=Paired fun p q=>p.1=q.1/\H q.2.1=some (.tup (p.1.map kV))/\bD p.2 q.2.2
theorem KT.val{H:Hp}{kvs:List (List fL×V)}{xs:List (List fL×Addr×Value)}(r:KT H kvs xs)(k:List fL):nP (kQ kvs k) ((atKey xs k).map (·.2)):=by
 induction r with
 |nil=>exact True.intro
 |@cons p q ps qs h t ih=>
  obtain⟨h1,_,h2⟩:=h;by_cases e:p.1=k
  .have e':q.1=k:=h1.symm.trans e;have b:atKey (q::qs) k=some q.2:=by simp[atKey,mw,e']
   rw[oh e,b];exact h2
  .have e':¬ q.1=k:=fun z=>e (h1.trans z);have b:atKey (q::qs) k=atKey qs k:=by simp[atKey,mw,e']
   rw[oj e,b];exact ih
section
variable {P:Program} {w:World} {H:Hp} {h:Heap} {a:Addr}
theorem ME(ok:kC P w H h)(e:Rd H a u):cf P w H h a u:=e.ok ok
theorem GE(ok:kC P w H h)(e:Rd H a (.dK kvs)):kvs.length<=sizeLine/\(a==sysModules)=false/\∃vs,KV kvs vs/\h.DictOf (dF P w) a vs:=
 show cf P w H h a (.dK kvs) from ME ok e
theorem MG{kvs:List (fL×V)}(ok:kC P w H h)(e:H a=some (.dK kvs)):kvs.length<=sizeLine/\(a==sysModules)=false/\∃vs,KV kvs vs/\h.DictOf (dF P w) a vs:=GE ok (.inl e)
theorem sV(ok:kC P w H h)(e:H a=some (.tup (ks.map kV))):(tupleKind (dF P w)).is h ks a:=by
 obtain⟨_,its,r,o,h1,h2,n,h3,_⟩:=(show cf P w H h a (.tup (ks.map kV)) from ok a _ e)
 exact⟨o,its.toArray,n,h1,h2,h3,by simpa using u3 r⟩
theorem MJ(ok:kC P w H h)(e:Rd H a (.dT kvs)):kvs.length<=sizeLine/\(a==sysModules)=false/\
  ∃xs,KT H kvs xs/\h.DictOfH (tupleKind (dF P w)) a xs:=by
 obtain⟨z,y,xs,r,o,es,ep,h1,h2,h3,h4,h5⟩:=(show cf P w H h a (.dT kvs) from ME ok e)
 refine⟨z,y,xs,r,o,es,ep,h1,h2,h3,h4,fun x hx=>?_,h5⟩;have all:∀ {l:List (List fL×V)} {m:List (List fL×Addr×Value)},KT H l m->∀x∈m,(tupleKind (dF P w)).is h x.1 x.2.1:=by
  intro l m q;induction q with
  |nil=>intro x hx;exact nomatch hx
  |@cons p q ps qs hq t ih=>
   intro x hx;rcases ba.mp hx with e|hx
   .subst e;exact sV ok (by rw[<-hq.1];exact hq.2.1)
   .exact ih x hx
 exact all r x hx
end
def ya(H:Hp)(a:Addr)(y:V)(r:Option V):Prop:=
 (∃kvs k,Rd H a (.dK kvs)/\y=kV k/\r=kQ kvs k)\/∃kvs k b,Rd H a (.dT kvs)/\y=.ref b/\H b=some (.tup (k.map kV))/\r=kQ kvs k
theorem ya.k{H:Hp}{a:Addr}{kvs:List (fL×V)}{k:fL}(e:H a=some (.dK kvs)):ya H a (kV k) (kQ kvs k):=.inl ⟨kvs,k,.inl e,rfl,rfl⟩
section
variable {X:Cx} {ae:List (Addr×Obj)} {σ:St} {H:Hp} {s:Shared} {a:Addr} {y v:V} {u r:Value} {o:Option V} {A:Around} {E:Value->Shared->Prop}
theorem aI.big(I:aI X ae σ H s):sysModules<s.heap.objs.size:=by
 have h:mainGlobals<s.heap.objs.size:=(I.mod.glob.keeps I.bk).lt;exact rV (by decide) h
theorem DU{Q:Value->Shared->Prop}(hu:A.units+1<cLine)(I:aI X ae σ H s)(g:ya H a y (some v))(ry:bD y u)(h:∀w' s',aI X ae σ H s'->bD v w'->Q w' s'):
  wpAny (model X.prog X.w) A (getItem (.ref a) u) Q E s:=by
 rcases g with ⟨kvs,k,e,ey,l⟩|⟨kvs,k,b,e,ey,eb,l⟩
 .subst ey;obtain⟨z,hd,vs,ML,dd⟩:=GE I.ck e;obtain⟨w',hw,Ds⟩:=nP.some_of (v:=v) (o:=valueAt vs k) (by rw[l];exact ML.val k);exact wpAny_getItem_of (GD ry) dd.mapOf hw (h w' _ (I.tok _) Ds)
 .subst ey;cases (show u=Value.ref b from ry);obtain⟨z,hd,xs,ML,dd⟩:=MJ I.ck e;obtain⟨w',hw,Ds⟩:=nP.some_of (v:=v) (o:=(atKey xs k).map (·.2)) (by rw[l];exact ML.val k);obtain⟨p,hp,XI⟩:=vC.mp hw;refine wpAny_getItem_heap (tupleKind_room_in1 hu) (sV I.ck eb) dd hp ?_;rw[XI];exact h w' _ (I.tok _) Ds
theorem Km{h':Heap}{t':Nat}{ob:HO}(I:aI X ae σ H s)(mu:RA (H a))(hs:Heap.SameBut a s.heap h')(he:∃q,h'.get? a=some q)(new:cf X.prog X.w (upd H a ob) h' a ob):
  aI X ae σ (upd H a ob) { s with heap:=h',toks:=t' }:=
 I.write (x:=a) (e:=a) mu (.inl rfl) (fun b q hb z=>(hs.2 b hb).trans z) he new
theorem Oq{P:Program}{w:World}{H':Hp}{h':Heap}{kvs:List (fL×V)}{vs:List (fL×Value)}(z:kvs.length<=sizeLine)(hd:(a==sysModules)=false)(ML:KV kvs vs)(dd:h'.DictOf (dF P w) a vs):
  cf P w H' h' a (.dK kvs):=⟨z,hd,vs,ML,dd⟩
end
section
variable {X:Cx} {ae:List (Addr×Obj)} {σ:St} {H:Hp} {s:Shared} {a:Addr} {kvs:List (fL×V)} {k:fL} {u:Value} {A:Around} {E:Value->Shared->Prop}
end
def SX(i:Expr):Prop:=∀ov iv,subscripted i false ov iv=operate [ov,iv] (getItem ov iv)
theorem Kn{prog:Program}{w:World}{A:Around}{E:Value->Shared->Prop}{s:Shared}{env:Env}{value slice:Expr}{pos:Pos}{T id:String}{Q:Value->Shared->Prop}(hl:typeLookup (.type T) "__getitem__"=pure (some (.builtin id)))(hs:SX slice)(h:wpAny (model prog w) A (eval value env) (fun o s₁=>wpAny (model prog w) A (eval slice env) (fun i s₂=>s₂.TypeIs o T/\wpAny (model prog w) A (getItem o i) Q E s₂) E s₁) E s):
  wpAny (model prog w) A (eval (.Subscript value slice pos) env) Q E s:=by
 refine Subscript_ (gy h (fun o s₁ h₁=>gy h₁ (fun i s₂ h₂=>?_) fun _ _ x=>x) fun _ _ x=>x);obtain⟨hT,h₂⟩:=h₂;unfold subscriptTail;refine ak ?_;rw[getitemInPython_of_ne hT.not_modules];refine ak (vX hT hl ?_);have fin:wpAny (model prog w) A (subscripted slice false o i) (fun r s₃=>wpAny (model prog w) A (letTemporaryGo value o r >>= fun _=>pure r) Q E s₃) E s₂:=by
  rw[hs o i];exact wpAny_operating (gy h₂ (fun r s₃ h₃=>ak (wpAny_letTemporaryGo (wpAny_pure h₃))) fun _ _ x=>x)
 first
  |exact wpAny_pure (ak fin)
  |exact ak (wpAny_pure (ak fin))
  |exact ak fin
theorem yb{X:Cx}{ae:List (Addr×Obj)}{σ:St}{H:Hp}{s:Shared}{a:Addr}{y:V}{o:Option V}(I:aI X ae σ H s)(g:ya H a y o):s.TypeIs (.ref a) "dict":=by
 rcases g with ⟨kvs,k,e,_,_⟩|⟨kvs,k,b,e,_,_,_⟩
 .obtain⟨_,_,vs,_,dd⟩:=GE I.ck e;exact dd.typeIs
 .obtain⟨_,_,xs,_,dd⟩:=MJ I.ck e;exact dd.typeIs
def Cp(td ty:TE):TE:=fun σ H Q=>td σ H fun x H1=>ty σ H1 fun y H2=>∃a v,x=.ref a/\ya H2 a y (some v)/\Q v H2
section
variable {X:Cx} {o i e value:Expr} {pos Dr Dt:Pos} {td ty tv:TE}
theorem lD(hu:X.A.units+1<cLine)(ho:PE X o td)(hi:PE X i ty)(hs:SX i):PE X (.Subscript o i pos) (Cp td ty):=by
 intro ae s σ H Q I h;refine Kn PySem.F.slot_dict_getitem.lookup hs (cz (ho ae s σ H _ I h) fun u s1 ⟨x,H1,I1,rx,q1⟩=>cz (hi ae s1 σ H1 _ I1 q1) fun iv s2 ⟨y,H2,I2,ry,a,v,ex,g,q2⟩=>?_);subst ex;obtain rfl:u=Value.ref a:=rx;exact⟨yb I2 g,DU hu I2 g ry fun w' s3 I3 Ds=>⟨v,H2,I3,Ds,q2⟩⟩
end
theorem GG{P:Program}{w:World}{H:Hp}(h:Heap)(hb:sysModules<h.objs.size):cf P w H (h.push { cls:=.type "dict",data:=.dict #[] }) h.objs.size (.dK []):=
 ⟨cF _,mh.mpr (cj (aX hb)),[],.nil,Heap.DictOf.new h⟩
section
variable {X:Cx} {pos:Pos}
end
section
variable {X:Cx} {ae:List (Addr×Obj)} {σ:St} {H:Hp} {s:Shared} {a:Addr} {y d:V} {u r:Value} {o:Option V} {A:Around} {E:Value->Shared->Prop}
end
section
variable {X:Cx} {o e f:Expr} {qo qr:Pos} {td ty tx:TE}
end
section
variable {X:Cx} {ae:List (Addr×Obj)} {σ:St} {H:Hp} {s:Shared} {a:Addr} {kvs:List (fL×V)} {A:Around} {E:Value->Shared->Prop}
end
section
variable {X:Cx} {ae:List (Addr×Obj)} {σ:St} {H:Hp} {s:Shared} {a:Addr} {y:V} {u:Value} {A:Around} {E:Value->Shared->Prop}
end
section
variable {X:Cx}
end
section
variable {κ:Type} [DecidableEq κ]
theorem Ko{kvs:List (κ×V)}{k:κ}{v:V}(h:kQ kvs k=some v):k∈kvs.map (·.1):=by
 have q:(kvs.any fun kv=>decide (kv.1=k))=true:=by
  rw[sU,h];all_goals rfl
 obtain⟨p,hp,e⟩:=vR.mp q;exact a9.mpr ⟨p,hp,c_ e⟩
end
section
variable {X:Cx}
end
theorem aI.Kp(I:aI X ae σ H s)(fe:gs X ae H e)(fi:gs X ae H it)(k:∀b o,b≠e->b≠it->s.heap.get? b=some o->h'.get? b=some o)(ke:∃o,h'.get? e=some o)(ki:∃o,h'.get? it=some o)(hp:s.heap.objs.size<=p)(hl:xs.length<=sizeLine)(r:aY xs its)(ht:h'.get? p=some { cls:=.type "tuple",data:=.seq its.toArray }):aI X ae σ (upd H p (.tup xs)) { s with heap:=h',toks:=t' }:=by
 have hn:=I.ck.fresh hp;obtain⟨e0,e1,e2,e3,e4,e5⟩:=fe;obtain⟨i0,i1,i2,i3,i4,i5⟩:=fi;have ne:∀b o,s.heap.get? b=some o->b≠p:=fun b o q=>aX (bK (aO q) hp);have Cq:∀b o,H b=some o->b≠e/\b≠it:=fun b o q=>⟨(fun z=>by rw[z,e0] at q;cases q),(fun z=>by rw[z,i0] at q;cases q)⟩
 refine I.step (g':=s.gens) (d':=s.drawn) (ch:=[e,it]) (fun b hb=>?_) (fun b o _ _ hb q _=>?_) (fun b o _ _ hb q _=>⟨o.slots,?_⟩) (fun b o hb q n=>by rw[al (ne b o q)];exact n) (fun b o hb q=>⟨o,?_⟩)
  (fun b ys q=>by rw[al (aq q hn)];exact q) (fun b o u q=>by rw[al (aq q hn)];exact q) (fun b ps q=>⟨#[],by rw[al (aq q hn),q];simp⟩) (fun m hm=>?_) (fun b o q=>?_) I.bare
 .rcases ba.mp hb with rfl|hb
  .exact⟨e3,e1,e4,e5⟩
  .rw[dL.mp hb];exact⟨i3,i1,i4,i5⟩
 .exact k b o (fun z=>hb (z ▸ bG)) (fun z=>hb (z ▸ bJ _ bG)) q
 .exact k b o (fun z=>hb (z ▸ bG)) (fun z=>hb (z ▸ bJ _ bG)) q
 .exact k b o (fun z=>hb (z ▸ bG)) (fun z=>hb (z ▸ bJ _ bG)) q
 .obtain⟨o,es,ep,q,d,r'⟩:=hm;exact⟨o,es,ep,k _ _ e1.symm i1.symm q,d,r'⟩
 .by_cases hb:b=p
  .subst hb;rw[ah] at q;cases q;exact⟨hl,its,r,_,ht,rfl,_,rfl,rfl⟩
  .rw[al hb] at q;refine(I.ck b o q).lL (fun c u hc z=>k c u ?_ ?_ z) (fun c z=>by rw[al (aq z hn)];exact z) fun c ys z=>by rw[al (aq z hn)];exact z
   .rcases hc with rfl|hc
    .exact(Cq _ _ q).1
    .exact(Cq _ _ hc).1
   .rcases hc with rfl|hc
    .exact(Cq _ _ q).2
    .exact(Cq _ _ hc).2
section
variable {X:Cx}
end
section
variable {prog:Program} {w:World} {A:Around} {E:Value->Shared->Prop} {s:Shared}
theorem sW(iJ:s.heap.IsTupleIter it t i)(ht:s.heap.IsTuple t xs)(hx:xs[i]?=some x)(q:∀h',h'.IsTupleIter it t (i+1)->Heap.SameBut it s.heap h'->Q x { s with heap:=h' }):wpAny (model prog w) A (Builtin.SmallTypes.nextOf (.ref it)) Q E s:=by
 obtain⟨o,h1,h2,h3⟩:=id iJ;obtain⟨p,k1,_,n,k3⟩:=ht;unfold Builtin.SmallTypes.nextOf;refine ak (lS (name:=Str.ofString "__next__") iJ.typeIs F.slot_tuple_iterator_next (h_ F.slot_tuple_iterator_next iJ.typeIs F.entry_tuple_iterator_next ?_ (F.args_tuple_iterator_next_1 _)));change wpAny _ _ (field (.ref it) 0 >>= _) _ _ s;refine ak (d0 h1 h3 (x:=.ref t) rfl ?_);change wpAny _ _ (if (Value.ref t==Value.none)=true then _ else _) _ _ s;rw[ap (by exact bq)];change wpAny _ _ (field (.ref it) 1 >>= _) _ _ s;refine ak (d0 h1 h3 (x:=.int i 0) rfl ?_);change wpAny _ _ (seqItems? (.ref t) >>= _) _ _ s;refine ak (kn k1 k3 ?_);simp only[mq,hx];refine ak (rS h1 h3 (by simp) (wpAny_pure ⟨x,rfl,wpAny_pure (q _ ?_ (vN ..))⟩));refine⟨_,oO _ h1 (zG (rH h3 _)),(z7 ..).trans h2,?_⟩;rw[rH h3];simp[rawInt]
theorem pN(hh:A.handled=none)(iJ:s.heap.IsTupleIter it t i)(ht:s.heap.IsTuple t xs)(hx:xs[i]?=none)(q:∀h' e,Heap.ExtBut it s.heap h'->(∃o,h'.get? e=some o/\o.cls=.type "StopIteration")->E (.ref e) { s with heap:=h' }):wpAny (model prog w) A (Builtin.SmallTypes.nextOf (.ref it)) Q E s:=by
 obtain⟨o,h1,h2,h3⟩:=id iJ;obtain⟨p,k1,_,n,k3⟩:=ht;unfold Builtin.SmallTypes.nextOf;refine ak (lS (name:=Str.ofString "__next__") iJ.typeIs F.slot_tuple_iterator_next (h_ F.slot_tuple_iterator_next iJ.typeIs F.entry_tuple_iterator_next ?_ (F.args_tuple_iterator_next_1 _)));change wpAny _ _ (field (.ref it) 0 >>= _) _ _ s;refine ak (d0 h1 h3 (x:=.ref t) rfl ?_);change wpAny _ _ (if (Value.ref t==Value.none)=true then _ else _) _ _ s;rw[ap (by exact bq)];change wpAny _ _ (field (.ref it) 1 >>= _) _ _ s;refine ak (d0 h1 h3 (x:=.int i 0) rfl ?_);change wpAny _ _ (seqItems? (.ref t) >>= _) _ _ s;refine ak (kn k1 k3 ?_);simp only[mq,hx];refine ak (wpAny_rule (ak (rS h1 h3 (by simp) ?stop)));case stop=>
  change wpAny _ _ (newExc (.type "StopIteration") [] >>= _) _ _ _;refine ak ?_;simp only[newExc,newTuple];refine ak (hZ (ak (m:=firstArgMember _ _) (fK (a:=Value.none) (by simp only[firstArgMember];rfl) (hZ ?_ (by size_fits)))) (by size_fits));simp only[raiseNew];refine ak (wpAny_handled ?_);rw[show A.in1.handled=none from hh];exact ak (wpAny_pure (wpAny_throw (q _ _ (fun b u hb z=>bz _ (bz _ ((rB _ _ (cj hb)).trans z))) ⟨_,b_ _ rfl,rfl⟩)))
theorem yc(hh:A.handled=none)(it t:Addr)(lN:t≠it)(xs:Array Value):Draws prog w A it [it,t] xs.size (fun i v=>xs[i]?=some v) (fun i h=>h.IsTupleIter it t i/\h.IsTuple t xs) where
 live:=fun _ _ st=>let ⟨o,ho,_⟩:=st.1;⟨o,ho⟩
 frame:=fun _ _ _ st hk=>⟨st.1.at fun o e=>hk it (by simp) o e,let ⟨o,e,r⟩:=st.2;⟨o,hk t (by simp) o e,r⟩⟩
 item:=fun i s Q E hi st q=>by
  refine sW st.1 st.2 (x:=xs[i]) (by simp[hi]) fun h' a b=>?_;obtain⟨o,e,r⟩:=st.2;exact q _ h' s.toks (by simp[hi]) ⟨a,o,(b.2 t lN).trans e,r⟩ b
 done:=fun s Q E st q=>pN hh st.1 st.2 (by simp) q
end
theorem DV(t:Addr)(xs:Array Value):
  Meets (Builtin.«enumerate.__new__» ⟨[.type "enumerate",.ref t],[]⟩) (fun _ R s=>s.heap.IsTuple t xs/\
   R (.ok (.ret (.ref (s.heap.push { cls:=.type "tuple_iterator",data:=.fields #[.ref t,.int 0 0] }).objs.size)))
    { s with heap:=(s.heap.push { cls:=.type "tuple_iterator",data:=.fields #[.ref t,.int 0 0] }).push { cls:=.type "enumerate",data:=.fields #[.none,.bool false,.ref s.heap.objs.size,rawInt 0,.none,.none] } }):=
 .of_wp fun prog w A R s h=>by
  obtain⟨hp,g,d,tk,os⟩:=s;obtain⟨hT,h⟩:=h;have hs:=sub_enumerate
  wp_walk
  refine wpAny_stack_any fun st=>wpAny_pure ?_;split
  .rename_i c _ _ _ _ _;cases (c==Value.type "enumerate") <;> (wp_walk using vP hT;exact⟨_,rfl,h⟩)
  .wp_walk using vP hT
   exact⟨_,rfl,h⟩
theorem AO(ht:s.heap.IsTuple t xs)(h:∀h',IsEnum h' (s.heap.objs.size+1) s.heap.objs.size 0 .none->h'.IsTupleIter s.heap.objs.size t 0->(∀b o,s.heap.get? b=some o->h'.get? b=some o)->Q (.ref (s.heap.objs.size+1)) { s with heap:=h' }):
  wpAny (model prog w) A (call (.type "enumerate") [.ref t]) Q E s:=by
 refine callType_new F.called_enumerate (by decide) (F.typeCall_enumerate_1 _) (F.newCall_enumerate_1 _) (fun obj=>F.args_object_init_2 obj _) F.entry_enumerate_new (DV t xs) ⟨ht,?_⟩;have hz:(s.heap.push { cls:=.type "tuple_iterator",data:=.fields #[.ref t,.int 0 0] }).objs.size=s.heap.objs.size+1:=ie ..;have he:IsEnum ((s.heap.push { cls:=.type "tuple_iterator",data:=.fields #[.ref t,.int 0 0] }).push
   { cls:=.type "enumerate",data:=.fields #[.none,.bool false,.ref s.heap.objs.size,rawInt 0,.none,.none] }) (s.heap.objs.size+1) s.heap.objs.size 0 .none:=by
  have q:=b_ (s.heap.push { cls:=.type "tuple_iterator",data:=.fields #[.ref t,.int 0 0] }) (o:={ cls:=.type "enumerate",data:=.fields #[.none,.bool false,.ref s.heap.objs.size,rawInt 0,.none,.none] }) rfl;rw[hz] at q;exact q
 show _/\_;rw[hz];exact⟨⟨_,he,rfl⟩,h _ he ⟨_,bz _ (b_ _ rfl),rfl,rfl⟩ fun b o x=>bz _ (bz _ x)⟩
def Os(K:PySem.W.Frag)(a:Addr):It:=
 ⟨fun i H=>∃xs x,bp K H a xs/\xs[i]?=some x,fun i H x H'=>∃p v,x=.ref p/\H p=none/\H'=upd H p (.tup [.int i,v])/\∀xs,bp K H a xs->xs[i]?=some v,fun i H=>∃xs,bp K H a xs/\xs.length<=i,fun _ _=>False⟩
theorem AQ{P:Program}{w:World}{K:PySem.W.Frag}{es:List Expr}{x1:Nat}{pos:Pos}(a e it:Addr)(lN:e≠it)(hae:a≠e)(hai:a≠it):
  qm P w K (.Tuple es x1 pos) (Os K a) [e,it] e (fun i h=>(∃mJ,IsEnum h e it (i:Int) mJ)/\h.IsTupleIter it a i) where
 mem:=by simp
 obj:=fun i h st b hb=>by
  obtain⟨⟨mJ,he⟩,⟨o,q,c,d⟩⟩:=st;rcases ba.mp hb with rfl|hb
  .exact⟨_,he,fun v z=>by
    have z':Data.fields _=Data.cell v:=z;cases z'⟩
  .rw[dL.mp hb];exact⟨o,q,fun v z=>by rw[d] at z;cases z⟩
 keep:=fun i h h' st k=>by
  obtain⟨⟨mJ,he⟩,hi⟩:=st;exact⟨⟨mJ,k e (by simp) _ he⟩,hi.at fun o q=>k it (by simp) o q⟩
 item:=by
  intro X hP hw hK i ae s σ H E ux I hf st hg;subst hP hw hK;have hc:X.calm=true:=ux.elim id fun z=>(show False from z).elim;obtain⟨xs,x,hq,hx⟩:=hg;obtain⟨its,rv,p,hz⟩:=I.tuple hq;obtain⟨u,hu,ru⟩:=rv.get hx;obtain⟨⟨mJ,he⟩,hi⟩:=st;have dt:i<its.toArray.size:=by
   have:=(dk.mp hu).1;simpa using this
  have D:=yc (prog:=X.prog) (w:=X.w) (A:=X.A.in1) (I.ok.hd hc) it a hai its.toArray;refine wpAny_pyNext_enum_itemD D he ⟨hi,p⟩ dt lN (by simp[lN,hae.symm]) fun u' h' tk Cc ho iD ht hsz k=>?_;have eu:u'=u:=by
   have h1:its.toArray[i]?=some u:=by simpa using hu
   rw[h1] at Cc;exact(a8 Cc).symm
  subst eu;refine⟨_,rfl,wpAny_letOwnedTupleGo_enum ho fun h2 he2 ww=>?_⟩;have hpe:s.heap.objs.size≠e:=gw (aO he);have AC:h2.IsTupleIter it a (i+1):=iD.1.at fun o q=>(ww.2 it lN.symm).trans q;have fe:=hf e (by simp);have fi:=hf it (by simp);have I2:aI X ae σ (upd H s.heap.objs.size (.tup [.int i,x])) { s with heap:=h2,toks:=tk+1 }:=by
   refine I.Kp (its:=[.int i tk,u']) fe fi (fun b o h1 h3 q=>(ww.2 b h1).trans (k b o h1 h3 q)) ⟨_,he2⟩ ?_ (aW _) (by show 2<=sizeLine;decide) (.cons ⟨_,rfl⟩ (.cons ru .nil)) ((ww.2 _ hpe).trans ht);obtain⟨o,q,_⟩:=AC;exact⟨o,q⟩
  refine⟨.ref s.heap.objs.size,_,I2,rfl,⟨_,x,rfl,I.ck.fresh (aW _),rfl,fun ys hy=>by rw[I.g_ hy hq];exact hx⟩,⟨⟨u',he2⟩,AC⟩,fun b hb=>?_⟩;have f0:=(hf b hb).1;rw[al]
  .exact f0
  .rcases ba.mp hb with rfl|hb
   .exact hpe.symm
   .rw[dL.mp hb];obtain⟨o,q,_⟩:=hi;exact aX (aO q)
 done:=by
  intro X hP hw hK i ae s σ H E ux I hf st hg;subst hP hw hK;have hc:X.calm=true:=ux.elim id fun z=>(show False from z).elim;obtain⟨xs,hq,hx⟩:=hg;obtain⟨its,rv,p,hz⟩:=I.tuple hq;obtain⟨f0,f1,f2,f3,f4,f5⟩:=hf it (by simp);obtain⟨⟨mJ,he⟩,hi⟩:=st;have hl:=rv.length;unfold pyNext;have hT:s.TypeIs (.ref e) "enumerate":=⟨_,he,rfl⟩
  refine ak (mB (lS (name:=Str.ofString "__next__") hT F.slot_enumerate_next (h_ F.slot_enumerate_next hT F.entry_enumerate_next ?_ (F.args_enumerate_next_1 _))));change wpAny _ _ (field (.ref e) 2 >>= _) _ _ _;refine ak (d0 he rfl (x:=.ref it) rfl (ak (pN (I.ok.hd hc) hi p (by simp;lia) fun h' x eb jw=>?_)));obtain⟨o,ho,Ay⟩:=jw;exact ak (rN (T:="StopIteration") (b:=true) ⟨o,ho,Ay⟩ v_ (wpAny_pure ⟨rfl,I.turned (t':=s.toks) (fun b o hb e=>eb b o hb e) f0 f1 f3 f4 f5⟩))
 self:=fun _ _ _ _ _ st h=>by
  obtain⟨⟨mJ,he⟩,_⟩:=st;exact wpAny_pyIter_enum he h
section
variable {X:Cx}
def Ot(K:PySem.W.Frag)(ta:TA):TI:=fun σ H R=>ta σ H fun vs H1=>∃a xs,vs=[.ref a]/\bp K H1 a xs/\R (Os K a) H1
theorem GJ(hg:Gl X "enumerate")(hm:X.mg "enumerate"=none)(ha:PA X [a] ta)(hs:starEach [a] X.env=[(false,eval a X.env)]:=by rfl):
  PI X (.Tuple es x1 Dt) (.Call (.Name "enumerate" p) [a] [] pos) (Ot X.K ta):=by
 intro ae s σ H R I h;refine Call_ (kH I hg hm (by decide +kernel:bootBuiltins "enumerate"=some (.type "enumerate")) (rf (cz (ha pos ae s σ H _ I h) fun us s1 ⟨vs,H1,I1,r1,q1⟩=>?_) hs rfl));obtain⟨l,xs,rfl,hl,q⟩:=q1;obtain⟨u1,rfl,XJ⟩:=r1.one;obtain rfl:u1=Value.ref l:=XJ;obtain⟨its,rv,pt,hz⟩:=I1.tuple hl;have dt:l<s1.heap.objs.size:=by obtain⟨o,e,_⟩:=pt;exact aO e
 refine AO (show s1.heap.IsTuple l its.toArray from pt) fun h' he hi k=>?_;have lN:s1.heap.objs.size+1≠s1.heap.objs.size:=Nat.succ_ne_self _;refine wpAny_pyIter_enum he ?_;have I2:aI X ae σ H1 { s1 with heap:=h' }:=I1.kept (t':=s1.toks) k;refine⟨s1.heap.objs.size+1,[s1.heap.objs.size+1,s1.heap.objs.size],_,_,H1,rfl,I2,AQ l _ _ lN (aX (dZ dt)) (aX dt),⟨⟨_,he⟩,hi⟩,fun b hb=>?_,q⟩;have jW:s1.heap.objs.size<=b:=by
  rcases ba.mp hb with rfl|hb
  .exact Nat.le_succ _
  .rw[dL.mp hb];exact aW _
 exact I1.wr jW (I1.ck.fresh jW)
theorem AR{K:PySem.W.Frag}{a D:Addr}{xs:List V}{g:TG}{tt:TT}{te:TE}{fin:Hp->Prop}{σB:St}{H0:Hp}(Pv:Nat->List V->St->Hp->Prop)(h0:Pv 0 [] σB H0)(hl:∀i ys σ H,i<=xs.length->Pv i ys σ H->bp K H a xs)(hs:∀i x p ys σ H (Kt:V->St->Hp->Prop) (Kf:St->Hp->Prop),xs[i]?=some x->Pv i ys σ H->H p=none->
   (∀v σ2 H4,H4 D=some (.lst ys)->ys.length<sizeLine->Pv (i+1) (ys++[v]) σ2 (upd H4 D (.lst (ys++[v])))->Kt v σ2 H4)->(∀σ2 H3,Pv (i+1) ys σ2 H3->Kf σ2 H3)->
   g (.ref p) σ (upd H p (.tup [.int i,x])) fun σ2 H2=>tt σ2 H2 fun b H3=>if b=true then te σ2 H3 fun v H4=>Kt v σ2 H4 else Kf σ2 H3)(hd:∀ys σ H,Pv xs.length ys σ H->fin H):gR (Os K a) g tt te D fin σB H0:=by
 refine⟨fun i m σ H=>m=xs.length-i/\i<=xs.length/\∃ys,Pv i ys σ H,⟨xs.length,by simp,cF _,[],h0⟩,?_⟩;rintro i m σ H ⟨rfl,hi,ys,p⟩;have q:=hl i ys σ H hi p;by_cases dt:i<xs.length
 .refine .inr ⟨⟨xs,xs[i],q,by simp[dt]⟩,?_⟩;rintro x H' ⟨pp,v,rfl,hn,rfl,hv⟩;exact hs i v pp ys σ _ (fun v σ2 H4=>∃ys,H4 D=some (.lst ys)/\ys.length<sizeLine/\∃m',m'<xs.length-i/\m'=xs.length-(i+1)/\i+1<=xs.length/\∃pL,Pv (i+1) pL σ2 (upd H4 D (.lst (ys++[v]))))
   (fun σ2 H3=>∃m',m'<xs.length-i/\m'=xs.length-(i+1)/\i+1<=xs.length/\∃pL,Pv (i+1) pL σ2 H3) (hv xs q) p hn
   (fun v σ2 H4 z1 z2 z3=>⟨ys,z1,z2,_,by lia,rfl,dt,_,z3⟩) (fun σ2 H3 z=>⟨_,by lia,rfl,dt,_,z⟩)
 .have e:i=xs.length:=by lia
  subst e;exact .inl ⟨⟨xs,q,aW _⟩,hd ys σ H p⟩
end
theorem aI.freeze{X:Cx}{ae:List (Addr×Obj)}{σ:St}{H:Hp}{s:Shared}{d:Addr}{u:HO}{o:Obj}(I:aI X ae σ H s)(hd:H d=some u)(ho:s.heap.get? d=some o)(hu:(∀xs,u≠.tup xs)/\(∀o v,u≠.mK o v)/\(∀ps,u≠.qJ ps)/\(∀x,u≠.own x)):
  aI X ae σ (upd H d (.mK o u)) s:=by
 have ok:kC X.prog X.w (upd H d (.mK o u)) s.heap:=fun b v e=>by
  have st:∀ {b v},cf X.prog X.w H s.heap b v->cf X.prog X.w (upd H d (.mK o u)) s.heap b v:=fun {b v} x=>
   x.lL (fun _ _ _ q=>q) (fun c q=>by rw[al (fun z=>by rw[z,hd] at q;exact hu.2.2.2 _ (a8 q))];exact q) fun c xs q=>by rw[al (fun z=>by rw[z,hd] at q;exact hu.1 _ (a8 q))];exact q
  by_cases hb:b=d
  .subst hb;rw[ah] at e;cases e;exact⟨ho,st (I.ck b u hd)⟩
  .rw[al hb] at e;exact st (I.ck b v e)
 have r:=I.step (h':=s.heap) (H':=upd H d (.mK o u)) (g':=s.gens) (t':=s.toks) (d':=s.drawn) (ch:=[]) (fun _ z=>absurd z (by simp)) (fun b o' _ _ _ q _=>q) (fun b o' _ _ _ q _=>⟨o'.slots,q⟩)
  (fun b o' _ q n=>by rw[al (fun z=>by rw[z,hd] at n;cases n)];exact n) (fun b o' _ q=>⟨o',q⟩)
  (fun b xs q=>by rw[al (fun z=>by rw[z,hd] at q;exact hu.1 _ (a8 q))];exact q) (fun b o' v q=>by rw[al (fun z=>by rw[z,hd] at q;exact hu.2.1 _ _ (a8 q))];exact q)
  (fun b ps q=>⟨#[],by rw[al (fun z=>by rw[z,hd] at q;exact hu.2.2.1 _ (a8 q)),q];simp⟩) (fun m hm=>hm) ok I.bare
 exact r
def Wa(d:Addr)(o:Obj)(kvs:List (fL×V)):It:=
 ⟨fun i H=>H d=some (.mK o (.dK kvs))/\i<kvs.length,fun i H x H'=>H'=H/\∃k v,kvs[i]?=some (k,v)/\x=kV k,fun i H=>H d=some (.mK o (.dK kvs))/\kvs.length<=i,fun _ _=>False⟩
theorem Kq{P:Program}{w:World}{k:fL}{u:Value}(h:(dF P w).is k u=true):bD (kV k) u:=by
 cases k with
 |inl i=>
  have h':Value.isInt i u=true:=h;cases u <;> simp[Value.isInt] at h' <;> try exact h'.elim
  all_goals first|(subst h';exact⟨_,rfl⟩)|(rw[<-h'];exact⟨_,rfl⟩)|(rw[h'];exact⟨_,rfl⟩)
 |inr x=>
  have h':Value.isStrOf x u=true:=h;cases u <;> simp[Value.isStrOf] at h' <;> try exact h'.elim
  all_goals first|(subst h';exact⟨_,rfl⟩)|(rw[<-h'];exact⟨_,rfl⟩)|(rw[h'];exact⟨_,rfl⟩)
theorem DW{P:Program}{w:World}{K:PySem.W.Frag}{tg:Expr}(d it:Addr)(o:Obj)(kvs:List (fL×V))(es:Array DictEntry)(ep:Nat)(Kr:o.data=.dict es ep):
  qm P w K tg (Wa d o kvs) [it] it (fun i h=>h.IsKeyIter it d i kvs.length ep) where
 mem:=by simp
 obj:=fun i h st b hb=>by
  have e:b=it:=by simpa using hb
  subst e;obtain⟨o,e,c,d⟩:=st;exact⟨o,e,fun v z=>by rw[d] at z;cases z⟩
 keep:=fun i h h' st k=>st.at fun o e=>k it (by simp) o e
 item:=by
  intro X hP hw hK i ae s σ H E ux I hf st hg;subst hP hw hK;have hc:X.calm=true:=ux.elim id fun z=>(show False from z).elim;obtain⟨hd,hi⟩:=hg;obtain⟨ho,z,hS,vs,kv,ob,es',QV,g1,g2,g3,g4,g5,g6⟩:=I.ck d _ hd;rw[ho] at g1;cases g1;rw[Kr] at g3;cases g3;have hm:s.heap.DictAt (dF X.prog X.w) d vs ep:=⟨o,es,ho,g2,Kr,g4,g5,g6⟩
  have de:=kv.length;obtain⟨f0,f1,f2,f3,f4,f5⟩:=hf it (by simp);have E8:i<vs.length:=by lia
  obtain⟨⟨k,v⟩,hv⟩:∃p,vs[i]?=some p:=⟨_,cU E8⟩
  refine wpAny_pyNext_dict_item (by rw[<-de];exact st) hm hv fun key h' hk bg sb=>?_;have I1:aI X ae σ H { s with heap:=h' }:=I.turned (t':=s.toks) (fun b o hb e=>(sb.2 b hb).trans e) f0 f1 f3 f4 f5;obtain⟨oi,ei,ci,di⟩:=id bg;have Ra:(kvs.map (·.1))[i]?=some k:=by rw[kv.keys,bL,hv];rfl
  obtain⟨p,hp,hpk⟩:∃p,kvs[i]?=some p/\p.1=k:=by
   rw[bL] at Ra;cases q:kvs[i]? with
   |none=>rw[q] at Ra;cases Ra
   |some p=>rw[q] at Ra;exact⟨p,rfl,a8 Ra⟩
  refine⟨key,rfl,xJ (s:={ s with heap:=h' }) ei ci di (by decide) ⟨kV k,H,I1,Kq hk,⟨rfl,k,p.2,by rw[hp,<-hpk],rfl⟩,by rw[de];exact bg,fun b hb=>(hf b hb).1⟩⟩
 done:=by
  intro X hP hw hK i ae s σ H E ux I hf st hg;subst hP hw hK;have hc:X.calm=true:=ux.elim id fun z=>(show False from z).elim;obtain⟨hd,hi⟩:=hg;obtain⟨ho,z,hS,vs,kv,ob,es',QV,g1,g2,g3,g4,g5,g6⟩:=I.ck d _ hd;rw[ho] at g1;cases g1;rw[Kr] at g3;cases g3;have hm:s.heap.DictAt (dF X.prog X.w) d vs ep:=⟨o,es,ho,g2,Kr,g4,g5,g6⟩
  have de:=kv.length;obtain⟨f0,f1,f2,f3,f4,f5⟩:=hf it (by simp);exact wpAny_pyNext_dict_end (I.ok.hd hc) (by rw[<-de];exact st) hm (gN (by lia)) fun h' eb=>⟨rfl,I.turned (t':=s.toks) (fun b o hb e=>eb b o hb e) f0 f1 f3 f4 f5⟩
 self:=fun _ _ _ _ _ st h=>wpAny_pyIter_keyiter st h
section
variable {X:Cx} {tg:Expr}
end
section
variable {prog:Program} {w:World} {A:Around} {E:Value->Shared->Prop} {s:Shared} {R:Result->Shared->Prop} {l d Ia:Addr}
end
section
variable {prog:Program} {w:World} {A:Around} {E:Value->Shared->Prop} {s:Shared} {l:Addr}
end
section
variable {X:Cx}
def Ks:V->List V->Hp->VK->Prop:=fun x vs H Q=>∃ (l:Addr) (ns:List Int) (z:Int),x=.ref l/\vs=[.int z]/\H l=some (.lst (ns.map V.int))/\z∈ns/\Q .bR (upd H l (.lst ((ns.eraseIdx (ns.idxOf z)).map V.int)))
theorem ints_of:∀ {ns:List Int} {its:List Value},aY (ns.map V.int) its->∀i (h:i<its.length) (h':i<ns.length),∃t,its[i]=Value.int ns[i] t
 |[],_,.nil,i,h,_=>by simp at h
 |n::ns,_,.cons ⟨t,e⟩ r,0,_,_=>⟨t,e⟩
 |n::ns,_,.cons _ r,i+1,h,h'=>ints_of r i (by simpa using h) (by simpa using h')
def isI(z:Int)(v:Value):Bool:=match v with
 |.int y _=>y==z
 |_=>false
theorem u4:MtM X "list.remove" Ks:=by
 intro ae s σ H x vs v us Q I rx rv h;obtain⟨l,ns,z,rfl,rfl,hH,hz,q⟩:=h;cases rx;obtain⟨u,rfl,ru⟩:=rv.one;obtain⟨t,rfl⟩:=ru;obtain⟨zz,its,n,r,hl,e⟩:=I.J5 hH;have de:its.length=ns.length:=by have:=r.length;rw[aP] at this;exact this.symm
 have hj:ns.idxOf z<ns.length:=List.idxOf_lt_length_iff.mpr hz;have at_:∀i (h:i<its.length),∃t,its[i]=Value.int (ns[i]'(by lia)) t:=fun i h=>ints_of r i h (by lia);refine call_meets F.slot_list_remove ⟨_,e,rfl⟩ F.entry_list_remove (F.args_list_remove_2 _ _)
  (MeetsSeq.list_remove l its.toArray n (.int z t) (isI z) (fun y hy=>?_) (ns.idxOf z) (by simpa [de] using hj) ?_ (fun m hm dt=>?_) (by rw[cV,de];rw[aP] at zz;exact zz)) ⟨e,?_⟩
 .obtain⟨i,hi,rfl⟩:=rC.mp (show y∈its by simpa using hy);obtain⟨t',e'⟩:=at_ i hi;rw[e'];exact MeetsSeq.EqGives.int _ _ _ _
 .obtain⟨t',e'⟩:=at_ (ns.idxOf z) (by lia);have e2:its.toArray[ns.idxOf z]'(by simpa [de] using hj)=its[ns.idxOf z]'(by lia):=by simp
  rw[e2,e'];show (ns[ns.idxOf z]==z)=true;rw[List.getElem_idxOf];simp
 .obtain⟨t',e'⟩:=at_ m (by simpa using hm);have e2:its.toArray[m]=its[m]'(by simpa using hm):=by simp
  rw[e2,e'];show (ns[m]==z)=false;have:=List.not_of_lt_findIdx (p:=(·==z)) (xs:=ns) (i:=m) dt;simpa using this
 .refine⟨.bR,_,I.Se (its':=its.eraseIdx (ns.idxOf z)) hH e ?_ ?_ ?_,rfl,q⟩
  .show its.toArray.eraseIdxIfInBounds _=_;rw[List.eraseIdxIfInBounds_toArray]
  .have em:∀ (l:List Int) (j:Nat),(l.eraseIdx j).map V.int=(l.map V.int).eraseIdx j:=by
    intro l;induction l with
    |nil=>intro j;rfl
    |cons y l ih=>
     intro j;cases j with
     |zero=>rfl
     |succ j=>simp only[List.eraseIdx_cons_succ,fg,ih]
   rw[em];exact r.eraseIdx _
  .rw[aP,List.length_eraseIdx];rw[aP] at zz;split <;> lia
end
structure cq(P:Program)(w:World)(K:PySem.W.Frag)(mg:Str->Option Value)(base:Heap)(CX:xB)(k:Nat)(x:Str)(ps:List Str)(sp:Sp):Prop where
 ex:∃f fd,mg x=some (.ref f)/\PySem.W.keepIn K (.ref f)=true/\jg K fd ps []/\bn P w K mg base CX k f fd ps sp
theorem az(C:cq X.prog X.w X.K X.mg X.base CX k x ps sp)(hr:bA k X.A)(hx:i8 CX X E)(ha:PA X (e::es) t)(hg:Gl X x:=by rfl)(Dz:(x==("__debug__":Str))=false:=by decide)(he:starEach (e::es) X.env=(false,eval e X.env)::starEach es X.env:=by rfl)(uJ:(backTo pos (starEach es X.env)).any (·.1)=false:=by rfl):
  PE X (.Call (.Name x p) (e::es) [] pos) (nV sp [] E t):=by
 obtain⟨f,fd,a,b,c,d⟩:=C.ex;exact J2 d hr hg a b c .nil hx ha Dz he uJ
theorem ao(h:H D=none):aA H (upd H D o):=fun b u e=>by rw[al (aq e h)];exact e
def cx(p:Addr)(H H':Hp):Prop:=∀b o,H b=some o->b≠p->H' b=some o
theorem cx.trans(a:cx p H H1)(b:cx p H1 H2):cx p H H2:=fun c o h n=>b c o (a c o h n) n
theorem cx.upd:cx p H (upd H p o):=fun b u h n=>by rw[al n];exact h
theorem cx.of(s:aA H H'):cx p H H':=fun b o h _=>s b o h
theorem cx.free(s:cx p H H')(hp:H' p≠none)(h:H' q=none):H q=none:=by
 cases z:H q with
 |none=>rfl
 |some o=>
  by_cases e:q=p
  .subst e;exact absurd h hp
  .rw[s q o z e] at h;cases h
theorem iN(h:j<n):E3 n (j:Int)=some j:=by
 unfold E3;rw[ai (by lia),ai (by lia)];simp
theorem DX(h:as.length=n):(as++[t]).getD j 0=if j=n then t else as.getD j 0:=by
 rw[cr,cr];by_cases hj:j=n
 .subst hj;subst h;rw[ai rfl,re (aW _),rT];rfl
 .rw[ap hj];by_cases dt:j<as.length
  .rw[nI dt]
  .rw[re (by lia),gN (by simp;lia),gN (by lia)]
def Holds(H:Hp)(as:List Addr)(n:Nat)(o:Nat->HO):Prop:=as.length=n/\∀j,j<n->H (as.getD j 0)=some (o j)
theorem Holds.nil:Holds H [] 0 o:=⟨rfl,fun j hj=>absurd hj (by lia)⟩
theorem Holds.snoc(h:Holds H as n o)(ht:H t=some (o n)):Holds H (as++[t]) (n+1) o:=by
 refine⟨by rw[dY,h.1];rfl,fun j hj=>?_⟩;rw[DX h.1];by_cases e:j=n
 .rw[ai e,e];exact ht
 .rw[ap e];exact h.2 j (by lia)
theorem Holds.mono(h:Holds H as n o)(e:∀j,j<n->H (as.getD j 0)=some (o j)->H' (as.getD j 0)=some (o j)):Holds H' as n o:=⟨h.1,fun j hj=>e j hj (h.2 j hj)⟩
end L2
namespace PyProof.Rows
open PySem
def iO:Bool->Keyed->Array Keyed->Nat->Nat->Nat->StateT SortSt Sem (Option Nat):=sortPriv% PySem.Builtin.gallop
def sX:Array Keyed->Array Keyed->StateT SortSt Sem (Array Keyed):=sortPriv% PySem.Builtin.mergeLo
def sY:Array Keyed->Array Keyed->StateT SortSt Sem (Array Keyed):=sortPriv% PySem.Builtin.mergeHi
def i_:Nat->StateT SortSt Sem Unit:=sortPriv% PySem.Builtin.setMinGallop
def yd(prog:Program)(w:World)(A:Around)(s:Shared)(κ:SortKind)(a₀:Array Keyed):Prop:=
 ∀x y,x∈a₀.toList->y∈a₀.toList->∀ (Q:Bool->Shared->Prop) (E:Value->Shared->Prop),(∀b,Q b s)->wpAny (model prog w) A (keyLt' κ x.1 y.1) Q E s
structure SQ(κ:SortKind)(a₀:Array Keyed)(pd:Array (Nat×Nat×Nat))(st:SortSt):Prop where
 perm:(arrOf st).Perm a₀
 kind:kindOf st=κ
 failed:failedOf st=none
 pend:pendingOf st=pd
section
variable {prog:Program} {w:World} {A:Around} {E:Value->Shared->Prop} {s:Shared} {κ:SortKind} {a₀:Array Keyed} {pd:Array (Nat×Nat×Nat)}
theorem SQ.size{st:SortSt}(h:SQ κ a₀ pd st):(arrOf st).size=a₀.size:=h.perm.size_eq
theorem SQ.setArr{st:SortSt}(h:SQ κ a₀ pd st){xs:Array Keyed}(hp:xs.Perm (arrOf st)):SQ κ a₀ pd (setArr st xs):=⟨hp.trans h.perm,h.kind,h.failed,h.pend⟩
theorem SQ.at{st:SortSt}(h:SQ κ a₀ pd st){i:Nat}(hi:i<a₀.size):∃p,(arrOf st)[i]?=some p/\p∈a₀.toList:=by
 have E8:i<(arrOf st).size:=by rw[h.size];exact hi
 exact⟨(arrOf st)[i],dM _ i E8,(nG.mp h.perm).mem_iff.mp (by simp)⟩
theorem sZ{st:SortSt}{x y:Keyed}{Q:Option Bool->SortSt->Prop}(hC:yd prog w A s κ a₀)(hk:kindOf st=κ)(hx:x∈a₀.toList)(hy:y∈a₀.toList)(h:∀b,Q (some b) st):wpS (model prog w) A E s (lt' x y) Q st:=by
 rw[lt'_eq];refine av (io ?_);rw[hk];refine av (mG (mB (hC x y hx hy _ _ fun b=>⟨rfl,?_⟩)));exact aM (h b)
theorem bw{st:SortSt}{arr:Array Keyed}{i:Nat}{p:Keyed}{Q:Keyed->SortSt->Prop}(hi:arr[i]?=some p)(h:Q p st):wpS (model prog w) A E s (elem' arr i) Q st:=by
 rw[elem'_eq,hi];exact aM h
theorem fm{st:SortSt}{i j:Nat}{Q:Option Bool->SortSt->Prop}(hC:yd prog w A s κ a₀)(hB:SQ κ a₀ pd st)(hi:i<a₀.size)(hj:j<a₀.size)(h:∀b,Q (some b) st):wpS (model prog w) A E s (ltAt' i j) Q st:=by
 obtain⟨p,e1,m1⟩:=hB.at hi;obtain⟨q,e2,m2⟩:=hB.at hj;rw[ltAt'_eq];refine av (io ?_);exact av (bw e1 (av (bw e2 (sZ hC hB.kind m1 m2 h))))
theorem gX{st:SortSt}{i j:Nat}{Q:Unit->SortSt->Prop}(hB:SQ κ a₀ pd st)(h:∀bg,SQ κ a₀ pd bg->Q () bg):wpS (model prog w) A E s (reverseSlice' i j) Q st:=by
 rw[reverseSlice'_eq];exact gC (h _ (hB.setArr (mirror_perm _ _ _ _)))
theorem GK{st:SortSt}{i j:Nat}{Q:Unit->SortSt->Prop}(hB:SQ κ a₀ pd st)(h:∀bg,SQ κ a₀ pd bg->Q () bg):wpS (model prog w) A E s (moveDown' i j) Q st:=by
 rw[moveDown'_eq];exact gC (h _ (hB.setArr (bubble_perm _ _ _)))
theorem Ku{st:SortSt}{lo n ok:Nat}{Q:Bool->SortSt->Prop}(hC:yd prog w A s κ a₀)(hn:lo+n<=a₀.size)(hB:SQ κ a₀ pd st)(h:∀bg,SQ κ a₀ pd bg->Q true bg):wpS (model prog w) A E s (binarySort' lo n ok) Q st:=by
 rw[binarySort'_eq];refine av (dW (fG (I:=fun _ c bg=>c=(none,())/\SQ κ a₀ pd bg) (Q:=fun c bg=>c=(none,())/\SQ κ a₀ pd bg) ?_ (fun c bg hh=>hh) ⟨rfl,hB⟩) ?_)
 .rintro k c bg Ra hk2 ⟨rfl,XM⟩;dsimp only;refine av (dW (fG (I:=fun _ c Ou=>(∃l r,c=(none,l,r)/\r<=k)/\SQ κ a₀ pd Ou) (Q:=fun c Ou=>(∃l r,c=(none,l,r)/\r<=k)/\SQ κ a₀ pd Ou) ?_ (fun c bg hh=>hh) ⟨⟨_,_,rfl,aW _⟩,XM⟩) ?_)
  .rintro x c oC _ _ ⟨⟨l,r,rfl,hr⟩,uA⟩;dsimp only;by_cases Cr:l>=r
   .rw[ai Cr];exact aM ⟨⟨_,_,rfl,hr⟩,uA⟩
   .rw[ap Cr];refine av (fm hC uA (by lia) (by lia) fun b=>?_);cases b
    .exact aM ⟨⟨_,_,rfl,hr⟩,uA⟩
    .exact aM ⟨⟨_,_,rfl,by lia⟩,uA⟩
  .rintro c oC ⟨⟨l,r,rfl,hr⟩,uA⟩;dsimp only;exact av (GK uA fun xA qv=>aM ⟨rfl,qv⟩)
 .rintro c bg ⟨rfl,XM⟩;exact aM (h bg XM)
end
theorem AU(left:Bool)(key:Keyed)(arr:Array Keyed)(base n hint:Nat):iO left key arr base n hint=(do
 let wI (i:Nat):StateT SortSt Sem (Option Bool):=do
  let x <- elem' arr (base+i)
  if left then lt' x key else return (<-lt' key x).map (!·)
 let mut lastofs:=0
 let mut ofs:=1
 let mut lo:=0
 let mut hi:=0
 let some right <- wI hint|return none
 if right then
  let s_:=n-hint
  for _ in [0:n] do
   if ofs>=s_ then break
   let some more <- wI (hint+ofs)|return none
   if !more then break
   lastofs:=ofs
   ofs:=2*ofs+1
  lo:=hint+lastofs+1
  hi:=hint+min ofs s_
 else
  let s_:=hint+1
  for _ in [0:n] do
   if ofs>=s_ then break
   let some found <- wI (hint-ofs)|return none
   if found then break
   lastofs:=ofs
   ofs:=2*ofs+1
  lo:=hint+1-min ofs s_
  hi:=hint-lastofs
 for _ in [0:n] do
  if lo>=hi then break
  let m:=lo+(hi-lo) / 2
  let some more <- wI m|return none
  if more then lo:=m+1 else hi:=m
 return some hi):=rfl
section
variable {prog:Program} {w:World} {A:Around} {E:Value->Shared->Prop} {s:Shared} {κ:SortKind} {a₀:Array Keyed} {pd:Array (Nat×Nat×Nat)}
theorem iz{st:SortSt}{left:Bool}{key:Keyed}{arr:Array Keyed}{j:Nat}{Q:Option Bool->SortSt->Prop}(hC:yd prog w A s κ a₀)(hk:kindOf st=κ)(nU:key∈a₀.toList)(pO:∀x∈arr.toList,x∈a₀.toList)(hj:j<arr.size)(h:∀b,Q (some b) st):
  wpS (model prog w) A E s (do
  let x <- elem' arr j
  if left then lt' x key else return (<-lt' key x).map (!·)) Q st:=by
 have hm:arr[j]∈a₀.toList:=pO _ (by simp);refine av (bw (dM arr j hj) ?_);cases left
 .rw[ap (by decide)];exact av (sZ hC hk nU hm fun b=>aM (h (!b)))
 .rw[ai rfl];exact sZ hC hk hm nU h
theorem fQ{st:SortSt}{left:Bool}{key:Keyed}{arr:Array Keyed}{base n hint:Nat}{Q:Option Nat->SortSt->Prop}(hC:yd prog w A s κ a₀)(hk:kindOf st=κ)(nU:key∈a₀.toList)(pO:∀x∈arr.toList,x∈a₀.toList)(hn:base+n<=arr.size)(hh:hint<n)(h:∀k,k<=n->Q (some k) st):wpS (model prog w) A E s (iO left key arr base n hint) Q st:=by
 rw[AU];refine av (iz hC hk nU pO (by lia) fun right=>?_);cases right
 .dsimp only;rw[ap (by decide)];refine av (dW (fG (I:=fun _ c bg=>(∃l o,c=(none,l,o))/\st=bg) (Q:=fun c bg=>(∃l o,c=(none,l,o))/\st=bg) ?_ (fun c bg hh=>hh) ⟨⟨_,_,rfl⟩,rfl⟩) ?_)
  .rintro x c bg _ _ ⟨⟨l,o,rfl⟩,rfl⟩;dsimp only;by_cases Cr:o>=hint+1
   .rw[ai Cr];exact aM ⟨⟨_,_,rfl⟩,rfl⟩
   .rw[ap Cr];refine av (iz hC hk nU pO (by lia) fun found=>?_);cases found
    .exact aM ⟨⟨_,_,rfl⟩,rfl⟩
    .exact aM ⟨⟨_,_,rfl⟩,rfl⟩
  .rintro c bg ⟨⟨l,o,rfl⟩,rfl⟩;dsimp only;refine av (dW (fG (I:=fun _ c bg=>(∃l u,c=(none,l,u)/\u<=n)/\st=bg) (Q:=fun c bg=>(∃l u,c=(none,l,u)/\u<=n)/\st=bg) ?_ (fun c bg hh=>hh) ⟨⟨_,_,rfl,by lia⟩,rfl⟩) ?_)
   .rintro x c bg _ _ ⟨⟨l,u,rfl,hu⟩,rfl⟩;dsimp only;by_cases Cr:l>=u
    .rw[ai Cr];exact aM ⟨⟨_,_,rfl,hu⟩,rfl⟩
    .rw[ap Cr];refine av (iz hC hk nU pO (by lia) fun more=>?_);cases more
     .exact aM ⟨⟨_,_,rfl,by lia⟩,rfl⟩
     .exact aM ⟨⟨_,_,rfl,hu⟩,rfl⟩
   .rintro c bg ⟨⟨l,u,rfl,hu⟩,rfl⟩;exact aM (h u hu)
 .dsimp only;rw[ai rfl];refine av (dW (fG (I:=fun _ c bg=>(∃l o,c=(none,l,o))/\st=bg) (Q:=fun c bg=>(∃l o,c=(none,l,o))/\st=bg) ?_ (fun c bg hh=>hh) ⟨⟨_,_,rfl⟩,rfl⟩) ?_)
  .rintro x c bg _ _ ⟨⟨l,o,rfl⟩,rfl⟩;dsimp only;by_cases Cr:o>=n-hint
   .rw[ai Cr];exact aM ⟨⟨_,_,rfl⟩,rfl⟩
   .rw[ap Cr];refine av (iz hC hk nU pO (by lia) fun more=>?_);cases more
    .exact aM ⟨⟨_,_,rfl⟩,rfl⟩
    .exact aM ⟨⟨_,_,rfl⟩,rfl⟩
  .rintro c bg ⟨⟨l,o,rfl⟩,rfl⟩;dsimp only;refine av (dW (fG (I:=fun _ c bg=>(∃l u,c=(none,l,u)/\u<=n)/\st=bg) (Q:=fun c bg=>(∃l u,c=(none,l,u)/\u<=n)/\st=bg) ?_ (fun c bg hh=>hh) ⟨⟨_,_,rfl,by lia⟩,rfl⟩) ?_)
   .rintro x c bg _ _ ⟨⟨l,u,rfl,hu⟩,rfl⟩;dsimp only;by_cases Cr:l>=u
    .rw[ai Cr];exact aM ⟨⟨_,_,rfl,hu⟩,rfl⟩
    .rw[ap Cr];refine av (iz hC hk nU pO (by lia) fun more=>?_);cases more
     .exact aM ⟨⟨_,_,rfl,by lia⟩,rfl⟩
     .exact aM ⟨⟨_,_,rfl,hu⟩,rfl⟩
   .rintro c bg ⟨⟨l,u,rfl,hu⟩,rfl⟩;exact aM (h u hu)
end
structure SM(κ:SortKind)(ar:Array Keyed)(pd:Array (Nat×Nat×Nat))(st:SortSt):Prop where
 arr:arrOf st=ar
 kind:kindOf st=κ
 failed:failedOf st=none
 pend:pendingOf st=pd
abbrev qw:=Option (Array Keyed)
abbrev u5:=StateT SortSt Sem
def ye{τ:Type}(c:Bool)(d:Prop)[Decidable d](r:Array Keyed)(t:τ):u5 (ForInStep (qw×τ)):=if c then pure (.done (some r,t)) else if d then pure (.done (none,t)) else pure (.yield (none,t))
def mgO{α β γ:Type}(N:Nat)(f:Nat->qw×α×β×γ×Nat×Nat->u5 (ForInStep (qw×α×β×γ×Nat×Nat)))(g:qw×α×β×γ×Nat×Nat×Nat->u5 (ForInStep (qw×α×β×γ×Nat×Nat×Nat)))(s:qw×α×β×γ×Nat):u5 (ForInStep (qw×α×β×γ×Nat)):=do
 let t <- forIn [0:N] ((none,s.2.1,s.2.2.1,s.2.2.2.1,0,0):qw×α×β×γ×Nat×Nat) fun _ t=>f s.2.2.2.2 t
 match t.1 with
 |some r=>pure (.done (some r,t.2.1,t.2.2.1,t.2.2.2.1,s.2.2.2.2))
 |none=>do
  liftM (rule "list.sort.gallop")
  let u <- forIn [0:N] ((none,t.2.1,t.2.2.1,t.2.2.2.1,s.2.2.2.2+1,t.2.2.2.2.1,t.2.2.2.2.2):qw×α×β×γ×Nat×Nat×Nat) fun _ u=>g u
  match u.1 with
  |some r=>pure (.done (some r,u.2.1,u.2.2.1,u.2.2.2.1,u.2.2.2.2.1))
  |none=>do
   i_ (u.2.2.2.2.1+1)
   pure (.yield (none,u.2.1,u.2.2.1,u.2.2.2.1,u.2.2.2.2.1+1))
def Wb{α β γ:Type}(N:Nat)(f:Nat->qw×α×β×γ×Nat×Nat->u5 (ForInStep (qw×α×β×γ×Nat×Nat)))(g:qw×α×β×γ×Nat×Nat×Nat->u5 (ForInStep (qw×α×β×γ×Nat×Nat×Nat)))(x:α)(y:β)(z:γ):u5 (Array Keyed):=do
 let st <- get
 let s <- forIn [0:N] ((none,x,y,z,gallopOf st):qw×α×β×γ×Nat) fun _ s=>mgO N f g s
 match s.1 with
 |some r=>pure r
 |none=>liftM (unsupported "internal:list.sort.merge-bound")
section
variable {prog:Program} {w:World} {A:Around} {E:Value->Shared->Prop} {s:Shared} {κ:SortKind} {a₀:Array Keyed} {pd:Array (Nat×Nat×Nat)} {ar:Array Keyed} {F:Array Keyed->Prop}
def GP{τ:Type}(κ:SortKind)(ar:Array Keyed)(pd:Array (Nat×Nat×Nat))(F:Array Keyed->Prop)(D J:τ->Prop)(r:ForInStep (qw×τ))(st:SortSt):Prop:=SM κ ar pd st/\
 ((∃x t,r=.done (some x,t)/\F x)\/(∃t,r=.done (none,t)/\D t)\/∃t,r=.yield (none,t)/\J t)
theorem fq{τ:Type}{D J:τ->Prop}{st:SortSt}{x:Array Keyed}{t:τ}(m:SM κ ar pd st)(h:F x):wpS (model prog w) A E s (pure (.done (some x,t))) (GP κ ar pd F D J) st:=aM ⟨m,.inl ⟨_,_,rfl,h⟩⟩
theorem jm{τ:Type}{D J:τ->Prop}{c:Bool}{d:Prop}[Decidable d]{r:Array Keyed}{t:τ}{st:SortSt}(m:SM κ ar pd st)(h1:c=true->F r)(h2:c=false->D t/\J t):wpS (model prog w) A E s (ye c d r t) (GP κ ar pd F D J) st:=by
 unfold ye;cases c
 .rw[ap bq];split
  .exact aM ⟨m,.inr (.inl ⟨_,rfl,(h2 rfl).1⟩)⟩
  .exact aM ⟨m,.inr (.inr ⟨_,rfl,(h2 rfl).2⟩)⟩
 .rw[ai rfl];exact fq m (h1 rfl)
theorem pP{τ:Type}{D:τ->Prop}{J:Nat->τ->Prop}{N:Nat}{f:qw×τ->u5 (ForInStep (qw×τ))}{t:τ}{st:SortSt}{Q:qw×τ->SortSt->Prop}(m:SM κ ar pd st)(hJ:J 0 t)(up:∀t,J N t->D t)(b:∀t st,SM κ ar pd st->∀i,J i t->wpS (model prog w) A E s (f (none,t)) (GP κ ar pd F D (J (i+1))) st)(h1:∀x t bg,SM κ ar pd bg->F x->Q (some x,t) bg)(h2:∀t bg,SM κ ar pd bg->D t->Q (none,t) bg):wpS (model prog w) A E s (forIn [0:N] ((none,t):qw×τ) fun _ c=>f c) Q st:=by
 refine fG (I:=fun i c bg=>c.1=none/\SM κ ar pd bg/\J i c.2) ?_ ?_ ⟨rfl,m,hJ⟩
 .rintro i ⟨_,t⟩ bg _ _ ⟨rfl,m',j⟩;refine dW (b t bg m' i j) ?_;rintro r oC ⟨m2,⟨x,t,rfl,h⟩|⟨t,rfl,h⟩|⟨t,rfl,h⟩⟩
  .exact h1 _ _ _ m2 h
  .exact h2 _ _ m2 h
  .exact⟨rfl,m2,h⟩
 .rintro⟨_,t⟩ bg ⟨rfl,m',j⟩;rw[Nat.max_eq_right (cF _)] at j;exact h2 _ _ m' (up _ j)
theorem Cu{α β γ:Type}{N:Nat}{f:Nat->qw×α×β×γ×Nat×Nat->u5 (ForInStep (qw×α×β×γ×Nat×Nat))}{g:qw×α×β×γ×Nat×Nat×Nat->u5 (ForInStep (qw×α×β×γ×Nat×Nat×Nat))}{x:α}{y:β}{z:γ}{J:Nat->α->β->γ->Prop}{st:SortSt}{Q:Array Keyed->SortSt->Prop}(m:SM κ ar pd st)(h0:J 0 x y z)(dn:∀i k x y z,J (i+k) x y z->J i x y z)(no:∀x y z,¬ J N x y z)(N1:1<=N)(hf:∀mg n k x y z p st,SM κ ar pd st->J (n+k) x y z->wpS (model prog w) A E s (f mg (none,x,y,z,p)) (GP κ ar pd F (fun t=>J (n+1) t.1 t.2.1 t.2.2.1) fun t=>J (n+(k+1)) t.1 t.2.1 t.2.2.1) st)(hg:∀n x y z p st,SM κ ar pd st->J n x y z->wpS (model prog w) A E s (g (none,x,y,z,p)) (GP κ ar pd F (fun t=>J n t.1 t.2.1 t.2.2.1) fun t=>J n t.1 t.2.1 t.2.2.1) st)(h:∀x bg,F x->SM κ ar pd bg->Q x bg):wpS (model prog w) A E s (Wb N f g x y z) Q st:=by
 unfold Wb;refine av (io ?_);refine av (pP (F:=F) (D:=fun _=>False) (J:=fun n (t:α×β×γ×Nat)=>J n t.1 t.2.1 t.2.2.1) m h0 (fun t h=>no _ _ _ h) ?_ (fun x t st m hx=>aM (h _ _ hx m)) fun t st m j=>j.elim);intro t st m i j;unfold mgO;refine av (pP (F:=F) (D:=fun t=>J (i+1) t.1 t.2.1 t.2.2.1) (J:=fun n (t:α×β×γ×Nat×Nat)=>J (i+n) t.1 t.2.1 t.2.2.1) m j (fun t h=>dn _ (N-1) _ _ _ (by rw[show i+1+(N-1)=i+N by lia];exact h)) (fun t st m n j=>hf _ _ _ _ _ _ _ _ m j) (fun x t st m hx=>fq m hx) ?_);intro t st m j;refine av (mG (wpAny_rule ⟨rfl,?_⟩));refine av (pP (F:=F) (D:=fun t=>J (i+1) t.1 t.2.1 t.2.2.1) (J:=fun n (t:α×β×γ×Nat×Nat×Nat)=>J (i+1) t.1 t.2.1 t.2.2.1) m j (fun _ h=>h) (fun t st m n j=>hg _ _ _ _ _ _ m j) (fun x t st m hx=>fq m hx) ?_);intro t st m j;refine av (gC ?_);exact aM ⟨⟨m.arr,m.kind,m.failed,m.pend⟩,.inr (.inr ⟨_,rfl,j⟩)⟩
end
abbrev kR(a b out:Array Keyed)(ia ib:Nat):=out++a.extract ia a.size++b.extract ib b.size
abbrev wJ(a b out:Array Keyed)(ia ib:Nat):=out++b.extract ib b.size++a.extract ia a.size
abbrev MN ρ:=qw×Array Keyed×Nat×Nat×ρ
def loW(a b:Array Keyed)(mg:Nat)(t:MN (Nat×Nat)):u5 (ForInStep (MN (Nat×Nat))):=do
 let x <- elem' b t.2.2.2.1
 let y <- elem' a t.2.2.1
 let some w <- lt' x y|pure (.done (some (kR a b t.2.1 t.2.2.1 t.2.2.2.1),t.2.1,t.2.2.1,t.2.2.2.1,t.2.2.2.2.1,t.2.2.2.2.2))
 if w then do
  let x <- elem' b t.2.2.2.1
  ye (t.2.2.2.1+1==b.size) (t.2.2.2.2.2+1>=mg) (kR a b (t.2.1.push x) t.2.2.1 (t.2.2.2.1+1)) (t.2.1.push x,t.2.2.1,t.2.2.2.1+1,0,t.2.2.2.2.2+1)
 else do
  let x <- elem' a t.2.2.1
  ye (t.2.2.1+1+1==a.size) (t.2.2.2.2.1+1>=mg) (wJ a b (t.2.1.push x) (t.2.2.1+1) t.2.2.2.1) (t.2.1.push x,t.2.2.1+1,t.2.2.2.1,t.2.2.2.2.1+1,0)
def XN(a b out:Array Keyed)(ia ib mg ac bc:Nat):u5 (ForInStep (MN (Nat×Nat×Nat))):=do
 let x <- elem' a ia
 ye (ia+1+1==a.size) ((ac<7&&bc<7)=true) (wJ a b (out.push x) (ia+1) ib) (out.push x,ia+1,ib,mg,ac,bc)
def XO(a b out:Array Keyed)(ia ib mg ac bc:Nat):u5 (ForInStep (MN (Nat×Nat×Nat))):=do
 let x <- elem' b ib
 if ib+1==b.size then pure (.done (some (kR a b (out.push x) ia (ib+1)),out.push x,ia,ib+1,mg,ac,bc))
 else do
  let y <- elem' a ia
  let some k <- iO true y b (ib+1) (b.size-(ib+1)) 0|pure (.done (some (kR a b (out.push x) ia (ib+1)),out.push x,ia,ib+1,mg,ac,bc))
  if k > 0 then
   if ib+1+k==b.size then pure (.done (some (kR a b (out.push x++b.extract (ib+1) (ib+1+k)) ia (ib+1+k)),out.push x++b.extract (ib+1) (ib+1+k),ia,ib+1+k,mg,ac,k))
   else XN a b (out.push x++b.extract (ib+1) (ib+1+k)) ia (ib+1+k) mg ac k
  else XN a b (out.push x) ia (ib+1) mg ac k
def XQ(a b out:Array Keyed)(ia ib mg ac bc:Nat):u5 (ForInStep (MN (Nat×Nat×Nat))):=do
 i_ mg
 let y <- elem' b ib
 let some k <- iO false y a ia (a.size-ia) 0|pure (.done (some (kR a b out ia ib),out,ia,ib,mg,ac,bc))
 if k > 0 then
  if ia+k+1==a.size then pure (.done (some (wJ a b (out++a.extract ia (ia+k)) (ia+k) ib),out++a.extract ia (ia+k),ia+k,ib,mg,k,bc))
  else if ia+k==a.size then pure (.done (some (kR a b (out++a.extract ia (ia+k)) (ia+k) ib),out++a.extract ia (ia+k),ia+k,ib,mg,k,bc))
  else XO a b (out++a.extract ia (ia+k)) (ia+k) ib mg k bc
 else XO a b out ia ib mg k bc
def loG(a b:Array Keyed)(t:MN (Nat×Nat×Nat)):u5 (ForInStep (MN (Nat×Nat×Nat))):=
 if t.2.2.2.2.1 > 1 then XQ a b t.2.1 t.2.2.1 t.2.2.2.1 (t.2.2.2.2.1-1) t.2.2.2.2.2.1 t.2.2.2.2.2.2 else XQ a b t.2.1 t.2.2.1 t.2.2.2.1 t.2.2.2.2.1 t.2.2.2.2.2.1 t.2.2.2.2.2.2
theorem yf(a b:Array Keyed):sX a b=(do
 liftM (rule "list.sort.merge-lo")
 let x <- elem' b 0
 if 1==b.size then pure (kR a b #[x] 0 1) else if 0+1==a.size then pure (wJ a b #[x] 0 1) else Wb (a.size+b.size) (loW a b) (loG a b) #[x] 0 1):=by kernel_rfl
def PI(a b out:Array Keyed)(ia ib:Nat):Prop:=out.toList.Perm (a.toList.take ia++b.toList.take ib)
theorem yg{l:List Keyed}{i:Nat}(h:i<l.length):l.take (i+1)=l.take i++[l[i]]:=by rw[iG,cU h];rfl
theorem PI.u_{a b out:Array Keyed}{ia ib:Nat}(h:PI a b out ia ib)(hi:ia<a.size):PI a b (out.push a[ia]) (ia+1) ib:=by
 unfold PI at h |-;rw[kj,yg (by simpa using hi),dG];refine(h.append_right _).trans ?_;rw[dG];refine nJ _ ?_;have:a.toList[ia]'(by simpa using hi)=a[ia]:=by simp
 rw[this];exact j7
theorem PI.va{a b out:Array Keyed}{ia ib:Nat}(h:PI a b out ia ib)(hi:ib<b.size):PI a b (out.push b[ib]) ia (ib+1):=by
 unfold PI at h |-;rw[kj,yg (by simpa using hi),<-dG];have:b.toList[ib]'(by simpa using hi)=b[ib]:=by simp
 rw[this];exact h.append_right _
theorem eE{a:Array Keyed}{i j:Nat}:(a.extract i j).toList=(a.toList.drop i).take (j-i):=by
 rw[zx,List.extract_eq_take_drop]
theorem PI.DY{a b out:Array Keyed}{ia ib:Nat}(h:PI a b out ia ib)(k:Nat):PI a b (out++a.extract ia (ia+k)) (ia+k) ib:=by
 unfold PI at h |-;rw[eY,eE,Nat.add_sub_cancel_left,List.take_add,dG];refine(h.append_right _).trans ?_;rw[dG];exact nJ _ j7
theorem PI.DZ{a b out:Array Keyed}{ia ib:Nat}(h:PI a b out ia ib)(k:Nat):PI a b (out++b.extract ib (ib+k)) ia (ib+k):=by
 unfold PI at h |-;rw[eY,eE,Nat.add_sub_cancel_left,List.take_add,<-dG];exact h.append_right _
theorem PI.done{a b out:Array Keyed}{ia ib:Nat}(h:PI a b out ia ib):(out++a.extract ia a.size++b.extract ib b.size).Perm (a++b):=by
 rw[nG];unfold PI at h;rw[eY,eY,eY,eE,eE];have e1:(a.toList.drop ia).take (a.size-ia)=a.toList.drop ia:=zj (by simp);have e2:(b.toList.drop ib).take (b.size-ib)=b.toList.drop ib:=zj (by simp);rw[e1,e2];refine((h.append_right _).append_right _).trans ?_;conv=>rhs;rw[<-md ia a.toList,<-md ib b.toList]
 rw[dG,dG,dG];refine nJ _ ?_;rw[<-dG,<-dG];exact zn _ j7
theorem PI.last{a b out:Array Keyed}{ia ib:Nat}(h:PI a b out ia ib):(out++b.extract ib b.size++a.extract ia a.size).Perm (a++b):=by
 refine Array.Perm.trans ?_ h.done;rw[nG];rw[eY,eY,eY,eY,dG,dG];exact nJ _ j7
section
variable {prog:Program} {w:World} {A:Around} {E:Value->Shared->Prop} {s:Shared} {κ:SortKind} {a₀:Array Keyed} {pd:Array (Nat×Nat×Nat)} {ar:Array Keyed} {a b out:Array Keyed} {ia ib mg ac bc n:Nat} {st:SortSt}
def JL(a b:Array Keyed)(n:Nat)(out:Array Keyed)(ia ib:Nat):Prop:=PI a b out ia ib/\ia+1<a.size/\ib<b.size/\n<=ia+ib
abbrev GL{ρ:Type}(κ:SortKind)(ar:Array Keyed)(pd:Array (Nat×Nat×Nat))(a b:Array Keyed)(n m:Nat):ForInStep (MN ρ)->SortSt->Prop:=GP κ ar pd (fun x=>x.Perm (a++b)) (fun t=>JL a b n t.1 t.2.1 t.2.2.1) fun t=>JL a b m t.1 t.2.1 t.2.2.1
theorem Cv(hB:SM κ ar pd st)(h:JL a b n out ia ib):wpS (model prog w) A E s (XN a b out ia ib mg ac bc) (GL κ ar pd a b n n) st:=by
 obtain⟨p,la,lb,li⟩:=h;refine av (bw (dM a ia (by lia)) ?_);have p:=p.u_ (show ia<a.size by lia);refine jm hB (fun _=>p.last) fun f=>?_;have g:=oU f;have j:JL a b n (out.push a[ia]) (ia+1) ib:=⟨p,by lia,lb,by lia⟩
 exact⟨j,j⟩
theorem Cw(hC:yd prog w A s κ a₀)(ha:∀x∈a.toList,x∈a₀.toList)(hb:∀x∈b.toList,x∈a₀.toList)(hB:SM κ ar pd st)(h:JL a b n out ia ib):wpS (model prog w) A E s (XO a b out ia ib mg ac bc) (GL κ ar pd a b n n) st:=by
 obtain⟨p,la,lb,li⟩:=h;refine av (bw (dM b ib lb) ?_);have p:=p.va lb;split
 .exact fq hB p.done
 next f=>
 have g:ib+1≠b.size:=by simpa using f
 refine av (bw (dM a ia (by lia)) ?_);refine av (fQ hC hB.kind (ha _ (by simp)) hb (by lia) (by lia) fun k hk=>?_);dsimp only;split
 .split
  .exact fq hB (p.DZ k).done
  next f=>
  have g:ib+1+k≠b.size:=by simpa using f
  exact Cv hB ⟨p.DZ k,la,by lia,by lia⟩
 .exact Cv hB ⟨p,la,by lia,by lia⟩
theorem Kv(hC:yd prog w A s κ a₀)(ha:∀x∈a.toList,x∈a₀.toList)(hb:∀x∈b.toList,x∈a₀.toList)(hB:SM κ ar pd st)(h:JL a b n out ia ib):wpS (model prog w) A E s (XQ a b out ia ib mg ac bc) (GL κ ar pd a b n n) st:=by
 obtain⟨p,la,lb,li⟩:=h;refine av (gC ?_);refine av (bw (dM b ib lb) ?_);have uA:SM κ ar pd (SortSt.mk' (kindOf st) (arrOf st) (pendingOf st) mg (failedOf st)):=⟨hB.arr,hB.kind,hB.failed,hB.pend⟩
 refine av (fQ hC uA.kind (hb _ (by simp)) ha (by lia) (by lia) fun k hk=>?_);dsimp only;split
 .split
  .exact fq uA (p.DY k).last
  next f=>
  split
  .exact fq uA (p.DY k).done
  next f'=>
  have g:ia+k+1≠a.size:=by simpa using f
  have g':ia+k≠a.size:=by simpa using f'
  exact Cw hC ha hb uA ⟨p.DY k,by lia,lb,by lia⟩
 .exact Cw hC ha hb uA ⟨p,la,lb,li⟩
theorem Kw{k:Nat}(hC:yd prog w A s κ a₀)(ha:∀x∈a.toList,x∈a₀.toList)(hb:∀x∈b.toList,x∈a₀.toList)(hB:SM κ ar pd st)(h:JL a b (n+k) out ia ib){q:Nat×Nat}:wpS (model prog w) A E s (loW a b mg (none,out,ia,ib,q)) (GL κ ar pd a b (n+1) (n+(k+1))) st:=by
 obtain⟨p,la,lb,li⟩:=h;refine av (bw (dM b ib lb) (av (bw (dM a ia (by lia)) (av (sZ hC hB.kind (hb _ (by simp)) (ha _ (by simp)) fun w=>?_)))));cases w
 .refine av (bw (dM a ia (by lia)) ?_);have p:=p.u_ (show ia<a.size by lia);refine jm hB (fun _=>p.last) fun f=>?_;have g:=oU f;exact⟨⟨p,by dsimp only;lia,lb,by dsimp only;lia⟩,p,by dsimp only;lia,lb,by dsimp only;lia⟩
 .refine av (bw (dM b ib lb) ?_);have p:=p.va lb;refine jm hB (fun _=>p.done) fun f=>?_;have g:=oU f;exact⟨⟨p,la,by dsimp only at g |-;lia,by dsimp only;lia⟩,p,la,by dsimp only at g |-;lia,by dsimp only;lia⟩
theorem yh{Q:Array Keyed->SortSt->Prop}(hC:yd prog w A s κ a₀)(hB:SM κ ar pd st)(ha:∀x∈a.toList,x∈a₀.toList)(hb:∀x∈b.toList,x∈a₀.toList)(a1:1<=a.size)(b1:1<=b.size)(h:∀out bg,out.Perm (a++b)->SM κ ar pd bg->Q out bg):wpS (model prog w) A E s (sX a b) Q st:=by
 rw[yf];refine av (mG (wpAny_rule ⟨rfl,?_⟩));refine av (bw (dM b 0 (by lia)) ?_);have p0:PI a b #[b[0]] 0 1:=by
  have:PI a b #[] 0 0:=by unfold PI;simp
  exact this.va (by lia)
 split
 .exact aM (h _ _ p0.done hB)
 next f=>
 split
 .exact aM (h _ _ p0.last hB)
 next f'=>
 have g:1≠b.size:=by simpa using f
 have g':0+1≠a.size:=by simpa using f'
 refine Cu (J:=JL a b) hB ⟨p0,by lia,by lia,by lia⟩ (fun i k x y z h=>⟨h.1,h.2.1,h.2.2.1,by have:=h.2.2.2;lia⟩) (fun x y z h=>by have:=h.2;lia) (by lia) (fun mg n k x y z p st m j=>Kw hC ha hb m j) (fun n x y z p st m j=>?_) h;unfold loG;split <;> exact Kv hC ha hb m j
end
abbrev kS(a b out:Array Keyed)(na nb:Nat):=a.extract 0 na++b.extract 0 nb++out.reverse
abbrev qS(a b out:Array Keyed)(na nb:Nat):=b.extract 0 nb++a.extract 0 na++out.reverse
abbrev MQ ρ:=qw×Nat×Nat×Array Keyed×ρ
def hiW(a b:Array Keyed)(mg:Nat)(t:MQ (Nat×Nat)):u5 (ForInStep (MQ (Nat×Nat))):=do
 let x <- elem' b (t.2.2.1-1)
 let y <- elem' a (t.2.1-1)
 let some w <- lt' x y|pure (.done (some (kS a b t.2.2.2.1 t.2.1 t.2.2.1),t.2.1,t.2.2.1,t.2.2.2.1,t.2.2.2.2.1,t.2.2.2.2.2))
 if w then do
  let x <- elem' a (t.2.1-1)
  ye (t.2.1-1==0) (t.2.2.2.2.1+1>=mg) (kS a b (t.2.2.2.1.push x) (t.2.1-1) t.2.2.1) (t.2.1-1,t.2.2.1,t.2.2.2.1.push x,t.2.2.2.2.1+1,0)
 else do
  let x <- elem' b (t.2.2.1-1)
  ye (t.2.2.1-1==1) (t.2.2.2.2.2+1>=mg) (qS a b (t.2.2.2.1.push x) t.2.1 (t.2.2.1-1)) (t.2.1,t.2.2.1-1,t.2.2.2.1.push x,0,t.2.2.2.2.2+1)
def XR(a b:Array Keyed)(na nb:Nat)(out:Array Keyed)(mg ac bc:Nat):u5 (ForInStep (MQ (Nat×Nat×Nat))):=do
 let x <- elem' a (na-1)
 ye (na-1==0) ((ac<7&&bc<7)=true) (kS a b (out.push x) (na-1) nb) (na-1,nb,out.push x,mg,ac,bc)
def XS(a b:Array Keyed)(na nb:Nat)(out:Array Keyed)(mg ac bc:Nat):u5 (ForInStep (MQ (Nat×Nat×Nat))):=do
 let x <- elem' b (nb-1)
 if nb-1==1 then pure (.done (some (qS a b (out.push x) na (nb-1)),na,nb-1,out.push x,mg,ac,bc))
 else do
  let y <- elem' a (na-1)
  let some k <- iO true y b 0 (nb-1) (nb-1-1)|pure (.done (some (kS a b (out.push x) na (nb-1)),na,nb-1,out.push x,mg,ac,bc))
  if nb-1-k > 0 then
   if k==1 then pure (.done (some (qS a b (out.push x++(b.extract k (nb-1)).reverse) na k),na,k,out.push x++(b.extract k (nb-1)).reverse,mg,ac,nb-1-k))
   else if k==0 then pure (.done (some (kS a b (out.push x++(b.extract k (nb-1)).reverse) na k),na,k,out.push x++(b.extract k (nb-1)).reverse,mg,ac,nb-1-k))
   else XR a b na k (out.push x++(b.extract k (nb-1)).reverse) mg ac (nb-1-k)
  else XR a b na (nb-1) (out.push x) mg ac (nb-1-k)
def XT(a b:Array Keyed)(na nb:Nat)(out:Array Keyed)(mg ac bc:Nat):u5 (ForInStep (MQ (Nat×Nat×Nat))):=do
 i_ mg
 let y <- elem' b (nb-1)
 let some k <- iO false y a 0 na (na-1)|pure (.done (some (kS a b out na nb),na,nb,out,mg,ac,bc))
 if na-k > 0 then
  if k==0 then pure (.done (some (kS a b (out++(a.extract k na).reverse) k nb),k,nb,out++(a.extract k na).reverse,mg,na-k,bc))
  else XS a b k nb (out++(a.extract k na).reverse) mg (na-k) bc
 else XS a b na nb out mg (na-k) bc
def hiG(a b:Array Keyed)(t:MQ (Nat×Nat×Nat)):u5 (ForInStep (MQ (Nat×Nat×Nat))):=
 if t.2.2.2.2.1 > 1 then XT a b t.2.1 t.2.2.1 t.2.2.2.1 (t.2.2.2.2.1-1) t.2.2.2.2.2.1 t.2.2.2.2.2.2 else XT a b t.2.1 t.2.2.1 t.2.2.2.1 t.2.2.2.2.1 t.2.2.2.2.2.1 t.2.2.2.2.2.2
theorem yk(a b:Array Keyed):sY a b=(do
 liftM (rule "list.sort.merge-hi")
 let x <- elem' a (a.size-1)
 if a.size-1==0 then pure (kS a b #[x] (a.size-1) b.size) else if b.size==1 then pure (qS a b #[x] (a.size-1) b.size) else Wb (a.size+b.size) (hiW a b) (hiG a b) (a.size-1) b.size #[x]):=by kernel_rfl
def PH(a b out:Array Keyed)(na nb:Nat):Prop:=out.toList.Perm (a.toList.drop na++b.toList.drop nb)
theorem PH.u_{a b out:Array Keyed}{na nb:Nat}(h:PH a b out na nb)(h1:1<=na)(hi:na-1<a.size):PH a b (out.push a[na-1]) (na-1) nb:=by
 unfold PH at h |-;have e:a.toList.drop (na-1)=a[na-1]::a.toList.drop na:=by
  have:=rh (l:=a.toList) (i:=na-1) (by simpa using hi);rw[this,Nat.sub_add_cancel h1];simp
 rw[kj,e];refine(h.append_right _).trans ?_;exact j7
theorem PH.va{a b out:Array Keyed}{na nb:Nat}(h:PH a b out na nb)(h1:1<=nb)(hi:nb-1<b.size):PH a b (out.push b[nb-1]) na (nb-1):=by
 unfold PH at h |-;have e:b.toList.drop (nb-1)=b[nb-1]::b.toList.drop nb:=by
  have:=rh (l:=b.toList) (i:=nb-1) (by simpa using hi);rw[this,Nat.sub_add_cancel h1];simp
 rw[kj,e];refine(h.append_right _).trans ?_;rw[dG];exact nJ _ j7
theorem om{l:List Keyed}{i j:Nat}(h:i<=j):l.drop i=(l.drop i).take (j-i)++l.drop j:=by
 have:=(md (j-i) (l.drop i)).symm;rw[List.drop_drop,show i+(j-i)=j by lia] at this;exact this
theorem PH.DY{a b out:Array Keyed}{na nb:Nat}(h:PH a b out na nb){k:Nat}(hk:k<=na):PH a b (out++(a.extract k na).reverse) k nb:=by
 unfold PH at h |-;rw[eY,zw,eE];conv=>rhs;rw[om hk]
 refine((h.append_left _).trans ?_ |> fun z=>(List.Perm.trans j7 ((zN _).append_right _)).trans z);rw[dG]
theorem PH.DZ{a b out:Array Keyed}{na nb:Nat}(h:PH a b out na nb){k:Nat}(hk:k<=nb):PH a b (out++(b.extract k nb).reverse) na k:=by
 unfold PH at h |-;rw[eY,zw,eE];conv=>rhs;rw[om hk]
 refine(h.append_right _).trans ?_;rw[dG];refine nJ _ ?_;exact j7.trans ((zN _).append_right _)
theorem SY{a:Array Keyed}{j:Nat}:(a.extract 0 j).toList=a.toList.take j:=by rw[eE,z_,Nat.sub_zero]
theorem PH.done{a b out:Array Keyed}{na nb:Nat}(h:PH a b out na nb):(a.extract 0 na++b.extract 0 nb++out.reverse).Perm (a++b):=by
 rw[nG];unfold PH at h;rw[eY,eY,eY,zw,SY,SY];conv=>rhs;rw[<-md na a.toList,<-md nb b.toList]
 refine(nJ _ ((zN _).trans h)).trans ?_;rw[dG,dG];refine nJ _ ?_;rw[<-dG,<-dG];exact zn _ j7
theorem PH.first{a b out:Array Keyed}{na nb:Nat}(h:PH a b out na nb):(b.extract 0 nb++a.extract 0 na++out.reverse).Perm (a++b):=by
 refine Array.Perm.trans ?_ h.done;rw[nG];rw[eY,eY,eY,eY];exact zn _ j7
section
variable {prog:Program} {w:World} {A:Around} {E:Value->Shared->Prop} {s:Shared} {κ:SortKind} {a₀:Array Keyed} {pd:Array (Nat×Nat×Nat)} {ar:Array Keyed} {a b out:Array Keyed} {na nb mg ac bc n:Nat} {st:SortSt}
def JH(a b:Array Keyed)(n na nb:Nat)(out:Array Keyed):Prop:=PH a b out na nb/\1<=na/\2<=nb/\na<=a.size/\nb<=b.size/\n+na+nb<=a.size+b.size
abbrev GH{ρ:Type}(κ:SortKind)(ar:Array Keyed)(pd:Array (Nat×Nat×Nat))(a b:Array Keyed)(n m:Nat):ForInStep (MQ ρ)->SortSt->Prop:=GP κ ar pd (fun x=>x.Perm (a++b)) (fun t=>JH a b n t.1 t.2.1 t.2.2.1) fun t=>JH a b m t.1 t.2.1 t.2.2.1
theorem Cy(hB:SM κ ar pd st)(p:PH a b out na nb)(la:1<=na)(lb:2<=nb)(ma:na<=a.size)(mb:nb<=b.size)(li:n+na+nb<=a.size+b.size+1):wpS (model prog w) A E s (XR a b na nb out mg ac bc) (GH κ ar pd a b n n) st:=by
 refine av (bw (dM a (na-1) (by lia)) ?_);have p:=p.u_ la (show na-1<a.size by lia);refine jm hB (fun _=>p.done) fun f=>?_;have g:=oU f;have j:JH a b n (na-1) nb (out.push a[na-1]):=⟨p,by lia,lb,by lia,mb,by lia⟩
 exact⟨j,j⟩
theorem Cz(hC:yd prog w A s κ a₀)(ha:∀x∈a.toList,x∈a₀.toList)(hb:∀x∈b.toList,x∈a₀.toList)(hB:SM κ ar pd st)(h:JH a b n na nb out):wpS (model prog w) A E s (XS a b na nb out mg ac bc) (GH κ ar pd a b n n) st:=by
 obtain⟨p,la,lb,ma,mb,li⟩:=h;refine av (bw (dM b (nb-1) (by lia)) ?_);have p:=p.va (show 1<=nb by lia) (show nb-1<b.size by lia);split
 .exact fq hB p.first
 next f=>
 have g:nb-1≠1:=by simpa using f
 refine av (bw (dM a (na-1) (by lia)) ?_);refine av (fQ hC hB.kind (ha _ (by simp)) hb (by lia) (by lia) fun k hk=>?_);dsimp only;split
 .split
  .exact fq hB (p.DZ hk).first
  next f=>
  split
  .exact fq hB (p.DZ hk).done
  next f'=>
  have g:k≠1:=by simpa using f
  have g':k≠0:=by simpa using f'
  exact Cy hB (p.DZ hk) la (by lia) ma (by lia) (by lia)
 .exact Cy hB p la (by lia) ma (by lia) (by lia)
theorem Kx(hC:yd prog w A s κ a₀)(ha:∀x∈a.toList,x∈a₀.toList)(hb:∀x∈b.toList,x∈a₀.toList)(hB:SM κ ar pd st)(h:JH a b n na nb out):wpS (model prog w) A E s (XT a b na nb out mg ac bc) (GH κ ar pd a b n n) st:=by
 obtain⟨p,la,lb,ma,mb,li⟩:=h;refine av (gC ?_);refine av (bw (dM b (nb-1) (by lia)) ?_);have uA:SM κ ar pd (SortSt.mk' (kindOf st) (arrOf st) (pendingOf st) mg (failedOf st)):=⟨hB.arr,hB.kind,hB.failed,hB.pend⟩
 refine av (fQ hC uA.kind (hb _ (by simp)) ha (by lia) (by lia) fun k hk=>?_);dsimp only;split
 .split
  .exact fq uA (p.DY hk).done
  next f=>
  have g:k≠0:=by simpa using f
  exact Cz hC ha hb uA ⟨p.DY hk,by lia,lb,by lia,mb,by lia⟩
 .exact Cz hC ha hb uA ⟨p,la,lb,ma,mb,li⟩
theorem Ky{k:Nat}(hC:yd prog w A s κ a₀)(ha:∀x∈a.toList,x∈a₀.toList)(hb:∀x∈b.toList,x∈a₀.toList)(hB:SM κ ar pd st)(h:JH a b (n+k) na nb out){q:Nat×Nat}:wpS (model prog w) A E s (hiW a b mg (none,na,nb,out,q)) (GH κ ar pd a b (n+1) (n+(k+1))) st:=by
 obtain⟨p,la,lb,ma,mb,li⟩:=h;refine av (bw (dM b (nb-1) (by lia)) (av (bw (dM a (na-1) (by lia)) (av (sZ hC hB.kind (hb _ (by simp)) (ha _ (by simp)) fun w=>?_)))));cases w
 .refine av (bw (dM b (nb-1) (by lia)) ?_);have p:=p.va (show 1<=nb by lia) (show nb-1<b.size by lia);refine jm hB (fun _=>p.first) fun f=>?_;have g:nb-1≠1:=oU f;have j:JH a b (n+(k+1)) na (nb-1) (out.push b[nb-1]):=⟨p,la,by lia,ma,by lia,by lia⟩
  exact⟨⟨p,la,j.2.2.1,ma,j.2.2.2.2.1,by have:=j.2.2.2.2.2;dsimp only;lia⟩,j⟩
 .refine av (bw (dM a (na-1) (by lia)) ?_);have p:=p.u_ la (show na-1<a.size by lia);refine jm hB (fun _=>p.done) fun f=>?_;have g:na-1≠0:=oU f;have j:JH a b (n+(k+1)) (na-1) nb (out.push a[na-1]):=⟨p,by lia,lb,by lia,mb,by lia⟩
  exact⟨⟨p,j.2.1,lb,j.2.2.2.1,mb,by have:=j.2.2.2.2.2;dsimp only;lia⟩,j⟩
theorem ym{Q:Array Keyed->SortSt->Prop}(hC:yd prog w A s κ a₀)(hB:SM κ ar pd st)(ha:∀x∈a.toList,x∈a₀.toList)(hb:∀x∈b.toList,x∈a₀.toList)(a1:1<=a.size)(b1:1<=b.size)(h:∀out bg,out.Perm (a++b)->SM κ ar pd bg->Q out bg):wpS (model prog w) A E s (sY a b) Q st:=by
 rw[yk];refine av (mG (wpAny_rule ⟨rfl,?_⟩));refine av (bw (dM a (a.size-1) (by lia)) ?_);have p0:PH a b #[a[a.size-1]] (a.size-1) b.size:=by
  have:PH a b #[] a.size b.size:=by unfold PH;simp
  exact this.u_ a1 (by lia)
 split
 .exact aM (h _ _ p0.done hB)
 next f=>
 split
 .exact aM (h _ _ p0.first hB)
 next f'=>
 have g:a.size-1≠0:=by simpa using f
 have g':b.size≠1:=by simpa using f'
 refine Cu (J:=JH a b) hB ⟨p0,by lia,by lia,by lia,by lia,by lia⟩ (fun i k x y z h=>⟨h.1,h.2.1,h.2.2.1,h.2.2.2.1,h.2.2.2.2.1,by have:=h.2.2.2.2.2;lia⟩) (fun x y z h=>by have:=h.2;lia) (by lia) (fun mg n k x y z p st m j=>Ky hC ha hb m j) (fun n x y z p st m j=>?_) h;unfold hiG;split <;> exact Kx hC ha hb m j
end
section
variable {prog:Program} {w:World} {A:Around} {E:Value->Shared->Prop} {s:Shared} {κ:SortKind} {a₀:Array Keyed} {pd:Array (Nat×Nat×Nat)}
theorem D7{st:SortSt}{lo pQ:Nat}{Q:Option Nat->SortSt->Prop}(hC:yd prog w A s κ a₀)(hn:lo+pQ<=a₀.size)(h1:1<=pQ)(hB:SQ κ a₀ pd st)(h:∀n bg,SQ κ a₀ pd bg->1<=n->n<=pQ->Q (some n) bg):wpS (model prog w) A E s (countRun' lo pQ) Q st:=by
 rw[countRun'_eq];refine av (dW (fG (I:=fun i c bg=>SQ κ a₀ pd bg/\∃m,c=(none,m)/\m=i) (Q:=fun c bg=>SQ κ a₀ pd bg/\∃m,c=(none,m)/\1<=m/\m<=pQ) ?_ ?_ ⟨hB,_,rfl,rfl⟩) ?_)
 .rintro i c JF Rb AC ⟨GN,m,rfl,rfl⟩;dsimp only;refine av (fm hC GN (by lia) (by lia) fun b1=>?_);cases b1
  .exact aM ⟨GN,_,rfl,rfl⟩
  .exact aM ⟨GN,_,rfl,by lia,by lia⟩
 .rintro c JF ⟨GN,m,rfl,rfl⟩;exact⟨GN,_,rfl,by lia,by lia⟩
 .rintro c JF ⟨GN,n,rfl,n1,n2⟩;dsimp only;by_cases e1:(n==pQ)=true
  .rw[ai e1];exact aM (h n JF GN n1 n2)
  rw[ap e1];have g1:¬ (n=pQ):=by simpa using e1
  by_cases e2:n > 1
  .rw[ai e2];refine av (fm hC GN (by lia) (by lia) fun b2=>?_);cases b2
   .dsimp only;rw[ap (by decide)];refine av (gX GN fun oC uA=>?_);refine av (mG (wpAny_rule ⟨rfl,?_⟩));refine av (dW (fG (I:=fun i c bg=>SQ κ a₀ pd bg/\∃m q,c=(none,m,q)/\m=i) (Q:=fun c bg=>SQ κ a₀ pd bg/\∃m q,c=(none,m,q)/\1<=m/\m<=pQ) ?_ ?_ ⟨uA,_,_,rfl,rfl⟩) ?_)
    .rintro i c xA Rb AC ⟨qv,m,q,rfl,rfl⟩;dsimp only;refine av (fm hC qv (by lia) (by lia) fun b3=>?_);cases b3
     .dsimp only;rw[ap (by decide)];refine av (fm hC qv (by lia) (by lia) fun b4=>?_);cases b4
      .exact aM ⟨qv,_,_,rfl,rfl⟩
      .exact aM ⟨qv,_,_,rfl,by lia,by lia⟩
     .dsimp only;rw[ai rfl];split
      .exact av (gX qv fun uq Ov=>aM ⟨Ov,_,_,rfl,rfl⟩)
      .exact aM ⟨qv,_,_,rfl,rfl⟩
    .rintro c xA ⟨qv,m,q,rfl,rfl⟩;exact⟨qv,_,_,rfl,by lia,by lia⟩
    .rintro c xA ⟨qv,m,q,rfl,m1,m2⟩;dsimp only;split
     .refine av (gX qv fun uq Ov=>?_);refine av (gX Ov fun uo Ow=>?_);refine av (dW (fG (I:=fun i c bg=>SQ κ a₀ pd bg/\∃m,c=(none,m)/\m=i) (Q:=fun c bg=>SQ κ a₀ pd bg/\∃m,c=(none,m)/\1<=m/\m<=pQ) ?_ ?_ ⟨Ow,_,rfl,rfl⟩) ?_)
      .rintro i c AV Rb AC ⟨mZ,m,rfl,rfl⟩;dsimp only;refine av (fm hC mZ (by lia) (by lia) fun b6=>?_);cases b6
       .exact aM ⟨mZ,_,rfl,rfl⟩
       .exact aM ⟨mZ,_,rfl,by lia,by lia⟩
      .rintro c AV ⟨mZ,m,rfl,rfl⟩;exact⟨mZ,_,rfl,by lia,by lia⟩
      .rintro c AV ⟨mZ,m,rfl,h1,h2⟩;exact aM (h m AV mZ h1 h2)
     .refine av (gX qv fun uo Ow=>?_);refine av (dW (fG (I:=fun i c bg=>SQ κ a₀ pd bg/\∃m,c=(none,m)/\m=i) (Q:=fun c bg=>SQ κ a₀ pd bg/\∃m,c=(none,m)/\1<=m/\m<=pQ) ?_ ?_ ⟨Ow,_,rfl,rfl⟩) ?_)
      .rintro i c AV Rb AC ⟨mZ,m,rfl,rfl⟩;dsimp only;refine av (fm hC mZ (by lia) (by lia) fun b6=>?_);cases b6
       .exact aM ⟨mZ,_,rfl,rfl⟩
       .exact aM ⟨mZ,_,rfl,by lia,by lia⟩
      .rintro c AV ⟨mZ,m,rfl,rfl⟩;exact⟨mZ,_,rfl,by lia,by lia⟩
      .rintro c AV ⟨mZ,m,rfl,h1,h2⟩;exact aM (h m AV mZ h1 h2)
   .exact aM (h n JF GN n1 n2)
  .rw[ap e2];have uA:=GN;refine av (mG (wpAny_rule ⟨rfl,?_⟩));refine av (dW (fG (I:=fun i c bg=>SQ κ a₀ pd bg/\∃m q,c=(none,m,q)/\m=i) (Q:=fun c bg=>SQ κ a₀ pd bg/\∃m q,c=(none,m,q)/\1<=m/\m<=pQ) ?_ ?_ ⟨uA,_,_,rfl,rfl⟩) ?_)
   .rintro i c xA Rb AC ⟨qv,m,q,rfl,rfl⟩;dsimp only;refine av (fm hC qv (by lia) (by lia) fun b3=>?_);cases b3
    .dsimp only;rw[ap (by decide)];refine av (fm hC qv (by lia) (by lia) fun b4=>?_);cases b4
     .exact aM ⟨qv,_,_,rfl,rfl⟩
     .exact aM ⟨qv,_,_,rfl,by lia,by lia⟩
    .dsimp only;rw[ai rfl];split
     .exact av (gX qv fun uq Ov=>aM ⟨Ov,_,_,rfl,rfl⟩)
     .exact aM ⟨qv,_,_,rfl,rfl⟩
   .rintro c xA ⟨qv,m,q,rfl,rfl⟩;exact⟨qv,_,_,rfl,by lia,by lia⟩
   .rintro c xA ⟨qv,m,q,rfl,m1,m2⟩;dsimp only;split
    .refine av (gX qv fun uq Ov=>?_);refine av (gX Ov fun uo Ow=>?_);refine av (dW (fG (I:=fun i c bg=>SQ κ a₀ pd bg/\∃m,c=(none,m)/\m=i) (Q:=fun c bg=>SQ κ a₀ pd bg/\∃m,c=(none,m)/\1<=m/\m<=pQ) ?_ ?_ ⟨Ow,_,rfl,rfl⟩) ?_)
     .rintro i c AV Rb AC ⟨mZ,m,rfl,rfl⟩;dsimp only;refine av (fm hC mZ (by lia) (by lia) fun b6=>?_);cases b6
      .exact aM ⟨mZ,_,rfl,rfl⟩
      .exact aM ⟨mZ,_,rfl,by lia,by lia⟩
     .rintro c AV ⟨mZ,m,rfl,rfl⟩;exact⟨mZ,_,rfl,by lia,by lia⟩
     .rintro c AV ⟨mZ,m,rfl,h1,h2⟩;exact aM (h m AV mZ h1 h2)
    .refine av (gX qv fun uo Ow=>?_);refine av (dW (fG (I:=fun i c bg=>SQ κ a₀ pd bg/\∃m,c=(none,m)/\m=i) (Q:=fun c bg=>SQ κ a₀ pd bg/\∃m,c=(none,m)/\1<=m/\m<=pQ) ?_ ?_ ⟨Ow,_,rfl,rfl⟩) ?_)
     .rintro i c AV Rb AC ⟨mZ,m,rfl,rfl⟩;dsimp only;refine av (fm hC mZ (by lia) (by lia) fun b6=>?_);cases b6
      .exact aM ⟨mZ,_,rfl,rfl⟩
      .exact aM ⟨mZ,_,rfl,by lia,by lia⟩
     .rintro c AV ⟨mZ,m,rfl,rfl⟩;exact⟨mZ,_,rfl,by lia,by lia⟩
     .rintro c AV ⟨mZ,m,rfl,h1,h2⟩;exact aM (h m AV mZ h1 h2)
end
abbrev Rc:=Nat×Nat×Nat
def jn:List Rc->Nat->Nat->Prop
 |[],s,e=>s=e
 |r::rs,s,e=>r.1=s/\1<=r.2.1/\jn rs (s+r.2.1) e
theorem jn.le:∀ {l:List Rc} {s e:Nat},jn l s e->s<=e
 |[],_,_,h=>mD h
 |r::rs,s,e,⟨_,h2,h3⟩=>by have:=h3.le;lia
theorem jn.two:∀ {l:List Rc} {s e i:Nat} {x y:Rc},jn l s e->l[i]?=some x->l[i+1]?=some y->
  x.1+x.2.1=y.1/\y.1+y.2.1<=e/\1<=x.2.1/\1<=y.2.1/\∀p,jn ((l.set i (x.1,x.2.1+y.2.1,p)).eraseIdx (i+1)) s e
 |r::q::rs,s,e,0,x,y,⟨h1,h2,h3,h4,h5⟩,hx,hy=>by
  obtain rfl:=a8 hx;obtain rfl:=a8 hy;have:=h5.le;refine⟨by lia,by lia,h2,h4,fun p=>⟨h1,by show 1<=r.2.1+q.2.1;lia,?_⟩⟩;show jn rs (s+(r.2.1+q.2.1)) e;rw[<-rQ];exact h5
 |r::rs,s,e,i+1,x,y,⟨h1,h2,h3⟩,hx,hy=>by
  obtain⟨a1,a2,a3,a4,a5⟩:=jn.two (i:=i) h3 hx hy;exact⟨a1,a2,a3,a4,fun p=>⟨h1,h2,a5 p⟩⟩
theorem jn.push:∀ {l:List Rc} {s e n p:Nat},jn l s e->1<=n->jn (l++[(e,n,p)]) s (e+n)
 |[],s,e,n,p,h,hn=>⟨h.symm,hn,by rw[h];rfl⟩
 |r::rs,s,e,n,p,⟨h1,h2,h3⟩,hn=>⟨h1,h2,jn.push h3 hn⟩
theorem jn.pw:∀ {l:List Rc} {s e:Nat} (i p:Nat),jn l s e->jn (l.modify i fun r=>(r.1,r.2.1,p)) s e
 |[],s,e,i,p,h=>by cases i <;> exact h
 |r::rs,s,e,0,p,⟨h1,h2,h3⟩=>⟨h1,h2,h3⟩
 |r::rs,s,e,i+1,p,⟨h1,h2,h3⟩=>⟨h1,h2,jn.pw i p h3⟩
theorem Kz{M:Model}{A:Around}{E:Value->Shared->Prop}{s:Shared}{σ:Type}{x:σ}{Q:PUnit->σ->Prop}{st:σ}(h:Q ⟨⟩ x):wpS M A E s (set x:StateT σ Sem PUnit) Q st:=by
 unfold wpS;rw[StateT.run_set];exact wpAny_pure ⟨rfl,h⟩
theorem yn(i:Nat):mergeAt' i=(do
 let s <- get
 let (some (sa,na,SZ),some (sb,nb,_)):=((pendingOf s)[i]?,(pendingOf s)[i+1]?)|unsupported "internal:list.sort.pending"
 set (setPending s (((pendingOf s).setIfInBounds i (sa,na+nb,SZ)).eraseIdxIfInBounds (i+1)))
 let some k <- iO false (<-elem' (arrOf s) sb) (arrOf s) sa na 0|return false
 let (sa,na):=(sa+k,na-k)
 if na==0 then return true
 let some nb <- iO true (<-elem' (arrOf s) (sa+na-1)) (arrOf s) sb nb (nb-1)|return false
 if nb==0 then return true
 let x:=(arrOf s).extract sa sb
 let y:=(arrOf s).extract sb (sb+nb)
 let merged <- if na<=nb then sX x y else sY x y
 modify fun s=>setArr s (merged.toList.zipIdx.foldl (fun a (p,j)=>a.setIfInBounds (sa+j) p) (arrOf s))
 return (failedOf (<-get)).isNone):=rfl
theorem tf{sa:Nat}:∀ (l:List Keyed) (k:Nat) (arr:Array Keyed),sa+k+l.length<=arr.size->
  ((l.zipIdx k).foldl (fun (a:Array Keyed) (x:Keyed×Nat)=>a.setIfInBounds (sa+x.2) x.1) arr).toList=arr.toList.take (sa+k)++l++arr.toList.drop (sa+k+l.length)
 |[],k,arr,_=>by simp
 |x::l,k,arr,h=>by
  rw[cu] at h;have hs:sa+k<arr.toList.length:=by rw[eN];lia
  rw[zV,ic,tf l (k+1) _ (by rw[Array.size_setIfInBounds];lia),Fh];dsimp only;have e1:(arr.toList.set (sa+k) x).take (sa+(k+1))=arr.toList.take (sa+k)++[x]:=by
   rw[<-rQ,iG,rq hs,List.take_set_of_le (aW _)];rfl
  have e2:(arr.toList.set (sa+k) x).drop (sa+(k+1)+l.length)=arr.toList.drop (sa+k+(x::l).length):=by
   rw[List.drop_set_of_lt (by lia),cu];congr 1;lia
  rw[e1,e2,dG,dG,dG];rfl
section
variable {prog:Program} {w:World} {A:Around} {E:Value->Shared->Prop} {s:Shared} {κ:SortKind} {a₀:Array Keyed}
def SR(κ:SortKind)(a₀:Array Keyed)(lo:Nat)(st:SortSt):Prop:=∃pd,SQ κ a₀ pd st/\jn pd.toList 0 lo/\lo<=a₀.size
theorem kT{st:SortSt}{i lo:Nat}{Q:Bool->SortSt->Prop}(hC:yd prog w A s κ a₀)(hB:SR κ a₀ lo st)(hi:i+1<(pendingOf st).size)(h:∀bg,SR κ a₀ lo bg->Q true bg):wpS (model prog w) A E s (mergeAt' i) Q st:=by
 obtain⟨pd,hq,hr,V0⟩:=hB;rw[hq.pend] at hi;rw[yn];refine av (io ?_);have e1:pd[i]?=some pd[i]:=dM pd i (by lia);have e2:pd[i+1]?=some pd[i+1]:=dM pd (i+1) hi;obtain⟨a1,a2,a3,a4,a5⟩:=hr.two (i:=i) (x:=pd[i]) (y:=pd[i+1]) (by simpa using e1) (by simpa using e2);rw[hq.pend,e1,e2];revert a1 a2 a3 a4 a5;generalize pd[i]=x;generalize pd[i+1]=y;obtain⟨sa,na,pw⟩:=x;obtain⟨sb,nb,pw2⟩:=y;intro a1 a2 a3 a4 a5;dsimp only at a1 a2 a3 a4 a5 |-;obtain⟨KA,S4⟩:∃KA,KA=(pd.setIfInBounds i (sa,na+nb,pw)).eraseIdxIfInBounds (i+1):=⟨_,rfl⟩
 have E5:jn KA.toList 0 lo:=by
  rw[S4,Array.toList_eraseIdxIfInBounds,Fh];exact a5 pw
 refine av (Kz ?_);rw[<-S4];have Mu:SM κ (arrOf st) KA (setPending st KA):=⟨rfl,hq.kind,hq.failed,rfl⟩
 have hsz:=hq.size;have pO:∀x∈(arrOf st).toList,x∈a₀.toList:=fun x hx=>(nG.mp hq.perm).mem_iff.mp hx;have fin:∀bg,SM κ (arrOf st) KA bg->SR κ a₀ lo bg:=fun bg m=>⟨KA,⟨by rw[m.arr];exact hq.perm,m.kind,m.failed,m.pend⟩,E5,V0⟩
 refine av (bw (dM (arrOf st) sb (by lia)) ?_);refine av (fQ hC Mu.kind (pO _ (by simp)) pO (by lia) (by lia) fun k hk=>?_);dsimp only;by_cases f1:(na-k==0)=true
 .rw[ai f1];exact aM (h _ (fin _ Mu))
 rw[ap f1];have g1:¬ (na-k=0):=by simpa using f1
 refine av (bw (dM (arrOf st) (sa+k+(na-k)-1) (by lia)) ?_);refine av (fQ hC Mu.kind (pO _ (by simp)) pO (by lia) (by lia) fun k2 hk2=>?_);dsimp only;by_cases f2:(k2==0)=true
 .rw[ai f2];exact aM (h _ (fin _ Mu))
 rw[ap f2];have g2:¬ (k2=0):=by simpa using f2
 have hx:∀x∈((arrOf st).extract (sa+k) sb).toList,x∈a₀.toList:=fun x hx=>pO x (by rw[eE] at hx;exact vH (mf hx));have hy:∀x∈((arrOf st).extract sb (sb+k2)).toList,x∈a₀.toList:=fun x hx=>pO x (by rw[eE] at hx;exact vH (mf hx));have sx:((arrOf st).extract (sa+k) sb).size=sb-(sa+k):=by rw[Array.size_extract];lia
 have sy:((arrOf st).extract sb (sb+k2)).size=k2:=by rw[Array.size_extract];lia
 have last:∀ (out:Array Keyed) (bg:SortSt),out.Perm ((arrOf st).extract (sa+k) sb++(arrOf st).extract sb (sb+k2))->SM κ (arrOf st) KA bg->wpS (model prog w) A E s (do
   modify fun s=>setArr s (out.toList.zipIdx.foldl (fun a (p,j)=>a.setIfInBounds (sa+k+j) p) (arrOf s))
   return (failedOf (<-get)).isNone) Q bg:=by
  intro out bg hp m;refine av (gC ?_);refine av (io (aM ?_));have Jx:out.toList.length=sb-(sa+k)+k2:=by
   rw[eN,hp.size_eq,Array.size_append,sx,sy]
  have wl:=tf (sa:=sa+k) out.toList 0 (arrOf bg) (by rw[m.arr,Jx];lia);have pm:(out.toList.zipIdx.foldl (fun a (p,j)=>a.setIfInBounds (sa+k+j) p) (arrOf bg)).Perm (arrOf st):=by
   rw[nG];refine(vV wl).trans ?_;rw[m.arr,Jx,Nat.add_zero];have Gi:=nG.mp hp;rw[eY,eE,eE] at Gi;refine((Gi.append_left _).append_right _).trans ?_;have e1:(arrOf st).toList.drop (sa+k)=((arrOf st).toList.drop (sa+k)).take (sb-(sa+k))++(arrOf st).toList.drop sb:=om (by lia);have e2:(arrOf st).toList.drop sb=((arrOf st).toList.drop sb).take (sb+k2-sb)++(arrOf st).toList.drop (sb+k2):=om (by lia);have e3:sa+k+(sb-(sa+k)+k2)=sb+k2:=by lia
   rw[e3];refine vV ?_;conv=>rhs;rw[<-md (sa+k) (arrOf st).toList,e1,e2]
   simp only[dG]
  have hf:(failedOf bg).isNone=true:=by rw[m.failed];rfl
  show Q (failedOf bg).isNone _;rw[hf];exact h _ ⟨KA,⟨pm.trans hq.perm,m.kind,m.failed,m.pend⟩,E5,V0⟩
 by_cases f3:na-k<=k2
 .rw[ai f3];exact av (yh hC Mu hx hy (by lia) (by lia) fun out bg hp m=>last out bg hp m)
 .rw[ap f3];exact av (ym hC Mu hx hy (by lia) (by lia) fun out bg hp m=>last out bg hp m)
theorem yo{c:Prop}[Decidable c]{x:Nat}:(if c then x-1 else x)<=x:=by split <;> lia
theorem SR.pw{lo:Nat}{st:SortSt}(h:SR κ a₀ lo st)(i p:Nat):SR κ a₀ lo (setPending st ((pendingOf st).modify i fun r=>(r.1,r.2.1,p))):=by
 obtain⟨pd,hq,hr,hl⟩:=h;refine⟨_,⟨hq.perm,hq.kind,hq.failed,rfl⟩,?_,hl⟩;show jn ((pendingOf st).modify i fun r=>(r.1,r.2.1,p)).toList 0 lo;rw[hq.pend,Array.toList_modify];exact hr.pw i p
theorem SR.push{lo n:Nat}{st:SortSt}(h:SR κ a₀ lo st)(h1:1<=n)(hn:lo+n<=a₀.size):SR κ a₀ (lo+n) (setPending st ((pendingOf st).push (lo,n,0))):=by
 obtain⟨pd,hq,hr,hl⟩:=h;refine⟨_,⟨hq.perm,hq.kind,hq.failed,rfl⟩,?_,hn⟩;show jn ((pendingOf st).push (lo,n,0)).toList 0 (lo+n);rw[hq.pend,kj];exact hr.push h1
theorem D8{st:SortSt}{Q:Unit->SortSt->Prop}(hC:yd prog w A s κ a₀)(hp:(arrOf st).Perm a₀)(hk:kindOf st=κ)(hf:failedOf st=none)(hpd:pendingOf st=#[])(h:∀bg,(arrOf bg).Perm a₀->failedOf bg=none->Q () bg):wpS (model prog w) A E s sortRuns' Q st:=by
 have h0:SR κ a₀ 0 st:=⟨#[],⟨hp,hk,hf,hpd⟩,rfl,cF _⟩
 have hsz:(arrOf st).size=a₀.size:=hp.size_eq;rw[sortRuns'_eq];refine av (io ?_);dsimp only;rw[hsz];refine av (dW (fG (I:=fun _ c bg=>∃lo,c=(none,lo)/\SR κ a₀ lo bg) (Q:=fun c bg=>∃lo,c=(none,lo)/\SR κ a₀ lo bg) ?_ (fun c bg hh=>hh) ⟨0,rfl,h0⟩) ?_)
 .rintro i c JF _ _ ⟨lo,rfl,hR⟩;dsimp only;by_cases e1:lo>=a₀.size
  .rw[ai e1];exact aM ⟨lo,rfl,hR⟩
  rw[ap e1];have V0:lo<a₀.size:=by lia
  obtain⟨pd,hq,hr,hl⟩:=hR;refine av (D7 hC (by lia) (by lia) hq fun n oC V3 n1 n2=>?_);dsimp only;by_cases hm:n<minRun' a₀.size a₀.size 0
  .rw[ai hm];refine av (mG (wpAny_rule ⟨rfl,?_⟩));refine av (Ku hC (by lia) V3 fun xA hq3=>?_);simp only[rR,ml,iZ];have Jy:SR κ a₀ lo xA:=⟨pd,hq3,hr,hl⟩
   refine av (io ?_);cases hb:(pendingOf xA).back? with
   |none=>
    dsimp only;exact av (gC (aM ⟨_,rfl,Jy.push (by lia) (by lia)⟩))
   |some r=>
    obtain⟨s1,n1',pw1⟩:=r;dsimp only;refine av (dW (fG (I:=fun _ c bg=>c=(none,())/\SR κ a₀ lo bg) (Q:=fun c bg=>c=(none,())/\SR κ a₀ lo bg) ?_ (fun c bg hh=>hh) ⟨rfl,Jy⟩) ?_)
    .rintro x c uq _ _ ⟨rfl,yq⟩;refine av (io ?_);by_cases hs:(pendingOf uq).size > 1
     .rw[ai hs,dM (pendingOf uq) ((pendingOf uq).size-2) (by lia)];generalize (pendingOf uq)[(pendingOf uq).size-2]=r4;obtain⟨_,_,S5⟩:=r4;dsimp only;split
      .exact aM ⟨rfl,yq⟩
      .refine av (kT hC yq (by lia) fun uo S7=>?_);simp only[rR,ml,iZ];exact aM ⟨rfl,S7⟩
     .rw[ap hs];exact aM ⟨rfl,yq⟩
    .rintro c uq ⟨rfl,yq⟩;dsimp only;exact av (gC (av (gC (aM ⟨_,rfl,(yq.pw _ _).push (by lia) (by lia)⟩))))
  .rw[ap hm];have Jy:SR κ a₀ lo oC:=⟨pd,V3,hr,hl⟩
   refine av (io ?_);cases hb:(pendingOf oC).back? with
   |none=>
    dsimp only;exact av (gC (aM ⟨_,rfl,Jy.push (by lia) (by lia)⟩))
   |some r=>
    obtain⟨s1,n1',pw1⟩:=r;dsimp only;refine av (dW (fG (I:=fun _ c bg=>c=(none,())/\SR κ a₀ lo bg) (Q:=fun c bg=>c=(none,())/\SR κ a₀ lo bg) ?_ (fun c bg hh=>hh) ⟨rfl,Jy⟩) ?_)
    .rintro x c uq _ _ ⟨rfl,yq⟩;refine av (io ?_);by_cases hs:(pendingOf uq).size > 1
     .rw[ai hs,dM (pendingOf uq) ((pendingOf uq).size-2) (by lia)];generalize (pendingOf uq)[(pendingOf uq).size-2]=r4;obtain⟨_,_,S5⟩:=r4;dsimp only;split
      .exact aM ⟨rfl,yq⟩
      .refine av (kT hC yq (by lia) fun uo S7=>?_);simp only[rR,ml,iZ];exact aM ⟨rfl,S7⟩
     .rw[ap hs];exact aM ⟨rfl,yq⟩
    .rintro c uq ⟨rfl,yq⟩;dsimp only;exact av (gC (av (gC (aM ⟨_,rfl,(yq.pw _ _).push (by lia) (by lia)⟩))))
 .rintro c JF ⟨lo,rfl,hR⟩;dsimp only;refine av (dW (fG (I:=fun _ c bg=>c=(none,())/\SR κ a₀ lo bg) (Q:=fun c bg=>c=(none,())/\SR κ a₀ lo bg) ?_ (fun c bg hh=>hh) ⟨rfl,hR⟩) ?_)
  .rintro x c uq _ _ ⟨rfl,yq⟩;refine av (io ?_);by_cases hs:(pendingOf uq).size<=1
   .rw[ai hs];exact aM ⟨rfl,yq⟩
   rw[ap hs];refine av (kT hC yq ?_ fun uo S7=>?_)
   .exact fE (Nat.succ_le_succ yo) (show (pendingOf uq).size-2+1<(pendingOf uq).size by lia)
   .simp only[rR,ml,iZ];exact aM ⟨rfl,S7⟩
  .rintro c uq ⟨rfl,pd,hq,_⟩;exact aM (h _ hq.perm hq.failed)
end
end PyProof.Rows
namespace L2
open PySem PySem.Spec PyProof.Rows PySem.W
def jI(h:Heap)(vs:List Value):Prop:=∀v∈vs,∃a o n x t y u,v=Value.ref a/\h.get? a=some o/\o.cls=.type "tuple"/\o.data=.seq #[.int x t,.int y u] n
theorem jI.mQ{h:Heap}:∀ {vs:List Value},jI h vs->∃fs,KatTups h vs fs/\fs.length=vs.length/\∀v∈fs,∃n t,v=Value.int n t
 |[],_=>⟨[],trivial,rfl,fun v hv=>nomatch hv⟩
 |v::vs,hp=>by
  obtain⟨fs,k1,k2,k3⟩:=jI.mQ (vs:=vs) fun b hb=>hp b (bJ _ hb);obtain⟨a,o,n,x,t,y,u,rfl,e,c,d⟩:=hp v bG;refine⟨.int x t::fs,KatTups.cons e c d rfl k1,by simp[k2],fun v hv=>?_⟩;rcases ba.mp hv with z|z
  .exact⟨x,t,z⟩
  .exact k3 v z
section
variable {prog:Program} {w:World} {A:Around} {E:Value->Shared->Prop} {s:Shared}
theorem D9{vs:List Value}(hp:jI s.heap vs):yd prog w A s (tuples' true) (vs.toArray.zip vs.toArray):=by
 have mem:∀x∈(vs.toArray.zip vs.toArray).toList,x.1∈vs:=by
  intro x hx;rw[Array.toList_zip] at hx;exact(rL hx).1
 intro x y hx hy Q E' q;obtain⟨a,o,n,x1,t1,x2,t2,e1,eo,_,ed⟩:=hp x.1 (mem x hx);obtain⟨b,o',n',y1,u1,y2,u2,e2,eo',_,ed'⟩:=hp y.1 (mem y hy);rw[e1,e2];refine kat_lt eo ed eo' ed' (kat_cons (Aa ?_));by_cases h1:x1=y1
 .rw[eA.mpr h1];refine kat_yes (kat_cons (Aa ?_));by_cases h2:x2=y2
  .rw[eA.mpr h2];exact kat_yes (kat_nil (q _))
  .rw[mh.mpr h2];exact kat_no (kat_one _ _ (lt_int (q _)))
 .rw[mh.mpr h1];exact kat_no (oneLt_int (q _))
theorem KB{vs:List Value}:((vs.toArray.zip vs.toArray).map (·.2)).toList=vs:=by
 rw[vS,Array.toList_zip];show (vs.zip vs).map (·.2)=vs;rw[<-List.unzip_snd,List.unzip_zip_right (aW _)]
theorem qx{a:Addr}{vs:List Value}{n:Nat}{P:PySem.Fin->Shared->Prop}(ho:s.heap.get? a=some (seqObj "list" vs.toArray n))(hp:jI s.heap vs)(hz:vs.length<=4096)(h:∀ (out:Array Value),out.toList.Perm vs->P (.done (.ret .none)) { s with heap:=sortedHeap s.heap a vs out }):
  wpAny (model prog w) A (Builtin.«list.sort» ⟨[.ref a],[]⟩) P E s:=by
 rw[list_sort_plain];have ha:a<s.heap.objs.size:=aO ho;have Q6:vs.toArray.size<=sizeLine:=by rw[cV,ky];lia
 refine ak (listItems_at ho rfl ?_);refine ak (listUpdate_at ho rfl ?_ Q6 (cF _));obtain⟨e1,MR⟩:∃e1,(s.heap.update a (Obj.mapSeq fun _=>#[])).get? a=some (seqObj "list" #[] e1):=⟨_,get?_update_seq ho (fun _=>#[])⟩
 refine ak (seqEpoch_at MR rfl ?_);refine ak (wpAny_newTuple ?_ (by show vs.length<=_;rw[ky];lia));refine ak (wpAny_newList ?_ (cF _));refine gm ?_;have Re:(((s.heap.update a (Obj.mapSeq fun _=>#[])).push (seqObj "tuple" vs.toArray 0)).push (seqObj "list" #[] 0)).get? a=some (seqObj "list" #[] e1):=by
  rw[jT _ _ _ (by rw[kA,iU];exact aX (dZ ha)),jT _ _ _ (by rw[iU];exact aX ha)];exact MR
 have hp6:jI (((s.heap.update a (Obj.mapSeq fun _=>#[])).push (seqObj "tuple" vs.toArray 0)).push (seqObj "list" #[] 0)) vs:=by
  intro v hv;obtain⟨b,o,n,x,t,y,u,ev,e,c,d⟩:=hp v hv;have hb:b<s.heap.objs.size:=aO e;have lN:b≠a:=by
   rintro rfl;rw[ho] at e;cases e;exact absurd (Value.type.inj c) (by decide)
  refine⟨b,o,n,x,t,y,u,ev,?_,c,d⟩;rw[jT _ _ _ (by rw[kA,iU];exact aX (dZ hb)),jT _ _ _ (by rw[iU];exact aX hb),rE _ _ _ _ lN];exact e
 show wpAny (model prog w) A _ P E { s with heap:=((s.heap.update a (Obj.mapSeq fun _=>#[])).push (seqObj "tuple" vs.toArray 0)).push (seqObj "list" #[] 0) };dsimp only;have fin:∀bg:SortSt,(arrOf bg).Perm (vs.toArray.zip vs.toArray)->P (.done (.ret .none)) { s with heap:=sortedHeap s.heap a vs ((arrOf bg).map (·.2)) }:=by
  intro bg Wc;refine h _ ?_;have:=(nG.mp Wc).map (·.2);rw[<-vS,<-vS,KB] at this;exact this
 have zsz:(vs.toArray.zip vs.toArray).size=vs.length:=by simp
 by_cases h2:vs.toArray.size<2
 .rw[ai h2,ai h2];refine ak (wpAny_pure ?_);rw[StateT.run_pure];refine ak (wpAny_pure ?_);dsimp only;refine ak (seqEpoch_at Re rfl ?_);refine ak (listUpdate_at Re rfl ?_ (cF _) (by show ((vs.toArray.zip vs.toArray).map (·.2)).size<=_;rw[iW,zsz,ky];lia));simp only[bne_self_eq_false,ml,iZ];exact wpAny_pure (fin (SortSt.mk' general' (vs.toArray.zip vs.toArray) #[] 7 none) (Array.Perm.refl _))
 .rw[ap h2,ap h2];have de:2<=vs.length:=by rw[cV] at h2;lia
  obtain⟨fs,k1,k2,k3⟩:=hp6.mQ;refine ak (kat_kind (T:=.type "int") k1 (by lia) (fun v hv=>?_) rfl ?_)
  .obtain⟨m,t,rfl⟩:=k3 v hv;exact .now
  refine ak (gy (D8 (a₀:=vs.toArray.zip vs.toArray) (κ:=tuples' true) (st:=SortSt.mk' (tuples' true) (vs.toArray.zip vs.toArray) #[] 7 none)
   (Q:=fun _ bg=>(arrOf bg).Perm (vs.toArray.zip vs.toArray)/\failedOf bg=none) (D9 hp6) (Array.Perm.refl _) rfl rfl rfl fun bg b1 b2=>⟨b1,b2⟩) ?_ fun _ _ e=>e)
  rintro⟨⟨⟩,bg⟩ s' ⟨rfl,Wc,hf⟩;dsimp only;refine ak (seqEpoch_at Re rfl ?_);refine ak (listUpdate_at Re rfl ?_ (cF _) (by refine bj (mD ((iW ..).trans (Wc.size_eq.trans zsz))) ?_;rw[ky];lia));rw[hf];simp only[bne_self_eq_false,ml,iZ];exact wpAny_pure (fin bg Wc)
theorem wK{l:Addr}{vs:List Value}{Q:Value->Shared->Prop}(hl:s.heap.IsList l vs.toArray)(hp:jI s.heap vs)(hz:vs.length<=4096)(h:∀ (out:Array Value),out.toList.Perm vs->Q (.ref (s.heap.objs.size+1)) { s with heap:=sortedAll s.heap vs out }):
  wpAny (model prog w) A (call (.builtin "sorted") [.ref l]) Q E s:=by
 have Q6:vs.length<=sizeLine:=by rw[ky];lia
 refine Calls.call_function_entry kind_sorted plain_sorted entry_sorted (args_sorted1 _) ?_;unfold Builtin.«sorted»;refine ak (m:=checkCount "sorted" 1 1 _) (wpAny_pure ?_);refine ak (collect_list hl ?_ Q6);refine ak (wpAny_newList ?_ Q6);have hsz:((s.heap.push (seqObj "list" #[] 0)).update s.heap.objs.size (Obj.mapSeq (·++vs.toArray))).objs.size=s.heap.objs.size+1:=by
  rw[iU,kA]
 have EY:(((s.heap.push (seqObj "list" #[] 0)).update s.heap.objs.size (Obj.mapSeq (·++vs.toArray))).push (seqObj "list" vs.toArray 0)).get? (s.heap.objs.size+1)=some (seqObj "list" vs.toArray 0):=by
  rw[<-hsz];exact b_ _ rfl
 have XI:jI (((s.heap.push (seqObj "list" #[] 0)).update s.heap.objs.size (Obj.mapSeq (·++vs.toArray))).push (seqObj "list" vs.toArray 0)) vs:=by
  intro v hv;obtain⟨b,o,n,x,t,y,u,ev,e,c,d⟩:=hp v hv;have hb:b<s.heap.objs.size:=aO e;refine⟨b,o,n,x,t,y,u,ev,?_,c,d⟩;rw[jT _ _ _ (by rw[hsz];exact aX (dZ hb)),rE _ _ _ _ (aX hb),jT _ _ _ (aX hb)];exact e
 show wpAny _ _ _ _ _ { s with heap:=((s.heap.push (seqObj "list" #[] 0)).update s.heap.objs.size (Obj.mapSeq (·++vs.toArray))).push (seqObj "list" vs.toArray 0) };rw[hsz];refine ak (gm (h_ slot_list_sort ⟨_,EY,rfl⟩ entry_list_sort (qx EY XI hz fun out a1=>⟨_,rfl,?_⟩) (args_list_sort _)));exact wpAny_pure ⟨_,rfl,h out a1⟩
end
theorem tj:∀ {as:List Addr} {its:List Value},aY (as.map V.ref) its->its=as.map Value.ref
 |[],_,r=>by cases r;rfl
 |a::as,_,r=>by
  cases r with
  |cons r rr=>
   obtain rfl:=(show _=Value.ref a from r)
   rw[tj rr];rfl
theorem vb:∀ {as:List Addr},aY (as.map V.ref) (as.map Value.ref)
 |[]=>.nil
 |_::_=>.cons rfl vb
theorem D_{as:List Addr}{vs:List Value}(h:vs.Perm (as.map Value.ref)):∃y4:List Addr,vs=y4.map Value.ref/\y4.Perm as:=by
 let un:Value->Addr:=fun v=>match v with|.ref a=>a|_=>0
 refine⟨vs.map un,?_,?_⟩
 .rw[fh];have:∀v∈vs,(Value.ref ∘ un) v=v:=by
   intro v hv;obtain⟨a,_,rfl⟩:=a9.mp (h.mem_iff.mp hv);rfl
  conv=>lhs;rw[<-jz vs]
  exact lT fun v hv=>(this v hv).symm
 .have:=h.map un;rw[fh] at this;have e:as.map (un ∘ Value.ref)=as:=by
   conv=>rhs;rw[<-jz as]
   exact lT fun a _=>rfl
  rw[e] at this;exact this
def GQ(K:PySem.W.Frag):List V->Hp->VK->Prop:=fun xs H Q=>∃ (l:Addr) (as:List Addr),xs=[.ref l]/\br K H l (as.map V.ref)/\(∀a∈as,∃x y:Int,bp K H a [.int x,.int y])/\as.length<=4096/\
 ∀ (D:Addr) (y4:List Addr),H D=none->y4.Perm as->Q (.ref D) (upd H D (.lst (y4.map V.ref)))
theorem AW{X:Cx}:gu X (.builtin "sorted") (GQ X.K):=by
 intro ae s σ H xs us Q I r h;obtain⟨l,as,rfl,hl,hp,hz,q⟩:=h;obtain⟨u1,rfl,r1⟩:=r.one;obtain rfl:u1=Value.ref l:=r1;obtain⟨its,rv,pl,_⟩:=I.list hl;have Ol:=tj rv;subst Ol;have hpv:jI s.heap (as.map Value.ref):=by
  intro v hv;obtain⟨a,ha,rfl⟩:=a9.mp hv;obtain⟨x,y,Ox⟩:=hp a ha;obtain⟨its,r,⟨o,e,c,n,d⟩,_⟩:=I.tuple Ox;obtain⟨u1,u2,rfl,r1,r2⟩:=r.two;obtain⟨t,rfl⟩:=r1;obtain⟨t',rfl⟩:=r2;exact⟨a,o,n,x,t,y,t',rfl,e,c,d⟩
 refine wK pl.isList hpv (by rw[aP];exact hz) fun out tm=>?_;obtain⟨y4,eo,pa⟩:=D_ tm;have DS:out=(y4.map Value.ref).toArray:=by rw[<-eo]
 subst DS;have XU:((s.heap.push (seqObj "list" #[] 0)).update s.heap.objs.size (Obj.mapSeq (·++(as.map Value.ref).toArray))).objs.size=s.heap.objs.size+1:=by rw[iU,kA]
 have k1:∀b u,s.heap.get? b=some u->(((s.heap.push (seqObj "list" #[] 0)).update s.heap.objs.size (Obj.mapSeq (·++(as.map Value.ref).toArray))).push (seqObj "list" (as.map Value.ref).toArray 0)).get? b=some u:=fun b u e=>by
  have hb:b<s.heap.objs.size:=aO e;rw[jT _ _ _ (by rw[XU];exact aX (dZ hb)),rE _ _ _ _ (aX hb),jT _ _ _ (aX hb)];exact e
 have EY:(((s.heap.push (seqObj "list" #[] 0)).update s.heap.objs.size (Obj.mapSeq (·++(as.map Value.ref).toArray))).push (seqObj "list" (as.map Value.ref).toArray 0)).get? (s.heap.objs.size+1)=some (seqObj "list" (as.map Value.ref).toArray 0):=by
  rw[<-XU];exact b_ _ rfl
 have Rf:(((s.heap.push (seqObj "list" #[] 0)).update s.heap.objs.size (Obj.mapSeq (·++(as.map Value.ref).toArray))).push (seqObj "list" (as.map Value.ref).toArray 0)).objs.size=s.heap.objs.size+2:=by rw[kA,XU]
 show EP X ae σ Q (.ref (s.heap.objs.size+1)) { s with heap:=sortedHeap (((s.heap.push (seqObj "list" #[] 0)).update s.heap.objs.size (Obj.mapSeq (·++(as.map Value.ref).toArray))).push (seqObj "list" (as.map Value.ref).toArray 0)) (s.heap.objs.size+1) (as.map Value.ref) (y4.map Value.ref).toArray };revert k1 EY Rf;generalize ((s.heap.push (seqObj "list" #[] 0)).update s.heap.objs.size (Obj.mapSeq (·++(as.map Value.ref).toArray))).push (seqObj "list" (as.map Value.ref).toArray 0)=h1;intro k1 EY Rf;obtain⟨e1,MR⟩:∃e1,(h1.update (s.heap.objs.size+1) (Obj.mapSeq fun _=>(#[]:Array Value))).get? (s.heap.objs.size+1)=some (seqObj "list" #[] e1):=⟨_,get?_update_seq EY (fun _=>#[])⟩
 have Re:(((h1.update (s.heap.objs.size+1) (Obj.mapSeq fun _=>(#[]:Array Value))).push (seqObj "tuple" (as.map Value.ref).toArray 0)).push (seqObj "list" #[] 0)).get? (s.heap.objs.size+1)=some (seqObj "list" #[] e1):=by
  rw[jT _ _ _ (by rw[kA,iU,Rf];exact aX (dZ (iT _))),jT _ _ _ (by rw[iU,Rf];exact aX (iT _))];exact MR
 obtain⟨e2,ho7⟩:∃e2,(sortedHeap h1 (s.heap.objs.size+1) (as.map Value.ref) (y4.map Value.ref).toArray).get? (s.heap.objs.size+1)=some (seqObj "list" (y4.map Value.ref).toArray e2):=⟨_,get?_update_seq Re (fun _=>(y4.map Value.ref).toArray)⟩
 have keep:∀b u,s.heap.get? b=some u->(sortedHeap h1 (s.heap.objs.size+1) (as.map Value.ref) (y4.map Value.ref).toArray).get? b=some u:=fun b u e=>by
  have hb:b<s.heap.objs.size:=aO e;unfold sortedHeap;rw[rE _ _ _ _ (aX (dZ hb)),jT _ _ _ (by rw[kA,iU,Rf];exact aX (dZ (dZ (dZ hb)))),jT _ _ _ (by rw[iU,Rf];exact aX (dZ (dZ hb))),rE _ _ _ _ (aX (dZ hb))];exact k1 b u e
 have MU:s.heap.get? (s.heap.objs.size+1)=none:=rD (by lia);refine⟨.ref (s.heap.objs.size+1),_,I.xS (t':=s.toks) (o:=.lst (y4.map V.ref)) keep MU ⟨?_,y4.map Value.ref,e2,vb,ho7⟩,rfl,q _ y4 (I.ck.sL MU) pa⟩;rw[aP,pa.length_eq];exact bj hz (by decide)
open PySem PySem.Spec PyProof.Rows
theorem cT(sb:Heap.SameBut c h h')(n:b≠c)(e:h.get? b=some o):h'.get? b=some o:=(sb.2 b n).trans e
section
variable {prog:Program} {w:World} {A:Around} {E:Value->Shared->Prop} {s:Shared}
end
theorem aI.KC{X:Cx}{ae:List (Addr×Obj)}{σ:St}{H:Hp}{s:Shared}{h':Heap}{t':Nat}{ch:List Addr}(I:aI X ae σ H s)(fe:∀e∈ch,gs X ae H e)(k:∀b o,b∉ch->s.heap.get? b=some o->h'.get? b=some o):aI X ae σ H { s with heap:=h',toks:=t' }:=by
 have Mi:∀b u,H b=some u->b∉ch:=fun b u e z=>by rw[(fe b z).1] at e;cases e
 refine I.step (g':=s.gens) (d':=s.drawn) (ch:=ch) (fun b hb=>?_) (fun b o _ _ hc e _=>k b o hc e) (fun b o _ _ hc e _=>⟨o.slots,k b o hc e⟩) (fun _ _ _ _ n=>n) (fun b o hc e=>⟨o,k b o hc e⟩) (fun _ _ e=>e) (fun _ _ _ e=>e) (fun b ps e=>⟨#[],by rw[e];simp⟩) (fun m hm=>?_) (fun b u e=>?_) I.bare
 .obtain⟨_,f1,_,f3,f4,f5⟩:=fe b hb;exact⟨f3,f1,f4,f5⟩
 .obtain⟨o,es,ep,ho,r⟩:=hm;exact⟨o,es,ep,k _ o (fun z=>(fe _ z).2.1 rfl) ho,r⟩
 .refine(I.ck b u e).lL (fun c v hc q=>k c v ?_ q) (fun _ q=>q) fun _ _ q=>q;rcases hc with z|z
  .rw[z];exact Mi b u e
  .exact Mi c _ z
theorem aI.KD{X:Cx}{ae:List (Addr×Obj)}{σ:St}{H:Hp}{s:Shared}{h':Heap}{p:Addr}{t':Nat}{ch:List Addr}{xs:List V}{its:List Value}(I:aI X ae σ H s)(fe:∀e∈ch,gs X ae H e)(k:∀b o,b∉ch->s.heap.get? b=some o->h'.get? b=some o)(hp:s.heap.objs.size<=p)(hl:xs.length<=sizeLine)(r:aY xs its)(ht:h'.get? p=some { cls:=.type "tuple",data:=.seq its.toArray }):aI X ae σ (upd H p (.tup xs)) { s with heap:=h',toks:=t' }:=by
 have hn:=I.ck.fresh hp;have ne:∀b o,s.heap.get? b=some o->b≠p:=fun b o q=>aX (bK (aO q) hp);have Mi:∀b u,H b=some u->b∉ch:=fun b u e z=>by rw[(fe b z).1] at e;cases e
 refine I.step (g':=s.gens) (d':=s.drawn) (ch:=ch) (fun b hb=>?_) (fun b o _ _ hb q _=>k b o hb q) (fun b o _ _ hb q _=>⟨o.slots,k b o hb q⟩) (fun b o hb q n=>by rw[al (ne b o q)];exact n) (fun b o hb q=>⟨o,k b o hb q⟩)
  (fun b ys q=>by rw[al (aq q hn)];exact q) (fun b o u q=>by rw[al (aq q hn)];exact q) (fun b ps q=>⟨#[],by rw[al (aq q hn),q];simp⟩) (fun m hm=>?_) (fun b o q=>?_) I.bare
 .obtain⟨_,f1,_,f3,f4,f5⟩:=fe b hb;exact⟨f3,f1,f4,f5⟩
 .obtain⟨o,es,ep,q,d,r'⟩:=hm;exact⟨o,es,ep,k _ _ (fun z=>(fe _ z).2.1 rfl) q,d,r'⟩
 .by_cases hb:b=p
  .subst hb;rw[ah] at q;cases q;exact⟨hl,its,r,_,ht,rfl,_,rfl,rfl⟩
  .rw[al hb] at q;refine(I.ck b o q).lL (fun c u hc z=>k c u ?_ z) (fun c z=>by rw[al (aq z hn)];exact z) fun c ys z=>by rw[al (aq z hn)];exact z
   rcases hc with rfl|hc
   .exact Mi _ _ q
   .exact Mi _ _ hc
section
variable {X:Cx}
theorem AX(rx:aY xs us)(ry:aY ys vs)(fx:xs.all ir=true)(fy:ys.all ir=true):
  ∀j (h1:j<us.toArray.size) (h2:j<vs.toArray.size),SeqAt.EqAt A s us.toArray[j] vs.toArray[j] (xO (xs.getD j .bR) (ys.getD j .bR)):=by
 intro j h1 h2;have j1:j<xs.length:=by rw[rx.length];simpa using h1
 have j2:j<ys.length:=by rw[ry.length];simpa using h2
 have e1:xs[j]?=some (xs.getD j .bR):=by rw[cr,cU j1];rfl
 have e2:ys[j]?=some (ys.getD j .bR):=by rw[cr,cU j2];rfl
 obtain⟨u,E7,ru⟩:=rx.get e1;obtain⟨v,Oh,rv⟩:=ry.get e2;have eu:us.toArray[j]=u:=by
  have:us[j]?=some us.toArray[j]:=by simp at h1 |-
  rw[E7] at this;exact(a8 this).symm
 have ev:vs.toArray[j]=v:=by
  have:vs[j]?=some vs.toArray[j]:=by simp at h2 |-
  rw[Oh] at this;exact(a8 this).symm
 rw[eu,ev];exact FZ ru rv (j_.mp fx _ (cZ e1)) (j_.mp fy _ (cZ e2))
theorem GR(I:aI X ae σ H s)(hu:A.units+1<cLine)(ha:bp X.K H a xs)(hb:bp X.K H b ys)(hl:xs.length=ys.length)(fx:xs.all ir=true)(fy:ys.all ir=true):
  SeqAt.EqAt A s (.ref a) (.ref b) (iL xO xs ys):=by
 by_cases E9:a=b
 .subst E9;have e1:=I.g_ ha hb;subst e1;have e2:iL xO xs xs=true:=by
   clear ha hb hl fy;induction xs with
   |nil=>rfl
   |cons x xs ih=>
    rw[v6,gh] at fx;rw[iL,ih fx.2,Ab];cases x <;> first|rfl|(show (_==_)=true;simp)|exact absurd (show false=true from fx.1) bq
  rw[e2];exact SeqAt.EqAt.same _
 .obtain⟨us,r1,p1,_⟩:=I.tuple ha;obtain⟨vs,r2,p2,_⟩:=I.tuple hb;have h:=SeqAt.RcAt.tuples (A:=A) (s:=s) (l:=a) (b:=b) (e:=fun i=>xO (xs.getD i .bR) (ys.getD i .bR)) (show s.heap.IsTuple a us.toArray from p1) (show s.heap.IsTuple b vs.toArray from p2) (by lia)
   (AX r1 r2 fx fy)
  refine SeqAt.EqAt.of_refs E9 ?_;have er:((List.range (min us.toArray.size vs.toArray.size)).all (fun i=>xO (xs.getD i .bR) (ys.getD i .bR))&&us.toArray.size==vs.toArray.size)=iL xO xs ys:=by
   rw[cV,cV,<-r1.length,<-r2.length,<-hl,Nat.min_self,beq_self_eq_true,Ab,iM hl]
  rw[er] at h;exact h
theorem AY{p q:Int×Int}:iL xO [.int p.1,.int p.2] [.int q.1,.int q.2]=decide (p=q):=by
 obtain⟨a,b⟩:=p;obtain⟨c,d⟩:=q;show ((a==c)&&((b==d)&&true))=decide ((a,b)=(c,d));by_cases h1:a=c <;> by_cases h2:b=d <;> simp[h1,h2]
def Oy(K:PySem.W.Frag)(Mp:Bool):R2:=fun x y H Q=>∃ (p l:Addr) (u:Int×Int) (as:List Addr) (ps:List (Int×Int)),x=.ref p/\y=.ref l/\bp K H p [.int u.1,.int u.2]/\br K H l (as.map V.ref)/\as.length=ps.length/\(∀i,i<ps.length->bp K H (as.getD i 0) [.int (ps.getD i (0,0)).1,.int (ps.getD i (0,0)).2])/\
 Q (.bl (if Mp then !decide (u∈ps) else decide (u∈ps))) H
open Classical in
theorem CA(I:aI X ae σ H s):∀ {as:List Addr} {ps:List (Int×Int)},as.length=ps.length->(∀i,i<ps.length->bp X.K H (as.getD i 0) [.int (ps.getD i (0,0)).1,.int (ps.getD i (0,0)).2])->
  ((as.map Value.ref).any fun v=>decide (∃a,v=Value.ref a/\bp X.K H a [.int u.1,.int u.2]))=decide (u∈ps)
 |[],[],_,_=>by simp
 |a::as,p::ps,hl,h=>by
  have ih:=CA I (u:=u) (as:=as) (ps:=ps) (by simpa using hl) (fun i hi=>h (i+1) (by simpa using hi));have h0:bp X.K H a [.int p.1,.int p.2]:=h 0 (by simp);rw[fg,kq,ih];have e:decide (∃b,Value.ref a=Value.ref b/\bp X.K H b [.int u.1,.int u.2])=decide (u=p):=by
   rw[im,fD,fD];constructor
   .rintro⟨b,e,hb⟩;cases e;have:=I.g_ h0 hb;have e1:p.1=u.1:=V.int.inj (oZ this).1;have e2:p.2=u.2:=V.int.inj (oZ (oZ this).2).1;exact gD e1.symm e2.symm
   .rintro rfl;exact⟨a,rfl,h0⟩
  rw[e];by_cases z:u=p
  .simp[z]
  .simp[z]
open Classical in
theorem GU{ae:List (Addr×Obj)}{σ:St}{H:Hp}{s:Shared}{A:Around}(I:aI X ae σ H s)(hu:A.units+1<cLine){p:Addr}{u:Int×Int}(hp:bp X.K H p [.int u.1,.int u.2]){as:List Addr}{ps:List (Int×Int)}(hl:as.length=ps.length)(h:∀i,i<ps.length->bp X.K H (as.getD i 0) [.int (ps.getD i (0,0)).1,.int (ps.getD i (0,0)).2]):∀v∈as.map Value.ref,SeqAt.EqAt A s v (.ref p) (decide (∃a,v=Value.ref a/\bp X.K H a [.int u.1,.int u.2])):=by
 intro v hv;obtain⟨a,ha,rfl⟩:=a9.mp hv;obtain⟨i,hi,e⟩:=rC.mp ha;have hq:=h i (by lia);have ea:as.getD i 0=a:=by rw[cr,cU hi];exact e
 rw[ea] at hq;have z:=GR (A:=A) I hu hq hp rfl rfl rfl;rw[AY] at z;have e:decide (∃b,Value.ref a=Value.ref b/\bp X.K H b [.int u.1,.int u.2])=decide (ps.getD i (0,0)=u):=by
  rw[im,fD,fD];constructor
  .rintro⟨b,e,hb⟩;cases e;have:=I.g_ hq hb;exact gD (V.int.inj (oZ this).1) (V.int.inj (oZ (oZ this).2).1)
  .intro e;rw[<-e];exact⟨a,rfl,hq⟩
 rw[e];exact z
open Classical in
theorem Ea(hu:X.A.units+2<cLine):lV X (compareOp .NotIn) (Oy X.K true):=by
 intro ae s σ H x y v u Q I rx ry h;obtain⟨p,l,w,as,ps,rfl,rfl,hp,hl,de,hps,q⟩:=h;obtain rfl:v=Value.ref p:=rx;obtain rfl:u=Value.ref l:=ry;obtain⟨its,r,pl,_⟩:=I.list hl;have e:=tj r;subst e;refine SeqAt.notIn_listAt (fun v=>decide (∃a,v=Value.ref a/\bp X.K H a [.int w.1,.int w.2])) pl.isList (fun y hy=>GU I (by show X.A.units+1+1<cLine;lia) hp de hps y (by simpa using hy)) ⟨.bl _,H,I,rfl,?_⟩;rw[show (as.map Value.ref).toArray.any (fun v=>decide (∃a,v=Value.ref a/\bp X.K H a [.int w.1,.int w.2]))=(as.map Value.ref).any (fun v=>decide (∃a,v=Value.ref a/\bp X.K H a [.int w.1,.int w.2])) by simp,CA I de hps];exact q
end
end L2
namespace jJ
abbrev Ts:=List (Int×Int)
def T(ts:Ts)(a b:Nat):Prop:=(((a:Nat):Int),((b:Nat):Int))∈ts
instance (ts:Ts) (a b:Nat):Decidable (T ts a b):=inferInstanceAs (Decidable (_∈_))
def jK(ts:Ts):Nat->Nat->Nat->Prop
 |0,a,b=>a=b
 |k+1,a,b=>∃c,jK ts k a c/\T ts c b
theorem jK.trans(h:jK ts k a b):∀ {l:Nat} {c:Nat},jK ts l b c->jK ts (k+l) a c
 |0,_,e=>by cases e;exact h
 |l+1,_,⟨d,w,t⟩=>⟨d,h.trans w,t⟩
theorem jK.one(h:T ts a b):jK ts 1 a b:=⟨a,rfl,h⟩
theorem jK.cons(h:T ts a b)(w:jK ts k b c):jK ts (k+1) a c:=by
 have:=(jK.one h).trans w;rwa [Nat.add_comm] at this
def vc(ts:Ts)(a b d:Nat):Prop:=jK ts d a b/\∀k,jK ts k a b->d<=k
theorem vc.uniq(h:vc ts a b d)(g:vc ts a b e):d=e:=Nat.le_antisymm (h.2 _ g.1) (g.2 _ h.1)
open Classical in
noncomputable def MV(ts:Ts)(a b:Nat):Nat:=if h:∃d,vc ts a b d then h.choose else 0
theorem Oz(h:vc ts a b d):MV ts a b=d:=by
 unfold MV;have hx:∃d,vc ts a b d:=⟨d,h⟩
 rw[dif_pos hx];exact hx.choose_spec.uniq h
structure fR(n:Nat)(ts:Ts):Prop where
 n1:2<=n
 n2:n<=32
 nd:ts.Nodup
 rg:∀t∈ts,(0<=t.1/\t.1<n)/\(0<=t.2/\t.2<n)
 ne:∀t∈ts,t.1≠t.2
 bal:∀h:Int,(ts.filter fun t=>decide (t.1=h)).length=(ts.filter fun t=>decide (t.2=h)).length
 most:∀h:Int,(ts.filter fun t=>decide (t.1=h)).length<=8
 con:∀a b,a<n->b<n->∃k,jK ts k a b
theorem Eb(f:α->Int):∀ (l:List α) (n:Nat),(∀x∈l,0<=f x/\f x<n)->(∀h:Int,(l.filter fun t=>decide (f t=h)).length<=8)->l.length<=8*n:=by
 intro l n;induction n generalizing l with
 |zero=>
  intro h _;cases l with
  |nil=>simp
  |cons x xs=>have:=h x bG;lia
 |succ n ih=>
  intro h h8;have e:l.length=(l.filter fun t=>decide (f t=(n:Int))).length+(l.filter fun t=>!decide (f t=(n:Int))).length:=by
   induction l with
   |nil=>rfl
   |cons x xs ih2=>
    have:=ih2 (fun y hy=>h y (bJ _ hy)) (fun hh=>bj (by rw[eZ];split <;> simp) (h8 hh));by_cases q:f x=(n:Int) <;> simp[eZ,q] <;> lia
  have i2:=ih (l.filter fun t=>!decide (f t=(n:Int))) (fun x hx=>by
   have a:=h x (a_.mp hx |>.1);have b:=(a_.mp hx).2;simp at b;lia) (fun hh=>by
   refine bj ?_ (h8 hh);exact(vK.filter _).length_le)
  have:=h8 (n:Int);lia
theorem fR.len(F:fR n ts):ts.length<=256:=by
 have:=Eb (·.1) ts n (fun t ht=>(F.rg t ht).1) F.most;have:=F.n2;lia
theorem fR.tlt(F:fR n ts)(h:T ts a b):a<n/\b<n/\a≠b:=by
 have q:=F.rg _ h;have q2:=F.ne _ h;refine⟨by have:=q.1;simp at this;lia,by have:=q.2;simp at this;lia,fun e=>q2 (by rw[e])⟩
def dS(n:Nat)(ts:Ts)(h:Nat):List Nat:=((List.range n).map fun s=>(h+s) % n).filter fun o=>decide (T ts h o)
theorem eR(F:fR n ts)(hh:h<n):o∈dS n ts h↔T ts h o:=by
 unfold dS;rw[a_,mm];refine⟨fun z=>z.2,fun z=>⟨?_,z⟩⟩;obtain⟨_,h2,_⟩:=F.tlt z;refine a9.mpr ⟨if h<=o then o-h else o+n-h,cY.mpr (by split <;> lia),?_⟩;split
 .rw[show h+(o-h)=o by lia,km h2]
 .rw[show h+(o+n-h)=o+n by lia,Nat.add_mod_right,km h2]
theorem KE(F:fR n ts)(hh:h<n)(ho:o∈dS n ts h):o<n:=(F.tlt ((eR F hh).mp ho)).2.1
def key(n h o:Nat):Int:=((o:Int)-(h:Int)) % (n:Int)
theorem sV(hh:h<n)(hs:s<n):key n h ((h+s) % n)=(s:Int):=by
 unfold key;by_cases c:h+s<n
 .rw[km c,show (((h+s:Nat):Int)-(h:Int))=(s:Int) by lia];exact Int.emod_eq_of_lt (by lia) (by lia)
 .have e:(h+s) % n=h+s-n:=by
   rw[Nat.mod_eq_sub_mod (by lia),km (by lia)]
  rw[e,show ((((h+s-n:Nat)):Int)-(h:Int))=(s:Int)-(n:Int) by lia,Int.sub_emod_right];exact Int.emod_eq_of_lt (by lia) (by lia)
theorem qe(hh:h<n):(dS n ts h).Pairwise fun a b=>key n h a<key n h b:=by
 unfold dS;refine List.Pairwise.filter _ ?_;refine jS.mpr ?_;refine List.Pairwise.imp_of_mem ?_ (zk (n:=n));intro a b ha hb E9;rw[sV hh (cY.mp ha),sV hh (cY.mp hb)];lia
theorem qf{α:Type}{k:α->Int}:∀ {a b:List α},a.Pairwise (fun x y=>k x<k y)->b.Pairwise (fun x y=>k x<k y)->(∀x,x∈a↔x∈b)->a=b
 |[],[],_,_,_=>rfl
 |[],y::ys,_,_,h=>absurd ((h y).mpr bG) (by simp)
 |x::xs,[],_,_,h=>absurd ((h x).mp bG) (by simp)
 |x::xs,y::ys,ha,hb,h=>by
  obtain⟨a1,a2⟩:=List.pairwise_cons.mp ha;obtain⟨b1,b2⟩:=List.pairwise_cons.mp hb;have e:x=y:=by
   rcases ba.mp ((h x).mp bG) with z|z
   .exact z
   .rcases ba.mp ((h y).mpr bG) with z'|z'
    .exact z'.symm
    .have q1:=b1 x z;have q2:=a1 y z';lia
  subst e;refine congrArg (x::·) (qf a2 b2 fun z=>⟨fun hz=>?_,fun hz=>?_⟩)
  .rcases ba.mp ((h z).mp (bJ _ hz)) with q|q
   .subst q;exact absurd (a1 _ hz) (by lia)
   .exact q
  .rcases ba.mp ((h z).mpr (bJ _ hz)) with q|q
   .subst q;exact absurd (b1 _ hz) (by lia)
   .exact q
structure Ec(n:Nat)(ts:Ts)(s i:Nat)(R:List Nat)(f:Nat->Nat):Prop where
 nd:R.Nodup
 lt:∀x∈R,x<n
 st:s∈R
 z:f s=0
 wk:∀x∈R,jK ts (f x) s x
 up:R.Pairwise fun a b=>f a<=f b
 bd:∀u,R[i]?=some u->∀x∈R,f x<=f u+1
 cl:∀j u,j<i->R[j]?=some u->∀v,T ts u v->v∈R/\f v<=f u+1
theorem Ec.start(hs:s<n):Ec n ts s 0 [s] (fun _=>0):=
 ⟨by simp,fun x hx=>by simp at hx;lia,by simp,rfl,fun x hx=>by simp at hx;subst hx;rfl,by simp,fun u _ x _=>by lia,fun j u h=>absurd h (by lia)⟩
def put(f:Nat->Nat)(v k:Nat):Nat->Nat:=fun y=>if y=v then k else f y
theorem kU:put f v k v=k:=by simp[put]
theorem gK(h:x≠v):put f v k x=f x:=by simp[put,h]
theorem Ec.add(B:Ec n ts s i R f)(hu:R[i]?=some u)(hv:v<n)(t:T ts u v)(hn:v∉R):Ec n ts s i (R++[v]) (put f v (f u+1)):=by
 have hur:u∈R:=cZ hu;have nv:∀x∈R,x≠v:=fun x hx e=>hn (e ▸ hx);have hi:i<R.length:=(dk.mp hu).1;refine⟨?_,fun x hx=>?_,kd _ B.st,by rw[gK (nv s B.st)];exact B.z,fun x hx=>?_,?_,fun w hw x hx=>?_,fun j w hj hw x hx=>?_⟩
 .rw[rF];exact⟨B.nd,by simp,fun a ha b hb e=>by simp at hb;subst hb;exact hn (e ▸ ha)⟩
 .rcases dP.mp hx with z|z
  .exact B.lt x z
  .simp at z;lia
 .rcases dP.mp hx with z|z
  .rw[gK (nv x z)];exact B.wk x z
  .simp at z;subst z;rw[kU];exact⟨u,B.wk u hur,t⟩
 .rw[List.pairwise_append];refine⟨B.up.imp_of_mem fun {a b} ha hb h=>by rw[gK (nv a ha),gK (nv b hb)];exact h,by simp,fun a ha b hb=>?_⟩;simp at hb;subst hb;rw[gK (nv a ha),kU];exact B.bd u hu a ha
 .have Ed:w=u:=by
   rw[nI hi,hu] at hw;exact(a8 hw).symm
  subst Ed;rw[gK (nv w hur)];rcases dP.mp hx with z|z
  .rw[gK (nv x z)];exact B.bd w hu x z
  .simp at z;subst z;rw[kU];exact aW _
 .rw[nI (by lia)] at hw;obtain⟨a,b⟩:=B.cl j w hj hw x hx;refine⟨kd _ a,?_⟩;rw[gK (nv x a),gK (nv w (cZ hw))];exact b
theorem Ec.next(B:Ec n ts s i R f)(hu:R[i]?=some u)(h:∀v,T ts u v->v∈R/\f v<=f u+1):Ec n ts s (i+1) R f:=by
 refine⟨B.nd,B.lt,B.st,B.z,B.wk,B.up,fun w hw x hx=>?_,fun j w hj hw v hv=>?_⟩
 .have h1:=B.bd u hu x hx;have h2:f u<=f w:=by
   have hi:i<R.length:=(dk.mp hu).1;have E8:i+1<R.length:=(dk.mp hw).1;have:=Fk.mp B.up i (i+1) hi E8 (by lia);rw[cU hi] at hu;rw[cU E8] at hw;rw[a8 hu,a8 hw] at this;exact this
  lia
 .by_cases e:j=i
  .subst e;rw[hu] at hw;cases hw;exact h v hv
  .exact B.cl j w (by lia) hw v hv
theorem jL:∀ {n:Nat} {R:List Nat},R.Nodup->(∀x∈R,x<n)->R.length<=n:=by
 intro n R hn hl;have key:∀ (a b:List Nat),a.Nodup->(∀x∈a,x∈b)->a.length<=b.length:=by
  intro a;induction a with
  |nil=>intro b _ _;exact cF _
  |cons x xs ih=>
   intro b hn hs;obtain⟨h1,h2⟩:=cX.mp hn;have hx:x∈b:=hs x bG;have:=ih (b.erase x) h2 fun y hy=>(oN (fun (e:y=x)=>h1 (e ▸ hy))).mpr (hs y (bJ _ hy));rw[rj hx] at this;have:0<b.length:=vE hx;rw[cu];lia
 have:=key R (List.range n) hn fun x hx=>cY.mpr (hl x hx);rwa [dO] at this
theorem Ec.done(B:Ec n ts s i R f)(F:fR n ts)(hi:R.length<=i)(hx:x<n):x∈R/\f x=MV ts s x:=by
 have cl:∀u∈R,∀v,T ts u v->v∈R/\f v<=f u+1:=fun u hu v hv=>by
  obtain⟨j,hj,e⟩:=rC.mp hu;exact B.cl j u (by lia) (by rw[cU hj,e]) v hv
 have walk:∀k x,jK ts k s x->x∈R/\f x<=k:=by
  intro k;induction k with
  |zero=>intro x e;cases e;exact⟨B.st,by rw[B.z];exact aW _⟩
  |succ k ih=>
   rintro x ⟨c,w,t⟩;obtain⟨c1,c2⟩:=ih c w;obtain⟨d1,d2⟩:=cl c c1 x t;exact⟨d1,by lia⟩
 obtain⟨k,w⟩:=F.con s x (B.lt s B.st) hx;obtain⟨m,_⟩:=walk k x w;exact⟨m,(Oz ⟨B.wk x m,fun k w=>(walk k x w).2⟩).symm⟩
theorem m6(hh:h<n):(dS n ts h).Nodup:=(qe hh).imp fun {a b} E9 e=>by subst e;lia
end jJ
namespace L2
open PySem PySem.Spec PyProof.Rows
section
variable {X:Cx}
end
end L2
namespace jJ
abbrev CC(u:Int×Int):Int×Int:=(u.2,u.1)
def nC(ps:Ts):Ts:=ps.flatMap fun u=>[u,CC u]
theorem AZ:nC (ps++qs)=nC ps++nC qs:=List.flatMap_append
theorem kW:∀ {ps:Ts},(nC ps).Perm (ps++ps.map CC)
 |[]=>List.Perm.refl _
 |u::ps=>by
  have ih:=kW (ps:=ps);show (u::CC u::nC ps).Perm (u::(ps++CC u::ps.map CC));refine List.Perm.cons _ ?_;exact(ih.cons _).trans List.perm_middle.symm
theorem wL:∀ {ps:Ts},(nC ps).length=2*ps.length
 |[]=>rfl
 |u::ps=>by
  have ih:=wL (ps:=ps);show (nC ps).length+2=2*(ps.length+1);lia
theorem KG(h:u∈nC ps):CC u∈nC ps:=by
 obtain⟨v,hv,hu⟩:=zW.mp h;refine zW.mpr ⟨v,hv,?_⟩;rcases ba.mp hu with e|e
 .rw[e];exact bJ _ (dL.mpr rfl)
 .rw[dL.mp e];exact bG
theorem f8:u∈nC ps↔u∈ps\/CC u∈ps:=by
 rw[(kW (ps:=ps)).mem_iff,dP];refine or_congr Iff.rfl ⟨fun h=>?_,fun h=>a9.mpr ⟨_,h,rfl⟩⟩;obtain⟨v,hv,rfl⟩:=a9.mp h;exact hv
theorem KH:((nC ps).map CC).Perm (nC ps):=by
 refine((kW (ps:=ps)).map CC).trans (List.Perm.trans ?_ (kW (ps:=ps)).symm);rw[d_,fh];have e:ps.map (CC ∘ CC)=ps:=(lT fun u _=>rfl).trans (jz ps);rw[e];exact j7
abbrev qT(q:Nat×Nat):Int×Int:=((q.1:Int),(q.2:Int))
def b1(b:Bool):Nat:=cond b 1 0
def m9(h:Nat):List (Nat×Nat)->Nat
 |[]=>0
 |q::qs=>b1 (Nat.beq q.1 h)+(b1 (Nat.beq q.2 h)+m9 h qs)
theorem CD{h:Nat}:∀ {qs:List (Nat×Nat)},((nC (qs.map qT)).filter fun t=>decide (t.1=(h:Int))).length=m9 h qs
 |[]=>rfl
 |q::qs=>by
  have ih:=CD (h:=h) (qs:=qs);have e:∀a:Nat,(if decide ((a:Int)=(h:Int))=true then 1 else 0)=b1 (Nat.beq a h):=fun a=>by
   by_cases c:a=h
   .subst c;rw[ai (by simp),Nat.beq_refl];rfl
   .rw[ap (by simp;lia),show Nat.beq a h=false from j8.mpr fun z=>c (Nat.eq_of_beq_eq_true z)];rfl
  show ((qT q::CC (qT q)::nC (qs.map qT)).filter _).length=b1 (Nat.beq q.1 h)+(b1 (Nat.beq q.2 h)+m9 h qs);rw[<-ih,<-e q.1,<-e q.2,eZ,eZ];split <;> split <;> simp <;> lia
def pr:List Nat->Nat
 |[]=>1
 |n::ns=>n*pr ns
def uB(m st n:Nat):List (Nat×Nat):=((List.range m).filter fun h=>decide (h / st % n+1<n)).map fun h=>(h,h+st)
def bx(m:Nat):Nat->List Nat->List (Nat×Nat)
 |_,[]=>[]
 |st,n::ns=>uB m st n++bx m (st*n) ns
def jM(ns:List Nat):List (Nat×Nat):=bx (pr ns) 1 ns
def KJ:Nat->List Nat->Nat->Nat->Prop
 |_,[],_,_=>False
 |st,n::ns,a,b=>(a / st % n+1<n/\b=a+st)\/KJ (st*n) ns a b
theorem CF:q∈uB m st n↔q.1<m/\q.1 / st % n+1<n/\q.2=q.1+st:=by
 unfold uB;rw[a9];constructor
 .rintro⟨h,hh,rfl⟩;obtain⟨h1,h2⟩:=a_.mp hh;exact⟨cY.mp h1,c_ h2,rfl⟩
 .rintro⟨h1,h2,h3⟩;exact⟨q.1,a_.mpr ⟨cY.mpr h1,aT h2⟩,gD rfl h3.symm⟩
theorem pR:∀ {ns:List Nat} {st:Nat},q∈bx m st ns↔q.1<m/\KJ st ns q.1 q.2
 |[],st=>⟨fun h=>(nomatch h),fun h=>h.2.elim⟩
 |n::ns,st=>by
  unfold bx KJ;rw[dP,CF,pR (ns:=ns)];constructor
  .rintro(⟨a,b,c⟩|⟨a,b⟩)
   .exact⟨a,.inl ⟨b,c⟩⟩
   .exact⟨a,.inr b⟩
  .rintro⟨a,⟨b,c⟩|b⟩
   .exact .inl ⟨a,b,c⟩
   .exact .inr ⟨a,b⟩
abbrev U(ns:List Nat):Nat->Nat->Prop:=KJ 1 ns
theorem wM:∀ {ns:List Nat} {st a b:Nat},0<st->(∀n∈ns,0<n)->(KJ st ns a b↔a % st=b % st/\U ns (a / st) (b / st))
 |[],st,a,b,h,_=>⟨fun z=>z.elim,fun z=>z.2.elim⟩
 |n::ns,st,a,b,h,hn=>by
  have Jv:=hn n bG;have AM:∀n∈ns,0<n:=fun x hx=>hn x (bJ _ hx);show (_\/KJ (st*n) ns a b)↔a % st=b % st/\(_\/KJ (1*n) ns (a / st) (b / st))
  rw[wc,wM (o0 h Jv) AM,wM Jv AM,o5,l_ a st n,l_ b st n,Nat.mod_mul,Nat.mod_mul];have e1:=ik a st;have e2:=ik b st;constructor
  .rintro(⟨c,rfl⟩|⟨c,d⟩)
   .refine⟨by rw[Nat.add_mod_right],.inl ⟨c,by rw[Nat.add_div_right _ h]⟩⟩
   .have m1:a % st=b % st:=by
     have:=congrArg (· % st) c;simp only[Fj,Nat.mod_mod] at this;exact this
    refine⟨m1,.inr ⟨?_,d⟩⟩;rw[m1] at c;exact Nat.eq_of_mul_eq_mul_left h (Nat.add_left_cancel c)
  .rintro⟨m1,⟨c,d⟩|⟨c,d⟩⟩
   .refine .inl ⟨c,?_⟩;rw[<-e2,d,<-m1,iY,ku,Nat.add_right_comm,e1]
   .exact .inr ⟨by rw[m1,c],d⟩
theorem wN(h:∀x∈n::ns,0<x):U (n::ns) a b↔(a % n+1<n/\b=a+1)\/(a % n=b % n/\U ns (a / n) (b / n)):=by
 show (_\/KJ (1*n) ns a b)↔_;rw[wc,wM (h n bG) fun x hx=>h x (bJ _ hx),o5]
theorem jN(h:a % n+1<n):(a+1) / n=a / n/\(a+1) % n=a % n+1:=by
 have e:=ik a n;have e2:a+1=n*(a / n)+(a % n+1):=by lia
 have hn:0<n:=by lia
 rw[e2,Nat.mul_add_div hn,Nat.mul_add_mod,zU h,km h];exact⟨rfl,rfl⟩
theorem S8:∀ {ns:List Nat} {a b:Nat},(∀x∈ns,0<x)->U ns a b->a<pr ns->a<b/\b<pr ns
 |[],a,b,_,h,_=>h.elim
 |n::ns,a,b,hn,h,ha=>by
  have Jv:=hn n bG;have AM:∀n∈ns,0<n:=fun x hx=>hn x (bJ _ hx);have Si:a<n*pr ns:=ha;have hq:a / n<pr ns:=zo Si;show a<b/\b<n*pr ns;rcases(wN hn).mp h with ⟨c,rfl⟩|⟨c,d⟩
  .refine⟨by lia,?_⟩;have e:=ik a n;have:=oP n hq;rw[Nat.succ_eq_add_one,iY,ku] at this;lia
  .obtain⟨i1,i2⟩:=S8 AM d hq;refine⟨?_,?_⟩
   .have e1:=ik a n;have e2:=ik b n;have:=Fg i1 Jv;lia
   .have e2:=ik b n;have hm:=jA b Jv;have:=oP n i2;rw[Nat.succ_eq_add_one,iY,ku] at this;lia
theorem GV:∀ {ns:List Nat} {v:Nat},(∀x∈ns,0<x)->0<v->v<pr ns->∃u,u<v/\U ns u v
 |[],v,_,h1,h2=>by have h2:v<1:=h2;lia
 |n::ns,v,hn,h1,h2=>by
  have Jv:=hn n bG;have AM:∀n∈ns,0<n:=fun x hx=>hn x (bJ _ hx);have lv:=jA v Jv;have ev:=ik v n;by_cases c:v % n=0
  .have hq:0<v / n:=by
    rcases zH (v / n) with z|z
    .rw[z,c] at ev;simp at ev;lia
    .exact z
   obtain⟨u,hu,uu⟩:=GV (v:=v / n) AM hq (zo h2);refine⟨n*u,?_,(wN hn).mpr (.inr ⟨by rw[Nat.mul_mod_right,c],by rw[Nat.mul_div_cancel_left _ Jv];exact uu⟩)⟩;have:=Fg hu Jv;lia
  .have hv:v-1=n*(v / n)+(v % n-1):=by lia
   have hm:(v-1) % n=v % n-1:=by rw[hv,Nat.mul_add_mod,km (by lia)]
   exact⟨v-1,by lia,(wN hn).mpr (.inl ⟨by lia,by lia⟩)⟩
theorem CG:∀ {ns:List Nat} {st a b:Nat},(∀x∈ns,0<x)->KJ st ns a b->a+st<=b
 |[],st,a,b,_,h=>h.elim
 |n::ns,st,a,b,hn,h=>by
  rcases h with ⟨_,rfl⟩|h
  .exact aW _
  .have:=CG (fun x hx=>hn x (bJ _ hx)) h;have h1:=zi st (hn n bG);lia
theorem Ee:(uB m st n).Nodup:=by
 unfold uB;refine oI.mpr (jS.mpr ?_);exact(oI.mp (mv.sublist vK)).imp fun {a b} h e=>h (congrArg Prod.fst e)
theorem yr:∀ {ns:List Nat} {st:Nat},0<st->(∀x∈ns,2<=x)->(bx m st ns).Nodup
 |[],_,_,_=>gj
 |n::ns,st,h,hn=>by
  have Q3:=hn n bG;have AM:∀x∈ns,2<=x:=fun x hx=>hn x (bJ _ hx);refine rF.mpr ⟨Ee,yr (o0 h (by lia)) AM,fun x hx y hy e=>?_⟩;subst e;have h1:=(CF.mp hx).2.2;have h2:=CG (fun x hx=>by have:=AM x hx;lia) (pR.mp hy).2;have h3:=oP st Q3;lia
theorem Ef(nd:ps.Nodup)(h:∀u∈ps,u.1<u.2):(nC ps).Nodup:=by
 refine(kW (ps:=ps)).nodup_iff.mpr (rF.mpr ⟨nd,?_,fun x hx y hy e=>?_⟩)
 .refine oI.mpr (jS.mpr ((oI.mp nd).imp fun {a b} E9 e=>E9 ?_));exact gD (congrArg Prod.snd e) (congrArg Prod.fst e)
 .subst e;obtain⟨u,hu,rfl⟩:=a9.mp hy;have h1:=h _ hx;have h2:=h u hu;have h1:u.2<u.1:=h1;lia
theorem Eg{qs:List (Nat×Nat)}(h:qs.Nodup):(qs.map qT).Nodup:=by
 refine oI.mpr (jS.mpr ((oI.mp h).imp fun {a b} E9 e=>E9 ?_));exact gD (cN (congrArg Prod.fst e)) (cN (congrArg Prod.snd e))
theorem qg:∀ {a b:List (Nat×Nat)},m9 h (a++b)=m9 h a+m9 h b
 |[],b=>by show m9 h b=0+_;lia
 |q::a,b=>by
  have:=qg (h:=h) (a:=a) (b:=b);show b1 _+(b1 _+m9 h (a++b))=b1 _+(b1 _+m9 h a)+m9 h b;lia
theorem MW:b1 (Nat.beq a b)=if a=b then 1 else 0:=by
 by_cases c:a=b
 .subst c;rw[ai rfl,Nat.beq_refl];rfl
 .rw[ap c,show Nat.beq a b=false from j8.mpr fun z=>c (Nat.eq_of_beq_eq_true z)];rfl
theorem CH:∀ {L:List Nat},L.Nodup->m9 h (L.map fun x=>(x,x+st))<=(if h∈L then 1 else 0)+(if st<=h/\h-st∈L then 1 else 0)
 |[],_=>cF _
 |x::L,nd=>by
  obtain⟨n1,n2⟩:=cX.mp nd;have ih:=CH (h:=h) (st:=st) n2;show b1 (Nat.beq x h)+(b1 (Nat.beq (x+st) h)+m9 h (L.map fun x=>(x,x+st)))<=_;rw[MW,MW];have e1:(if h∈x::L then 1 else 0)=(if x=h then 1 else 0)+(if h∈L then 1 else 0):=by
   by_cases c:x=h
   .subst c;rw[ai bG,ai rfl,ap n1]
   .rw[ap c];by_cases d:h∈L
    .rw[ai (bJ _ d),ai d]
    .rw[ap d,ap (fun z=>(ba.mp z).elim (fun z=>c z.symm) d)]
  have e2:(if st<=h/\h-st∈x::L then 1 else 0)=(if x+st=h then 1 else 0)+(if st<=h/\h-st∈L then 1 else 0):=by
   by_cases c:x+st=h
   .have e:h-st=x:=by lia
    rw[ai c,e,ai ⟨by lia,bG⟩,ap (fun z=>n1 z.2)]
   .rw[ap c];by_cases d:st<=h/\h-st∈L
    .rw[ai d,ai ⟨d.1,bJ _ d.2⟩]
    .rw[ap d,ap];rintro⟨z1,z2⟩;rcases ba.mp z2 with z|z
     .lia
     .exact d ⟨z1,z⟩
  rw[e1,e2];lia
def wt:List Nat->Nat
 |[]=>0
 |n::ns=>(if n=2 then 1 else 2)+wt ns
theorem KM(hs:0<st):m9 h (uB m st n)<=if n=2 then 1 else 2:=by
 have c:=CH (h:=h) (st:=st) (L:=(List.range m).filter fun h=>decide (h / st % n+1<n)) (mv.sublist vK);refine bj c ?_;by_cases e:n=2
 .rw[ai e];by_cases c1:h∈(List.range m).filter fun h=>decide (h / st % n+1<n)
  .rw[ai c1,ap]
   .lia
   .rintro⟨z1,z2⟩;have d1:h / st % n+1<n:=c_ (a_.mp c1).2;have d2:(h-st) / st % n+1<n:=c_ (a_.mp z2).2;have d3:h / st=(h-st) / st+1:=by
     have:=Nat.add_div_right (h-st) hs;rw[show h-st+st=h by lia] at this;exact this
    obtain⟨_,d4⟩:=jN d2;rw[<-d3] at d4;lia
  .rw[ap c1];split <;> lia
 .rw[ap e];split <;> split <;> lia
theorem GW:∀ {ns:List Nat} {st:Nat},0<st->(∀x∈ns,0<x)->m9 h (bx m st ns)<=wt ns
 |[],_,_,_=>aW _
 |n::ns,st,hs,hn=>by
  show m9 h (uB m st n++bx m (st*n) ns)<=_+wt ns;rw[qg];have h1:=KM (m:=m) (n:=n) (h:=h) hs;have h2:=GW (m:=m) (h:=h) (ns:=ns) (st:=st*n) (o0 hs (hn n bG)) fun x hx=>hn x (bJ _ hx);lia
theorem GX:∀ {ns:List Nat},(∀x∈ns,2<=x)->3 ^ wt ns<=pr ns*pr ns
 |[],_=>aW _
 |n::ns,hn=>by
  have ih:=GX (ns:=ns) fun x hx=>hn x (bJ _ hx);have h2:=hn n bG;show 3 ^ ((if n=2 then 1 else 2)+wt ns)<=n*pr ns*(n*pr ns);rw[Nat.pow_add,Nat.mul_mul_mul_comm];refine z8 ?_ ih;by_cases c:n=2
  .rw[ai c,c];decide
  .rw[ap c];have:3<=n:=by lia
   exact z8 this this
theorem S9(hn:∀x∈ns,2<=x)(hp:pr ns<=32):wt ns<=8:=by
 refine vy fun z=>?_;have h1:3 ^ 9<=3 ^ wt ns:=Nat.pow_le_pow_right (by decide) (by lia);have h2:=GX hn;have h3:pr ns*pr ns<=32*32:=z8 hp hp;have h4:(3:Nat) ^ 9=19683:=by decide
 lia
theorem GZ{ns:List Nat}(hn:∀x∈ns,2<=x)(h0:ns≠[])(hp:pr ns<=32):fR (pr ns) (nC ((jM ns).map qT)):=by
 have OA:∀x∈ns,0<x:=fun x hx=>by have:=hn x hx;lia
 have q:∀q∈jM ns,q.1<q.2/\q.2<pr ns:=fun q hq=>by
  obtain⟨a,b⟩:=pR.mp hq;exact S8 OA b a
 have n1:2<=pr ns:=by
  cases ns with
  |nil=>exact absurd rfl h0
  |cons n ns=>
   have h2:=hn n bG;have:∀ {l:List Nat},(∀x∈l,2<=x)->1<=pr l:=fun {l}=>by
    induction l with
    |nil=>intro _;exact aW _
    |cons x l ih=>intro hl;exact o0 (by have:=hl x bG;lia) (ih fun y hy=>hl y (bJ _ hy))
   have h3:=this (l:=ns) fun x hx=>hn x (bJ _ hx);show 2<=n*pr ns;exact bj h2 (zi n h3)
 have mem:∀t∈nC ((jM ns).map qT),∃q∈jM ns,t=qT q\/t=CC (qT q):=fun t ht=>by
  rcases f8.mp ht with z|z
  .obtain⟨q,hq,e⟩:=a9.mp z;exact⟨q,hq,.inl e.symm⟩
  .obtain⟨q,hq,e⟩:=a9.mp z;exact⟨q,hq,.inr (by rw[e])⟩
 have rg:∀t∈nC ((jM ns).map qT),((0<=t.1/\t.1<pr ns)/\(0<=t.2/\t.2<pr ns))/\t.1≠t.2:=fun t ht=>by
  obtain⟨p,hq,e⟩:=mem t ht;obtain⟨a,b⟩:=q p hq;rcases e with rfl|rfl
  .exact⟨⟨⟨by show (0:Int)<=(p.1:Int);lia,by show (p.1:Int)<(pr ns:Int);lia⟩,by show (0:Int)<=(p.2:Int);lia,by show (p.2:Int)<(pr ns:Int);lia⟩,by show ((p.1:Nat):Int)≠(p.2:Nat);lia⟩
  .exact⟨⟨⟨by show (0:Int)<=(p.2:Int);lia,by show (p.2:Int)<(pr ns:Int);lia⟩,by show (0:Int)<=(p.1:Int);lia,by show (p.1:Int)<(pr ns:Int);lia⟩,by show ((p.2:Nat):Int)≠(p.1:Nat);lia⟩
 have nd:(nC ((jM ns).map qT)).Nodup:=Ef (Eg (yr (by decide) hn)) fun u hu=>by
  obtain⟨p,hq,rfl⟩:=a9.mp hu;have:=(q p hq).1;show (p.1:Int)<(p.2:Int);lia
 refine⟨n1,hp,nd,fun t ht=>(rg t ht).1,fun t ht=>(rg t ht).2,fun h=>?_,fun h=>?_,fun a b ha hb=>?_⟩
 .rw[<-(KH (ps:=(jM ns).map qT)).filter (fun t=>decide (t.1=h)) |>.length_eq,List.filter_map,aP];rfl
 .by_cases c:0<=h/\h<pr ns
  .have:=GW (m:=pr ns) (h:=h.toNat) (ns:=ns) (st:=1) (by decide) OA;have e:=CD (h:=h.toNat) (qs:=jM ns);rw[Int.toNat_of_nonneg c.1] at e;rw[e];exact bj this (S9 hn hp)
  .have e:(nC ((jM ns).map qT)).filter (fun t=>decide (t.1=h))=[]:=List.filter_eq_nil_iff.mpr fun t ht e=>c ((show t.1=h from c_ e) ▸ (rg t ht).1.1);rw[e];exact cF _
 .have J9:∀v,v<pr ns->(∃k,jK (nC ((jM ns).map qT)) k 0 v)/\∃k,jK (nC ((jM ns).map qT)) k v 0:=by
   intro v;induction v using Nat.strongRecOn with
   |ind v ih=>
    intro hv;rcases zH v with e|e
    .subst e;exact⟨⟨0,rfl⟩,0,rfl⟩
    .obtain⟨u,hu,uu⟩:=GV OA e hv;obtain⟨⟨k,w⟩,l,w'⟩:=ih u hu (by lia);have t:T (nC ((jM ns).map qT)) u v:=f8.mpr (.inl (a9.mpr ⟨(u,v),pR.mpr ⟨by show u<pr ns;lia,uu⟩,rfl⟩));have t':T (nC ((jM ns).map qT)) v u:=KG t;exact⟨⟨k+1,u,w,t⟩,l+1,jK.cons t' w'⟩
  obtain⟨_,k,w⟩:=J9 a ha;obtain⟨⟨l,w'⟩,_⟩:=J9 b hb;exact⟨_,w.trans w'⟩
end jJ
namespace tu
open PySem L2
def fA(i:Nat):Stmt:=PySem.Challenge.pw_neverwait_k47_reasons.main.body.getD i (.Pass ⟨0,0,0,0⟩)
abbrev A0:Stmt:=fA 9
abbrev wO:Stmt:=fA 10
abbrev A1:Stmt:=fA 11
abbrev OB:Stmt:=fA 13
structure Bl(mg:Str->Option Value):Prop where
 Rg:mg "isinstance"=none
 int:mg "int"=none
 bool:mg "bool"=none
 tup:mg "tuple"=none
 lst:mg "list"=none
 str:mg "str"=none
 set:mg "set"=none
 len:mg "len"=none
 range:mg "range"=none
 sorted:mg "sorted"=none
 any:mg "any"=none
 max:mg "max"=none
 min:mg "min"=none
 abu:mg "ValueError"=none
 all:mg "all"=none
def G0(K:PySem.W.Frag)(H:Hp)(x:V):Prop:=∃t,Q7 K H x t/\(PySem.W.kitOne K t (.type "int")=some false\/(PySem.W.kitOne K t (.type "int")=some true/\PySem.W.kitOne K t (.type "bool")=some true))
theorem qh:PySem.W.kitOne K (.type "int") (.type "int")=some true:=by kernel_rfl
theorem on:PySem.W.kitOne K (.type "int") (.type "bool")=some false:=by kernel_rfl
inductive Wh (K:PySem.W.Frag) (H:Hp):V->Option Int->Prop where
 |int (i:Int):Wh K H (.int i) (some i)
 |no {x:V} (h:G0 K H x):Wh K H x none
def qU(K:PySem.W.Frag):Sp:=fun vs H Q _=>∃x o,vs=[x]/\Wh K H x o/\Q (.bl o.isSome) H
section
variable {P:Program} {w:World} {K:PySem.W.Frag} {mg:Str->Option Value} {base:Heap}
theorem KN:aD ["thing"] ["thing"] (am A0):=⟨rfl,rfl,rfl,by decide +kernel,rfl,by decide +kernel,by decide +kernel⟩
theorem G4(F:eM K "is_whole" "is_whole" A0 f fd)(B:Bl mg):bn P w K mg base a7 1 f fd ["thing"] (qU K):=by
 refine F.ok KN (fun vs H Q E h=>?_) (fun dz A outer s H vs Q E hr h=>?_)
 .obtain⟨x,o,rfl,_⟩:=h;rfl
 .obtain⟨x,o,rfl,W,k⟩:=h;refine⟨_,aj (aG (kI (aJ jk (by rfl) B.Rg oH (aa (pv 0) (aa (lx (v:=.ty "int") rfl B.int PyProof.Rows.boot_int rfl) af)))
   (mR (ND (aJ jk (by rfl) B.Rg oH (aa (pv 0) (aa (lx (v:=.ty "bool") rfl B.bool PyProof.Rows.boot_bool rfl) af))))))),?_⟩
  cases W with
  |int i=>
   refine⟨_,rfl,_,_,_,.type "int",true,rfl,⟨rfl,qh⟩,.of (.int _),true,rfl,?_⟩;exact⟨_,rfl,_,_,_,.type "int",false,rfl,⟨rfl,on⟩,.of (.int _),false,rfl,k⟩
  |no h=>
   obtain⟨t,ty,h|⟨h1,h2⟩⟩:=h
   .exact⟨_,rfl,_,_,_,t,false,rfl,⟨rfl,h⟩,ty,false,rfl,k⟩
   .refine⟨_,rfl,_,_,_,t,true,rfl,⟨rfl,h1⟩,ty,true,rfl,?_⟩;exact⟨_,rfl,_,_,_,t,true,rfl,⟨rfl,h2⟩,ty,true,rfl,k⟩
def bf(o:Option Int)(lo hi:Int):Bool:=match o with
 |some i=>decide (lo<=i)&&decide (i<=hi)
 |none=>false
def jo(K:PySem.W.Frag):Sp:=fun vs H Q _=>∃x o lo hi,vs=[x,.int lo,.int hi]/\Wh K H x o/\Q (.bl (bf o lo hi)) H
theorem G5:aD ["thing","least","most"] ["thing","least","most"] (am wO):=⟨rfl,rfl,rfl,by decide +kernel,rfl,by decide +kernel,by decide +kernel⟩
theorem Eh(F:eM K "is_whole_within" "is_whole_within" wO f fd)(W:cq P w K mg base a7 1 "is_whole" ["thing"] (qU K)):bn P w K mg base a7 2 f fd ["thing","least","most"] (jo K):=by
 refine F.ok G5 (fun vs H Q E h=>?_) (fun dz A outer s H vs Q E hr h=>?_)
 .obtain⟨x,o,lo,hi,rfl,_⟩:=h;rfl
 .obtain⟨x,o,lo,hi,rfl,wh,k⟩:=h;refine⟨_,aj (aG (kI (az W hr aE (aa (pv 0) af)) (mR (FH FF FF (pv 1) (pv 0) (pv 2))))),?_⟩;refine⟨_,rfl,x,o,rfl,wh,?_⟩;cases wh with
  |no h=>exact⟨false,rfl,k⟩
  |int i=>
   refine⟨true,rfl,_,rfl,_,rfl,_,_,rfl,rfl,_,rfl,?_⟩;show if decide (lo<=i)=true then _ else _
   have k':Q (.bl (decide (lo<=i)&&decide (i<=hi))) H:=k;by_cases h:lo<=i
   .rw[aT h] at k' |-;exact⟨_,rfl,_,_,rfl,rfl,k'⟩
   .rw[cW h] at k' |-;exact k'
def lE(K:PySem.W.Frag):Sp:=fun vs H Q _=>∃x o n,vs=[.int n,x]/\Wh K H x o/\Q (.bl (bf o 0 (n-1))) H
theorem KO:aD ["many","thing"] ["many","thing"] (am A1):=⟨rfl,rfl,rfl,by decide +kernel,rfl,by decide +kernel,by decide +kernel⟩
theorem G6(F:eM K "is_house" "is_house" A1 f fd)(W:cq P w K mg base a7 2 "is_whole_within" ["thing","least","most"] (jo K)):bn P w K mg base a7 3 f fd ["many","thing"] (lE K):=by
 refine F.ok KO (fun vs H Q E h=>?_) (fun dz A outer s H vs Q E hr h=>?_)
 .obtain⟨x,o,n,rfl,_⟩:=h;rfl
 .obtain⟨x,o,n,rfl,wh,k⟩:=h;refine⟨_,aj (aG (az W hr aE (aa (pv 1) (aa aB (aa (bv mV (pv 0) aB) af))))),?_⟩;exact⟨_,rfl,_,rfl,_,_,rfl,rfl,x,o,0,n-1,rfl,wh,k⟩
inductive Rw (K:PySem.W.Frag) (H:Hp):V->Option (List V)->Prop where
 |tup {p:Addr} {xs:List V} (h:H p=some (.tup xs)):Rw K H (.ref p) (some xs)
 |no {x:V} {t:Value} (ty:Q7 K H x t) (h:PySem.W.kitOne K t (.type "tuple")=some false):Rw K H x none
def G7(o:Option (List V))(m:Int):Bool:=match o with
 |some xs=>decide ((xs.length:Int)=m)
 |none=>false
theorem CI:PySem.W.kitOne K (.type "tuple") (.type "tuple")=some true:=by kernel_rfl
def vd(K:PySem.W.Frag):Sp:=fun vs H Q _=>∃x o m,vs=[x,.int m]/\Rw K H x o/\Q (.bl (G7 o m)) H
theorem S_:aD ["thing","length"] ["thing","length"] (am OB):=⟨rfl,rfl,rfl,by decide +kernel,rfl,by decide +kernel,by decide +kernel⟩
theorem OC(F:eM K "is_row" "is_row" OB f fd)(B:Bl mg):bn P w K mg base a7 1 f fd ["thing","length"] (vd K):=by
 refine F.ok S_ (fun vs H Q E h=>?_) (fun dz A outer s H vs Q E hr h=>?_)
 .obtain⟨x,o,m,rfl,_⟩:=h;rfl
 .obtain⟨x,o,m,rfl,W,k⟩:=h;refine⟨_,aj (aG (kI (aJ jk (by rfl) B.Rg oH (aa (pv 0) (aa (lx (v:=.ty "tuple") rfl B.tup jQ rfl) af)))
   (mR (eT gv (aJ aF (by rfl) B.len dH (aa (pv 0) af)) (pv 1) (aQ _))))),?_⟩
  cases W with
  |@tup p xs h=>
   refine⟨_,rfl,_,_,_,.type "tuple",true,rfl,⟨rfl,CI⟩,.of (.tup h),true,rfl,?_⟩;refine⟨_,rfl,_,_,rfl,.inr (bp.of h),_,rfl,rfl,?_⟩;have e:decide (V.int ((xs.length:Nat):Int)=V.int m)=decide (((xs.length:Nat):Int)=m):=by simp
   rw[e];exact k
  |no ty h=>exact⟨_,rfl,_,_,_,_,false,rfl,⟨rfl,h⟩,ty,false,rfl,k⟩
end
theorem cy(s:aA H H')(hD:H D=none):aA H (upd H' D o):=fun b u e=>by rw[al (aq e hD)];exact s b u e
abbrev IV(ns:List Int):List V:=ns.map V.int
abbrev NV(ns:List Nat):List V:=ns.map fun (x:Nat)=>V.int (x:Int)
theorem lX(G:St->Hp->Prop)(hr:∀σ H,G σ H->u D σ H)(ht:∀N:St->Hp->Prop,(∀σ H,G σ H->N σ H)->t { D with nx:=N } σ H):RP t u D σ H:=ht _ hr
abbrev Zs:=List (Addr×(Int×Int))
abbrev MX(u:Int×Int):HO:=.tup [.int u.1,.int u.2]
def zr(zs:Zs):List V:=zs.map fun z=>V.ref z.1
def zp(zs:Zs):List (Int×Int):=zs.map (·.2)
def PO(H:Hp)(zs:Zs):Prop:=∀z∈zs,H z.1=some (MX z.2)
theorem pS:zr (a++b)=zr a++zr b:=d_
theorem ve:zp (a++b)=zp a++zp b:=d_
theorem kX:(zr a).length=a.length:=aP _
theorem dC:(zp a).length=a.length:=aP _
theorem qV:zr a=(a.map (·.1)).map V.ref:=by unfold zr;rw[fh];rfl
theorem wP{zs:Zs}{i:Nat}{x:V}(h:(zr zs)[i]?=some x):∃z,zs[i]?=some z/\x=.ref z.1:=by
 unfold zr at h;rw[bL] at h;cases e:zs[i]? with
 |none=>rw[e] at h;cases h
 |some z=>rw[e] at h;exact⟨z,rfl,(a8 h).symm⟩
theorem PO.nil:PO H []:=fun z hz=>(nomatch hz)
theorem PO.same(h:PO H zs)(s:aA H H'):PO H' zs:=fun z hz=>s _ _ (h z hz)
theorem PO.putL(h:PO H zs)(e:H D=some (.lst xs)):PO (upd H D o) zs:=fun z hz=>by
 have:=h z hz;rw[al (by rintro rfl;rw[e] at this;cases this)];exact this
theorem PO.putN(h:PO H zs)(e:H D=none):PO (upd H D o) zs:=h.same (ao e)
theorem PO.append(h:PO H a)(h':PO H b):PO H (a++b):=fun z hz=>(dP.mp hz).elim (h z) (h' z)
theorem PO.one(h:H p=some (MX u)):PO H [(p,u)]:=fun z hz=>by rw[dL.mp hz];exact h
theorem yt{zs:Zs}{i:Nat}(h:i<zs.length):(zs.map (·.1)).getD i 0=zs[i].1:=by
 rw[cr,bL,cU h];rfl
theorem CJ(h:i<zs.length):(zp zs).getD i (0,0)=zs[i].2:=by
 unfold zp;rw[cr,bL,cU h];rfl
theorem OD{K:PySem.W.Frag}{Mp:Bool}{H:Hp}{p l:Addr}{u:Int×Int}{zs:Zs}{Q:VK}(hp:H p=some (MX u))(hl:H l=some (.lst (zr zs)))(ho:PO H zs)(q:Q (.bl (if Mp then !decide (u∈zp zs) else decide (u∈zp zs))) H):Oy K Mp (.ref p) (.ref l) H Q:=
 ⟨p,l,u,zs.map (·.1),zp zs,rfl,rfl,bp.of hp,br.of (by rw[<-qV];exact hl),by rw[aP,dC],fun i hi=>by
  rw[dC] at hi;rw[yt hi,CJ hi];exact bp.of (ho _ (iI hi)),q⟩
theorem Ei{H:Hp}{zs:Zs}(ho:PO H zs){as:List Addr}(h:as.Perm (zs.map (·.1))):∃qW:Zs,qW.Perm zs/\as=qW.map (·.1):=by
 classical
 let f:Addr->Int×Int:=fun a=>match H a with
  |some (.tup [.int x,.int y])=>(x,y)
  |_=>(0,0)
 have e:(zs.map (·.1)).map (fun a=>(a,f a))=zs:=by
  rw[fh];conv=>rhs;rw[<-jz zs]
  refine lT fun z hz=>?_;have:=ho z hz;show (z.1,f z.1)=z;have e2:f z.1=z.2:=by
   show (match H z.1 with|some (.tup [.int x,.int y])=>(x,y)|_=>(0,0))=z.2;rw[this]
  rw[e2]
 refine⟨as.map fun a=>(a,f a),?_,?_⟩
 .have:=h.map (fun a=>(a,f a));rw[e] at this;exact this
 .rw[fh];exact(jz as).symm
abbrev Ord(us:List (Int×Int)):Prop:=us=us
theorem KP{K:PySem.W.Frag}{H:Hp}{l:Addr}{zs:Zs}{Q:VK}(hl:H l=some (.lst (zr zs)))(ho:PO H zs)(hz:zs.length<=4096)(hb:∀u∈zp zs,0<=u.2/\u.2<64)(q:∀ (D:Addr) (qW:Zs),H D=none->qW.Perm zs->Ord (zp qW)->Q (.ref D) (upd H D (.lst (zr qW)))):GQ K [.ref l] H Q:=by
 refine⟨l,zs.map (·.1),rfl,br.of (by rw[<-qV];exact hl),fun a ha=>?_,by rw[aP];exact hz,fun D y4 hD hp=>?_⟩
 .obtain⟨z,hz,rfl⟩:=a9.mp ha;exact⟨_,_,bp.of (ho z hz)⟩
 .obtain⟨qW,h1,rfl⟩:=Ei ho hp;rw[<-qV];exact q D qW hD h1 rfl
theorem G8{K:PySem.W.Frag}{a D:Addr}{Jz:Zs}{g:TG}{tt:TT}{te:TE}{fin:Hp->Prop}{σB:St}{H0:Hp}(F:Int×Int->Int×Int)(cP:St->Prop)(ha:H0 a=some (.lst (zr Jz)))(hp0:PO H0 Jz)(hD:H0 D=none)(hn:Jz.length<=100000)(h0:cP σB)(hs:∀z σ H (R:V->St->Hp->Prop) (Kf:St->Hp->Prop),z∈Jz->cP σ->H z.1=some (MX z.2)->(∀σ2 p,cP σ2->H p=none->R (.ref p) σ2 (upd H p (MX (F z.2))))->g (.ref z.1) σ H fun σ2 H2=>tt σ2 H2 fun b H3=>if b=true then te σ2 H3 fun v H4=>R v σ2 H4 else Kf σ2 H3)(hd:∀zs H,aA H0 H->H D=some (.lst (zr zs))->PO H zs->zp zs=(zp Jz).map F->(∀z∈zs,H0 z.1=none)->fin H):gR (Fw K a) g tt te D fin σB (upd H0 D (.lst [])):=by
 refine jl (xs:=zr Jz) (fun i ys σ H=>cP σ/\aA H0 H/\H D=some (.lst ys)/\∃zs:Zs,ys=zr zs/\PO H zs/\zp zs=((zp Jz).take i).map F/\∀z∈zs,H0 z.1=none) ⟨h0,ao hD,ah,[],rfl,PO.nil,rfl,fun z hz=>nomatch hz⟩ (fun i ys σ H _ z=>br.of (z.2.1 _ _ ha)) ?_ ?_
 .rintro i x ys σ H Kt Kf hx ⟨sh,sm,lY,zs,rfl,po,ep,fr⟩ kt kf;obtain⟨z,hz,rfl⟩:=wP hx;have hi:i<Jz.length:=(dk.mp hz).1;have MZ:z∈Jz:=cZ hz;have hl:zs.length=i:=by rw[<-dC,ep,aP,j9,dC];lia
  refine hs z σ H Kt Kf MZ sh (sm _ _ (hp0 z MZ)) (fun σ2 p wQ hp=>?_)
  .have nD:D≠p:=aq lY hp;refine kt _ _ _ (by rw[al nD];exact lY) (by rw[kX,hl];exact bK hi (bj hn (by decide))) ⟨wQ,cy (sm.trans (ao hp)) hD,ah,zs++[(p,F z.2)],?_,?_,?_,?_⟩
   .rw[pS];rfl
   .refine PO.putL (xs:=zr zs) ?_ (by rw[al nD];exact lY);exact(po.putN hp).append (PO.one ah)
   .have e2:(zp Jz)[i]?=some z.2:=by unfold zp;rw[bL,hz];rfl
    rw[ve,ep,iG,e2,Option.toList_some,d_];rfl
   .intro z hz;rcases dP.mp hz with z'|z'
    .exact fr z z'
    .rw[dL.mp z'];exact sm.free hp
 .rintro ys σ H ⟨_,sm,lY,zs,rfl,po,ep,fr⟩;rw[kX,<-dC,gf] at ep;exact hd zs H sm lY po ep fr
open jJ
abbrev CL:Stmt:=eU (fA 32) 0
abbrev G9:Stmt:=eU (fA 32) 1
abbrev OE:Stmt:=eU (fA 32) 3
abbrev A2:Stmt:=eU (fA 32) 8
structure Er(K:PySem.W.Frag)(mg:Str->Option Value)(x:Str)(C:Addr):Prop where
 at_:mg x=some (.ref C)
 ok:qu K C
theorem n12:¬ (("house_count":Str)="tie_list"):=by decide +kernel
theorem XV:¬ (("house_count":Str)="out_lists"):=by decide +kernel
theorem n14:¬ (("house_count":Str)="distances"):=by decide +kernel
theorem n34:¬ (("out_lists":Str)="distances"):=by decide +kernel
def uC(n:Int)(tl ol ds:Addr):List (Str×V):=du "distances" (.ref ds) (du "out_lists" (.ref ol) (du "tie_list" (.ref tl) (du "house_count" (.int n) [])))
theorem CM(n:Int)(tl ol ds:Addr):(uC n tl ol ds).lookup ("house_count":Str)=some (.int n):=by
 unfold uC;rw[aZ,ap n14,aZ,ap XV,aZ,ap n12,aZ,ai rfl]
theorem wR(n:Int)(tl ol ds:Addr){m:Str}(h1:¬ m="house_count")(h2:¬ m="tie_list")(h3:¬ m="out_lists")(h4:¬ m="distances"):(uC n tl ol ds).lookup m=none:=by
 unfold uC;rw[aZ,ap h4,aZ,ap h3,aZ,ap h2,aZ,ap h1];all_goals rfl
theorem KQ(n:Int)(tl ol ds:Addr):(uC n tl ol ds).lookup ("out_lists":Str)=some (.ref ol):=by
 unfold uC;rw[aZ,ap n34,aZ,ai rfl]
def ja(H:Hp)(L:Addr->Prop)(l:Addr)(n:Nat)(r:Nat->List Nat):Prop:=∃bs:List Addr,H l=some (.lst (bs.map V.ref))/\(∀b∈bs,L b)/\Holds H bs n (fun h=>.lst (NV (r h)))
theorem ja.keep(R:ja H L l n r)(hl:L l)(k:∀b o,L b->H b=some o->H' b=some o):ja H' L l n r:=
 let ⟨bs,a,b,c⟩:=R
 ⟨bs,k _ _ hl a,b,c.mono fun j hj e=>k _ _ (b _ (by rw[cr,cU (by rw[c.1];exact hj)];exact iI _)) e⟩
theorem ja.row(R:ja H L l n r)(hh:h<n):∃ (bs:List Addr) (b:Addr),H l=some (.lst (bs.map V.ref))/\(bs.map V.ref)[h]?=some (V.ref b)/\H b=some (.lst (NV (r h)))/\L b:=by
 obtain⟨bs,a,b,c⟩:=R;have hl:h<bs.length:=by rw[c.1];exact hh
 refine⟨bs,bs[h],a,by rw[bL,cU hl];rfl,?_,b _ (iI _)⟩;have:=c.2 h hh;rw[cr,cU hl] at this;exact this
def KR(H:Hp)(L:Addr->Prop)(tl:Addr)(ts:Ts):Prop:=L tl/\∃zs:Zs,H tl=some (.lst (zr zs))/\PO H zs/\(∀z∈zs,L z.1)/\(zp zs).Perm ts/\Ord (zp zs)
theorem KR.keep(h:KR H L tl ts)(k:∀b o,L b->H b=some o->H' b=some o):KR H' L tl ts:=
 let ⟨a,zs,b,c,d,e⟩:=h;⟨a,zs,k _ _ a b,fun z hz=>k _ _ (d z hz) (c z hz),d,e⟩
structure gU(C:Addr)(H:Hp)(L:Addr->Prop)(p:Addr)(n:Nat)(ts:Ts):Prop where
 oo:fR n ts
 ob:∃dx tl ol ds,H p=some (.ins C dx (uC n tl ol ds))/\L ol/\L ds/\ja H L ol n (dS n ts)/\ja H L ds n (fun h=>(List.range n).map (MV ts h))/\KR H L tl ts
theorem gU.keep(N:gU C H L p n ts)(k:∀b o,L b->H b=some o->H' b=some o)(kp:∀o,H p=some o->H' p=some o):gU C H' L p n ts:=
 let ⟨dx,tl,ol,ds,a,l1,l2,b,c,d⟩:=N.ob
 ⟨N.oo,dx,tl,ol,ds,kp _ a,l1,l2,b.keep l1 k,c.keep l2 k,d.keep k⟩
theorem gU.same(N:gU C H L p n ts)(s:aA H H'):gU C H' L p n ts:=N.keep (fun b o _ e=>s b o e) (fun o e=>s _ o e)
structure NT(K:PySem.W.Frag)(mg:Str->Option Value)(C:Addr):Prop where
 cl:EZ K C
 nH:gG K C "house_count"
 nT:gG K C "tie_list"
 nO:gG K C "out_lists"
 nD:gG K C "distances"
 XW:mg "Net"=some (.ref C)
structure fc(P:Program)(w:World)(K:PySem.W.Frag)(mg:Str->Option Value)(base:Heap)(CX:xB)(k:Nat)(C:Addr)(x:Str)(ps:List Str)(sp:Sp):Prop where
 ex:∃f fd,J0 K C x f/\jg K fd ps []/\bn P w K mg base CX k f fd ps sp
section
variable {P:Program} {w:World} {K:PySem.W.Frag} {mg:Str->Option Value} {base:Heap}
theorem KS:aD ["self","thing"] ["self","thing"] (am A2):=⟨rfl,rfl,rfl,by decide +kernel,rfl,by decide +kernel,by decide +kernel⟩
def qX(K:PySem.W.Frag)(C CE:Addr):Sp:=fun vs H Q E=>∃ (L:Addr->Prop) (p:Addr) (n:Nat) (ts:Ts) (x:V) (o:Option Int),vs=[.ref p,x]/\gU C H L p n ts/\Wh K H x o/\(bf o 0 ((n:Int)-1)=false->E (.ref CE) none H)/\(bf o 0 ((n:Int)-1)=true->Q .bR H)
theorem G_{f C CE:Addr}{fd:FuncData}(F:eM K "check_house" "Net.check_house" A2 f fd)(T:NT K mg C)(e:Er K mg "NoHouse" CE)(HH:cq P w K mg base a7 3 "is_house" ["many","thing"] (lE K)):
  bn P w K mg base (iw P w) 4 f fd ["self","thing"] (qX K C CE):=by
 refine F.Mt KS (fun vs H Q E h=>?_) (fun dz A outer s H vs Q E hr h=>?_)
 .obtain⟨L,p,n,ts,x,o,rfl,_⟩:=h;rfl
 .obtain⟨L,p,n,ts,x,o,rfl,N,wh,k1,k2⟩:=h;obtain⟨dx,tl,ol,ds,h1,_⟩:=N.ob;refine⟨_,aj (bE (dw (cR (az HH hr aE (aa (gI (pv 0) rfl) (aa (pv 1) af))))) (aj (kN (q:=fun H1=>E (.ref CE) none H1) rfl e.ok rfl e.at_ (aa r_ af) (fun _ _ _ _ _ _ _ I m q=>kM I m q))) aL),?_⟩;refine⟨_,rfl,p,C,dx,_,_,rfl,h1,T.cl,T.nH,CM _ _ _ _,_,rfl,x,o,n,rfl,wh,_,rfl,?_⟩;cases hw:bf o 0 ((n:Int)-1) with
  |false=>exact gJ ⟨by show 1<=sizeLine;decide,k1 hw⟩
  |true=>exact e_ (k2 hw)
theorem Ta(n:Int)(tl ol ds:Addr):(uC n tl ol ds).lookup ("check_house":Str)=none:=wR n tl ol ds (by decide +kernel) (by decide +kernel) (by decide +kernel) (by decide +kernel)
theorem bi:(NV xs).length=xs.length:=aP _
theorem fU{o:Option Int}{n:Nat}(h:bf o 0 ((n:Int)-1)=true):∃i:Nat,i<n/\o=some (i:Int):=by
 cases o with
 |none=>cases h
 |some i=>
  unfold bf at h;simp at h;exact⟨i.toNat,by lia,by congr 1;lia⟩
theorem cg{i n:Nat}(h:i<n):bf (some (i:Int)) 0 ((n:Int)-1)=true:=by unfold bf;simp;lia
def CN(K:PySem.W.Frag)(C CE:Addr)(ans:Hp->Nat->Ts->Nat->VK->Prop):Sp:=fun vs H Q E=>∃ (L:Addr->Prop) (p:Addr) (n:Nat) (ts:Ts) (x:V) (o:Option Int),vs=[.ref p,x]/\gU C H L p n ts/\Wh K H x o/\(bf o 0 ((n:Int)-1)=false->E (.ref CE) none H)/\∀i:Nat,i<n->o=some (i:Int)->ans H n ts i Q
theorem Tb:aD ["self","house"] ["self","house"] (am OE):=⟨rfl,rfl,rfl,by decide +kernel,rfl,by decide +kernel,by decide +kernel⟩
def KU:Hp->Nat->Ts->Nat->VK->Prop:=fun H n ts i Q=>∀r H',aA H H'->H r=none->H' r=some (.lst (NV (dS n ts i)))->Q (.ref r) H'
theorem pT{H:Hp}{x:V}{i:Int}(h:Wh K H x (some i)):x=.int i:=by cases h;rfl
theorem OF{f C CE:Addr}{fd:FuncData}(F:eM K "out" "Net.out" OE f fd)(T:NT K mg C)(B:Bl mg)(M:fc P w K mg base (iw P w) 4 C "check_house" ["self","thing"] (qX K C CE)):
  bn P w K mg base (iw P w) 5 f fd ["self","house"] (CN K C CE KU):=by
 obtain⟨fM,Wd,mM,bM,GM⟩:=M.ex;refine F.Mt Tb (fun vs H Q E h=>?_) (fun dz A outer s H vs Q E hr h=>?_)
 .obtain⟨L,p,n,ts,x,o,rfl,_⟩:=h;rfl
 .obtain⟨L,p,n,ts,x,o,rfl,N,wh,k1,k2⟩:=h;obtain⟨dx,tl,ol,ds,h1,_,_,R,_⟩:=N.ob;refine⟨_,ag (bX (cL (pv 0) T.cl mM GM hr bM .nil (uU (E':=E) fun _ _ _ z=>z) (aa (pv 1) af)))
   (aj (aG (bW nZ (by rfl) B.lst rn (aa (aR bC (gI (pv 0) rfl) (pv 1) (fun _ _=>rfl)) af)))),?_⟩
  refine⟨_,rfl,p,dx,_,rfl,h1,Ta _ _ _ _,_,rfl,L,p,n,ts,x,o,rfl,N,wh,k1,fun hw=>?_⟩;obtain⟨i,hi,rfl⟩:=fU hw;obtain rfl:=pT wh;obtain⟨bs,b,r1,r2,r3,_⟩:=R.row hi;exact⟨_,rfl,p,C,dx,_,_,rfl,h1,T.cl,T.nO,KQ _ _ _ _,_,rfl,ol,_,_,_,rfl,rfl,br.of r1,aw r2,b,_,rfl,.inl (br.of r3),fun l hl=>k2 i hi rfl l _ (ao hl) hl ah⟩
end
open PySem L2 jJ
abbrev A3:Stmt:=fA 33
abbrev OG:Stmt:=fA 34
abbrev OH:Stmt:=fA 35
section
variable {P:Program} {w:World} {K:PySem.W.Frag} {mg:Str->Option Value} {base:Heap}
abbrev OI:Stmt:=fA 12
theorem Tc:aD ["many","one","other"] ["many","one","other"] (am OI):=⟨rfl,rfl,rfl,by decide +kernel,rfl,by decide +kernel,by decide +kernel⟩
def Ha:Sp:=fun vs H Q _=>∃ (n a b:Int),vs=[.int n,.int a,.int b]/\0<=a/\a<n/\0<=b/\b<n/\a≠b/\Q (.bl true) H
theorem OJ(F:eM K "are_unlike_houses" "are_unlike_houses" OI f fd)(HH:cq P w K mg base a7 3 "is_house" ["many","thing"] (lE K)):
  bn P w K mg base a7 4 f fd ["many","one","other"] Ha:=by
 refine F.ok Tc (fun vs H Q E h=>?_) (fun dz A outer s H vs Q E hr h=>?_)
 .obtain⟨n,a,b,rfl,_⟩:=h;rfl
 .obtain⟨n,a,b,rfl,a1,a2,b1,b2,lN,k⟩:=h;refine⟨_,aj (aG (kI (az HH hr aE (aa (pv 0) (aa (pv 1) af))) (kI (az HH hr aE (aa (pv 0) (aa (pv 2) af))) (mR (eT nR (pv 1) (pv 2) (aQ _)))))),?_⟩;refine⟨_,rfl,_,rfl,_,_,n,rfl,.int a,_,rfl,?_⟩;rw[ai (show bf (some a) 0 (n-1)=true by unfold bf;simp;lia)];refine⟨_,rfl,_,rfl,_,_,n,rfl,.int b,_,rfl,?_⟩;rw[ai (show bf (some b) 0 (n-1)=true by unfold bf;simp;lia)];refine⟨_,rfl,_,rfl,rfl,?_⟩;have e:(!decide (V.int a=V.int b))=true:=by simp[lN]
  rw[e];exact k
theorem Td:aD ["many","thing"] ["many","thing"] (am OG):=⟨rfl,rfl,rfl,by decide +kernel,rfl,by decide +kernel,by decide +kernel⟩
def Hb:Sp:=fun vs H Q _=>∃ (n:Int) (p:Addr) (a b:Int),vs=[.int n,.ref p]/\H p=some (.tup [.int a,.int b])/\0<=a/\a<n/\0<=b/\b<n/\a≠b/\Q (.bl true) H
theorem OK(F:eM K "is_tie" "is_tie" OG f fd)(R:cq P w K mg base a7 1 "is_row" ["thing","length"] (vd K))(U:cq P w K mg base a7 4 "are_unlike_houses" ["many","one","other"] Ha):
  bn P w K mg base a7 5 f fd ["many","thing"] Hb:=by
 refine F.ok Td (fun vs H Q E h=>?_) (fun dz A outer s H vs Q E hr h=>?_)
 .obtain⟨n,p,a,b,rfl,_⟩:=h;rfl
 .obtain⟨n,p,a,b,rfl,hp,a1,a2,b1,b2,lN,k⟩:=h;refine⟨_,aj (aG (kI (az R (hr.mono (by decide)) aE (aa (pv 1) (aa aB af)))
   (mR (az U hr aE (aa (pv 0) (aa (aR bh (pv 1) aB (fun _ _=>rfl)) (aa (aR bh (pv 1) aB (fun _ _=>rfl)) af))))))),?_⟩
  refine⟨_,rfl,_,_,_,rfl,.tup hp,true,rfl,?_⟩;exact⟨_,rfl,_,rfl,p,_,_,_,rfl,rfl,bp.of hp,aw (j:=0) rfl,_,rfl,p,_,_,_,rfl,rfl,bp.of hp,aw (j:=1) rfl,n,a,b,rfl,a1,a2,b1,b2,lN,k⟩
theorem CO:aD ["many","ties","tie"] ["many","ties"] (am A3):=⟨rfl,rfl,rfl,by decide +kernel,rfl,by decide +kernel,by decide +kernel⟩
theorem yu:PySem.W.kitOne K (.type "list") (.type "list")=some true:=by kernel_rfl
structure fV(H:Hp)(l:Addr)(n:Nat)(zs:Zs):Prop where
 oo:fR n (zp zs)
 at_:H l=some (.lst (zr zs))
 po:PO H zs
theorem fV.same(h:fV H l n zs)(s:aA H H'):fV H' l n zs:=⟨h.oo,s _ _ h.at_,h.po.same s⟩
def lF:Sp:=fun vs H Q _=>∃ (n:Nat) (l:Addr) (zs:Zs),vs=[.int n,.ref l]/\fV H l n zs/\∀H',aA H H'->Q .bR H'
theorem Hd(F:eM K "check_ties" "check_ties" A3 f fd)(B:Bl mg)(gF:∃t,mg "FEWEST_HOUSES"=some (.int 2 t))(gM:∃t,mg "MOST_HOUSES"=some (.int 32 t))(W:cq P w K mg base a7 2 "is_whole_within" ["thing","least","most"] (jo K))(T:cq P w K mg base a7 5 "is_tie" ["many","thing"] Hb):
  bn P w K mg base a7 6 f fd ["many","ties"] lF:=by
 obtain⟨tF,gF⟩:=gF;obtain⟨tM,gM⟩:=gM;refine F.ok CO (fun vs H Q E h=>?_) (fun dz A outer s H vs Q E hr h=>?_)
 .obtain⟨n,l,zs,rfl,_⟩:=h;rfl
 .refine⟨_,ag (bE (dw (cR (az W (hr.mono (by decide)) aE (aa (pv 0) (aa (jD (v:=.int 2) rfl gF ⟨_,rfl⟩) (aa (jD (v:=.int 32) rfl gM ⟨_,rfl⟩) af)))))) df aL)
   (ag (bE (dw (cR (aJ jk (by rfl) B.Rg oH (aa (pv 1) (aa (lx (v:=.ty "list") rfl B.lst rn rfl) af))))) df aL)
   (ag (cI dQ rfl (cS (pv 1)) (au (i:=2) CO.nd rfl (Or.inl rfl)) (aj (bE (dw (cR (az T hr aE (aa (pv 0) (aa (pv 2) af))))) df aL)))
   (aj (bE (aK nR (aJ xY (by rfl) B.len dH (aa (bW (DN rfl (by have:=hr.un;show (A.deeper _).units+8<_;lia)) (by rfl) B.set PyProof.Rows.boot_set (aa (pv 1) af)) af)) (aJ aF (by rfl) B.len dH (aa (pv 1) af)) (aQ _)) df aL)))),?_⟩
  obtain⟨n,l,zs,rfl,tt,k⟩:=h;obtain⟨fi,hl,po⟩:=id tt;have n1:=fi.n1;have n2:=fi.n2;refine⟨_,rfl,_,_,2,32,rfl,.int n,_,rfl,?_⟩;rw[show bf (some (n:Int)) 2 32=true by unfold bf;simp;lia];refine e_ ?_;refine⟨_,rfl,_,_,_,.type "list",true,rfl,⟨rfl,yu⟩,.of (.lst hl),_,rfl,e_ ?_⟩;refine⟨_,rfl,l,rfl,⟨_,br.of hl⟩,jf (K:=K) (a:=l) (xs:=zr zs) (fun i σ H2=>H2=H/\∃v,σ=[some (.int n),some (.ref l),v]) ⟨rfl,none,rfl⟩ (fun i σ H2 _ ⟨e,_⟩=>by rw[e];exact br.of hl) ?_ ?_⟩
  .rintro i x σ H2 hx ⟨rfl,v,rfl⟩;obtain⟨z,hz,rfl⟩:=wP hx;have MZ:z∈zs:=cZ hz;have hzp:z.2∈zp zs:=a9.mpr ⟨z,MZ,rfl⟩;have r:=fi.rg _ hzp;exact⟨_,rfl,_,rfl,n,_,_,_,rfl,po z MZ,r.1.1,r.1.2,r.2.1,r.2.2,fi.ne _ hzp,_,rfl,e_ ⟨rfl,_,rfl⟩⟩
  .rintro σ H2 ⟨rfl,v,rfl⟩;have de:(zp zs).length<=256:=fi.len;refine⟨_,rfl,l,zs.map (·.1),zp zs,rfl,br.of (by rw[<-qV];exact hl),by rw[aP,dC],fun i hi=>?_,fi.nd,fun y hy=>?_,by lia,fun D hD=>?_⟩
   .rw[dC] at hi;rw[yt hi,CJ hi];exact bp.of (po _ (iI hi))
   .have r:=fi.rg _ hy;lia
   .have nl:l≠D:=aq hl hD;refine⟨D,_,rfl,ah,by lia,_,rfl,l,zr zs,rfl,.inl (br.of (by rw[al nl];exact hl)),rfl,_,rfl,?_⟩;have ez:(!decide (V.int (((zp zs).length:Nat):Int)=V.int (((zr zs).length:Nat):Int)))=false:=by rw[dC,kX];simp
    rw[ez];exact e_ (k _ (ao hD))
end
abbrev yv:Stmt:=fA 36
section
variable {P:Program} {w:World} {K:PySem.W.Frag} {mg:Str->Option Value} {base:Heap}
theorem pU(S:St->Prop)(p q:Int×Int->Int)(h:Int)(hD:H D=none)(hl:H l=some (.lst (zr zs)))(po:PO H zs)(hn:zs.length<=1000)(s0:S σB)(hg:∀z σ H2 (Kt:V->St->Hp->Prop) (Kf:St->Hp->Prop),z∈zs->S σ->H2 z.1=some (MX z.2)->(∀σ2,S σ2->p z.2=h->Kt (.int (q z.2)) σ2 H2)->(∀σ2,S σ2->p z.2≠h->Kf σ2 H2)->
   g (.ref z.1) σ H2 fun σ2 H2=>tt σ2 H2 fun b H3=>if b=true then te σ2 H3 fun v H4=>Kt v σ2 H4 else Kf σ2 H3)(hd:fin (upd H D (.lst (IV (((zp zs).filter fun y=>decide (p y=h)).map q))))):gR (Fw K l) g tt te D fin σB (upd H D (.lst [])):=by
 have nl:l≠D:=aq hl hD;have tk:∀ {i:Nat} {z:Addr×(Int×Int)},zs[i]?=some z->(zp zs).take (i+1)=(zp zs).take i++[z.2]:=fun {i z} hz=>by
  rw[iG,show (zp zs)[i]?=some z.2 by unfold zp;rw[bL,hz];rfl];rfl
 refine jl (xs:=zr zs) (fun i ys σ H2=>S σ/\ys=IV ((((zp zs).take i).filter fun y=>decide (p y=h)).map q)/\H2=upd H D (.lst ys)) ⟨s0,by simp,rfl⟩ (fun i ys σ H2 _ ⟨_,_,e⟩=>by rw[e];exact br.of (by rw[al nl];exact hl)) ?_ ?_
 .rintro i x ys σ H2 Kt Kf hx ⟨hS,ey,rfl⟩ kt kf;obtain⟨z,hz,rfl⟩:=wP hx;have MZ:z∈zs:=cZ hz;have hp:=po z MZ;have na:z.1≠D:=aq hp hD;have hi:i<zs.length:=(dk.mp hz).1;refine hg z σ _ Kt Kf MZ hS (by rw[al na];exact hp) (fun σ2 s2 e=>?_) (fun σ2 s2 e=>?_)
  .refine kt _ _ _ ah ?_ ⟨s2,?_,?_⟩
   .rw[ey,aP,aP];exact fE (je _ _) (fE (List.length_take_le _ _) (bK (show i<1000 by lia) (by decide)))
   .rw[ey,tk hz,jR,d_];have:decide (p z.2=h)=true:=by simp[e]
    simp[eZ,this]
   .rw[qK]
  .refine kf _ _ ⟨s2,?_,rfl⟩;have:decide (p z.2=h)=false:=by simp[e]
   rw[ey,tk hz,jR];simp[eZ,this]
 .rintro ys σ H2 ⟨_,ey,rfl⟩;rw[kX,<-dC,gf] at ey;rw[ey];exact hd
theorem Rh:(["one","other","house"]:List Str).Nodup:=by decide +kernel
theorem CP:aD ["many","ties","house","leading_out","leading_in"] ["many","ties"] (am OH):=⟨rfl,rfl,rfl,by decide +kernel,rfl,by decide +kernel,by decide +kernel⟩
theorem OL(F:eM K "check_balance" "check_balance" OH f fd)(B:Bl mg)(gM:∃t,mg "MOST_TIES_OUT"=some (.int 8 t)):
  bn P w K mg base a7 1 f fd ["many","ties"] lF:=by
 obtain⟨tM,gM⟩:=gM;refine F.ok CP (fun vs H Q E h=>?_) (fun dz A outer s H vs Q E hr h=>?_)
 .obtain⟨n,l,zs,rfl,_⟩:=h;rfl
 .obtain⟨n,l,zs,rfl,T,k⟩:=h;have fi:=T.oo;have n1:=fi.n1;have n2:=fi.n2;have de:zs.length<=256:=by have:=fi.len;rw[dC] at this;exact this
  refine'⟨_,aj (cI dQ rfl (bu rfl B.range (aa (pv 0) af)) (au (i:=2) CP.nd rfl (Or.inr rfl))
   (ag (aN (i:=3) CP.nd rfl (Or.inl rfl) (aJ aF (by rfl) B.len dH (aa ?c1 af)))
   (ag (aN (i:=4) CP.nd rfl (Or.inl rfl) (aJ aF (by rfl) B.len dH (aa ?c2 af)))
   (ag (bE (aK nR (pv 3) (pv 4) (aQ _)) df aL)
   (aj (bE (aK BZ (pv 3) (jD (v:=.int 8) rfl gM ⟨_,rfl⟩) (aQ _)) df aL)))))),?_⟩
  case c1=>
   refine' dN (g:=wq K 2 (gn (bV 0) (gn (bV 1) wm))) (NB:=["one","other","house"]) (src:=[none,none,some 2]) (cp (by kernel_rfl)) rfl (cS (pv 1)) ?g ?t ?e;case g=>exact fun cl C s₃ H₃ fp=>fj (n:=2) rfl (aV (au (i:=0) Rh rfl (Or.inl rfl) (Or.inr rfl)) (aV (au (i:=1) Rh rfl (Or.inl rfl) (Or.inr rfl)) d7))
   case t=>exact fun cl C s₃ H₃ fp=>d8 (aK gv (pv 0) (pv 2) (aQ _))
   case e=>exact fun cl C s₃ H₃ fp=>pv 0
  case c2=>
   refine' dN (g:=wq K 2 (gn (bV 0) (gn (bV 1) wm))) (NB:=["one","other","house"]) (src:=[none,none,some 2]) (cp (by kernel_rfl)) rfl (cS (pv 1)) ?g ?t ?e;case g=>exact fun cl C s₃ H₃ fp=>fj (n:=2) rfl (aV (au (i:=0) Rh rfl (Or.inl rfl) (Or.inr rfl)) (aV (au (i:=1) Rh rfl (Or.inl rfl) (Or.inr rfl)) d7))
   case t=>exact fun cl C s₃ H₃ fp=>d8 (aK gv (pv 1) (pv 2) (aQ _))
   case e=>exact fun cl C s₃ H₃ fp=>pv 1
  refine⟨_,rfl,n,rfl,by lia,by lia,dg (n:=n) (lo:=0) (fun i σ H2=>aA H H2/\∃a b c,σ=[some (.int n),some (.ref l),a,b,c]) ⟨aA.refl _,none,none,none,rfl⟩ ?_ ?_⟩
  .rintro i σ H2 hi ⟨sm,a,b,c,rfl⟩;have T2:=T.same sm;refine⟨_,rfl,l,rfl,⟨_,br.of T2.at_⟩,fun D hD=>pU (fun σ=>∃a b,σ=[a,b,some (.int (0+(i:Int)))]) (·.1) (·.1) (0+(i:Int)) hD T2.at_ T2.po (by lia) ⟨_,_,rfl⟩ ?_ ?_⟩
   .rintro z σ H3 Kt Kf hj ⟨x,y,rfl⟩ ha kt kf;refine⟨z.1,_,rfl,bp.of ha,rfl,_,_,rfl,_,_,rfl,rfl,?_⟩;refine⟨_,rfl,_,rfl,rfl,_,rfl,?_⟩;refine iE (fun e=>?_) (fun e=>?_)
    .exact⟨_,rfl,kt _ ⟨_,_,rfl⟩ (by simpa using e)⟩
    .exact kf _ ⟨_,_,rfl⟩ (by simpa using e)
   .refine⟨D,_,rfl,.inl (br.of ah),?_⟩;have Ej:=cy (o:=.lst (IV (((zp zs).filter fun y=>decide (y.1=0+(i:Int))).map (·.1)))) (sm.trans (aA.refl _)) (H:=H) (by cases z:H D with|none=>rfl|some o=>rw[sm _ _ z] at hD;cases hD);have T3:=T.same Ej;refine⟨_,rfl,l,rfl,⟨_,br.of T3.at_⟩,fun D' hD'=>pU (fun σ=>∃a b,σ=[a,b,some (.int (0+(i:Int)))]) (·.2) (·.2) (0+(i:Int)) hD' T3.at_ T3.po (by lia) ⟨_,_,rfl⟩ ?_ ?_⟩
    .rintro z σ H3 Kt Kf hj ⟨x,y,rfl⟩ ha kt kf;refine⟨z.1,_,rfl,bp.of ha,rfl,_,_,rfl,_,_,rfl,rfl,?_⟩;refine⟨_,rfl,_,rfl,rfl,_,rfl,?_⟩;refine iE (fun e=>?_) (fun e=>?_)
     .exact⟨_,rfl,kt _ ⟨_,_,rfl⟩ (by simpa using e)⟩
     .exact kf _ ⟨_,_,rfl⟩ (by simpa using e)
    .refine⟨D',_,rfl,.inl (br.of ah),?_⟩;rw[eK] at *;have q1:(IV (((zp zs).filter fun y=>decide (y.1=(i:Int))).map (·.1))).length=(IV (((zp zs).filter fun y=>decide (y.2=(i:Int))).map (·.2))).length:=by
      rw[aP,aP,aP,aP];exact fi.bal i
     have q2:(IV (((zp zs).filter fun y=>decide (y.1=(i:Int))).map (·.1))).length<=8:=by
      rw[aP,aP];exact fi.most i
     refine⟨_,rfl,_,rfl,rfl,_,rfl,?_⟩;rw[<-q1];rw[show (!decide (V.int (((IV (((zp zs).filter fun y=>decide (y.1=(i:Int))).map (·.1))).length:Nat):Int)=V.int (((IV (((zp zs).filter fun y=>decide (y.1=(i:Int))).map (·.1))).length:Nat):Int)))=false by simp];refine e_ ?_;refine⟨_,rfl,_,_,rfl,rfl,_,rfl,?_⟩;rw[show decide ((((IV (((zp zs).filter fun y=>decide (y.1=(i:Int))).map (·.1))).length:Nat):Int) > 8)=false by rw[vA];lia];exact e_ ⟨Ej.trans (ao hD'),_,_,_,rfl⟩
  .rintro σ H2 ⟨sm,a,b,c,rfl⟩;exact k H2 sm
end
def KW:Expr:=match (cH yv).getD 1 (.Pass ⟨0,0,0,0⟩) with
 |.Return (some (.Call _ _ (k::_) _)) _=>k.value
 |_=>.Name "x" ⟨0,0,0,0⟩
def KY:Arguments:=match KW with
 |.Lambda a _ _ _=>a
 |_=>{ posonlyargs:=[],args:=[],vararg:=none,kwonlyargs:=[],kw_defaults:=[],kwarg:=none,defaults:=[] }
def KZ:Expr:=match KW with
 |.Lambda _ b _ _=>b
 |e=>e
def Tf:Scope:=match KW with
 |.Lambda _ _ s _=>s
 |_=>{ kind:=.function,names:=[],isGenerator:=false,isCoroutine:=false }
def OM:Pos:=match KW with
 |.Lambda _ _ _ p=>p
 |_=>⟨0,0,0,0⟩
def M0:Str:=("houses_out":Str)++".<locals>."++"<lambda>"
abbrev nE(Pt:Addr)(H:Hp):Prop:=og OM M0 Pt H
def vf(Pt:Addr)(H H':Hp):Prop:=∀b o,H b=some o->b≠Pt->H' b=some o
theorem vf.of(a:aA H H'):vf Pt H H':=fun c o h _=>a c o h
theorem nE.not(t:nE Pt H)(h:H b=some o)(n:∀ps,o≠.qJ ps):b≠Pt:=by
 rintro rfl;rcases t with z|⟨c,z,_⟩ <;> · rw[h] at z;exact n _ (a8 z)
theorem nE.same(t:nE Pt H)(e:aA H H'):nE Pt H':=by
 rcases t with z|⟨c,z,y⟩
 .exact .inl (e _ _ z)
 .exact .inr ⟨c,e _ _ z,e _ _ y⟩
theorem K0{n a b h:Int}(hn:0<n)(a0:0<=a)(a1:a<n)(b0:0<=b)(b1:b<n)(e:(a-h) % n=(b-h) % n):a=b:=by
 have h1:=Int.emod_emod_of_dvd (a-h) (Int.dvd_refl n);have q:(a-b) % n=0:=by
  have:a-b=(a-h)-(b-h):=by lia
  rw[this,Int.sub_emod,e,Int.sub_self,Int.zero_emod]
 obtain⟨c,hc⟩:=Int.dvd_of_emod_eq_zero q;have c0:c=0:=by
  rcases Int.lt_trichotomy c 0 with z|z|z
  .have:n*c<=n*(-1):=Fb (by lia) (by lia);lia
  .exact z
  .have:n*1<=n*c:=Fb (by lia) (by lia);lia
 rw[c0] at hc;lia
theorem uD{ts:Ts}{h:Int}(nd:ts.Nodup):((ts.filter fun y=>decide (y.1=h)).map (·.2)).Nodup:=by
 refine L2.pJ (nd.filter _) fun x hx y hy e=>?_;have a:=(a_.mp hx).2;have b:=(a_.mp hy).2;simp at a b;exact gD (a.trans b.symm) e
theorem Ek{n:Nat}{ts:Ts}{h:Nat}(F:fR n ts)(hh:h<n){out:List Int}(ko:On (h:Int) (n:Int) ((ts.filter fun y=>decide (y.1=(h:Int))).map (·.2)) out):out.map V.int=NV (dS n ts h):=by
 obtain⟨ps,hp,rfl,hs⟩:=ko;have DS:(ps.map (·.2)).Perm ((ts.filter fun y=>decide (y.1=(h:Int))).map (·.2)):=by
  have:=hp.map (·.2);rw[fh] at this;refine this.trans (vV ?_);conv=>rhs;rw[<-jz ((ts.filter fun y=>decide (y.1=(h:Int))).map (·.2))]
  rfl
 have mem:∀z,z∈ps.map (·.2)↔((h:Int),z)∈ts:=fun z=>by
  rw[DS.mem_iff,a9];constructor
  .rintro⟨y,hy,rfl⟩;obtain⟨y1,y2⟩:=a_.mp hy;have:y.1=(h:Int):=by simpa using y2
   rw[<-this];exact y1
  .intro hz;exact⟨_,a_.mpr ⟨hz,by simp⟩,rfl⟩
 have nd:(ps.map (·.2)).Nodup:=DS.nodup_iff.mpr (uD F.nd);have key:∀q∈ps,q.1=(q.2-(h:Int)) % (n:Int):=fun q hq=>by
  obtain⟨z,_,e⟩:=a9.mp (hp.mem_iff.mp hq);rw[<-e]
 have hn:(0:Int)<n:=by have:=F.n1;lia
 have sorted:(ps.map (·.2)).Pairwise fun x y=>(x-(h:Int)) % (n:Int)<(y-(h:Int)) % (n:Int):=by
  refine jS.mpr ?_;have nd2:=jS.mp nd;refine(hs.and nd2).imp_of_mem fun {x y} hx hy Ox=>?_;have l1:=Ox.1;rw[key x hx,key y hy] at l1;have ax:=F.rg _ ((mem x.2).mp (a9.mpr ⟨x,hx,rfl⟩));have ay:=F.rg _ ((mem y.2).mp (a9.mpr ⟨y,hy,rfl⟩));have ne:(x.2-(h:Int)) % (n:Int)≠(y.2-(h:Int)) % (n:Int):=fun z=>Ox.2 (K0 hn ax.2.1 ax.2.2 ay.2.1 ay.2.2 z);lia
 have e:ps.map (·.2)=(dS n ts h).map fun (o:Nat)=>(o:Int):=by
  refine qf (k:=fun z=>(z-(h:Int)) % (n:Int)) sorted ?_ fun z=>?_
  .refine jS.mpr ?_;exact qe hh
  .rw[mem,a9];constructor
   .intro hz;have r:=F.rg _ hz;refine⟨z.toNat,(eR F hh).mpr ?_,by lia⟩;show (((h:Nat):Int),((z.toNat:Nat):Int))∈ts;rw[show ((z.toNat:Nat):Int)=z by lia];exact hz
   .rintro⟨o,ho,rfl⟩;exact(eR F hh).mp ho
 rw[e,fh];rfl
section
variable {P:Program} {w:World} {K:PySem.W.Frag} {mg:Str->Option Value} {base:Heap}
theorem He:aD ["many","ties","house","others"] ["many","ties","house"] (am yv):=⟨rfl,rfl,rfl,by decide +kernel,rfl,by decide +kernel,by decide +kernel⟩
def wS(Pt:Addr):Sp:=fun vs H Q _=>∃ (n:Nat) (l:Addr) (h:Nat) (zs:Zs),vs=[.int n,.ref l,.int h]/\h<n/\fV H l n zs/\nE Pt H/\
 ∀ (r:Addr) (H':Hp),nE Pt H'->vf Pt H H'->H r=none->H' r=some (.lst (NV (dS n (zp zs) h)))->Q (.ref r) H'
theorem K2(F:AN K "houses_out" "houses_out" yv f fd c)(B:Bl mg)(kb:K.In base)(hb:wG mg base)(hc:PySem.W.codeHdIn K c Pt=true):
  bn P w K mg base a7 1 f fd ["many","ties","house"] (wS Pt):=by
 refine F.ok He (fun vs H Q E h=>?_) (fun A outer s H vs Q E hr h=>?_)
 .obtain⟨n,l,h,zs,rfl,_⟩:=h;rfl
 .obtain⟨n,l,h,zs,rfl,hh,T,tb,k⟩:=h;have fi:=T.oo;have n1:=fi.n1;have de:zs.length<=256:=by have:=fi.len;rw[dC] at this;exact this
  have LS:SH (jG a7 P w K mg base ["many","ties","house","others"] "houses_out" (am yv) f (.ref c) A outer s H E).Mm M0 KY KZ Tf "other" "house" "many" 2 0:=
   ⟨⟨_,_,_,_,_,rfl⟩,fun _ _ _ _ _=>rfl,rfl,rfl,rfl,rfl,rfl,rfl,rfl,by decide +kernel,by decide +kernel,by decide +kernel,rfl,rfl,rfl,by decide,⟨by decide,by decide⟩,⟨by decide,by decide⟩⟩
  refine'⟨_,ag (dA (i:=3) (g:=wq K 2 (gn (bV 0) (gn (bV 1) wm))) (NB:=["one","other","house"]) (src:=[none,none,some 2]) (cp (by kernel_rfl)) rfl (cS (pv 1)) ?g ?t ?e He.nd rfl rfl rfl)
   (aj (aG (DQ (AL LS hr) rfl B.sorted zg (aa (pv 3) af) (J3 (Om (NB:=["other","house","many"]) (src:=[none,some 2,some 0]) (Kl kb hb hc) (cp (by kernel_rfl))) NP)))),?_⟩
  case g=>exact fun cl C s₃ H₃ fp=>fj (n:=2) rfl (aV (au (i:=0) Rh rfl (Or.inl rfl) (Or.inr rfl)) (aV (au (i:=1) Rh rfl (Or.inl rfl) (Or.inr rfl)) d7))
  case t=>exact fun cl C s₃ H₃ fp=>d8 (aK gv (pv 0) (pv 2) (aQ _))
  case e=>exact fun cl C s₃ H₃ fp=>pv 1
  refine⟨_,rfl,l,rfl,⟨_,br.of T.at_⟩,fun D hD=>pU (fun σ=>∃a b,σ=[a,b,some (.int (h:Int))]) (·.1) (·.2) (h:Int) hD T.at_ T.po (by lia) ⟨_,_,rfl⟩ ?_ ?_⟩
  .rintro z σ H3 Kt Kf hj ⟨x,y,rfl⟩ ha kt kf;refine⟨z.1,_,rfl,bp.of ha,rfl,_,_,rfl,_,_,rfl,rfl,?_⟩;refine⟨_,rfl,_,rfl,rfl,_,rfl,?_⟩;refine iE (fun e=>?_) (fun e=>?_)
   .exact⟨_,rfl,kt _ ⟨_,_,rfl⟩ (by simpa using e)⟩
   .exact kf _ ⟨_,_,rfl⟩ (by simpa using e)
  .generalize Ju:((zp zs).filter fun y=>decide (y.1=(h:Int))).map (·.2)=os;have Gn:os.length<=8:=by rw[<-Ju,aP];exact fi.most h
   have sm:aA H (upd H D (.lst (IV os))):=ao hD;refine⟨_,rfl,tb.same sm,fun f' c' H2 t2' mJ NA Ke=>?_⟩;have t2:nE Pt H2:=t2';have pV:H2 D=some (.lst (IV os)):=mJ _ _ ah ((tb.same sm).not ah (by intro ps z;cases z));refine⟨D,f',c',os,h,n,rfl,rfl,br.of pV,(by lia),Ke,NA,rfl,rfl,by lia,fun r out E5 ko=>?_⟩;rw[<-Ju] at ko;rw[Ek fi hh ko];have Ej:aA H2 (upd H2 r (.lst (NV (dS n (zp zs) h)))):=ao E5;refine k r _ (t2.same Ej) (fun b o e hb=>Ej _ _ (mJ b o (sm _ _ e) hb)) ?_ ah;cases z:H r with
   |none=>rfl
   |some o=>
    by_cases hP:r=Pt
    .rcases t2 with q|⟨_,q,_⟩ <;> · rw[<-hP,E5] at q;cases q
    .rw[mJ r o (sm _ _ z) hP] at E5;cases E5
end
abbrev Hf:Stmt:=fA 37
abbrev A4:Stmt:=fA 38
def lO(n:Nat)(R:List Nat)(f:Nat->Nat):List V:=(List.range n).map fun x=>if x∈R then V.int ((f x:Nat):Int) else .bR
theorem kY:(lO n R f).length=n:=by unfold lO;rw[aP,dO]
theorem kZ(h:x<n):(lO n R f)[x]?=some (if x∈R then V.int ((f x:Nat):Int) else .bR):=by
 unfold lO;rw[bL,oQ h];rfl
theorem A5(hs:s<n):(List.replicate n V.bR).set s (V.int 0)=lO n [s] (fun _=>0):=by
 apply mn;intro x;by_cases hx:x<n
 .rw[kZ hx];by_cases e:x=s
  .subst e;rw[rq (by rw[me];exact hx),ai (by simp)];rfl
  .rw[vI (fun z=>e z.symm),List.getElem?_replicate,ai hx,ap (by simp[e])]
 .rw[gN (by rw[vT,me];lia),gN (by rw[kY];lia)]
theorem Hg(hv:v<n):(lO n R f).set v (V.int ((k:Nat):Int))=lO n (R++[v]) (put f v k):=by
 apply mn;intro x;by_cases hx:x<n
 .rw[kZ hx];by_cases e:x=v
  .subst e;rw[rq (by rw[kY];exact hx),ai (by simp),kU]
  .rw[vI (fun z=>e z.symm),kZ hx,gK e];by_cases h:x∈R
   .rw[ai h,ai (kd _ h)]
   .rw[ap h,ap (fun z=>(dP.mp z).elim h fun z=>e (by simpa using z))]
 .rw[gN (by rw[vT,kY];lia),gN (by rw[kY];lia)]
def Tg(σ:St):Nat:=match σ[4]? with
 |some (some (V.int z))=>z.toNat
 |_=>0
theorem nbO:(["others"]:List Str).Nodup:=by decide +kernel
def tw(H:Hp)(ol:Addr)(n:Nat)(ts:Ts):Prop:=∃bs:List Addr,H ol=some (.lst (bs.map V.ref))/\Holds H bs n (fun h=>.lst (NV (dS n ts h)))
theorem tw.same (x : tw H ol n ts) (e : aA H H') : tw H' ol n ts:=let ⟨bs,a,b⟩:=x; ⟨bs,e _ _ a,b.mono fun _ _ z=>e _ _ z⟩
theorem M1{as:List Addr}{i:Nat}{x:V}(h:(as.map V.ref)[i]?=some x):i<as.length/\x=.ref (as.getD i 0):=by
 rw[bL] at h;cases e:as[i]? with
 |none=>rw[e] at h;cases h
 |some a=>
  rw[e] at h;refine⟨(dk.mp e).1,?_⟩;rw[cr,e];exact(a8 h).symm
section
variable {P:Program} {w:World} {K:PySem.W.Frag} {mg:Str->Option Value} {base:Heap}
theorem m_:aD ["out_lists","start","distances","reached","at","house","other"] ["out_lists","start"] (am Hf):=⟨rfl,rfl,rfl,by decide +kernel,rfl,by decide +kernel,by decide +kernel⟩
def wT:Sp:=fun vs H Q _=>∃ (ol:Addr) (n s:Nat) (ts:Ts),vs=[.ref ol,.int s]/\fR n ts/\s<n/\tw H ol n ts/\
 ∀ (r:Addr) (H':Hp),aA H H'->H r=none->H' r=some (.lst (NV ((List.range n).map (MV ts s))))->Q (.ref r) H'
theorem K3{f:Addr}{fd:FuncData}(F:eM K "distances_from" "distances_from" Hf f fd)(B:Bl mg):bn P w K mg base a7 1 f fd ["out_lists","start"] wT:=by
 refine F.ok m_ (fun vs H Q E h=>?_) (fun dz A outer s H vs Q E hr h=>?_)
 .obtain⟨ol,n,s,ts,rfl,_⟩:=h;rfl
 .obtain⟨ol,n,st,ts,rfl,fi,hs,O,k⟩:=h;have n1:=fi.n1;have n2:=fi.n2;refine'⟨_,ag (dA (i:=2) (g:=bV 0) (NB:=["others"]) (src:=[none]) (cp (by kernel_rfl)) rfl (cS (pv 0)) ?g ?t ?e m_.nd rfl rfl rfl)
   (ag (i6 aB (pi (pv 2) (pv 1) iq))
   (ag (aN (i:=3) m_.nd rfl (Or.inl rfl) (eX (aa (pv 1) af)))
   (ag (aN (i:=4) m_.nd rfl (Or.inl rfl) aB)
   (ag (xI dQ (aK si (pv 4) (aJ aF (by rfl) B.len dH (aa (pv 3) af)) (aQ _))
    (ag (aN (i:=5) m_.nd rfl (Or.inl rfl) (aR bC (pv 3) (pv 4) (fun _ _=>rfl)))
    (ag (cI dQ rfl (cS (aR bC (pv 0) (pv 5) (fun _ _=>rfl))) (au (i:=6) m_.nd rfl (Or.inl rfl))
     (aj (bE (aK i7 (aR bC (pv 2) (pv 6) (fun _ _=>rfl)) cn (aQ _))
      (ag (i6 (bv eC (aR bC (pv 2) (pv 5) (fun _ _=>rfl)) aB) (pi (pv 2) (pv 6) iq))
      (aj (bX (ji jd j6 j5 dh (pv 3) (aa (pv 6) af))))) aL)))
    (aj (pj (i:=4) m_.nd rfl (Or.inl rfl) aB Ag)))))
   (aj (aG (pv 2))))))),?_⟩
  case g=>exact fun cl C s₃ H₃ fp=>au (i:=0) nbO rfl (Or.inl rfl) (Or.inr rfl)
  case t=>exact fun cl C s₃ H₃ fp=>eG
  case e=>exact fun cl C s₃ H₃ fp=>cn
  obtain⟨bs,Gn,XX,Q8⟩:=id O;refine⟨_,rfl,ol,rfl,⟨_,br.of Gn⟩,fun D hD=>?_⟩;have nol:ol≠D:=aq Gn hD;refine jl (xs:=bs.map V.ref) (fun i ys σ H2=>(∃a,σ=[a])/\ys=List.replicate i V.bR/\H2=upd H D (.lst ys)) ⟨⟨_,rfl⟩,rfl,rfl⟩ (fun i ys σ H2 _ ⟨_,_,e⟩=>by rw[e];exact br.of (by rw[al nol];exact Gn)) ?_ ?_
  .rintro i x ys σ H2 Kt Kf hx ⟨⟨a,rfl⟩,rfl,rfl⟩ kt kf;have hi:=(M1 hx).1;refine kt _ _ _ ah ?_ ⟨⟨_,rfl⟩,?_,by rw[qK]⟩
   .rw[me];exact bK hi (by rw[XX];exact bj n2 (by decide))
   .rw[zq]
  .rintro ys σ H2 ⟨_,rfl,rfl⟩;rw[aP,XX];refine⟨_,rfl,_,rfl,D,_,st,st,rfl,rfl,ah,by rw[me];exact iN hs,?_⟩;rw[qK,A5 hs];refine⟨_,rfl,by show 1<=sizeLine;decide,fun R hR=>?_⟩;have We:D≠R:=aq (H:=upd H D (.lst (lO n [st] (fun _=>0)))) ah hR;have XY:H R=none:=by rw[al We.symm] at hR;exact hR
   refine Fy (fun σ H2=>∃ (i:Nat) (Rs:List Nat) (f:Nat->Nat),i<=Rs.length/\Ec n ts st i Rs f/\(∃a b,σ=[some (.ref ol),some (.int st),some (.ref D),some (.ref R),some (.int (i:Int)),a,b])/\aA H H2/\H2 D=some (.lst (lO n Rs f))/\H2 R=some (.lst (NV Rs)))
    (fun σ _=>n-Tg σ) ⟨0,[st],fun _=>0,cF _,Ec.start hs,⟨none,none,rfl⟩,cy (ao hD) XY,?_,ah⟩ ?_ ?_
   .rw[al We,ah]
   .rintro σ H2 ⟨i,Rs,f,hi,Bf,⟨a,b,rfl⟩,sm,pV,XZ⟩;have hRn:Rs.length<=n:=jL Bf.nd Bf.lt;refine⟨_,rfl,_,rfl,R,_,rfl,.inl (br.of XZ),_,_,rfl,rfl,_,rfl,?_⟩;rw[bi];by_cases pO:i<Rs.length
    .rw[show decide ((i:Int)<((Rs.length:Nat):Int))=true by simp;lia];refine gJ ?_;have hu:Rs[i]?=some Rs[i]:=cU pO;generalize Rs[i]=u at hu;have K4:u<n:=Bf.lt u (cZ hu);have huR:(NV Rs)[i]?=some (.int (u:Int)):=by rw[bL,hu];rfl
     refine⟨_,rfl,_,rfl,R,_,_,_,rfl,rfl,br.of XZ,aw huR,?_⟩;have M2:(bs.map V.ref)[u]?=some (.ref (bs.getD u 0)):=by
      rw[bL,cr,cU (by rw[XX];exact K4)];rfl
     have Th:=sm _ _ (Q8 _ K4);refine⟨_,rfl,_,rfl,ol,_,_,_,rfl,rfl,br.of (sm _ _ Gn),aw M2,_,rfl,⟨_,br.of Th⟩,?_⟩;have nbD:bs.getD u 0≠D:=aq (Q8 _ K4) hD;have nbR:bs.getD u 0≠R:=aq (Q8 _ K4) XY;refine jf (K:=K) (xs:=NV (dS n ts u)) (fun j σ H3=>∃ (qy:List Nat) (f':Nat->Nat),Ec n ts st i qy f'/\qy[i]?=some u/\(∀v∈(dS n ts u).take j,v∈qy/\f' v<=f' u+1)/\
      (∃b,σ=[some (.ref ol),some (.int st),some (.ref D),some (.ref R),some (.int (i:Int)),some (.int (u:Int)),b])/\aA H H3/\H3 D=some (.lst (lO n qy f'))/\H3 R=some (.lst (NV qy)))
      ⟨Rs,f,Bf,hu,fun v hv=>by simp at hv,⟨_,rfl⟩,sm,pV,XZ⟩ (fun j σ H3 _ ⟨_,_,_,_,_,_,M3,_⟩=>br.of (M3 _ _ (Q8 _ K4))) ?_ ?_
     .rintro j x σ H3 hx ⟨qy,f',K5,Cc,dn,⟨b',rfl⟩,M3,qz,Jy⟩;rw[bL] at hx;cases hv:(dS n ts u)[j]? with
      |none=>rw[hv] at hx;cases hx
      |some v=>
       rw[hv] at hx;obtain rfl:V.int ((v:Nat):Int)=x:=a8 hx;have hvm:v∈dS n ts u:=cZ hv;have Wf:v<n:=KE fi K4 hvm;have tuv:T ts u v:=(eR fi K4).mp hvm;have tk:(dS n ts u).take (j+1)=(dS n ts u).take j++[v]:=by rw[iG,hv];rfl
       have Ti:u∈qy:=cZ Cc;refine⟨_,rfl,_,rfl,D,_,_,_,rfl,rfl,br.of qz,aw (kZ Wf),rfl,_,rfl,?_⟩;by_cases ON:v∈qy
       .rw[ai ON];refine e_ ⟨qy,f',K5,Cc,fun x hx=>?_,⟨_,rfl⟩,M3,qz,Jy⟩;rw[tk] at hx;rcases dP.mp hx with z|z
        .exact dn x z
        .simp at z;subst z;exact⟨ON,K5.bd u Cc _ ON⟩
       .rw[ap ON];refine gJ ?_;have hg2:(lO n qy f')[u]?=some (.int ((f' u:Nat):Int)):=by rw[kZ K4,ai Ti]
        refine⟨_,rfl,_,rfl,D,_,_,_,rfl,rfl,br.of qz,aw hg2,_,_,rfl,rfl,_,rfl,_,rfl,D,_,_,_,rfl,rfl,qz,by rw[kY];exact iN Wf,?_⟩;have e1:(lO n qy f').set v (.int (((f' u:Nat):Int)+1))=lO n (qy++[v]) (put f' v (f' u+1)):=by
         rw[show ((f' u:Nat):Int)+1=((f' u+1:Nat):Int) by lia,Hg Wf]
        rw[e1];have yq:(upd H3 D (.lst (lO n (qy++[v]) (put f' v (f' u+1))))) R=some (.lst (NV qy)):=by rw[al We.symm];exact Jy
        have Tj:qy.length<=n:=jL K5.nd K5.lt;refine⟨_,rfl,.inl ⟨rfl,_,br.of yq⟩,_,rfl,R,_,_,rfl,rfl,yq,by rw[bi];exact bK (show qy.length<33 by lia) (by decide),?_⟩;have E8:i<qy.length:=(dk.mp Cc).1;have nuv:u≠v:=fun z=>ON (z ▸ Ti);refine⟨qy++[v],put f' v (f' u+1),K5.add Cc Wf tuv ON,by rw[nI E8];exact Cc,fun x hx=>?_,⟨_,rfl⟩,cy (cy M3 hD) XY,?_,?_⟩
        .rw[gK nuv];rw[tk] at hx;rcases dP.mp hx with z|z
         .obtain⟨q1,q2⟩:=dn x z;exact⟨kd _ q1,by rw[gK (fun (z:x=v)=>ON (z ▸ q1))];exact q2⟩
         .simp at z;subst z;exact⟨by simp,by rw[kU];exact aW _⟩
        .rw[al We,ah]
        .rw[ah];show _=some (HO.lst (NV (qy++[v])));rw[show NV (qy++[v])=NV qy++[.int (v:Int)] by unfold NV;rw[d_];rfl]
     .rintro σ H3 ⟨qy,f',K5,Cc,dn,⟨b',rfl⟩,M3,qz,Jy⟩;rw[bi,gf] at dn;have E8:i<qy.length:=(dk.mp Cc).1;have Tj:qy.length<=n:=jL K5.nd K5.lt;refine⟨_,rfl,_,_,rfl,rfl,⟨⟨i+1,qy,f',E8,K5.next Cc (fun v t=>dn v ((eR fi K4).mpr t)),⟨_,_,rfl⟩,M3,qz,Jy⟩,?_⟩⟩;show n-((i:Int)+1).toNat<n-(i:Int).toNat;lia
    .rw[show decide ((i:Int)<((Rs.length:Nat):Int))=false by rw[vA];lia];have e:lO n Rs f=NV ((List.range n).map (MV ts st)):=by
      unfold lO NV;rw[fh];refine lT fun x hx=>?_;obtain⟨q1,q2⟩:=Bf.done fi (by lia) (cY.mp hx);rw[ai q1,q2];rfl
     rw[e] at pV;refine e_ ⟨_,rfl,k D H2 sm hD pV⟩
   .rintro σ H2 Q1 Q2 imp ⟨v,e1,v2,e2,p,ys,e3,e4,i1,i2,e5,e6,kk,e7,q⟩;exact⟨v,e1,v2,e2,p,ys,e3,e4,i1,i2,e5,e6,kk,e7,imp _ _ q⟩
end
theorem Tk:(["row"]:List Str).Nodup:=by decide +kernel
section
variable {P:Program} {w:World} {K:PySem.W.Frag} {mg:Str->Option Value} {base:Heap}
theorem K6:aD ["distances"] ["distances"] (am A4):=⟨rfl,rfl,rfl,by decide +kernel,rfl,by decide +kernel,by decide +kernel⟩
def wU:Sp:=fun vs H Q _=>∃ (l:Addr) (ds:List Addr) (n:Nat) (o:Nat->List V),vs=[.ref l]/\H l=some (.lst (ds.map V.ref))/\n<=32/\Holds H ds n (fun j=>.lst (o j))/\(∀j,j<n->∀x∈o j,∃i,x=.int i)/\∀H',aA H H'->Q .bR H'
theorem Hh(F:eM K "check_reached" "check_reached" A4 f fd)(B:Bl mg):bn P w K mg base a7 1 f fd ["distances"] wU:=by
 refine F.ok K6 (fun vs H Q E h=>?_) (fun dz A outer s H vs Q E hr h=>?_)
 .obtain⟨l,ds,n,o,rfl,_⟩:=h;rfl
 .obtain⟨l,ds,n,o,rfl,hl,n2,hh,hx,k⟩:=h;refine'⟨_,aj (bE (cR (aJ (DO rfl) (by rfl) B.any PyProof.Rows.boot_any (aa ?c af))) df aL),?_⟩;case c=>
   refine' dN (g:=bV 0) (te:=lM (VZ K false) (tC .bR) (be 0)) (NB:=["row"]) (src:=[none]) (cp (by kernel_rfl)) rfl (cS (pv 0)) ?g ?t ?e;case g=>exact fun cl C s₃ H₃ fp=>au (i:=0) Tk rfl (Or.inl rfl) (Or.inr rfl)
   case t=>exact fun cl C s₃ H₃ fp=>eG
   case e=>exact fun cl C s₃ H₃ fp=>eT hU cn (pv 0) rfl
  refine⟨_,rfl,l,rfl,⟨_,br.of hl⟩,fun D hD=>?_⟩;have nl:l≠D:=aq hl hD;refine jl (xs:=ds.map V.ref) (fun i ys σ H2=>(∃a,σ=[a])/\ys=(List.replicate i false).map V.bl/\H2=upd H D (.lst ys)) ⟨⟨_,rfl⟩,rfl,rfl⟩ (fun i ys σ H2 _ ⟨_,_,e⟩=>by rw[e];exact br.of (by rw[al nl];exact hl)) ?_ ?_
  .rintro i x ys σ H2 Kt Kf hxi ⟨⟨a,rfl⟩,rfl,rfl⟩ kt kf;obtain⟨hi,rfl⟩:=M1 hxi;rw[hh.1] at hi;have hd:=hh.2 i hi;have nd:ds.getD i 0≠D:=aq hd hD;have q1:(o i).all ir=true:=j_.mpr fun x jw=>by obtain⟨z,rfl⟩:=hx i hi x jw;rfl
   have q2:B_ .bR (o i)=false:=by
    unfold B_;rw[zP];intro x jw;obtain⟨z,rfl⟩:=hx i hi x jw;exact fun z=>by cases z
   refine⟨_,rfl,_,_,rfl,.inl (br.of (by rw[al nd];exact hd)),rfl,q1,?_⟩;refine kt _ _ _ ah ?_ ⟨⟨_,rfl⟩,?_,by rw[qK]⟩
   .rw[aP,me];exact bK hi (bj n2 (by decide))
   .rw[zq,d_,q2];rfl
  .rintro ys σ H2 ⟨_,rfl,rfl⟩;refine⟨D,_,rfl,br.of ah,_,rfl,?_⟩;have e:(List.replicate (ds.map V.ref).length false).any id=false:=by
    rw[zP];intro x jw;rw[(List.mem_replicate.mp jw).2];decide
   rw[e];exact e_ (k _ (ao hD))
end
theorem nb2:(["one","other"]:List Str).Nodup:=by decide +kernel
theorem Tl:(["house","many","ties"]:List Str).Nodup:=by decide +kernel
theorem X0:(["house","self"]:List Str).Nodup:=by decide +kernel
def lZ(p Pt:Addr)(H H':Hp):Prop:=∀b o,H b=some o->b≠p->b≠Pt->H' b=some o
theorem fV.mono(h:fV H l n zs)(e:lZ p Pt H H')(hp:H p=some (.ins C dx fs))(tb:nE Pt H):fV H' l n zs:=
 ⟨h.oo,e _ _ h.at_ (dI h.at_ hp (by intro z;cases z)) (tb.not h.at_ (by intro ps z;cases z)),fun z hz=>e _ _ (h.po z hz) (dI (h.po z hz) hp (by intro z;cases z)) (tb.not (h.po z hz) (by intro ps z;cases z))⟩
theorem nE.mono(t:nE Pt H)(e:∀b o,H b=some o->b≠p->H' b=some o)(hp:H p=some (.ins C dx fs)):nE Pt H':=by
 rcases t with z|⟨c,z,y⟩
 .exact .inl (e _ _ z (dI z hp (by intro q;cases q)))
 .exact .inr ⟨c,e _ _ z (dI z hp (by intro q;cases q)),e _ _ y (dI y hp (by intro q;cases q))⟩
theorem nE.full(t:nE Pt H):H Pt≠none:=by
 rcases t with z|⟨c,z,y⟩ <;> rw[z] <;> intro q <;> cases q
theorem lZ.free(s:lZ p Pt H H')(hp:H' p≠none)(tb:nE Pt H')(h:H' r=none):H r=none:=by
 cases z:H r with
 |none=>rfl
 |some o=>
  by_cases e1:r=p
  .subst e1;exact absurd h hp
  .by_cases e2:r=Pt
   .subst e2;exact absurd h tb.full
   .rw[s r o z e1 e2] at h;cases h
theorem Tn(h:k [] H):mW σ H k:=h
theorem lG{H:Hp}{p:Addr}{o:HO}(h:H p=some o):H p≠none:=by rw[h];intro z;cases z
section
variable {P:Program} {w:World} {K:PySem.W.Frag} {mg:Str->Option Value} {base:Heap}
theorem OO:aD ["self","many","ties"] ["self","many","ties"] (am CL):=⟨rfl,rfl,rfl,by decide +kernel,rfl,by decide +kernel,by decide +kernel⟩
def A6(C Pt:Addr):Sp:=fun vs H Q E=>∃ (p dx:Addr) (n:Nat) (l:Addr) (zs:Zs),vs=[.ref p,.int n,.ref l]/\H p=some (.ins C dx [])/\fV H l n zs/\nE Pt H/\
  ∀H',gU C H' (fun a=>H a=none) p n (zp zs)->nE Pt H'->lZ p Pt H H'->Q .bR H'
theorem K7{f C Pt:Addr}{fd:FuncData}(F:eM K "__init__" "Net.__init__" CL f fd)(T:NT K mg C)(B:Bl mg)(CT:cq P w K mg base a7 6 "check_ties" ["many","ties"] lF)(CB:cq P w K mg base a7 1 "check_balance" ["many","ties"] lF)(HO':cq P w K mg base a7 1 "houses_out" ["many","ties","house"] (wS Pt))(DF:cq P w K mg base a7 1 "distances_from" ["out_lists","start"] wT)(CR:cq P w K mg base a7 1 "check_reached" ["distances"] wU):
  bn P w K mg base a7 7 f fd ["self","many","ties"] (A6 C Pt):=by
 refine F.ok OO (fun vs H Q E h=>?_) (fun dz A outer s H vs Q E hr h=>?_)
 .obtain⟨p,dx,n,l,zs,rfl,_⟩:=h;rfl
 .have yw:bA 1 _:=hr.mono (by decide);refine'⟨_,ag (bX (az CT hr aE (aa (pv 1) (aa (pv 2) af))))
   (ag (bX (az CB yw aE (aa (pv 1) (aa (pv 2) af))))
   (ag (pD (pv 0) (pv 1) rfl)
   (ag (pD (pv 0) (aJ AW (by rfl) B.sorted zg (aa ?c1 af)) rfl)
   (ag (pD (pv 0) ?c2 rfl)
   (ag (pD (pv 0) ?c3 rfl)
   (aj (bX (az CR yw aE (aa (gI (pv 0) rfl) af))))))))),?_⟩
  case c1=>
   refine' dN (g:=wq K 2 (gn (bV 0) (gn (bV 1) wm))) (te:=NO (dR (be 0) (dR (be 1) mW))) (NB:=["one","other"]) (src:=[none,none]) (cp (by kernel_rfl)) rfl (cS (pv 2)) ?g ?t ?e;case g=>exact fun cl C s₃ H₃ fp=>fj (n:=2) rfl (aV (au (i:=0) nb2 rfl (Or.inl rfl) (Or.inr rfl)) (aV (au (i:=1) nb2 rfl (Or.inl rfl) (Or.inr rfl)) d7))
   case t=>exact fun cl C s₃ H₃ fp=>eG
   case e=>exact fun cl C s₃ H₃ fp=>jF (aa (pv 0) (aa (pv 1) af))
  case c2=>
   refine' dN (g:=bV 0) (te:=nV (wS Pt) [] E0 (dR (be 1) (dR (be 2) (dR (be 0) mW)))) (NB:=["house","many","ties"]) (src:=[none,some 1,some 2]) (cp (by kernel_rfl)) rfl (bu rfl B.range (aa (pv 1) af)) ?g ?t ?e;case g=>exact fun cl C s₃ H₃ fp=>au (i:=0) Tl rfl (Or.inl rfl) (Or.inr rfl)
   case t=>exact fun cl C s₃ H₃ fp=>eG
   case e=>exact fun cl C s₃ H₃ fp=>az HO' yw aE (aa (pv 1) (aa (pv 2) (aa (pv 0) af)))
  case c3=>
   refine' dN (g:=bV 0) (te:=nV wT [] E0 (dR (R6 K (be 1) "out_lists") (dR (be 0) mW))) (NB:=["house","self"]) (src:=[none,some 0]) (cp (by kernel_rfl)) rfl (bu rfl B.range (aa (pv 1) af)) ?g ?t ?e;case g=>exact fun cl C s₃ H₃ fp=>au (i:=0) X0 rfl (Or.inl rfl) (Or.inr rfl)
   case t=>exact fun cl C s₃ H₃ fp=>eG
   case e=>exact fun cl C s₃ H₃ fp=>az DF yw aE (aa (gI (pv 1) rfl) (aa (pv 0) af))
  obtain⟨p,dx,n,l,zs,rfl,hp,TT,tb,k⟩:=h;have fi:=TT.oo;have n1:=fi.n1;have n2:=fi.n2;have de:zs.length<=256:=by have:=fi.len;rw[dC] at this;exact this
  refine⟨_,rfl,_,rfl,n,l,zs,rfl,TT,fun H1 s1=>?_⟩;refine⟨_,rfl,_,rfl,n,l,zs,rfl,TT.same s1,fun H2 s2=>?_⟩;have j4:aA H H2:=s1.trans s2;refine⟨_,rfl,_,rfl,p,C,dx,[],rfl,j4 _ _ hp,T.cl,T.nH,(by show 0<1000;decide),?_⟩
  let G1:Hp:=upd H2 p (.ins C dx (du "house_count" (.int n) []))
  have d1:lZ p Pt H G1:=fun b o e h1 _=>by show upd _ _ _ _=_;rw[al h1];exact j4 _ _ e
  have Wg:G1 p=some (.ins C dx (du "house_count" (.int n) [])):=ah;have X1:fV G1 l n zs:=TT.mono d1 hp tb;have X2:nE Pt G1:=tb.mono (fun b o e h1=>by show upd _ _ _ _=_;rw[al h1];exact j4 _ _ e) hp;refine⟨_,rfl,l,rfl,⟨_,br.of X1.at_⟩,fun D hD=>?_⟩;refine G8 (fun y=>y) (fun σ=>∃a b,σ=[a,b]) X1.at_ X1.po hD (by lia) ⟨_,_,rfl⟩ ?_ ?_
  .rintro z σ H3 R Kf hz ⟨a,b,rfl⟩ ha kk;refine⟨_,_,rfl,bp.of ha,rfl,_,_,rfl,_,_,rfl,rfl,?_⟩;exact⟨_,rfl,_,rfl,by show 2<=sizeLine;decide,fun t ht=>kk _ _ ⟨_,_,rfl⟩ ht⟩
  .intro zs2 H3 sm qz Tp ez fr2;rw[List.map_id'] at ez;have hl2:zs2.length=zs.length:=by rw[<-dC,ez,dC]
   refine Tn ?_;refine KP qz Tp (by lia) (fun u hu=>by have:=(fi.rg u (ez ▸ hu)).2;lia) fun tl Ri X3 pm ord=>?_;have X4:H tl=none:=d1.free (lG Wg) X2 (sm.free X3);have Js:∀z∈Ri,H z.1=none:=fun z hz=>d1.free (lG Wg) X2 (fr2 z (pm.mem_iff.mp hz));have X5:H3 p=some (.ins C dx (du "house_count" (.int n) [])):=sm _ _ Wg;have OP:p≠tl:=aq X5 X3;refine⟨_,rfl,p,C,dx,_,rfl,by rw[al OP];exact X5,T.cl,T.nT,by show 1<1000;decide,?_⟩
   let G2:Hp:=upd (upd H3 tl (.lst (zr Ri))) p (.ins C dx (du "tie_list" (.ref tl) (du "house_count" (.int n) [])))
   have q2:∀b o,H3 b=some o->b≠p->G2 b=some o:=fun b o e h1=>by
    show upd _ _ _ _=_;rw[al h1,al (aq e X3)];exact e
   have d2:lZ p Pt H G2:=fun b o e h1 h2=>q2 _ _ (sm _ _ (d1 _ _ e h1 h2)) h1;have g2t:G2 tl=some (.lst (zr Ri)):=by show upd _ _ _ _=_;rw[al OP.symm,ah]
   have X6:PO G2 Ri:=fun z hz=>q2 _ _ (Tp z (pm.mem_iff.mp hz)) (dI (Tp z (pm.mem_iff.mp hz)) X5 (by intro z;cases z));have OQ:G2 p=some (.ins C dx (du "tie_list" (.ref tl) (du "house_count" (.int n) []))):=ah;have TT2:fV G2 l n zs:=TT.mono d2 hp tb;have OR:nE Pt G2:=X2.mono (fun b o e h1=>q2 _ _ (sm _ _ e) h1) Wg;refine⟨_,rfl,n,rfl,by lia,by lia,fun D2 pV=>?_⟩;refine iy (n:=n) (lo:=0) (fun i ys σ H4=>(∃a,σ=[a,some (.int n),some (.ref l)])/\∃bs:List Addr,ys=bs.map V.ref/\(∀b∈bs,H b=none)/\Holds H4 bs i (fun h=>.lst (NV (dS n (zp zs) h)))/\vf Pt G2 H4/\nE Pt H4/\H4 D2=some (.lst ys)/\∀b∈bs,b≠D2)
    ⟨⟨_,rfl⟩,[],rfl,(fun _ h=>nomatch h),Holds.nil,vf.of (ao pV),OR.same (ao pV),ah,(fun _ h=>nomatch h)⟩ ?_ ?_
   .rintro i ys σ H4 Kt Kf hi ⟨⟨a,rfl⟩,bs,rfl,X7,hb,Hi,Rj,yx,X8⟩ kt kf;have TT4:fV H4 l n zs:=TT2.mono (p:=p) (fun b o e _ h2=>Hi _ _ e h2) OQ OR;have Rk:=Hi _ _ OQ (OR.not OQ (by intro ps z;cases z));refine⟨_,rfl,_,rfl,_,rfl,n,l,i,zs,by rw[eK];rfl,hi,TT4,Rj,fun r H5 t5 uo JA Wi=>?_⟩;have X9:H r=none:=lZ.free (fun b o e h1 h2=>Hi _ _ (d2 _ _ e h1 h2) h2) (lG Rk) Rj JA;have Wj:H5 D2=some (.lst (bs.map V.ref)):=uo _ _ yx (Rj.not yx (by intro ps z;cases z));have Tq:r≠D2:=by rintro rfl;rw[yx] at JA;cases JA
    have l0:∀b o pL,H5 b=some o->b≠D2->(upd H5 D2 pL) b=some o:=fun b o pL e h=>by rw[al h];exact e
    refine kt _ _ _ Wj (by rw[aP,hb.1];exact bK hi (bj n2 (by decide))) ⟨⟨_,rfl⟩,bs++[r],by rw[d_];rfl,?_,?_,?_,?_,ah,?_⟩
    .intro b jW;rcases dP.mp jW with z|z
     .exact X7 b z
     .rw[dL.mp z];exact X9
    .refine Holds.snoc (hb.mono fun j hj e=>?_) (l0 _ _ _ Wi Tq);refine l0 _ _ _ (uo _ _ e (Rj.not e (by intro ps z;cases z))) (X8 _ ?_);rw[cr,cU (by rw[hb.1];exact hj)];exact iI _
    .intro b o e h;exact l0 _ _ _ (uo _ _ (Hi _ _ e h) h) (aq e pV)
    .rcases t5 with z|⟨c,z,y⟩
     .exact .inl (l0 _ _ _ z (dI z Wj (by intro q;cases q)))
     .exact .inr ⟨c,l0 _ _ _ z (dI z Wj (by intro q;cases q)),l0 _ _ _ y (dI y Wj (by intro q;cases q))⟩
    .intro b jW;rcases dP.mp jW with z|z
     .exact X8 b z
     .rw[dL.mp z];exact Tq
   .rintro ys σ H4 ⟨_,bs,rfl,X7,hb,Hi,Rj,yx,X8⟩;have Rk:H4 p=some (.ins C dx (du "tie_list" (.ref tl) (du "house_count" (.int n) []))):=Hi _ _ OQ (OR.not OQ (by intro ps z;cases z));have X_:H D2=none:=d2.free (lG OQ) OR pV;refine⟨_,rfl,p,C,dx,_,rfl,Rk,T.cl,T.nO,by have h1:=eD "tie_list" (V.ref tl) (du "house_count" (V.int n) []);have h2:=eD "house_count" (V.int n) [];simp at h2;lia,?_⟩
    let G3:Hp:=upd H4 p (.ins C dx (du "out_lists" (.ref D2) (du "tie_list" (.ref tl) (du "house_count" (.int n) []))))
    have q3:∀b o,H4 b=some o->b≠p->G3 b=some o:=fun b o e h1=>by show upd _ _ _ _=_;rw[al h1];exact e
    have OS:G3 p=some (.ins C dx (du "out_lists" (.ref D2) (du "tie_list" (.ref tl) (du "house_count" (.int n) [])))):=ah;have d3:lZ p Pt H G3:=fun b o e h1 h2=>q3 _ _ (Hi _ _ (d2 _ _ e h1 h2) h2) h1;have Ya:nE Pt G3:=Rj.mono q3 Rk;have Wl:Holds G3 bs n (fun h=>.lst (NV (dS n (zp zs) h))):=hb.mono fun j hj e=>q3 _ _ e (dI e Rk (by intro z;cases z));have Yb:G3 D2=some (.lst (bs.map V.ref)):=q3 _ _ yx (dI yx Rk (by intro z;cases z));have O3:tw G3 D2 n (zp zs):=⟨bs,Yb,Wl⟩
    refine⟨_,rfl,n,rfl,by lia,by lia,fun D3 El=>?_⟩;refine iy (n:=n) (lo:=0) (fun i ys σ H6=>(∃a,σ=[a,some (.ref p)])/\∃ds:List Addr,ys=ds.map V.ref/\(∀b∈ds,H b=none)/\Holds H6 ds i (fun s=>.lst (NV ((List.range n).map (MV (zp zs) s))))/\aA G3 H6/\H6 D3=some (.lst ys)/\∀b∈ds,b≠D3)
     ⟨⟨_,rfl⟩,[],rfl,(fun _ h=>nomatch h),Holds.nil,ao El,ah,(fun _ h=>nomatch h)⟩ ?_ ?_
    .rintro i ys σ H6 Kt Kf hi ⟨⟨a,rfl⟩,ds,rfl,Yc,hd,K8,tI,R5⟩ kt kf;refine⟨_,rfl,p,C,dx,_,_,rfl,K8 _ _ OS,T.cl,T.nO,by rw[aZ,ai rfl],_,rfl,D2,n,i,zp zs,by rw[eK];rfl,fi,hi,O3.same K8,fun r H7 Yd Tr hr7=>?_⟩;have e7D:H7 D3=some (.lst (ds.map V.ref)):=Yd _ _ tI;have Tq:r≠D3:=by rintro rfl;rw[tI] at Tr;cases Tr
     have X9:H r=none:=lZ.free (fun b o e h1 h2=>K8 _ _ (d3 _ _ e h1 h2)) (lG (K8 _ _ OS)) (Ya.same K8) Tr;have l0:∀b o pL,H7 b=some o->b≠D3->(upd H7 D3 pL) b=some o:=fun b o pL e h=>by rw[al h];exact e
     refine kt _ _ _ e7D (by rw[aP,hd.1];exact bK hi (bj n2 (by decide))) ⟨⟨_,rfl⟩,ds++[r],by rw[d_];rfl,?_,?_,?_,ah,?_⟩
     .intro b jW;rcases dP.mp jW with z|z
      .exact Yc b z
      .rw[dL.mp z];exact X9
     .refine Holds.snoc (hd.mono fun j hj e=>?_) (l0 _ _ _ hr7 Tq);refine l0 _ _ _ (Yd _ _ e) (R5 _ ?_);rw[cr,cU (by rw[hd.1];exact hj)];exact iI _
     .intro b o e;exact l0 _ _ _ (Yd _ _ (K8 _ _ e)) (aq e El)
     .intro b jW;rcases dP.mp jW with z|z
      .exact R5 b z
      .rw[dL.mp z];exact Tq
    .rintro ys σ H6 ⟨_,ds,rfl,Yc,hd,K8,tI,R5⟩;have Tt:=K8 _ _ OS;refine⟨_,rfl,p,C,dx,_,rfl,Tt,T.cl,T.nD,by have h1:=eD "tie_list" (V.ref tl) (du "house_count" (V.int n) []);have h2:=eD "house_count" (V.int n) [];have h3:=eD "out_lists" (V.ref D2) (du "tie_list" (V.ref tl) (du "house_count" (V.int n) []));simp at h2;lia,?_⟩;have q4:∀b o u,H6 b=some o->b≠p->(upd H6 p u) b=some o:=fun b o u e h1=>by rw[al h1];exact e
     refine⟨_,rfl,p,C,dx,_,_,rfl,ah,T.cl,T.nD,by rw[aZ,ai rfl],D3,ds,n,fun s=>NV ((List.range n).map (MV (zp zs) s)),rfl,q4 _ _ _ tI (dI tI Tt (by intro z;cases z)),n2,hd.mono fun j hj e=>q4 _ _ _ e (dI e Tt (by intro z;cases z)),fun j hj x hx=>?_,fun H8 s8=>?_⟩
     .obtain⟨y,hy,rfl⟩:=a9.mp hx;exact⟨_,rfl⟩
     .have up:∀b o,G3 b=some o->b≠p->H8 b=some o:=fun b o e h1=>s8 _ _ (q4 _ _ _ (K8 _ _ e) h1);have Ye:H D3=none:=d3.free (lG OS) Ya El;have upT:∀b o,G2 b=some o->b≠p->b≠Pt->H8 b=some o:=fun b o e h1 h2=>up _ _ (q3 _ _ (Hi _ _ e h2) h1) h1;refine k H8 ⟨fi,dx,tl,D2,D3,s8 _ _ ah,X_,Ye,⟨bs,up _ _ Yb (dI Yb OS (by intro z;cases z)),X7,Wl.mono fun j hj e=>up _ _ e (dI e OS (by intro z;cases z))⟩,
       ⟨ds,s8 _ _ (q4 _ _ _ tI (dI tI Tt (by intro z;cases z))),Yc,hd.mono fun j hj e=>s8 _ _ (q4 _ _ _ e (dI e Tt (by intro z;cases z)))⟩,
       ⟨X4,Ri,upT _ _ g2t OP.symm (OR.not g2t (by intro ps z;cases z)),fun z hz=>upT _ _ (X6 z hz) (dI (X6 z hz) OQ (by intro z;cases z)) (OR.not (X6 z hz) (by intro ps z;cases z)),Js,((show (zp Ri).Perm (zp zs2) from pm.map _).trans (vV ez)),ord⟩⟩ ?_ fun b o e h1 h2=>up _ _ (d3 _ _ e h1 h2) h1
      exact Ya.mono up OS
end
theorem iP:NV xs++[.int (x:Int)]=NV (xs++[x]):=by unfold NV;rw[d_];rfl
theorem qi{xs:List Nat}{i:Nat}{x:V}(h:(NV xs)[i]?=some x):∃y,xs[i]?=some y/\x=.int (y:Int):=by
 unfold NV at h;rw[bL] at h;cases e:xs[i]? with
 |none=>rw[e] at h;cases h
 |some z=>rw[e] at h;exact⟨z,rfl,(a8 h).symm⟩
end tu
namespace L2
open PySem PySem.Spec PyProof.Rows
section
variable {X:Cx}
end
end L2
namespace tu
open PySem L2 jJ
section
variable {P:Program} {w:World} {K:PySem.W.Frag} {mg:Str->Option Value} {base:Heap}
theorem OT:aD ["self"] ["self"] (am G9):=⟨rfl,rfl,rfl,by decide +kernel,rfl,by decide +kernel,by decide +kernel⟩
def A7(C:Addr):Sp:=fun vs H Q _=>∃ (L:Addr->Prop) (p:Addr) (n:Nat) (ts:Ts),vs=[.ref p]/\gU C H L p n ts/\Q (.int n) H
theorem K9{f C:Addr}{fd:FuncData}(F:eM K "many" "Net.many" G9 f fd)(T:NT K mg C):bn P w K mg base a7 1 f fd ["self"] (A7 C):=by
 refine F.ok OT (fun vs H Q E h=>?_) (fun dz A outer s H vs Q E hr h=>?_)
 .obtain⟨L,p,n,ts,rfl,_⟩:=h;rfl
 .obtain⟨L,p,n,ts,rfl,N,k⟩:=h;obtain⟨dx,tl,ol,ds,h1,_⟩:=N.ob;refine⟨_,aj (aG (gI (pv 0) rfl)),?_⟩;exact⟨_,rfl,p,C,dx,_,_,rfl,h1,T.cl,T.nH,CM _ _ _ _,k⟩
end
end tu
namespace L2
open PySem PySem.Spec PyProof.Rows
theorem A8{X:Cx}:RU X .Mult (fun x y H Q=>∃i j,x=.int i/\y=.int j/\Fz i j/\Q (.int (i*j)) H):=by
 intro ae s σ H x y v u Q I r1 r2 h;obtain⟨i,j,e1,e2,c,q⟩:=h;subst e1;subst e2;obtain⟨t,rfl⟩:=r1;obtain⟨t',rfl⟩:=r2;exact imul_int ⟨.int _,H,I.tok _,⟨_,rfl⟩,q⟩ c.ok
end L2
namespace tu
open PySem L2 jJ
abbrev Hj:Stmt:=fA 43
abbrev wV:Stmt:=fA 44
abbrev wW:Stmt:=fA 46
abbrev wX:Stmt:=fA 47
abbrev Hk:Stmt:=fA 48
def vg(ns:List Nat):Nat:=ns.foldl (·*·) 1
theorem A9{ns:List Nat}{x:Nat}:vg (ns++[x])=vg ns*x:=by unfold vg;rw[vM];rfl
theorem Hl{ns:List Nat}:vg ns=pr ns:=by
 have go:∀ (l:List Nat) (a:Nat),l.foldl (·*·) a=a*pr l:=fun l=>by
  induction l with
  |nil=>intro a;exact(ku a).symm
  |cons x l ih=>intro a;rw[ic,ih];show a*x*pr l=a*(x*pr l);rw[mz]
 unfold vg;rw[go,wc]
theorem ja.weak{H:Hp}{L L':Addr->Prop}{l:Addr}{n:Nat}{r:Nat->List Nat}(R:ja H L l n r)(h:∀a,L a->L' a):ja H L' l n r:=let ⟨bs,a,b,c⟩:=R;⟨bs,a,fun x hx=>h _ (b x hx),c⟩
theorem gU.weak{C:Addr}{H:Hp}{L L':Addr->Prop}{p:Addr}{n:Nat}{ts:Ts}(N:gU C H L p n ts)(h:∀a,L a->L' a):gU C H L' p n ts:=
 let ⟨dx,tl,ol,ds,a,l1,l2,b,c,d1,zs,d2,d3,d4,d5⟩:=N.ob
 ⟨N.oo,dx,tl,ol,ds,a,h _ l1,h _ l2,b.weak h,c.weak h,h _ d1,zs,d2,d3,fun z hz=>h _ (d4 z hz),d5⟩
def qj(H:Hp)(D:Addr)(ts:Ts)(H2:Hp):Prop:=aA H H2/\∃zs:Zs,H2 D=some (.lst (zr zs))/\PO H2 zs/\zp zs=ts
theorem qj.add{H H2:Hp}{D t:Addr}{ts:Ts}{u:Int×Int}{zs:Zs}(hD:H D=none)(sm:aA H H2)(h1:H2 D=some (.lst (zr zs)))(po:PO H2 zs)(ez:zp zs=ts)(ht:H2 t=none):qj H D (ts++[u]) (upd (upd H2 t (MX u)) D (.lst (zr zs++[.ref t]))):=by
 have nD:D≠t:=aq h1 ht;refine⟨cy (sm.trans (ao ht)) hD,zs++[(t,u)],by rw[ah,pS];rfl,?_,?_⟩
 .refine PO.putL (xs:=zr zs) ?_ (by rw[al nD];exact h1);exact(po.putN ht).append (PO.one ah)
 .rw[ve,ez];rfl
section
variable {P:Program} {w:World} {K:PySem.W.Frag} {mg:Str->Option Value} {base:Heap}
abbrev Hm(C Pt:Addr)(H:Hp)(n:Nat)(ts:Ts)(Q:VK):Prop:=∀ (p:Addr) (H':Hp),H p=none->gU C H' (fun a=>H a=none) p n ts->nE Pt H'->vf Pt H H'->Q (.ref p) H'
theorem k4:aD ["many","pairs","ties","pair","one","other"] ["many","pairs"] (am wV):=⟨rfl,rfl,rfl,by decide +kernel,rfl,by decide +kernel,by decide +kernel⟩
def tJ(C Pt:Addr):Sp:=fun vs H Q _=>∃ (n:Nat) (l:Addr) (zs:Zs),vs=[.int n,.ref l]/\H l=some (.lst (zr zs))/\PO H zs/\fR n (nC (zp zs))/\nE Pt H/\Hm C Pt H n (nC (zp zs)) Q
theorem Em{f C Pt fI:Addr}{fd Tv:FuncData}(F:eM K "pairs_net" "pairs_net" wV f fd)(B:Bl mg)(T:NT K mg C)(M:Mk K C fI)(bI:jg K Tv ["self","many","ties"] [])(GI:bn P w K mg base a7 7 fI Tv ["self","many","ties"] (A6 C Pt))(R:cq P w K mg base a7 1 "is_row" ["thing","length"] (vd K)):
  bn P w K mg base a7 9 f fd ["many","pairs"] (tJ C Pt):=by
 refine F.ok k4 (fun vs H Q E h=>?_) (fun dz A outer s H vs Q E hr h=>?_)
 .obtain⟨n,l,zs,rfl,_⟩:=h;rfl
 .obtain⟨n,l,zs,rfl,hl,po,fi,tb,k⟩:=h;have h1:bA 1 _:=hr.mono (by decide);refine⟨_,ag (bE (dw (cR (aJ jk (by rfl) B.Rg oH (aa (pv 1) (aa (lx (v:=.ty "list") rfl B.lst rn rfl) af))))) df aL)
   (ag (aN (i:=2) k4.nd rfl (Or.inl rfl) (eX af))
   (ag (cI dQ rfl (cS (pv 1)) (au (i:=3) k4.nd rfl (Or.inl rfl))
    (ag (bE (dw (cR (az R h1 aE (aa (pv 3) (aa aB af))))) df aL)
    (ag (i6 (pv 3) (fj (n:=2) rfl (aV (au (i:=4) k4.nd rfl (Or.inl rfl)) (aV (au (i:=5) k4.nd rfl (Or.inl rfl)) d7))))
    (ag (bX (ji jd j6 j5 dh (pv 2) (aa (jF (aa (pv 4) (aa (pv 5) af))) af)))
    (aj (bX (ji jd j6 j5 dh (pv 2) (aa (jF (aa (pv 5) (aa (pv 4) af))) af))))))))
   (aj (aG (B1 M GI hr rfl T.XW bI .nil aE (aa (pv 0) (aa (pv 2) af))))))),?_⟩
  have de:2*zs.length<=256:=by have:=fi.len;rw[wL,dC] at this;exact this
  refine⟨_,rfl,_,_,_,.type "list",true,rfl,⟨rfl,yu⟩,.of (.lst hl),_,rfl,e_ ?_⟩;refine⟨by show 0<=sizeLine;decide,fun D hD=>?_⟩;refine⟨_,rfl,l,rfl,⟨_,br.of (ao hD _ _ hl)⟩,jf (K:=K) (xs:=zr zs) (fun i σ H2=>(∃x3 x4 x5,σ=[some (.int n),some (.ref l),some (.ref D),x3,x4,x5])/\qj H D (nC ((zp zs).take i)) H2) ⟨⟨_,_,_,rfl⟩,ao hD,[],ah,PO.nil,rfl⟩ (fun i σ H2 _ z=>br.of (z.2.1 _ _ hl)) ?_ ?_⟩
  .rintro i x σ H2 hx ⟨⟨x3,x4,x5,rfl⟩,Ej,ys,hy,Yf,ey⟩;obtain⟨z,hz,rfl⟩:=wP hx;have hi:i<zs.length:=(dk.mp hz).1;have ha:=Ej _ _ (po z (cZ hz));have Tw:ys.length<=256:=by rw[<-dC,ey,wL,j9,dC];lia
   refine⟨_,rfl,_,_,_,rfl,.tup ha,_,rfl,e_ ?_⟩;refine⟨_,rfl,_,_,rfl,bp.of ha,rfl,_,_,rfl,_,_,rfl,rfl,?_⟩;refine⟨_,rfl,.inl ⟨rfl,_,br.of hy⟩,_,rfl,_,rfl,by show 2<=sizeLine;decide,fun t ht=>?_⟩;refine⟨D,_,_,rfl,rfl,ao ht _ _ hy,by rw[kX];exact fE Tw (by decide),?_⟩;obtain⟨M3,ys3,Yg,Tp,ey3⟩:=qj.add (u:=z.2) hD Ej hy Yf ey ht;have Yh:ys3.length=ys.length+1:=by rw[<-dC,ey3,<-ey,dY,dC];rfl
   generalize upd (upd H2 t _) D _=H3 at *;refine⟨_,rfl,.inl ⟨rfl,_,br.of Yg⟩,_,rfl,_,rfl,by show 2<=sizeLine;decide,fun t2 Rl=>?_⟩;refine⟨D,_,_,rfl,rfl,ao Rl _ _ Yg,by rw[kX,Yh];exact fE (Nat.succ_le_succ Tw) (by decide),⟨_,_,_,rfl⟩,?_⟩;have P4:=qj.add (u:=CC z.2) hD M3 Yg Tp ey3 Rl;have e2:(zp zs)[i]?=some z.2:=by unfold zp;rw[bL,hz];rfl
   rw[iG,e2,Option.toList_some,AZ];rw[dG] at P4;exact P4
  .rintro σ H2 ⟨⟨x3,x4,x5,rfl⟩,Ej,ys,hy,Yf,ey⟩;rw[kX,<-dC,gf] at ey;refine⟨_,rfl,_,rfl,fun px dx nx Yi Yj=>?_⟩;have sN:aA H2 (upd (upd H2 dx (.own px)) px (.ins C dx [])):=(ao (o:=.own px) Yi).trans (ao (D:=px) (o:=.ins C dx []) (by rw[al Yj.symm];exact nx));have gpx:(upd (upd H2 dx (.own px)) px (.ins C dx [])) px=some (.ins C dx []):=ah;have sM:=Ej.trans sN;generalize upd (upd H2 dx (.own px)) px (.ins C dx [])=HM at *;have TM:fV HM D n ys:=⟨by rw[ey];exact fi,sN _ _ hy,Yf.same sN⟩
   refine⟨px,dx,n,D,ys,rfl,gpx,TM,tb.same sM,fun H7 N7 t7 s7=>⟨rfl,?_⟩⟩;have npx:H px=none:=Ej.free nx;rw[ey] at N7;exact k px H7 npx (N7.weak fun a ha=>sM.free ha) t7 fun b o e h=>s7 _ _ (sM _ _ e) (aq e npx) h
theorem vh{o:Option Int}{a b:Nat}(h:bf o a b=true):∃n:Nat,a<=n/\n<=b/\o=some (n:Int):=by
 cases o with
 |none=>cases h
 |some i=>
  unfold bf at h;simp at h;exact⟨i.toNat,by lia,by lia,by congr 1;lia⟩
theorem Hm.same{C Pt:Addr}{H H1:Hp}{n:Nat}{ts:Ts}{Q:VK}(k:Hm C Pt H n ts Q)(s:aA H H1):Hm C Pt H1 n ts Q:=fun p H' hp N t st=>k p H' (s.free hp) (N.weak fun a ha=>s.free ha) t fun b o e h=>st _ _ (s _ _ e) h
end
inductive Sd (K:PySem.W.Frag) (H:Hp):V->Option (List (Option Int))->Prop where
 |tup {p:Addr} {xs:List V} {os:List (Option Int)} (h:H p=some (.tup xs)) (hl:xs.length=os.length) (e:∀ (i:Nat) x o,xs[i]?=some x->os[i]?=some o->Wh K H x o):Sd K H (.ref p) (some os)
 |no {x:V} {t:Value} (ty:Q7 K H x t) (h:PySem.W.kitOne K t (.type "tuple")=some false):Sd K H x none
def j3(os:List (Option Int)):List Nat:=os.map fun o=>(o.getD 0).toNat
def box:Option (List (Option Int))->Option (List Nat)
 |none=>none
 |some os=>if decide (1<=os.length)&&(decide (os.length<=5)&&(os.all (fun o=>bf o 2 8)&&decide (pr (j3 os)<=32))) then some (j3 os) else none
theorem Hn{os:List (Option Int)}{ns:List Nat}(h:box (some os)=some ns):ns=j3 os/\1<=ns.length/\ns.length<=5/\(∀x∈ns,2<=x/\x<=8)/\pr ns<=32/\os=ns.map fun (n:Nat)=>some (n:Int):=by
 unfold box at h;dsimp only at h;by_cases c:(decide (1<=os.length)&&(decide (os.length<=5)&&(os.all (fun o=>bf o 2 8)&&decide (pr (j3 os)<=32))))=true
 .rw[ai c] at h;simp only[gh,mm,j_] at c;obtain⟨c1,c2,c3,c4⟩:=c;obtain rfl:=a8 h;have ex:∀o∈os,∃n:Nat,2<=n/\n<=8/\o=some (n:Int):=fun o ho=>vh (a:=2) (b:=8) (c3 o ho);refine⟨rfl,by unfold j3;rw[aP];exact c1,by unfold j3;rw[aP];exact c2,fun x hx=>?_,c4,?_⟩
  .obtain⟨o,ho,rfl⟩:=a9.mp hx;obtain⟨n,n1,n2,rfl⟩:=ex o ho;exact⟨by show 2<=(n:Int).toNat;lia,by show (n:Int).toNat<=8;lia⟩
  .unfold j3;rw[fh];conv=>lhs;rw[<-jz os]
   refine lT fun o ho=>?_;obtain⟨n,n1,n2,rfl⟩:=ex o ho;show some (n:Int)=some (((n:Int).toNat:Nat):Int);exact congrArg some (by lia)
 .rw[ap c] at h;cases h
section
variable {P:Program} {w:World} {K:PySem.W.Frag} {mg:Str->Option Value} {base:Heap}
theorem wY:aD ["numbers","result","number"] ["numbers"] (am Hk):=⟨rfl,rfl,rfl,by decide +kernel,rfl,by decide +kernel,by decide +kernel⟩
def tK(K:PySem.W.Frag):Sp:=fun vs H Q _=>∃ (a:Addr) (ns:List Nat),vs=[.ref a]/\bp K H a (NV ns)/\(∀x∈ns,x<=1000)/\Q (.int (pr ns)) H
theorem K_{f:Addr}{fd:FuncData}(F:eM K "product" "product" Hk f fd):bn P w K mg base a7 1 f fd ["numbers"] (tK K):=by
 refine F.ok wY (fun vs H Q E h=>?_) (fun dz A outer s H vs Q E hr h=>?_)
 .obtain⟨a,ns,rfl,_⟩:=h;rfl
 .obtain⟨a,ns,rfl,hS,hx,k⟩:=h;refine⟨_,ag (aN (i:=1) wY.nd rfl (Or.inl rfl) aB)
   (ag (cI dQ rfl (mU (pv 0)) (au (i:=2) wY.nd rfl (Or.inl rfl)) (aj (pj (i:=1) wY.nd rfl (Or.inl rfl) (pv 2) A8)))
   (aj (aG (pv 1)))),?_⟩
  refine⟨_,rfl,a,rfl,⟨_,hS⟩,lA (K:=K) (xs:=NV ns) (fun i σ H2=>H2=H/\∃x,σ=[some (.ref a),some (.int (vg (ns.take i))),x]) ⟨rfl,_,rfl⟩ (fun i σ H2 _ z=>by rw[z.1];exact hS) ?_ ?_⟩
  .rintro i x σ H2 jw ⟨rfl,y,rfl⟩;obtain⟨v,hv,rfl⟩:=qi jw;have h1:=hx v (cZ hv);refine⟨_,rfl,_,rfl,_,_,rfl,rfl,.inr ⟨by lia,by lia⟩,rfl,some (.int v),?_⟩;have tk:ns.take (i+1)=ns.take i++[v]:=by rw[iG,hv];rfl
   rw[tk,A9];rfl
  .rintro σ H2 ⟨rfl,x,rfl⟩;rw[bi,gf,Hl];exact⟨_,rfl,k⟩
end
end tu
namespace jJ
def M4(m:Nat)(ns:List Nat)(i:Nat):List (Nat×Nat):=(List.range i).flatMap fun j=>uB m (pr (ns.take j)) (ns.getD j 0)
theorem l3{α:Type}{f:Nat->List α}{n:Nat}:(List.range (n+1)).flatMap f=(List.range n).flatMap f++f n:=by
 rw[iV,List.flatMap_append];simp
theorem jO:∀ {ns:List Nat} {x:Nat},pr (ns++[x])=pr ns*x
 |[],x=>by show x*1=1*x;lia
 |n::ns,x=>by show n*pr (ns++[x])=n*pr ns*x;rw[jO,mz]
theorem Ho{m:Nat}:∀ {ns:List Nat} {st:Nat},bx m st ns=(List.range ns.length).flatMap fun j=>uB m (st*pr (ns.take j)) (ns.getD j 0)
 |[],st=>rfl
 |n::ns,st=>by
  show uB m st n++bx m (st*n) ns=_;rw[cu,vD,List.flatMap_cons,Ho (ns:=ns)];congr 1
  .show uB m st n=uB m (st*1) n;rw[ku]
  .rw[List.flatMap_map];congr 1;funext j;show _=uB m (st*(n*pr (ns.take j))) (ns.getD j 0);rw[mz]
end jJ
namespace tu
open PySem L2 jJ
section
variable {P:Program} {w:World} {K:PySem.W.Frag} {mg:Str->Option Value} {base:Heap}
theorem tO{os:List (Option Int)}(h:(decide (1<=os.length)&&(decide (os.length<=5)&&(os.all (fun o=>bf o 2 8)&&decide (pr (j3 os)<=32))))=false):box (some os)=none:=by
 unfold box;dsimp only;rw[h];rfl
theorem OU{os:List (Option Int)}(h:(decide (1<=os.length)&&(decide (os.length<=5)&&(os.all (fun o=>bf o 2 8)&&decide (pr (j3 os)<=32))))=true):box (some os)=some (j3 os):=by
 unfold box;dsimp only;rw[h];rfl
theorem Sd.nums{H:Hp}{p:Addr}{os:List (Option Int)}{xs:List V}(h:H p=some (.tup xs))(hl:xs.length=os.length)(e:∀ (i:Nat) x o,xs[i]?=some x->os[i]?=some o->Wh K H x o)(ha:os.all (fun o=>bf o 2 8)=true):xs=NV (j3 os)/\∀x∈j3 os,2<=x/\x<=8:=by
 have ex:∀o∈os,∃n:Nat,2<=n/\n<=8/\o=some (n:Int):=fun o ho=>vh (a:=2) (b:=8) (j_.mp ha o ho);refine⟨mn fun i=>?_,fun x hx=>?_⟩
 .unfold NV j3;rw[bL,bL];cases c:xs[i]? with
  |none=>
   have:os[i]?=none:=by
    rw[Fl] at c |-;lia
   rw[this];rfl
  |some x=>
   have hi:i<os.length:=by have:=(dk.mp c).1;lia
   have c2:os[i]?=some os[i]:=cU hi;obtain⟨n,n1,n2,e3⟩:=ex os[i] (iI hi);have wh:=e i x _ c c2;rw[c2,e3] at *;obtain rfl:=pT wh;show some (V.int (n:Int))=some (V.int (((n:Int).toNat:Nat):Int));rw[mq]
 .obtain⟨o,ho,rfl⟩:=a9.mp hx;obtain⟨n,n1,n2,rfl⟩:=ex o ho;exact⟨by show 2<=(n:Int).toNat;lia,by show (n:Int).toNat<=8;lia⟩
theorem yy:aD ["sides","side"] ["sides"] (am wW):=⟨rfl,rfl,rfl,by decide +kernel,rfl,by decide +kernel,by decide +kernel⟩
def tP(K:PySem.W.Frag)(CS:Addr):Sp:=fun vs H Q E=>∃ (x:V) (o:Option (List (Option Int))),vs=[x]/\Sd K H x o/\(box o=none->E (.ref CS) none H)/\(∀ns,box o=some ns->Q .bR H)
theorem En{f CS:Addr}{fd:FuncData}(F:eM K "check_sides" "check_sides" wW f fd)(B:Bl mg)(e:Er K mg "NoShape" CS)(gM:∃t,mg "MOST_SIDES"=some (.int 5 t))(gS:∃t,mg "SHORTEST_SIDE"=some (.int 2 t))(gL:∃t,mg "LONGEST_SIDE"=some (.int 8 t))(gH:∃t,mg "MOST_HOUSES"=some (.int 32 t))(W:cq P w K mg base a7 2 "is_whole_within" ["thing","least","most"] (jo K))(PR:cq P w K mg base a7 1 "product" ["numbers"] (tK K)):bn P w K mg base (iw P w) 3 f fd ["sides"] (tP K CS):=by
 obtain⟨tM,gM⟩:=gM;obtain⟨tS,gS⟩:=gS;obtain⟨tL,gL⟩:=gL;obtain⟨tH,gH⟩:=gH;refine F.Mt yy (fun vs H Q E h=>?_) (fun dz A outer s H vs Q E hr h=>?_)
 .obtain⟨x,o,rfl,_⟩:=h;rfl
 .obtain⟨x,o,rfl,sd,k1,k2⟩:=h;have h1:bA 1 _:=hr.mono (by decide);refine⟨_,ag (bE (PW.pt (xG (dw (cR (aJ jk (by rfl) B.Rg oH (aa (pv 0) (aa (lx (v:=.ty "tuple") rfl B.tup jQ rfl) af))))) (se (dw (cR (az W hr aE (aa (aJ aF (by rfl) B.len dH (aa (pv 0) af)) (aa aB (aa (jD (v:=.int 5) rfl gM ⟨_,rfl⟩) af))))))))) (aj (kN (q:=fun H1=>E (.ref CS) none H1) rfl e.ok rfl e.at_ (aa r_ af) (fun _ _ _ _ _ _ _ I m q=>kM I m q))) aL)
   (ag (cI N3 rfl (mU (pv 0)) (au (i:=1) yy.nd rfl (Or.inl rfl)) (aj (bE (dw (cR (az W hr aE (aa (pv 1) (aa (jD (v:=.int 2) rfl gS ⟨_,rfl⟩) (aa (jD (v:=.int 8) rfl gL ⟨_,rfl⟩) af)))))) (aj (kN (q:=fun H1=>E (.ref CS) none H1) rfl e.ok rfl e.at_ (aa r_ af) (fun _ _ _ _ _ _ _ I m q=>kM I m q))) aL)))
   (aj (bE (aK BZ (az PR h1 aE (aa (pv 0) af)) (jD (v:=.int 32) rfl gH ⟨_,rfl⟩) (aQ _)) (aj (kN (q:=fun H1=>E (.ref CS) none H1) rfl e.ok rfl e.at_ (aa r_ af) (fun _ _ _ _ _ _ _ I m q=>kM I m q))) aL))),?_⟩
  cases sd with
  |no ty h=>exact⟨_,rfl,_,_,_,_,false,rfl,⟨rfl,h⟩,ty,_,rfl,gJ ⟨by show 1<=sizeLine;decide,k1 rfl⟩⟩
  |@tup p xs os hp hl ew=>
   refine⟨_,rfl,_,_,_,.type "tuple",true,rfl,⟨rfl,CI⟩,.of (.tup hp),_,rfl,e_ ?_⟩;refine⟨_,rfl,p,xs,rfl,.inr (bp.of hp),_,_,1,5,rfl,.int _,_,rfl,?_⟩;cases hw:bf (some ((xs.length:Nat):Int)) 1 5 with
   |false=>
    refine gJ ⟨by show 1<=sizeLine;decide,k1 (tO ?_)⟩;unfold bf at hw;simp at hw;by_cases c:1<=os.length
    .rw[aT c,cW (show ¬ os.length<=5 by lia)];rfl
    .rw[cW c];rfl
   |true=>
    have Ed:1<=os.length/\os.length<=5:=by unfold bf at hw;simp at hw;lia
    refine e_ ⟨_,rfl,p,rfl,⟨_,bp.of hp⟩,lA (K:=K) (xs:=xs) (fun i σ H2=>H2=H/\(∃v,σ=[some (.ref p),v])/\∀j o,j<i->os[j]?=some o->bf o 2 8=true) ⟨rfl,⟨_,rfl⟩,fun j o hj=>absurd hj (by lia)⟩ (fun i σ H2 _ z=>by rw[z.1];exact bp.of hp) ?_ ?_⟩
    .rintro i v σ H2 hv ⟨rfl,⟨v',rfl⟩,pO⟩;have hi:i<os.length:=by have:=(dk.mp hv).1;lia
     have ho:os[i]?=some os[i]:=cU hi;refine⟨_,rfl,_,_,2,8,rfl,ew i v _ hv ho,_,rfl,?_⟩;cases hc:bf os[i] 2 8 with
     |false=>
      refine gJ ⟨by show 1<=sizeLine;decide,k1 (tO ?_)⟩;have:os.all (fun o=>bf o 2 8)=false:=by
       rw[List.all_eq_false];exact⟨os[i],iI hi,by rw[hc];decide⟩
      rw[aT Ed.1,aT Ed.2,this];rfl
     |true=>
      refine e_ ⟨rfl,⟨_,rfl⟩,fun j o hj Yk=>?_⟩;by_cases c:j=i
      .subst c;rw[ho] at Yk;obtain rfl:=a8 Yk;exact hc
      .exact pO j o (by lia) Yk
    .rintro σ H2 ⟨rfl,⟨v',rfl⟩,pO⟩;have ha:os.all (fun o=>bf o 2 8)=true:=j_.mpr fun o ho=>by
      obtain⟨j,hj,rfl⟩:=rC.mp ho;exact pO j _ (by lia) (cU hj)
     obtain⟨ex,hx⟩:=Sd.nums hp hl ew ha;subst ex;refine⟨_,rfl,p,j3 os,rfl,bp.of hp,fun x jw=>by have:=hx x jw;lia,_,_,rfl,rfl,_,rfl,?_⟩;refine iE (fun c=>?_) (fun c=>?_)
     .have c':(32:Int)<((pr (j3 os):Nat):Int):=by simpa using c
      refine⟨by show 1<=sizeLine;decide,k1 (tO ?_)⟩;rw[aT Ed.1,aT Ed.2,ha,cW (by lia)];rfl
     .have c':¬ (32:Int)<((pr (j3 os):Nat):Int):=by simpa using c
      exact k2 _ (OU (by rw[aT Ed.1,aT Ed.2,ha,aT (by lia)];rfl))
end
theorem ft{A B:Prop}{b:Bool}(hb:b=true)(h:A):if b=true then A else B:=by rw[ai hb];exact h
theorem dE{A B:Prop}{b:Bool}(hb:b=false)(h:B):if b=true then A else B:=by rw[ap (by rw[hb];decide)];exact h
theorem Hq{m st n:Nat}:uB (m+1) st n=uB m st n++(if m / st % n+1<n then [(m,m+st)] else []):=by
 unfold uB;rw[iV,jR,d_,eZ];by_cases c:m / st % n+1<n
 .rw[ai (aT c),ai c];rfl
 .rw[ap (by simpa using c),ap c];rfl
theorem ng:∀ {ns:List Nat} {i:Nat},(∀x∈ns,1<=x)->pr (ns.take i)<=pr ns
 |[],i,_=>by rw[List.take_nil];exact aW _
 |n::ns,0,h=>by
  show 1<=n*pr ns;have:∀ {l:List Nat},(∀x∈l,1<=x)->1<=pr l:=fun {l}=>by
   induction l with
   |nil=>intro _;exact aW _
   |cons x l ih=>intro hl;exact o0 (hl x bG) (ih fun y hy=>hl y (bJ _ hy))
  exact this (l:=n::ns) h
 |n::ns,i+1,h=>by
  show n*pr (ns.take i)<=n*pr ns;exact oP n (ng fun x hx=>h x (bJ _ hx))
section
variable {P:Program} {w:World} {K:PySem.W.Frag} {mg:Str->Option Value} {base:Heap}
theorem jp:aD ["sides","pairs","step","side","house"] ["sides"] (am wX):=⟨rfl,rfl,rfl,by decide +kernel,rfl,by decide +kernel,by decide +kernel⟩
def tQ:Sp:=fun vs H Q _=>∃ (a:Addr) (ns:List Nat),vs=[.ref a]/\H a=some (.tup (NV ns))/\ns.length<=5/\(∀x∈ns,2<=x/\x<=8)/\pr ns<=32/\∀ (r:Addr) (zs:Zs) (H':Hp),aA H H'->H r=none->H' r=some (.lst (zr zs))->PO H' zs->zp zs=(jM ns).map qT->Q (.ref r) H'
theorem Eo{f:Addr}{fd:FuncData}(F:eM K "box_pairs" "box_pairs" wX f fd)(B:Bl mg)(PR:cq P w K mg base a7 1 "product" ["numbers"] (tK K)):bn P w K mg base a7 2 f fd ["sides"] tQ:=by
 refine F.ok jp (fun vs H Q E h=>?_) (fun dz A outer s H vs Q E hr h=>?_)
 .obtain⟨a,ns,rfl,_⟩:=h;rfl
 .obtain⟨a,ns,rfl,ha,hl,hn,hm,k⟩:=h;refine⟨_,ag (aN (i:=1) jp.nd rfl (Or.inl rfl) (eX af))
   (ag (aN (i:=2) jp.nd rfl (Or.inl rfl) aB)
   (ag (cI dQ rfl (mU (pv 0)) (au (i:=3) jp.nd rfl (Or.inl rfl))
    (ag (cI dQ rfl (bu rfl B.range (aa (az PR hr aE (aa (pv 0) af)) af)) (au (i:=4) jp.nd rfl (Or.inl rfl))
     (aj (bE (aK si (bv eC (bv jE (bv qM (pv 4) (pv 2)) (pv 3)) aB) (pv 3) (aQ _))
      (aj (bX (ji jd j6 j5 dh (pv 1) (aa (jF (aa (pv 4) (aa (bv eC (pv 4) (pv 2)) af))) af)))) aL)))
    (aj (pj (i:=2) jp.nd rfl (Or.inl rfl) (pv 3) A8))))
   (aj (aG (pv 1))))),?_⟩
  refine⟨by show 0<=sizeLine;decide,fun D hD=>?_⟩;have s0:=ao (o:=.lst []) hD;have hn1:∀x∈ns,1<=x:=fun x hx=>by have:=hn x hx;lia
  refine⟨_,rfl,a,rfl,⟨_,bp.of (s0 _ _ ha)⟩,lA (K:=K) (xs:=NV ns) (fun i σ H2=>(∃x3 x4,σ=[some (.ref a),some (.ref D),some (.int ((pr (ns.take i):Nat):Int)),x3,x4])/\qj H D ((M4 (pr ns) ns i).map qT) H2) ⟨⟨_,_,rfl⟩,s0,[],ah,PO.nil,rfl⟩ (fun i σ H2 _ z=>bp.of (z.2.1 _ _ ha)) ?_ ?_⟩
  .rintro i x σ H2 hx ⟨⟨x3,x4,rfl⟩,P2⟩;obtain⟨n,hv,rfl⟩:=qi hx;have hi:i<ns.length:=(dk.mp hv).1;have hnn:=hn n (cZ hv);have iD:=ng (ns:=ns) (i:=i) hn1;have abv:1<=pr (ns.take i):=by
    have:=ng (ns:=ns.take i) (i:=0) fun x hx=>hn1 x (mf hx);exact this
   have gd:ns.getD i 0=n:=by rw[cr,hv];rfl
   have tk:ns.take (i+1)=ns.take i++[n]:=by rw[iG,hv];rfl
   rw[tk,jO];have eB:M4 (pr ns) ns (i+1)=M4 (pr ns) ns i++uB (pr ns) (pr (ns.take i)) n:=by unfold M4;rw[l3,gd]
   rw[eB];generalize pr (ns.take i)=st at *;refine⟨_,rfl,a,ns,rfl,bp.of (P2.1 _ _ ha),fun x hx=>by have:=hn x hx;lia,?_⟩;refine⟨((pr ns:Nat):Int),rfl,by lia,by lia,dg (n:=pr ns) (lo:=0) (fun j σ H4=>(∃x4,σ=[some (.ref a),some (.ref D),some (.int (st:Int)),some (.int (n:Int)),x4])/\qj H D ((M4 (pr ns) ns i++uB j st n).map qT) H4) ⟨⟨_,rfl⟩,by rw[show uB 0 st n=[] from rfl,rM];exact P2⟩ ?_ ?_⟩
   .rintro j σ H4 hj ⟨⟨x4',rfl⟩,Hi,zs4,Wm,po4,Yl⟩;have hdv:((0:Int)+(j:Int)) / (st:Int) % (n:Int)+1=(((j / st % n+1:Nat)):Int):=by rw[eK];rfl
    refine⟨_,rfl,_,rfl,_,_,rfl,rfl,⟨by lia,by lia⟩,_,rfl,_,_,rfl,rfl,(by show (0:Int)<(n:Int);lia),_,_,rfl,rfl,_,rfl,_,_,rfl,rfl,_,rfl,?_⟩;rw[hdv,Hq];by_cases c:j / st % n+1<n
    .rw[ai c];refine ft (aT (by lia)) ?_;rw[eK];refine⟨_,rfl,.inl ⟨rfl,_,br.of Wm⟩,_,rfl,_,rfl,_,rfl,_,_,rfl,rfl,by show 2<=sizeLine;decide,fun t ht=>?_⟩;have Ym:zs4.length<=1000:=by
      have e:=congrArg List.length Yl;rw[dC,aP,dY] at e;have z1:∀m' s' n',(uB m' s' n').length<=m':=fun m' s' n'=>by unfold uB;rw[aP];exact bj (je _ _) (by simp)
      have z2:∀i',(M4 (pr ns) ns i').length<=i'*32:=fun i'=>by
       induction i' with
       |zero=>exact aW _
       |succ i' ih=>unfold M4 at ih |-;rw[l3,dY,Nat.succ_mul];have:=z1 (pr ns) (pr (ns.take i')) (ns.getD i' 0);lia
      have:=z2 i;have:=z1 j st n;lia
     refine⟨D,_,_,rfl,rfl,ao ht _ _ Wm,by rw[kX];exact fE Ym (by decide),⟨_,rfl⟩,?_⟩;have P5:=qj.add (u:=qT (j,j+st)) hD Hi Wm po4 Yl ht;rw[<-dG,d_ (l₂:=[(j,j+st)])];exact P5
    .rw[ap c,rM];refine dE (cW (by lia)) ⟨⟨_,rfl⟩,Hi,zs4,Wm,po4,Yl⟩
   .rintro σ H4 ⟨⟨x4',rfl⟩,P4⟩;exact⟨_,rfl,_,rfl,_,_,rfl,rfl,.inr ⟨by lia,by lia⟩,⟨_,_,rfl⟩,P4⟩
  .rintro σ H2 ⟨⟨x3,x4,rfl⟩,Ej,zs,hz,po,ez⟩;refine⟨_,rfl,k D zs H2 Ej hD hz po ?_⟩;rw[ez,bi];unfold jM M4;rw[Ho];simp only[wc]
theorem OV:aD ["sides"] ["sides"] (am Hj):=⟨rfl,rfl,rfl,by decide +kernel,rfl,by decide +kernel,by decide +kernel⟩
def A_(K:PySem.W.Frag)(C Pt CS:Addr):Sp:=fun vs H Q E=>∃ (x:V) (o:Option (List (Option Int))),vs=[x]/\Sd K H x o/\nE Pt H/\(box o=none->E (.ref CS) none H)/\(∀ns,box o=some ns->Hm C Pt H (pr ns) (nC ((jM ns).map qT)) Q)
theorem La{f C Pt CS:Addr}{fd:FuncData}(F:eM K "box_net" "box_net" Hj f fd)(CSd:cq P w K mg base (iw P w) 3 "check_sides" ["sides"] (tP K CS))(PN:cq P w K mg base a7 9 "pairs_net" ["many","pairs"] (tJ C Pt))(PR:cq P w K mg base a7 1 "product" ["numbers"] (tK K))(BP:cq P w K mg base a7 2 "box_pairs" ["sides"] tQ):
  bn P w K mg base (iw P w) 10 f fd ["sides"] (A_ K C Pt CS):=by
 refine F.Mt OV (fun vs H Q E h=>?_) (fun dz A outer s H vs Q E hr h=>?_)
 .obtain⟨x,o,rfl,_⟩:=h;rfl
 .obtain⟨x,o,rfl,sd,tb,k1,k2⟩:=h;have h1:bA 1 _:=hr.mono (by decide);have h2:bA 2 _:=hr.mono (by decide);have h3:bA 3 _:=hr.mono (by decide);refine⟨_,ag (bX (az CSd h3 (uU (E':=E) fun _ _ _ z=>z) (aa (pv 0) af)))
   (aj (aG (az PN hr aE (aa (az PR h1 aE (aa (pv 0) af)) (aa (az BP h2 aE (aa (pv 0) af)) af))))),?_⟩
  refine⟨_,rfl,x,o,rfl,sd,k1,fun ns hb=>?_⟩;cases sd with
  |no ty h=>cases hb
  |@tup p xs os hp hl ew=>
   obtain⟨e1,l1,l2,hn,hm,eo⟩:=Hn hb;have ha:os.all (fun o=>bf o 2 8)=true:=j_.mpr fun o ho=>by
    rw[eo] at ho;obtain⟨n,VS,rfl⟩:=a9.mp ho;have:=hn n VS;unfold bf;simp;lia
   obtain⟨ex,_⟩:=Sd.nums hp hl ew ha;rw[<-e1] at ex;subst ex;refine⟨_,rfl,p,ns,rfl,bp.of hp,fun x hx=>by have:=hn x hx;lia,?_⟩;refine⟨_,rfl,p,ns,rfl,hp,l2,hn,hm,fun r zs H2 s2 E_ Ep po ez=>?_⟩;refine⟨pr ns,r,zs,rfl,Ep,po,?_,tb.same s2,?_⟩
   .rw[ez];exact GZ (fun x hx=>(hn x hx).1) (by rintro rfl;simp at l1) hm
   .rw[ez];exact(k2 ns hb).same s2
end
end tu
namespace L2
open PySem PySem.Spec PyProof.Rows
theorem Hr{K:PySem.W.Frag}{a D:Addr}{xs:List V}{g:TG}{tt:TT}{te:TE}{fin:Hp->Prop}{σB:St}{H0:Hp}(Pv:Nat->List V->St->Hp->Prop)(h0:Pv 0 [] σB H0)(hl:∀i ys σ H,i<=xs.length->Pv i ys σ H->bp K H a xs)(hs:∀i x ys σ H (Kt:V->St->Hp->Prop) (Kf:St->Hp->Prop),xs[i]?=some x->Pv i ys σ H->
   (∀v σ2 H4,H4 D=some (.lst ys)->ys.length<sizeLine->Pv (i+1) (ys++[v]) σ2 (upd H4 D (.lst (ys++[v])))->Kt v σ2 H4)->(∀σ2 H3,Pv (i+1) ys σ2 H3->Kf σ2 H3)->
   g x σ H fun σ2 H2=>tt σ2 H2 fun b H3=>if b=true then te σ2 H3 fun v H4=>Kt v σ2 H4 else Kf σ2 H3)(hd:∀ys σ H,Pv xs.length ys σ H->fin H):gR (QY K a) g tt te D fin σB H0:=by
 refine⟨fun i m σ H=>m=xs.length-i/\i<=xs.length/\∃ys,Pv i ys σ H,⟨xs.length,by simp,cF _,[],h0⟩,?_⟩;rintro i m σ H ⟨rfl,hi,ys,p⟩;have q:=hl i ys σ H hi p;by_cases dt:i<xs.length
 .refine .inr ⟨⟨xs,xs[i],q,by simp[dt]⟩,?_⟩;rintro x H' ⟨rfl,y⟩;exact hs i x ys σ _ (fun v σ2 H4=>∃ys,H4 D=some (.lst ys)/\ys.length<sizeLine/\∃m',m'<xs.length-i/\m'=xs.length-(i+1)/\i+1<=xs.length/\∃pL,Pv (i+1) pL σ2 (upd H4 D (.lst (ys++[v]))))
   (fun σ2 H3=>∃m',m'<xs.length-i/\m'=xs.length-(i+1)/\i+1<=xs.length/\∃pL,Pv (i+1) pL σ2 H3) (y xs q) p
   (fun v σ2 H4 z1 z2 z3=>⟨ys,z1,z2,_,by lia,rfl,dt,_,z3⟩) (fun σ2 H3 z=>⟨_,by lia,rfl,dt,_,z⟩)
 .have e:i=xs.length:=by lia
  subst e;exact .inl ⟨⟨xs,q,aW _⟩,hd ys σ H p⟩
section
variable {X:Cx}
theorem oq{prog:Program}{w:World}{A:Around}{E:Value->Shared->Prop}{s:Shared}{t sl:Addr}{items:Array Value}{vl vu:Value}{lo hi:Option Int}{Q:Value->Shared->Prop}(ht:IsTup s.heap t items)(hs:s.heap.IsSliceOf sl vl vu .none)(pl:IsPart vl lo)(pu:IsPart vu hi)(hw:HT.fX items.size 0 lo=0/\HT.fX items.size items.size hi=items.size)(h:Q (.ref t) s):wpAny (model prog w) A (getItem (.ref t) (.ref sl)) Q E s:=by
 obtain⟨os,Ju,VY,R_⟩:=id hs;have W1:s.TypeIs (.ref sl) "slice":=⟨os,Ju,VY⟩
 unfold getItem;try with_reducible refine gm ?_
 first|refine ak (wpAny_pure ?_)|skip
 refine ak (wpAny_sequenceKey ht.typeIs (by decide) ?_);refine ak (lS (name:=Str.ofString "__getitem__") ht.typeIs uH
  (h_ uH ht.typeIs entry_tuple_getitem ?_ (args_tuple_getitem _ _)))
 show wpAny _ _ (Builtin.Tuple.tupleItemsOf (.ref t) >>= _) _ _ s;refine ak (tupleItemsOf_ ht ?_);refine ak (wd W1 ?_);rw[ai (by decide)];refine ak (HT.jh hs pl pu ?_);have Yn:(((HT.fX items.size 0 lo:Nat):Int)==0&&(1:Int)==1&&(HT.fX items.size items.size hi-HT.fX items.size 0 lo)==items.size)=true:=by
  rw[hw.1,hw.2];simp
 show wpAny _ _ (if (((HT.fX items.size 0 lo:Nat):Int)==0&&(1:Int)==1&&(HT.fX items.size items.size hi-HT.fX items.size 0 lo)==items.size)=true then _ else _) _ _ s;rw[ai Yn];refine ak (Q:=_) (m:=Builtin.Tuple.tupleIsExact (.ref t)) ?_;unfold Builtin.Tuple.tupleIsExact;refine ak (wd ht.typeIs ?_);refine wpAny_pure ?_;rw[ai (by decide)];exact ak (wpAny_rule (wpAny_pure ⟨_,rfl,wpAny_pure h⟩))
def Tx:V->Option Int->Option Int->Hp->VK->Prop:=fun x lo hi H Q=>∃a xs,x=.ref a/\H a=some (.tup xs)/\∀r H',aA H H'->H' r=some (.tup (wz xs lo hi))->Q (.ref r) H'
theorem Hs{xs:List V}{lo hi:Option Int}(hw:HT.fX xs.length 0 lo=0/\HT.fX xs.length xs.length hi=xs.length):wz xs lo hi=xs:=by
 unfold wz;rw[hw.1,hw.2,Nat.sub_zero,z_,gf]
theorem CQ:W2 X Tx:=by
 intro ae s σ H x v vl vu lo hi sl Q I rx hs pl pu h;obtain⟨a,xs,rfl,hx,q⟩:=h;by_cases hw:HT.fX xs.length 0 lo=0/\HT.fX xs.length xs.length hi=xs.length
 .cases rx;obtain⟨its,r,ht,hz⟩:=I.tuple (bp.of hx);have de:its.toArray.size=xs.length:=by rw[cV];exact r.length.symm
  refine⟨"tuple",_,uH.lookup,ht.typeIs,?_⟩;exact oq ht hs pl pu (by rw[de];exact hw) ⟨.ref a,H,I,rfl,q a H (aA.refl _) (by rw[Hs hw];exact hx)⟩
 .exact NS ae s σ H _ v vl vu lo hi sl Q I rx hs pl pu ⟨a,xs,rfl,bp.of hx,hw,fun p hp=>q p _ (ao hp) ah⟩
end
end L2
namespace jJ
def bQ:List Nat->Nat->List Nat
 |[],_=>[]
 |n::ns,h=>(h % n)::bQ ns (h / n)
theorem eH:∀ {ns:List Nat} {h:Nat},(bQ ns h).length=ns.length
 |[],_=>rfl
 |n::ns,h=>by show (bQ ns (h / n)).length+1=ns.length+1;rw[eH]
theorem tR:∀ {ns:List Nat} {n h:Nat},bQ (ns++[n]) h=bQ ns h++[h / pr ns % n]
 |[],n,h=>by show [h % n]=[h / 1 % n];rw[o5]
 |m::ns,n,h=>by
  show (h % m)::bQ (ns++[n]) (h / m)=(h % m)::(bQ ns (h / m)++[h / (m*pr ns) % n]);rw[tR,l_]
theorem ni:∀ {ns:List Nat} {h i:Nat},(∀x∈ns,0<x)->i<ns.length->(bQ ns h).getD i 0<ns.getD i 0
 |[],_,_,_,hi=>absurd hi (ij _)
 |n::ns,h,0,hn,_=>jA h (hn n bG)
 |n::ns,h,i+1,hn,hi=>ni (ns:=ns) (h:=h / n) (i:=i) (fun x hx=>hn x (bJ _ hx)) (l9 hi)
def y6:List Nat->List Nat->Nat
 |n::ns,d::ds=>d+n*y6 ns ds
 |_,_=>0
theorem yz:∀ {ns ds:List Nat} {n d:Nat},ns.length=ds.length->y6 (ns++[n]) (ds++[d])=y6 ns ds+pr ns*d
 |[],[],n,d,_=>by show d+n*0=0+1*d;lia
 |m::ns,e::ds,n,d,h=>by
  show e+m*y6 (ns++[n]) (ds++[d])=e+m*y6 ns ds+m*pr ns*d;rw[yz (mC h),iY,mz,rQ]
theorem qY:∀ {ns:List Nat} {h:Nat},h<pr ns->y6 ns (bQ ns h)=h
 |[],h,hh=>by have hh:h<1:=hh;show 0=h;lia
 |n::ns,h,hh=>by
  show h % n+n*y6 ns (bQ ns (h / n))=h;rw[qY (zo hh),Nat.mod_add_div]
theorem CU:∀ {ns ds:List Nat} {k v:Nat},ns.length=ds.length->k<ds.length->y6 ns (ds.set k v)+pr (ns.take k)*ds.getD k 0=y6 ns ds+pr (ns.take k)*v
 |[],[],k,v,_,h=>absurd h (ij _)
 |n::ns,d::ds,0,v,_,_=>by show v+n*y6 ns ds+1*d=d+n*y6 ns ds+1*v;lia
 |n::ns,d::ds,k+1,v,hl,hk=>by
  have ih:=CU (ns:=ns) (ds:=ds) (k:=k) (v:=v) (mC hl) (l9 hk);show d+n*y6 ns (ds.set k v)+n*pr (ns.take k)*ds.getD k 0=d+n*y6 ns ds+n*pr (ns.take k)*v;rw[rQ,rQ,mz,mz,<-iY,<-iY,ih]
def jb(ns:List Nat)(a b:Nat):Option Nat:=(List.range ns.length).find? fun i=>decide ((bQ ns a).getD i 0≠(bQ ns b).getD i 0)
theorem Es{n:Nat}{f:Nat->Bool}:(List.range (n+1)).find? f=if f 0=true then some 0 else ((List.range n).find? fun i=>f (i+1)).map (·+1):=by
 rw[vD,mw];split
 .next h=>rw[ai h]
 .next h=>
  rw[ap (by rw[h];decide),List.find?_map];rfl
theorem CV{n:Nat}{ns:List Nat}{a b:Nat}:jb (n::ns) a b=if a % n=b % n then (jb ns (a / n) (b / n)).map (·+1) else some 0:=by
 unfold jb;rw[cu,Es];show (if decide (a % n≠b % n)=true then _ else _)=_;by_cases c:a % n=b % n
 .rw[ap (by simp[c]),ai c];rfl
 .rw[ai (by simpa using c),ap c]
def Et:List Nat->Nat->Nat->Nat->Prop
 |[],_,_,_=>False
 |n::_,0,a,b=>a % n+1<n/\b=a+1
 |n::ns,k+1,a,b=>a % n=b % n/\Et ns k (a / n) (b / n)
theorem Eu:∀ {ns:List Nat} {a b:Nat},(∀x∈ns,0<x)->(U ns a b↔∃k,Et ns k a b)
 |[],a,b,_=>⟨fun h=>h.elim,fun ⟨k,h⟩=>h.elim⟩
 |n::ns,a,b,hn=>by
  rw[wN hn,Eu fun x hx=>hn x (bJ _ hx)];constructor
  .rintro(h|⟨e,k,h⟩)
   .exact⟨0,h⟩
   .exact⟨k+1,e,h⟩
  .rintro⟨k,h⟩;cases k with
   |zero=>exact .inl h
   |succ k=>exact .inr ⟨h.1,k,h.2⟩
theorem M5:∀ {ns:List Nat} {k a b:Nat},Et ns k a b->k<ns.length
 |n::ns,0,a,b,_=>wb _
 |n::ns,k+1,a,b,h=>Nat.succ_lt_succ (M5 h.2)
theorem Ht{n a b s:Nat}(hn:0<n):(a % n=b % n/\b / n=a / n+s)↔b=a+n*s:=by
 constructor
 .rintro⟨h1,h2⟩;rw[<-ik b n,h2,<-h1,iY];have:=ik a n;lia
 .rintro rfl;exact⟨by rw[Fj],by rw[Nat.add_mul_div_left _ _ hn]⟩
theorem Hu:∀ {ns:List Nat} {k a b:Nat},(∀x∈ns,0<x)->k<ns.length->(Et ns k a b↔(bQ ns a).getD k 0+1<ns.getD k 0/\b=a+pr (ns.take k))
 |[],k,_,_,_,h=>absurd h (ij _)
 |n::ns,0,a,b,hn,_=>Iff.rfl
 |n::ns,k+1,a,b,hn,hk=>by
  have ih:=Hu (ns:=ns) (k:=k) (a:=a / n) (b:=b / n) (fun x hx=>hn x (bJ _ hx)) (l9 hk);show (a % n=b % n/\Et ns k (a / n) (b / n))↔(bQ ns (a / n)).getD k 0+1<ns.getD k 0/\b=a+n*pr (ns.take k);rw[ih,<-Ht (hn n bG)];exact⟨fun ⟨x,y,z⟩=>⟨y,x,z⟩,fun ⟨y,x,z⟩=>⟨x,y,z⟩⟩
theorem tT{b n:Nat}(hn:0<n):(b % n+1<n)↔1<=(b+1) % n:=by
 have e:=ik b n;have l:=jA b hn;constructor
 .intro h;rw[(jN h).2];lia
 .intro h;rcases gQ (b % n+1) n with c|c
  .exact c
  .have:b+1=n*(b / n+1):=by rw[iY,ku];lia
   rw[this,Nat.mul_mod_right] at h;exact absurd h (by decide)
theorem Ba:∀ {ns:List Nat} {k a b:Nat},(∀x∈ns,0<x)->k<ns.length->(Et ns k b a↔1<=(bQ ns a).getD k 0/\a=b+pr (ns.take k))
 |[],k,_,_,_,h=>absurd h (ij _)
 |n::ns,0,a,b,hn,_=>by
  show (b % n+1<n/\a=b+1)↔1<=a % n/\a=b+1;constructor
  .rintro⟨h,rfl⟩;exact⟨(tT (hn n bG)).mp h,rfl⟩
  .rintro⟨h,rfl⟩;exact⟨(tT (hn n bG)).mpr h,rfl⟩
 |n::ns,k+1,a,b,hn,hk=>by
  have ih:=Ba (ns:=ns) (k:=k) (a:=a / n) (b:=b / n) (fun x hx=>hn x (bJ _ hx)) (l9 hk);show (b % n=a % n/\Et ns k (b / n) (a / n))↔1<=(bQ ns (a / n)).getD k 0/\a=b+n*pr (ns.take k);rw[ih,<-Ht (hn n bG)];exact⟨fun ⟨x,y,z⟩=>⟨y,x,z⟩,fun ⟨y,x,z⟩=>⟨x,y,z⟩⟩
theorem Hv:∀ {ns:List Nat} {k a b:Nat},Et ns k a b->jb ns a b=some k
 |n::ns,0,a,b,⟨h,e⟩=>by
  subst e;rw[CV,ap (by rw[(jN h).2];lia)]
 |n::ns,k+1,a,b,⟨e,h⟩=>by rw[CV,ai e,Hv h];rfl
theorem Lb{ns:List Nat}{a b:Nat}:jb ns a b=jb ns b a:=by
 unfold jb;congr 1;funext i;exact rJ.mpr ⟨cj,cj⟩
theorem f9{ns:List Nat}{a b k:Nat}(h:jb ns a b=some k):k<ns.length/\(bQ ns a).getD k 0≠(bQ ns b).getD k 0:=
 ⟨cY.mp (oK h),c_ (oW (p:=fun i=>decide ((bQ ns a).getD i 0≠(bQ ns b).getD i 0)) h)⟩
def y7(ns:List Nat)(a b k:Nat):Prop:=Et ns k a b\/Et ns k b a
theorem e8{ns:List Nat}{a b k:Nat}(h:y7 ns a b k):jb ns a b=some k:=by
 rcases h with h|h
 .exact Hv h
 .rw[Lb];exact Hv h
theorem lH{ns:List Nat}{a b:Nat}(hn:∀x∈ns,0<x)(ha:a<pr ns)(hb:b<pr ns):T (nC ((jM ns).map qT)) a b↔∃k,y7 ns a b k:=by
 have Wn:∀ {a b:Nat},(a,b)∈jM ns↔a<pr ns/\U ns a b:=pR;show ((a:Int),(b:Int))∈_↔_;rw[f8];constructor
 .rintro(h|h)
  .obtain⟨q,hq,e⟩:=a9.mp h;have e1:q.1=a:=cN (congrArg Prod.fst e);have e2:q.2=b:=cN (congrArg Prod.snd e);obtain⟨k,u⟩:=(Eu hn).mp (Wn.mp hq).2;exact⟨k,.inl (by rw[<-e1,<-e2];exact u)⟩
  .obtain⟨q,hq,e⟩:=a9.mp h;have e1:q.1=b:=cN (congrArg Prod.fst e);have e2:q.2=a:=cN (congrArg Prod.snd e);obtain⟨k,u⟩:=(Eu hn).mp (Wn.mp hq).2;exact⟨k,.inr (by rw[<-e1,<-e2];exact u)⟩
 .rintro⟨k,u|u⟩
  .exact .inl (a9.mpr ⟨(a,b),Wn.mpr ⟨ha,(Eu hn).mpr ⟨k,u⟩⟩,rfl⟩)
  .exact .inr (a9.mpr ⟨(b,a),Wn.mpr ⟨hb,(Eu hn).mpr ⟨k,u⟩⟩,rfl⟩)
def y8(ns:List Nat)(a b:Nat):Option Nat:=(jb ns a b).map fun k=>if (bQ ns a).getD k 0<(bQ ns b).getD k 0 then a+pr (ns.take k) else a-pr (ns.take k)
end jJ
namespace L2
open PySem PySem.Spec PyProof.Rows
def zC(k:Bool):String:=if k then "list" else "tuple"
def zI(k:Bool):String:=if k then "list_iterator" else "tuple_iterator"
def xC(k:Bool)(h:Heap)(a:Addr)(items:Array Value):Prop:=∃o,h.get? a=some o/\o.cls=.type (zC k)/\∃n,o.data=.seq items n
def gY(k:Bool)(h:Heap)(it a:Addr)(i:Nat):Prop:=∃o,h.get? it=some o/\o.cls=.type (zI k)/\o.data=.fields #[.ref a,.int (i:Int) 0]
def CW(k:Bool)(K:PySem.W.Frag)(H:Hp)(a:Addr)(xs:List V):Prop:=match k with
 |true=>br K H a xs
 |false=>bp K H a xs
theorem gY.at{k:Bool}{it a:Addr}{i:Nat}{h h':Heap}(r:gY k h it a i)(e:∀o,h.get? it=some o->h'.get? it=some o):gY k h' it a i:=let ⟨o,q,z⟩:=r;⟨o,e o q,z⟩
theorem k8{k:Bool}{c it t:Addr}{h h':Heap}{i:Nat}(r:gY k h it t i)(sb:Heap.SameBut c h h')(n:it≠c):gY k h' it t i:=r.at fun o e=>cT sb n e
theorem Hw{k:Bool}{c t:Addr}{h h':Heap}{xs:Array Value}(r:xC k h t xs)(sb:Heap.SameBut c h h')(n:t≠c):xC k h' t xs:=let ⟨o,e,z⟩:=r;⟨o,cT sb n e,z⟩
theorem aI.q{k:Bool}{X:Cx}{ae:List (Addr×Obj)}{σ:St}{H:Hp}{s:Shared}{a:Addr}{xs:List V}(I:aI X ae σ H s)(h:CW k X.K H a xs):∃us,aY xs us/\xC k s.heap a us.toArray/\xs.length<=sizeLine:=by
 cases k
 .exact I.tuple h
 .obtain⟨us,r,p,z⟩:=I.list h;exact⟨us,r,p.isList,z⟩
theorem aI.M6{k:Bool}{X:Cx}{ae:List (Addr×Obj)}{σ:St}{H:Hp}{s:Shared}{a:Addr}{xs ys:List V}(I:aI X ae σ H s)(h:CW k X.K H a xs)(h':CW k X.K H a ys):xs=ys:=by
 cases k
 .exact I.g_ h h'
 .exact I.xH h h'
variable {ka kb:Bool}
section
variable {prog:Program} {w:World} {A:Around} {E:Value->Shared->Prop} {s:Shared}
theorem tU{k:Bool}{it t:Addr}{i:Nat}{xs:Array Value}{x:Value}{Q:Value->Shared->Prop}(iJ:gY k s.heap it t i)(ht:xC k s.heap t xs)(hx:xs[i]?=some x)(q:∀h',gY k h' it t (i+1)->Heap.SameBut it s.heap h'->Q x { s with heap:=h' }):wpAny (model prog w) A (Builtin.SmallTypes.nextOf (.ref it)) Q E s:=by
 cases k
 .exact sW iJ ht hx q
 .exact wpAny_nextOf_list_item iJ ht hx q
theorem Ev{k:Bool}{it t:Addr}{i:Nat}{xs:Array Value}{Q:Value->Shared->Prop}(hh:A.handled=none)(iJ:gY k s.heap it t i)(ht:xC k s.heap t xs)(hx:xs[i]?=none)(q:∀h' e,Heap.ExtBut it s.heap h'->(∃o,h'.get? e=some o/\o.cls=.type "StopIteration")->E (.ref e) { s with heap:=h' }):wpAny (model prog w) A (Builtin.SmallTypes.nextOf (.ref it)) Q E s:=by
 cases k
 .exact pN hh iJ ht hx q
 .exact wpAny_nextOf_list_end hh iJ ht hx q
theorem k_{k:Bool}{t:Addr}{items:Array Value}{Q:Value->Shared->Prop}(g:xC k s.heap t items)(q:Q (.ref s.heap.objs.size) { s with heap:=s.heap.push { cls:=.type (zI k),data:=.fields #[.ref t,.int 0 0] } }):wpAny (model prog w) A (pyIter (.ref t)) Q E s:=by
 cases k
 .exact vP g q
 .exact rK g q
theorem Ew{z ti tq i1 i2 t1 t2:Addr}{k:Nat}{xs ys:Array Value}{x y a b:Value}{Q:Value->Shared->Prop}(dj:ZipApart z ti tq i1 i2 t1 t2)(gz:IsZip s.heap z ti tq .none)(gi:IsPair s.heap ti (.ref i1) (.ref i2))(gq:IsPair s.heap tq a b)(r1:gY ka s.heap i1 t1 k)(r2:gY kb s.heap i2 t2 k)(g1:xC ka s.heap t1 xs)(g2:xC kb s.heap t2 ys)(ex:xs[k]?=some x)(ey:ys[k]?=some y)(q:∀h',IsZip h' z ti tq (rawInt s.heap.objs.size)->IsPair h' tq x y->gY ka h' i1 t1 (k+1)->gY kb h' i2 t2 (k+1)->IsPair h' s.heap.objs.size x y->(∀c o,c≠z->c≠tq->c≠i1->c≠i2->s.heap.get? c=some o->h'.get? c=some o)->Q (.ref s.heap.objs.size) { s with heap:=h' }):
  wpAny (model prog w) A (Builtin.«zip.__next__» ⟨[.ref z],[]⟩) (fun fin s'=>∃v,fin=.done (.ret v)/\Q v s') E s:=by
 change wpAny _ _ (field (.ref z) 2 >>= _) _ _ _;refine ak (d0 gz rfl (x:=.bool false) rfl ?_);change wpAny _ _ (field (.ref z) 3 >>= _) _ _ _;refine ak (d0 gz rfl (x:=.ref ti) rfl (ak (kn gi rfl ?_)));change wpAny _ _ (Builtin.SmallTypes.ownedTupleIsFree (.ref z) >>= _) _ _ _;refine ak ?_;unfold Builtin.SmallTypes.ownedTupleIsFree;refine ak (d0 gz rfl (x:=.none) rfl (wpAny_pure ?_));simp only[mE];refine ak (wpAny_rule (ak (d0 gz rfl (x:=.ref tq) rfl ?_)));refine ak (kh gz (by simp) fun m1 Lc oF=>?_);replace Lc:IsZip m1 z ti tq .ellipsis:=Lc;refine ak ?_;simp only[zV,List.zipIdx_nil,vU,vW];refine ak (ak (wpAny_onRaise ?_));change wpAny _ _ (Builtin.SmallTypes.nextOf (.ref i1) >>= _) _ _ _;refine ak (tU (k8 r1 oF dj.i1z) (Hw g1 oF dj.l1z) ex fun m2 r12 oG=>wpAny_pure ?_);have gq2:IsPair m2 tq a b:=cT oG dj.TOi1 (cT oF dj.TOz gq);refine ak (kn gq2 rfl (ak (wpAny_updateSeq_pair gq2 fun m3 Yo Ld=>?_)));replace Yo:IsPair m3 tq x b:=Yo;refine ak (wpAny_letGo (wpAny_pure ?_));refine ak (ak (wpAny_onRaise ?_));change wpAny _ _ (Builtin.SmallTypes.nextOf (.ref i2) >>= _) _ _ _;refine ak (tU (k8 (k8 (k8 r2 oF dj.i2z) oG dj.i12.symm) Ld dj.TOi2.symm) (Hw (Hw (Hw g2 oF dj.l2z) oG dj.l2i1) Ld dj.l2TO) ey fun m4 r24 Tz=>wpAny_pure ?_);have gq4:IsPair m4 tq x b:=cT Tz dj.TOi2 Yo;refine ak (kn gq4 rfl (ak (wpAny_updateSeq_pair gq4 fun m5 Wo TC=>?_)));replace Wo:IsPair m5 tq x y:=Wo;refine ak (wpAny_letGo (wpAny_pure (wpAny_pure ?_)));refine ak (kn Wo rfl (ak (wpAny_newTuple ?_)));have sz:m5.objs.size=s.heap.objs.size:=by rw[TC.1,Tz.1,Ld.1,oG.1,oF.1]
 have gz5:IsZip m5 z ti tq .ellipsis:=cT TC dj.TOz.symm (cT Tz dj.i2z.symm (cT Ld dj.TOz.symm (cT oG dj.i1z.symm Lc)));have kp5:∀c o,c≠z->c≠tq->c≠i1->c≠i2->s.heap.get? c=some o->m5.get? c=some o:=fun c o c1 c2 c3 c4 e=>
  cT TC c2 (cT Tz c4 (cT Ld c2 (cT oG c3 (cT oF c1 e))))
 have r15:gY ka m5 i1 t1 (k+1):=k8 (k8 (k8 r12 Ld dj.TOi1.symm) Tz dj.i12) TC dj.TOi1.symm;have r25:gY kb m5 i2 t2 (k+1):=k8 r24 TC dj.TOi2.symm;have zl:z<m5.objs.size:=aO gz5;change wpAny _ _ (Builtin.SmallTypes.ownedTupleHandOut (.ref z) (.ref m5.objs.size) >>= _) _ _ _;refine ak ?_;unfold Builtin.SmallTypes.ownedTupleHandOut;have gz6:IsZip (m5.push { cls:=.type "tuple",data:=.seq #[x,y] }) z ti tq .ellipsis:=bz _ gz5;refine ak (kh gz6 (by simp) fun m7 Yp sb7=>?_);replace Yp:IsZip m7 z ti tq (rawInt m5.objs.size):=Yp;refine kh Yp (by simp) fun m8 Wp sb8=>?_;replace Wp:IsZip m8 z ti tq (rawInt m5.objs.size):=Wp;have up:∀c o,c≠z->m5.get? c=some o->m8.get? c=some o:=fun c o c1 e=>cT sb8 c1 (cT sb7 c1 (bz _ e));have gp8:IsPair m8 m5.objs.size x y:=cT sb8 (gw zl) (cT sb7 (gw zl) (b_ _ rfl));rw[sz] at Wp gp8;refine wpAny_pure ⟨_,rfl,?_⟩;change Q (.ref m5.objs.size) _;rw[sz];exact q m8 Wp (up _ _ dj.TOz Wo) (r15.at fun o e=>up _ o dj.i1z e) (r25.at fun o e=>up _ o dj.i2z e) gp8 fun c o c1 c2 c3 c4 e=>up c o c1 (kp5 c o c1 c2 c3 c4 e)
theorem HK{z ti tq i1 i2 t1 t2:Addr}{k:Nat}{xs:Array Value}{Q:PySem.Fin->Shared->Prop}(hh:A.handled=none)(dj:ZipApart z ti tq i1 i2 t1 t2)(gz:IsZip s.heap z ti tq .none)(gi:IsPair s.heap ti (.ref i1) (.ref i2))(r1:gY ka s.heap i1 t1 k)(g1:xC ka s.heap t1 xs)(ex:xs[k]?=none)(q:∀h' e,(∀c o,c≠z->c≠i1->s.heap.get? c=some o->h'.get? c=some o)->(∃o,h'.get? e=some o/\o.cls=.type "StopIteration")->E (.ref e) { s with heap:=h' }):
  wpAny (model prog w) A (Builtin.«zip.__next__» ⟨[.ref z],[]⟩) Q E s:=by
 change wpAny _ _ (field (.ref z) 2 >>= _) _ _ _;refine ak (d0 gz rfl (x:=.bool false) rfl ?_);change wpAny _ _ (field (.ref z) 3 >>= _) _ _ _;refine ak (d0 gz rfl (x:=.ref ti) rfl (ak (kn gi rfl ?_)));change wpAny _ _ (Builtin.SmallTypes.ownedTupleIsFree (.ref z) >>= _) _ _ _;refine ak ?_;unfold Builtin.SmallTypes.ownedTupleIsFree;refine ak (d0 gz rfl (x:=.none) rfl (wpAny_pure ?_));simp only[mE];refine ak (wpAny_rule (ak (d0 gz rfl (x:=.ref tq) rfl ?_)));refine ak (kh gz (by simp) fun m1 Lc oF=>?_);replace Lc:IsZip m1 z ti tq .ellipsis:=Lc;refine ak ?_;simp only[zV,List.zipIdx_nil,vU,vW];refine ak (ak (wpAny_onRaise ?_));change wpAny _ _ (Builtin.SmallTypes.nextOf (.ref i1) >>= _) _ _ _;refine ak (Ev hh (k8 r1 oF dj.i1z) (Hw g1 oF dj.l1z) ex fun m2 e oG he=>?_);obtain⟨oe,Yq,hce⟩:=he;have Wq:IsZip m2 z ti tq .ellipsis:=oG _ _ dj.i1z.symm Lc;have nez:e≠z:=fun y=>by subst y;rw[Wq] at Yq;cases Yq;simp at hce
 exact kh Wq (by simp) fun m3 _ Ld=>q m3 e (fun c o c1 c3 y=>cT Ld c1 (oG _ _ c3 (cT oF c1 y))) ⟨oe,cT Ld nez Yq,hce⟩
theorem Bb{z ti tq i1 i2 t1 t2:Addr}{k:Nat}{xs ys:Array Value}{x y a b:Value}{Q:Option Value->Shared->Prop}(dj:ZipApart z ti tq i1 i2 t1 t2)(gz:IsZip s.heap z ti tq .none)(gi:IsPair s.heap ti (.ref i1) (.ref i2))(gq:IsPair s.heap tq a b)(r1:gY ka s.heap i1 t1 k)(r2:gY kb s.heap i2 t2 k)(g1:xC ka s.heap t1 xs)(g2:xC kb s.heap t2 ys)(ex:xs[k]?=some x)(ey:ys[k]?=some y)(q:∀h',IsZip h' z ti tq (rawInt s.heap.objs.size)->IsPair h' tq x y->gY ka h' i1 t1 (k+1)->gY kb h' i2 t2 (k+1)->IsPair h' s.heap.objs.size x y->(∀c o,c≠z->c≠tq->c≠i1->c≠i2->s.heap.get? c=some o->h'.get? c=some o)->Q (some (.ref s.heap.objs.size)) { s with heap:=h' }):
  wpAny (model prog w) A (pyNext (.ref z)) Q E s:=by
 have ty:s.TypeIs (.ref z) "zip":=⟨_,gz,rfl⟩
 unfold pyNext;refine ak (mB (lS (name:=Str.ofString "__next__") ty F.slot_zip_next (h_ F.slot_zip_next ty F.entry_zip_next ?_ (F.args_zip_next_1 _))));exact Ew dj gz gi gq r1 r2 g1 g2 ex ey fun h' a1 a2 a3 a4 a5 a6=>wpAny_pure (q h' a1 a2 a3 a4 a5 a6)
theorem Bc{z ti tq i1 i2 t1 t2:Addr}{k:Nat}{xs:Array Value}{Q:Option Value->Shared->Prop}(hh:A.handled=none)(dj:ZipApart z ti tq i1 i2 t1 t2)(gz:IsZip s.heap z ti tq .none)(gi:IsPair s.heap ti (.ref i1) (.ref i2))(r1:gY ka s.heap i1 t1 k)(g1:xC ka s.heap t1 xs)(ex:xs[k]?=none)(q:∀h',(∀c o,c≠z->c≠i1->s.heap.get? c=some o->h'.get? c=some o)->Q none { s with heap:=h' }):wpAny (model prog w) A (pyNext (.ref z)) Q E s:=by
 have ty:s.TypeIs (.ref z) "zip":=⟨_,gz,rfl⟩
 unfold pyNext;refine ak (mB (lS (name:=Str.ofString "__next__") ty F.slot_zip_next (h_ F.slot_zip_next ty F.entry_zip_next (HK hh dj gz gi r1 g1 ex fun h' e hk he=>?_) (F.args_zip_next_1 _))));obtain⟨o,ho,hc⟩:=he;exact ak (rN (T:="StopIteration") (b:=true) ⟨o,ho,hc⟩ v_ (wpAny_pure (q _ hk)))
abbrev zQ(k:Bool)(t:Addr):Obj:={ cls:=.type (zI k),data:=.fields #[.ref t,.int 0 0] }
abbrev Wr(k j:Bool)(h:Heap)(t1 t2:Addr):Heap:=((h.push (zQ k t1)).push (zQ j t2)).push { cls:=.type "tuple",data:=.seq #[.ref h.objs.size,.ref (h.push (zQ k t1)).objs.size] }
abbrev Ws(k j:Bool)(h:Heap)(t1 t2:Addr):Heap:=(Wr k j h t1 t2).push { cls:=.type "tuple",data:=.seq #[.none,.none] }
abbrev Rm(k j:Bool)(h:Heap)(t1 t2:Addr):Heap:=(Ws k j h t1 t2).push { cls:=.type "zip",data:=.fields #[.none,.bool false,.bool false,.ref ((h.push (zQ k t1)).push (zQ j t2)).objs.size,.ref (Wr k j h t1 t2).objs.size] }
theorem HL(t1 t2:Addr)(xs ys:Array Value):
  Meets (Builtin.«zip.__new__» ⟨[.type "zip",.ref t1,.ref t2],[]⟩) (fun _ R s=>xC ka s.heap t1 xs/\xC kb s.heap t2 ys/\R (.ok (.ret (.ref (Ws ka kb s.heap t1 t2).objs.size))) { s with heap:=Rm ka kb s.heap t1 t2 }):=
 .of_wp fun prog w A R s h=>by
  obtain⟨hp,g,d,tk,os⟩:=s;obtain⟨g1,g2,h⟩:=h;have Yr:=sub_zip;have gA:xC ka (Shared.heap ⟨hp,g,d,tk,os⟩) t1 xs:=g1;have gB:xC kb (Shared.heap ⟨hp.push (zQ ka t1),g,d,tk,os⟩) t2 ys:=let ⟨o,e,z⟩:=g2;⟨o,bz _ e,z⟩
  wp_walk using k_ gA,k_ gB
  exact⟨_,rfl,h⟩
theorem Ey{t1 t2:Addr}{xs ys:Array Value}{Q:Value->Shared->Prop}(g1:xC ka s.heap t1 xs)(g2:xC kb s.heap t2 ys)(q:∀h',IsZip h' (s.heap.objs.size+4) (s.heap.objs.size+2) (s.heap.objs.size+3) .none->IsPair h' (s.heap.objs.size+2) (.ref s.heap.objs.size) (.ref (s.heap.objs.size+1))->IsPair h' (s.heap.objs.size+3) .none .none->
   gY ka h' s.heap.objs.size t1 0->gY kb h' (s.heap.objs.size+1) t2 0->(∀c o,s.heap.get? c=some o->h'.get? c=some o)->Q (.ref (s.heap.objs.size+4)) { s with heap:=h' }):
  wpAny (model prog w) A (call (.type "zip") [.ref t1,.ref t2]) Q E s:=by
 refine callType_new F.called_zip (by decide) (F.typeCall_zip_2 _ _) (F.newCall_zip_2 _ _) (fun obj=>F.args_object_init_3 obj _ _) F.entry_zip_new (HL t1 t2 xs ys) ⟨g1,g2,?_⟩;have n1:(s.heap.push (zQ ka t1)).objs.size=s.heap.objs.size+1:=ie ..;have n2:((s.heap.push (zQ ka t1)).push (zQ kb t2)).objs.size=s.heap.objs.size+2:=by rw[ie,n1]
 have n3:(Wr ka kb s.heap t1 t2).objs.size=s.heap.objs.size+3:=by rw[ie,n2]
 have n4:(Ws ka kb s.heap t1 t2).objs.size=s.heap.objs.size+4:=by rw[ie,n3]
 have e5:(Rm ka kb s.heap t1 t2).get? (Ws ka kb s.heap t1 t2).objs.size=some _:=b_ _ rfl;have e4:(Rm ka kb s.heap t1 t2).get? (Wr ka kb s.heap t1 t2).objs.size=some _:=bz _ (b_ _ rfl);have e3:(Rm ka kb s.heap t1 t2).get? ((s.heap.push (zQ ka t1)).push (zQ kb t2)).objs.size=some _:=bz _ (bz _ (b_ _ rfl));have e2:(Rm ka kb s.heap t1 t2).get? (s.heap.push (zQ ka t1)).objs.size=some _:=bz _ (bz _ (bz _ (b_ _ rfl)));have e1:(Rm ka kb s.heap t1 t2).get? s.heap.objs.size=some _:=bz _ (bz _ (bz _ (bz _ (b_ _ rfl))));change _/\_;rw[n2,n3,n4] at e5;rw[n1,n2] at e3;rw[n3] at e4;rw[n1] at e2;rw[n4];exact⟨⟨_,e5,rfl⟩,q _ e5 e3 e4 ⟨_,e1,rfl,rfl⟩ ⟨_,e2,rfl,rfl⟩ fun c o y=>
  bz _ (bz _ (bz _ (bz _ (bz _ y))))⟩
end
def Bd(ka kb:Bool)(K:PySem.W.Frag)(a b:Addr):It:=
 ⟨fun i H=>∃xs ys x y,CW ka K H a xs/\CW kb K H b ys/\xs[i]?=some x/\ys[i]?=some y,fun i H v H'=>∃p x y,v=.ref p/\H p=none/\H'=upd H p (.tup [x,y])/\(∀xs,CW ka K H a xs->xs[i]?=some x)/\∀ys,CW kb K H b ys->ys[i]?=some y,fun i H=>∃xs,CW ka K H a xs/\xs.length<=i,fun _ _=>False⟩
theorem Ez{P:Program}{w:World}{K:PySem.W.Frag}{es:List Expr}{x1:Nat}{pos:Pos}(a b z ti tq i1 i2:Addr)(dj:ZipApart z ti tq i1 i2 a b):
  qm P w K (.Tuple es x1 pos) (Bd ka kb K a b) [z,ti,tq,i1,i2] z (fun i h=>IsZip h z ti tq .none/\IsPair h ti (.ref i1) (.ref i2)/\(∃u v,IsPair h tq u v)/\gY ka h i1 a i/\gY kb h i2 b i) where
 mem:=by simp
 obj:=fun i h st c hc=>by
  obtain⟨gz,gi,⟨u,v,gq⟩,⟨o1,q1,c1,d1⟩,⟨o2,q2,c2,d2⟩⟩:=st;simp only[ba,iH,kB] at hc;rcases hc with rfl|rfl|rfl|rfl|rfl
  .exact⟨_,gz,fun v z=>by have z':Data.fields _=Data.cell v:=z;cases z'⟩
  .exact⟨_,gi,fun v z=>by have z':Data.seq _ _=Data.cell v:=z;cases z'⟩
  .exact⟨_,gq,fun v z=>by have z':Data.seq _ _=Data.cell v:=z;cases z'⟩
  .exact⟨o1,q1,fun v z=>by rw[d1] at z;cases z⟩
  .exact⟨o2,q2,fun v z=>by rw[d2] at z;cases z⟩
 keep:=fun i h h' st k=>by
  obtain⟨gz,gi,⟨u,v,gq⟩,r1,r2⟩:=st;exact⟨k z (by simp) _ gz,k ti (by simp) _ gi,⟨u,v,k tq (by simp) _ gq⟩,r1.at fun o q=>k i1 (by simp) o q,r2.at fun o q=>k i2 (by simp) o q⟩
 item:=by
  intro X hP hw hK i ae s σ H E ux I hf st hg;subst hP hw hK;have hc:X.calm=true:=ux.elim id fun z=>(show False from z).elim;obtain⟨xs,ys,x,y,hx,hy,ex,ey⟩:=hg;obtain⟨us,rx,px,_⟩:=I.q hx;obtain⟨vs,ry,py,_⟩:=I.q hy;obtain⟨u,hu,ru⟩:=rx.get ex;obtain⟨v,hv,rv⟩:=ry.get ey;obtain⟨gz,gi,⟨u0,v0,gq⟩,r1,r2⟩:=st;refine Bb dj gz gi gq r1 r2 px py (x:=u) (y:=v) (by simpa using hu) (by simpa using hv) fun h1 Lc gq1 r11 r21 gp1 kp=>?_;refine⟨_,rfl,wpAny_letOwnedTupleGo_zip Lc fun h2 Wq oG=>?_⟩;have zl:z<s.heap.objs.size:=aO gz;have nz:s.heap.objs.size≠z:=gw zl;have kp2:∀c o,c∉[z,tq,i1,i2]->s.heap.get? c=some o->h2.get? c=some o:=fun c o hc e=>by
   simp only[ba,iH,kB,jB] at hc;exact cT oG hc.1 (kp c o hc.1 hc.2.1 hc.2.2.1 hc.2.2.2 e)
  have gi2:IsPair h2 ti (.ref i1) (.ref i2):=kp2 _ _ (by simp only[ba,iH,kB,jB];exact⟨dj.TIz,dj.TITO,dj.TIi1,dj.TIi2⟩) gi;have fe:∀e∈[z,tq,i1,i2],gs X ae H e:=fun e he=>hf e (by simp only[ba,iH,kB] at he |-;rcases he with h|h|h|h <;> simp[h]);have I2:aI X ae σ (upd H s.heap.objs.size (.tup [x,y])) { s with heap:=h2,toks:=s.toks }:=
   I.KD (its:=[u,v]) fe kp2 (aW _) (by show 2<=sizeLine;decide) (.cons ru (.cons rv .nil)) (cT oG nz gp1)
  refine⟨.ref s.heap.objs.size,_,I2,rfl,⟨_,x,y,rfl,I.ck.fresh (aW _),rfl,fun zs hz=>by rw[I.M6 hz hx];exact ex,fun zs hz=>by rw[I.M6 hz hy];exact ey⟩,⟨Wq,gi2,⟨u,v,cT oG dj.TOz gq1⟩,k8 r11 oG dj.i1z,k8 r21 oG dj.i2z⟩,fun c hc=>?_⟩;have f0:=(hf c hc).1;have cl:c<s.heap.objs.size:=by
   simp only[ba,iH,kB] at hc;rcases hc with rfl|rfl|rfl|rfl|rfl
   .exact zl
   .exact aO gi
   .exact aO gq
   .obtain⟨o,q,_⟩:=r1;exact aO q
   .obtain⟨o,q,_⟩:=r2;exact aO q
  rw[al (aX cl)];exact f0
 done:=by
  intro X hP hw hK i ae s σ H E ux I hf st hg;subst hP hw hK;have hc:X.calm=true:=ux.elim id fun z=>(show False from z).elim;obtain⟨xs,hx,hi⟩:=hg;obtain⟨us,rx,px,_⟩:=I.q hx;obtain⟨gz,gi,⟨u0,v0,gq⟩,r1,r2⟩:=st;have hl:=rx.length;refine Bc (I.ok.hd hc) dj gz gi r1 px (by simp;lia) fun h' kp=>⟨rfl,?_⟩
  have fe:∀e∈[z,i1],gs X ae H e:=fun e he=>hf e (by simp only[ba,iH,kB] at he |-;rcases he with h|h <;> simp[h]);refine I.KC (t':=s.toks) fe fun c o hc e=>?_;simp only[ba,iH,kB,jB] at hc;exact kp c o hc.1 hc.2 e
 self:=fun _ _ _ _ _ st h=>wpAny_pyIter_zip st.1 h
section
variable {X:Cx}
def TD(ka kb:Bool)(K:PySem.W.Frag)(ta:TA):TI:=fun σ H R=>ta σ H fun vs H1=>∃a b xs ys,vs=[.ref a,.ref b]/\CW ka K H1 a xs/\CW kb K H1 b ys/\xs.length=ys.length/\R (Bd ka kb K a b) H1
theorem qZ{es:List Expr}{x1:Nat}{Dt:Pos}{a b:Expr}{ta:TA}{p pos:Pos}(hg:Gl X "zip")(hm:X.mg "zip"=none)(ha:PA X [a,b] ta)(hs:starEach [a,b] X.env=[(false,eval a X.env),(false,eval b X.env)]:=by rfl)(ww:starEach [b] X.env=[(false,eval b X.env)]:=by rfl):
  PI X (.Tuple es x1 Dt) (.Call (.Name "zip" p) [a,b] [] pos) (TD ka kb X.K ta):=by
 intro ae s σ H R I h;refine Call_ (kH I hg hm PyProof.Rows.boot_zip (rf (cz (ha pos ae s σ H _ I h) fun us s1 ⟨vs,H1,I1,r1,q1⟩=>?_) (by rw[hs,ww]) (by rw[ww];rfl)));obtain⟨l,m,xs,ys,rfl,hl,hm',Ox,q⟩:=q1;obtain⟨u1,u2,rfl,XJ,ru2⟩:=r1.two;obtain rfl:u1=Value.ref l:=XJ;obtain rfl:u2=Value.ref m:=ru2;obtain⟨its,rv,pt,_⟩:=I1.q hl;obtain⟨N0,rv2,QW,_⟩:=I1.q hm';have dt:l<s1.heap.objs.size:=by obtain⟨o,e,_⟩:=pt;exact aO e
 have HN:m<s1.heap.objs.size:=by obtain⟨o,e,_⟩:=QW;exact aO e
 refine Ey pt QW fun h' gz gi gq r1 r2 k=>?_;refine wpAny_pyIter_zip gz ?_;have I2:aI X ae σ H1 { s1 with heap:=h' }:=I1.kept (t':=s1.toks) k;refine⟨s1.heap.objs.size+4,[s1.heap.objs.size+4,s1.heap.objs.size+2,s1.heap.objs.size+3,s1.heap.objs.size,s1.heap.objs.size+1],_,_,H1,rfl,I2,Ez l m _ _ _ _ _ (zipApart_new dt HN),⟨gz,gi,⟨_,_,gq⟩,r1,r2⟩,fun b hb=>?_,q⟩;have jW:s1.heap.objs.size<=b:=by
  simp only[ba,iH,kB] at hb;rcases hb with rfl|rfl|rfl|rfl|rfl
  .exact vQ _ _
  .exact vQ _ _
  .exact vQ _ _
  .exact aW _
  .exact vQ _ _
 exact I1.wr jW (I1.ck.fresh jW)
theorem EA{K:PySem.W.Frag}{a b D:Addr}{xs ys:List V}{g:TG}{tt:TT}{te:TE}{fin:Hp->Prop}{σB:St}{H0:Hp}(Ox:xs.length=ys.length)(Pv:Nat->List V->St->Hp->Prop)(h0:Pv 0 [] σB H0)(hl:∀i zs σ H,i<=xs.length->Pv i zs σ H->CW ka K H a xs/\CW kb K H b ys)(hs:∀i x y p zs σ H (Kt:V->St->Hp->Prop) (Kf:St->Hp->Prop),xs[i]?=some x->ys[i]?=some y->Pv i zs σ H->H p=none->
   (∀v σ2 H4,H4 D=some (.lst zs)->zs.length<sizeLine->Pv (i+1) (zs++[v]) σ2 (upd H4 D (.lst (zs++[v])))->Kt v σ2 H4)->(∀σ2 H3,Pv (i+1) zs σ2 H3->Kf σ2 H3)->
   g (.ref p) σ (upd H p (.tup [x,y])) fun σ2 H2=>tt σ2 H2 fun b H3=>if b=true then te σ2 H3 fun v H4=>Kt v σ2 H4 else Kf σ2 H3)(hd:∀zs σ H,Pv xs.length zs σ H->fin H):gR (Bd ka kb K a b) g tt te D fin σB H0:=by
 refine⟨fun i m σ H=>m=xs.length-i/\i<=xs.length/\∃zs,Pv i zs σ H,⟨xs.length,by simp,cF _,[],h0⟩,?_⟩;rintro i m σ H ⟨rfl,hi,zs,p⟩;obtain⟨q1,q2⟩:=hl i zs σ H hi p;by_cases dt:i<xs.length
 .have HN:i<ys.length:=by lia
  refine .inr ⟨⟨xs,ys,xs[i],ys[i],q1,q2,by simp[dt],by simp[HN]⟩,?_⟩;rintro v H' ⟨pp,x,y,rfl,hn,rfl,Oh,Ys⟩;exact hs i x y pp zs σ _ (fun v σ2 H4=>∃zs,H4 D=some (.lst zs)/\zs.length<sizeLine/\∃m',m'<xs.length-i/\m'=xs.length-(i+1)/\i+1<=xs.length/\∃qW,Pv (i+1) qW σ2 (upd H4 D (.lst (zs++[v]))))
   (fun σ2 H3=>∃m',m'<xs.length-i/\m'=xs.length-(i+1)/\i+1<=xs.length/\∃qW,Pv (i+1) qW σ2 H3) (Oh xs q1) (Ys ys q2) p hn
   (fun v σ2 H4 z1 z2 z3=>⟨zs,z1,z2,_,by lia,rfl,dt,_,z3⟩) (fun σ2 H3 z=>⟨_,by lia,rfl,dt,_,z⟩)
 .have e:i=xs.length:=by lia
  subst e;exact .inl ⟨⟨xs,q1,aW _⟩,hd zs σ H p⟩
end
theorem Le{X:Cx}:RU X .FloorDiv (fun x y H Q=>∃i j,x=.int i/\y=.int j/\NK i j/\Q (.int (i / j)) H):=by
 intro ae s σ H x y v u Q I r1 r2 h;exact FB ae s σ H x y v u Q I r1 r2 h
end L2
namespace tu
open PySem L2 jJ
abbrev Lf:Stmt:=eU (fA 50) 0
abbrev OW:Stmt:=eU (fA 50) 3
abbrev OX:Stmt:=eU (fA 50) 4
abbrev OY:Stmt:=eU (fA 50) 6
abbrev OZ:Stmt:=eU (fA 50) 7
abbrev O0:Stmt:=eU (fA 50) 8
abbrev Yt:Stmt:=fA 45
structure Bx(ns:List Nat):Prop where
 l1:1<=ns.length
 l5:ns.length<=5
 sd:∀x∈ns,2<=x/\x<=8
 Rn:pr ns<=32
theorem Bx.pos{ns:List Nat}(B:Bx ns):∀x∈ns,0<x:=fun x hx=>by have:=B.sd x hx;lia
theorem Bx.gd{ns:List Nat}(B:Bx ns){i:Nat}(h:i<ns.length):2<=ns.getD i 0/\ns.getD i 0<=8:=by
 rw[cr,cU h];exact B.sd _ (iI _)
abbrev jq(ns:List Nat):Ts:=nC ((jM ns).map qT)
structure CZ(K:PySem.W.Frag)(mg:Str->Option Value)(CB:Addr):Prop where
 cl:EZ K CB
 nN:gG K CB "tied_net"
 nS:gG K CB "side_row"
 XW:mg "Box"=some (.ref CB)
def C0(pn sr:Addr):List (Str×V):=du "side_row" (.ref sr) (du "tied_net" (.ref pn) [])
theorem nNS:¬ (("tied_net":Str)="side_row"):=by decide +kernel
theorem HP{pn sr:Addr}:(C0 pn sr).lookup ("tied_net":Str)=some (.ref pn):=by unfold C0;rw[aZ,ap nNS,aZ,ai rfl]
theorem C1{pn sr:Addr}:(C0 pn sr).lookup ("side_row":Str)=some (.ref sr):=by unfold C0;rw[aZ,ai rfl]
theorem nj{pn sr:Addr}{m:Str}(h1:¬ m="tied_net")(h2:¬ m="side_row"):(C0 pn sr).lookup m=none:=by unfold C0;rw[aZ,ap h2,aZ,ap h1];rfl
structure eF(C CB:Addr)(H:Hp)(L:Addr->Prop)(b:Addr)(ns:List Nat):Prop where
 bx:Bx ns
 ob:∃dx pn sr,H b=some (.ins CB dx (C0 pn sr))/\gU C H L pn (pr ns) (jq ns)/\H sr=some (.tup (NV ns))
theorem eF.same{C CB b:Addr}{H H':Hp}{L:Addr->Prop}{ns:List Nat}(h:eF C CB H L b ns)(s:aA H H'):eF C CB H' L b ns:=
 let ⟨dx,pn,sr,a,c,d⟩:=h.ob
 ⟨h.bx,dx,pn,sr,s _ _ a,c.same s,s _ _ d⟩
abbrev Be(K:PySem.W.Frag)(H:Hp)(x:V)(o:Option Int):Prop:=∀H',aA H H'->Wh K H' x o
theorem f_{ns:List Nat}{h i:Nat}(hi:i<ns.length):(NV (bQ ns h))[i]?=some (.int (((bQ ns h).getD i 0:Nat):Int)):=by
 have:i<(bQ ns h).length:=by rw[eH];exact hi
 rw[bL,cU this,cr,cU this];rfl
section
variable {P:Program} {w:World} {K:PySem.W.Frag} {mg:Str->Option Value} {base:Heap}
theorem TF:aD ["self","sides"] ["self","sides"] (am Lf):=⟨rfl,rfl,rfl,by decide +kernel,rfl,by decide +kernel,by decide +kernel⟩
def HQ(C CB Pt:Addr):Sp:=fun vs H Q _=>∃ (b dx sr:Addr) (ns:List Nat),vs=[.ref b,.ref sr]/\H b=some (.ins CB dx [])/\H sr=some (.tup (NV ns))/\Bx ns/\nE Pt H/\
 ∀H',eF C CB H' (fun a=>H a=none) b ns->nE Pt H'->lZ b Pt H H'->Q .bR H'
theorem HR{ns:List Nat}(B:Bx ns):box (some (ns.map fun (n:Nat)=>some (n:Int)))=some ns:=by
 have e:j3 (ns.map fun (n:Nat)=>some (n:Int))=ns:=by
  unfold j3;rw[fh];conv=>rhs;rw[<-jz ns]
  exact lT fun n _=>rfl
 unfold box;dsimp only;rw[e,ai];rw[aP,aT B.l1,aT B.l5,aT B.Rn,Ab,Bool.true_and,Bool.true_and,j_];intro o ho;obtain⟨n,hn,rfl⟩:=a9.mp ho;have:=B.sd n hn;unfold bf;simp;lia
theorem TH{H:Hp}{a:Addr}{ns:List Nat}(h:H a=some (.tup (NV ns))):Sd K H (.ref a) (some (ns.map fun (n:Nat)=>some (n:Int))):=by
 refine .tup h (by rw[aP,aP]) fun i x o hx ho=>?_;obtain⟨n,hn,rfl⟩:=qi hx;rw[bL,hn] at ho;cases ho;exact .int _
theorem O1{f C CB CS Pt:Addr}{fd:FuncData}(F:eM K "__init__" "Box.__init__" Lf f fd)(B:Bl mg)(TB:CZ K mg CB)(BN:cq P w K mg base (iw P w) 10 "box_net" ["sides"] (A_ K C Pt CS)):bn P w K mg base a7 11 f fd ["self","sides"] (HQ C CB Pt):=by
 refine F.ok TF (fun vs H Q E h=>?_) (fun dz A outer s H vs Q E hr h=>?_)
 .obtain⟨b,dx,sr,ns,rfl,_⟩:=h;rfl
 .obtain⟨b,dx,sr,ns,rfl,hb,gZ,BX,tb,q⟩:=h;refine⟨_,ag (pD (pv 0) (az BN hr jj (aa (pv 1) af)) rfl)
   (aj (pD (pv 0) (bW ce (by rfl) B.tup jQ (aa (pv 1) af)) rfl)),?_⟩
  refine⟨_,rfl,_,_,rfl,TH gZ,tb,(fun z=>by rw[HR BX] at z;cases z),fun HU e pn H1 npn N1 t1 s1=>?_⟩;rw[HR BX] at e;cases e;have nb:b≠Pt:=tb.not hb (by intro ps z;cases z);have TJ:sr≠b:=by rintro rfl;rw[hb] at gZ;cases gZ
  have M2:=s1 _ _ hb nb;refine⟨_,rfl,b,CB,dx,_,rfl,M2,TB.cl,TB.nN,by show 0<1000;decide,?_⟩;have TN:=s1 _ _ gZ (tb.not gZ (by intro ps z;cases z));refine⟨_,rfl,sr,_,rfl,.inr ⟨bp.of (by rw[al TJ];exact TN),?_⟩⟩;refine⟨_,rfl,b,CB,dx,_,rfl,ah,TB.cl,TB.nS,by show 1<1000;decide,?_⟩;have kp:∀c o,c≠b->H1 c=some o->(upd (upd H1 b (.ins CB dx (du "tied_net" (.ref pn) []))) b (.ins CB dx (du "side_row" (.ref sr) (du "tied_net" (.ref pn) [])))) c=some o:=fun c o n e=>by rw[al n,al n];exact e
  refine q _ ⟨BX,dx,pn,sr,ah,N1.keep (fun c o l e=>kp c o (by rintro rfl;rw[hb] at l;cases l) e) (fun o e=>kp pn o (by rintro rfl;rw[hb] at npn;cases npn) e),kp _ _ TJ TN⟩ ?_ (fun c o e n1 n2=>kp c o n1 (s1 _ _ e n2));rcases t1 with z|⟨c,z,y⟩
  .exact .inl (kp _ _ nb.symm z)
  .exact .inr ⟨c,kp _ _ nb.symm z,kp _ _ (by rintro rfl;rw[M2] at y;cases y) y⟩
end
theorem ot{pn sr:Addr}:(C0 pn sr).lookup ("place":Str)=none:=nj (by decide +kernel) (by decide +kernel)
theorem HV{pn sr:Addr}:(C0 pn sr).lookup ("house":Str)=none:=nj (by decide +kernel) (by decide +kernel)
theorem tV{pn sr:Addr}:(C0 pn sr).lookup ("phase":Str)=none:=nj (by decide +kernel) (by decide +kernel)
theorem HW{ns:List Nat}(h:∀x∈ns,0<x):0<pr ns:=by
 induction ns with
 |nil=>exact Nat.one_pos
 |cons n ns ih=>exact o0 (h n bG) (ih fun x hx=>h x (bJ _ hx))
theorem Lg{K:PySem.W.Frag}{a b:Addr}{xs ys:List V}{g:TG}{tb:TS}{D:wg}{σ:St}{H:Hp}(Ox:xs.length=ys.length)(Pv:Nat->St->Hp->Prop)(h0:Pv 0 σ H)(hl:∀i σ H,i<=xs.length->Pv i σ H->bp K H a xs/\bp K H b ys)(hs:∀i x y p σ H,xs[i]?=some x->ys[i]?=some y->Pv i σ H->H p=none->g (.ref p) σ (upd H p (.tup [x,y])) fun σ2 H2=>tb { D with nx:=Pv (i+1),ct:=Pv (i+1),bk:=D.nx } σ2 H2)(hd:∀σ H,Pv xs.length σ H->D.nx σ H):
  ∃W:Nat->Nat->St->Hp->Prop,(∃m,W 0 m σ H)/\∀i m σ H,W i m σ H->
   ((Bd false false K a b).stop i H/\D.nx σ H)\/((Bd false false K a b).go i H/\∃N:St->Hp->Prop,(∀σ' H',N σ' H'->∃m',m'<m/\W (i+1) m' σ' H')/\∀x H',(Bd false false K a b).Jr i H x H'->g x σ H' fun σ2 H2=>tb { D with nx:=N,ct:=N,bk:=D.nx } σ2 H2):=by
 refine⟨fun i m σ H=>m=xs.length-i/\i<=xs.length/\Pv i σ H,⟨xs.length,by simp,cF _,h0⟩,?_⟩;rintro i m σ H ⟨rfl,hi,p⟩;obtain⟨q1,q2⟩:=hl i σ H hi p;by_cases dt:i<xs.length
 .have HN:i<ys.length:=by lia
  refine .inr ⟨⟨xs,ys,xs[i],ys[i],q1,q2,by simp[dt],by simp[HN]⟩,Pv (i+1),fun σ' H' p'=>⟨xs.length-(i+1),by lia,rfl,dt,p'⟩,?_⟩;rintro v H' ⟨pp,x,y,rfl,hn,rfl,Oh,Ys⟩;exact hs i x y pp σ _ (Oh xs q1) (Ys ys q2) p hn
 .have e:i=xs.length:=by lia
  subst e;exact .inl ⟨⟨xs,q1,aW _⟩,hd σ H p⟩
section
variable {P:Program} {w:World} {K:PySem.W.Frag} {mg:Str->Option Value} {base:Heap}
theorem C2:aD ["self","house","numbers","side"] ["self","house"] (am OW):=⟨rfl,rfl,rfl,by decide +kernel,rfl,by decide +kernel,by decide +kernel⟩
def C3(K:PySem.W.Frag)(C CB CE:Addr):Sp:=fun vs H Q E=>∃ (L:Addr->Prop) (b:Addr) (ns:List Nat) (x:V) (o:Option Int),vs=[.ref b,x]/\eF C CB H L b ns/\Wh K H x o/\(bf o 0 ((pr ns:Int)-1)=false->E (.ref CE) none H)/\∀h:Nat,h<pr ns->o=some (h:Int)->∀ (t:Addr) (H':Hp),aA H H'->H' t=some (.tup (NV (bQ ns h)))->Q (.ref t) H'
theorem O2{f C CB CE:Addr}{fd:FuncData}(F:eM K "place" "Box.place" OW f fd)(B:Bl mg)(T:NT K mg C)(TB:CZ K mg CB)(M:fc P w K mg base (iw P w) 4 C "check_house" ["self","thing"] (qX K C CE)):bn P w K mg base (iw P w) 5 f fd ["self","house"] (C3 K C CB CE):=by
 obtain⟨fM,Wd,mM,bM,GM⟩:=M.ex;refine F.Mt C2 (fun vs H Q E h=>?_) (fun dz A outer s H vs Q E hr h=>?_)
 .obtain⟨L,b,ns,x,o,rfl,_⟩:=h;rfl
 .obtain⟨L,b,ns,x,o,rfl,⟨BX,dx,pn,sr,hb,N,gZ⟩,wh,k1,k2⟩:=h;obtain⟨Yu,tl,ol,ds,h1,_⟩:=N.ob;have l5:=BX.l5;refine⟨_,ag (bX (cL (gI (pv 0) rfl) T.cl mM GM hr bM .nil (uU (E':=E) fun _ _ _ z=>z) (aa (pv 1) af)))
   (ag (aN (i:=2) C2.nd rfl (Or.inl rfl) (eX af))
   (ag (cI N3 rfl (mU (gI (pv 0) rfl)) (au (i:=3) C2.nd rfl (Or.inl rfl))
    (ag (bX (ji jd j6 j5 dh (pv 2) (aa (bv jE (pv 1) (pv 3)) af)))
    (aj (pj (i:=1) C2.nd rfl (Or.inl rfl) (pv 3) Le))))
   (aj (aG (bW ce (by rfl) B.tup jQ (aa (pv 2) af)))))),?_⟩
  refine⟨_,rfl,b,CB,dx,_,_,rfl,hb,TB.cl,TB.nN,HP,pn,Yu,_,rfl,h1,Ta _ _ _ _,_,rfl,L,pn,pr ns,_,x,o,rfl,N,wh,k1,fun hw=>?_⟩;obtain⟨h,hh,rfl⟩:=fU hw;obtain rfl:=pT wh;refine⟨by show 0<=sizeLine;decide,fun D hD=>?_⟩;have s0:=ao (o:=.lst []) hD;refine⟨_,rfl,b,CB,dx,_,_,rfl,s0 _ _ hb,TB.cl,TB.nS,C1,sr,rfl,⟨_,bp.of (s0 _ _ gZ)⟩,lA (K:=K) (xs:=NV ns) (fun i σ H2=>(∃x,σ=[some (.ref b),some (.int ((h / pr (ns.take i):Nat):Int)),some (.ref D),x])/\aA H H2/\H2 D=some (.lst (NV (bQ (ns.take i) h)))) ⟨⟨_,by rw[List.take_zero];show _=[_,some (V.int ((h / 1:Nat):Int)),_,_];rw[o5];rfl⟩,s0,ah⟩ (fun i σ H2 _ z=>bp.of (z.2.1 _ _ gZ)) ?_ ?_⟩
  .rintro i x σ H2 hx ⟨⟨x',rfl⟩,sm,pV⟩;obtain⟨n,hv,rfl⟩:=qi hx;have hi:i<ns.length:=(dk.mp hv).1;have hnn:=BX.sd n (cZ hv);have tk:ns.take (i+1)=ns.take i++[n]:=by rw[iG,hv];rfl
   rw[tk,tR,jO];have dl:(bQ (ns.take i) h).length<=5:=by rw[eH,j9];lia
   refine⟨_,rfl,.inl ⟨rfl,_,br.of pV⟩,_,rfl,_,rfl,_,_,rfl,rfl,(by show (0:Int)<(n:Int);lia),D,_,_,rfl,rfl,pV,by rw[bi];exact fE dl (by decide),?_⟩;refine⟨_,rfl,_,rfl,_,_,rfl,rfl,⟨by lia,by lia⟩,⟨some (.int n),?_⟩,cy sm hD,?_⟩
   .rw[<-l_];rfl
   .rw[ah,<-iP];rfl
  .rintro σ H2 ⟨⟨x',rfl⟩,sm,pV⟩;rw[bi,gf] at pV;exact⟨_,rfl,D,_,rfl,.inl ⟨br.of pV,fun t ht=>k2 h hh rfl t _ (sm.trans (ao ht)) ah⟩⟩
theorem tW:aD ["self","place","total","step","number","side"] ["self","place"] (am OX):=⟨rfl,rfl,rfl,by decide +kernel,rfl,by decide +kernel,by decide +kernel⟩
def HX(C CB:Addr):Sp:=fun vs H Q _=>∃ (L:Addr->Prop) (b a:Addr) (ns es:List Nat),vs=[.ref b,.ref a]/\eF C CB H L b ns/\H a=some (.tup (NV es))/\es.length=ns.length/\(∀i,i<ns.length->es.getD i 0<ns.getD i 0)/\∀H',aA H H'->Q (.int (y6 ns es:Nat)) H'
theorem O4{f C CB:Addr}{fd:FuncData}(F:eM K "house" "Box.house" OX f fd)(B:Bl mg)(hz:mg "zip"=none)(TB:CZ K mg CB)(R:cq P w K mg base a7 1 "is_row" ["thing","length"] (vd K))(HO:cq P w K mg base a7 3 "is_house" ["many","thing"] (lE K)):bn P w K mg base a7 4 f fd ["self","place"] (HX C CB):=by
 refine F.ok tW (fun vs H Q E h=>?_) (fun dz A outer s H vs Q E hr h=>?_)
 .obtain⟨L,b,a,ns,es,rfl,_⟩:=h;rfl
 .obtain⟨L,b,a,ns,es,rfl,⟨BX,dx,pn,sr,hb,N,gZ⟩,ha,el,lt,q⟩:=h;have h1:bA 1 _:=hr.mono (by decide);have l5:=BX.l5;refine⟨_,ag (bE (dw (cR (az R h1 aE (aa (pv 1) (aa (aJ aF (by rfl) B.len dH (aa (gI (pv 0) rfl) af)) af))))) df aL)
   (ag (aN (i:=2) tW.nd rfl (Or.inl rfl) aB)
   (ag (aN (i:=3) tW.nd rfl (Or.inl rfl) aB)
   (ag (cI dQ rfl (qZ (ka:=false) (kb:=false) rfl hz (aa (pv 1) (aa (gI (pv 0) rfl) af))) (fj (n:=2) rfl (aV (au (i:=4) tW.nd rfl (Or.inl rfl)) (aV (au (i:=5) tW.nd rfl (Or.inl rfl)) d7)))
    (ag (bE (dw (cR (az HO hr aE (aa (pv 5) (aa (pv 4) af))))) df aL)
    (ag (pj (i:=2) tW.nd rfl (Or.inl rfl) (bv pz (pv 3) (pv 4)) Ag)
    (aj (pj (i:=3) tW.nd rfl (Or.inl rfl) (pv 5) A8)))))
   (aj (aG (pv 2)))))),?_⟩
  refine⟨_,rfl,_,rfl,b,CB,dx,_,_,rfl,hb,TB.cl,TB.nS,C1,sr,_,rfl,.inr (bp.of gZ),_,_,_,rfl,.tup ha,_,rfl,dE (by show (!decide (((NV es).length:Int)=((NV ns).length:Int)))=false;rw[bi,bi,el,aT rfl];rfl) ?_⟩;refine⟨_,rfl,_,rfl,b,CB,dx,_,_,rfl,hb,TB.cl,TB.nS,C1,a,sr,_,_,rfl,bp.of ha,bp.of gZ,by rw[bi,bi];lia,?_⟩;refine Lg (K:=K) (xs:=NV es) (ys:=NV ns) (by rw[bi,bi];exact el) (fun i σ H2=>(∃x4 x5,σ=[some (.ref b),some (.ref a),some (.int ((y6 (ns.take i) (es.take i):Nat):Int)),some (.int ((pr (ns.take i):Nat):Int)),x4,x5])/\aA H H2) ⟨⟨_,_,rfl⟩,aA.refl _⟩ (fun i σ H2 _ z=>⟨bp.of (z.2 _ _ ha),bp.of (z.2 _ _ gZ)⟩) ?_ ?_
  .rintro i x y pp σ H2 hx hy ⟨⟨x4,x5,rfl⟩,sm⟩ hpp;obtain⟨e,he,rfl⟩:=qi hx;obtain⟨n,hn,rfl⟩:=qi hy;have hi:i<ns.length:=(dk.mp hn).1;have l:=lt i hi;rw[cr,he,cr,hn] at l;have l:e<n:=l;have n8:=BX.sd n (cZ hn);have tk:ns.take (i+1)=ns.take i++[n]:=by rw[iG,hn];rfl
   have tk':es.take (i+1)=es.take i++[e]:=by rw[iG,he];rfl
   rw[tk,tk',yz (by rw[j9,j9,el]),jO];refine⟨pp,_,rfl,bp.of ah,rfl,_,_,rfl,_,_,rfl,rfl,?_⟩;refine⟨_,rfl,_,rfl,_,_,_,rfl,.int _,_,rfl,dE (by rw[cg l];rfl) ?_⟩;refine⟨_,rfl,_,rfl,_,rfl,_,_,rfl,rfl,.inr ⟨by lia,by lia⟩,_,_,rfl,rfl,?_⟩;refine⟨_,rfl,_,rfl,_,_,rfl,rfl,.inr ⟨by lia,by lia⟩,⟨_,_,rfl⟩,sm.trans (ao hpp)⟩
  .rintro σ H2 ⟨⟨x4,x5,rfl⟩,sm⟩;rw[bi,el,gf,<-el,gf];exact⟨_,rfl,q H2 sm⟩
end
def oV:Option Nat->V
 |none=>.bR
 |some y=>.int (y:Int)
theorem O5(n:Int)(tl ol ds:Addr):(uC n tl ol ds).lookup ("out":Str)=none:=wR n tl ol ds (by decide +kernel) (by decide +kernel) (by decide +kernel) (by decide +kernel)
theorem M7(n:Int)(tl ol ds:Addr):(uC n tl ol ds).lookup ("many":Str)=none:=wR n tl ol ds (by decide +kernel) (by decide +kernel) (by decide +kernel) (by decide +kernel)
def HY(ns:List Nat)(o o':Option Int):Bool:=bf o 0 ((pr ns:Int)-1)&&(bf o' 0 ((pr ns:Int)-1)&&decide ((o.getD 0,o'.getD 0)∈jq ns))
theorem HZ{n a b:Nat}{ts:Ts}(F:fR n ts)(ha:a<n):B_ (.int (b:Int)) (NV (dS n ts a))=decide (((a:Int),(b:Int))∈ts):=by
 rw[im,fD];refine Iff.trans ?_ (eR F ha);unfold B_;rw[vR];constructor
 .rintro⟨v,hv,e⟩;obtain⟨y,hy,rfl⟩:=a9.mp hv;have:(((y:Nat):Int)==(b:Int))=true\/((b:Int)==((y:Nat):Int))=true:=by first|exact .inl e|exact .inr e
  have:y=b:=by rcases this with t|t <;> simp at t <;> lia
  rw[<-this];exact hy
 .intro hy;exact⟨.int (b:Int),a9.mpr ⟨b,hy,rfl⟩,by show ((b:Int)==(b:Int))=true;simp⟩
theorem lI{xs:List Nat}:(NV xs).all ir=true:=j_.mpr fun x hx=>by obtain⟨y,_,rfl⟩:=a9.mp hx;rfl
theorem O6{ns:List Nat}{a b:Int}:(a,b)∈jq ns↔(b,a)∈jq ns:=⟨fun h=>by
 rcases f8.mp h with z|z
 .exact f8.mpr (.inr z)
 .exact f8.mpr (.inl z),fun h=>by
 rcases f8.mp h with z|z
 .exact f8.mpr (.inr z)
 .exact f8.mpr (.inl z)⟩
theorem TQ{ns:List Nat}{a b k:Nat}(hk:k<ns.length)(hj:∀j,j<k->(bQ ns a).getD j 0=(bQ ns b).getD j 0)(ne:(bQ ns a).getD k 0≠(bQ ns b).getD k 0):jb ns a b=some k:=
 List.find?_range_eq_some.mpr ⟨aT ne,cY.mpr hk,fun j h=>by rw[cW (fun z=>z (hj j h))];rfl⟩
theorem TR{ns:List Nat}{a b:Nat}(hj:∀j,j<ns.length->(bQ ns a).getD j 0=(bQ ns b).getD j 0):jb ns a b=none:=
 mj.mpr fun j h=>by simpa using hj j (cY.mp h)
section
variable {P:Program} {w:World} {K:PySem.W.Frag} {mg:Str->Option Value} {base:Heap}
theorem Yv:aD ["net","one","other"] ["net","one","other"] (am Yt):=⟨rfl,rfl,rfl,by decide +kernel,rfl,by decide +kernel,by decide +kernel⟩
def O7(K:PySem.W.Frag)(C:Addr):Sp:=fun vs H Q _=>∃ (L:Addr->Prop) (p:Addr) (ns:List Nat) (x y:V) (o o':Option Int),vs=[.ref p,x,y]/\gU C H L p (pr ns) (jq ns)/\Be K H x o/\Be K H y o'/\∀H',aA H H'->Q (.bl (HY ns o o')) H'
theorem TU{f C CE:Addr}{fd:FuncData}(F:eM K "are_tied" "are_tied" Yt f fd)(T:NT K mg C)(HO:cq P w K mg base a7 3 "is_house" ["many","thing"] (lE K))(MM:fc P w K mg base a7 1 C "many" ["self"] (A7 C))(MO:fc P w K mg base (iw P w) 5 C "out" ["self","house"] (CN K C CE KU)):bn P w K mg base a7 6 f fd ["net","one","other"] (O7 K C):=by
 obtain⟨fM,Wd,mM,bM,GM⟩:=MM.ex;obtain⟨fO,fdO,mO,bO,GO⟩:=MO.ex;refine F.ok Yv (fun vs H Q E h=>?_) (fun dz A outer s H vs Q E hr h=>?_)
 .obtain⟨L,p,ns,x,y,o,o',rfl,_⟩:=h;rfl
 .obtain⟨L,p,ns,x,y,o,o',rfl,N,wx,wy,q⟩:=h;have h1:bA 1 _:=hr.mono (by decide);have h3:bA 3 _:=hr.mono (by decide);refine⟨_,(ag (bE (PW.pt (xG (dw (cR (az HO h3 aE (aa (su (pv 0) T.cl mM GM h1 bM .nil aE) (aa (pv 1) af))))) (se (dw (cR (az HO h3 aE (aa (su (pv 0) T.cl mM GM h1 bM .nil aE) (aa (pv 2) af)))))))) (aj (aG kG)) aL)
   (aj (aG (kI (eT hU (pv 2) (cL (pv 0) T.cl mO GO hr bO .nil jj (aa (pv 1) af)) rfl) (mR (eT hU (pv 1) (cL (pv 0) T.cl mO GO hr bO .nil jj (aa (pv 2) af)) rfl)))))),?_⟩
  obtain⟨dx,tl,ol,ds,hN,_⟩:=N.ob;have Fi:=N.oo;refine⟨_,rfl,p,dx,_,rfl,hN,M7 _ _ _ _,L,p,pr ns,_,rfl,N,_,rfl,x,o,_,rfl,wx _ (aA.refl _),_,rfl,?_⟩;cases hw:bf o 0 ((pr ns:Int)-1) with
  |false=>exact gJ (gJ (by have:=q H (aA.refl _);unfold HY at this;rw[hw] at this;exact this))
  |true=>
  refine e_ ⟨_,rfl,p,dx,_,rfl,hN,M7 _ _ _ _,L,p,pr ns,_,rfl,N,_,rfl,y,o',_,rfl,wy _ (aA.refl _),_,rfl,?_⟩;cases Ed:bf o' 0 ((pr ns:Int)-1) with
  |false=>exact gJ (by have:=q H (aA.refl _);unfold HY at this;rw[hw,Ed] at this;exact this)
  |true=>
  refine e_ ?_;obtain⟨a,ha,rfl⟩:=fU hw;obtain⟨b,hb,rfl⟩:=fU Ed;obtain rfl:=pT (wx _ (aA.refl _));obtain rfl:=pT (wy _ (aA.refl _));refine⟨_,rfl,_,rfl,p,dx,_,rfl,hN,O5 _ _ _ _,_,rfl,L,p,pr ns,_,_,_,rfl,N,.int _,(fun z=>by rw[hw] at z;cases z),fun i hi e r H1 s1 yw Yw=>?_⟩;cases e;refine⟨r,_,rfl,.inl (br.of Yw),rfl,lI,_,rfl,?_⟩;have e1:(if false=true then !B_ (V.int (b:Int)) (NV (dS (pr ns) (jq ns) a)) else B_ (V.int (b:Int)) (NV (dS (pr ns) (jq ns) a)))=decide (((a:Int),(b:Int))∈jq ns):=HZ Fi ha;rw[e1];have q':∀H',aA H H'->Q (.bl (decide (((a:Int),(b:Int))∈jq ns))) H':=fun H' s'=>by have:=q H' s';unfold HY at this;rw[hw,Ed] at this;exact this
  cases ht:decide (((a:Int),(b:Int))∈jq ns) with
  |false=>
   rw[ht] at q';exact e_ (q' H1 s1)
  |true=>
   rw[ht] at q';refine gJ ⟨_,rfl,_,rfl,p,dx,_,rfl,s1 _ _ hN,O5 _ _ _ _,_,rfl,L,p,pr ns,_,_,_,rfl,N.same s1,.int _,(fun z=>by rw[Ed] at z;cases z),fun i hi e r2 H2 s2 E_ Ep=>?_⟩;cases e;refine⟨r2,_,rfl,.inl (br.of Ep),rfl,lI,?_⟩;have e2:(if false=true then !B_ (V.int (a:Int)) (NV (dS (pr ns) (jq ns) b)) else B_ (V.int (a:Int)) (NV (dS (pr ns) (jq ns) b)))=true:=(HZ Fi hb).trans (aT (O6.mp (c_ ht)));rw[e2];exact q' H2 (s1.trans s2)
theorem C4:aD ["self","house","home","here","there","k"] ["self","house","home"] (am OZ):=⟨rfl,rfl,rfl,by decide +kernel,rfl,by decide +kernel,by decide +kernel⟩
def yA(K:PySem.W.Frag)(C CB CE:Addr):Sp:=fun vs H Q E=>∃ (L:Addr->Prop) (b:Addr) (ns:List Nat) (x y:V) (o o':Option Int),vs=[.ref b,x,y]/\eF C CB H L b ns/\Be K H x o/\Be K H y o'/\(bf o 0 ((pr ns:Int)-1)=false\/bf o' 0 ((pr ns:Int)-1)=false->∀H',aA H H'->E (.ref CE) none H')/\∀h g:Nat,h<pr ns->g<pr ns->o=some (h:Int)->o'=some (g:Int)->∀H',aA H H'->Q (oV (jb ns h g)) H'
theorem O8{f C CB CE:Addr}{fd:FuncData}(F:eM K "phase" "Box.phase" OZ f fd)(B:Bl mg)(TB:CZ K mg CB)(M:fc P w K mg base (iw P w) 5 CB "place" ["self","house"] (C3 K C CB CE)):bn P w K mg base (iw P w) 6 f fd ["self","house","home"] (yA K C CB CE):=by
 obtain⟨fM,Wd,mM,bM,GM⟩:=M.ex;refine F.Mt C4 (fun vs H Q E h=>?_) (fun dz A outer s H vs Q E hr h=>?_)
 .obtain⟨L,b,ns,x,y,o,o',rfl,_⟩:=h;rfl
 .obtain⟨L,b,ns,x,y,o,o',rfl,BA,wx,wy,k1,k2⟩:=h;obtain⟨dx,pn,sr,hb,N,gZ⟩:=BA.ob;have l5:=BA.bx.l5;refine⟨_,ag (aN (i:=3) C4.nd rfl (Or.inl rfl) (cL (pv 0) TB.cl mM GM hr bM .nil (uU (E':=E) fun _ _ _ z=>z) (aa (pv 1) af)))
   (ag (aN (i:=4) C4.nd rfl (Or.inl rfl) (cL (pv 0) TB.cl mM GM hr bM .nil (uU (E':=E) fun _ _ _ z=>z) (aa (pv 2) af)))
   (ag (cI N3 rfl (bu rfl B.range (aa (aJ aF (by rfl) B.len dH (aa (pv 3) af)) af)) (au (i:=5) C4.nd rfl (Or.inl rfl))
    (aj (bE (aK nR (aR bh (pv 3) (pv 5) (fun _ _=>rfl)) (aR bh (pv 4) (pv 5) (fun _ _=>rfl)) (aQ _)) (aj (aG (pv 5))) aL)))
   (aj (aG cn)))),?_⟩
  refine⟨_,rfl,b,dx,_,rfl,hb,ot,_,rfl,L,b,ns,x,o,rfl,BA,wx _ (aA.refl _),(fun z=>k1 (.inl z) _ (aA.refl _)),fun h hh e t1 H1 s1 Yx=>?_⟩;subst e;refine⟨_,rfl,b,dx,_,rfl,s1 _ _ hb,ot,_,rfl,L,b,ns,y,o',rfl,BA.same s1,wy _ s1,(fun z=>k1 (.inr z) _ s1),fun g hg e t2 H2 s2 Rl=>?_⟩;subst e;have TV:=s2 _ _ Yx;have j4:=s1.trans s2;have dl:(NV (bQ ns h)).length=ns.length:=by rw[bi,eH]
  refine⟨_,rfl,t1,_,rfl,.inr (bp.of TV),_,rfl,by lia,by rw[dl];lia,?_⟩;rw[dl];refine dg (n:=ns.length) (lo:=0) (fun k σ H3=>H3=H2/\(∃z,σ=[some (.ref b),some x,some y,some (.ref t1),some (.ref t2),z])/\∀j,j<k->(bQ ns h).getD j 0=(bQ ns g).getD j 0) ⟨rfl,⟨_,rfl⟩,fun j hj=>absurd hj (ij _)⟩ ?_ ?_
  .rintro k σ _ hk ⟨rfl,⟨z,rfl⟩,hj⟩;rw[eK];refine⟨_,rfl,_,rfl,t1,_,_,_,rfl,rfl,bp.of TV,aw (f_ hk),_,rfl,_,rfl,t2,_,_,_,rfl,rfl,bp.of Rl,aw (f_ hk),rfl,_,rfl,?_⟩;by_cases c:(bQ ns h).getD k 0=(bQ ns g).getD k 0
   .rw[c,aT rfl];exact e_ ⟨rfl,⟨_,rfl⟩,fun j Q9=>by
     rcases vz.mp Q9 with z|z
     .exact hj j z
     .rw[z];exact c⟩
   .rw[cW (fun z=>c (by injection z with z;exact cN z))];refine gJ ⟨_,rfl,?_⟩;have:=k2 h g hh hg rfl rfl _ j4;rw[TQ hk hj c] at this;exact this
  .rintro σ _ ⟨rfl,⟨z,rfl⟩,hj⟩;have:=k2 h g hh hg rfl rfl _ j4;rw[TR hj] at this;exact this
end
end tu
namespace L2
open PySem PySem.Spec PyProof.Rows
theorem H_{X:Cx}:RX X (fun o i H Q=>∃p xs v,∃k:Nat,o=.ref p/\i=.int (k:Int)/\H p=some (.lst xs)/\xs[k]?=some v/\Q v H):=by
 intro ae s σ H o i ov iv Q I ro ri h;obtain⟨p,xs,v,k,rfl,rfl,hp,hv,q⟩:=h;cases ro;obtain⟨t,rfl⟩:=ri;obtain⟨its,r,pl,hz⟩:=I.list (br.of hp);have hk:=(dk.mp hv).1;obtain⟨w,ew,Ds⟩:=r.get hv;have hl:=r.length;have hn:=sk;exact PySem.wpAny_getItem_list pl.isList (by lia) (by lia) (by simpa using ew) ⟨v,H,I,Ds,q⟩
end L2
namespace tu
open PySem L2 jJ
theorem Lh{ns:List Nat}{o o':Option Int}(h:HY ns o o'=true):∃a b:Nat,a<pr ns/\b<pr ns/\o=some (a:Int)/\o'=some (b:Int)/\((a:Int),(b:Int))∈jq ns:=by
 unfold HY at h;obtain⟨h1,h2⟩:=Bool.and_eq_true_iff.mp h;obtain⟨h4,h3⟩:=Bool.and_eq_true_iff.mp h2;obtain⟨a,ha,rfl⟩:=fU h1;obtain⟨b,hb,rfl⟩:=fU h4;exact⟨a,b,ha,hb,rfl,rfl,c_ h3⟩
theorem O9{ns:List Nat}{a b k:Nat}(hp:∀x∈ns,0<x)(ha:a<pr ns)(h:jb ns a b=some k):y8 ns a b=some (y6 ns ((bQ ns a).set k (if (bQ ns a).getD k 0<(bQ ns b).getD k 0 then (bQ ns a).getD k 0+1 else (bQ ns a).getD k 0-1))):=by
 obtain⟨hk,ne⟩:=f9 h;unfold y8;rw[h,zY];refine congrArg some ?_;have e:=CU (ns:=ns) (ds:=bQ ns a) (k:=k) (v:=if (bQ ns a).getD k 0<(bQ ns b).getD k 0 then (bQ ns a).getD k 0+1 else (bQ ns a).getD k 0-1) eH.symm (by rw[eH];exact hk);rw[qY ha] at e;by_cases c:(bQ ns a).getD k 0<(bQ ns b).getD k 0
 .rw[ai c] at e |-;rw[ai c];rw[iY,ku] at e;lia
 .rw[ap c] at e |-;rw[ap c];have h1:(bQ ns a).getD k 0=((bQ ns a).getD k 0-1)+1:=by lia
  rw[h1,iY,ku,zJ] at e;lia
section
variable {P:Program} {w:World} {K:PySem.W.Frag} {mg:Str->Option Value} {base:Heap}
theorem TX:aD ["self","one","other"] ["self","one","other"] (am OY):=⟨rfl,rfl,rfl,by decide +kernel,rfl,by decide +kernel,by decide +kernel⟩
def yB(K:PySem.W.Frag)(C CB CT:Addr):Sp:=fun vs H Q E=>∃ (L:Addr->Prop) (b:Addr) (ns:List Nat) (x y:V) (o o':Option Int),vs=[.ref b,x,y]/\eF C CB H L b ns/\Be K H x o/\Be K H y o'/\(HY ns o o'=false->∀H',aA H H'->E (.ref CT) none H')/\∀h g:Nat,h<pr ns->g<pr ns->o=some (h:Int)->o'=some (g:Int)->HY ns o o'=true->∀H',aA H H'->Q (oV (jb ns h g)) H'
theorem O_{f C CB CE CT:Addr}{fd:FuncData}(F:eM K "way" "Box.way" OY f fd)(TB:CZ K mg CB)(e:Er K mg "NoTie" CT)(AT:cq P w K mg base a7 6 "are_tied" ["net","one","other"] (O7 K C))(M:fc P w K mg base (iw P w) 6 CB "phase" ["self","house","home"] (yA K C CB CE)):bn P w K mg base (iw P w) 7 f fd ["self","one","other"] (yB K C CB CT):=by
 obtain⟨fM,Wd,mM,bM,GM⟩:=M.ex;refine F.Mt TX (fun vs H Q E h=>?_) (fun dz A outer s H vs Q E hr h=>?_)
 .obtain⟨L,b,ns,x,y,o,o',rfl,_⟩:=h;rfl
 .obtain⟨L,b,ns,x,y,o,o',rfl,BA,wx,wy,k1,k2⟩:=h;obtain⟨dx,pn,sr,hb,N,gZ⟩:=BA.ob;refine⟨_,ag (bE (dw (cR (az AT hr aE (aa (gI (pv 0) rfl) (aa (pv 1) (aa (pv 2) af)))))) (aj (kN (q:=fun H1=>E (.ref CT) none H1) rfl e.ok rfl e.at_ (aa r_ af) (fun _ _ _ _ _ _ _ I m q=>kM I m q))) aL)
   (aj (aG (cL (pv 0) TB.cl mM GM hr bM .nil jj (aa (pv 1) (aa (pv 2) af))))),?_⟩
  refine⟨_,rfl,b,CB,dx,_,_,rfl,hb,TB.cl,TB.nN,HP,_,rfl,_,rfl,L,pn,ns,x,y,o,o',rfl,N,wx,wy,fun H1 s1=>⟨_,rfl,?_⟩⟩;cases ha:HY ns o o' with
  |false=>exact gJ ⟨by show 1<=sizeLine;decide,k1 ha H1 s1⟩
  |true=>
   refine e_ ?_;obtain⟨h,g,hh,hg,rfl,rfl,_⟩:=Lh ha;exact⟨_,rfl,b,dx,_,rfl,s1 _ _ hb,tV,_,rfl,_,rfl,L,b,ns,x,y,_,_,rfl,BA.same s1,fun H' s'=>wx H' (s1.trans s'),fun H' s'=>wy H' (s1.trans s'),(fun z=>by rcases z with z|z <;> (rw[cg (by assumption)] at z;cases z)),fun h' g' hh' hg' e1 e2 H' s'=>k2 h' g' hh' hg' e1 e2 ha H' (s1.trans s')⟩
theorem Ib:aD ["self","house","home","k","numbers"] ["self","house","home"] (am O0):=⟨rfl,rfl,rfl,by decide +kernel,rfl,by decide +kernel,by decide +kernel⟩
def vi(K:PySem.W.Frag)(C CB CE:Addr):Sp:=fun vs H Q E=>∃ (L:Addr->Prop) (b:Addr) (ns:List Nat) (x y:V) (o o':Option Int),vs=[.ref b,x,y]/\eF C CB H L b ns/\Be K H x o/\Be K H y o'/\(bf o 0 ((pr ns:Int)-1)=false\/bf o' 0 ((pr ns:Int)-1)=false->∀H',aA H H'->E (.ref CE) none H')/\∀h g:Nat,h<pr ns->g<pr ns->o=some (h:Int)->o'=some (g:Int)->∀H',aA H H'->Q (oV (y8 ns h g)) H'
theorem Pa{f C CB CE:Addr}{fd:FuncData}(F:eM K "wish" "Box.wish" O0 f fd)(B:Bl mg)(TB:CZ K mg CB)(MF:fc P w K mg base (iw P w) 6 CB "phase" ["self","house","home"] (yA K C CB CE))(MP:fc P w K mg base (iw P w) 5 CB "place" ["self","house"] (C3 K C CB CE))(MH:fc P w K mg base a7 4 CB "house" ["self","place"] (HX C CB)):bn P w K mg base (iw P w) 7 f fd ["self","house","home"] (vi K C CB CE):=by
 obtain⟨fF,fdF,mF,bF,GF⟩:=MF.ex;obtain⟨fP,fdP,mP,bP,GP⟩:=MP.ex;obtain⟨fH,fdH,mH,bH,GH⟩:=MH.ex;refine F.Mt Ib (fun vs H Q E h=>?_) (fun dz A outer s H vs Q E hr h=>?_)
 .obtain⟨L,b,ns,x,y,o,o',rfl,_⟩:=h;rfl
 .obtain⟨L,b,ns,x,y,o,o',rfl,BA,wx,wy,k1,k2⟩:=h;obtain⟨dx,pn,sr,hb,N,gZ⟩:=BA.ob;have h5:bA 5 _:=hr.mono (by decide);have h4:bA 4 _:=hr.mono (by decide);refine⟨_,ag (aN (i:=3) Ib.nd rfl (Or.inl rfl) (cL (pv 0) TB.cl mF GF hr bF .nil (uU (E':=E) fun _ _ _ z=>z) (aa (pv 1) (aa (pv 2) af))))
   (ag (bE (aK i7 (pv 3) cn (aQ _)) (aj (aG cn)) aL)
   (ag (aN (i:=4) Ib.nd rfl (Or.inl rfl) (bW nZ (by rfl) B.lst rn (aa (cL (pv 0) TB.cl mP GP h5 bP .nil jj (aa (pv 1) af)) af)))
   (ag (JR (pv 4) (pv 3) H_ (ip (aK si (aR bC (pv 4) (pv 3) (fun _ _=>rfl)) (aR bh (cL (pv 0) TB.cl mP GP h5 bP .nil jj (aa (pv 2) af)) (pv 3) (fun _ _=>rfl)) (aQ _)) aB (uL pB aB)) Ag iq)
   (aj (aG (cL (pv 0) TB.cl mH GH h4 bH .nil aE (aa (bW ce (by rfl) B.tup jQ (aa (pv 4) af)) af))))))),?_⟩
  refine⟨_,rfl,b,dx,_,rfl,hb,tV,_,rfl,_,rfl,L,b,ns,x,y,o,o',rfl,BA,wx,wy,k1,fun h g hh hg e1 e2 H1 s1=>?_⟩;subst e1;subst e2;have BX:=BA.bx;refine lX (fun σ Hx=>H1=Hx/\σ=[some (.ref b),some x,some y,some (oV (jb ns h g)),none]) ?_ (fun N hN=>hN _ _ ⟨rfl,rfl⟩);rintro σ _ ⟨rfl,rfl⟩;refine lX (fun σ Hx=>H1=Hx/\∃k,jb ns h g=some k/\σ=[some (.ref b),some x,some y,some (.int (k:Int)),none]) ?_ ?_
  rotate_left
  .intro N hN;cases hp:jb ns h g with
   |none=>
    refine⟨_,rfl,rfl,_,rfl,gJ ?_⟩;have:=k2 h g hh hg rfl rfl H1 s1;unfold y8 at this;rw[hp] at this;exact this
   |some k=>exact⟨_,rfl,rfl,_,rfl,dE rfl (hN _ _ ⟨rfl,k,hp,rfl⟩)⟩
  rintro σ _ ⟨rfl,k,hp,rfl⟩;obtain⟨hk,ne⟩:=f9 hp;refine lX (fun σ H3=>∃D,σ=[some (.ref b),some x,some y,some (.int (k:Int)),some (.ref D)]/\aA H H3/\H D=none/\H3 D=some (.lst (NV (bQ ns h)))) ?_ ?_
  rotate_left
  .intro N hN;refine⟨_,rfl,b,dx,_,rfl,s1 _ _ hb,ot,_,rfl,L,b,ns,x,_,rfl,BA.same s1,wx _ s1,(fun z=>by rw[cg hh] at z;cases z),fun h' _ e t1 H2 s2 Yx=>?_⟩;obtain rfl:h=h':=cN (a8 e);exact⟨t1,_,rfl,.inr (bp.of Yx),fun D hD=>hN _ _ ⟨D,rfl,(s1.trans s2).trans (ao hD),(s1.trans s2).free hD,ah⟩⟩
  rintro σ H3 ⟨D,rfl,s3,nD,hD⟩;refine lX (fun σ H5=>σ=[some (.ref b),some x,some y,some (.int (k:Int)),some (.ref D)]/\aA H H5/\H5 D=some (.lst (NV ((bQ ns h).set k (if (bQ ns h).getD k 0<(bQ ns g).getD k 0 then (bQ ns h).getD k 0+1 else (bQ ns h).getD k 0-1))))) ?_ ?_
  rotate_left
  .intro N hN;refine⟨_,rfl,_,rfl,D,_,_,k,rfl,rfl,hD,f_ hk,_,rfl,_,rfl,D,_,_,_,rfl,rfl,br.of hD,aw (f_ hk),?_⟩;refine⟨_,rfl,b,dx,_,rfl,s3 _ _ hb,ot,_,rfl,L,b,ns,y,_,rfl,BA.same s3,wy _ s3,(fun z=>by rw[cg hg] at z;cases z),fun g' _ e t2 H4 s4 Rl=>?_⟩;obtain rfl:g=g':=cN (a8 e);have ix:E3 (NV (bQ ns h)).length (k:Int)=some k:=iN (by rw[bi,eH];exact hk);have st:∀v:Nat,(NV (bQ ns h)).set k (.int (v:Int))=NV ((bQ ns h).set k v):=fun v=>(List.map_set).symm;refine⟨_,rfl,t2,_,_,_,rfl,rfl,bp.of Rl,aw (f_ hk),_,_,rfl,rfl,_,rfl,iE (fun c=>?_) (fun c=>?_)⟩
   .have c:=c_ c;refine⟨_,_,rfl,rfl,D,_,_,k,rfl,rfl,s4 _ _ hD,ix,hN _ _ ⟨rfl,cy (s3.trans s4) nD,?_⟩⟩;rw[ai (by lia),ah];exact congrArg (fun l=>some (HO.lst l)) (st ((bQ ns h).getD k 0+1))
   .have c:¬ (((bQ ns h).getD k 0:Nat):Int)<(((bQ ns g).getD k 0:Nat):Int):=fun z=>c (aT z);refine⟨_,rfl,_,_,rfl,rfl,D,_,_,k,rfl,rfl,s4 _ _ hD,ix,hN _ _ ⟨rfl,cy (s3.trans s4) nD,?_⟩⟩;rw[ap (by lia),ah];refine congrArg (fun l=>some (HO.lst l)) ?_;rw[<-st];exact congrArg (fun z=>(NV (bQ ns h)).set k (V.int z)) (show (((bQ ns h).getD k 0:Nat):Int)+-1=(((bQ ns h).getD k 0-1:Nat):Int) by lia)
  rintro σ H5 ⟨rfl,s5,nk⟩;refine⟨_,rfl,b,dx,_,rfl,s5 _ _ hb,HV,_,rfl,D,_,rfl,.inl ⟨br.of nk,fun t ht=>?_⟩⟩;have lh:=ni (h:=h) BX.pos hk;have lg:=ni (h:=g) BX.pos hk;refine⟨L,b,t,ns,_,rfl,(BA.same s5).same (ao ht),ah,by rw[vT,eH],fun i hi=>?_,fun H' s'=>?_⟩
  .rw[cr,List.getElem?_set];by_cases c:k=i
   .subst c;rw[ai rfl,ai (by rw[eH];exact hk),Option.getD_some];split <;> lia
   .rw[ap c,<-cr];exact ni BX.pos hi
  .have:=k2 h g hh hg rfl rfl H' ((s5.trans (ao ht)).trans s');rw[O9 BX.pos hh hp] at this;exact this
end
abbrev Pb:Stmt:=fA 52
abbrev Yy:Stmt:=fA 53
structure Bl2(mg:Str->Option Value):Prop where
 abs:mg "abs"=none
 divmod:mg "divmod"=none
 dict:mg "dict"=none
 zip:mg "zip"=none
 repr:mg "repr"=none
def cQ(H:Hp)(p:Addr):Prop:=∃a b:Int,H p=some (.lst [.int a,.int b])/\0<=a/\0<=b/\b<4294967296
theorem cQ.same{H H':Hp}{p:Addr}(h:cQ H p)(s:aA H H'):cQ H' p:=let ⟨a,b,e,r⟩:=h;⟨a,b,s _ _ e,r⟩
theorem cQ.full{H:Hp}{p:Addr}(h:cQ H p):H p≠none:=by obtain⟨a,b,e,_⟩:=h;rw[e];intro z;cases z
theorem cQ.ne{H:Hp}{p q:Addr}(h:cQ H p)(e:H q=none):q≠p:=by rintro rfl;exact h.full e
theorem cQ.put{H:Hp}{p q:Addr}{o:HO}(h:cQ H p)(n:p≠q):cQ (upd H q o) p:=let ⟨a,b,e,r⟩:=h;⟨a,b,by rw[al n];exact e,r⟩
theorem cQ.neT{H:Hp}{p q:Addr}{xs:List V}(h:cQ H p)(e:H q=some (.tup xs)):q≠p:=by rintro rfl;obtain⟨a,b,z,_⟩:=h;rw[e] at z;cases z
theorem PO.eS{H H':Hp}{p:Addr}{zs:Zs}(h:PO H zs)(s:cx p H H')(hp:cQ H p):PO H' zs:=fun z hz=>s _ _ (h z hz) (hp.neT (h z hz))
theorem Yz{j:Int}(h1:0<j)(h2:j<2 ^ 200):Nat.log2 j.natAbs<200:=(Nat.log2_lt (by lia)).mpr (by lia)
theorem wZ{X:Cx}:gu X (.builtin "divmod") (fun xs H Q=>∃i j,xs=[.int i,.int j]/\(0<j/\j<2 ^ 200)/\∀p,H p=none->Q (.ref p) (upd H p (.tup [.int (i / j),.int (i % j)]))):=by
 intro ae s σ H xs us Q I r h;obtain⟨i,j,rfl,⟨h1,h2⟩,q⟩:=h;obtain⟨u,w',rfl,⟨t,rfl⟩,⟨t',rfl⟩⟩:=FL r;refine PyProof.Rows.divmod_int (by lia) ?_ (.inl (PyProof.noPylong_of_log2 (rV (Yz h1 h2) (by decide))));rw[vw i (by lia),zf i (by lia)];have hn:H s.heap.objs.size=none:=I.ck.fresh (aW _);refine⟨.ref s.heap.objs.size,_,?_,rfl,q _ hn⟩;refine I.laid (fun b o e=>bz _ e) (aW _) ⟨by simp only[cu,List.length_nil];rw[ky];decide,[.int (i / j) s.toks,.int (i % j) (s.toks+1)],.cons ⟨_,rfl⟩ (.cons ⟨_,rfl⟩ .nil),?_⟩;exact⟨_,b_ s.heap rfl,rfl,0,rfl,rfl⟩
theorem Pc{X:Cx}:lV X (binaryOp .RShift) (rI (fun i j=>0<=j/\((2 ^ j.toNat:Nat):Int)<=i) fun i j=>.int (i / ((2 ^ j.toNat:Nat):Int))):=QZ fun i j _ _ _ _ _ hc q=>by
 have h1:0<=j:=hc.1;have h2:((2 ^ j.toNat:Nat):Int)<=i:=hc.2;have h3:0<2 ^ j.toNat:=Nat.two_pow_pos _;refine PySem.AutoIntOps.rshift_2 (by lia) (fun z=>?_) ?_
 .have n0:i.natAbs≠0:=by lia
  have:¬ i.natAbs.log2<j.toNat:=fun y=>by
   have:=(Nat.log2_lt n0).mp y;lia
  unfold Builtin.Int.intBits at z;rw[ap (by simp;lia)] at z;lia
 .rw[vw i (Int.pow_nonneg (by decide)),show (2:Int) ^ j.toNat=((2 ^ j.toNat:Nat):Int) by rw[Int.natCast_pow];rfl];exact q
section
variable {P:Program} {w:World} {K:PySem.W.Frag} {mg:Str->Option Value} {base:Heap}
theorem Ic:aD ["_law_script","_law_k","_law_cell"] ["_law_script","_law_k"] (am Pb):=⟨rfl,rfl,rfl,by decide +kernel,rfl,by decide +kernel,by decide +kernel⟩
def Ie(K:PySem.W.Frag):Sp:=fun vs H Q _=>∃ (a:Addr) (ns:List Int) (k:Nat),vs=[.ref a,.int k]/\br K H a (ns.map V.int)/\k<64/\∀ (r:Addr) (H':Hp),aA H H'->H r=none->cQ H' r->Q (.ref r) H'
theorem Pd{f:Addr}{fd:FuncData}(F:eM K "_law_pot" "_law_pot" Pb f fd)(B:Bl mg):bn P w K mg base a7 1 f fd ["_law_script","_law_k"] (Ie K):=by
 refine F.ok Ic (fun vs H Q E h=>?_) (fun dz A outer s H vs Q E hr h=>?_)
 .obtain⟨a,ns,k,rfl,_⟩:=h;rfl
 .obtain⟨a,ns,k,rfl,hS,hk,q⟩:=h;refine⟨_,(ag (aN (i:=2) Ic.nd rfl (Or.inl rfl) aB)
   (ag (bE (aK si (pv 1) (aJ aF (by rfl) B.len dH (aa (pv 0) af)) (aQ _)) (aj (aN (i:=2) Ic.nd rfl (Or.inl rfl) (aR bC (pv 0) (pv 1) (fun _ _=>rfl)))) aL)
   (aj (aG (eX (aa (aJ (uM rfl) (by rfl) B.max PyProof.Rows.boot_max (aa aB (aa (bv mV (pv 2) (bv FA aB aB)) af))) (aa (bv eC (bv jE (bv FA (bv eC (bv jE (pv 2) aB) (bv pz aB (bv eC (pv 1) aB))) aB) aB) aB) af))))))),?_⟩
  refine lX (fun σ Hc=>H=Hc/\σ=[some (.ref a),some (.int k),some (.int 0)]) ?_ (fun N hN=>hN _ _ ⟨rfl,rfl⟩);rintro σ _ ⟨rfl,rfl⟩;refine lX (fun σ Hc=>H=Hc/\∃c:Int,σ=[some (.ref a),some (.int k),some (.int c)]) ?_ ?_
  rotate_left
  .intro N hN;refine⟨_,rfl,_,rfl,a,_,rfl,.inl hS,_,_,rfl,rfl,_,rfl,iE (fun e=>?_) (fun e=>hN _ _ ⟨rfl,0,rfl⟩)⟩;have e:k<ns.length:=by have:=c_ e;rw[aP] at this;lia
   exact⟨_,rfl,_,rfl,a,_,_,_,rfl,rfl,hS,aw (by rw[bL,cU e];rfl),hN _ _ ⟨rfl,_,rfl⟩⟩
  rintro σ _ ⟨rfl,c,rfl⟩;have m0:0<=c % 2147483629:=oX _ (by decide);have m1:c % 2147483629<2147483629:=oR _ (by decide);refine⟨_,rfl,_,_,rfl,rfl,⟨by decide,by decide,by decide⟩,_,_,rfl,rfl,0,_,rfl,_,rfl,_,_,rfl,rfl,(by show (0:Int)<2147483629;decide),_,rfl,_,_,rfl,rfl,_,_,rfl,rfl,.inl ⟨by decide,by decide⟩,_,_,rfl,rfl,_,_,rfl,rfl,⟨by decide,by decide,by show (c % 2147483629+40503*((k:Int)+1)).natAbs<2 ^ 64;lia⟩,_,_,rfl,rfl,(by show (0:Int)<2147483563;decide),_,_,rfl,rfl,by show 2<=sizeLine;decide,fun r E5=>?_⟩;have v0:0<=(c % 2147483629+40503*((k:Int)+1)) ^ Int.toNat 3 % 2147483563:=oX _ (by decide);have v1:(c % 2147483629+40503*((k:Int)+1)) ^ Int.toNat 3 % 2147483563<2147483563:=oR _ (by decide);refine q r _ (ao E5) E5 ⟨_,_,ah,by split <;> lia,?_,?_⟩
  .show 0<=(c % 2147483629+40503*((k:Int)+1)) ^ Int.toNat 3 % 2147483563+1;generalize (c % 2147483629+40503*((k:Int)+1)) ^ Int.toNat 3 % 2147483563=z at *;lia
  .show (c % 2147483629+40503*((k:Int)+1)) ^ Int.toNat 3 % 2147483563+1<_;generalize (c % 2147483629+40503*((k:Int)+1)) ^ Int.toNat 3 % 2147483563=z at *;lia
theorem TY:aD ["_law_pot_here","_law_many_here","_law_digit"] ["_law_pot_here","_law_many_here"] (am Yy):=⟨rfl,rfl,rfl,by decide +kernel,rfl,by decide +kernel,by decide +kernel⟩
def Bg:Sp:=fun vs H Q _=>∃ (p:Addr) (m:Nat),vs=[.ref p,.int m]/\0<m/\m<2 ^ 200/\cQ H p/\∀ (d:Nat) (H':Hp),d<m->cx p H H'->cQ H' p->Q (.int d) H'
theorem TZ{f:Addr}{fd:FuncData}(F:eM K "_law_draw" "_law_draw" Yy f fd)(B2:Bl2 mg):bn P w K mg base a7 1 f fd ["_law_pot_here","_law_many_here"] Bg:=by
 refine F.ok TY (fun vs H Q E h=>?_) (fun dz A outer s H vs Q E hr h=>?_)
 .obtain⟨p,m,rfl,_⟩:=h;rfl
 .obtain⟨p,m',rfl,m0',m1',⟨a,b,hp,a0,b0,b1⟩,q'⟩:=h;generalize hm:((m':Nat):Int)=m;have m0:0<m:=by lia
  have m1:m<2 ^ 200:=by lia
  have q:∀ (d a b:Int) (H':Hp),0<=d->d<m->0<=a->0<=b->b<4294967296->cx p H H'->H' p=some (.lst [.int a,.int b])->Q (.int d) H':=fun d a b H' h1 h2 h3 h4 h5 h6 h7=>by
   have:=q' d.toNat H' (by lia) h6 ⟨a,b,h7,h3,h4,h5⟩;rw[Int.toNat_of_nonneg h1] at this;exact this
  refine⟨_,(ag (bE (aK BZ (aR bC (pv 0) aB (fun _ _=>rfl)) aB (aQ _)) (ag (i6 (aJ wZ (by rfl) B2.divmod PyProof.Rows.boot_divmod (aa (aR bC (pv 0) aB (fun _ _=>rfl)) (aa (pv 1) af))) (fj (n:=2) rfl (aV (pi (pv 0) aB iq) (aV (au (i:=2) TY.nd rfl (Or.inl rfl)) d7))))
    (aj (aG (pv 2)))) aL)
   (ag (i6 (bv jE (bv eC (bv pz (aR bC (pv 0) aB (fun _ _=>rfl)) aB) aB) aB) (pi (pv 0) aB iq))
   (aj (aG (bv jE (bv qM (bv jE (bv pz (aR bC (pv 0) aB (fun _ _=>rfl)) (aR bC (pv 0) aB (fun _ _=>rfl))) aB) aB) (pv 1)))))),?_⟩
  have g0:FX [V.int a,V.int b] 0=some (.int a):=aw (j:=0) rfl;have g1:FX [V.int a,V.int b] 1=some (.int b):=aw (j:=1) rfl;refine⟨_,rfl,p,_,_,_,rfl,rfl,br.of hp,g0,_,_,rfl,rfl,_,rfl,?_⟩;refine iE (fun e=>?_) (fun e=>?_)
  .refine⟨_,rfl,p,_,_,_,rfl,rfl,br.of hp,g0,_,rfl,_,_,rfl,⟨m0,by lia⟩,fun t ht=>?_⟩;have npt:p≠t:=aq hp ht;refine⟨t,_,rfl,bp.of ah,rfl,_,_,rfl,?_⟩;refine⟨_,rfl,p,_,0,0,rfl,rfl,by rw[al npt];exact hp,iN (j:=0) (by show 0<2;decide),_,_,rfl,rfl,_,rfl,?_⟩;exact q _ _ _ _ (oX _ (by lia)) (oR _ m0) (Int.ediv_nonneg a0 (by lia)) b0 b1 (fun c o e n=>by rw[al n,al (aq e ht)];exact e) ah
  .refine⟨_,rfl,p,_,_,_,rfl,rfl,br.of hp,g1,_,_,rfl,rfl,.inl ⟨by lia,by lia⟩,_,_,rfl,rfl,_,_,rfl,rfl,(by show (0:Int)<2147483629;decide),?_⟩;refine⟨_,rfl,p,_,1,1,rfl,rfl,hp,iN (j:=1) (by show 1<2;decide),?_⟩;have c0:0<=(b*39373+7919) % 2147483629:=oX _ (by decide);have c1:(b*39373+7919) % 2147483629<2147483629:=oR _ (by decide);refine⟨_,rfl,p,_,_,_,rfl,rfl,br.of ah,aw (j:=1) rfl,_,rfl,p,_,_,_,rfl,rfl,br.of ah,aw (j:=1) rfl,_,_,rfl,rfl,.inl ⟨by lia,by lia⟩,_,_,rfl,rfl,(by show (0:Int)<2147483587;decide),_,_,rfl,rfl,⟨by decide,by decide⟩,_,rfl,_,_,rfl,rfl,m0,?_⟩;exact q _ _ _ _ (oX _ (by lia)) (oR _ m0) a0 c0 (by lia) cx.upd ah
end
abbrev YA:Stmt:=fA 54
abbrev YB:Stmt:=fA 55
abbrev YC:Stmt:=fA 56
abbrev YD:Stmt:=fA 57
theorem Ig{xs:List V}{k:Nat}:wz xs none (some (k:Int))=xs.take k:=by
 have h1:HT.fX xs.length 0 none=0:=rfl;have h2:HT.fX xs.length xs.length (some (k:Int))=min k xs.length:=by
  unfold HT.fX;simp;try lia
 unfold wz;rw[h1,h2,z_,Nat.sub_zero,List.take_eq_take_iff];simp;try lia
theorem Ih:∀ {ns:List Nat} {h k:Nat},k<ns.length->(bQ ns h).getD k 0=h / pr (ns.take k) % ns.getD k 0
 |[],_,_,hk=>absurd hk (ij _)
 |n::ns,h,0,_=>by show h % n=h / 1 % n;rw[o5]
 |n::ns,h,k+1,hk=>by
  have:=Ih (ns:=ns) (h:=h / n) (k:=k) (l9 hk);show (bQ ns (h / n)).getD k 0=h / (n*pr (ns.take k)) % ns.getD k 0;rw[this,l_]
theorem M8{ns:List Nat}{h k:Nat}(hk:k<ns.length)(h1:1<=(bQ ns h).getD k 0):pr (ns.take k)<=h:=by
 rw[Ih hk] at h1;rcases gQ h (pr (ns.take k)) with c|c
 .rw[zU c,Nat.zero_mod] at h1;exact absurd h1 (by decide)
 .exact c
def w4(ns:List Nat)(h k:Nat)(up:Bool):Option Nat:=if up then (if (bQ ns h).getD k 0+1<ns.getD k 0 then some (h+pr (ns.take k)) else none) else if 1<=(bQ ns h).getD k 0 then some (h-pr (ns.take k)) else none
theorem M9{ns:List Nat}{a b k:Nat}(hp:∀x∈ns,0<x)(h:jb ns a b=some k):y8 ns a b=w4 ns a k (decide ((bQ ns a).getD k 0<(bQ ns b).getD k 0)):=by
 obtain⟨hk,ne⟩:=f9 h;have la:=ni (h:=a) hp hk;have lb:=ni (h:=b) hp hk;unfold y8 w4;rw[h,zY];by_cases c:(bQ ns a).getD k 0<(bQ ns b).getD k 0
 .rw[ai c,aT c,ai rfl,ai (by lia)]
 .rw[ap c,cW c,ap (by decide),ai (by lia)]
section
variable {P:Program} {w:World} {K:PySem.W.Frag} {mg:Str->Option Value} {base:Heap}
theorem Bh:aD ["_law_pot_here","_law_found","_law_left","_law_ways","_law_k","_law_most"] ["_law_pot_here"] (am YA):=⟨rfl,rfl,rfl,by decide +kernel,rfl,by decide +kernel,by decide +kernel⟩
def Pe:Sp:=fun vs H Q _=>∃ (p:Addr),vs=[.ref p]/\cQ H p/\∀ (r:Addr) (ns:List Nat) (H':Hp),cx p H H'->cQ H' p->H' r=some (.tup (NV ns))->Bx ns->Q (.ref r) H'
theorem T4{f:Addr}{fd:FuncData}(F:eM K "_law_sides" "_law_sides" YA f fd)(B:Bl mg)(DR:cq P w K mg base a7 1 "_law_draw" ["_law_pot_here","_law_many_here"] Bg):bn P w K mg base a7 2 f fd ["_law_pot_here"] Pe:=by
 refine F.ok Bh (fun vs H Q E h=>?_) (fun dz A outer s H vs Q E hr h=>?_)
 .obtain⟨p,rfl,_⟩:=h;rfl
 .obtain⟨p,rfl,hp,q⟩:=h;refine⟨_,(ag (aN (i:=1) Bh.nd rfl (Or.inl rfl) (eX af))
   (ag (aN (i:=2) Bh.nd rfl (Or.inl rfl) aB)
   (ag (aN (i:=3) Bh.nd rfl (Or.inl rfl) (bv eC aB (az DR hr aE (aa (pv 0) (aa aB af)))))
   (ag (cI dQ rfl (bu rfl B.range (aa (pv 3) af)) (au (i:=4) Bh.nd rfl (Or.inl rfl))
    (ag (aN (i:=5) Bh.nd rfl (Or.inl rfl) (aJ (uN rfl) (by rfl) B.min PyProof.Rows.boot_min (aa aB (aa (bv Pc (pv 2) (bv mV (bv mV (pv 3) aB) (pv 4))) af))))
    (ag (bX (ji jd j6 j5 dh (pv 1) (aa (bv eC aB (az DR hr aE (aa (pv 0) (aa (bv mV (pv 5) aB) af)))) af)))
    (aj (aN (i:=2) Bh.nd rfl (Or.inl rfl) (bv qM (pv 2) (aR bC (pv 1) (uL pB aB) (fun _ _=>rfl))))))))
   (aj (aG (bW ce (by rfl) B.tup jQ (aa (pv 1) af)))))))),?_⟩
  refine⟨by show 0<=sizeLine;decide,fun Fd hF=>?_⟩;have YE:Fd≠p:=hp.ne hF;have s0:=ao (o:=.lst []) hF;refine⟨_,rfl,p,5,rfl,by decide,by decide,hp.same s0,fun d H1 hd s1 Mv=>⟨_,_,rfl,rfl,?_⟩⟩;obtain⟨W,hW,w1,w5⟩:∃W:Nat,(1+(d:Int))=(W:Int)/\1<=W/\W<=5:=⟨1+d,by lia,by lia,by lia⟩
  change bV 3 (V.int (1+(d:Int))) _ H1 _;rw[hW];refine⟨_,rfl,_,rfl,by lia,by lia,dg (n:=W) (lo:=0) (fun k σ H2=>∃ (rm:Nat) (fs:List Nat) (x4 x5:Option V),σ=[some (.ref p),some (.ref Fd),some (.int rm),some (.int W),x4,x5]/\cx p H H2/\cQ H2 p/\H2 Fd=some (.lst (NV fs))/\fs.length=k/\(∀x∈fs,2<=x/\x<=8)/\pr fs*rm<=32/\2 ^ (W-k)<=rm/\rm<=32) ?_ ?_ ?_⟩
  .refine⟨32,[],_,_,rfl,(cx.of s0).trans s1,Mv,s1 _ _ ah YE,rfl,(fun x hx=>nomatch hx),by decide,?_,by decide⟩;exact Nat.pow_le_pow_right (by decide) (show W-0<=5 by lia)
  .rintro k σ H2 hk ⟨rm,fs,x4,x5,rfl,s2,p2,Wt,fl,fb,fp,rl,r32⟩;rw[eK];have e2:2 ^ (W-k)=2 ^ (W-1-k)*2:=by rw[<-Nat.pow_succ];congr 1;lia
   have g1:1<=2 ^ (W-1-k):=Nat.one_le_two_pow;have ej:((W:Int)-1-(k:Int)).toNat=W-1-k:=by lia
   refine⟨_,rfl,_,rfl,_,_,rfl,rfl,_,rfl,_,_,rfl,rfl,_,_,rfl,rfl,⟨by show (0:Int)<=(W:Int)-1-(k:Int);lia,by show ((2 ^ ((W:Int)-1-(k:Int)).toNat:Nat):Int)<=(rm:Int);rw[ej];lia⟩,8,_,rfl,?_⟩;change bV 5 (V.int (if (rm:Int) / ((2 ^ ((W:Int)-1-(k:Int)).toNat:Nat):Int)<8 then (rm:Int) / ((2 ^ ((W:Int)-1-(k:Int)).toNat:Nat):Int) else 8)) _ H2 _;rw[ej];generalize hg:2 ^ (W-1-k)=g at *;obtain⟨tp,Xf,t2,t8,tg⟩:∃tp:Nat,(if (rm:Int) / (g:Int)<8 then (rm:Int) / (g:Int) else 8)=(tp:Int)/\2<=tp/\tp<=8/\tp*g<=rm:=by
    have d1:2<=rm / g:=(Nat.le_div_iff_mul_le (by lia)).mpr (by lia);have d2:rm / g*g<=rm:=Nat.div_mul_le_self _ _;have e:(rm:Int) / (g:Int)=((rm / g:Nat):Int):=rfl;rw[e];by_cases c:rm / g<8
    .exact⟨rm / g,by rw[ai (by lia)],d1,by lia,d2⟩
    .refine⟨8,by rw[ap (by lia)];rfl,by lia,by lia,bj (Nat.mul_le_mul_right g (by lia:8<=rm / g)) d2⟩
   rw[Xf];refine⟨_,rfl,.inl ⟨rfl,_,br.of Wt⟩,_,rfl,_,rfl,_,_,rfl,rfl,p,tp-1,by show [V.ref p,V.int ((tp:Int)-1)]=_;rw[show ((tp:Int)-1)=((tp-1:Nat):Int) by lia],by lia,bK (show tp-1<8 by lia) (by decide),p2,fun e H4 he s4 hp4=>?_⟩;have hF4:=s4 _ _ Wt YE;refine⟨_,_,rfl,rfl,Fd,_,.int ((2+e:Nat):Int),rfl,by show [V.int (2+(e:Int))]=_;rw[show (2+(e:Int))=((2+e:Nat):Int) by lia],hF4,by rw[bi,fl];exact bK (show k<6 by lia) (by decide),?_⟩;have hF5:(upd H4 Fd (.lst (NV fs++[.int ((2+e:Nat):Int)]))) Fd=some (.lst (NV (fs++[2+e]))):=by rw[ah,iP]
   have s5:cx p H (upd H4 Fd (.lst (NV fs++[.int ((2+e:Nat):Int)]))):=fun b o eq n=>by rw[al (aq eq hF)];exact s4 _ _ (s2 _ _ eq n) n
   have hp5:cQ (upd H4 Fd (.lst (NV fs++[.int ((2+e:Nat):Int)]))) p:=hp4.put YE.symm;generalize upd H4 Fd _=H5 at *;have fe:2+e<=tp:=by lia
   have at1:FX (NV (fs++[2+e])) (-1)=some (.int ((2+e:Nat):Int)):=by rw[<-iP];exact FY _ _
   refine⟨_,rfl,_,rfl,_,rfl,Fd,_,_,_,rfl,rfl,br.of hF5,at1,_,_,rfl,rfl,⟨by lia,by lia⟩,rm / (2+e),fs++[2+e],_,_,rfl,s5,hp5,hF5,by rw[dY,fl];rfl,?_,?_,?_,?_⟩
   .intro x hx;rcases dP.mp hx with z|z
    .exact fb x z
    .rw[dL.mp z];lia
   .rw[jO,mz];exact bj (oP _ (by rw[Nat.mul_comm];exact Nat.div_mul_le_self _ _)) fp
   .rw[show W-(k+1)=W-1-k by lia,hg];refine(Nat.le_div_iff_mul_le (by lia)).mpr ?_;rw[Nat.mul_comm];exact bj (Nat.mul_le_mul_right g fe) tg
   .exact bj (Nat.div_le_self _ _) r32
  .rintro σ H2 ⟨rm,fs,x4,x5,rfl,s2,p2,Wt,fl,fb,fp,rl,r32⟩;have r1:1<=rm:=bj Nat.one_le_two_pow rl;exact⟨_,rfl,Fd,_,rfl,.inl ⟨br.of Wt,fun t ht=>q t fs _ (s2.trans (cx.of (ao ht))) (p2.same (ao ht)) ah ⟨by lia,by lia,fb,bj (zi _ r1) fp⟩⟩⟩
theorem Lk:aD ["_law_sides_here","_law_found","_law_side"] ["_law_sides_here"] (am YB):=⟨rfl,rfl,rfl,by decide +kernel,rfl,by decide +kernel,by decide +kernel⟩
def Ii:Sp:=fun vs H Q _=>∃ (a:Addr) (ns:List Nat),vs=[.ref a]/\H a=some (.tup (NV ns))/\(∀x∈ns,x<=8)/\Q (.int (pr ns:Nat)) H
theorem T5{f:Addr}{fd:FuncData}(F:eM K "_law_many" "_law_many" YB f fd):bn P w K mg base a7 1 f fd ["_law_sides_here"] Ii:=by
 refine F.ok Lk (fun vs H Q E h=>?_) (fun dz A outer s H vs Q E hr h=>?_)
 .obtain⟨a,ns,rfl,_⟩:=h;rfl
 .obtain⟨a,ns,rfl,ha,hx,q⟩:=h;refine⟨_,(ag (aN (i:=1) Lk.nd rfl (Or.inl rfl) aB)
   (ag (cI dQ rfl (mU (pv 0)) (au (i:=2) Lk.nd rfl (Or.inl rfl))
    (aj (aN (i:=1) Lk.nd rfl (Or.inl rfl) (bv pz (pv 1) (pv 2)))))
   (aj (aG (pv 1))))),?_⟩
  refine⟨_,rfl,a,rfl,⟨_,bp.of ha⟩,lA (K:=K) (xs:=NV ns) (fun i σ H2=>H=H2/\∃x,σ=[some (.ref a),some (.int ((pr (ns.take i):Nat):Int)),x]) ⟨rfl,_,rfl⟩ (fun i σ H2 _ z=>by rw[<-z.1];exact bp.of ha) ?_ ?_⟩
  .rintro i x σ _ jw ⟨rfl,y,rfl⟩;obtain⟨v,hv,rfl⟩:=qi jw;have h1:=hx v (cZ hv);refine⟨_,rfl,_,rfl,_,_,rfl,rfl,.inr ⟨by lia,by lia⟩,rfl,some (.int v),?_⟩;rw[show ns.take (i+1)=ns.take i++[v] by rw[iG,hv];rfl,jO];rfl
  .rintro σ _ ⟨rfl,x,rfl⟩;rw[bi,gf];exact⟨_,rfl,q⟩
theorem Ll:aD ["_law_sides_here","_law_house","_law_found","_law_side"] ["_law_sides_here","_law_house"] (am YC):=⟨rfl,rfl,rfl,by decide +kernel,rfl,by decide +kernel,by decide +kernel⟩
def Bi:Sp:=fun vs H Q _=>∃ (a:Addr) (ns:List Nat) (h:Nat),vs=[.ref a,.int h]/\H a=some (.tup (NV ns))/\Bx ns/\∀ (r:Addr) (H':Hp),aA H H'->H r=none->H' r=some (.lst (NV (bQ ns h)))->Q (.ref r) H'
theorem T6{f:Addr}{fd:FuncData}(F:eM K "_law_place" "_law_place" YC f fd):bn P w K mg base a7 1 f fd ["_law_sides_here","_law_house"] Bi:=by
 refine F.ok Ll (fun vs H Q E h=>?_) (fun dz A outer s H vs Q E hr h=>?_)
 .obtain⟨a,ns,h,rfl,_⟩:=h;rfl
 .obtain⟨a,ns,h,rfl,ha,BX,k⟩:=h;have hl:=BX.l5;have hn:=BX.sd;refine⟨_,(ag (aN (i:=2) Ll.nd rfl (Or.inl rfl) (eX af))
   (ag (cI dQ rfl (mU (pv 0)) (au (i:=3) Ll.nd rfl (Or.inl rfl))
    (ag (bX (ji jd j6 j5 dh (pv 2) (aa (bv jE (pv 1) (pv 3)) af)))
    (aj (aN (i:=1) Ll.nd rfl (Or.inl rfl) (bv qM (pv 1) (pv 3))))))
   (aj (aG (pv 2))))),?_⟩
  refine⟨by show 0<=sizeLine;decide,fun D hD=>?_⟩;have s0:=ao (o:=.lst []) hD;refine⟨_,rfl,a,rfl,⟨_,bp.of (s0 _ _ ha)⟩,lA (K:=K) (xs:=NV ns) (fun i σ H2=>(∃x,σ=[some (.ref a),some (.int ((h / pr (ns.take i):Nat):Int)),some (.ref D),x])/\aA H H2/\H2 D=some (.lst (NV (bQ (ns.take i) h)))) ⟨⟨_,by rw[List.take_zero];show _=[_,some (V.int ((h / 1:Nat):Int)),_,_];rw[o5];rfl⟩,s0,ah⟩ (fun i σ H2 _ z=>bp.of (z.2.1 _ _ ha)) ?_ ?_⟩
  .rintro i x σ H2 hx ⟨⟨x',rfl⟩,sm,pV⟩;obtain⟨n,hv,rfl⟩:=qi hx;have hi:i<ns.length:=(dk.mp hv).1;have hnn:=hn n (cZ hv);have tk:ns.take (i+1)=ns.take i++[n]:=by rw[iG,hv];rfl
   rw[tk,tR,jO];have dl:(bQ (ns.take i) h).length<=5:=by rw[eH,j9];lia
   refine⟨_,rfl,.inl ⟨rfl,_,br.of pV⟩,_,rfl,_,rfl,_,_,rfl,rfl,(by show (0:Int)<(n:Int);lia),D,_,_,rfl,rfl,pV,by rw[bi];exact fE dl (by decide),?_⟩;refine⟨_,rfl,_,rfl,_,_,rfl,rfl,⟨by lia,by lia⟩,⟨some (.int n),?_⟩,cy sm hD,?_⟩
   .rw[<-l_];rfl
   .rw[ah,<-iP];rfl
  .rintro σ H2 ⟨⟨x',rfl⟩,sm,pV⟩;rw[bi,gf] at pV;exact⟨_,rfl,k D H2 sm hD pV⟩
theorem T7:aD ["_law_sides_here","_law_house","_law_k","_law_by","_law_place_here"] ["_law_sides_here","_law_house","_law_k","_law_by"] (am YD):=⟨rfl,rfl,rfl,by decide +kernel,rfl,by decide +kernel,by decide +kernel⟩
def Lm:Sp:=fun vs H Q _=>∃ (a:Addr) (ns:List Nat) (h k:Nat) (up:Bool),vs=[.ref a,.int h,.int k,.int (if up then 1 else -1)]/\H a=some (.tup (NV ns))/\Bx ns/\k<ns.length/\∀H',aA H H'->Q (oV (w4 ns h k up)) H'
theorem T8{f:Addr}{fd:FuncData}(F:eM K "_law_step" "_law_step" YD f fd)(PL:cq P w K mg base a7 1 "_law_place" ["_law_sides_here","_law_house"] Bi)(MA:cq P w K mg base a7 1 "_law_many" ["_law_sides_here"] Ii):bn P w K mg base a7 2 f fd ["_law_sides_here","_law_house","_law_k","_law_by"] Lm:=by
 refine F.ok T7 (fun vs H Q E h=>?_) (fun dz A outer s H vs Q E hr h=>?_)
 .obtain⟨a,ns,h,k,up,rfl,_⟩:=h;rfl
 .obtain⟨a,ns,h,k,up,rfl,ha,BX,hk,q⟩:=h;have h1:bA 1 _:=hr;refine⟨_,(ag (aN (i:=4) T7.nd rfl (Or.inl rfl) (az PL h1 aE (aa (pv 0) (aa (pv 1) af))))
   (ag (bE (dw (FJ FF si aB (bv eC (aR bC (pv 4) (pv 2) (fun _ _=>rfl)) (pv 3)) (aR bh (pv 0) (pv 2) (fun _ _=>rfl)))) (aj (aG cn)) aL)
   (aj (aG (bv eC (pv 1) (bv pz (pv 3) (az MA h1 aE (aa (xM CQ (pv 0) B6 (B7 (pv 2))) af)))))))),?_⟩
  generalize Pf:(if up=true then (1:Int) else -1)=u;have gk:=BX.gd hk;have gd:(NV ns)[k]?=some (.int ((ns.getD k 0:Nat):Int)):=by
   rw[bL,cU hk,cr,cU hk];rfl
  refine⟨_,rfl,_,rfl,a,ns,h,rfl,ha,BX,fun r H1 s1 hr0 yw=>?_⟩;have dl:=ni (h:=h) BX.pos hk;have key:(0<=(((bQ ns h).getD k 0:Nat):Int)+u/\(((bQ ns h).getD k 0:Nat):Int)+u<((ns.getD k 0:Nat):Int))/\(∃y:Nat,w4 ns h k up=some y/\(h:Int)+u*((pr (ns.take k):Nat):Int)=(y:Int))\/¬ (0<=(((bQ ns h).getD k 0:Nat):Int)+u/\(((bQ ns h).getD k 0:Nat):Int)+u<((ns.getD k 0:Nat):Int))/\w4 ns h k up=none:=by
   unfold w4;cases up with
   |true=>
    have Pf:(1:Int)=u:=Pf;rw[<-Pf,ai rfl];by_cases c:(bQ ns h).getD k 0+1<ns.getD k 0
    .exact .inl ⟨⟨by lia,by lia⟩,h+pr (ns.take k),ai c,by lia⟩
    .exact .inr ⟨fun z=>c (by lia),ap c⟩
   |false=>
    have Pf:(-1:Int)=u:=Pf;rw[<-Pf,ap (by decide)];by_cases c:1<=(bQ ns h).getD k 0
    .have:=M8 hk c;exact .inl ⟨⟨by lia,by lia⟩,h-pr (ns.take k),ai c,by lia⟩
    .exact .inr ⟨fun z=>c (by lia),ap c⟩
  have u64:-(2 ^ 64)<u/\u<2 ^ 64:=by rw[<-Pf];split <;> decide
  have q1:=q H1 s1;have fin:∀y:Nat,w4 ns h k up=some y->(h:Int)+u*((pr (ns.take k):Nat):Int)=(y:Int)->NE (lM (Jt fun i j=>.int (i+j)) (be 1) (lM (rI Fz fun i j=>.int (i*j)) (be 3) (nV Ii [] E0 (dR (tSl Tx (be 0) B5 (Mo (be 2))) mW)))) { nx:=fun _ H'=>Q .bR H',rt:=Q } [some (.ref a),some (.int (h:Int)),some (.int (k:Int)),some (.int u),some (.ref r)] H1:=fun y hy e=>by
   refine⟨_,rfl,_,rfl,_,rfl,_,rfl,_,rfl,a,_,rfl,s1 _ _ ha,fun t H2 s2 ht=>?_⟩;rw[Ig,show (NV ns).take k=NV (ns.take k) from (List.map_take).symm] at ht;refine⟨t,ns.take k,rfl,ht,fun x hx=>(BX.sd x (mf hx)).2,_,_,rfl,rfl,.inl u64,_,_,rfl,rfl,?_⟩;have:=q H2 (s1.trans s2);rw[hy] at this;have e':(fun (i j:Int)=>i+j) (h:Int) ((fun (i j:Int)=>i*j) u ((pr (ns.take k):Nat):Int))=(y:Int):=e;show Q (.int _) _;rw[e];exact this
  refine⟨_,rfl,_,rfl,r,_,_,_,rfl,rfl,br.of yw,aw (f_ hk),_,rfl,_,_,rfl,rfl,_,_,rfl,rfl,_,rfl,?_⟩;rcases key with ⟨⟨c1,c2⟩,y,hy,e⟩|⟨c,hy⟩
  .refine ft (aT c1) ⟨_,rfl,_,rfl,a,_,_,_,rfl,rfl,bp.of (s1 _ _ ha),aw gd,_,_,rfl,rfl,_,rfl,dE (by rw[aT c2];rfl) (fin y hy e)⟩
  .rw[hy] at q1;refine iE (fun c1=>⟨_,rfl,_,rfl,a,_,_,_,rfl,rfl,bp.of (s1 _ _ ha),aw gd,_,_,rfl,rfl,_,rfl,ft (by rw[cW fun c2=>c ⟨c_ c1,c2⟩];rfl) q1⟩) (fun c1=>⟨_,rfl,gJ q1⟩)
end
abbrev YF:Stmt:=fA 58
abbrev YG:Stmt:=fA 59
abbrev YH:Stmt:=fA 60
theorem Ij:(["_law_other"]:List Str).Nodup:=by decide +kernel
theorem iA:(["_law_k","_law_sides_here","_law_house","_law_home"]:List Str).Nodup:=by decide +kernel
theorem ou{β:Type}{K:PySem.W.Frag}{a D:Addr}{g:TG}{tt:TT}{te:TE}{fin:Hp->Prop}{σB:St}{H0:Hp}(ms:List β)(e:β->V)(c:β->Bool)(G:β->V)(cP:St->Prop)(ha:H0 a=some (.lst (ms.map e)))(hD:H0 D=none)(hn:ms.length<=1000)(h0:cP σB)(hs:∀m σ H (Kt:V->St->Hp->Prop) (Kf:St->Hp->Prop),m∈ms->cP σ->aA H0 H->(∀σ2 H2,cP σ2->aA H H2->c m=true->Kt (G m) σ2 H2)->(∀σ2 H2,cP σ2->aA H H2->c m=false->Kf σ2 H2)->
   g (e m) σ H fun σ2 H2=>tt σ2 H2 fun b H3=>if b=true then te σ2 H3 fun v H4=>Kt v σ2 H4 else Kf σ2 H3)(hd:∀H,aA H0 H->H D=some (.lst ((ms.filter c).map G))->fin H):gR (Fw K a) g tt te D fin σB (upd H0 D (.lst [])):=by
 refine jl (xs:=ms.map e) (fun i ys σ H=>cP σ/\aA H0 H/\H D=some (.lst ys)/\ys=((ms.take i).filter c).map G) ⟨h0,ao hD,ah,rfl⟩ (fun i ys σ H _ z=>br.of (z.2.1 _ _ ha)) ?_ ?_
 .rintro i x ys σ H Kt Kf hx ⟨sh,sm,lY,rfl⟩ kt kf;rw[bL] at hx;obtain⟨y,hy,rfl⟩:=vC.mp hx;have tk:ms.take (i+1)=ms.take i++[y]:=by rw[iG,hy];rfl
  refine hs y σ H Kt Kf (cZ hy) sh sm (fun σ2 H2 wQ s2 e=>?_) (fun σ2 H2 wQ s2 e=>?_)
  .refine kt _ _ _ (s2 _ _ lY) ?_ ⟨wQ,cy (sm.trans s2) hD,ah,?_⟩
   .rw[aP];exact fE (bj (je _ _) (zu _ _)) (fE hn (by decide))
   .rw[tk,jR,d_,eZ,e];rfl
  .refine kf _ _ ⟨wQ,sm.trans s2,s2 _ _ lY,?_⟩;rw[tk,jR,eZ,e];simp
 .rintro ys σ H ⟨_,sm,lY,rfl⟩;rw[aP,gf] at lY;exact hd H sm lY
theorem q0{lo:Int}{n:Nat}{D:Addr}{g:TG}{tt:TT}{te:TE}{fin:Hp->Prop}{σB:St}{H0:Hp}(c:Nat->Bool)(cP:St->Prop)(hD:H0 D=none)(hn:n<=1000)(h0:cP σB)(hs:∀x σ H (Kt:V->St->Hp->Prop) (Kf:St->Hp->Prop),x<n->cP σ->aA H0 H->(∀σ2 H2,cP σ2->aA H H2->c x=true->Kt (.int (lo+(x:Nat))) σ2 H2)->(∀σ2 H2,cP σ2->aA H H2->c x=false->Kf σ2 H2)->
   g (.int (lo+(x:Nat))) σ H fun σ2 H2=>tt σ2 H2 fun b H3=>if b=true then te σ2 H3 fun v H4=>Kt v σ2 H4 else Kf σ2 H3)(hd:∀H,aA H0 H->H D=some (.lst (((List.range n).filter c).map fun (x:Nat)=>V.int (lo+(x:Int))))->fin H):gR (JS lo n) g tt te D fin σB (upd H0 D (.lst [])):=by
 refine iy (fun i ys σ H=>cP σ/\aA H0 H/\H D=some (.lst ys)/\ys=((List.range i).filter c).map fun (x:Nat)=>V.int (lo+(x:Int))) ⟨h0,ao hD,ah,rfl⟩ ?_ ?_
 .rintro i ys σ H Kt Kf hi ⟨sh,sm,lY,rfl⟩ kt kf;refine hs i σ H Kt Kf hi sh sm (fun σ2 H2 wQ s2 e=>?_) (fun σ2 H2 wQ s2 e=>?_)
  .refine kt _ _ _ (s2 _ _ lY) ?_ ⟨wQ,cy (sm.trans s2) hD,ah,?_⟩
   .rw[aP];refine fE (je _ _) ?_;rw[dO];exact bK (show i<1000 by lia) (by decide)
   .rw[iV,jR,d_];simp[eZ,e]
  .refine kf _ _ ⟨wQ,sm.trans s2,s2 _ _ lY,?_⟩;rw[iV,jR];simp[eZ,e]
 .rintro ys σ H ⟨_,sm,lY,rfl⟩;exact hd H sm lY
theorem vj{e:V->V->Bool}:∀ {xs:List V},iL e xs []=decide (xs=[])
 |[]=>rfl
 |x::xs=>by simp[iL]
def y_(ns:List Nat)(h k:Nat):List Nat:=(w4 ns h k false).toList++(w4 ns h k true).toList
theorem w6{ns:List Nat}{h g k:Nat}(hp:∀x∈ns,0<x)(hk:k<ns.length):g∈y_ ns h k↔y7 ns h g k:=by
 unfold y_ y7;rw[dP,Option.mem_toList,Option.mem_toList,Hu hp hk,Ba hp hk,or_comm];refine or_congr ?_ ?_
 .unfold w4;rw[ai rfl];by_cases c:(bQ ns h).getD k 0+1<ns.getD k 0
  .rw[ai c];exact⟨fun z=>⟨c,(a8 z).symm⟩,fun z=>by rw[z.2]⟩
  .rw[ap c];exact⟨fun z=>(nomatch z),fun z=>absurd z.1 c⟩
 .unfold w4;rw[ap (by decide)];by_cases c:1<=(bQ ns h).getD k 0
  .have:=M8 hk c;rw[ai c];exact⟨fun z=>⟨c,by have:=a8 z;lia⟩,fun z=>congrArg some (by lia)⟩
  .rw[ap c];exact⟨fun z=>(nomatch z),fun z=>absurd z.1 c⟩
theorem EB{a b:Option Nat}:([a,b].filter Option.isSome).map oV=NV (a.toList++b.toList):=by cases a <;> cases b <;> rfl
theorem Lo{n:Nat}{c:Nat->Bool}:(NV ((List.range n).filter c))[0]?=((List.range n).find? c).map fun (k:Nat)=>V.int (k:Int):=by
 rw[bL,<-List.head?_eq_getElem?,List.head?_filter]
section
variable {P:Program} {w:World} {K:PySem.W.Frag} {mg:Str->Option Value} {base:Heap}
theorem YI:aD ["_law_sides_here","_law_house","_law_k"] ["_law_sides_here","_law_house","_law_k"] (am YF):=⟨rfl,rfl,rfl,by decide +kernel,rfl,by decide +kernel,by decide +kernel⟩
def Ik:Sp:=fun vs H Q _=>∃ (a:Addr) (ns:List Nat) (h k:Nat),vs=[.ref a,.int h,.int k]/\H a=some (.tup (NV ns))/\Bx ns/\k<ns.length/\∀ (r:Addr) (H':Hp),aA H H'->H r=none->H' r=some (.lst (NV (y_ ns h k)))->Q (.ref r) H'
theorem T9{f:Addr}{fd:FuncData}(F:eM K "_law_ties" "_law_ties" YF f fd)(ST:cq P w K mg base a7 2 "_law_step" ["_law_sides_here","_law_house","_law_k","_law_by"] Lm):bn P w K mg base a7 3 f fd ["_law_sides_here","_law_house","_law_k"] Ik:=by
 refine F.ok YI (fun vs H Q E h=>?_) (fun dz A outer s H vs Q E hr h=>?_)
 .obtain⟨a,ns,h,k,rfl,_⟩:=h;rfl
 .obtain⟨a,ns,h,k,rfl,ha,BX,hk,q⟩:=h;refine'⟨_,(aj (aG ?c1)),?_⟩;case c1=>
   refine' dN (g:=(bV 0)) (tt:=(iK (lM (fun x y H Q=>y=.bR/\Q (.bl (!decide (x=.bR))) H) (be 0) (tC .bR)))) (te:=(be 0)) (NB:=["_law_other"]) (src:=[none]) (cp (by kernel_rfl)) rfl (cS (eX (aa (az ST hr aE (aa (pv 0) (aa (pv 1) (aa (pv 2) (aa (uL pB aB) af))))) (aa (az ST hr aE (aa (pv 0) (aa (pv 1) (aa (pv 2) (aa aB af))))) af)))) ?g ?t ?e;case g=>exact fun cl C s₃ H₃ fp=>(au (i:=0) Ij rfl (Or.inl rfl) (Or.inr rfl))
   case t=>exact fun cl C s₃ H₃ fp=>d8 (aK wu (pv 0) cn (aQ _))
   case e=>exact fun cl C s₃ H₃ fp=>(pv 0)
  refine⟨_,rfl,_,rfl,_,rfl,_,rfl,a,ns,h,k,false,rfl,ha,BX,hk,fun H1 s1=>⟨_,rfl,_,rfl,_,rfl,a,ns,h,k,true,rfl,s1 _ _ ha,BX,hk,fun H2 s2=>⟨by show 2<=sizeLine;decide,fun L hL=>⟨_,rfl,⟨_,br.of ah⟩,fun D hD=>?_⟩⟩⟩⟩;have s3:=(s1.trans s2).trans (ao (o:=.lst [oV (w4 ns h k false),oV (w4 ns h k true)]) hL);refine ou [w4 ns h k false,w4 ns h k true] oV Option.isSome oV (fun σ=>∃b,σ=[b]) ah hD (by show 2<=1000;decide) ⟨_,rfl⟩ ?_ ?_
  .rintro m σ H5 Kt Kf hm ⟨b',rfl⟩ s5 kt kf;refine⟨_,rfl,rfl,_,rfl,?_⟩;cases m with
   |none=>exact e_ (kf _ _ ⟨_,rfl⟩ (aA.refl _) rfl)
   |some y=>exact ft rfl ⟨_,rfl,kt _ _ ⟨_,rfl⟩ (aA.refl _) rfl⟩
  .intro H5 s5 nk;rw[EB] at nk;exact q D H5 (s3.trans s5) (s3.free hD) nk
theorem T_:aD ["_law_sides_here","_law_house","_law_home","_law_unlike"] ["_law_sides_here","_law_house","_law_home"] (am YG):=⟨rfl,rfl,rfl,by decide +kernel,rfl,by decide +kernel,by decide +kernel⟩
def Il:Sp:=fun vs H Q _=>∃ (a:Addr) (ns:List Nat) (h g:Nat),vs=[.ref a,.int h,.int g]/\H a=some (.tup (NV ns))/\Bx ns/\∀H',aA H H'->Q (oV (jb ns h g)) H'
theorem Ua{f:Addr}{fd:FuncData}(F:eM K "_law_phase" "_law_phase" YG f fd)(B:Bl mg)(PL:cq P w K mg base a7 1 "_law_place" ["_law_sides_here","_law_house"] Bi):bn P w K mg base a7 2 f fd ["_law_sides_here","_law_house","_law_home"] Il:=by
 refine F.ok T_ (fun vs H Q E h=>?_) (fun dz A outer s H vs Q E hr h=>?_)
 .obtain⟨a,ns,h,g,rfl,_⟩:=h;rfl
 .obtain⟨a,ns,h,g,rfl,ha,BX,q⟩:=h;have l5:=BX.l5;refine'⟨_,(ag (dA (i:=3) (g:=(bV 0)) (tt:=(iK (lM (WV) (lM (NU K) (nV Bi [] E0 (dR (be 1) (dR (be 2) mW))) (be 0)) (lM (NU K) (nV Bi [] E0 (dR (be 1) (dR (be 3) mW))) (be 0))))) (te:=(be 0)) (NB:=["_law_k","_law_sides_here","_law_house","_law_home"]) (src:=[none,some 0,some 1,some 2]) (cp (by kernel_rfl)) rfl (bu rfl B.range (aa (aJ aF (by rfl) B.len dH (aa (pv 0) af)) af)) ?g1 ?t1 ?e1 T_.nd rfl rfl rfl)
   (aj (aG (ip (aK (Oi (e:=xO) hr.u) (pv 3) (eX af) (aQ _)) (aR bC (pv 3) aB (fun _ _=>rfl)) cn)))),?_⟩
  case g1=>exact fun cl C s₃ H₃ fp=>(au (i:=0) iA rfl (Or.inl rfl) (Or.inr rfl))
  case t1=>exact fun cl C s₃ H₃ fp=>d8 (aK nR (aR bC (az PL hr aE (aa (pv 1) (aa (pv 2) af))) (pv 0) (fun _ _=>rfl)) (aR bC (az PL hr aE (aa (pv 1) (aa (pv 3) af))) (pv 0) (fun _ _=>rfl)) (aQ _))
  case e1=>exact fun cl C s₃ H₃ fp=>(pv 0)
  refine⟨_,rfl,a,_,rfl,.inr (bp.of ha),_,rfl,by lia,by rw[bi];lia,fun D hD=>?_⟩;rw[bi];refine q0 (lo:=0) (n:=ns.length) (fun i=>decide ((bQ ns h).getD i 0≠(bQ ns g).getD i 0)) (fun σ=>∃b,σ=[b,some (.ref a),some (.int (h:Int)),some (.int (g:Int))]) hD (by lia) ⟨_,rfl⟩ ?_ ?_
  .rintro j σ H5 Kt Kf hj ⟨b',rfl⟩ s5 kt kf;rw[eK] at kt |-;refine⟨_,rfl,_,rfl,a,ns,h,rfl,s5 _ _ ha,BX,fun r1 H6 s6 _ yw=>⟨_,rfl,r1,_,_,_,rfl,rfl,br.of yw,aw (f_ hj),?_⟩⟩;refine⟨_,rfl,_,rfl,a,ns,g,rfl,s6 _ _ (s5 _ _ ha),BX,fun r2 H7 s7 _ E_=>⟨_,rfl,r2,_,_,_,rfl,rfl,br.of E_,aw (f_ hj),rfl,_,rfl,?_⟩⟩;have s57:=s6.trans s7;by_cases c:(bQ ns h).getD j 0=(bQ ns g).getD j 0
   .rw[c,aT rfl];exact e_ (kf _ _ ⟨_,rfl⟩ s57 (cW fun z=>z c))
   .rw[cW (fun z=>c (by injection z with z;exact cN z))];exact gJ ⟨_,rfl,kt _ _ ⟨_,rfl⟩ s57 (aT c)⟩
  intro H5 s5 nk;rw[show (((List.range ns.length).filter fun i=>decide ((bQ ns h).getD i 0≠(bQ ns g).getD i 0)).map fun (x:Nat)=>V.int (0+(x:Int)))=NV ((List.range ns.length).filter fun i=>decide ((bQ ns h).getD i 0≠(bQ ns g).getD i 0)) from lT fun x _=>by rw[eK]] at nk;have hf:=Lo (n:=ns.length) (c:=fun i=>decide ((bQ ns h).getD i 0≠(bQ ns g).getD i 0));refine⟨_,rfl,by show 0<=sizeLine;decide,fun E1 YJ=>?_⟩;have sE:=ao (o:=.lst []) YJ;refine⟨D,E1,_,[],rfl,rfl,br.of (sE _ _ nk),br.of ah,fun i h1 h2=>absurd h2 (by simp),_,rfl,?_⟩;rw[ai rfl,vj];have q1:=q _ (s5.trans sE);unfold jb at q1;cases hp:(List.range ns.length).find? fun i=>decide ((bQ ns h).getD i 0≠(bQ ns g).getD i 0) with
  |none=>
   rw[hp] at q1 hf;have e:NV ((List.range ns.length).filter fun i=>decide ((bQ ns h).getD i 0≠(bQ ns g).getD i 0))=[]:=zd (by have:=Fl.mp hf;lia);rw[aT e];exact e_ q1
  |some k=>
   rw[hp] at q1 hf;rw[cW (fun z=>by rw[z] at hf;cases hf)];exact gJ ⟨_,rfl,D,_,_,_,rfl,rfl,br.of (sE _ _ nk),aw (j:=0) hf,q1⟩
theorem Ub:aD ["_law_sides_here","_law_house","_law_home","_law_k"] ["_law_sides_here","_law_house","_law_home"] (am YH):=⟨rfl,rfl,rfl,by decide +kernel,rfl,by decide +kernel,by decide +kernel⟩
def Pg:Sp:=fun vs H Q _=>∃ (a:Addr) (ns:List Nat) (h g:Nat),vs=[.ref a,.int h,.int g]/\H a=some (.tup (NV ns))/\Bx ns/\∀H',aA H H'->Q (oV (y8 ns h g)) H'
theorem Uc{f:Addr}{fd:FuncData}(F:eM K "_law_wish" "_law_wish" YH f fd)(PL:cq P w K mg base a7 1 "_law_place" ["_law_sides_here","_law_house"] Bi)(ST:cq P w K mg base a7 2 "_law_step" ["_law_sides_here","_law_house","_law_k","_law_by"] Lm)(PH:cq P w K mg base a7 2 "_law_phase" ["_law_sides_here","_law_house","_law_home"] Il):bn P w K mg base a7 3 f fd ["_law_sides_here","_law_house","_law_home"] Pg:=by
 refine F.ok Ub (fun vs H Q E h=>?_) (fun dz A outer s H vs Q E hr h=>?_)
 .obtain⟨a,ns,h,g,rfl,_⟩:=h;rfl
 .obtain⟨a,ns,h,g,rfl,ha,BX,q⟩:=h;have h1:bA 1 _:=hr.mono (by decide);refine⟨_,(ag (aN (i:=3) Ub.nd rfl (Or.inl rfl) (az PH hr aE (aa (pv 0) (aa (pv 1) (aa (pv 2) af)))))
   (ag (bE (aK i7 (pv 3) cn (aQ _)) (aj (aG cn)) aL)
   (aj (aG (az ST hr aE (aa (pv 0) (aa (pv 1) (aa (pv 3) (aa (ip (aK si (aR bC (az PL h1 aE (aa (pv 0) (aa (pv 1) af))) (pv 3) (fun _ _=>rfl)) (aR bC (az PL h1 aE (aa (pv 0) (aa (pv 2) af))) (pv 3) (fun _ _=>rfl)) (aQ _)) aB (uL pB aB)) af))))))))),?_⟩
  refine⟨_,rfl,_,rfl,_,rfl,a,ns,h,g,rfl,ha,BX,fun H1 s1=>?_⟩;cases hp:jb ns h g with
  |none=>
   have:=q H1 s1;unfold y8 at this;rw[hp] at this;exact⟨_,rfl,rfl,_,rfl,gJ this⟩
  |some k=>
   obtain⟨hk,ne⟩:=f9 hp;refine⟨_,rfl,rfl,_,rfl,dE rfl ?_⟩;refine⟨_,rfl,_,rfl,_,rfl,_,rfl,_,rfl,a,ns,h,rfl,s1 _ _ ha,BX,fun r1 H2 s2 _ yw=>⟨_,rfl,r1,_,_,_,rfl,rfl,br.of yw,aw (f_ hk),?_⟩⟩;have j4:=s1.trans s2;refine⟨_,rfl,_,rfl,a,ns,g,rfl,j4 _ _ ha,BX,fun r2 H3 s3 _ E_=>⟨_,rfl,r2,_,_,_,rfl,rfl,br.of E_,aw (f_ hk),_,_,rfl,rfl,_,rfl,?_⟩⟩;have pW:=j4.trans s3;have fin:∀H',aA H3 H'->Q (oV (w4 ns h k (decide ((bQ ns h).getD k 0<(bQ ns g).getD k 0)))) H':=fun H' s'=>by
    have:=q H' (pW.trans s');rw[M9 BX.pos hp] at this;exact this
   by_cases c:(bQ ns h).getD k 0<(bQ ns g).getD k 0
   .rw[aT c] at fin;exact ft (aT (by lia)) ⟨a,ns,h,k,true,rfl,pW _ _ ha,BX,hk,fin⟩
   .rw[cW c] at fin;exact dE (cW (by lia)) ⟨_,rfl,a,ns,h,k,false,rfl,pW _ _ ha,BX,hk,fin⟩
end
abbrev YK:Stmt:=eU (fA 50) 5
abbrev YL:Stmt:=fA 18
abbrev YM:Stmt:=fA 19
abbrev YN:Stmt:=fA 20
abbrev YO:Stmt:=fA 21
abbrev YQ:Stmt:=fA 22
theorem Lp:(["letter","came","stand","house"]:List Str).Nodup:=by decide +kernel
theorem Im{pn sr:Addr}:(C0 pn sr).lookup ("way":Str)=none:=nj (by decide +kernel) (by decide +kernel)
theorem C5{pn sr:Addr}:(C0 pn sr).lookup ("tied":Str)=none:=nj (by decide +kernel) (by decide +kernel)
theorem eI{K:PySem.W.Frag}{H:Hp}{i:Int}:Be K H (.int i) (some i):=fun _ _=>.int i
theorem Io{ns:List Nat}{h g:Nat}(BX:Bx ns)(hh:h<pr ns)(hg:g<pr ns):HY ns (some (h:Int)) (some (g:Int))=true↔∃k,y7 ns h g k:=by
 rw[<-lH BX.pos hh hg];unfold HY;rw[cg hh,cg hg];show decide _=true↔_;rw[fD];exact Iff.rfl
theorem Bj{ns:List Nat}{h y k:Nat}(BX:Bx ns)(F:fR (pr ns) (jq ns))(hh:h<pr ns)(hk:k<ns.length)(t:y7 ns h y k):y<pr ns:=by
 rcases t with t|t
 .have m:((h:Int),(y:Int))∈jq ns:=f8.mpr (.inl (a9.mpr ⟨(h,y),pR.mpr ⟨hh,(Eu BX.pos).mpr ⟨k,t⟩⟩,rfl⟩));have:=(F.rg _ m).2.2;exact rW.mp this
 .have:=((Ba BX.pos hk).mp t).2;lia
theorem Ip{lo:Int}{n:Nat}{D:Addr}{g:TG}{tt:TT}{te:TE}{fin:Hp->Prop}{σB:St}{H0:Hp}(c:Nat->Bool)(G:Nat->V)(cP:St->Prop)(hD:H0 D=none)(hn:n<=1000)(h0:cP σB)(hs:∀x σ H (Kt:V->St->Hp->Prop) (Kf:St->Hp->Prop),x<n->cP σ->aA H0 H->(∀σ2 H2,cP σ2->aA H H2->c x=true->Kt (G x) σ2 H2)->(∀σ2 H2,cP σ2->aA H H2->c x=false->Kf σ2 H2)->
   g (.int (lo+(x:Nat))) σ H fun σ2 H2=>tt σ2 H2 fun b H3=>if b=true then te σ2 H3 fun v H4=>Kt v σ2 H4 else Kf σ2 H3)(hd:∀H,aA H0 H->H D=some (.lst (((List.range n).filter c).map G))->fin H):gR (JS lo n) g tt te D fin σB (upd H0 D (.lst [])):=by
 refine iy (fun i ys σ H=>cP σ/\aA H0 H/\H D=some (.lst ys)/\ys=((List.range i).filter c).map G) ⟨h0,ao hD,ah,rfl⟩ ?_ ?_
 .rintro i ys σ H Kt Kf hi ⟨sh,sm,lY,rfl⟩ kt kf;refine hs i σ H Kt Kf hi sh sm (fun σ2 H2 wQ s2 e=>?_) (fun σ2 H2 wQ s2 e=>?_)
  .refine kt _ _ _ (s2 _ _ lY) ?_ ⟨wQ,cy (sm.trans s2) hD,ah,?_⟩
   .rw[aP];refine fE (je _ _) ?_;rw[dO];exact bK (show i<1000 by lia) (by decide)
   .rw[iV,jR,d_];simp[eZ,e]
  .refine kf _ _ ⟨wQ,sm.trans s2,s2 _ _ lY,?_⟩;rw[iV,jR];simp[eZ,e]
 .rintro ys σ H ⟨_,sm,lY,rfl⟩;exact hd H sm lY
theorem gW{st:List (Option Nat)}{i:Nat}(h:i<st.length):(st.map oV)[i]?=some (oV (st.getD i none)):=by
 rw[bL,cr,cU h];rfl
theorem vk{xs:List V}{i:Nat}(h:i<xs.length):xs[i]?=some (xs.getD i .bR):=by
 rw[cr,cU h];rfl
theorem l4{ns:List Nat}{k:Nat}(hk:k<ns.length):(NV ns)[k]?=some (.int ((ns.getD k 0:Nat):Int)):=by
 rw[bL,cU hk,cr,cU hk];rfl
theorem jP{o:Option Nat}{h:Nat}:JV (oV o) (.int (h:Int))=true:=by cases o <;> rfl
theorem ow{o:Option Nat}{h:Nat}:decide (oV o=V.int (h:Int))=decide (o=some h):=by
 cases o with
 |none=>rfl
 |some y=>
  refine rJ.mpr ⟨fun e=>?_,fun e=>by rw[a8 e];rfl⟩;injection e with e;rw[cN e]
theorem w_{i:Int}{xs:List V}(f:∀v∈xs,∃j:Int,v=.int j):B_ (.int i) xs=true↔V.int i∈xs:=by
 unfold B_;rw[vR];constructor
 .rintro⟨v,hv,e⟩;obtain⟨j,rfl⟩:=f v hv;have:(j==i)=true\/(i==j)=true:=by first|exact .inl e|exact .inr e
  have:j=i:=by rcases this with t|t <;> simp at t <;> lia
  rw[<-this];exact hv
 .intro hv;exact⟨_,hv,by show (i==i)=true;simp⟩
theorem Ud{xs:List V}(f:∀v∈xs,∃j:Int,v=.int j):xs.all ir=true:=j_.mpr fun x hx=>by obtain⟨y,rfl⟩:=f x hx;rfl
theorem xb{xs:List Nat}:∀v∈NV xs,∃j:Int,v=.int j:=fun v hv=>by obtain⟨y,_,rfl⟩:=a9.mp hv;exact⟨_,rfl⟩
theorem Lq{K:PySem.W.Frag}{H:Hp}{i:Int}(h:Wh K H (.int i) none):False:=by
 cases h with
 |no h=>
  obtain⟨t,ty,z⟩:=h;cases ty with
  |of ty=>
   cases ty;rcases z with z|⟨_,z⟩
   .rw[qh] at z;cases z
   .rw[on] at z;cases z
theorem yC{ns:List Nat}{h g:Nat}(hh:h<pr ns)(hg:g<pr ns)(ne:h≠g):∃p,jb ns h g=some p:=by
 cases e:jb ns h g with
 |some p=>exact⟨p,rfl⟩
 |none=>
  refine absurd ?_ ne;have ed:bQ ns h=bQ ns g:=List.ext_getElem (eH.trans eH.symm) fun i h1 h2=>by
   have hi:i<ns.length:=by rw[<-eH (ns:=ns) (h:=h)];exact h1
   have:=mj.mp e i (cY.mpr hi);simp only[mm,Decidable.not_not] at this;rw[cr,cr,cU h1,cU h2] at this;exact this
  rw[<-qY hh,<-qY hg,ed]
structure Sn(ns homes:List Nat)(st:List (Option Nat)):Prop where
 l:homes.length=st.length
 ok:∀i h,st.getD i none=some h->h<pr ns/\homes.getD i 0<pr ns/\h≠homes.getD i 0
 vm:st.length<=16
def Ln(ns:List Nat)(h g y:Nat):Prop:=∃k p,jb ns h g=some p/\y7 ns h y k/\k<=p
def Bt(ns homes:List Nat)(st:List (Option Nat))(xs:List V)(i:Nat):Prop:=(st.getD i none=none->xs.getD i .bR=.bR)/\∀h,st.getD i none=some h->∃y:Nat,xs.getD i .bR=.int (y:Int)/\Ln ns h (homes.getD i 0) y/\∀j,j<i->st.getD j none=some h->xs.getD j .bR≠.int (y:Int)
def ur(ns homes:List Nat)(st:List (Option Nat))(xs:List V):Prop:=xs.length=st.length/\∀i,i<st.length->Bt ns homes st xs i
theorem Ph{ns homes:List Nat}{st:List (Option Nat)}{xs:List V}{i:Nat}(e:st.getD i none=none):Bt ns homes st xs i↔xs.getD i .bR=.bR:=
 ⟨fun h=>h.1 e,fun h=>⟨fun _=>h,fun h' z=>by rw[e] at z;cases z⟩⟩
theorem Lr{ns homes:List Nat}{st:List (Option Nat)}{xs:List V}{i h:Nat}(e:st.getD i none=some h):Bt ns homes st xs i↔∃y:Nat,xs.getD i .bR=.int (y:Int)/\Ln ns h (homes.getD i 0) y/\∀j,j<i->st.getD j none=some h->xs.getD j .bR≠.int (y:Int):=
 ⟨fun b=>b.2 h e,fun b=>⟨fun z=>(by rw[e] at z;cases z),fun h' z=>(by rw[e] at z;cases z;exact b)⟩⟩
section
variable {P:Program} {w:World} {K:PySem.W.Frag} {mg:Str->Option Value} {base:Heap}
theorem YR:aD ["self","house"] ["self","house"] (am YK):=⟨rfl,rfl,rfl,by decide +kernel,rfl,by decide +kernel,by decide +kernel⟩
def Ls(C CB:Addr):Sp:=fun vs H Q _=>∃ (L:Addr->Prop) (b:Addr) (ns:List Nat) (h:Nat),vs=[.ref b,.int h]/\eF C CB H L b ns/\h<pr ns/\∀ (r:Addr) (H':Hp),aA H H'->H' r=some (.lst (NV (dS (pr ns) (jq ns) h)))->Q (.ref r) H'
theorem Ue{f C CB CE:Addr}{fd:FuncData}(F:eM K "tied" "Box.tied" YK f fd)(T:NT K mg C)(TB:CZ K mg CB)(MO:fc P w K mg base (iw P w) 5 C "out" ["self","house"] (CN K C CE KU)):bn P w K mg base a7 6 f fd ["self","house"] (Ls C CB):=by
 obtain⟨fO,fdO,mO,bO,GO⟩:=MO.ex;refine F.ok YR (fun vs H Q E h=>?_) (fun dz A outer s H vs Q E hr h=>?_)
 .obtain⟨L,b,ns,h,rfl,_⟩:=h;rfl
 .obtain⟨L,b,ns,h,rfl,⟨BX,dx,pn,sr,hb,N,gZ⟩,hh,q⟩:=h;obtain⟨Yu,tl,ol,ds,hN,_⟩:=N.ob;refine⟨_,aj (aG (cL (gI (pv 0) rfl) T.cl mO GO hr bO .nil jj (aa (pv 1) af))),?_⟩;refine⟨_,rfl,b,CB,dx,_,_,rfl,hb,TB.cl,TB.nN,HP,pn,Yu,_,rfl,hN,O5 _ _ _ _,_,rfl,L,pn,pr ns,_,_,_,rfl,N,.int _,(fun z=>by rw[cg hh] at z;cases z),fun i hi e r H1 s1 hr0 yw=>?_⟩;cases e;exact q r H1 s1 yw
theorem YS:aD ["stand","came","house"] ["stand","came","house"] (am YN):=⟨rfl,rfl,rfl,by decide +kernel,rfl,by decide +kernel,by decide +kernel⟩
def Pi:Sp:=fun vs H Q _=>∃ (sa ca:Addr) (st:List (Option Nat)) (ys:List V) (h:Nat),vs=[.ref sa,.ref ca,.int h]/\H sa=some (.tup (st.map oV))/\H ca=some (.tup ys)/\ys.length<=st.length/\st.length<=16/\
 ∀ (r:Addr) (H':Hp),aA H H'->H' r=some (.lst (((List.range ys.length).filter fun j=>decide (st.getD j none=some h)).map fun j=>ys.getD j .bR))->Q (.ref r) H'
theorem Uf{f:Addr}{fd:FuncData}(F:eM K "came_by_at" "came_by_at" YN f fd)(B:Bl mg):bn P w K mg base a7 1 f fd ["stand","came","house"] Pi:=by
 refine F.ok YS (fun vs H Q E h=>?_) (fun dz A outer s H vs Q E hr h=>?_)
 .obtain⟨sa,ca,st,ys,h,rfl,_⟩:=h;rfl
 .obtain⟨sa,ca,st,ys,h,rfl,g8,Ug,ly,vm,q⟩:=h;refine'⟨_,(aj (aG ?c1)),?_⟩;case c1=>
   refine' dN (g:=(bV 0)) (tt:=(iK (lM NL (lM (sB K) (be 2) (be 0)) (be 3)))) (te:=(lM (sB K) (be 1) (be 0))) (NB:=["letter","came","stand","house"]) (src:=[none,some 1,some 0,some 2]) (cp (by kernel_rfl)) rfl (bu rfl B.range (aa (aJ aF (by rfl) B.len dH (aa (pv 1) af)) af)) ?g ?t ?e;case g=>exact fun cl C s₃ H₃ fp=>(au (i:=0) Lp rfl (Or.inl rfl) (Or.inr rfl))
   case t=>exact fun cl C s₃ H₃ fp=>d8 (aK gv (aR bh (pv 2) (pv 0) (fun _ _=>rfl)) (pv 3) (aQ _))
   case e=>exact fun cl C s₃ H₃ fp=>(aR bh (pv 1) (pv 0) (fun _ _=>rfl))
  refine⟨_,rfl,ca,_,rfl,.inr (bp.of Ug),_,rfl,by lia,by lia,fun D hD=>?_⟩;refine Ip (lo:=0) (n:=ys.length) (fun j=>decide (st.getD j none=some h)) (fun j=>ys.getD j .bR) (fun σ=>∃u,σ=[u,some (.ref ca),some (.ref sa),some (.int (h:Int))]) hD (by lia) ⟨_,rfl⟩ ?_ ?_
  .rintro j σ H5 Kt Kf hj ⟨u,rfl⟩ s5 kt kf;rw[eK];refine⟨_,rfl,_,rfl,sa,_,_,_,rfl,rfl,bp.of (s5 _ _ g8),aw (gW (by lia)),_,rfl,jP,_,rfl,?_⟩;rw[ow];refine iE (fun c=>⟨_,rfl,_,rfl,ca,_,_,_,rfl,rfl,bp.of (s5 _ _ Ug),aw (vk hj),kt _ _ ⟨_,rfl⟩ (aA.refl _) c⟩) (fun c=>kf _ _ ⟨_,rfl⟩ (aA.refl _) (j8.mpr c))
  .intro H5 s5 nk;exact q D H5 s5 nk
theorem Uh:aD ["box","homes","stand","came","letter","house"] ["box","homes","stand","came","letter"] (am YM):=⟨rfl,rfl,rfl,by decide +kernel,rfl,by decide +kernel,by decide +kernel⟩
def Pj(K:PySem.W.Frag)(C CB:Addr):Sp:=fun vs H Q _=>∃ (L:Addr->Prop) (b ha sa xa:Addr) (ns homes:List Nat) (st:List (Option Nat)) (xs:List V) (i:Nat),vs=[.ref b,.ref ha,.ref sa,.ref xa,.int i]/\eF C CB H L b ns/\H ha=some (.tup (NV homes))/\H sa=some (.tup (st.map oV))/\H xa=some (.tup xs)/\Sn ns homes st/\xs.length=st.length/\i<st.length/\(∀x∈xs,∃o,Be K H x o)/\(∀j,j<i->Bt ns homes st xs j)/\
 ∀ (H':Hp) (bb:Bool),aA H H'->(bb=true↔Bt ns homes st xs i)->Q (.bl bb) H'
theorem Ui{f C CB CE CT:Addr}{fd:FuncData}(F:eM K "is_berth" "is_berth" YM f fd)(TB:CZ K mg CB)(W:cq P w K mg base a7 1 "is_whole" ["thing"] (qU K))(MT:fc P w K mg base a7 6 CB "tied" ["self","house"] (Ls C CB))(MY:fc P w K mg base (iw P w) 7 CB "way" ["self","one","other"] (yB K C CB CT))(MP:fc P w K mg base (iw P w) 6 CB "phase" ["self","house","home"] (yA K C CB CE))(CY:cq P w K mg base a7 1 "came_by_at" ["stand","came","house"] Pi):
  bn P w K mg base a7 8 f fd ["box","homes","stand","came","letter"] (Pj K C CB):=by
 obtain⟨fT,fdT,mT,bT,GT⟩:=MT.ex;obtain⟨fY,fdY,mY,bY,GY⟩:=MY.ex;obtain⟨fP,fdP,mP,bP,GP⟩:=MP.ex;refine F.ok Uh (fun vs H Q E h=>?_) (fun dz A outer s H vs Q E hr h=>?_)
 .obtain⟨L,b,ha,sa,xa,ns,homes,st,xs,i,rfl,_⟩:=h;rfl
 .obtain⟨L,b,ha,sa,xa,ns,homes,st,xs,i,rfl,BA,nF,g8,xc,SN,xl,hi,hW,hB,q⟩:=h;have h1:bA 1 _:=hr.mono (by decide);have h6:bA 6 _:=hr.mono (by decide);have h7:bA 7 _:=hr.mono (by decide);have BX:=BA.bx;obtain⟨dx,pn,sr,hb,N,gZ⟩:=id BA.ob;have FI:=N.oo;refine⟨_,(ag (aN (i:=5) Uh.nd rfl (Or.inl rfl) (aR bh (pv 2) (pv 4) (fun _ _=>rfl)))
   (ag (bE (aK i7 (pv 5) cn (aQ _)) (aj (aG (eT i7 (aR bh (pv 3) (pv 4) (fun _ _=>rfl)) cn (aQ _)))) aL)
   (ag (bE (PW.pt (xG (dw (cR (az W h1 aE (aa (aR bh (pv 3) (pv 4) (fun _ _=>rfl)) af)))) (se (aK nY (aR bh (pv 3) (pv 4) (fun _ _=>rfl)) (cL (pv 0) TB.cl mT GT h6 bT .nil aE (aa (pv 5) af)) rfl)))) (aj (aG kG)) aL)
   (ag (bE (aK BZ (cL (pv 0) TB.cl mY GY h7 bY .nil jj (aa (pv 5) (aa (aR bh (pv 3) (pv 4) (fun _ _=>rfl)) af))) (cL (pv 0) TB.cl mP GP h6 bP .nil jj (aa (pv 5) (aa (aR bh (pv 1) (pv 4) (fun _ _=>rfl)) af))) (aQ _)) (aj (aG kG)) aL)
   (aj (aG (eT nY (aR bh (pv 3) (pv 4) (fun _ _=>rfl)) (az CY h1 aE (aa (pv 2) (aa (xM CQ (pv 3) B6 (B7 (pv 4))) (aa (pv 5) af)))) rfl))))))),?_⟩
  have Ga:i<xs.length:=by rw[xl];exact hi
  have gx:∀ {H':Hp},aA H H'->bp K H' xa xs:=fun s=>bp.of (s _ _ xc);refine⟨_,rfl,_,rfl,sa,_,_,_,rfl,rfl,bp.of g8,aw (gW hi),?_⟩;cases ho:st.getD i none with
  |none=>
   refine⟨_,rfl,rfl,_,rfl,gJ ⟨_,rfl,_,rfl,xa,_,_,_,rfl,rfl,gx (aA.refl _),aw (vk Ga),rfl,?_⟩⟩;exact q H _ (aA.refl _) (by rw[fD,Ph ho])
  |some h=>
  obtain⟨hh,hg,lN⟩:=SN.ok i h ho;obtain⟨p,hp⟩:=yC hh hg lN;have BS:=Lr (ns:=ns) (homes:=homes) (xs:=xs) ho;obtain⟨o,wo⟩:=hW _ (show xs.getD i .bR∈xs by rw[cr,cU Ga];exact iI Ga);refine⟨_,rfl,rfl,_,rfl,dE rfl ?_⟩;refine⟨_,rfl,_,rfl,xa,_,_,_,rfl,rfl,gx (aA.refl _),aw (vk Ga),_,o,rfl,wo _ (aA.refl _),_,rfl,?_⟩;generalize hx:xs.getD i .bR=x at *;cases o with
  |none=>
   exact gJ (gJ (q H _ (aA.refl _) (by rw[BS];exact⟨fun z=>(nomatch z),fun ⟨y,e,_⟩=>by rw[e] at wo;exact(Lq (wo _ (aA.refl _))).elim⟩)))
  |some v=>
  obtain rfl:=pT (wo _ (aA.refl _));refine e_ ⟨_,rfl,_,rfl,xa,_,_,_,rfl,rfl,gx (aA.refl _),aw (by rw[vk Ga,hx]),_,rfl,b,dx,_,rfl,hb,C5,_,rfl,L,b,ns,h,rfl,BA,hh,fun r H1 s1 yw=>⟨r,_,rfl,.inl (br.of yw),rfl,lI,_,rfl,?_⟩⟩;by_cases pO:V.int v∈NV (dS (pr ns) (jq ns) h)
  .obtain⟨y,hy,rfl⟩:∃y:Nat,y∈dS (pr ns) (jq ns) h/\v=(y:Int):=by
    obtain⟨y,hy,e⟩:=a9.mp pO;injection e with e;exact⟨y,hy,e.symm⟩
   rw[ai rfl,(w_ xb).mpr pO];refine e_ ?_;have ht:((h:Int),(y:Int))∈jq ns:=(eR FI hh).mp hy;have Pk:y<pr ns:=rW.mp (FI.rg _ ht).2.2;have V9:=(Io BX hh Pk)
   obtain⟨k,tk⟩:=(lH BX.pos hh Pk).mp ht;have Pl:=V9.mpr ⟨k,tk⟩;refine⟨_,rfl,b,dx,_,rfl,s1 _ _ hb,Im,_,rfl,_,rfl,_,rfl,xa,_,_,_,rfl,rfl,gx s1,aw (by rw[vk Ga,hx]),L,b,ns,_,_,some (h:Int),some (y:Int),rfl,BA.same s1,eI,eI,(fun z=>by rw[Pl] at z;cases z),fun h' y' _ _ e1 e2 _ H2 s2=>?_⟩;obtain rfl:h=h':=cN (a8 e1);obtain rfl:y=y':=cN (a8 e2);have j4:=s1.trans s2;refine⟨_,rfl,b,dx,_,rfl,j4 _ _ hb,tV,_,rfl,_,rfl,_,rfl,ha,_,_,_,rfl,rfl,bp.of (j4 _ _ nF),aw (l4 (by rw[SN.l];exact hi)),L,b,ns,_,_,some (h:Int),some (homes.getD i 0:Nat),rfl,BA.same j4,eI,eI,(fun z=>by rw[cg hh,cg hg] at z;rcases z with z|z <;> cases z),fun h' g' _ _ e1 e2 H3 s3=>?_⟩;obtain rfl:h=h':=cN (a8 e1);obtain rfl:homes.getD i 0=g':=cN (a8 e2);have pW:=j4.trans s3;refine⟨(k:Int),(p:Int),by rw[e8 tk];rfl,by rw[hp];rfl,_,rfl,iE (fun c=>?_) (fun c=>?_)⟩
   .have c:=c_ c;refine q H3 _ pW ?_;rw[BS];refine⟨fun z=>(nomatch z),fun ⟨y',e,⟨k',p',e1,t',l⟩,_⟩=>?_⟩;injection e with e;obtain rfl:=cN e;have a1:=a8 ((e8 tk).symm.trans (e8 t'));have a2:=a8 (hp.symm.trans e1);lia
   .have c:k<=p:=by
     by_cases z:k<=p
     .exact z
     .exact absurd (aT (by lia)) c
    refine⟨_,rfl,_,rfl,xa,_,_,_,rfl,rfl,gx pW,aw (by rw[vk Ga,hx]),_,rfl,_,rfl,_,rfl,_,rfl,xa,_,rfl,pW _ _ xc,fun t H4 s4 Pm=>?_⟩;rw[Ig] at Pm;have lt:(xs.take i).length=i:=by rw[j9];lia
    refine⟨_,rfl,sa,t,st,xs.take i,h,rfl,s4 _ _ (pW _ _ g8),Pm,by lia,SN.vm,fun r2 H5 s5 E_=>?_⟩;rw[lt] at E_;have iJ:∀v∈((List.range i).filter fun j=>decide (st.getD j none=some h)).map fun j=>(xs.take i).getD j .bR,∃j:Int,v=.int j:=by
     intro v hv;obtain⟨j,hj,rfl⟩:=a9.mp hv;obtain⟨EC,Lu⟩:=a_.mp hj;have EC:=cY.mp EC;obtain⟨y',e,_⟩:=(hB j EC).2 h (c_ Lu);refine⟨y',?_⟩;rw[<-e,cr,cr,rk EC]
    refine⟨r2,_,rfl,.inl (br.of E_),rfl,Ud iJ,?_⟩;rw[ai rfl];refine q H5 _ ((pW.trans s4).trans s5) ?_;rw[BS,vO,j8,Ne,w_ iJ];constructor
    .intro z;refine⟨y,rfl,⟨k,p,hp,tk,c⟩,fun j hj hs e=>z (a9.mpr ⟨j,a_.mpr ⟨cY.mpr hj,aT hs⟩,?_⟩)⟩;rw[<-e,cr,cr,rk hj]
    .rintro⟨y',e,_,z⟩ hm;injection e with e;obtain rfl:=cN e;obtain⟨j,hj,e'⟩:=a9.mp hm;obtain⟨EC,Lu⟩:=a_.mp hj;have EC:=cY.mp EC;refine z j EC (c_ Lu) ?_;rw[<-e',cr,cr,rk EC]
  .have e0:B_ (.int v) (NV (dS (pr ns) (jq ns) h))=false:=j8.mpr fun z=>pO ((w_ xb).mp z);rw[ai rfl,e0];refine gJ (q H1 _ s1 ?_);rw[BS];refine⟨fun z=>(nomatch z),fun ⟨y,e,⟨k,p',e1,t,l⟩,_⟩=>?_⟩;injection e with e;subst e;have hk:k<ns.length:=by rcases t with z|z <;> exact M5 z
   have Pk:=Bj BX FI hh hk t;exact absurd (a9.mpr ⟨y,(eR FI hh).mpr ((lH BX.pos hh Pk).mpr ⟨k,t⟩),rfl⟩) pO
theorem Iq{H H':Hp}{xs:List V}(h:∀x∈xs,∃o,Be K H x o)(s:aA H H'):∀x∈xs,∃o,Be K H' x o:=fun x hx=>let ⟨o,w⟩:=h x hx;⟨o,fun H2 s2=>w H2 (s.trans s2)⟩
theorem Uj:aD ["box","homes","stand","came","letter"] ["box","homes","stand","came"] (am YL):=⟨rfl,rfl,rfl,by decide +kernel,rfl,by decide +kernel,by decide +kernel⟩
def Pn(K:PySem.W.Frag)(C CB:Addr):Sp:=fun vs H Q _=>∃ (L:Addr->Prop) (b ha sa xa:Addr) (ns homes:List Nat) (st:List (Option Nat)) (xs:List V),vs=[.ref b,.ref ha,.ref sa,.ref xa]/\eF C CB H L b ns/\H ha=some (.tup (NV homes))/\H sa=some (.tup (st.map oV))/\H xa=some (.tup xs)/\Sn ns homes st/\(∀x∈xs,∃o,Be K H x o)/\∀ (H':Hp) (bb:Bool),aA H H'->(bb=true↔ur ns homes st xs)->Q (.bl bb) H'
theorem Uk{f C CB:Addr}{fd:FuncData}(F:eM K "is_berthed" "is_berthed" YL f fd)(B:Bl mg)(RW:cq P w K mg base a7 1 "is_row" ["thing","length"] (vd K))(BE:cq P w K mg base a7 8 "is_berth" ["box","homes","stand","came","letter"] (Pj K C CB)):bn P w K mg base a7 9 f fd ["box","homes","stand","came"] (Pn K C CB):=by
 refine F.ok Uj (fun vs H Q E h=>?_) (fun dz A outer s H vs Q E hr h=>?_)
 .obtain⟨L,b,ha,sa,xa,ns,homes,st,xs,rfl,_⟩:=h;rfl
 .obtain⟨L,b,ha,sa,xa,ns,homes,st,xs,rfl,BA,nF,g8,xc,SN,hW,q⟩:=h;have h1:bA 1 _:=hr.mono (by decide);have vm:=SN.vm;refine⟨_,(ag (bE (dw (cR (az RW h1 aE (aa (pv 3) (aa (aJ aF (by rfl) B.len dH (aa (pv 2) af)) af))))) (aj (aG kG)) aL)
   (ag (cI dQ rfl (bu rfl B.range (aa (aJ aF (by rfl) B.len dH (aa (pv 2) af)) af)) (au (i:=4) Uj.nd rfl (Or.inl rfl))
    (aj (bE (dw (cR (az BE hr aE (aa (pv 0) (aa (pv 1) (aa (pv 2) (aa (pv 3) (aa (pv 4) af)))))))) (aj (aG kG)) aL)))
   (aj (aG kG)))),?_⟩
  refine⟨_,rfl,_,rfl,sa,_,rfl,.inr (bp.of g8),.ref xa,some xs,_,rfl,.tup xc,?_⟩;rw[aP];by_cases hl:xs.length=st.length
  .rw[show G7 (some xs) ((st.length:Nat):Int)=true from aT (by rw[hl])];refine⟨_,rfl,dE rfl ?_⟩;refine⟨_,rfl,sa,_,rfl,.inr (bp.of g8),_,rfl,by rw[aP];lia,by rw[aP];lia,?_⟩;rw[aP];refine dg (n:=st.length) (lo:=0) (fun i σ H1=>(∃u,σ=[some (.ref b),some (.ref ha),some (.ref sa),some (.ref xa),u])/\aA H H1/\∀j,j<i->Bt ns homes st xs j) ⟨⟨_,rfl⟩,aA.refl _,fun j hj=>absurd hj (ij _)⟩ ?_ ?_
   .rintro i σ H1 hi ⟨⟨u,rfl⟩,s1,hB⟩;refine⟨_,rfl,_,rfl,_,rfl,_,rfl,_,rfl,L,b,ha,sa,xa,ns,homes,st,xs,i,by rw[eK];rfl,BA.same s1,s1 _ _ nF,s1 _ _ g8,s1 _ _ xc,SN,hl,hi,Iq hW s1,hB,fun H2 bb s2 hb=>⟨_,rfl,?_⟩⟩;cases bb with
    |false=>exact ft rfl (q H2 _ (s1.trans s2) ⟨fun z=>(nomatch z),fun z=>hb.mpr (z.2 i hi)⟩)
    |true=>
     refine dE rfl ⟨⟨_,rfl⟩,s1.trans s2,fun j hj=>?_⟩;rcases vz.mp hj with z|z
     .exact hB j z
     .rw[z];exact hb.mp rfl
   .rintro σ H1 ⟨⟨u,rfl⟩,s1,hB⟩;exact q H1 _ s1 ⟨fun _=>⟨hl,hB⟩,fun _=>rfl⟩
  .rw[show G7 (some xs) ((st.length:Nat):Int)=false from cW (fun z=>hl (by lia))];exact⟨_,rfl,ft rfl (q H _ (aA.refl _) ⟨fun z=>(nomatch z),fun z=>absurd z.1 hl⟩)⟩
theorem YT:aD ["box","homes","stand","came"] ["box","homes","stand","came"] (am YO):=⟨rfl,rfl,rfl,by decide +kernel,rfl,by decide +kernel,by decide +kernel⟩
theorem Po:aD ["box","homes","stand","came","goes","house"] ["box","homes","stand","came"] (am YQ):=⟨rfl,rfl,rfl,by decide +kernel,rfl,by decide +kernel,by decide +kernel⟩
end
end tu
namespace L2
open PySem PySem.Spec PyProof.Rows
section
variable {X:Cx} {pos:Pos}
end
end L2
namespace tu
open PySem L2 jJ
abbrev YU:Stmt:=fA 61
abbrev YV:Stmt:=fA 62
theorem Pp:(["_law_tie","_law_house","_law_used"]:List Str).Nodup:=by decide +kernel
theorem Pq:(["_law_k","_law_pot_here","_law_many_here"]:List Str).Nodup:=by decide +kernel
theorem Pr{a b:List Nat}:NV a++NV b=NV (a++b):=d_.symm
theorem xf{ns:List Nat}{h k:Nat}:(y_ ns h k).length<=2:=by
 unfold y_;rw[dY];cases w4 ns h k false <;> cases w4 ns h k true <;> simp
section
variable {P:Program} {w:World} {K:PySem.W.Frag} {mg:Str->Option Value} {base:Heap}
theorem Lv:aD ["_law_sides_here","_law_house","_law_home","_law_used","_law_found","_law_k"] ["_law_sides_here","_law_house","_law_home","_law_used"] (am YU):=⟨rfl,rfl,rfl,by decide +kernel,rfl,by decide +kernel,by decide +kernel⟩
def Ps:Sp:=fun vs H Q _=>∃ (a ua:Addr) (ns:List Nat) (h g p:Nat) (zs:Zs),vs=[.ref a,.int h,.int g,.ref ua]/\H a=some (.tup (NV ns))/\Bx ns/\jb ns h g=some p/\H ua=some (.lst (zr zs))/\PO H zs/\
 ∀ (r:Addr) (ys:List Nat) (H':Hp),aA H H'->H r=none->H' r=some (.lst (NV ys))->ys.length<=20->(∀y∈ys,Ln ns h g y/\((h:Int),(y:Int))∉zp zs)->Q (.ref r) H'
theorem Ul{f:Addr}{fd:FuncData}(F:eM K "_law_lane_ties" "_law_lane_ties" YU f fd)(B:Bl mg)(PH:cq P w K mg base a7 2 "_law_phase" ["_law_sides_here","_law_house","_law_home"] Il)(TI:cq P w K mg base a7 3 "_law_ties" ["_law_sides_here","_law_house","_law_k"] Ik):bn P w K mg base a7 4 f fd ["_law_sides_here","_law_house","_law_home","_law_used"] Ps:=by
 refine F.ok Lv (fun vs H Q E h=>?_) (fun dz A outer s H vs Q E hr h=>?_)
 .obtain⟨a,ua,ns,h,g,p,zs,rfl,_⟩:=h;rfl
 .obtain⟨a,ua,ns,h,g,p,zs,rfl,ha,BX,hp,vn,po,q⟩:=h;have h2:bA 2 _:=hr.mono (by decide);have l5:=BX.l5;have pl:=(f9 hp).1;refine'⟨_,(ag (aN (i:=4) Lv.nd rfl (Or.inl rfl) (eX af))
   (ag (cI dQ rfl (bu rfl B.range (aa (bv eC (az PH h2 aE (aa (pv 0) (aa (pv 1) (aa (pv 2) af)))) aB) af)) (au (i:=5) Lv.nd rfl (Or.inl rfl))
    (aj (aN (i:=4) Lv.nd rfl (Or.inl rfl) (bv NZ (pv 4) ?c1))))
   (aj (aG (pv 4))))),?_⟩
  case c1=>
   refine' dN (g:=(bV 0)) (tt:=(iK (lM (Oy K true) (NO (dR (be 1) (dR (be 0) mW))) (be 2)))) (te:=(be 0)) (NB:=["_law_tie","_law_house","_law_used"]) (src:=[none,some 1,some 3]) (cp (by kernel_rfl)) rfl (cS (az TI hr aE (aa (pv 0) (aa (pv 1) (aa (pv 5) af))))) ?g ?t ?e;case g=>exact fun cl C s₃ H₃ fp=>(au (i:=0) Pp rfl (Or.inl rfl) (Or.inr rfl))
   case t=>exact fun cl C s₃ H₃ fp=>d8 (aK (Ea hr.u) (jF (aa (pv 1) (aa (pv 0) af))) (pv 2) rfl)
   case e=>exact fun cl C s₃ H₃ fp=>(pv 0)
  refine⟨by show 0<=sizeLine;decide,fun F0 hF0=>?_⟩;have s0:=ao (o:=.lst []) hF0;have g0:(upd H F0 (.lst [])) F0=some (.lst (NV [])):=ah;generalize upd H F0 (.lst [])=H0 at *;refine⟨_,rfl,_,rfl,_,rfl,a,ns,h,g,rfl,s0 _ _ ha,BX,fun H1 s1=>?_⟩;refine⟨(p:Int),1,by rw[hp];rfl,rfl,(p:Int)+1,rfl,by lia,by lia,?_⟩;rw[show ((p:Int)+1).toNat=p+1 by lia];refine dg (n:=p+1) (lo:=0) (fun k σ H2=>∃ (r:Addr) (ys:List Nat) (z:Option V),σ=[some (.ref a),some (.int (h:Int)),some (.int (g:Int)),some (.ref ua),some (.ref r),z]/\aA H H2/\H r=none/\H2 r=some (.lst (NV ys))/\ys.length<=2*k/\∀y∈ys,Ln ns h g y/\((h:Int),(y:Int))∉zp zs) ⟨F0,[],_,rfl,s0.trans s1,hF0,s1 _ _ g0,cF _,fun y z=>(nomatch z)⟩ ?_ ?_
  .rintro k σ H2 hk ⟨r,ys,z,rfl,s2,nr,E_,yl,hy⟩;have hkn:k<ns.length:=by lia
   rw[eK];refine⟨_,rfl,_,rfl,_,rfl,_,rfl,a,ns,h,k,rfl,s2 _ _ ha,BX,hkn,fun t H3 s3 nt ht3=>⟨t,rfl,⟨_,br.of ht3⟩,fun D hD=>?_⟩⟩;refine ou (y_ ns h k) (fun (y:Nat)=>V.int (y:Int)) (fun (y:Nat)=>decide (((h:Int),(y:Int))∉zp zs)) (fun (y:Nat)=>V.int (y:Int)) (fun σ=>∃u,σ=[u,some (.int (h:Int)),some (.ref ua)]) ht3 hD (bj xf (by decide)) ⟨_,rfl⟩ ?_ ?_
   .rintro y σ H4 Kt Kf hy4 ⟨u,rfl⟩ s4 kt kf;refine⟨_,rfl,_,rfl,by show 2<=sizeLine;decide,fun t4 Pm=>?_⟩;have sT:=ao (o:=.tup [.int (h:Int),.int (y:Int)]) Pm;have Pu:=(s2.trans s3).trans s4;refine⟨_,rfl,OD (u:=((h:Int),(y:Int))) ah (sT _ _ (Pu _ _ vn)) ((po.same Pu).same sT) ⟨_,rfl,?_⟩⟩;rw[ai rfl];refine iE (fun e=>⟨_,rfl,kt _ _ ⟨_,rfl⟩ sT ?_⟩) (fun e=>kf _ _ ⟨_,rfl⟩ sT ?_)
    .rw[vO,vA] at e;exact aT e
    .rw[vO,vA] at e;exact cW e
   .intro H5 s5 nk;have Ro:=(s2.trans s3).trans s5;refine⟨r,D,_,_,rfl,rfl,s5 _ _ (s3 _ _ E_),nk,?_,fun r2 Ep=>?_⟩
    .have:=je (fun (y:Nat)=>decide (((h:Int),(y:Int))∉zp zs)) (y_ ns h k);have t2:=xf (ns:=ns) (h:=h) (k:=k);rw[bi,aP];exact bj (show _<=30 by lia) (by decide)
    have s6:=ao (o:=.lst (NV ys++((y_ ns h k).filter fun (y:Nat)=>decide (((h:Int),(y:Int))∉zp zs)).map fun (y:Nat)=>V.int (y:Int))) Ep;refine⟨r2,ys++(y_ ns h k).filter fun (y:Nat)=>decide (((h:Int),(y:Int))∉zp zs),_,rfl,Ro.trans s6,Ro.free Ep,by rw[ah,<-Pr],?_,fun y hy'=>?_⟩
    .have:=je (fun (y:Nat)=>decide (((h:Int),(y:Int))∉zp zs)) (y_ ns h k);have t2:=xf (ns:=ns) (h:=h) (k:=k);rw[dY];lia
    .rcases dP.mp hy' with z|z
     .exact hy y z
     .obtain⟨m1,m2⟩:=a_.mp z;exact⟨⟨k,p,hp,(w6 BX.pos hkn).mp m1,by lia⟩,c_ m2⟩
  .rintro σ H2 ⟨r,ys,z,rfl,s2,nr,E_,yl,hy⟩;exact⟨_,rfl,q r ys H2 s2 nr E_ (by lia) hy⟩
theorem YW:aD ["_law_pot_here","_law_many_here"] ["_law_pot_here","_law_many_here"] (am YV):=⟨rfl,rfl,rfl,by decide +kernel,rfl,by decide +kernel,by decide +kernel⟩
def Pw:Sp:=fun vs H Q _=>∃ (p:Addr) (n:Nat),vs=[.ref p,.int n]/\2<=n/\n<=32/\cQ H p/\∀ (r:Addr) (hs:List Nat) (H':Hp),cx p H H'->cQ H' p->H r=none->H' r=some (.lst (NV hs))->hs≠[]->hs.length<=32->(∀x∈hs,x<n)->Q (.ref r) H'
theorem Um{f:Addr}{fd:FuncData}(F:eM K "_law_houses" "_law_houses" YV f fd)(B:Bl mg)(DR:cq P w K mg base a7 1 "_law_draw" ["_law_pot_here","_law_many_here"] Bg):bn P w K mg base a7 2 f fd ["_law_pot_here","_law_many_here"] Pw:=by
 refine F.ok YW (fun vs H Q E h=>?_) (fun dz A outer s H vs Q E hr h=>?_)
 .obtain⟨p,n,rfl,_⟩:=h;rfl
 .obtain⟨p,n,rfl,n1,n2,hp,q⟩:=h;have h1:bA 1 _:=hr.mono (by decide);refine'⟨_,(ag (bE (aK gv (az DR h1 aE (aa (pv 0) (aa aB af))) aB (aQ _)) (aj (aG (bW (AJ rfl) (by rfl) B.lst rn (aa (bW qd (by rfl) B.range PyProof.Rows.boot_range (aa (pv 1) af)) af)))) aL)
   (aj (aG ?c1))),?_⟩
  case c1=>
   refine' dN (g:=(bV 0)) (te:=(nV Bg [] E0 (dR (be 1) (dR (be 2) mW)))) (NB:=["_law_k","_law_pot_here","_law_many_here"]) (src:=[none,some 0,some 1]) (cp (by kernel_rfl)) rfl (bu rfl B.range (aa (bv eC aB (az DR h1 aE (aa (pv 0) (aa aB af)))) af)) ?g ?t ?e;case g=>exact fun cl C s₃ H₃ fp=>(au (i:=0) Pq rfl (Or.inl rfl) (Or.inr rfl))
   case t=>exact fun cl C s₃ H₃ fp=>eG
   case e=>exact fun cl C s₃ H₃ fp=>(az DR h1 aE (aa (pv 1) (aa (pv 2) af)))
  refine⟨_,rfl,p,3,rfl,by decide,by decide,hp,fun d H1 hd s1 p1=>⟨rfl,_,rfl,iE (fun e=>?_) (fun e=>?_)⟩⟩
  .refine⟨_,rfl,n,rfl,fun x hx=>⟨x,n,rfl,ah,by lia,fun l hl=>?_⟩⟩;have sx:=(ao (o:=.BL 0 (n:Int)) hx).trans (ao (o:=.lst ((List.range n).map fun (i:Nat)=>V.int i)) hl);refine q l (List.range n) _ (s1.trans (cx.of sx)) (p1.same sx) ?_ ah (by intro z;have:=congrArg List.length z;rw[dO] at this;simp at this;lia) (by rw[dO];exact n2) fun x hx=>cY.mp hx;exact s1.free p1.full ((ao (o:=.BL 0 (n:Int)) hx).free hl)
  .refine⟨_,rfl,p,4,rfl,by decide,by decide,p1,fun d2 H2 Uo s2 p2=>⟨_,_,rfl,rfl,_,rfl,by lia,by lia,fun D hD=>?_⟩⟩;rw[show ((1:Int)+(d2:Int)).toNat=1+d2 by lia];have j4:=s1.trans s2;have nD:=p2.ne hD;refine iy (lo:=0) (n:=1+d2) (fun i ys σ H5=>(∃u,σ=[u,some (.ref p),some (.int (n:Int))])/\cx p H2 H5/\cQ H5 p/\H5 D=some (.lst ys)/\∃hs:List Nat,ys=NV hs/\hs.length=i/\∀x∈hs,x<n) ⟨⟨_,rfl⟩,cx.of (ao hD),p2.same (ao hD),ah,[],rfl,rfl,fun x z=>(nomatch z)⟩ ?_ ?_
   .rintro i ys σ H5 Kt Kf hi ⟨⟨u,rfl⟩,s5,p5,nk,hs,rfl,hl,hx⟩ kt kf;refine⟨_,rfl,_,rfl,p,n,rfl,by lia,by lia,p5,fun d3 H6 hd3 s6 p6=>kt _ _ _ (s6 _ _ nk nD) (by rw[bi,hl];exact bK (show i<5 by lia) (by decide)) ⟨⟨_,rfl⟩,?_,p6.put nD.symm,ah,hs++[d3],iP,by rw[dY,hl];rfl,fun x jw=>?_⟩⟩
    .exact fun b o e n=>by
      by_cases z:b=D
      .rw[z,hD] at e;cases e
      .rw[al z];exact(s5.trans s6) b o e n
    .rcases dP.mp jw with z|z
     .exact hx x z
     .rw[dL.mp z];exact hd3
   .rintro ys σ H5 ⟨_,s5,p5,nk,hs,rfl,hl,hx⟩;exact q D hs H5 (j4.trans s5) p5 (j4.free p2.full hD) nk (by intro z;rw[z] at hl;simp at hl;lia) (by lia) hx
end
abbrev YX:Stmt:=fA 63
theorem Px{n h e:Nat}(hh:h<n)(h1:1<=e)(h2:e<n):(h+e) % n≠h:=by
 by_cases c:h+e<n
 .rw[km c];lia
 .rw[Nat.mod_eq_sub_mod (by lia),km (by lia)];lia
theorem Lw{α:Type}{l:List α}{x d:α}{j:Nat}(h:j<l.length):(l++[x]).getD j d=l.getD j d:=by
 rw[cr,cr,nI h]
theorem YY{α:Type}{l:List α}{x d:α}:(l++[x]).getD l.length d=x:=by
 rw[cr,re (aW _),rT];rfl
theorem Py{α:Type}{l:List α}{x d:α}{k:Nat}(e:l.length=k):(l++[x]).getD k d=x:=by rw[<-e];exact YY
structure Gd(ns homes:List Nat)(st cs:List (Option Nat))(zs:Zs):Prop where
 lh:homes.length=st.length
 lc:cs.length=st.length
 lz:zs.length<=st.length
 bR:∀j,j<st.length->st.getD j none=none->cs.getD j none=none
 ok:∀j h,j<st.length->st.getD j none=some h->h<pr ns/\homes.getD j 0<pr ns/\h≠homes.getD j 0/\∃y,cs.getD j none=some y/\Ln ns h (homes.getD j 0) y/\((h:Int),(y:Int))∈zp zs/\∀j',j'<j->st.getD j' none=some h->cs.getD j' none≠some y
theorem Ir{a b:Zs}:zp (a++b)=zp a++zp b:=d_
theorem Gd.snoc{ns homes:List Nat}{st cs:List (Option Nat)}{zs qW:Zs}{g:Nat}{o o':Option Nat}(G:Gd ns homes st cs zs)(hz:∀u∈zp zs,u∈zp qW)(hzl:qW.length<=zs.length+1)(hn:o=none->o'=none)(hs:∀h,o=some h->h<pr ns/\g<pr ns/\h≠g/\∃y,o'=some y/\Ln ns h g y/\((h:Int),(y:Int))∈zp qW/\((h:Int),(y:Int))∉zp zs):Gd ns (homes++[g]) (st++[o]) (cs++[o']) qW:=by
 have lh:=G.lh;have lc:=G.lc;have lz:=G.lz;refine⟨by rw[dY,dY,lh];rfl,by rw[dY,dY,lc];rfl,by rw[dY];show _<=_+1;lia,fun j hj e=>?_,fun j h hj e=>?_⟩
 .rw[dY] at hj;rcases vz.mp hj with z|z
  .rw[Lw z] at e;rw[Lw (by lia)];exact G.bR j z e
  .rw[z,YY] at e;rw[Py (by lia)];exact hn e
 .rw[dY] at hj;rcases vz.mp hj with z|z
  .rw[Lw z] at e;obtain⟨a,b,c,y,e1,e2,e3,e4⟩:=G.ok j h z e;rw[Lw (by lia),Lw (by lia)];refine⟨a,b,c,y,e1,e2,hz _ e3,fun j' Q9 q=>?_⟩;rw[Lw (by lia)] at q;rw[Lw (by lia)];exact e4 j' Q9 q
  .rw[z,YY] at e;obtain⟨a,b,c,y,e1,e2,e3,e4⟩:=hs h e;rw[Py (by lia),Py (by lia)];refine⟨a,b,c,y,e1,e2,e3,fun j' Q9 q q'=>e4 ?_⟩;rw[Lw (by lia)] at q;rw[Lw (by lia)] at q';obtain⟨_,_,_,y',f1,_,f3,_⟩:=G.ok j' h (by lia) q;rw[f1] at q';rw[<-a8 q'];exact f3
theorem oy{cs:List (Option Nat)}{j:Nat}:(cs.map oV).getD j .bR=oV (cs.getD j none):=by
 rw[cr,bL,cr];cases cs[j]? <;> rfl
theorem Bk{o:Option Nat}{y:Nat}(h:oV o=.int (y:Int)):o=some y:=by
 cases o with
 |none=>cases h
 |some z=>injection h with h;rw[cN h]
theorem Gd.sn{ns homes:List Nat}{st cs:List (Option Nat)}{zs:Zs}(G:Gd ns homes st cs zs)(l:st.length<=16):Sn ns homes st:=by
 refine⟨G.lh,fun i h e=>?_,l⟩;have hi:i<st.length:=by
  by_cases c:i<st.length
  .exact c
  .rw[cr,gN (by lia)] at e;cases e
 obtain⟨a,b,c,_⟩:=G.ok i h hi e;exact⟨a,b,c⟩
theorem Gd.bts{ns homes:List Nat}{st cs:List (Option Nat)}{zs:Zs}(G:Gd ns homes st cs zs):ur ns homes st (cs.map oV):=by
 refine⟨by rw[aP];exact G.lc,fun i hi=>⟨fun e=>by rw[oy,G.bR i hi e];rfl,fun h e=>?_⟩⟩;obtain⟨_,_,_,y,e1,e2,_,e4⟩:=G.ok i h hi e;refine⟨y,by rw[oy,e1];rfl,e2,fun j hj q=>?_⟩;rw[oy];exact fun z=>e4 j hj q (Bk z)
theorem xg{H:Hp}{zs:Zs}{D:Addr}{xs:List V}{o:HO}(h:PO H zs)(e:H D=some (.lst xs)):PO (upd H D o) zs:=fun z hz=>by
 have:=h z hz;rw[al (by rintro rfl;rw[e] at this;cases this)];exact this
theorem lJ{p D:Addr}{H H':Hp}{o:HO}(s:cx p H H')(n:H D=none):cx p H (upd H' D o):=fun b u e hb=>by
 by_cases z:b=D
 .rw[z,n] at e;cases e
 .rw[al z];exact s b u e hb
structure Ad(H:Hp)(p sr gl hm iC cm ua:Addr):Prop where
 nd:[p,sr,gl,hm,iC,cm,ua].Nodup
 nh:H hm=none
 ns:H iC=none
 nc:H cm=none
 nu:H ua=none
structure Bs(p sd sr gl hm iC cm ua:Addr)(ns cM dU:List Nat)(homes:List Nat)(st cs:List (Option Nat))(zs:Zs)(H0 H:Hp):Prop where
 qA:cQ H p
 s0:cx p H0 H
 gZ:H sr=some (.lst (NV cM))
 C6:H gl=some (.lst (NV dU))
 Bm:H hm=some (.lst (NV homes))
 iD:H iC=some (.lst (st.map oV))
 yD:H cm=some (.lst (cs.map oV))
 vn:H ua=some (.lst (zr zs))
 po:PO H zs
section
variable {p sd sr gl hm iC cm ua:Addr} {ns cM dU homes:List Nat} {st cs:List (Option Nat)} {zs:Zs} {H0 H H':Hp}
theorem Bs.eS(h:Bs p sd sr gl hm iC cm ua ns cM dU homes st cs zs H0 H)(A:Ad H0 p sr gl hm iC cm ua)(s:cx p H H')(hp:cQ H' p):Bs p sd sr gl hm iC cm ua ns cM dU homes st cs zs H0 H':=by
 have nd:=A.nd;simp only[cX,ba,jB,iH,oY,o7,gj] at nd;obtain⟨⟨a1,a2,a3,a4,a5,a6⟩,_⟩:=nd;exact⟨hp,h.s0.trans s,s _ _ h.gZ (cj a1),s _ _ h.C6 (cj a2),s _ _ h.Bm (cj a3),s _ _ h.iD (cj a4),s _ _ h.yD (cj a5),s _ _ h.vn (cj a6),h.po.eS s h.qA⟩
theorem Bs.same(h:Bs p sd sr gl hm iC cm ua ns cM dU homes st cs zs H0 H)(A:Ad H0 p sr gl hm iC cm ua)(s:aA H H'):Bs p sd sr gl hm iC cm ua ns cM dU homes st cs zs H0 H':=h.eS A (cx.of s) (h.qA.same s)
theorem Bs.aH(h:Bs p sd sr gl hm iC cm ua ns cM dU homes st cs zs H0 H)(A:Ad H0 p sr gl hm iC cm ua){g:Nat}:Bs p sd sr gl hm iC cm ua ns cM dU (homes++[g]) st cs zs H0 (upd H hm (.lst (NV homes++[.int (g:Int)]))):=by
 have nd:=A.nd;simp only[cX,ba,jB,iH,oY,o7,gj] at nd;obtain⟨⟨a1,a2,a3,a4,a5,a6⟩,⟨b2,b3,b4,b5,b6⟩,⟨c3,c4,c5,c6⟩,⟨d4,d5,d6⟩,⟨e5,e6⟩,f6⟩:=nd;exact⟨h.qA.put a3,lJ h.s0 A.nh,by rw[al b3];exact h.gZ,by rw[al c3];exact h.C6,by rw[ah,<-iP],by rw[al (cj d4)];exact h.iD,by rw[al (cj d5)];exact h.yD,by rw[al (cj d6)];exact h.vn,xg h.po h.Bm⟩
theorem Bs.aS(h:Bs p sd sr gl hm iC cm ua ns cM dU homes st cs zs H0 H)(A:Ad H0 p sr gl hm iC cm ua){o:Option Nat}:Bs p sd sr gl hm iC cm ua ns cM dU homes (st++[o]) cs zs H0 (upd H iC (.lst (st.map oV++[oV o]))):=by
 have nd:=A.nd;simp only[cX,ba,jB,iH,oY,o7,gj] at nd;obtain⟨⟨a1,a2,a3,a4,a5,a6⟩,⟨b2,b3,b4,b5,b6⟩,⟨c3,c4,c5,c6⟩,⟨d4,d5,d6⟩,⟨e5,e6⟩,f6⟩:=nd;exact⟨h.qA.put a4,lJ h.s0 A.ns,by rw[al b4];exact h.gZ,by rw[al c4];exact h.C6,by rw[al d4];exact h.Bm,by rw[ah,d_];rfl,by rw[al (cj e5)];exact h.yD,by rw[al (cj e6)];exact h.vn,xg h.po h.iD⟩
theorem Bs.aC(h:Bs p sd sr gl hm iC cm ua ns cM dU homes st cs zs H0 H)(A:Ad H0 p sr gl hm iC cm ua){o:Option Nat}:Bs p sd sr gl hm iC cm ua ns cM dU homes st (cs++[o]) zs H0 (upd H cm (.lst (cs.map oV++[oV o]))):=by
 have nd:=A.nd;simp only[cX,ba,jB,iH,oY,o7,gj] at nd;obtain⟨⟨a1,a2,a3,a4,a5,a6⟩,⟨b2,b3,b4,b5,b6⟩,⟨c3,c4,c5,c6⟩,⟨d4,d5,d6⟩,⟨e5,e6⟩,f6⟩:=nd;exact⟨h.qA.put a5,lJ h.s0 A.nc,by rw[al b5];exact h.gZ,by rw[al c5];exact h.C6,by rw[al d5];exact h.Bm,by rw[al e5];exact h.iD,by rw[ah,d_];rfl,by rw[al (cj f6)];exact h.vn,xg h.po h.yD⟩
theorem Bs.aU(h:Bs p sd sr gl hm iC cm ua ns cM dU homes st cs zs H0 H)(A:Ad H0 p sr gl hm iC cm ua){t:Addr}{u:Int×Int}(ht:H t=some (MX u)):Bs p sd sr gl hm iC cm ua ns cM dU homes st cs (zs++[(t,u)]) H0 (upd H ua (.lst (zr zs++[.ref t]))):=by
 have nd:=A.nd;simp only[cX,ba,jB,iH,oY,o7,gj] at nd;obtain⟨⟨a1,a2,a3,a4,a5,a6⟩,⟨b2,b3,b4,b5,b6⟩,⟨c3,c4,c5,c6⟩,⟨d4,d5,d6⟩,⟨e5,e6⟩,f6⟩:=nd;refine⟨h.qA.put a6,lJ h.s0 A.nu,by rw[al b6];exact h.gZ,by rw[al c6];exact h.C6,by rw[al d6];exact h.Bm,by rw[al e6];exact h.iD,by rw[al f6];exact h.yD,by rw[ah,pS];rfl,xg (fun z hz=>?_) h.vn⟩;rcases dP.mp hz with z'|z'
 .exact h.po z z'
 .rw[dL.mp z'];exact ht
end
section
variable {P:Program} {w:World} {K:PySem.W.Frag} {mg:Str->Option Value} {base:Heap}
theorem nq:aD ["_law_pot_here","_law_sides_here","_law_many_here","_law_starts","_law_goals","_law_homes","_law_stand","_law_came","_law_used","_law_i","_law_house","_law_home","_law_ties_here","_law_tie"] ["_law_pot_here","_law_sides_here"] (am YX):=⟨rfl,rfl,rfl,by decide +kernel,rfl,by decide +kernel,by decide +kernel⟩
def Pz:Sp:=fun vs H Q _=>∃ (p sd:Addr) (ns:List Nat),vs=[.ref p,.ref sd]/\cQ H p/\H sd=some (.tup (NV ns))/\Bx ns/\2<=pr ns/\
 ∀ (t ha sa xa:Addr) (homes:List Nat) (st cs:List (Option Nat)) (H':Hp),cx p H H'->cQ H' p->H' t=some (.tup [.ref ha,.ref sa,.ref xa])->H' ha=some (.tup (NV homes))->H' sa=some (.tup (st.map oV))->H' xa=some (.tup (cs.map oV))->Sn ns homes st->cs.length=st.length->ur ns homes st (cs.map oV)->Q (.ref t) H'
theorem Up{f:Addr}{fd:FuncData}(F:eM K "_law_berthed" "_law_berthed" YX f fd)(B:Bl mg)(MA:cq P w K mg base a7 1 "_law_many" ["_law_sides_here"] Ii)(DR:cq P w K mg base a7 1 "_law_draw" ["_law_pot_here","_law_many_here"] Bg)(HS:cq P w K mg base a7 2 "_law_houses" ["_law_pot_here","_law_many_here"] Pw)(LT:cq P w K mg base a7 4 "_law_lane_ties" ["_law_sides_here","_law_house","_law_home","_law_used"] Ps):bn P w K mg base a7 5 f fd ["_law_pot_here","_law_sides_here"] Pz:=by
 refine F.ok nq (fun vs H Q E h=>?_) (fun dz A outer s H vs Q E hr h=>?_)
 .obtain⟨p,sd,ns,rfl,_⟩:=h;rfl
 .obtain⟨p,sd,ns,rfl,hp,PB,BX,n1,q⟩:=h;have h1:bA 1 _:=hr.mono (by decide);have h2:bA 2 _:=hr.mono (by decide);have h4:bA 4 _:=hr.mono (by decide);have n2:=BX.Rn;refine⟨_,(ag (aN (i:=2) nq.nd rfl (Or.inl rfl) (az MA h1 aE (aa (pv 1) af))) (ag (NI (i:=3) (j:=4) rfl nq.nd rfl rfl (by decide) rfl rfl (aa (az HS h2 aE (aa (pv 0) (aa (pv 2) af))) (aa (az HS h2 aE (aa (pv 0) (aa (pv 2) af))) af)) (by rfl)) (ag (i6 (jF (aa (eX af) (aa (eX af) (aa (eX af) (aa (eX af) af))))) (fj (n:=4) rfl (aV (au (i:=5) nq.nd rfl (Or.inl rfl)) (aV (au (i:=6) nq.nd rfl (Or.inl rfl)) (aV (au (i:=7) nq.nd rfl (Or.inl rfl)) (aV (au (i:=8) nq.nd rfl (Or.inl rfl)) d7)))))) (ag (cI dQ rfl (bu rfl B.range (aa (az DR h1 aE (aa (pv 0) (aa aB af))) af)) (au (i:=9) nq.nd rfl (Or.inl rfl)) (ag (aN (i:=10) nq.nd rfl (Or.inl rfl) (aR bC (pv 3) (az DR h1 aE (aa (pv 0) (aa (aJ aF (by rfl) B.len dH (aa (pv 3) af)) af))) (fun _ _=>rfl))) (ag (aN (i:=11) nq.nd rfl (Or.inl rfl) (aR bC (pv 4) (az DR h1 aE (aa (pv 0) (aa (aJ aF (by rfl) B.len dH (aa (pv 4) af)) af))) (fun _ _=>rfl))) (ag (bE (aK gv (pv 11) (pv 10) (aQ _)) (aj (aN (i:=11) nq.nd rfl (Or.inl rfl) (bv jE (bv eC (bv eC (pv 10) aB) (az DR h1 aE (aa (pv 0) (aa (bv mV (pv 2) aB) af)))) (pv 2)))) aL) (ag (bX (ji jd j6 j5 dh (pv 5) (aa (pv 11) af))) (ag (aN (i:=12) nq.nd rfl (Or.inl rfl) (az LT h4 aE (aa (pv 1) (aa (pv 10) (aa (pv 11) (aa (pv 8) af)))))) (ag (bE (PW.pt (xG (aK (Oj (e:=xO) hr.u) (pv 12) (eX af) (aQ _)) (se (aK gv (az DR h1 aE (aa (pv 0) (aa aB af))) aB (aQ _))))) (aj (i6 (jF (aa cn (aa cn af))) (fj (n:=2) rfl (aV (au (i:=10) nq.nd rfl (Or.inl rfl)) (aV (au (i:=13) nq.nd rfl (Or.inl rfl)) d7))))) (ag (aN (i:=13) nq.nd rfl (Or.inl rfl) (aR bC (pv 12) (az DR h1 aE (aa (pv 0) (aa (aJ aF (by rfl) B.len dH (aa (pv 12) af)) af))) (fun _ _=>rfl))) (aj (bX (ji jd j6 j5 dh (pv 8) (aa (jF (aa (pv 10) (aa (pv 13) af))) af)))))) (ag (bX (ji jd j6 j5 dh (pv 6) (aa (pv 10) af))) (aj (bX (ji jd j6 j5 dh (pv 7) (aa (pv 13) af)))))))))))) (aj (aG (jF (aa (bW ce (by rfl) B.tup jQ (aa (pv 5) af)) (aa (bW ce (by rfl) B.tup jQ (aa (pv 6) af)) (aa (bW ce (by rfl) B.tup jQ (aa (pv 7) af)) af)))))))))),?_⟩;refine⟨_,rfl,sd,ns,rfl,PB,(fun x hx=>(BX.sd x hx).2),?_⟩;refine⟨_,rfl,_,rfl,p,pr ns,rfl,n1,n2,hp,fun sr cM H1 s1 p1 TJ gZ sne sl sx=>⟨_,rfl,_,rfl,p,pr ns,rfl,n1,n2,p1,fun gl dU H2 s2 p2 YZ C6 gne gll gx=>⟨_,_,rfl,?_⟩⟩⟩;refine⟨by show 0<=sizeLine;decide,fun hm Bm=>⟨by show 0<=sizeLine;decide,fun iC iD=>⟨by show 0<=sizeLine;decide,fun cm yD=>⟨by show 0<=sizeLine;decide,fun ua vn=>⟨by show 4<=sizeLine;decide,fun t4 Pm=>⟨t4,_,rfl,bp.of ah,rfl,_,_,rfl,_,_,rfl,_,_,rfl,_,_,rfl,rfl,?_⟩⟩⟩⟩⟩⟩;have Uq:sr≠p:=hp.ne TJ;have Y0:gl≠p:=p1.ne YZ;have ED:=s2 _ _ gZ Uq;have v1:=ao (o:=.lst []) Bm;have e1:(upd H2 hm (.lst [])) hm=some (.lst []):=ah;generalize hA:upd H2 hm (.lst [])=HA at *;have v2:=ao (o:=.lst []) iD;have e2:(upd HA iC (.lst [])) iC=some (.lst []):=ah;generalize hB:upd HA iC (.lst [])=HB at *;have v3:=ao (o:=.lst []) yD;have e3:(upd HB cm (.lst [])) cm=some (.lst []):=ah;generalize hC:upd HB cm (.lst [])=HC at *;have v4:=ao (o:=.lst []) vn;have e4:(upd HC ua (.lst [])) ua=some (.lst []):=ah;generalize hD:upd HC ua (.lst [])=HD at *;have v5:=ao (o:=.tup [.ref hm,.ref iC,.ref cm,.ref ua]) Pm;generalize hF:upd HD t4 (.tup [.ref hm,.ref iC,.ref cm,.ref ua])=HF at *;have Y1:=s1.trans s2;have AD:Ad H p sr gl hm iC cm ua:=by
   have f2:∀ {x:Addr},H2 x=none->H x=none:=fun z=>Y1.free p2.full z;have gA:∀ {x:Addr} {o:HO},HA x=some o->HB x=some o:=fun z=>v2 _ _ z;refine⟨?_,f2 Bm,f2 (v1.free iD),f2 ((v1.trans v2).free yD),f2 (((v1.trans v2).trans v3).free vn)⟩;have nn:∀ {G:Hp} {x y:Addr} {o:HO},G x=some o->G y=none->x≠y:=fun z z' e=>by rw[e,z'] at z;cases z
   obtain⟨pa,pb,pe,_⟩:=p2;simp only[cX,ba,jB,iH,oY,o7,gj];exact⟨⟨Uq.symm,Y0.symm,nn pe Bm,nn (v1 _ _ pe) iD,nn (v2 _ _ (v1 _ _ pe)) yD,nn (v3 _ _ (v2 _ _ (v1 _ _ pe))) vn⟩,⟨nn gZ YZ,nn ED Bm,nn (v1 _ _ ED) iD,nn (v2 _ _ (v1 _ _ ED)) yD,nn (v3 _ _ (v2 _ _ (v1 _ _ ED))) vn⟩,⟨nn C6 Bm,nn (v1 _ _ C6) iD,nn (v2 _ _ (v1 _ _ C6)) yD,nn (v3 _ _ (v2 _ _ (v1 _ _ C6))) vn⟩,⟨nn e1 iD,nn (v2 _ _ e1) yD,nn (v3 _ _ (v2 _ _ e1)) vn⟩,⟨nn e2 yD,nn (v3 _ _ e2) vn⟩,nn e3 vn⟩
  have vv:=(((v1.trans v2).trans v3).trans v4).trans v5;have BS:Bs p sd sr gl hm iC cm ua ns cM dU [] [] [] [] H HF:=⟨p2.same vv,Y1.trans (cx.of vv),vv _ _ ED,vv _ _ C6,v5 _ _ (v4 _ _ (v3 _ _ (v2 _ _ e1))),v5 _ _ (v4 _ _ (v3 _ _ e2)),v5 _ _ (v4 _ _ e3),v5 _ _ e4,fun z hz=>(nomatch hz)⟩
  clear e1 e2 e3 e4 v1 v2 v3 v4 v5 vv hA hB hC hD hF Bm iD yD vn Pm ED gZ C6 YZ TJ Y1 s1 s2 p1 p2;refine⟨_,rfl,p,17,rfl,by decide,by decide +kernel,BS.qA,fun m H3 Xt s3 p3=>⟨_,rfl,by lia,by lia,?_⟩⟩;have BS3:=BS.eS AD s3 p3;clear BS;rw[show ((m:Int)).toNat=m by lia];refine dg (n:=m) (lo:=0) (fun i σ Hc=>(∃z9 Y2 Y3 Ur Rp,σ=[some (.ref p),some (.ref sd),some (.int (pr ns:Nat)),some (.ref sr),some (.ref gl),some (.ref hm),some (.ref iC),some (.ref cm),some (.ref ua),z9,Y2,Y3,Ur,Rp])/\∃homes st cs zs,Bs p sd sr gl hm iC cm ua ns cM dU homes st cs zs H Hc/\Gd ns homes st cs zs/\st.length=i) ⟨⟨_,_,_,_,_,rfl⟩,[],[],[],[],BS3,⟨rfl,rfl,aW _,fun j hj=>absurd hj (ij _),fun j h hj=>absurd hj (ij _)⟩,rfl⟩ ?_ ?_
  rotate_left
  .rintro σ Hc ⟨⟨z9,Y2,Y3,Ur,Rp,rfl⟩,homes,st,cs,zs,b,G,hl⟩;refine⟨_,rfl,hm,_,rfl,.inl ⟨br.of b.Bm,fun ha nF=>?_⟩⟩;have s1:=ao (o:=.tup (NV homes)) nF;refine⟨_,rfl,iC,_,rfl,.inl ⟨br.of (s1 _ _ b.iD),fun sa g8=>?_⟩⟩;have s2:=ao (o:=.tup (st.map oV)) g8;refine⟨_,rfl,cm,_,rfl,.inl ⟨br.of (s2 _ _ (s1 _ _ b.yD)),fun xa xc=>?_⟩⟩;have s3:=ao (o:=.tup (cs.map oV)) xc;refine⟨by show 3<=sizeLine;decide,fun t ht=>?_⟩;have s4:=ao (o:=.tup [.ref ha,.ref sa,.ref xa]) ht;have ss:=((s1.trans s2).trans s3).trans s4;exact q t ha sa xa homes st cs _ (b.s0.trans (cx.of ss)) (b.qA.same ss) ah (s4 _ _ (s3 _ _ (s2 _ _ ah))) (s4 _ _ (s3 _ _ ah)) (s4 _ _ ah) (G.sn (by lia)) G.lc G.bts
  clear BS3 p3 s3;rintro i σ Hc hi ⟨⟨z9,Y2,Y3,Ur,Rp,rfl⟩,homes,st,cs,zs,b0,G,hl⟩;have sp:0<cM.length:=List.length_pos_iff.mpr sne;have gp:0<dU.length:=List.length_pos_iff.mpr gne;refine⟨_,rfl,_,rfl,_,rfl,sr,_,rfl,.inl (br.of b0.gZ),p,cM.length,by rw[bi];rfl,sp,by lia,b0.qA,fun d1 H1 Rq s1 p1=>?_⟩;have b1:=b0.eS AD s1 p1;clear b0;refine⟨sr,_,_,_,rfl,rfl,br.of b1.gZ,aw (l4 Rq),?_⟩;generalize hh0:cM.getD d1 0=h;have hh:h<pr ns:=by rw[<-hh0];exact sx _ (by rw[cr,cU Rq];exact iI _)
  refine⟨_,rfl,_,rfl,_,rfl,gl,_,rfl,.inl (br.of b1.C6),p,dU.length,by rw[bi];rfl,gp,by lia,b1.qA,fun d2 H2 Uo s2 p2=>?_⟩;have b2:=b1.eS AD s2 p2;clear b1 s1 p1;refine⟨gl,_,_,_,rfl,rfl,br.of b2.C6,aw (l4 Uo),?_⟩;generalize hg0:dU.getD d2 0=g0;have Y4:g0<pr ns:=by rw[<-hg0];exact gx _ (by rw[cr,cU Uo];exact iI _)
  refine lX (fun σ Hx=>σ=[some (.ref p),some (.ref sd),some (.int (pr ns:Nat)),some (.ref sr),some (.ref gl),some (.ref hm),some (.ref iC),some (.ref cm),some (.ref ua),some (.int (i:Int)),some (.int (h:Int)),some (.int (g0:Int)),Ur,Rp]/\Bs p sd sr gl hm iC cm ua ns cM dU homes st cs zs H Hx) ?_ (fun N hN=>hN _ _ ⟨by rw[eK];rfl,b2⟩);clear b2 s2 p2;rintro σ H2 ⟨rfl,b2⟩;refine lX (fun σ Hx=>∃g,σ=[some (.ref p),some (.ref sd),some (.int (pr ns:Nat)),some (.ref sr),some (.ref gl),some (.ref hm),some (.ref iC),some (.ref cm),some (.ref ua),some (.int (i:Int)),some (.int (h:Int)),some (.int (g:Nat)),Ur,Rp]/\g<pr ns/\h≠g/\Bs p sd sr gl hm iC cm ua ns cM dU homes st cs zs H Hx) ?_ ?_
  rotate_left
  .intro N hN;refine⟨_,rfl,_,rfl,rfl,_,rfl,iE (fun e=>?_) (fun e=>hN _ _ ⟨g0,rfl,Y4,fun z=>e (by rw[z];exact aT rfl),b2⟩)⟩;refine⟨_,rfl,_,_,rfl,rfl,_,rfl,_,rfl,_,_,rfl,rfl,p,pr ns-1,by rw[show (((pr ns-1:Nat)):Int)=((pr ns:Nat):Int)-1 by lia];rfl,by lia,by lia,b2.qA,fun d3 H3 hd3 s3 p3=>⟨_,_,rfl,rfl,_,rfl,_,_,rfl,rfl,(by show (0:Int)<((pr ns:Nat):Int);lia),?_⟩⟩;have ev:((h:Int)+1+(d3:Int)) % ((pr ns:Nat):Int)=(((h+(1+d3)) % pr ns:Nat):Int):=by
    rw[Int.natCast_emod];congr 1;lia
   refine hN _ _ ⟨(h+(1+d3)) % pr ns,?_,jA _ (by lia),(Px hh (by lia) (by lia)).symm,b2.eS AD s3 p3⟩;rw[<-ev];rfl
  clear b2;rintro σ Hx ⟨g,rfl,hg,lN,b2⟩;obtain⟨ph,hph⟩:=yC hh hg lN;have lh:=G.lh;have lc:=G.lc;have lz:=G.lz;refine⟨_,rfl,.inl ⟨rfl,_,br.of b2.Bm⟩,_,rfl,hm,_,_,rfl,rfl,b2.Bm,by rw[bi,lh,hl];exact bK (show i<17 by lia) (by decide),?_⟩;have b3:=b2.aH AD (g:=g);clear b2;generalize upd Hx hm (.lst (NV homes++[.int (g:Int)]))=Hy at *;have hpy:=b3.qA;have Y5:=b3.s0 _ _ PB (hp.neT PB);refine⟨_,rfl,_,rfl,_,rfl,_,rfl,sd,ua,ns,h,g,ph,zs,rfl,Y5,BX,hph,b3.vn,b3.po,fun r ys H4 s4 nr JA yl hy=>?_⟩;have b4:=b3.same AD s4;clear b3;refine lX (fun σ Hx=>σ=[some (.ref p),some (.ref sd),some (.int (pr ns:Nat)),some (.ref sr),some (.ref gl),some (.ref hm),some (.ref iC),some (.ref cm),some (.ref ua),some (.int (i:Int)),some (.int (h:Int)),some (.int (g:Int)),some (.ref r),Rp]/\Bs p sd sr gl hm iC cm ua ns cM dU (homes++[g]) st cs zs H Hx/\Hx r=some (.lst (NV ys))) ?_ (fun N hN=>hN _ _ ⟨rfl,b4,JA⟩);have nrp:r≠p:=hpy.ne nr;clear b4 JA s4 nr;rintro σ H4 ⟨rfl,b4,JA⟩;refine lX (fun σ Hz=>∃o o' qW y12,σ=[some (.ref p),some (.ref sd),some (.int (pr ns:Nat)),some (.ref sr),some (.ref gl),some (.ref hm),some (.ref iC),some (.ref cm),some (.ref ua),some (.int (i:Int)),some (oV o),some (.int (g:Nat)),y12,some (oV o')]/\Bs p sd sr gl hm iC cm ua ns cM dU (homes++[g]) st cs qW H Hz/\(∀u∈zp zs,u∈zp qW)/\qW.length<=zs.length+1/\(o=none->o'=none)/\(∀h,o=some h->h<pr ns/\g<pr ns/\h≠g/\∃y,o'=some y/\Ln ns h g y/\((h:Int),(y:Int))∈zp qW/\((h:Int),(y:Int))∉zp zs)) ?_ ?_
  rotate_left
  .intro N hN;have no:∀Hz,Bs p sd sr gl hm iC cm ua ns cM dU (homes++[g]) st cs zs H Hz->N [some (.ref p),some (.ref sd),some (.int (pr ns:Nat)),some (.ref sr),some (.ref gl),some (.ref hm),some (.ref iC),some (.ref cm),some (.ref ua),some (.int (i:Int)),some .bR,some (.int (g:Nat)),some (.ref r),some .bR] Hz:=fun Hz b=>hN _ _ ⟨none,none,zs,_,rfl,b,fun u z=>z,Nat.le_succ _,fun _=>rfl,fun h z=>(nomatch z)⟩;refine⟨_,rfl,by show 0<=sizeLine;decide,fun E1 YJ=>?_⟩;have sE:=ao (o:=.lst []) YJ;have b5:=b4.same AD sE;refine⟨r,E1,_,[],rfl,rfl,br.of (sE _ _ JA),br.of ah,fun i h1 h2=>absurd h2 (by simp),_,rfl,?_⟩;rw[ap bq,vj];by_cases c:NV ys=[]
   .rw[aT c];exact gJ (gJ ⟨by show 2<=sizeLine;decide,fun t ht=>⟨t,_,rfl,bp.of ah,rfl,_,_,rfl,_,_,rfl,rfl,no _ (b5.same AD (ao ht))⟩⟩)
   .rw[cW c];have yp:0<ys.length:=by
     rcases zH ys.length with z|z
     .exact absurd (by rw[zd z];rfl) c
     .exact z
    refine e_ ⟨_,rfl,p,16,rfl,by decide,by decide +kernel,b5.qA,fun d4 H5 hd4 s5 p5=>⟨rfl,_,rfl,iE (fun e=>⟨by show 2<=sizeLine;decide,fun t ht=>⟨t,_,rfl,bp.of ah,rfl,_,_,rfl,_,_,rfl,rfl,no _ ((b5.eS AD s5 p5).same AD (ao ht))⟩⟩) (fun e=>?_)⟩⟩;have b6:=b5.eS AD s5 p5;have Wi:=s5 _ _ (sE _ _ JA) nrp;refine⟨_,rfl,_,rfl,_,rfl,r,_,rfl,.inl (br.of Wi),p,ys.length,by rw[bi];rfl,yp,by lia,b6.qA,fun d5 H6 hd5 s6 p6=>?_⟩;have b7:=b6.eS AD s6 p6;have Tr:=s6 _ _ Wi nrp;refine⟨r,_,_,_,rfl,rfl,br.of Tr,aw (l4 hd5),?_⟩;obtain⟨y1,y2⟩:=hy (ys.getD d5 0) (by rw[cr,cU hd5];exact iI _);generalize ys.getD d5 0=y at *;refine⟨_,rfl,.inl ⟨rfl,_,br.of b7.vn⟩,_,rfl,_,rfl,by show 2<=sizeLine;decide,fun t ht=>?_⟩;have bg:=ao (o:=.tup [.int (h:Int),.int (y:Int)]) ht;have b8:=b7.same AD bg;have hzl:(zr zs).length<sizeLine:=by
     show (zs.map _).length<_;rw[aP];exact bK (show zs.length<17 by lia) (by decide)
    refine⟨ua,_,_,rfl,rfl,b8.vn,hzl,?_⟩;have b9:=b8.aU AD (t:=t) (u:=((h:Int),(y:Int))) ah;refine hN _ _ ⟨some h,some y,zs++[(t,((h:Int),(y:Int)))],_,rfl,b9,fun u z=>by rw[Ir];exact kd _ z,by rw[dY];exact aW _,fun z=>(nomatch z),fun h' e'=>?_⟩;obtain rfl:=a8 e';exact⟨hh,hg,lN,y,rfl,y1,by rw[Ir];exact hX _ (dL.mpr rfl),y2⟩
  clear b4 JA;rintro σ Hz ⟨o,o',qW,y12,rfl,b5,q1,q4,q2,q3⟩;have G':=G.snoc (g:=g) q1 q4 q2 q3;refine⟨_,rfl,.inl ⟨rfl,_,br.of b5.iD⟩,_,rfl,iC,_,_,rfl,rfl,b5.iD,by rw[aP,hl];exact bK (show i<17 by lia) (by decide),?_⟩;have b6:=b5.aS AD (o:=o);refine⟨_,rfl,.inl ⟨rfl,_,br.of b6.yD⟩,_,rfl,cm,_,_,rfl,rfl,b6.yD,by rw[aP,lc,hl];exact bK (show i<17 by lia) (by decide),?_⟩;have b7:=b6.aC AD (o:=o');exact⟨⟨_,_,_,_,_,rfl⟩,homes++[g],st++[o],cs++[o'],qW,b7,G',by rw[dY,hl];rfl⟩
end
end tu
namespace PySem
open PySem.Builtin.Range in
def pX(a b c:Int):Bool:=rangeFitsLong a&&rangeFitsLong b&&rangeFitsLong c&&rangeFitsLong (-c)&&rangeFitsLong (a-c)&&rangeFitsLong (rangeSize a b c)
theorem qB:isSubtype (.type "range_iterator") (.type "reversed")=pure false:=by rw[v8];kernel_rfl
section
variable {prog:Program} {w:World} {A:Around} {E:Value->Shared->Prop} {s:Shared}
def yE(a b c:Int):Obj:={ cls:=.type "range_iterator",data:=.fields #[rawInt (a+(Builtin.Range.rangeSize a b c-1)*c),rawInt (Builtin.Range.rangeSize a b c),rawInt (-c)] }
theorem lP{r:Addr}{a b c:Int}{t u v:Tok}{Q:Value->Shared->Prop}(hr:IsRange s.heap r a b c t u v)(JB:pX a b c=true)(h:Q (.ref s.heap.objs.size) { s with heap:=s.heap.push (yE a b c) }):wpAny (model prog w) A (call (.builtin "range.__reversed__") [.ref r]) Q E s:=by
 have hT:s.TypeIs (.ref r) "range":=⟨_,hr,rfl⟩
 refine h_ F.slot_range_reversed hT F.entry_range_reversed ?_ (F.args_range_reversed_1 _);unfold pX at JB;obtain⟨hp,g,d,tk,os⟩:=s
 wp_walk using wpAny_loadPart' hr
 simp only[JB,rR,ml,iZ,mE]
 wp_walk
 exact⟨_,rfl,h⟩
theorem ny{l:Addr}{a b c:Int}{t u v:Tok}{Q₁:Value->Shared->Prop}(hl:IsRange s.heap l a b c t u v)(JB:pX a b c=true)(h:Q₁ (.ref s.heap.objs.size) { s with heap:=s.heap.push (yE a b c) }):
  codeAny (model prog w) A (.call (.builtin "reversed.__new__") ⟨[.type "reversed",.ref l],[]⟩) (wants Q₁ E) s:=by
 have hT:s.TypeIs (.ref l) "range":=⟨_,hl,rfl⟩
 refine vZ ?_;show wpAny _ A.in1 (do checkBuiltinCall "reversed.__new__" ⟨[.type "reversed",.ref l],[]⟩;again (.builtin "reversed.__new__" ⟨[.type "reversed",.ref l],[]⟩)) _ _ s;refine ak (fK (F.newCall_reversed_1 _) (wpAny_pure ⟨rX F.plain_reversed_new _,jV F.entry_reversed_new ?_⟩));rw[nM F.plain_reversed_new _];unfold Builtin.«reversed.__new__»;refine ak (fK (newClass_reversed _) ?_);try dsimp only
 refine ak (fK (a:=()) (by first|rfl|kernel_rfl) ?_);refine ak (fK (a:=()) (by first|rfl|kernel_rfl) ?_);try dsimp only
 refine ak (vX hT F.slot_range_reversed.lookup ?_);try dsimp only
 refine ak (fK (F.slot_range_reversed.bind _) ?_);try dsimp only
 first
 |rw[ap (show ¬ ((Value.builtin "range.__reversed__"==Value.none)=true) from bq)]
 |(show wpAny _ _ (if (Value.builtin "range.__reversed__"==Value.none)=true then _ else _) _ _ _;rw[ap (show ¬ ((Value.builtin "range.__reversed__"==Value.none)=true) from bq)])
 refine ak (wpAny_rule ?_);refine ak (m:=runValue (.call (.builtin "range.__reversed__") ⟨[.ref l],[]⟩)) (show wpAny _ _ (call (.builtin "range.__reversed__") [.ref l]) _ _ _ from lP hl JB ?_);first
 |exact wpAny_pure h
 |exact ak (wpAny_pure (wpAny_pure h))
theorem lQ{l:Addr}{a b c:Int}{t u v:Tok}{Q:Value->Shared->Prop}(hl:IsRange s.heap l a b c t u v)(JB:pX a b c=true)(h:Q (.ref s.heap.objs.size) { s with heap:=s.heap.push (yE a b c) }):wpAny (model prog w) A (call (.type "reversed") [.ref l]) Q E s:=by
 refine callType_other (U:="range_iterator") (Q₁:=fun obj s₁=>obj=.ref s.heap.objs.size/\s₁={ s with heap:=s.heap.push (yE a b c) }) (by decide +kernel) F.create_reversed ⟨_,_,F.mro_reversed⟩ F.made_reversed qB (F.typeCall_reversed_1 _) (ny hl JB ⟨rfl,rfl⟩) ?_;rintro obj s₁ ⟨rfl,rfl⟩;exact⟨⟨_,b_ _ rfl,rfl⟩,h⟩
end
end PySem
namespace L2
open PySem PySem.Spec PyProof.Rows
def Us(hi:Int)(n:Nat):It:=⟨fun i _=>i<n,fun i H x H'=>H'=H/\x=.int (hi-i),fun i _=>n<=i,fun _ _=>False⟩
theorem EE{P:Program}{w:World}{K:PySem.W.Frag}{tg:Expr}(it:Addr)(hi:Int)(n:Nat):qm P w K tg (Us hi n) [it] it (fun i h=>IsRangeIter h it (hi+(i:Nat)*-1) ((n:Int)-(i:Nat)) (-1)) where
 mem:=by simp
 obj:=fun i h st b hb=>by
  have e:b=it:=by simpa using hb
  subst e;exact⟨_,st,fun v z=>by
   have z':Data.fields _=Data.cell v:=z;cases z'⟩
 keep:=fun i h h' st k=>k it (by simp) _ st
 item:=by
  intro X hP hw hK i ae s σ H E hc I hf st hg;subst hP hw hK;obtain⟨f0,f1,f2,f3,f4,f5⟩:=hf it (by simp);refine wpAny_pyNext_range_item st (by have:i<n:=hg;lia) fun h' bg sb=>?_;have I1:aI X ae σ H { s with heap:=h',toks:=s.toks+1 }:=I.turned (fun b o hb e=>(sb.2 b hb).trans e) f0 f1 f3 f4 f5;have oC:IsRangeIter h' it (hi+((i+1:Nat):Int)*-1) ((n:Int)-((i+1:Nat):Int)) (-1):=by
   rw[show hi+((i+1:Nat):Int)*-1=hi+(i:Int)*-1+-1 by lia,show (n:Int)-((i+1:Nat):Int)=(n:Int)-(i:Int)-1 by lia];exact bg
  exact⟨_,rfl,xJ (s:={ s with heap:=h',toks:=s.toks+1 }) (n:="range_iterator") oC rfl rfl (by decide) ⟨.int (hi-i),H,I1,⟨s.toks,by rw[show hi+(i:Int)*-1=hi-(i:Int) by lia]⟩,⟨rfl,rfl⟩,oC,fun b hb=>(hf b hb).1⟩⟩
 done:=by
  intro X hP hw hK i ae s σ H E ux I hf st hg;subst hP hw hK;have hc:X.calm=true:=ux.elim id fun z=>(show False from z).elim;obtain⟨f0,f1,f2,f3,f4,f5⟩:=hf it (by simp);exact wpAny_pyNext_range_end (I.ok.hd hc) st (by have:n<=i:=hg;lia) fun h' eb=>⟨rfl,I.turned (t':=s.toks) (fun b o hb e=>eb b o hb e) f0 f1 f3 f4 f5⟩
 self:=fun _ _ _ _ _ st h=>zA st h
theorem Iu{n:Nat}:Builtin.Range.rangeSize 0 (n:Int) 1=n:=by rw[rangeSize_one];split <;> lia
theorem EF{n:Nat}(h:n<=1000):pX 0 (n:Int) 1=true:=by
 unfold pX;rw[Iu];simp only[Builtin.Range.rangeFitsLong,gh,mm];refine⟨⟨⟨⟨⟨?_,?_⟩,?_⟩,?_⟩,?_⟩,?_⟩ <;> lia
section
variable {X:Cx} {tg:Expr}
def Ut(ta:TA):TI:=fun σ H R=>ta σ H fun vs H1=>∃ (p:Addr) (n:Nat),vs=[.ref p]/\H1 p=some (.BL 0 (n:Int))/\n<=1000/\R (Us ((n:Int)-1) n) H1
theorem Lx{e:Expr}{ta:TA}{p pos:Pos}(hg:Gl X "reversed")(hm:X.mg "reversed"=none)(ha:PA X [e] ta)(hs:starEach [e] X.env=[(false,eval e X.env)]:=by rfl):
  PI X tg (.Call (.Name "reversed" p) [e] [] pos) (Ut ta):=by
 intro ae s σ H R I h;refine Call_ (kH I hg hm boot_reversed (rf (cz (ha pos ae s σ H _ I h) fun us s1 ⟨vs,H1,I1,r1,q1⟩=>?_) hs rfl));obtain⟨a,n,rfl,ea,hn,q⟩:=q1;obtain⟨u1,rfl,r2⟩:=r1.one;obtain rfl:u1=Value.ref a:=r2;obtain⟨t,u,v,hp⟩:=(show cf X.prog X.w H1 s1.heap a (.BL 0 (n:Int)) from I1.ck a _ ea)
 refine lQ (show IsRange s1.heap a 0 n 1 t u v from hp) (EF hn) ?_;have I2:aI X ae σ H1 { s1 with heap:=s1.heap.push (yE 0 n 1) }:=I1.kept (t':=s1.toks) fun b o e=>bz _ e;have st:IsRangeIter (s1.heap.push (yE 0 n 1)) s1.heap.objs.size ((n:Int)-1+((0:Nat):Int)*-1) ((n:Int)-((0:Nat):Int)) (-1):=by
  have e0:=b_ s1.heap (o:=yE 0 n 1) rfl;show _=some _;rw[e0];unfold yE;rw[Iu];simp
 refine zA st ?_;refine⟨s1.heap.objs.size,[s1.heap.objs.size],_,_,H1,rfl,I2,EE _ ((n:Int)-1) n,st,fun b hb=>?_,q⟩;have e:b=s1.heap.objs.size:=by simpa using hb
 subst e;obtain⟨f0,f⟩:=I1.wr (aW _) (I1.ck.fresh (aW _));exact⟨f0,f⟩
end
theorem Uu{X:Cx}{ae:List (Addr×Obj)}{σ:St}{H:Hp}{s:Shared}{a:Addr}{kvs:List (fL×V)}{k:fL}{u r:Value}{v:V}{A:Around}{E:Value->Shared->Prop}{Q:Unit->Shared->Prop}(I:aI X ae σ H s)(e:H a=some (.dK kvs))(l:kvs.length<sizeLine)(ry:bD (kV k) u)(rv:bD v r)(h:∀s',aI X ae σ (upd H a (.dK (pM kvs k v))) s'->Q () s'):wpAny (model X.prog X.w) A (dictSet a u r) Q E s:=by
 obtain⟨z,hd,vs,ML,dd⟩:=MG I.ck e;have hz:vs.length<=sizeLine:=by rw[<-ML.length];exact z
 have hl:(pM kvs k v).length<=sizeLine:=by have:=x_ kvs k v;lia
 refine wpAny_dictSet_pairs (hsz:=hz) (GD ry) dd fun h' dd' hs=>h _ ?_;have he:∃q,h'.get? a=some q:=let ⟨q,_,_,hq,_⟩:=dd';⟨q,hq⟩;exact Km I (by rw[e];exact True.intro) hs he (Oq hl hd (ML.put k rv) dd')
def yF(J:It)(g:TG)(tt:TT)(tk tv:TE)(D:Addr)(fin:Hp->Prop)(σB:St)(H1:Hp):Prop:=
 ∃W:Nat->Nat->St->Hp->Prop,(∃m,W 0 m σB H1)/\∀i m σ H,W i m σ H->(J.stop i H/\fin H)\/(J.go i H/\∀x H',J.Jr i H x H'->g x σ H' fun σ2 H2=>tt σ2 H2 fun b H3=>
  if b=true then tk σ2 H3 fun y H4=>tv σ2 H4 fun v H5=>∃kvs k,H5 D=some (.dK kvs)/\y=kV k/\kvs.length<sizeLine/\∃m',m'<m/\W (i+1) m' σ2 (upd H5 D (.dK (pM kvs k v))) else ∃m',m'<m/\W (i+1) m' σ2 H3)
theorem Bn{B:Cx}{kx vx tg iter:Expr}{oE:List Expr}{scope:Scope}{pos:Pos}{J:It}{g:TG}{tt:TT}{tk tv:TE}{D it:Addr}{fp:List Addr}{tn:Nat->Heap->Prop}{fin:Hp->Prop}{R:Result->Shared->Prop}{s:Shared}{σB:St}{H1:Hp}(hx:B.xe=fun _ _=>False)(hc:B.calm=true)(T:qm B.prog B.w B.K tg J fp it tn)(hg:PG B tg g)(ht:Jw B oE tt)(hk:PE B kx tk)(hv:PE B vx tv)(I:aI B [] σB H1 s)(st:tn 0 s.heap)(hf:∀b∈fp,gs B [] H1 b)(hw:yF J g tt tk tv D fin σB H1)(hR:∀σ' H' s',aI B [] σ' H' s'->fin H'->R (.ok .next) s'):
  codeAny (model B.prog B.w) B.A (.compLoop (.DictComp kx vx [⟨tg,iter,oE,0⟩] scope pos) 0 (.ref it) (.ref D) B.env) R s:=by
 obtain⟨W,⟨m0,w0⟩,Ah⟩:=hw;have sf:∀ {H':Hp},(∀b∈fp,H' b=none)->∀b∈fp,gs B [] H' b:=fun hn b hb=>⟨hn b hb,(hf b hb).2⟩
 refine codeAny_loop rfl (fun n s'=>∃i σ' H',aI B [] σ' H' s'/\tn i s'.heap/\(∀b∈fp,H' b=none)/\W i n σ' H') ?_ m0 ⟨0,σB,H1,I,st,fun b hb=>(hf b hb).1,w0⟩;rintro n s3 ⟨i,σ3,H3,I3,xA,Js,w3⟩;show wpAny _ B.A ((compTurn (.DictComp kx vx [⟨tg,iter,oE,0⟩] scope pos) 0 (.ref it) (.ref D) B.env).onRaise (fun x=>do noteFrame x B.env;theTreesLotGoes x)) _ _ s3;refine wpAny_noted ?_;rw[compTurn_dict];have nx:∀ {α:Type} {t:Sem α} {Q:α->Shared->Prop} {E':Value->Shared->Prop} {s:Shared},wpAny (model B.prog B.w) B.A t Q B.xe s->wpAny (model B.prog B.w) B.A t Q E' s:=fun h=>
  gy h (fun _ _ q=>q) fun _ _ z=>by rw[hx] at z;exact z.elim
 rcases Ah i n σ3 H3 w3 with ⟨stop,qn⟩|⟨go,step⟩
 .refine ak (iX (ak (cz (T.done B rfl rfl rfl i [] s3 σ3 H3 _ (.inl hc) I3 (sf Js) xA stop) fun r s4 ⟨hr,I4⟩=>?_)));subst hr;exact wpAny_pure (hR σ3 H3 s4 I4 qn)
 .refine ak (iX (ak (cz (T.item B rfl rfl rfl i [] s3 σ3 H3 _ (.inl hc) I3 (sf Js) xA go) fun r s4 ⟨u,hr,h4⟩=>?_)));subst hr;refine ak (cz h4 fun _ s5 ⟨x,H5,I5,r5,y5,uo,R0⟩=>?_);have R1:=I5.pinned (sf R0) (T.obj _ _ uo);refine ak (nx (cz (hg _ s5 σ3 H5 x u _ R1 r5 (step x H5 y5)) fun _ s6 ⟨σ6,H6,I6,q6⟩=>?_));have back:∀ {σ7:St} {H7:Hp} {s7:Shared} {m':Nat},aI B ([]++pq fp s5.heap) σ7 H7 s7->m'<n->W (i+1) m' σ7 H7->∃m,m<n/\∃i σ' H',aI B [] σ' H' s7/\tn i s7.heap/\(∀b∈fp,H' b=none)/\W i m σ' H':=fun {σ7 H7 s7 m'} I7 hm w7=>by
   refine⟨m',hm,i+1,σ7,H7,I7.kK,T.keep _ _ _ uo fun b hb o e=>(I7.pin (b,o) (hX _ (hX _ (fN hb e)))).1,fun b hb=>?_,w7⟩;obtain⟨o,e,d⟩:=T.obj _ _ uo b hb;exact(I7.pin (b,o) (hX _ (hX _ (fN hb e)))).2.1
  refine ak (nx (cz (ht _ s6 σ6 H6 _ I6 q6) fun ok s7 ⟨H7,I7,q7⟩=>?_));cases ok with
  |false=>
   rw[ap bq] at q7;obtain⟨m',hm,w7⟩:=q7;exact wpAny_pure ⟨rfl,back I7 hm w7⟩
  |true=>
   rw[ai rfl] at q7;refine ak (ak (nx (cz (hk _ s7 σ6 H7 _ I7 q7) fun v s8 ⟨y,H8,I8,r8,q8⟩=>?_)));refine ak (gm (nx (cz (hv _ s8 σ6 H8 _ I8 q8) fun v9 s9 ⟨y9,H9,I9,r9,kvs,k,hD,ey,hl,m',hm,w9⟩=>?_)));subst ey;refine ak (iX (gm ?_));exact Uu I9 hD hl r8 r9 fun s' I'=>wpAny_pure ⟨rfl,back I' hm w9⟩
section
variable {X:Cx} {kx vx tg iter:Expr} {oE:List Expr} {scope:Scope} {pos:Pos} {wi:TI} {g:TG} {tt:TT} {tk tv:TE} {NB:List Str} {src:List (Option Nat)}
def Iv(src:List (Option Nat))(wi:TI)(g:TG)(tt:TT)(tk tv:TE):TE:=fun σ H Q=>wi σ H fun J H1=>∀D,H1 D=none->yF J g tt tk tv D (fun H'=>Q (.ref D) H') (F4 src σ) (upd H1 D (.dK []))
theorem qk{ae:List (Addr×Obj)}{σ:St}{H2:Hp}{s2:Shared}{J:It}{fp:List Addr}{it:Addr}{tn:Nat->Heap->Prop}{cl:List (Str×Addr)}{fin:Addr->Hp->Prop}{E':Value->Shared->Prop}{RR:Value->Addr->Result->Shared->Prop}(S:eO NB src scope X)(hc:X.calm=true)(c1:∀x c,cl.lookup x=some c->X.env.cells.lookup x=some c)(c2:∀x,(x,NameKind.free)∈scope.names->∃c,cl.lookup x=some c)(hg:∀cl C s₃ H₃ fp,PG (n5 X NB scope cl C s₃ H₃ fp) tg g)(ht:∀cl C s₃ H₃ fp,Jw (n5 X NB scope cl C s₃ H₃ fp) oE tt)(hk:∀cl C s₃ H₃ fp,PE (n5 X NB scope cl C s₃ H₃ fp) kx tk)(hv:∀cl C s₃ H₃ fp,PE (n5 X NB scope cl C s₃ H₃ fp) vx tv)(I2:aI X ae σ H2 s2)(T:qm X.prog X.w X.K tg J fp it tn)(oC:tn 0 s2.heap)(f2:∀b∈fp,gs X ae H2 b)(hw:∀D,H2 D=none->yF J g tt tk tv D (fin D) (F4 src σ) (upd H2 D (.dK [])))(hR:∀D C H' s',gs X ae H' C->aI X ae σ H' s'->(∃m,s'.heap.Ns C m)->fin D H'->RR (.ref D) C (.ok .next) s'):
  wpAny (model X.prog X.w) X.A newDict (fun dX s₃=>wpAny (model X.prog X.w) X.A (newFunctionEnv scope X.env.globals cl [] X.env.qual none .none (some X.env)) (fun F7 s₄=>
   codeAny (model X.prog X.w) X.A (.compStart (.DictComp kx vx [⟨tg,iter,oE,0⟩] scope pos) 0 (.ref it) dX { F7 with scope:=relabel scope X.env }) (RR dX F7.locals) s₄) E' s₃) E' s2:=by
 refine hZ (n9 ?_);have I3:aI X ae σ (upd H2 s2.heap.objs.size (.dK [])) { s2 with heap:=s2.heap.push { cls:=.type "dict",data:=.dict #[] } }:=I2.laid (a:=s2.heap.objs.size) (o:=.dK []) (t':=s2.toks) (fun _ _ q=>bz _ q) (aW _) (GG s2.heap I2.big);have hD:H2 s2.heap.objs.size=none:=I2.fresh;have fo:∀b∈fp,b<s2.heap.objs.size:=fun b hb=>by obtain⟨o,e,_⟩:=T.obj _ _ oC b hb;exact aO e
 have up:∀ {b:Addr},b∈fp->upd H2 s2.heap.objs.size (.dK []) b=H2 b:=fun {b} hb=>al (aX (fo b hb));have f3:∀b∈fp,gs X ae (upd H2 s2.heap.objs.size (.dK [])) b:=fun b hb=>⟨by rw[up hb];exact(f2 b hb).1,(f2 b hb).2⟩
 have hsz:(s2.heap.push { cls:=.type "dict",data:=.dict #[] }).objs.size=s2.heap.objs.size+1:=by rw[ie]
 generalize W9:({ s2 with heap:=s2.heap.push { cls:=.type "dict",data:=.dict #[] } }:Shared)=s3 at I3 |-;have Sm:s3.heap=s2.heap.push { cls:=.type "dict",data:=.dict #[] }:=by rw[<-W9]
 have So:∀b∈fp,b<s3.heap.objs.size:=fun b hb=>by rw[Sm,hsz];exact dZ (fo b hb)
 have F8:(s3.heap.push { cls:=.type "dict",data:=.dict #[] }).objs.size=s3.heap.objs.size+1:=ie ..;have wC:∀x c,(cellsFrom (s3.heap.objs.size+1) scope.names cl).lookup x=some c->cl.lookup x=some c\/(s3.heap.objs.size<c/\(pushCells (s3.heap.push { cls:=.type "dict",data:=.dict #[] }) scope.names).IsCell c none):=fun x c e=>by
  rw[<-F8] at e;rcases lB _ _ _ _ _ e with z|⟨z1,z2⟩
  .exact .inl z
  .exact .inr ⟨by rw[F8] at z1;exact z1,z2⟩
 have F9:=(Heap.Ns.new s3.heap (.type "dict")).keeps (rP scope.names _);have keep:∀b o,s3.heap.get? b=some o->(pushCells (s3.heap.push { cls:=.type "dict",data:=.dict #[] }) scope.names).get? b=some o:=fun b o e=>rP _ _ b o (bz _ e);generalize hh1:pushCells (s3.heap.push { cls:=.type "dict",data:=.dict #[] }) scope.names=h₁ at wC F9 keep |-;have IB:aI (n5 X NB scope (cellsFrom (s3.heap.objs.size+1) scope.names cl) s3.heap.objs.size s3 (upd H2 s2.heap.objs.size (.dK [])) fp) [] (F4 src σ) (upd H2 s2.heap.objs.size (.dK [])) { s3 with heap:=h₁,toks:=s3.toks }:=
  Ca I3 S c1 c2 f3 So F9 keep wC
 have Sq:tn 0 h₁:=T.keep 0 s2.heap h₁ oC fun b hb o e=>keep b o (by rw[Sm];exact bz _ e);have fB:∀b∈fp,gs (n5 X NB scope (cellsFrom (s3.heap.objs.size+1) scope.names cl) s3.heap.objs.size s3 (upd H2 s2.heap.objs.size (.dK [])) fp) [] (upd H2 s2.heap.objs.size (.dK [])) b:=fun b hb=>by
  refine⟨(f3 b hb).1,aX (So b hb),fun z=>?_,.inl hb,fun x c e=>(IB.ok.VQ b hb).2 x c e,fun p hp=>absurd (show p∈([]:List (Addr×Obj)) from hp) (by simp)⟩;rcases ba.mp (I3.r6 b z) with e|e
  .exact(f3 b hb).2.1 e
  .exact(f3 b hb).2.2.1 e
 have loop:codeAny (model X.prog X.w) X.A (.compLoop (.DictComp kx vx [⟨tg,iter,oE,0⟩] scope pos) 0 (.ref it) (.ref s2.heap.objs.size) (compEnvC scope (cellsFrom (s3.heap.objs.size+1) scope.names cl) s3.heap.objs.size X.env)) (RR (.ref s2.heap.objs.size) s3.heap.objs.size)
   { s3 with heap:=h₁,toks:=s3.toks }:=by
  refine Bn (B:=n5 X NB scope (cellsFrom (s3.heap.objs.size+1) scope.names cl) s3.heap.objs.size s3 (upd H2 s2.heap.objs.size (.dK [])) fp) rfl hc T (hg _ _ _ _ _) (ht _ _ _ _ _) (hk _ _ _ _ _) (hv _ _ _ _ _) IB Sq fB (hw _ hD) fun σ' H' s' J' q=>?_;obtain⟨m,hm,_⟩:=J'.loc;exact hR _ _ H' s' (I3.wr (aW _) J'.free) (I3.Mq J' f3) ⟨m,hm⟩ q
 exact codeAny_compStart_dict loop (T.self _ 0 _ _ _ Sq loop)
theorem Iw(S:eO NB src scope X)(hc:X.calm=true)(hi:PI X tg iter wi)(hg:∀cl C s₃ H₃ fp,PG (n5 X NB scope cl C s₃ H₃ fp) tg g)(ht:∀cl C s₃ H₃ fp,Jw (n5 X NB scope cl C s₃ H₃ fp) oE tt)(hk:∀cl C s₃ H₃ fp,PE (n5 X NB scope cl C s₃ H₃ fp) kx tk)(hv:∀cl C s₃ H₃ fp,PE (n5 X NB scope cl C s₃ H₃ fp) vx tv)(hs:∀x,foldedSetIterable iter X.env x=pure x:=by intro _;rfl):PE X (.DictComp kx vx [⟨tg,iter,oE,0⟩] scope pos) (Iv src wi g tt tk tv):=by
 intro ae s σ H Q I h;obtain⟨cl,Ay,c1,c2⟩:=iu I.ok S;rw[arm_eval_DictComp];refine vB (use:=none) (cl:=cl) rfl hs Ay S.kind S.names (cz (hi ae s σ H _ I h) fun v s1 h1=>cz h1 fun QX s2 h2=>?_);obtain⟨it,fp,tn,J,H2,e,I2,T,oC,f2,hw⟩:=h2;subst e;refine qk (RR:=fun dX C=>compPost (model X.prog X.w) X.A X.xe none (EP X ae σ Q) dX C) S hc c1 c2 hg ht hk hv I2 T oC f2 hw fun D C H' s' fC I' hm q=>?_;obtain⟨m,hm⟩:=hm;refine⟨m,hm,fun h' sb=>⟨.ref D,H',?_,rfl,q⟩⟩;obtain⟨g0,g1,_,g3,g4,g5⟩:=fC;exact I'.turned (t':=s'.toks) (fun b o hb e=>(sb.2 b hb).trans e) g0 g1 g3 g4 g5
theorem yG{i:Nat}{y:Str}{py F_:Pos}(S:eO NB src scope X)(hc:X.calm=true)(hi:PI X tg iter wi)(hg:∀cl C s₃ H₃ fp,PG (n5 X NB scope cl C s₃ H₃ fp) tg g)(ht:∀cl C s₃ H₃ fp,Jw (n5 X NB scope cl C s₃ H₃ fp) oE tt)(hk:∀cl C s₃ H₃ fp,PE (n5 X NB scope cl C s₃ H₃ fp) kx tk)(hv:∀cl C s₃ H₃ fp,PE (n5 X NB scope cl C s₃ H₃ fp) vx tv)(hN:X.N.Nodup)(Ga:X.N[i]?=some y)(hy:X.env.scope.names.lookup y=some .local)(W_:swapsWith (.DictComp kx vx [⟨tg,iter,oE,0⟩] scope pos) (some (.Name y py)) F_.line X.env=pure true)(hs:∀x,foldedSetIterable iter X.env x=pure x:=by intro _;rfl):
  PS X (.Assign [.Name y py] (.DictComp kx vx [⟨tg,iter,oE,0⟩] scope pos) F_) (JO (Iv src wi g tt tk tv) (bV i)):=by
 intro ae s σ H D0 I h;obtain⟨cl,Ay,c1,c2⟩:=iu I.ok S;rw[exec_Assign_Name_used _ _ _ _ W_];refine ak (iX (ak ?_));show wpAny _ X.A (do let _ <- comprehension (.DictComp kx vx [⟨tg,iter,oE,0⟩] scope pos) scope X.env _ newDict false (eval iter X.env) (some (assign (.Name y py) X.env))) _ _ s;refine ak (gy (vB (use:=some (assign (.Name y py) X.env)) (Q:=fun _ s'=>SP X ae D0 .next s') (cl:=cl) rfl hs Ay S.kind S.names
  (cz (hi ae s σ H _ I h) fun v s1 h1=>cz h1 fun QX s2 h2=>?_)) (fun _ s' hq=>wpAny_pure (wpAny_pure hq)) fun _ _ e=>e)
 obtain⟨it,fp,tn,J,H2,e,I2,T,oC,f2,hw⟩:=h2;subst e;refine qk (RR:=fun dX C=>compPost (model X.prog X.w) X.A X.xe (some (assign (.Name y py) X.env)) (fun _ s'=>SP X ae D0 .next s') dX C) S hc c1 c2 hg ht hk hv I2 T oC f2 hw fun D C H' s' fC I' hm q=>?_;obtain⟨m,hm⟩:=hm;obtain⟨g0,g1,_,g3,g4,g5⟩:=fC;show wpAny _ X.A (assign (.Name y py) X.env (.ref D)) _ _ _;refine z5 (pf I' hN Ga (.inl hy) (v:=.ref D) rfl (fun FS Xa sb=>?_) (.inr hy));obtain⟨a,sb,ha⟩:=sb;have lN:C≠a:=by
  rcases ha with z|z
  .rw[z];exact g1
  .exact fun z'=>g4 y a z z'.symm
 refine⟨m,hm.sameBut sb lN,fun h' Xb=>⟨_,H',Xa.turned (t':=FS.toks) (fun b o hb e=>(Xb.2 b hb).trans e) g0 g1 g3 g4 g5,q⟩⟩
end
theorem tX{xs:Array Nat}{j:Nat}(hx:∀i k,i<k->k<xs.size->xs.getD i 0<xs.getD k 0):∀ (dB lo hi:Nat),hi-lo<=dB->lo<=hi->hi<=xs.size->(∀i,i<lo->xs.getD i 0<j)->(∀i,hi<=i->i<xs.size->j<=xs.getD i 0)->
  SetTable.below.go xs j dB lo hi<=xs.size/\(∀i,i<SetTable.below.go xs j dB lo hi->xs.getD i 0<j)/\∀i,SetTable.below.go xs j dB lo hi<=i->i<xs.size->j<=xs.getD i 0
 |0,lo,hi,hf,hl,hh,h1,h2=>by
  unfold SetTable.below.go;exact⟨by lia,h1,fun i z=>h2 i (by lia)⟩
 |dB+1,lo,hi,hf,hl,hh,h1,h2=>by
  unfold SetTable.below.go;by_cases c:lo<hi
  .rw[ai c];dsimp only;have eg:xs.getD ((lo+hi) / 2) j=xs.getD ((lo+hi) / 2) 0:=by
    rw[iF,iF,jc (by lia)];rfl
   rw[eg];by_cases d:xs.getD ((lo+hi) / 2) 0<j
   .rw[ai d];refine tX hx dB _ hi (by lia) (by lia) hh (fun i E8=>?_) h2;rcases gQ i ((lo+hi) / 2) with z|z
    .exact rV (hx i _ z (by lia)) d
    .rw[show i=(lo+hi) / 2 by lia];exact d
   .rw[ap d];refine tX hx dB lo _ (by lia) (by lia) (by lia) h1 (fun i E8 hs=>?_);rcases gQ ((lo+hi) / 2) i with z|z
    .exact bj (zT d) (jy (hx _ i z hs))
    .rw[show i=(lo+hi) / 2 by lia];exact zT d
  .rw[ap c];exact⟨by lia,h1,fun i z=>h2 i (by lia)⟩
def Ly(xs:Array Nat):Prop:=∀i k,i<k->k<xs.size->xs.getD i 0<xs.getD k 0
theorem tY{xs:Array Nat}{j:Nat}(hx:Ly xs):SetTable.below xs j<=xs.size/\(∀i,i<SetTable.below xs j->xs.getD i 0<j)/\∀i,SetTable.below xs j<=i->i<xs.size->j<=xs.getD i 0:=
 tX hx xs.size 0 xs.size (by lia) (cF _) (aW _) (fun i z=>absurd z (ij _)) (fun i z z'=>by lia)
theorem yH{xs:Array Nat}(hx:Ly xs){i j:Nat}(hi:i<xs.size)(h1:∀k,k<i->xs.getD k 0<j)(h2:j<=xs.getD i 0):SetTable.below xs j=i:=by
 obtain⟨b0,b1,b2⟩:=tY (j:=j) hx;rcases Nat.lt_trichotomy (SetTable.below xs j) i with z|z|z
 .have:=b2 _ (aW _) (by lia);have:=h1 _ z;lia
 .exact z
 .have:=b1 i z;lia
theorem yI{xs:Array Nat}{p j i:Nat}(hp:p<=xs.size):(SetTable.insertAt xs p j).getD i 0=if i<p then xs.getD i 0 else if i=p then j else xs.getD (i-1) 0:=by
 have e:∀ (ys:Array Nat) k,ys.getD k 0=ys.toList.getD k 0:=fun ys k=>by rw[iF,cr,nK]
 rw[e,e,e];have el:(SetTable.insertAt xs p j).toList=xs.toList.take p++j::xs.toList.drop p:=by
  unfold SetTable.insertAt;simp[List.extract_eq_drop_take];exact zj (by simp)
 have lp:(xs.toList.take p).length=p:=by rw[j9,eN];exact Nat.min_eq_left hp
 rw[el,cr,cr,cr];split
 .rw[nI (by lia),rk (by lia)]
 .split
  .rw[re (by lia),lp];subst i;simp
  .rw[re (by lia),lp,show i-p=(i-1-p)+1 by lia,List.getElem?_cons_succ,List.getElem?_drop];congr 2;lia
theorem Lz{xs:Array Nat}{j:Nat}(hx:Ly xs)(hj:∀i,i<xs.size->xs.getD i 0≠j):Ly (SetTable.insertAt xs (SetTable.below xs j) j):=by
 obtain⟨b0,b1,b2⟩:=tY (j:=j) hx;intro i k h1 h2;rw[eQ] at h2;rw[yI b0,yI b0];generalize SetTable.below xs j=p at *;split
 .split
  .exact hx i k h1 (by lia)
  .split
   .exact b1 i (by assumption)
   .have:=b1 i (by assumption);have:=b2 (k-1) (by lia) (by lia);lia
 .split
  .rw[ap (by lia),ap (by lia)];have:=b2 (k-1) (by lia) (by lia);have:=hj (k-1) (by lia);lia
  .rw[ap (by lia),ap (by lia)];exact hx (i-1) (k-1) (by lia) (by lia)
theorem Ix{l:List Nat}(h:l.Pairwise (·<·)):Ly l.toArray:=by
 intro i k h1 h2;have h2':k<l.length:=by simpa using h2
 have:=Fk.mp h i k (by lia) h2' h1;simpa [iF,h2',show i<l.length by lia] using this
theorem C7:∀ {l m:List Nat},l.Nodup->(∀x∈l,x∈m)->l.length<=m.length
 |[],_,_,_=>cF _
 |a::l,m,h,hm=>by
  obtain⟨h1,h2⟩:=cX.mp h;have ha:=hm a bG;have:=C7 (m:=m.erase a) h2 fun x hx=>(oN (fun (e:x=a)=>h1 (e ▸ hx))).mpr (hm x (bJ _ hx));rw[rj ha] at this;have:=vE ha;rw[cu];lia
theorem yJ{l:List Nat}{n:Nat}(nd:l.Nodup)(hl:l.length=n)(lt:∀x∈l,x<n):l.Perm (List.range n):=by
 refine(ze nd mv).mpr fun x=>⟨fun h=>cY.mpr (lt x h),fun h=>?_⟩
 refine oM fun c=>?_;have:=C7 (l:=x::l) (m:=List.range n) (cX.mpr ⟨c,nd⟩) fun y hy=>by
  rcases ba.mp hy with rfl|hy
  .exact h
  .exact cY.mpr (lt y hy)
 rw[cu,dO] at this;lia
def EG(owner:Array (Option Nat)):Prop:=∀i k x,owner.getD i none=some x->owner.getD k none=some x->i=k
theorem Iy{mask:Nat}{owner:Array (Option Nat)}{k j:Nat}(L:sQ (mask+1) owner k)(h:EG owner):EG (owner.setIfInBounds j (some k)):=by
 have e:∀i,(owner.setIfInBounds j (some k)).getD i none=if j=i/\i<owner.size then some k else owner.getD i none:=fun i=>by
  rw[iF,iF,Array.getElem?_setIfInBounds];by_cases c:j=i
  .subst c;by_cases d:j<owner.size
   .simp[d]
   .simp[d]
  .simp[c]
 have lt:∀i,owner.getD i none≠some k:=fun i z=>by
  rw[iF,<-nK] at z;cases hy:owner.toList[i]? with
  |none=>rw[hy] at z;cases z
  |some v=>rw[hy] at z;obtain rfl:v=some k:=z;exact ii _ (L.lt k (cZ hy))
 intro i i' x h1 h2;rw[e] at h1 h2;split at h1
 .cases h1;split at h2
  .lia
  .exact absurd h2 (lt _)
 .split at h2
  .cases h2;exact absurd h1 (lt _)
  .exact h i i' x h1 h2
theorem C8{mask:Nat}(R:y3 (mask+1)):∀ (l:List Int) (owner:Array (Option Nat)) (k:Nat),sQ (mask+1) owner k->EG owner->k+l.length<=mask->∀o n,
  l.foldl (fun dX h=>do
   let (owner,k) <- dX
   let j <- SetTable.layClean.free mask owner (SetTable.turns mask) (SetTable.bits h % (mask+1)) (SetTable.bits h)
   pure (owner.setIfInBounds j (some k),k+1)) (some (owner,k))=some (o,n)->EG o
 |[],owner,k,L,I,_,o,n,e=>by cases e;exact I
 |h::l,owner,k,L,I,hl,o,n,e=>by
  rw[cu] at hl;obtain⟨j,ej,L'⟩:=L.one R (by lia) h;rw[ic] at e;have:(do
   let (owner,k) <- some (owner,k)
   let j <- SetTable.layClean.free mask owner (SetTable.turns mask) (SetTable.bits h % (mask+1)) (SetTable.bits h)
   pure (owner.setIfInBounds j (some k),k+1):Option (Array (Option Nat)×Nat))=some (owner.setIfInBounds j (some k),k+1):=by
   show (SetTable.layClean.free mask owner (SetTable.turns mask) (SetTable.bits h % (mask+1)) (SetTable.bits h)).bind _=_;rw[ej];rfl
  rw[this] at e;exact C8 R l _ _ L' (Iy L I) (by lia) o n e
theorem xh{mask:Nat}(R:y3 (mask+1)){hs:Array Int}(h:hs.size<=mask){o:Array (Option Nat)}(e:SetTable.layClean mask hs=some o):EG o:=by
 have L0:sQ (mask+1) (Array.replicate (mask+1) none) 0:=⟨by simp,by simp[List.countP_replicate],fun x hx=>by simp at hx⟩
 obtain⟨o',e',L⟩:=wE R hs.toList _ 0 L0 (by simpa using h);have I:=C8 R hs.toList _ 0 L0 (fun i k x h1=>by rw[iF,Array.getElem?_replicate] at h1;split at h1 <;> cases h1) (by simpa using h) o' _ e';unfold SetTable.layClean at e;rw[<-Array.foldl_toList] at e;have e2:=congrArg (Option.map (·.1)) e';have e3:some o=some o':=e.symm.trans e2;cases e3;exact I
theorem LA{M:Nat}{owner:Array (Option Nat)}:(((List.range M).filterMap fun j=>(owner.getD j none).map (j,·)).map (·.1)).Pairwise (·<·):=by
 rw[jS];refine List.Pairwise.filterMap _ (fun a a' (h:a<a') b hb b' jW=>?_) (zk (n:=M));cases e:owner.getD a none with
 |none=>rw[e] at hb;cases hb
 |some x=>
  rw[e] at hb;cases hb;cases e':owner.getD a' none with
  |none=>rw[e'] at jW;cases jW
  |some x'=>rw[e'] at jW;cases jW;exact h
theorem PC{M:Nat}{owner:Array (Option Nat)}(I:EG owner):(((List.range M).filterMap fun j=>(owner.getD j none).map (j,·)).map (·.2)).Nodup:=by
 unfold List.Nodup;rw[jS];refine List.Pairwise.filterMap _ (fun a a' (h:a<a') b hb b' jW=>?_) (zk (n:=M));cases e:owner.getD a none with
 |none=>rw[e] at hb;cases hb
 |some x=>
  rw[e] at hb;cases hb;cases e':owner.getD a' none with
  |none=>rw[e'] at jW;cases jW
  |some x'=>
   rw[e'] at jW;cases jW;intro z;have z:x=x':=z;subst z;have:=I a a' x e e';lia
structure EH(led:Bool)(es:Array (Int×Value))(t:SetTable):Prop where
 dm:t.dummies=#[]
 sz:t.place.size=es.size
 ms:(t.mask=7/\es.size<=4)\/(t.mask=31/\es.size<=18)
 ld:t.led=led
 pl:t.plain=true
 rs:Ly t.place
theorem EH.fits{led:Bool}{es:Array (Int×Value)}{t:SetTable}(T:EH led es t):t.fits es.size=true:=by
 unfold SetTable.fits SetTable.fill;rw[T.dm,T.sz];simp;rcases T.ms with ⟨e,z⟩|⟨e,z⟩ <;> lia
theorem Iz{led:Bool}:EH led #[] (SetTable.fresh 0 0 led):=⟨rfl,rfl,.inl ⟨rfl,by decide⟩,rfl,rfl,fun i k _ h=>absurd h (ij _)⟩
theorem yK{t:SetTable}{hashAt:Nat->Int}{h:Int}(hd:t.dummies=#[]):∀ (dB:Nat) (p:SetTable.Probe) (j:Nat) (d:Option Nat),SetTable.probe.go t hashAt h dB p=some (.empty j d)->t.slot j=.empty
 |0,p,j,d,e=>by unfold SetTable.probe.go at e;cases e
 |dB+1,p,j,d,e=>by
  unfold SetTable.probe.go at e;rcases qQ hd p.j with z|⟨i,z,_⟩
  .rw[z] at e;cases e;exact z
  .rw[z] at e;dsimp only at e;split at e
   .cases e
   .exact yK hd dB _ j d e
theorem IA{led:Bool}{es:Array (Int×Value)}{t:SetTable}{h:Int}{x:Value}(T:EH led es t)(hl:es.size<18):
  ∃i9 t1,layNew t es h x=(i9,t1,false,false)/\i9.size=es.size+1/\t1.dummies=#[]/\t1.place.size=es.size+1/\t1.mask=t.mask/\t1.led=led/\t1.plain=true/\Ly t1.place/\t1.fits i9.size=true:=by
 have Sw:t.place.size<=t.mask:=by rw[T.sz];rcases T.ms with ⟨e,z⟩|⟨e,z⟩ <;> lia
 have R:y3 (t.mask+1):=by
  rcases T.ms with ⟨e,_⟩|⟨e,_⟩ <;> rw[e]
  .exact Sz
  .exact xT
 obtain⟨j,hp⟩:=sP (hashAt:=fun _=>h+1) (h:=h) R T.dm Sw (fun i _ z=>by have z:h+1=h:=z;lia);have hs:=yK T.dm _ _ _ _ hp;have q2:(t.put j).1.dummies=#[]:=by
  show (if SetTable.has t.dummies j=true then _ else t.dummies)=_;rw[T.dm];rfl
 have hj:∀i,i<t.place.size->t.place.getD i 0≠j:=fun i hi e=>by
  have:=yH T.rs hi (j:=j) (fun k hk=>by rw[<-e];exact T.rs k i hk hi) (by rw[e];exact aW _);unfold SetTable.slot at hs;dsimp only at hs;rw[this,jc hi] at hs;rw[iF,jc hi] at e;have e:t.place[i]=j:=e;rw[e] at hs;simp at hs
 have s1:(SetTable.insertAt es (t.put j).2 (h,x)).size=es.size+1:=eQ _ _ _;have s2:(t.put j).1.place.size=es.size+1:=by
  show (SetTable.insertAt t.place (SetTable.below t.place j) j).size=_;rw[eQ,T.sz]
 have fl:(t.put j).1.fill=es.size+1:=by unfold SetTable.fill;rw[s2,q2];rfl
 have Og:(t.put j).1.fits (SetTable.insertAt es (t.put j).2 (h,x)).size=true:=by
  unfold SetTable.fits;rw[s1,s2,fl,show (t.put j).1.mask=t.mask from rfl];simp;rcases T.ms with ⟨e,z⟩|⟨e,z⟩ <;> lia
 refine⟨SetTable.insertAt es (t.put j).2 (h,x),(t.put j).1,?_,s1,q2,s2,rfl,T.ld,T.pl,Lz T.rs hj,Og⟩;unfold layNew SetTable.freeSlot;rw[hp];dsimp only;have e0:(none:Option Nat).getD j=j:=rfl;rw[e0];unfold SetTable.orStandIn;rw[ai Og,Og];rfl
theorem Bo{led:Bool}{es:Array (Int×Value)}{t:SetTable}(hd:t.dummies=#[])(hz:t.place.size=5)(hs:es.size=5)(hl:t.led=led)(hp:t.plain=true):
  ∃Rr t2,relayAll t es (SetTable.grown es.size)=(Rr,t2,false)/\EH led Rr t2:=by
 have V5:SetTable.sizeAbove (SetTable.grown es.size)=31+1:=by rw[hs];rfl
 have JB:(es.map (·.1)).size=5:=by rw[iW,hs]
 obtain⟨owner,eo,L⟩:=qb (mask:=31) xT (es.map (·.1)) (by rw[JB];decide);have IO:=xh xT (by rw[JB];decide) eo;obtain⟨E6,Mw⟩:=sR L;have ris:=LA (M:=31+1) (owner:=owner);have nd:=PC (M:=31+1) IO;rw[JB] at E6 Mw;generalize Gv:(List.range (31+1)).filterMap (fun j=>(owner.getD j none).map (j,·))=live at E6 Mw ris nd;have er:t.relaid (es.map (·.1)) (SetTable.grown es.size)=some ({ mask:=31,place:=(live.map (·.1)).toArray,dummies:=#[],finger:=t.finger,led:=t.led,moves:=t.movedTo 31,plain:=t.plain },(live.map (·.2)).toArray):=by
  unfold SetTable.relaid SetTable.laid;rw[V5];simp only[zJ];rw[eo];show some _=some _;rw[<-Gv]
 have pm:(live.map (·.2)).Perm (List.range 5):=yJ nd (by rw[aP,E6]) fun x hx=>by
  obtain⟨q,hq,rfl⟩:=a9.mp hx;exact Mw q hq
 have pI:((live.map (·.2)).toArray.filterMap (es[·]?)).size=5:=by
  rw[<-eN,rA];show ((live.map (·.2)).filterMap _).length=_;rw[<-E6,zL];refine AG fun q hq=>?_;show (es[q.2]?).isSome=true;rw[jc (by rw[hs];exact Mw q hq)];rfl
 have Og:({ mask:=31,place:=(live.map (·.1)).toArray,dummies:=#[],finger:=t.finger,led:=t.led,moves:=t.movedTo 31,plain:=t.plain }:SetTable).fits ((live.map (·.2)).toArray.filterMap (es[·]?)).size=true:=by
  rw[pI];unfold SetTable.fits SetTable.fill;simp[E6]
 refine⟨(live.map (·.2)).toArray.filterMap (es[·]?),{ mask:=31,place:=(live.map (·.1)).toArray,dummies:=#[],finger:=t.finger,led:=t.led,moves:=t.movedTo 31,plain:=t.plain },?_,⟨rfl,?_,.inr ⟨rfl,?_⟩,hl,hp,Ix ris⟩⟩
 .unfold relayAll;rw[er];dsimp only;rw[ai (by
   rw[gh];refine⟨?_,Og⟩;unfold coversAll;rw[hs];exact List.isPerm_iff.mpr pm)]
 .rw[pI];simp[E6]
 .rw[pI];decide
def iv:Value->Int
 |.int i _=>i
 |_=>0
def bT(w:World):Bool:=w.params.followText "set-order"
def SI(P:Program)(w:World)(h:Heap)(S:Addr)(ks:List Int):Prop:=
 ∃o es ep t,h.get? S=some o/\o.ExactSet/\o.data=.set es ep t/\ElemsOf (intKind P w) es.toList/\EH (!bT w) es t/\(es.toList.map fun e=>iv e.2).Perm ks
section
variable {prog:Program} {w:World} {A:Around} {E:Value->Shared->Prop} {s:Shared} {S Ia l:Addr} {R:Result->Shared->Prop}
theorem SI.keep{h h':Heap}{ks:List Int}(x:SI prog w h S ks)(k:∀o,h.get? S=some o->h'.get? S=some o):SI prog w h' S ks:=let ⟨o,es,ep,t,a,b⟩:=x;⟨o,es,ep,t,k _ a,b⟩
theorem yL{h:Heap}{o:Obj}{es:Array (Int×Value)}{ep:Nat}{t:SetTable}(ho:h.get? S=some o)(zc:o.ExactSet)(hd:o.data=.set es ep t){es':Array (Int×Value)}{t':SetTable}:
  ∃o',(h.update S (Obj.putSet es' t')).get? S=some o'/\o'.ExactSet/\o'.data=.set es' (ep+1) t':=by
 have g:=oO (Obj.putSet es' t') ho (by rw[putSet_of es' t' hd];rfl);rw[putSet_of es' t' hd] at g;exact⟨_,g,zc,rfl⟩
theorem PD{g:Bool->Sem Unit}(hg:∀ (b:Bool) (s₁:Shared) (Q':Unit->Shared->Prop),Q' () s₁->wpAny (model prog w) A (g b) Q' E s₁){o:Obj}{es:Array (Int×Value)}{ep:Nat}{t:SetTable}(ho:s.heap.get? S=some o)(zc:o.ExactSet)(hd:o.data=.set es ep t){i9:Array (Int×Value)}{t2:SetTable}{ks:List Int}(LB:ElemsOf (intKind prog w) i9.toList)(Mv:(i9.toList.map fun e=>iv e.2).Perm ks)(hm:(t2.mask=7/\i9.size<=5)\/(t2.mask=31/\i9.size<=18))(hz:t2.place.size=i9.size)(Y6:t2.dummies=#[])(hld:t2.led=!bT w)(uJ:t2.plain=true)(hrs:Ly t2.place){R:Option Bool->Shared->Prop}(h:∀h',Heap.SameBut S s.heap h'->SI prog w h' S ks->R (some true) { s with heap:=h' }):
    wpAny (model prog w) A (do
        storeSet S i9 t2
        if (!false&&t2.tooFull)=true then do
            g (relayAll t2 i9 (SetTable.grown i9.size)).2.2
            storeSet S (relayAll t2 i9 (SetTable.grown i9.size)).1 (relayAll t2 i9 (SetTable.grown i9.size)).2.1
            pure (some true)
          else pure (some true)) R E s:=by
  have hsz:i9.size<=sizeLine:=bj (show i9.size<=18 by rcases hm with ⟨_,z⟩|⟨_,z⟩ <;> lia) (by decide);refine ak (z0 ho hd ?_ hsz);obtain⟨o1,MR,Uv,Rq⟩:=yL (es':=i9) (t':=t2) ho zc hd;have Uw:=vN s.heap S (Obj.putSet i9 t2);have fl:t2.fill=i9.size:=by unfold SetTable.fill;rw[hz,Y6];rfl
  by_cases c:t2.tooFull=true
  . rw[ai (by rw[c];rfl)]
    have c':=c;unfold SetTable.tooFull at c';rw[fl] at c';have c':i9.size*5>=t2.mask*3:=by simpa using c'
    have e5:i9.size=5:=by rcases hm with ⟨e,z⟩|⟨e,z⟩ <;> rw[e] at c' <;> lia
    obtain⟨Rr,t3,er,T3⟩:=Bo Y6 (by rw[hz,e5]) e5 hld uJ;have hp:=relayAll_perm t2 i9 (SetTable.grown i9.size);rw[er] at hp |-;dsimp only at hp |-;refine ak (hg _ _ _ ?_);have pI:Rr.size=i9.size:=by rw[<-eN,hp.length_eq,eN]
    refine ak (z0 MR Rq ?_ (by rw[pI];exact hsz));obtain⟨o2,ho2,Y7,Uo⟩:=yL (es':=Rr) (t':=t3) MR Uv Rq;exact wpAny_pure (h _ (Uw.trans (vN _ S _)) ⟨o2,Rr,_,t3,ho2,Y7,Uo,LB.perm hp,T3,(hp.map _).trans Mv⟩)
  . rw[ap (by simpa using c)]
    have c':¬ i9.size*5>=t2.mask*3:=by
      intro z;refine c ?_;unfold SetTable.tooFull;rw[fl];simpa using z
    have SC:(t2.mask=7/\i9.size<=4)\/(t2.mask=31/\i9.size<=18):=by
      rcases hm with ⟨e,z⟩|⟨e,z⟩
      . rw[e] at c';exact .inl ⟨e,by lia⟩
      . exact .inr ⟨e,z⟩
    exact wpAny_pure (h _ Uw ⟨o1,i9,_,t2,MR,Uv,Rq,LB,⟨Y6,hz,SC,hld,uJ,hrs⟩,Mv⟩)
theorem M_{k:Int}{x:Value}(h:(intKind prog w).is k x=true):iv x=k:=by
 obtain⟨t,rfl⟩:=z6 h;rfl
theorem Ux{ks:List Int}{i:Int}{t:Tok}{Q:Bool->Shared->Prop}(hS:SI prog w s.heap S ks)(hl:ks.length<18)(h:∀h' tk b,Heap.SameBut S s.heap h'->SI prog w h' S (if i∈ks then ks else ks++[i])->Q b { s with heap:=h',toks:=tk }):wpAny (model prog w) A (setAdd S (.int i t)) Q E s:=by
 unfold setAdd;have nU:(intKind prog w).is i (.int i t)=true:=intKind_is _ _ _ _;refine gm (ak ((intKind prog w).pyHash (k:=i) nU ?_));obtain⟨o,es,ep,tb,ho,zc,hd,Na,T,pk⟩:=hS;have Y8:(Value.int i t).scannable=true:=rfl;have de:es.size<18:=by have:=pk.length_eq;rw[aP,eN] at this;lia
 unfold setAddHashed setAddHashedIn;refine gm (ak (jx (s:={ s with toks:=s.toks+1 }) ho hd T.fits ?_));dsimp only;rw[byScan_of Y8 (bK de (by decide)) Na];simp only[↓reduceIte];unfold setAddByScan;refine ak ?_;refine ak (wpAny_rule ?_);refine ak (wpAny_setScan_of (knd:=intKind prog w) (s:={ s with toks:=s.toks+1 }) nU ho hd T.fits Na ?_);have mem:i∈ks↔∃e∈es.toList,(intKind prog w).is i e.2=true:=by
  rw[<-pk.mem_iff,a9];constructor
  .rintro⟨e,he,rfl⟩;obtain⟨⟨k,hk,_⟩,_⟩:=Na e he;exact⟨e,he,by rw[M_ hk];exact hk⟩
  .rintro⟨e,he,z⟩;exact⟨e,he,M_ z⟩
 cases hr:List.findIdx? (fun e=>(intKind prog w).is i e.2) es.toList with
 |some j=>
  dsimp only;obtain⟨hj,hpj,_⟩:=List.findIdx?_eq_some_iff_getElem.mp hr;refine wpAny_pure (wpAny_pure (h s.heap _ _ (Heap.SameBut.refl S s.heap) ?_));rw[ai (mem.mpr ⟨_,iI hj,hpj⟩)];exact⟨o,es,ep,tb,ho,zc,hd,Na,T,pk⟩
 |none=>
  dsimp only;have hn:i∉ks:=fun z=>by
   obtain⟨e,he,hp⟩:=mem.mp z;have:=List.findIdx?_eq_none_iff.mp hr e he;rw[hp] at this;exact Bool.noConfusion this
  have tm:=layNew_perm tb es ((intKind prog w).hash i) (.int i t);obtain⟨i9,t1,eL,z1,d1,p1,m1,l1,pl1,r1,f1⟩:=IA (h:=(intKind prog w).hash i) (x:=.int i t) T de;rw[eL] at tm |-;dsimp only at tm |-;rw[kj] at tm;have LB:ElemsOf (intKind prog w) i9.toList:=(Na.push nU Y8).perm tm;have Mv:(i9.toList.map fun e=>iv e.2).Perm (ks++[i]):=by
   refine(tm.map _).trans ?_;rw[d_];exact pk.append_right _
  refine ak (show wpAny _ _ (pure ()) _ _ _ from wpAny_pure ?_);rw[ai pl1];refine ak ?_;rw[hashByValue_scannable 8 Y8];refine wpAny_pure ?_;have epk:plainKind (Value.int i t)=true:=rfl;simp only[epk,mE];refine PD (s:={ s with toks:=s.toks+1 }) (fun b s₁ Q' hq=>?_) ho zc hd LB Mv ?_ (by rw[p1,z1]) d1 l1 pl1 r1 fun h' V8 S'=>?_
  .cases b <;> first|exact wpAny_pure hq|exact wpAny_rule hq
  .rw[m1,z1];rcases T.ms with ⟨e,z⟩|⟨e,z⟩
   .exact .inl ⟨e,by lia⟩
   .exact .inr ⟨e,by lia⟩
  .dsimp only;refine wpAny_pure (h h' _ _ V8 ?_);rw[ap hn];exact S'
def iQ(ns:List Int):List Int:=ns.foldl (fun ks i=>if i∈ks then ks else ks++[i]) []
theorem PF{vs:List Value}{ns:List Int}(hI:IntsAre vs ns)(hh:A.handled=none)(Xk:l≠S)(Xl:l≠Ia)(DI:S≠Ia):
  ∀ (k i:Nat) (s:Shared) (ks:List Int),vs.length-i=k->i<=vs.length->s.heap.IsListIter Ia l i->s.heap.IsList l vs.toArray->SI prog w s.heap S ks->ks.length+(ns.length-i)<=17->
   (∀h' tk,(∀b o,b≠S->b≠Ia->s.heap.get? b=some o->h'.get? b=some o)->SI prog w h' S ((ns.drop i).foldl (fun ks i=>if i∈ks then ks else ks++[i]) ks)->R (.ok (.ret .none)) { s with heap:=h',toks:=tk })->
   codeAny (model prog w) A (.builtin "set.update.loop" ⟨[.ref S,.ref Ia],[]⟩) R s:=by
 have de:vs.length=ns.length:=hI.length;intro k;induction k with
 |zero=>
  intro i s ks hk hi iJ hl hS hz hR;have e:i=vs.length:=by lia
  refine jV vt ?_;rw[nM uG _];show wpAny _ A.in1 (pyNext (.ref Ia) >>= _) _ _ s;refine ak (zE (show A.in1.handled=none from hh) iJ hl (by simp;lia) fun h' eb=>?_);show wpAny _ A.in1 (ret Value.none) _ _ _;have hd:ns.drop i=[]:=by rw[List.drop_eq_nil_iff];lia
  rw[hd] at hR;exact wpAny_pure (hR h' s.toks (fun b o hb Kc e=>eb b o Kc e) (hS.keep fun o z=>eb S o DI z))
 |succ k ih=>
  intro i s ks hk hi iJ hl hS hz hR;have dt:i<vs.length:=by lia
  refine jV vt ?_;rw[nM uG _];show wpAny _ A.in1 (pyNext (.ref Ia) >>= _) _ _ s;have hv:vs[i]?=some vs[i]:=cU dt;refine ak (zy iJ hl (x:=vs[i]) (by simpa using hv) fun h1 N_ oF=>?_);obtain⟨tk0,ev⟩:=IntsAre.int_at hI i _ hv;rw[ev];have V4:SI prog w h1 S ks:=hS.keep fun o z=>(oF.2 S DI).trans z;have Kd:h1.IsList l vs.toArray:=by
   obtain⟨ol,q1,q2⟩:=hl;exact⟨ol,(oF.2 l Xl).trans q1,q2⟩
  have AC:i<ns.length:=by lia
  have Xm:ns.drop i=ns[i]::ns.drop (i+1):=rh AC;have Xn:ns.getD i 0=ns[i]:=by rw[cr,cU AC];rfl
  rw[Xm,ic] at hR;rw[Xn];show wpAny _ A.in1 (holding [Value.int ns[i] tk0] (setAdd S (.int ns[i] tk0)) >>= _) _ _ _;refine ak (gm (Ux (s:={ s with heap:=h1 }) V4 (by lia) fun h2 tk b oG S2=>?_));refine wpAny_pure ⟨rX uG _,?_⟩;refine ih (i+1) { s with heap:=h2,toks:=tk } _ (by lia) dt ?_ ?_ S2 ?_ fun h3 Xo k3 S3=>?_
  .obtain⟨oi,q1,q2⟩:=N_;exact⟨oi,(oG.2 Ia (cj DI)).trans q1,q2⟩
  .obtain⟨ol,q1,q2⟩:=Kd;exact⟨ol,(oG.2 l Xk).trans q1,q2⟩
  .split
   .lia
   .rw[dY];simp;lia
  .exact hR h3 Xo (fun b ob hb Kc e=>k3 b ob hb Kc ((oG.2 b hb).trans ((oF.2 b Kc).trans e))) S3
theorem Bp(a:Value){Q₁:Value->Shared->Prop}(h:Q₁ (.ref s.heap.objs.size) { s with heap:=s.heap.push { cls:=.type "set",dict:=none,data:=.set #[] 0 (.fresh 0 0 (!bT w)) } }):
  codeAny (model prog w) A (.call (.builtin "set.__new__") ⟨[.type "set",a],[]⟩) (wants Q₁ E) s:=by
 refine vZ ?_;show wpAny _ A.in1 (do checkBuiltinCall "set.__new__" ⟨[.type "set",a],[]⟩;again (.builtin "set.__new__" ⟨[.type "set",a],[]⟩)) _ _ s;refine ak (fK (PySem.F.newCall_set_1 a) (wpAny_pure ⟨rX PySem.F.plain_set_new _,jV PySem.F.entry_set_new ?_⟩));rw[nM PySem.F.plain_set_new _];unfold Builtin.«set.__new__» Builtin.Frozenset.newClass;have Yr:=sub_set_self;obtain⟨hp,g,d,tk,os⟩:=s;dsimp only
 wp_walk
 refine rO (wpAny_pure ?_);dsimp only;simp only[newObj];refine ak (wpAny_alloc (wpAny_pure ?_));exact wpAny_pure h
theorem EI{vs:List Value}{ns:List Int}{Q:Value->Shared->Prop}(hh:A.handled=none)(hl:s.heap.IsList l vs.toArray)(hI:IntsAre vs ns)(hz:ns.length<=17)(h:∀ (h':Heap) (tk:Nat),SI prog w h' s.heap.objs.size (iQ ns)->(∀b o,b<s.heap.objs.size->s.heap.get? b=some o->h'.get? b=some o)->Q (.ref s.heap.objs.size) { s with heap:=h',toks:=tk }):
  wpAny (model prog w) A (call (.type "set") [.ref l]) Q E s:=by
 obtain⟨c,tl,Xp⟩:=gO.mro;have c1:=gO.made;have c2:=gO.sub;refine rY (vZ ?_);show wpAny _ _ (callAny (.type "set") _) _ _ _;refine wpAny_pure ⟨zZ _ (by decide +kernel),jV PySem.F.entry_type_call ?_⟩;rw[Around.under_plain (weight_type_call_type "set" [.ref l] []) rfl];have c3:=gO.notType;have c4:=gO.canCreate;have c5:=PySem.F.typeCall_set_1 (.ref l);repeat (any_goals (first|assumption|wp_step))
 refine kr (Bp (.ref l) (E:=E) (Q₁:=fun obj s₁=>∃led:Bool,led=(!bT w)/\obj=.ref s.heap.objs.size/\s₁={ s with heap:=s.heap.push { cls:=.type "set",dict:=none,data:=.set #[] 0 (.fresh 0 0 led) } }) ⟨_,rfl,rfl,rfl⟩) fun r s₁ hr=>?_;cases r with
 |error e=>exact hr
 |ok fl=>
  cases fl with
  |next=>exact hr.elim
  |brk=>exact hr.elim
  |cont=>exact hr.elim
  |ret obj=>
   obtain⟨led,Y9,rfl,rfl⟩:=hr;generalize Oa:s.heap.push { cls:=.type "set",dict:=none,data:=.set #[] 0 (.fresh 0 0 led) }=hS;have hsz:hS.objs.size=s.heap.objs.size+1:=by rw[<-Oa,ie]
   have gS:hS.get? s.heap.objs.size=some { cls:=.type "set",dict:=none,data:=.set #[] 0 (.fresh 0 0 led) }:=by rw[<-Oa];exact b_ _ rfl
   have up:∀b o,s.heap.get? b=some o->hS.get? b=some o:=fun b o e=>by rw[<-Oa];exact bz _ e
   have hT:Shared.TypeIs { s with heap:=hS } (.ref s.heap.objs.size) "set":=⟨_,gS,rfl⟩
   have c6:=gO.init.lookup;have c7:=gO.init.bind (.ref s.heap.objs.size);repeat (any_goals (first|assumption|wp_step))
   refine kr (vL (R:=wants (fun r s₂=>r=.none/\∃h' tk,s₂={ s with heap:=h',toks:=tk }/\SI prog w h' s.heap.objs.size (iQ ns)/\
     (∀b o,b<s.heap.objs.size->s.heap.get? b=some o->h'.get? b=some o)) E) gO.init.plain PySem.F.entry_set_init (check_set_init_1 hT ?_)) fun r₂ s₂ Gm=>?_
   .obtain⟨ol,Gn,Ay,nl,Ob⟩:=hl;obtain⟨Xq,Sx,Sy,Oc⟩:=ol;simp only at Ay Ob;subst Ay;subst Ob;have Od:=up _ _ Gn;have c8:=PySem.F.sub_list_set;have c9:=Fe;have c10:(Value.type "list"==Value.type "dict")=false:=by decide
    have Kd:hS.IsList l vs.toArray:=⟨_,Od,rfl,nl,rfl⟩
    unfold Builtin.«set.__init__» noKeywords Builtin.Frozenset.updateFrom;generalize Xr:pyIter=PI
    wp_walk
    subst Xr;refine rK Kd ?_;refine ak (v7 ?_);have dt:l<s.heap.objs.size:=aO Gn;refine PF (l:=l) (vs:=vs) (ns:=ns) hI (by simp[hh]) (aX dt) (by rw[hsz];exact aX (dZ dt)) (by rw[hsz];exact aX (iT _))
     (vs.length-0) 0 _ [] rfl (cF _) ⟨_,b_ _ rfl,rfl,rfl⟩ (Kd.push _) ⟨_,#[],0,_,bz _ gS,⟨rfl,rfl,rfl⟩,rfl,(fun e he=>by simp at he),Y9 ▸ Iz,.refl _⟩ (by simpa using hz) fun h' tk k S'=>?_
    show wpAny _ _ _ _ _ _;refine wpAny_pure ?_;show wpAny _ _ (ret Value.none) _ _ _;refine wpAny_pure ⟨rfl,h',tk,rfl,S',fun b o hb e=>?_⟩;exact k b o (aX hb) (by rw[hsz];exact aX (dZ hb)) (bz _ (up b o e))
   .cases r₂ with
    |error e=>exact Gm
    |ok Xs=>
     cases Xs with
     |next=>exact Gm.elim
     |brk=>exact Gm.elim
     |cont=>exact Gm.elim
     |ret r=>
      obtain⟨rfl,h',tk,rfl,S',k⟩:=Gm;repeat (any_goals (first|assumption|wp_step))
      exact h h' tk S' k
end
theorem tZ:Manifest.owners.lookup (String.ofList ['r','o','t','a','r','e','t','i','_','t','e','s'].reverse)=some Manifest.sig_set_iterator:=by kernel_rfl
theorem dJ:Slot "set_iterator" "__next__" "set_iterator.__next__":=
 .of (owner:="set_iterator") (n:="__next__") (by rw[typeLookup_type,builtinLookup_eq_fast];kernel_rfl) (by decide +kernel) (by decide +kernel) (by decide +kernel)
  (by first|exact .inl (by decide +kernel)|exact .inr (by decide +kernel)) (by rw[v8];kernel_rfl)
theorem jX:entryFor table "set_iterator.__next__"=some Builtin.«set_iterator.__next__»:=entryFor_of_tree (by kernel_rfl)
theorem jr(a:Value):argsOk "set_iterator.__next__" ⟨[a],[]⟩:=by
 unfold argsOk;rw[signature?_of (id:="set_iterator.__next__") (n:=['_','_','t','x','e','n','_','_']) (o:=['r','o','t','a','r','e','t','i','_','t','e','s']) (by kernel_rfl) tZ];kernel_rfl
theorem lf:Slot "set_iterator" "__iter__" "set_iterator.__iter__":=
 .of (owner:="set_iterator") (n:="__iter__") (by rw[typeLookup_type,builtinLookup_eq_fast];kernel_rfl) (by decide +kernel) (by decide +kernel) (by decide +kernel)
  (by first|exact .inl (by decide +kernel)|exact .inr (by decide +kernel)) (by rw[v8];kernel_rfl)
theorem pY(a:Value):argsOk "set_iterator.__iter__" ⟨[a],[]⟩:=by
 unfold argsOk;rw[signature?_of (id:="set_iterator.__iter__") (n:=['_','_','r','e','t','i','_','_']) (o:=['r','o','t','a','r','e','t','i','_','t','e','s']) (by kernel_rfl) tZ];kernel_rfl
theorem qC:entryFor table "set_iterator.__iter__"=some Builtin.«dict_keyiterator.__iter__»:=
 entryFor_alias (id':="dict_keyiterator.__iter__") (by kernel_rfl) (by first|rfl|decide +kernel|(unfold String.splitOn;simp +decide [String.splitOnAux])) (by decide +kernel) (by kernel_rfl)
theorem t9:entryFor table "set.__iter__"=some Builtin.«frozenset.__iter__»:=
 entryFor_alias (id':="frozenset.__iter__") (by kernel_rfl) (by first|rfl|decide +kernel|(unfold String.splitOn;simp +decide [String.splitOnAux])) (by decide +kernel) (by kernel_rfl)
section
variable {prog:Program} {w:World} {A:Around} {E:Value->Shared->Prop} {s:Shared} {S I:Addr}
def Y_(S:Addr)(slot i n ep:Nat):Obj:={ cls:=.type "set_iterator",data:=.fields #[rawInt slot,rawInt i,.ref S,rawInt n,rawInt ep] }
def ll(h:Heap)(I S:Addr)(slot i n ep:Nat):Prop:=h.get? I=some (Y_ S slot i n ep)
theorem ll.ty{slot i n ep:Nat}(x:ll s.heap I S slot i n ep):s.TypeIs (.ref I) "set_iterator":=⟨_,x,rfl⟩
theorem PJ{o:Obj}{es:Array (Int×Value)}{ep:Nat}{t:SetTable}(ho:s.heap.get? S=some o)(zc:o.ExactSet)(hd:o.data=.set es ep t)(T:EH (!bT w) es t){Q:Value->Shared->Prop}(h:Q (.ref s.heap.objs.size) { s with heap:=s.heap.push (Y_ S 0 0 es.size ep) }):wpAny (model prog w) A (pyIter (.ref S)) Q E s:=by
 have hT:s.TypeIs (.ref S) "set":=⟨o,ho,zc.1⟩
 refine wpAny_pyIter_slot hT PySem.F.slot_set_iter (h_ PySem.F.slot_set_iter hT t9 ?_ (PySem.F.args_set_iter_1 _));unfold Builtin.«frozenset.__iter__»;refine ak (fK (a:=S) rfl ?_);dsimp only;unfold Builtin.Frozenset.sizeOf;refine ak (ak (zR ho hd T.fits (wpAny_pure ?_)));unfold setDrawn setsByText;obtain⟨mask,place,dummies,finger,led,moves,plain⟩:=t;obtain rfl:plain=true:=T.pl;refine ak (ak ?_);refine jx ho hd T.fits ?_;dsimp only;refine ak (ak (rO (wpAny_pure (wpAny_pure ?_))));have e:(!(w.params.followText "set-order")&&false)=false:=by rw[Bool.and_false]
 show wpAny _ _ (if (!(w.params.followText "set-order")&&false)=true then _ else _) _ _ _;rw[e,ap bq];refine ak (wpAny_pure ?_);unfold setEpoch;refine ak (ak (jx ho hd T.fits (wpAny_pure ?_)));dsimp only;simp only[newFields,newObj];refine ak (ak (wpAny_alloc (wpAny_pure ?_)));exact wpAny_pure ⟨_,rfl,"set_iterator",_,⟨_,b_ _ rfl,rfl⟩,dJ.lookup,h⟩
def lR(w:World)(S ep:Nat)(es:Array (Int×Value)):Array (Int×Value):=if bT w=true then pickOrder (w.params.setOrder S ep) es else es
def js(w:World)(t:SetTable):Nat->Nat
 |0=>0
 |i+1=>if bT w=true then 0 else t.place.getD i 0+1
theorem vo{o:Obj}{es:Array (Int×Value)}{ep:Nat}{t:SetTable}(ho:s.heap.get? S=some o)(hd:o.data=.set es ep t)(T:EH (!bT w) es t){i:Nat}(hi:i<=es.size){Q:Option (Value×Nat)->Shared->Prop}(h:Q (((lR w S ep es)[i]?).map fun e=>(e.2,js w t (i+1))) s):wpAny (model prog w) A (setNext S (js w t i) i ep) Q E s:=by
 unfold setNext;refine ak (jx ho hd T.fits ?_);dsimp only;unfold setsByText;refine ak (ak (rO (wpAny_pure ?_)));dsimp only;cases hb:bT w with
 |true=>
  have jW:(model prog w).w.params.followText "set-order"=true:=hb;rw[jW,ai rfl];rw[ap (by simp)];unfold setWalk;refine ak (ak ?_);refine jx ho hd T.fits ?_;dsimp only;unfold setsByText;refine ak (ak (rO (wpAny_pure ?_)));dsimp only;rw[jW,ai rfl];refine ak (rO (wpAny_pure (wpAny_pure ?_)));have e1:lR w S ep es=pickOrder (w.params.setOrder S ep) es:=ai hb;have e2:∀i,js w t i=0:=fun i=>by cases i with
   |zero=>rfl
   |succ i=>exact ai hb
  rw[e1,e2] at h;rw[e2];exact h
 |false=>
  have jW:(model prog w).w.params.followText "set-order"=false:=hb;rw[jW,ap bq];obtain⟨mask,place,dummies,finger,led,moves,plain⟩:=t;obtain rfl:plain=true:=T.pl;obtain rfl:led=true:=by have:=T.ld;rw[hb] at this;exact this
  refine wpAny_ite_split (fun z=>absurd (show false=true from z) bq) (fun _=>?_);refine ak (show wpAny _ _ (pure PUnit.unit) _ _ _ from wpAny_pure ?_);have e1:lR w S ep es=es:=ap (by rw[hb];exact bq);have sz:place.size=es.size:=T.sz;have rs:Ly place:=T.rs;rw[e1] at h;have eb:SetTable.below place (js w { mask,place,dummies,finger,led:=true,moves,plain:=true } i)=i:=by
   obtain⟨b0,b1,b2⟩:=tY (j:=js w { mask,place,dummies,finger,led:=true,moves,plain:=true } i) rs;have lo:∀k,k<i->place.getD k 0<js w { mask,place,dummies,finger,led:=true,moves,plain:=true } i:=fun k hk=>by
    cases i with
    |zero=>lia
    |succ i=>
     show _<(if bT w=true then 0 else place.getD i 0+1);rw[hb,ap bq];rcases gQ k i with z|z
     .exact dZ (rs k i z (by lia))
     .rw[show k=i by lia];exact iT _
   rcases gQ i place.size with z|z
   .refine yH rs z lo ?_;cases i with
    |zero=>exact cF _
    |succ i=>
     show (if bT w=true then 0 else place.getD i 0+1)<=_;rw[hb,ap bq];exact rs i (i+1) (iT _) z
   .have ei:i=place.size:=by lia
    rcases gQ (SetTable.below place (js w { mask,place,dummies,finger,led:=true,moves,plain:=true } i)) place.size with y|y
    .have:=b2 _ (aW _) y;have:=lo _ (Nat.lt_of_lt_of_eq y ei.symm);lia
    .lia
  refine wpAny_pure ?_;dsimp only;rw[eb];rcases gQ i es.size with z|z
  .have e2:js w { mask,place,dummies,finger,led:=true,moves,plain:=true } (i+1)=place[i]'(by lia)+1:=by
    show (if bT w=true then 0 else place.getD i 0+1)=_;rw[hb,ap bq,iF,jc (by lia)];rfl
   rw[e2,jc z] at h;rw[jc z,jc (show i<place.size by lia)];exact h
  .rw[vF z] at h |-;exact h
theorem t_{α:Type}:∀ (l:List α) (i:Nat) (h:i<l.length),(l[i]::l.eraseIdx i).Perm l
 |a::l,0,_=>.refl _
 |a::l,i+1,h=>by
  show (l[i]'(l9 h)::a::l.eraseIdx i).Perm (a::l);exact(List.Perm.swap a _ _).trans (List.Perm.cons a (t_ l i (l9 h)))
theorem C9(next:Nat->Nat):∀ (dB k:Nat) (left:List (Int×Value)) (out:Array (Int×Value)),left.length=dB->(pickOrder.go next dB k left out).toList.Perm (out.toList++left)
 |0,k,left,out,h=>by
  obtain rfl:=zd h;unfold pickOrder.go;rw[rM]
 |dB+1,k,left,out,h=>by
  unfold pickOrder.go;have hl:next k % left.length<left.length:=jA _ (by lia)
  rw[cU hl];dsimp only;refine(C9 next dB (k+1) _ _ (by rw[List.length_eraseIdx_of_lt hl];lia)).trans ?_;rw[kj,dG];exact nJ _ (t_ left _ hl)
theorem lm{ep:Nat}{es:Array (Int×Value)}:(lR w S ep es).toList.Perm es.toList:=by
 unfold lR;split
 .unfold pickOrder;refine(C9 _ es.size 0 es.toList #[] (by simp)).trans ?_;simp
 .exact .refl _
theorem PM{o:Obj}{es:Array (Int×Value)}{ep:Nat}{t:SetTable}(ho:s.heap.get? S=some o)(hd:o.data=.set es ep t)(T:EH (!bT w) es t)(DI:S≠I){i:Nat}{e:Int×Value}(he:(lR w S ep es)[i]?=some e)(iJ:ll s.heap I S (js w t i) i es.size ep){Q:Option Value->Shared->Prop}(hQ:∀h',ll h' I S (js w t (i+1)) (i+1) es.size ep->Heap.SameBut I s.heap h'->Q (some e.2) { s with heap:=h' }):wpAny (model prog w) A (pyNext (.ref I)) Q E s:=by
 have Jx:(lR w S ep es).size=es.size:=by
  have:=(lm (w:=w) (S:=S) (ep:=ep) (es:=es)).length_eq;rwa [eN,eN] at this
 have hi:i<es.size:=by rw[<-Jx];exact(oJ.mp he).1
 unfold pyNext;refine ak (mB (lS (name:=Str.ofString "__next__") iJ.ty dJ
  (h_ dJ iJ.ty jX ?_ (jr _))))
 unfold Builtin.«set_iterator.__next__»;refine ak (fK (a:=(Value.ref I,[])) rfl ?_);dsimp only;refine ak (wpAny_fieldsOf iJ rfl ?_);dsimp only[rawInt];refine ak (zR ho hd T.fits ?_);rw[ap (by simp)];refine ak ?_;simp only[mq];refine vo ho hd T (jy hi) ?_;rw[he];dsimp only[Option.map];refine ak (kh iJ (by simp) fun h1 g1 oF=>?_);refine ak (kh (s:={ s with heap:=h1 }) g1 (by simp) fun h2 g2 oG=>?_);refine wpAny_pure ⟨e.2,rfl,wpAny_pure (hQ h2 ?_ (oF.trans oG))⟩;show h2.get? I=some _;rw[g2];rfl
theorem IC{o:Obj}{es:Array (Int×Value)}{ep:Nat}{t:SetTable}(hh:A.handled=none)(ho:s.heap.get? S=some o)(hd:o.data=.set es ep t)(T:EH (!bT w) es t)(DI:S≠I)(iJ:ll s.heap I S (js w t es.size) es.size es.size ep){Q:Option Value->Shared->Prop}(hQ:∀h',Heap.ExtBut I s.heap h'->Q none { s with heap:=h' }):wpAny (model prog w) A (pyNext (.ref I)) Q E s:=by
 have Jx:(lR w S ep es).size=es.size:=by
  have:=(lm (w:=w) (S:=S) (ep:=ep) (es:=es)).length_eq;rwa [eN,eN] at this
 unfold pyNext;refine ak (mB (lS (name:=Str.ofString "__next__") iJ.ty dJ
  (h_ dJ iJ.ty jX ?_ (jr _))))
 unfold Builtin.«set_iterator.__next__»;refine ak (fK (a:=(Value.ref I,[])) rfl ?_);dsimp only;refine ak (wpAny_fieldsOf iJ rfl ?_);dsimp only[rawInt];refine ak (zR ho hd T.fits ?_);rw[ap (by simp)];refine ak ?_;simp only[mq];refine vo ho hd T (aW _) ?_;rw[vF (by rw[Jx];exact aW _)];dsimp only[Option.map];refine ak (kh iJ (by simp) fun h1 g1 oF=>?_);first
 |show wpAny _ _ (newExc (.type "StopIteration") [] >>= _) _ _ _
 |(refine ak ?_;show wpAny _ _ (newExc (.type "StopIteration") [] >>= _) _ _ _)
 refine ak ?_;simp only[newExc,newTuple];refine ak (hZ ?_ (by size_fits));refine ak (m:=firstArgMember _ _) (fK (a:=Value.none) (by first|rfl|(simp only[firstArgMember];rfl)) ?_);refine hZ ?_ (by size_fits);simp only[raiseNew];refine ak (wpAny_handled ?_);first|rw[show A.in1.handled=none from hh]|rw[hh]
 refine ak (wpAny_pure (wpAny_throw ?_));refine ak (rN (T:="StopIteration") (b:=true) ⟨_,b_ _ rfl,rfl⟩ v_ ?_);exact wpAny_pure (hQ _ ((oF.extBut.push _).push _))
theorem Bq{slot i n ep:Nat}{Q:Value->Shared->Prop}(iJ:ll s.heap I S slot i n ep)(h:Q (.ref I) s):wpAny (model prog w) A (pyIter (.ref I)) Q E s:=by
 refine wpAny_pyIter_slot iJ.ty lf (h_ lf iJ.ty qC ?_ (pY _));show wpAny _ _ (ret (.ref I)) _ _ s;exact wpAny_pure ⟨_,rfl,"set_iterator",_,iJ.ty,dJ.lookup,h⟩
end
open PySem PySem.Spec PyProof.Rows PySem.W
section
variable {prog:Program} {w:World} {A:Around} {E:Value->Shared->Prop} {s:Shared} {S I:Addr}
theorem ID{r:Addr}{Q:Bool->Shared->Prop}(hT:s.TypeIs (.ref r) "set")(h:Q false s):wpAny (model prog w) A (Builtin.List.listLengthHint (.ref r)) Q E s:=by
 unfold Builtin.List.listLengthHint;refine ak (vX hT PySem.F.slot_set_len.lookup ?_);generalize Q5:("set.__len__":String)=id0
 wp_delta
 rw[show splitId id0=some ("set","__len__") from by subst Q5;decide +kernel];subst Q5;refine ak (rN (T:="set") (b:=true) hT (by rw[v8];kernel_rfl) ?_);refine wpAny_ite_split (fun E9=>absurd E9 (by decide)) (fun _=>?_);refine wpAny_ite_split (fun _=>?_) (fun E9=>absurd (by decide +kernel) E9);refine ak (wd hT ?_);exact wpAny_pure h
theorem LC{o:Obj}{es:Array (Int×Value)}{ep:Nat}{t:SetTable}(hh:A.handled=none)(hd:o.data=.set es ep t)(T:EH (!bT w) es t)(DI:S≠I):
  Walks prog w A I [I,S] [I] es.size (fun i v=>((lR w S ep es)[i]?).map (·.2)=some v) (fun i h=>i<=es.size/\ll h I S (js w t i) i es.size ep/\h.get? S=some o) where
 sub:=fun b hb=>by simp at hb;simp[hb]
 frame:=fun _ _ _ st hk=>⟨st.1,hk I (by simp) _ st.2.1,hk S (by simp) _ st.2.2⟩
 item:=fun i s Q E hi st hQ=>by
  have Jx:(lR w S ep es).size=es.size:=by
   have:=(lm (w:=w) (S:=S) (ep:=ep) (es:=es)).length_eq;rwa [eN,eN] at this
  have he:(lR w S ep es)[i]?=some ((lR w S ep es)[i]'(by rw[Jx];exact hi)):=jc _;refine PM st.2.2 hd T DI he st.2.1 fun h' Za hs'=>?_;exact hQ _ h' s.toks (by rw[he];rfl) ⟨hi,Za,(hs'.2 S DI).trans st.2.2⟩ fun b o hb e=>hs'.extBut b o (fun h=>hb (by simp[h])) e
 done:=fun s Q E st hQ=>IC hh st.2.2 hd T DI st.2.1 fun h' he'=>hQ h' s.toks fun b o hb e=>he' b o (fun h=>hb (by simp[h])) e
 self:=fun _ _ _ _ st hQ=>Bq st.2.1 hQ
theorem Uy{o:Obj}{es:Array (Int×Value)}{ep:Nat}{t:SetTable}(zc:o.ExactSet)(hd:o.data=.set es ep t)(T:EH (!bT w) es t):
  KdlSrc prog w "set" S S es.size (fun i v=>((lR w S ep es)[i]?).map (·.2)=some v) (fun h=>h.get? S=some o) where
 type:=fun s h=>⟨o,h,zc.1⟩
 there:=fun h e=>⟨aO e,aO e⟩
 keep:=fun h h' e k=>k S (.inl rfl) _ e
 notList:=by decide
 notTuple:=by decide
 hint:=fun A E s Q e q=>ID ⟨o,e,zc.1⟩ q
 iter:=fun A s hh e=>⟨Y_ S 0 0 es.size ep,fun i h=>i<=es.size/\ll h s.heap.objs.size S (js w t i) i es.size ep/\h.get? S=some o,fun E Q q=>PJ e zc hd T q,
  LC hh hd T (aX (aO e)),⟨cF _,b_ _ rfl,bz _ e⟩⟩
theorem EJ{o:Obj}{es:Array (Int×Value)}{ep:Nat}{t:SetTable}(hh:A.handled=none)(ho:s.heap.get? S=some o)(zc:o.ExactSet)(hd:o.data=.set es ep t)(T:EH (!bT w) es t){Q:List Value->Shared->Prop}(h:∀h' tk (vs:List Value),(∀b o,s.heap.get? b=some o->h'.get? b=some o)->vs.Perm (es.toList.map (·.2))->Q vs { s with heap:=h',toks:=tk }):wpAny (model prog w) A (collect (.ref S)) Q E s:=by
 have dt:=aO ho;have hn:es.size<=sizeLine:=bj (show es.size<=18 by rcases T.ms with ⟨_,z⟩|⟨_,z⟩ <;> lia) (by decide);have Jx:(lR w S ep es).size=es.size:=by
  have:=(lm (w:=w) (S:=S) (ep:=ep) (es:=es)).length_eq;rwa [eN,eN] at this
 have gen:∀R:Result->Shared->Prop,(∀h' tk yM c',(∀b o,b≠s.heap.objs.size->(s.heap.push { cls:=.type "list",data:=.seq ([]:List Value).toArray }).get? b=some o->h'.get? b=some o)->h'.get? s.heap.objs.size=some { cls:=.type "list",dict:=none,data:=.seq yM c',slots:=#[] }->ItemsOf (fun i v=>((lR w S ep es)[i]?).map (·.2)=some v) yM es.size->R (.ok (.ret (.ref s.heap.objs.size))) { s with heap:=h',toks:=tk })->
   codeAny (model prog w) A (.builtin "proto.collect" ⟨[.ref S],[]⟩) R s:=by
  intro R hR;refine jV PySem.F.entry_proto_collect ?_;rw[nM PySem.F.plain_proto_collect _];show wpAny _ A.in1 (newList [] >>= fun l=>again (.builtin "list.__iadd__" ⟨[l,.ref S],[]⟩)) _ _ s;refine ak (hZ ?_);refine wpAny_pure ⟨rX PySem.F.plain_list_iadd _,jV PySem.F.entry_list_iadd ?_⟩;rw[nM PySem.F.plain_list_iadd _];show wpAny _ A.in1 (Builtin.List.listExtendWith (.ref s.heap.objs.size) (.ref S) (.ref s.heap.objs.size)) _ _ _;exact kdl_extend (prog:=prog) (w:=w) (R:=R) (s:={ s with heap:=s.heap.push { cls:=.type "list",data:=.seq ([]:List Value).toArray } }) (A:=A) (Uy zc hd T) hh (show _=some o from bz _ ho) s.heap.objs.size (gw dt) (gw dt) _ 0 (b_ _ rfl) (fun h' tk yM c' k Zb ia=>hR h' tk yM c' k Zb ia) hn
 unfold collect;refine ak (v7 (gen _ fun h' tk yM c' k Zb ia=>?_));show wpAny _ A (load s.heap.objs.size >>= _) _ _ _;refine ak (wpAny_load Zb ?_);refine wpAny_pure (h h' tk _ (fun b o' e=>k b o' (aX (aO e)) (bz _ e)) ?_);have eq:yM.toList=(lR w S ep es).toList.map (·.2):=by
  apply mn;intro i;rw[bL,nK,nK];rcases gQ i es.size with z|z
  .have hv:yM[i]?=some (yM[i]'(by rw[ia.1];exact z)):=jc _;rw[hv];exact(ia.2 i _ hv).symm
  .rw[vF (by rw[ia.1];exact z),vF (by rw[Jx];exact z)];rfl
 rw[eq];exact lm.map _
theorem C_:∀ {vs:List Value},(∀v∈vs,∃i t,v=Value.int i t)->IntsAre vs (vs.map iv)
 |[],_=>.nil
 |v::vs,h=>by
  obtain⟨i,t,rfl⟩:=h v bG;exact .cons i t (C_ fun u hu=>h u (bJ _ hu))
theorem Br{ks:List Int}{Q:Value->Shared->Prop}(hh:A.handled=none)(hS:SI prog w s.heap S ks)(h:∀l h' tk (out:Array Value) e (HU:List Int),s.heap.get? l=none->(∀b o,s.heap.get? b=some o->h'.get? b=some o)->h'.get? l=some (seqObj "list" out e)->IntsAre out.toList HU->HU.Perm ks->Q (.ref l) { s with heap:=h',toks:=tk }):
  wpAny (model prog w) A (call (.builtin "sorted") [.ref S]) Q E s:=by
 obtain⟨o,es,ep,t,ho,zc,hd,Na,T,pk⟩:=hS;refine Calls.call_function_entry kind_sorted plain_sorted entry_sorted (args_sorted1 _) ?_;unfold Builtin.«sorted»;refine ak (m:=checkCount "sorted" 1 1 _) (wpAny_pure ?_);refine ak (EJ (A:=A.in1) (prog:=prog) (w:=w) hh ho zc hd T fun h1 tk vs k pv=>?_);have hvs:∀v∈vs,∃i t,v=Value.int i t:=fun v hv=>by
  obtain⟨e,he,rfl⟩:=a9.mp (pv.mem_iff.mp hv);obtain⟨⟨k,hk,_⟩,_⟩:=Na e he;obtain⟨t,ht⟩:=z6 hk;exact⟨k,t,ht⟩
 have de:vs.length<64:=by
  rw[pv.length_eq,aP,eN];rcases T.ms with ⟨_,z⟩|⟨_,z⟩ <;> lia
 refine ak (wpAny_newList ?_);have EY:(h1.push (seqObj "list" vs.toArray 0)).get? h1.objs.size=some (seqObj "list" vs.toArray 0):=b_ _ rfl;show wpAny _ _ _ _ _ { s with heap:=h1.push (seqObj "list" vs.toArray 0),toks:=tk };refine ak (gm (h_ slot_list_sort ⟨_,EY,rfl⟩ entry_list_sort (list_sort_tree (s:={ s with heap:=h1.push (seqObj "list" vs.toArray 0),toks:=tk }) EY (C_ hvs) de fun out HU a1 a2 a3=>⟨_,rfl,?_⟩) (args_list_sort _)));obtain⟨e,he⟩:=sortedHeap_at (out:=out) EY;have free:s.heap.get? h1.objs.size=none:=by
  cases q:s.heap.get? h1.objs.size with
  |none=>rfl
  |some u=>exact absurd (aO (k _ _ q)) (ii _)
 refine wpAny_pure ⟨_,rfl,h h1.objs.size _ tk out e HU free (fun b u eb=>?_) he a1 ?_⟩
 .have hb:=k b u eb;have dt:=aO hb;rw[sortedHeap_old (aX dt) (by rw[kA];exact dZ dt)];exact bz _ hb
 .refine a2.trans ((pv.map iv).trans ?_);rw[fh];exact pk
end
def ub(P:Program)(w:World)(S:Addr)(ks:List Int):HO:=.ext fun h=>SI P w h S ks
section
variable {X:Cx}
def Uz(X:Cx):List V->Hp->VK->Prop:=fun xs H Q=>∃ (l:Addr) (ns:List Int),xs=[.ref l]/\br X.K H l (ns.map V.int)/\ns.length<=17/\∀D,H D=none->Q (.ref D) (upd H D (ub X.prog X.w D (iQ ns)))
theorem Bu(hc:X.calm=true):gu X (.type "set") (Uz X):=by
 intro ae s σ H xs us Q I r h;obtain⟨l,ns,rfl,hl,V6,q⟩:=h;obtain⟨u1,rfl,r1⟩:=r.one;obtain rfl:u1=Value.ref l:=r1;obtain⟨its,rv,pl,_⟩:=I.list hl;refine EI (I.ok.hd hc) pl.isList (At rv) V6 fun h' tk S' k=>?_;refine⟨.ref s.heap.objs.size,_,I.xS (t':=tk) (o:=ub X.prog X.w s.heap.objs.size (iQ ns)) (fun b u e=>k b u (aO e) e) (rD (aW _)) ⟨S',?_,fun h1 h2 z kk=>z.keep kk⟩,rfl,q _ I.fresh⟩;obtain⟨o,_,_,_,q1,_⟩:=S';exact⟨o,q1⟩
def PP(X:Cx):List V->Hp->VK->Prop:=fun xs H Q=>∃ (S:Addr) (ks:List Int),xs=[.ref S]/\H S=some (ub X.prog X.w S ks)/\ks.length<=17/\∀ (D:Addr) (HU:List Int),H D=none->HU.Perm ks->Q (.ref D) (upd H D (.lst (HU.map V.int)))
theorem Bv(hc:X.calm=true):gu X (.builtin "sorted") (PP X):=by
 intro ae s σ H xs us Q I r h;obtain⟨S,ks,rfl,hS,h17,q⟩:=h;obtain⟨u1,rfl,r1⟩:=r.one;obtain rfl:u1=Value.ref S:=r1;obtain⟨S',_⟩:=(show cf X.prog X.w H s.heap S (ub X.prog X.w S ks) from I.ck S _ hS)
 refine Br (I.ok.hd hc) S' fun l h' tk out e HU free keep ho a1 a2=>?_;have eo:out=out.toList.toArray:=by simp
 refine⟨.ref l,_,I.xS (t':=tk) (o:=.lst (HU.map V.int)) keep free ⟨?_,out.toList,e,pF a1,by rw[ho]⟩,rfl,q _ HU (I.ck.sL free) a2⟩;rw[aP,a2.length_eq];exact bj h17 (by decide)
end
theorem IE{hi:Int}{n:Nat}{g:TG}{tb:TS}{D:wg}{σ:St}{H:Hp}(Pv:Nat->St->Hp->Prop)(h0:Pv 0 σ H)(hs:∀i σ H,i<n->Pv i σ H->g (.int (hi-i)) σ H fun σ2 H2=>tb { D with nx:=Pv (i+1),ct:=Pv (i+1),bk:=D.nx } σ2 H2)(hd:∀σ H,Pv n σ H->D.nx σ H):
  ∃W:Nat->Nat->St->Hp->Prop,(∃m,W 0 m σ H)/\∀i m σ H,W i m σ H->
   ((Us hi n).stop i H/\D.nx σ H)\/((Us hi n).go i H/\∃N:St->Hp->Prop,(∀σ' H',N σ' H'->∃m',m'<m/\W (i+1) m' σ' H')/\∀x H',(Us hi n).Jr i H x H'->g x σ H' fun σ2 H2=>tb { D with nx:=N,ct:=N,bk:=D.nx } σ2 H2):=by
 refine⟨fun i m σ H=>m=n-i/\i<=n/\Pv i σ H,⟨n,by simp,cF _,h0⟩,?_⟩;rintro i m σ H ⟨rfl,hi,p⟩;by_cases dt:i<n
 .refine .inr ⟨dt,Pv (i+1),fun σ' H' p'=>⟨n-(i+1),by lia,rfl,dt,p'⟩,fun x H' y=>?_⟩;obtain⟨e,y⟩:=y;subst e y;exact hs i σ _ dt p
 .have e:i=n:=by lia
  subst e;exact .inl ⟨aW _,hd σ H p⟩
section
variable {X:Cx} {tg:Expr}
def PQ(tl:TE):TI:=fun σ H R=>tl σ H fun x H1=>∃d kvs,x=.ref d/\Rd H1 d (.dK kvs)/\∀o H2,H2 d=some (.mK o (.dK kvs))->(∀b,b≠d->H2 b=H1 b)->R (Wa d o kvs) H2
theorem IF{l:Expr}{tl:TE}(hl:PE X l tl):PI X tg l (PQ tl):=by
 intro ae s σ H R I h;refine cz (hl ae s σ H _ I h) fun v s1 ⟨x,H1,I1,r1,q1⟩=>?_;obtain⟨d,kvs,e,hd,q⟩:=q1;subst e;cases r1;have fin:∀ (o:Obj) (H2:Hp),aI X ae σ H2 s1->H2 d=some (.mK o (.dK kvs))->(∀b,b≠d->H2 b=H1 b)->wpAny (model X.prog X.w) X.A (pyIter (.ref d)) (WQ X ae σ tg R) X.xe s1:=by
  intro o H2 I2 h2 k2;obtain⟨ho,z,hS,vs,kv,o',es,ep,g1,g2,g3,g4,g5,g6⟩:=I2.ck d _ h2;rw[ho] at g1;cases g1;have hm:s1.heap.DictAt (dF X.prog X.w) d vs ep:=⟨o,es,ho,g2,g3,g4,g5,g6⟩
  refine wpAny_pyIter_dict hS hm ?_;refine⟨s1.heap.objs.size,[s1.heap.objs.size],_,_,_,rfl,I2.kept (t':=s1.toks) fun b o e=>bz _ e,DW d _ o kvs es ep g3,⟨_,b_ _ rfl,rfl,by rw[kv.length];rfl⟩,fun b hb=>?_,q o H2 h2 k2⟩;have e:b=s1.heap.objs.size:=by simpa using hb
  subst e;exact I2.wr (aW _) (I2.ck.fresh (aW _))
 rcases hd with hd|⟨o,hd⟩
 .obtain⟨z,hS,vs,kv,o,es,ep,g1,g2,g3,g4,g5,g6⟩:=MG I1.ck hd;exact fin o _ (I1.freeze hd g1 ⟨(fun _ z=>by cases z),(fun _ _ z=>by cases z),(fun _ z=>by cases z),(fun _ z=>by cases z)⟩) ah fun b hb=>al hb
 .exact fin o H1 I1 hd fun b _=>rfl
end
theorem EK{d D:Addr}{o:Obj}{kvs:List (fL×V)}{g:TG}{tt:TT}{te:TE}{fin:Hp->Prop}{σB:St}{H0:Hp}(Pv:Nat->List V->St->Hp->Prop)(h0:Pv 0 [] σB H0)(hl:∀i ys σ H,i<=kvs.length->Pv i ys σ H->H d=some (.mK o (.dK kvs)))(hs:∀i k v ys σ H (Kt:V->St->Hp->Prop) (Kf:St->Hp->Prop),kvs[i]?=some (k,v)->Pv i ys σ H->
   (∀v σ2 H4,H4 D=some (.lst ys)->ys.length<sizeLine->Pv (i+1) (ys++[v]) σ2 (upd H4 D (.lst (ys++[v])))->Kt v σ2 H4)->(∀σ2 H3,Pv (i+1) ys σ2 H3->Kf σ2 H3)->
   g (kV k) σ H fun σ2 H2=>tt σ2 H2 fun b H3=>if b=true then te σ2 H3 fun v H4=>Kt v σ2 H4 else Kf σ2 H3)(hd:∀ys σ H,Pv kvs.length ys σ H->fin H):gR (Wa d o kvs) g tt te D fin σB H0:=by
 refine⟨fun i m σ H=>m=kvs.length-i/\i<=kvs.length/\∃ys,Pv i ys σ H,⟨kvs.length,by simp,cF _,[],h0⟩,?_⟩;rintro i m σ H ⟨rfl,hi,ys,p⟩;have q:=hl i ys σ H hi p;by_cases dt:i<kvs.length
 .refine .inr ⟨⟨q,dt⟩,?_⟩;rintro x H' ⟨rfl,k,v,hk,rfl⟩;exact hs i k v ys σ _ (fun v σ2 H4=>∃ys,H4 D=some (.lst ys)/\ys.length<sizeLine/\∃m',m'<kvs.length-i/\m'=kvs.length-(i+1)/\i+1<=kvs.length/\∃pL,Pv (i+1) pL σ2 (upd H4 D (.lst (ys++[v]))))
   (fun σ2 H3=>∃m',m'<kvs.length-i/\m'=kvs.length-(i+1)/\i+1<=kvs.length/\∃pL,Pv (i+1) pL σ2 H3) hk p
   (fun v σ2 H4 z1 z2 z3=>⟨ys,z1,z2,_,by lia,rfl,dt,_,z3⟩) (fun σ2 H3 z=>⟨_,by lia,rfl,dt,_,z⟩)
 .have e:i=kvs.length:=by lia
  subst e;exact .inl ⟨⟨q,aW _⟩,hd ys σ H p⟩
theorem Bw{K:PySem.W.Frag}{a D:Addr}{xs:List V}{g:TG}{tt:TT}{tk tv:TE}{fin:Hp->Prop}{σB:St}{H0:Hp}(Pv:Nat->List (fL×V)->St->Hp->Prop)(h0:Pv 0 [] σB H0)(hl:∀i kvs σ H,i<=xs.length->Pv i kvs σ H->br K H a xs)(hs:∀i x kvs σ H (Kt:V->V->St->Hp->Prop) (Kf:St->Hp->Prop),xs[i]?=some x->Pv i kvs σ H->
   (∀k v σ2 H4,H4 D=some (.dK kvs)->kvs.length<sizeLine->Pv (i+1) (pM kvs k v) σ2 (upd H4 D (.dK (pM kvs k v)))->Kt (kV k) v σ2 H4)->(∀σ2 H3,Pv (i+1) kvs σ2 H3->Kf σ2 H3)->
   g x σ H fun σ2 H2=>tt σ2 H2 fun b H3=>if b=true then tk σ2 H3 fun y H4=>tv σ2 H4 fun v H5=>Kt y v σ2 H5 else Kf σ2 H3)(hd:∀kvs σ H,Pv xs.length kvs σ H->fin H):yF (Fw K a) g tt tk tv D fin σB H0:=by
 refine⟨fun i m σ H=>m=xs.length-i/\i<=xs.length/\∃kvs,Pv i kvs σ H,⟨xs.length,by simp,cF _,[],h0⟩,?_⟩;rintro i m σ H ⟨rfl,hi,ys,p⟩;have q:=hl i ys σ H hi p;by_cases dt:i<xs.length
 .refine .inr ⟨⟨xs,xs[i],q,by simp[dt]⟩,?_⟩;rintro x H' ⟨rfl,y⟩;exact hs i x ys σ _ (fun y v σ2 H4=>∃kvs k,H4 D=some (.dK kvs)/\y=kV k/\kvs.length<sizeLine/\∃m',m'<xs.length-i/\m'=xs.length-(i+1)/\i+1<=xs.length/\∃Zc,Pv (i+1) Zc σ2 (upd H4 D (.dK (pM kvs k v))))
   (fun σ2 H3=>∃m',m'<xs.length-i/\m'=xs.length-(i+1)/\i+1<=xs.length/\∃pL,Pv (i+1) pL σ2 H3) (y xs q) p
   (fun k v σ2 H4 z1 z2 z3=>⟨ys,k,z1,rfl,z2,_,by lia,rfl,dt,_,z3⟩) (fun σ2 H3 z=>⟨_,by lia,rfl,dt,_,z⟩)
 .have e:i=xs.length:=by lia
  subst e;exact .inl ⟨⟨xs,q,aW _⟩,hd ys σ H p⟩
end L2
namespace jJ
theorem UA{p q:Prop}[Decidable p][Decidable q]{α:Type}{a b:α}(h:p↔q):(if p then a else b)=if q then a else b:=by
 by_cases c:p
 .rw[ai c,ai (h.mp c)]
 .rw[ap c,ap (fun z=>c (h.mpr z))]
abbrev Gf:=Nat->Option Nat
def sg(g:Gf)(i y:Nat):Gf:=fun j=>if j=i then some y else g j
theorem gb{g:Gf}{i y:Nat}:sg g i y i=some y:=ai rfl
theorem l6{g:Gf}{i y j:Nat}(h:j≠i):sg g i y j=g j:=ap h
def uc(W:Nat->Nat)(s:Gf×List Nat)(i:Nat):Gf×List Nat:=if W i∈s.2 then (sg s.1 i (W i),s.2.erase (W i)) else s
def ff(c:Nat->Nat)(s:Gf×List Nat)(i:Nat):Gf×List Nat:=
 if s.1 i=none then (if c i∈s.2 then (sg s.1 i (c i),s.2.erase (c i)) else (sg s.1 i (s.2.headD 0),s.2.erase (s.2.headD 0))) else s
def FT(W:Nat->Nat)(ls T:List Nat)(g:Gf):Gf:=fun i=>if W i∈T/\ls.find? (fun j=>decide (W j=W i))=some i then some (W i) else g i
def FR(W:Nat->Nat)(ls T:List Nat):List Nat:=T.filter fun t=>decide (∀j∈ls,W j≠t)
theorem d9(W:Nat->Nat):∀ (ls T:List Nat) (g:Gf),T.Nodup->ls.foldl (uc W) (g,T)=(FT W ls T g,FR W ls T)
 |[],T,g,_=>by
  show (g,T)=_;refine gD (funext fun i=>?_) ?_
  .show g i=if _ then _ else _
   rw[ap (fun z=>(nomatch z.2))]
  .show T=T.filter _;exact(List.filter_eq_self.mpr fun t _=>aT fun j hj=>(nomatch hj)).symm
 |i0::ls,T,g,nd=>by
  rw[ic];by_cases c:W i0∈T
  .rw[show uc W (g,T) i0=(sg g i0 (W i0),T.erase (W i0)) from ai c,d9 W ls _ _ (nd.erase _)];have ne:W i0∉T.erase (W i0):=fun z=>((nd.mem_erase_iff).mp z).1 rfl;refine gD (funext fun i=>?_) ?_
   .show (if _ then _ else _)=if _ then _ else _
    by_cases e:W i0=W i
    .rw[ap (by rw[<-e];exact fun z=>ne z.1),List.find?_cons_of_pos (by rw[e];exact aT rfl)];by_cases ei:i=i0
     .subst ei;rw[gb,ai ⟨c,rfl⟩]
     .rw[l6 ei,ap (fun z=>ei (a8 z.2).symm)]
    .have ei:i≠i0:=fun z=>e (by rw[z]);rw[zm (by simpa using e),l6 ei];exact UA (by rw[oN (cj e)])
   .show (T.erase (W i0)).filter _=T.filter _;rw[nd.erase_eq_filter,List.filter_filter];refine zO fun t _=>?_;rw[im,gh,fD,fD,bne_iff_ne];constructor
    .rintro⟨h1,h2⟩ j hj;rcases ba.mp hj with rfl|hj
     .exact fun e=>h2 e.symm
     .exact h1 j hj
    .exact fun h=>⟨fun j hj=>h j (bJ _ hj),fun e=>h i0 bG e.symm⟩
  .rw[show uc W (g,T) i0=(g,T) from ap c,d9 W ls _ _ nd];refine gD (funext fun i=>?_) ?_
   .show (if _ then _ else _)=if _ then _ else _
    by_cases e:W i0=W i
    .rw[ap (by rw[<-e];exact fun z=>c z.1),ap (by rw[<-e];exact fun z=>c z.1)]
    .rw[zm (by simpa using e)]
   .show T.filter _=T.filter _;refine zO fun t ht=>?_;rw[im,fD,fD];constructor
    .intro h1 j hj;rcases ba.mp hj with rfl|hj
     .exact fun e=>c (e ▸ ht)
     .exact h1 j hj
    .exact fun h j hj=>h j (bJ _ hj)
structure KI(c:Nat->Nat)(bZ:List Nat)(s:Gf×List Nat):Prop where
 nd:bZ.Nodup
 fn:s.2.Nodup
 l2:s.2.length<=2
 ct:(bZ.filter fun i=>decide (s.1 i=none)).length<=s.2.length
 co:s.2.length=2->∀i∈bZ,s.1 i=none->c i∈s.2
theorem KI.skip{c:Nat->Nat}{i:Nat}{bZ:List Nat}{s:Gf×List Nat}(K:KI c (i::bZ) s)(h:s.1 i≠none):KI c bZ s:=
 ⟨(cX.mp K.nd).2,K.fn,K.l2,by have:=K.ct;rwa [List.filter_cons_of_neg (by simpa using h)] at this,fun z j hj=>K.co z j (bJ _ hj)⟩
theorem KI.take{c:Nat->Nat}{i y:Nat}{bZ:List Nat}{s:Gf×List Nat}(K:KI c (i::bZ) s)(h:s.1 i=none)(hy:y∈s.2):KI c bZ (sg s.1 i y,s.2.erase y):=by
 obtain⟨n1,n2⟩:=cX.mp K.nd;have ct:=K.ct;rw[List.filter_cons_of_pos (p:=fun i=>decide (s.1 i=none)) (aT h),cu] at ct;have le:=rj hy;have l2:=K.l2;have ef:(bZ.filter fun j=>decide (sg s.1 i y j=none))=bZ.filter fun j=>decide (s.1 j=none):=zO fun j hj=>by rw[l6 (fun (e:j=i)=>n1 (e ▸ hj))]
 refine⟨n2,K.fn.erase _,by show (s.2.erase y).length<=2;lia,?_,fun z=>?_⟩
 .show (bZ.filter fun j=>decide (sg s.1 i y j=none)).length<=(s.2.erase y).length;rw[ef];lia
 .have z:(s.2.erase y).length=2:=z;lia
theorem KI.head{c:Nat->Nat}{i:Nat}{bZ:List Nat}{s:Gf×List Nat}(K:KI c (i::bZ) s)(h:s.1 i=none)(hc:c i∉s.2):∃y,s.2=[y]:=by
 have ct:=K.ct;rw[List.filter_cons_of_pos (p:=fun i=>decide (s.1 i=none)) (aT h),cu] at ct;have l2:=K.l2;have h1:s.2.length=1:=by
  rcases gQ s.2.length 2 with z|z
  .lia
  .exact absurd (K.co (by lia) i bG h) hc
 match e:s.2,h1 with
 |[y],_=>exact⟨y,rfl⟩
theorem KI.step{c:Nat->Nat}{i:Nat}{bZ:List Nat}{s:Gf×List Nat}(K:KI c (i::bZ) s):KI c bZ (ff c s i)/\(ff c s i).1 i≠none/\∀s':Gf×List Nat,s'.1=s.1->s'.2.Perm s.2->(ff c s' i).1=(ff c s i).1/\(ff c s' i).2.Perm (ff c s i).2:=by
 unfold ff;by_cases h:s.1 i=none
 .rw[ai h];by_cases hc:c i∈s.2
  .rw[ai hc];refine⟨K.take h hc,(fun z=>by have z:sg s.1 i _ i=none:=z;rw[gb] at z;cases z),fun s' e p=>?_⟩;rw[e,ai h,ai (p.mem_iff.mpr hc)];exact⟨rfl,p.erase _⟩
  .rw[ap hc];obtain⟨y,ey⟩:=K.head h hc;have hy:s.2.headD 0=y:=by rw[ey];rfl
   rw[hy];refine⟨K.take h (by rw[ey];exact bG),(fun z=>by have z:sg s.1 i _ i=none:=z;rw[gb] at z;cases z),fun s' e p=>?_⟩;have e2:s'.2=s.2:=by rw[ey] at p |-;exact List.perm_singleton.mp p
   rw[e,ai h,e2,ap hc,hy];exact⟨rfl,.refl _⟩
 .rw[ap h];refine⟨K.skip h,h,fun s' e p=>?_⟩;rw[e,ap h];exact⟨e,p⟩
theorem yN{c:Nat->Nat}{s:Gf×List Nat}{i j:Nat}(h:s.1 j≠none):(ff c s i).1 j=s.1 j:=by
 unfold ff;by_cases h0:s.1 i=none
 .have ne:j≠i:=fun e=>h (e ▸ h0);rw[ai h0];split
  .exact l6 ne
  .exact l6 ne
 .rw[ap h0]
theorem hV{c:Nat->Nat}:∀ (bZ:List Nat) (s:Gf×List Nat) (j:Nat),s.1 j≠none->(bZ.foldl (ff c) s).1 j=s.1 j
 |[],s,j,_=>rfl
 |i::bZ,s,j,h=>by
  rw[ic,hV bZ _ j (by rw[yN h];exact h),yN h]
theorem pZ{c:Nat->Nat}:∀ (bZ:List Nat) (s:Gf×List Nat) (j:Nat),j∉bZ->(bZ.foldl (ff c) s).1 j=s.1 j
 |[],s,j,_=>rfl
 |i::bZ,s,j,h=>by
  rw[ic,pZ bZ _ j (fun z=>h (bJ _ z))];have ne:j≠i:=fun e=>h (e ▸ bG);unfold ff;split
  .split <;> exact l6 ne
  .rfl
theorem q9{c:Nat->Nat}:∀ (bZ:List Nat) (s:Gf×List Nat) (y:Nat),y∈(bZ.foldl (ff c) s).2->y∈s.2
 |[],s,y,h=>h
 |i::bZ,s,y,h=>by
  rw[ic] at h;have:=q9 bZ _ y h;unfold ff at this;split at this
  .split at this <;> exact vG this
  .exact this
theorem xi{c:Nat->Nat}:∀ (bZ:List Nat) (s:Gf×List Nat),s.2.Nodup->(bZ.foldl (ff c) s).2.Nodup
 |[],s,h=>h
 |i::bZ,s,h=>by
  rw[ic];refine xi bZ _ ?_;unfold ff;split
  .split <;> exact h.erase _
  .exact h
theorem kst_all{c:Nat->Nat}:∀ (bZ:List Nat) (s:Gf×List Nat),KI c bZ s->(∀i∈bZ,(bZ.foldl (ff c) s).1 i≠none)/\∀s':Gf×List Nat,s'.1=s.1->s'.2.Perm s.2->(bZ.foldl (ff c) s').1=(bZ.foldl (ff c) s).1/\(bZ.foldl (ff c) s').2.Perm (bZ.foldl (ff c) s).2
 |[],s,_=>⟨fun i h=>(nomatch h),fun s' e p=>⟨e,p⟩⟩
 |i::bZ,s,K=>by
  obtain⟨K1,n1,r1⟩:=K.step;obtain⟨a1,a2⟩:=kst_all bZ _ K1;refine⟨fun j hj=>?_,fun s' e p=>?_⟩
  .rcases ba.mp hj with rfl|hj
   .rw[ic,hV bZ _ _ n1];exact n1
   .exact a1 j hj
  .obtain⟨e1,p1⟩:=r1 s' e p;exact a2 _ e1 p1
theorem Nb{α:Type}{p q:α->Bool}(h:∀x,p x=true->q x=true->False):∀l:List α,(l.filter p).length+(l.filter q).length<=l.length
 |[]=>aW _
 |x::l=>by
  have ih:=Nb h l;rw[eZ,eZ,cu];by_cases c1:p x=true
  .by_cases c2:q x=true
   .exact(h x c1 c2).elim
   .rw[ai c1,ap c2,cu];lia
  .rw[ap c1];split
   .rw[cu];lia
   .lia
theorem Nc{α:Type}{p:α->Bool}:∀l:List α,l.length=(l.filter p).length+(l.filter fun x=>!p x).length
 |[]=>rfl
 |x::l=>by
  have ih:=Nc (p:=p) l;rw[eZ,eZ,cu];cases c:p x <;> simp <;> lia
theorem yO{α:Type}[DecidableEq α]:∀ {a b:List α},a.Nodup->(∀x∈a,x∈b)->a.length<=b.length
 |[],b,_,_=>cF _
 |x::xs,b,hn,hs=>by
  obtain⟨h1,h2⟩:=cX.mp hn;have hx:x∈b:=hs x bG;have:=yO (b:=b.erase x) h2 fun y hy=>(oN (fun (e:y=x)=>h1 (e ▸ hy))).mpr (hs y (bJ _ hy));rw[rj hx] at this;have:0<b.length:=vE hx;rw[cu];lia
theorem IG{W c:Nat->Nat}{own T:List Nat}{g:Gf}(nd:own.Nodup)(tn:T.Nodup)(t2:T.length<=2)(hc:∀i∈own,c i∈T)(inj:∀i∈own,∀j∈own,c i=c j->i=j):KI c own (FT W own T g,FR W own T):=by
 have fl:(FR W own T).length<=T.length:=je _ _;refine⟨nd,tn.filter _,bj fl t2,?_,fun z i hi _=>?_⟩
 .have o1:own.length<=T.length:=by
   have:=yO (a:=own.map c) (b:=T) ?_ (fun x hx=>by obtain⟨i,hi,rfl⟩:=a9.mp hx;exact hc i hi)
   .rwa [aP] at this
   .unfold List.Nodup;rw[jS];exact nd.imp_of_mem fun {a b} ha hb ne e=>ne (inj a ha b hb e)
  have o2:=Nb (p:=fun i=>decide (FT W own T g i=none)) (q:=fun i=>decide (W i∈T/\own.find? (fun j=>decide (W j=W i))=some i)) (fun x h1 h2=>by
   have h1:=c_ h1;have h2:=c_ h2;unfold FT at h1;rw[ai h2] at h1;cases h1) own
  have o3:=Nc (p:=fun t=>decide (∀j∈own,W j≠t)) T;have o4:=yO (a:=T.filter fun t=>!decide (∀j∈own,W j≠t)) (b:=(own.filter fun i=>decide (W i∈T/\own.find? (fun j=>decide (W j=W i))=some i)).map W) (tn.filter _) fun t ht=>by
   obtain⟨h1,h2⟩:=a_.mp ht;have h2:∃j∈own,W j=t:=by
    refine oM fun z=>?_;rw[aT (show ∀j∈own,W j≠t from fun j hj e=>z ⟨j,hj,e⟩)] at h2;cases h2
   obtain⟨j,hj,ej⟩:=h2;cases ec:own.find? (fun i=>decide (W i=t)) with
   |none=>exact absurd ej (by simpa using mj.mp ec j hj)
   |some i=>
    have wi:W i=t:=by simpa using oW ec
    exact a9.mpr ⟨i,a_.mpr ⟨oK ec,aT ⟨by rw[wi];exact h1,by rw[wi];exact ec⟩⟩,wi⟩
  rw[aP] at o4;show (own.filter fun i=>decide (FT W own T g i=none)).length<=(FR W own T).length;unfold FR;lia
 .have z:(FR W own T).length=2:=z;have e:FR W own T=T:=(vK (p:=fun t=>decide (∀j∈own,W j≠t)) (l:=T)).eq_of_length (show (FR W own T).length=T.length by lia);show c i∈FR W own T;rw[e];exact hc i hi
structure HA(d:Nat)(here:List Nat)(W c p l:Nat->Nat)(T:Nat->List Nat):Prop where
 nd:here.Nodup
 hw:∀i∈here,∀k,k<d->(W i∈T k↔p i=k)
 hc:∀i∈here,∀k,k<d->(c i∈T k↔l i=k)
 le:∀i∈here,l i<=p i/\p i<d
 inj:∀i∈here,∀j∈here,c i=c j->i=j
 tn:∀k,k<d->(T k).Nodup/\(T k).length<=2
def bo(here:List Nat)(l:Nat->Nat)(k:Nat):List Nat:=here.filter fun i=>decide (l i=k)
def ln(here:List Nat)(l:Nat->Nat)(k:Nat):List Nat:=here.filter fun i=>decide (l i<k)
def lr(here:List Nat)(W c l:Nat->Nat)(T:List Nat)(k:Nat)(g:Gf):Gf:=((ln here l k).foldl (uc W) ((bo here l k).foldl (ff c) ((bo here l k).foldl (uc W) (g,T)))).1
structure JI(here:List Nat)(p l:Nat->Nat)(k:Nat)(g:Gf):Prop where
 lo:∀i∈here,g i≠none->k<=p i
 hi:∀i∈here,k<=l i->g i≠none
section
variable {d:Nat} {here:List Nat} {W c p l:Nat->Nat} {T:Nat->List Nat}
theorem HA.own(A:HA d here W c p l T){k:Nat}(hk:k<d){g:Gf}:KI c (bo here l k) (FT W (bo here l k) (T k) g,FR W (bo here l k) (T k)):=
 IG (A.nd.filter _) (A.tn k hk).1 (A.tn k hk).2 (fun i hi=>(A.hc i (a_.mp hi).1 k hk).mpr (c_ (a_.mp hi).2)) fun i hi j hj=>A.inj i (a_.mp hi).1 j (a_.mp hj).1
theorem xj{ls T:List Nat}{g:Gf}{i:Nat}(h:g i≠none):FT W ls T g i≠none:=by
 unfold FT;split
 .exact fun z=>(nomatch z)
 .exact h
theorem yP{ls T:List Nat}{g:Gf}{i:Nat}:(W i∈T/\i∈ls/\FT W ls T g i=some (W i))\/FT W ls T g i=g i:=by
 unfold FT;split
 .rename_i h;exact .inl ⟨h.1,oK h.2,rfl⟩
 .exact .inr rfl
theorem JI.step(A:HA d here W c p l T){k:Nat}(hk:k<d){g:Gf}(J:JI here p l (k+1) g):JI here p l k (lr here W c l (T k) k g):=by
 have K:=A.own hk (g:=g);obtain⟨ka,_⟩:=kst_all _ _ K;have e1:=d9 W (bo here l k) (T k) g (A.tn k hk).1;have fn:((bo here l k).foldl (ff c) (FT W (bo here l k) (T k) g,FR W (bo here l k) (T k))).2.Nodup:=xi _ _ ((A.tn k hk).1.filter _);have e2:=d9 W (ln here l k) _ ((bo here l k).foldl (ff c) (FT W (bo here l k) (T k) g,FR W (bo here l k) (T k))).1 fn;have e:lr here W c l (T k) k g=FT W (ln here l k) ((bo here l k).foldl (ff c) (FT W (bo here l k) (T k) g,FR W (bo here l k) (T k))).2 ((bo here l k).foldl (ff c) (FT W (bo here l k) (T k) g,FR W (bo here l k) (T k))).1:=by
  unfold lr;rw[e1,e2]
 refine⟨fun i hi h=>?_,fun i hi h=>?_⟩
 .have hp:W i∈T k->k<=p i:=fun z=>mD ((A.hw i hi k hk).mp z).symm;rw[e] at h;rcases yP (W:=W) (ls:=ln here l k) (T:=((bo here l k).foldl (ff c) (FT W (bo here l k) (T k) g,FR W (bo here l k) (T k))).2) (g:=((bo here l k).foldl (ff c) (FT W (bo here l k) (T k) g,FR W (bo here l k) (T k))).1) (i:=i) with ⟨z,_,_⟩|z
  .exact hp (a_.mp (q9 _ _ _ z)).1
  .rw[z] at h;by_cases o:i∈bo here l k
   .have:=(A.le i hi).1;have:=c_ (a_.mp o).2;lia
   .rw[pZ _ _ _ o] at h;rcases yP (W:=W) (ls:=bo here l k) (T:=T k) (g:=g) (i:=i) with ⟨y,_,_⟩|y
    .exact hp y
    .have h:FT W (bo here l k) (T k) g i≠none:=h;rw[y] at h;have:=J.lo i hi h;lia
 .rw[e];refine xj ?_;by_cases o:i∈bo here l k
  .exact ka i o
  .have ne:l i≠k:=fun z=>o (a_.mpr ⟨hi,aT z⟩);have hg:=J.hi i hi (by lia);rw[hV _ _ _ (xj hg)];exact xj hg
end
def uE(here:List Nat)(W c l:Nat->Nat)(T:Nat->List Nat)(d:Nat):Nat->Gf->Gf
 |0,g=>g
 |m+1,g=>lr here W c l (T (d-1-m)) (d-1-m) (uE here W c l T d m g)
theorem JI.all{d:Nat}{here:List Nat}{W c p l:Nat->Nat}{T:Nat->List Nat}(A:HA d here W c p l T){g:Gf}(hg:∀i∈here,g i=none):∀m,m<=d->JI here p l (d-m) (uE here W c l T d m g)
 |0,_=>⟨fun i hi h=>absurd (hg i hi) h,fun i hi h=>by have:=A.le i hi;lia⟩
 |m+1,hm=>by
  have ih:=JI.all A hg m (by lia);rw[show d-m=(d-1-m)+1 by lia] at ih;have:=ih.step A (k:=d-1-m) (by lia);rw[show d-(m+1)=d-1-m by lia];exact this
def Wu(S:List Nat)(s s':Gf×List Nat):Prop:=(∀i∈S,s.1 i=s'.1 i)/\s.2=s'.2
theorem By{S:List Nat}{g g':Gf}{i y:Nat}(h:∀j∈S,g j=g' j):∀j∈S,sg g i y j=sg g' i y j:=fun j hj=>by
 unfold sg;split
 .rfl
 .exact h j hj
theorem xk{S:List Nat}{W:Nat->Nat}:∀ (ls:List Nat) {s s':Gf×List Nat},Wu S s s'->Wu S (ls.foldl (uc W) s) (ls.foldl (uc W) s')
 |[],s,s',h=>h
 |i::ls,s,s',h=>by
  refine xk ls ?_;unfold uc;rw[h.2];split
  .exact⟨By h.1,rfl⟩
  .exact h
theorem Da{S:List Nat}{c:Nat->Nat}:∀ (ls:List Nat) {s s':Gf×List Nat},(∀i∈ls,i∈S)->Wu S s s'->Wu S (ls.foldl (ff c) s) (ls.foldl (ff c) s')
 |[],s,s',_,h=>h
 |i::ls,s,s',hs,h=>by
  refine Da ls (fun j hj=>hs j (bJ _ hj)) ?_;unfold ff;rw[h.2,h.1 i (hs i bG)];split
  .split
   .exact⟨By h.1,rfl⟩
   .exact⟨By h.1,rfl⟩
  .exact h
theorem LD{here:List Nat}{W c l:Nat->Nat}{T:List Nat}{k:Nat}{g g':Gf}(h:∀i∈here,g i=g' i):∀i∈here,lr here W c l T k g i=lr here W c l T k g' i:=
 (xk (S:=here) _ (Da _ (fun i hi=>(a_.mp hi).1) (xk _ (s:=(g,T)) (s':=(g',T)) ⟨h,rfl⟩))).1
theorem Db{here:List Nat}{W c l:Nat->Nat}{T:Nat->List Nat}{d:Nat}{g g':Gf}(h:∀i∈here,g i=g' i):∀m,∀i∈here,uE here W c l T d m g i=uE here W c l T d m g' i
 |0=>h
 |m+1=>LD (Db h m)
theorem xm{W:Nat->Nat}{i:Nat}:∀ (ls:List Nat) (s:Gf×List Nat),i∉ls->(ls.foldl (uc W) s).1 i=s.1 i
 |[],s,_=>rfl
 |j::ls,s,h=>by
  rw[ic,xm ls _ (fun z=>h (bJ _ z))];unfold uc;split
  .exact l6 fun e=>h (e ▸ bG)
  .rfl
theorem LF{here:List Nat}{W c l:Nat->Nat}{T:List Nat}{k:Nat}{g:Gf}{i:Nat}(h:i∉here):lr here W c l T k g i=g i:=by
 unfold lr ln bo;rw[xm _ _ (fun z=>h (a_.mp z).1),pZ _ _ _ (fun z=>h (a_.mp z).1),xm _ _ (fun z=>h (a_.mp z).1)]
theorem Dc{here:List Nat}{W c l:Nat->Nat}{T:Nat->List Nat}{d:Nat}{g:Gf}{i:Nat}(h:i∉here):∀m,uE here W c l T d m g i=g i
 |0=>rfl
 |m+1=>(LF h).trans (Dc h m)
structure SI(d:Nat)(here:List Nat)(W l:Nat->Nat)(T:Nat->List Nat)(k:Nat)(s:Gf×List Nat):Prop where
 fn:s.2.Nodup
 fs:∀y∈s.2,y∈T k
 fr:∀i∈here,∀y,s.1 i=some y->y∉s.2
 ty:∀i∈here,∀y,s.1 i=some y->∃q,k<=q/\q<d/\y∈T q/\(y=W i\/l i=q)
 inj:∀i∈here,∀j∈here,∀y,s.1 i=some y->s.1 j=some y->i=j
structure JT(d:Nat)(here:List Nat)(W l:Nat->Nat)(T:Nat->List Nat)(k:Nat)(g:Gf):Prop where
 ty:∀i∈here,∀y,g i=some y->∃q,k<=q/\q<d/\y∈T q/\(y=W i\/l i=q)
 inj:∀i∈here,∀j∈here,∀y,g i=some y->g j=some y->i=j
section
variable {d k:Nat} {here:List Nat} {W c p l:Nat->Nat} {T:Nat->List Nat} {s:Gf×List Nat} {g:Gf}
theorem SI.jt(S:SI d here W l T k s):JT d here W l T k s.1:=⟨S.ty,S.inj⟩
theorem SI.take(S:SI d here W l T k s)(hk:k<d){i y:Nat}(hi:i∈here)(hy:y∈s.2)(h:y=W i\/l i=k):SI d here W l T k (sg s.1 i y,s.2.erase y):=by
 have at_:∀ {j z:Nat},sg s.1 i y j=some z->(j=i/\z=y)\/(j≠i/\s.1 j=some z):=fun {j z} e=>by
  by_cases c:j=i
  .subst c;rw[gb] at e;exact .inl ⟨rfl,(a8 e).symm⟩
  .rw[l6 c] at e;exact .inr ⟨c,e⟩
 refine⟨S.fn.erase _,fun z hz=>S.fs z (vG hz),fun j hj z e=>?_,fun j hj z e=>?_,fun a ha b hb z ea eb=>?_⟩
 .rcases at_ e with ⟨_,rfl⟩|⟨_,e⟩
  .exact fun m=>((S.fn.mem_erase_iff).mp m).1 rfl
  .exact fun m=>S.fr j hj z e (vG m)
 .rcases at_ e with ⟨rfl,rfl⟩|⟨_,e⟩
  .exact⟨k,aW _,hk,S.fs _ hy,h⟩
  .exact S.ty j hj z e
 .rcases at_ ea with ⟨a1,a2⟩|⟨_,a2⟩
  .rcases at_ eb with ⟨b1,_⟩|⟨_,b2⟩
   .rw[a1,b1]
   .exact absurd hy (S.fr b hb _ (a2 ▸ b2))
  .rcases at_ eb with ⟨_,b2⟩|⟨_,b2⟩
   .exact absurd hy (S.fr a ha _ (b2 ▸ a2))
   .exact S.inj a ha b hb z a2 b2
theorem SI.Bz(hk:k<d):∀ (ls:List Nat) {s:Gf×List Nat},(∀i∈ls,i∈here)->SI d here W l T k s->SI d here W l T k (ls.foldl (uc W) s)
 |[],s,_,S=>S
 |i::ls,s,hl,S=>by
  refine SI.Bz hk ls (fun j hj=>hl j (bJ _ hj)) ?_;unfold uc;split
  .rename_i h;exact S.take hk (hl i bG) h (.inl rfl)
  .exact S
theorem SI.IH(hk:k<d):∀ (ls:List Nat) {s:Gf×List Nat},(∀i∈ls,i∈here/\l i=k)->KI c ls s->SI d here W l T k s->SI d here W l T k (ls.foldl (ff c) s)
 |[],s,_,_,S=>S
 |i::ls,s,hl,K,S=>by
  refine SI.IH hk ls (fun j hj=>hl j (bJ _ hj)) K.step.1 ?_;obtain⟨hi,li⟩:=hl i bG;unfold ff;split
  .rename_i h;split
   .rename_i hc;exact S.take hk hi hc (.inr li)
   .rename_i hc;obtain⟨y,ey⟩:=K.head h hc;have hy:s.2.headD 0=y:=by rw[ey];rfl
    rw[hy];exact S.take hk hi (by rw[ey];exact bG) (.inr li)
  .exact S
theorem JT.step(A:HA d here W c p l T)(dj:∀y q q',q<d->q'<d->y∈T q->y∈T q'->q=q')(hk:k<d)(J:JT d here W l T (k+1) g):JT d here W l T k (lr here W c l (T k) k g):=by
 have S0:SI d here W l T k (g,T k):=⟨(A.tn k hk).1,fun y hy=>hy,fun i hi y e m=>by
  obtain⟨q,h1,h2,h3,_⟩:=J.ty i hi y e;have:=dj y q k h2 hk h3 m;lia,fun i hi y e=>by
  obtain⟨q,h1,h2,h3⟩:=J.ty i hi y e;exact⟨q,by lia,h2,h3⟩,J.inj⟩
 have own:∀i∈bo here l k,i∈here/\l i=k:=fun i hi=>⟨(a_.mp hi).1,c_ (a_.mp hi).2⟩
 have S1:=SI.Bz hk (bo here l k) (fun i hi=>(own i hi).1) S0;have K:=A.own hk (g:=g);rw[d9 W (bo here l k) (T k) g (A.tn k hk).1] at S1;have S2:=SI.IH hk (bo here l k) own K S1;rw[<-d9 W (bo here l k) (T k) g (A.tn k hk).1] at S2;exact(SI.Bz hk (ln here l k) (fun i hi=>(a_.mp hi).1) S2).jt
theorem JT.all(A:HA d here W c p l T)(dj:∀y q q',q<d->q'<d->y∈T q->y∈T q'->q=q')(hg:∀i∈here,g i=none):∀m,m<=d->JT d here W l T (d-m) (uE here W c l T d m g)
 |0,_=>⟨fun i hi y h=>absurd ((hg i hi).symm.trans h) (fun z=>nomatch z),fun i hi j hj y h=>absurd ((hg i hi).symm.trans h) (fun z=>nomatch z)⟩
 |m+1,hm=>by
  have ih:=JT.all A dj hg m (by lia);rw[show d-m=(d-1-m)+1 by lia] at ih;have:=ih.step A dj (k:=d-1-m) (by lia);rw[show d-(m+1)=d-1-m by lia];exact this
end
theorem ud:∀ {ns:List Nat} {q a b:Nat},Et ns q a b->(∀k,k≠q->(bQ ns b).getD k 0=(bQ ns a).getD k 0)/\(bQ ns b).getD q 0=(bQ ns a).getD q 0+1
 |n::ns,0,a,b,⟨h,e⟩=>by
  subst e;obtain⟨s1,s2⟩:=jN h;refine⟨fun k hk=>?_,?_⟩
  .cases k with
   |zero=>exact absurd rfl hk
   |succ k=>show (bQ ns ((a+1) / n)).getD k 0=(bQ ns (a / n)).getD k 0;rw[s1]
  .exact s2
 |n::ns,q+1,a,b,⟨e,h⟩=>by
  obtain⟨i1,i2⟩:=ud h;refine⟨fun k hk=>?_,i2⟩;cases k with
  |zero=>exact e.symm
  |succ k=>exact i1 k fun z=>hk (by rw[z])
theorem PU{ns:List Nat}{a b q:Nat}(t:y7 ns a b q):(∀k,k≠q->(bQ ns b).getD k 0=(bQ ns a).getD k 0)/\((Et ns q a b/\(bQ ns b).getD q 0=(bQ ns a).getD q 0+1)\/(Et ns q b a/\(bQ ns a).getD q 0=(bQ ns b).getD q 0+1)):=by
 rcases t with t|t
 .exact⟨(ud t).1,.inl ⟨t,(ud t).2⟩⟩
 .exact⟨fun k hk=>((ud t).1 k hk).symm,.inr ⟨t,(ud t).2⟩⟩
theorem UB{ns:List Nat}{a g p k:Nat}(h:jb ns a g=some p)(hk:k<p):(bQ ns a).getD k 0=(bQ ns g).getD k 0:=by
 have hp:=(f9 h).1;refine oM fun z=>?_;have h0:∀n:Nat,∀f:Nat->Bool,(List.range n).find? f=some p->f k=true->False:=fun n=>by
  intro f e hf;obtain⟨_,as,bs,e2,no⟩:=List.find?_eq_some_iff_append.mp e;have l1:as.length=p:=by
   have:=congrArg (fun l=>l[as.length]?) e2;simp only[re (aW _),rT,List.getElem?_cons_zero] at this;have hl:as.length<(List.range n).length:=by rw[e2,dY,cu];lia
   rw[cU hl,zK] at this;exact a8 this
  have:k∈as:=by
   have hl:k<(List.range n).length:=by rw[e2,dY];lia
   have e3:(List.range n)[k]=k:=zK _;have e4:(List.range n)[k]?=as[k]?:=by rw[e2,nI (by lia)]
   rw[cU hl,e3] at e4;exact cZ e4.symm
  have:=no k this;rw[hf] at this;cases this
 exact h0 _ _ h (aT z)
theorem UC{ns:List Nat}{h g y q p p':Nat}(t:y7 ns h y q)(e:jb ns h g=some p)(hq:q<=p)(e':jb ns y g=some p'):q<=p':=by
 rcases gQ p' q with c|c
 .obtain⟨t1,_⟩:=PU t;have a:=(f9 e').2;rw[t1 p' (by lia)] at a;exact absurd (UB e (by lia)) a
 .exact c
def NW(here:List Nat)(W l:Nat->Nat)(g:Gf):Prop:=∀i∈here,∀y,g i=some y->y≠W i->∀j∈here,l j=l i->W j≠y
section
variable {d k:Nat} {here:List Nat} {W c p l:Nat->Nat} {T:Nat->List Nat} {s:Gf×List Nat} {g:Gf}
theorem NW.put(N:NW here W l g){i y:Nat}(h:y≠W i->∀j∈here,l j=l i->W j≠y):NW here W l (sg g i y):=fun a ha z e=>by
 by_cases c:a=i
 .subst c;rw[gb] at e;obtain rfl:=a8 e;exact h
 .rw[l6 c] at e;exact N a ha z e
theorem NW.Bz:∀ (ls:List Nat) {s:Gf×List Nat},NW here W l s.1->NW here W l (ls.foldl (uc W) s).1
 |[],s,N=>N
 |i::ls,s,N=>by
  refine NW.Bz ls ?_;unfold uc;split
  .exact N.put fun z=>absurd rfl z
  .exact N
theorem NW.IH:∀ (ls:List Nat) {s:Gf×List Nat},(∀i∈ls,l i=k)->KI c ls s->(∀y∈s.2,∀j∈here,l j=k->W j≠y)->NW here W l s.1->NW here W l (ls.foldl (ff c) s).1
 |[],s,_,_,_,N=>N
 |i::ls,s,hl,K,hf,N=>by
  have hi:=hl i bG;have nx:=NW.IH ls (s:=ff c s i) (fun j hj=>hl j (bJ _ hj)) K.step.1;refine nx (fun y hy=>?_) ?_
  .refine hf y ?_;unfold ff at hy;split at hy
   .split at hy <;> exact vG hy
   .exact hy
  .unfold ff;split
   .rename_i h;split
    .rename_i hc;exact N.put fun _ j hj e=>hf _ hc j hj (e.trans hi)
    .rename_i hc;obtain⟨y,ey⟩:=K.head h hc;have hy:s.2.headD 0=y:=by rw[ey];rfl
     rw[hy];exact N.put fun _ j hj e=>hf _ (by rw[ey];exact bG) j hj (e.trans hi)
   .exact N
theorem NW.way(A:HA d here W c p l T)(hk:k<d)(N:NW here W l g):NW here W l (lr here W c l (T k) k g):=by
 have K:=A.own hk (g:=g);have S1:=NW.Bz (bo here l k) (s:=(g,T k)) N;rw[d9 W (bo here l k) (T k) g (A.tn k hk).1] at S1;have S2:=NW.IH (bo here l k) (k:=k) (fun i hi=>c_ (a_.mp hi).2) K (fun y hy j hj e=>c_ (a_.mp hy).2 j (a_.mpr ⟨hj,aT e⟩)) S1;rw[<-d9 W (bo here l k) (T k) g (A.tn k hk).1] at S2;exact NW.Bz (ln here l k) S2
theorem NW.all(A:HA d here W c p l T)(hg:∀i∈here,g i=none):∀m,m<=d->NW here W l (uE here W c l T d m g)
 |0,_=>fun i hi y e=>absurd ((hg i hi).symm.trans e) (fun z=>nomatch z)
 |m+1,hm=>(NW.all A hg m (by lia)).way A (by lia)
theorem II(A:HA d here W c p l T)(hk:k<d){j:Nat}(hj:j∈here)(hg:g j≠none)(hp:p j≠k):lr here W c l (T k) k g j=g j:=by
 have nw:∀ {F:List Nat} {ls:List Nat} {G:Gf},(∀y∈F,y∈T k)->FT W ls F G j=G j:=fun {F ls G} hF=>by
  unfold FT;exact ap fun z=>hp ((A.hw j hj k hk).mp (hF _ z.1))
 unfold lr;rw[d9 W _ _ _ (A.tn k hk).1];have fn:((bo here l k).foldl (ff c) (FT W (bo here l k) (T k) g,FR W (bo here l k) (T k))).2.Nodup:=xi _ _ ((A.tn k hk).1.filter _);rw[show (bo here l k).foldl (ff c) (FT W (bo here l k) (T k) g,FR W (bo here l k) (T k))=(((bo here l k).foldl (ff c) (FT W (bo here l k) (T k) g,FR W (bo here l k) (T k))).1,((bo here l k).foldl (ff c) (FT W (bo here l k) (T k) g,FR W (bo here l k) (T k))).2) from rfl,d9 W (ln here l k) _ _ fn];show FT W (ln here l k) _ _ j=g j;rw[nw fun y hy=>(a_.mp (q9 _ _ _ hy)).1,hV _ _ _ (by show FT W _ _ g j≠none;rw[nw fun y hy=>hy];exact hg)];exact nw fun y hy=>hy
theorem yQ:∀ (ls:List Nat) {s:Gf×List Nat} {y:Nat},KI c ls s->y∈s.2->y∉(ls.foldl (ff c) s).2->∃j∈ls,(ls.foldl (ff c) s).1 j=some y
 |[],s,y,_,h,n=>absurd h n
 |i::ls,s,y,K,h,n=>by
  by_cases hy:y∈(ff c s i).2
  .obtain⟨j,hj,e⟩:=yQ ls K.step.1 hy n;exact⟨j,bJ _ hj,e⟩
  .have er:∀ {z:Nat} {F:List Nat},y∈F->y∉F.erase z->y=z:=fun {z F} a b=>oM fun ne=>b ((oN ne).mpr a);have e:(ff c s i).1 i=some y:=by
    unfold ff at hy |-;split
    .rename_i h0;rw[ai h0] at hy;split
     .rename_i hc;rw[ai hc] at hy;show sg s.1 i (c i) i=some y;rw[gb,er h hy]
     .rename_i hc;rw[ap hc] at hy;show sg s.1 i (s.2.headD 0) i=some y;rw[gb,er h hy]
    .rename_i h0;rw[ap h0] at hy;exact absurd h hy
   exact⟨i,bG,by rw[ic,hV _ _ _ (by rw[e];exact fun z=>nomatch z)];exact e⟩
theorem LG(A:HA d here W c p l T)(hk:k<d){i:Nat}(hi:i∈here)(hp:p i=k):∃j∈here,lr here W c l (T k) k g j=some (W i):=by
 have hw:=(A.hw i hi k hk).mpr hp;have K:=A.own hk (g:=g);have fn:((bo here l k).foldl (ff c) (FT W (bo here l k) (T k) g,FR W (bo here l k) (T k))).2.Nodup:=xi _ _ ((A.tn k hk).1.filter _);have e:lr here W c l (T k) k g=FT W (ln here l k) ((bo here l k).foldl (ff c) (FT W (bo here l k) (T k) g,FR W (bo here l k) (T k))).2 ((bo here l k).foldl (ff c) (FT W (bo here l k) (T k) g,FR W (bo here l k) (T k))).1:=by
  unfold lr;rw[d9 W _ _ _ (A.tn k hk).1,d9 W (ln here l k) _ _ fn]
 have sub:=q9 (c:=c) (bo here l k) (FT W (bo here l k) (T k) g,FR W (bo here l k) (T k));have Zd:=yQ (bo here l k) K (y:=W i);have keep:=hV (c:=c) (bo here l k) (FT W (bo here l k) (T k) g,FR W (bo here l k) (T k));rw[e];generalize (bo here l k).foldl (ff c) (FT W (bo here l k) (T k) g,FR W (bo here l k) (T k))=s2 at *;have lL:∀j∈bo here l k,FT W (ln here l k) s2.2 s2.1 j=s2.1 j:=fun j hj=>by
  unfold FT;refine ap fun z=>?_;have a:=c_ (a_.mp (oK z.2)).2;have b:=c_ (a_.mp hj).2;lia
 cases ec:(bo here l k).find? fun j=>decide (W j=W i) with
 |some j=>
  have wj:W j=W i:=by simpa using oW ec
  have hj:=oK ec;have g1:FT W (bo here l k) (T k) g j=some (W i):=by
   unfold FT;rw[ai ⟨by rw[wj];exact hw,by rw[wj];exact ec⟩,wj]
  exact⟨j,(a_.mp hj).1,by rw[lL j hj,keep j (by show FT W _ _ g j≠none;rw[g1];exact fun z=>nomatch z)];exact g1⟩
 |none=>
  have no:∀j∈bo here l k,W j≠W i:=fun j hj=>by simpa using mj.mp ec j hj
  by_cases c2:W i∈s2.2
  .have il:i∈ln here l k:=a_.mpr ⟨hi,aT (by
    have:=(A.le i hi).1;have:l i≠k:=fun z=>no i (a_.mpr ⟨hi,aT z⟩) rfl;lia)⟩
   cases ed:(ln here l k).find? fun j=>decide (W j=W i) with
   |none=>exact absurd (aT (rfl:W i=W i)) (mj.mp ed i il)
   |some j=>
    have wj:W j=W i:=by simpa using oW ed
    refine⟨j,(a_.mp (oK ed)).1,?_⟩;unfold FT;rw[ai ⟨by rw[wj];exact c2,by rw[wj];exact ed⟩,wj]
  .obtain⟨j,hj,ej⟩:=Zd (a_.mpr ⟨hw,aT no⟩) c2;exact⟨j,(a_.mp hj).1,by rw[lL j hj];exact ej⟩
theorem Dd(A:HA d here W c p l T)(hg:∀i∈here,g i=none){i:Nat}(hi:i∈here):∀m,m<=d->d-m<=p i->∃j∈here,uE here W c l T d m g j=some (W i)
 |0,_,h=>absurd h (by have:=(A.le i hi).2;lia)
 |m+1,hm,h=>by
  by_cases c1:p i=d-1-m
  .exact LG A (by lia) hi c1
  .obtain⟨j,hj,e⟩:=Dd A hg hi m (by lia) (by lia);have J:=JI.all A hg m (by lia);have lo:=J.lo j hj (by rw[e];exact fun z=>nomatch z);exact⟨j,hj,(II A (by lia) hj (by rw[e];exact fun z=>nomatch z) (by lia)).trans e⟩
end
end jJ
namespace tu
open PySem L2 jJ
section
variable {P:Program} {w:World} {K:PySem.W.Frag} {mg:Str->Option Value} {base:Heap}
def IJ(K:PySem.W.Frag)(C CB:Addr):Sp:=fun vs H Q _=>∃ (L:Addr->Prop) (b ha sa xa:Addr) (ns homes:List Nat) (st:List (Option Nat)) (xs:List V),vs=[.ref b,.ref ha,.ref sa,.ref xa]/\eF C CB H L b ns/\H ha=some (.tup (NV homes))/\H sa=some (.tup (st.map oV))/\H xa=some (.tup xs)/\Sn ns homes st/\(∀x∈xs,∃o,Be K H x o)/\ur ns homes st xs/\∀ (H':Hp),aA H H'->Q .bR H'
theorem PV{f C CB:Addr}{fd:FuncData}(F:eM K "check_berthed" "check_berthed" YO f fd)(IB:cq P w K mg base a7 9 "is_berthed" ["box","homes","stand","came"] (Pn K C CB)):bn P w K mg base a7 10 f fd ["box","homes","stand","came"] (IJ K C CB):=by
 refine F.ok YT (fun vs H Q E h=>?_) (fun dz A outer s H vs Q E hr h=>?_)
 .obtain⟨L,b,ha,sa,xa,ns,homes,st,xs,rfl,_⟩:=h;rfl
 .obtain⟨L,b,ha,sa,xa,ns,homes,st,xs,rfl,BA,nF,g8,xc,SN,hW,bt,k⟩:=h;refine⟨_,aj (bE (dw (cR (az IB hr aE (aa (pv 0) (aa (pv 1) (aa (pv 2) (aa (pv 3) af))))))) df aL),?_⟩;refine⟨_,rfl,_,rfl,_,rfl,_,rfl,L,b,ha,sa,xa,ns,homes,st,xs,rfl,BA,nF,g8,xc,SN,hW,fun H1 bb s1 hb=>⟨_,rfl,?_⟩⟩;obtain rfl:bb=true:=hb.mpr bt;exact dE rfl (k H1 s1)
end
def l7(st:List (Option Nat))(h:Nat):List Nat:=(List.range st.length).filter fun i=>decide (st.getD i none=some h)
def ju(ns homes:List Nat)(h i:Nat):Nat:=(y8 ns h (homes.getD i 0)).getD 0
def oz(cs:List (Option Nat))(i:Nat):Nat:=(cs.getD i none).getD 0
def vp(ns homes:List Nat)(h i:Nat):Nat:=(jb ns h (homes.getD i 0)).getD 0
def lu(ns:List Nat)(cs:List (Option Nat))(h i:Nat):Nat:=(jb ns h (oz cs i)).getD 0
def LI(ns:List Nat)(h k:Nat):List Nat:=(dS (pr ns) (jq ns) h).filter fun y=>decide (jb ns h y=some k)
theorem dD{st:List (Option Nat)}{h i:Nat}:i∈l7 st h↔st.getD i none=some h:=by
 unfold l7;rw[a_,cY,fD];refine⟨fun z=>z.2,fun z=>⟨?_,z⟩⟩;rcases gQ i st.length with c|c
 .exact c
 .rw[cr,gN c] at z;cases z
theorem iB{st:List (Option Nat)}{h i:Nat}(hi:i∈l7 st h):i<st.length:=cY.mp (a_.mp hi).1
theorem ue{ns:List Nat}{h y k:Nat}(BX:Bx ns)(FI:fR (pr ns) (jq ns))(hh:h<pr ns)(hk:k<ns.length):y∈LI ns h k↔y7 ns h y k:=by
 unfold LI;rw[a_,fD,eR FI hh];constructor
 .rintro⟨h1,h2⟩;have hy:y<pr ns:=rW.mp (FI.rg _ h1).2.2;obtain⟨k',t⟩:=(lH BX.pos hh hy).mp h1;have:=e8 t;rw[h2] at this;rw[a8 this];exact t
 .intro t;exact⟨(lH BX.pos hh (Bj BX FI hh hk t)).mpr ⟨k,t⟩,e8 t⟩
theorem PX{ns:List Nat}{h k:Nat}(BX:Bx ns)(hk:k<ns.length):(y_ ns h k).Nodup:=by
 have pp:0<pr (ns.take k):=HW fun x hx=>BX.pos x (mf hx);unfold y_ w4;rw[ap (by decide),ai rfl];by_cases c1:1<=(bQ ns h).getD k 0
 .rw[ai c1];by_cases c2:(bQ ns h).getD k 0+1<ns.getD k 0
  .rw[ai c2];refine cX.mpr ⟨fun z=>?_,cX.mpr ⟨fun z=>(nomatch z),gj⟩⟩;have:=dL.mp z;lia
  .rw[ap c2];exact cX.mpr ⟨fun z=>(nomatch z),gj⟩
 .rw[ap c1];by_cases c2:(bQ ns h).getD k 0+1<ns.getD k 0
  .rw[ai c2];exact cX.mpr ⟨fun z=>(nomatch z),gj⟩
  .rw[ap c2];exact gj
theorem IK{ns:List Nat}{h k:Nat}(BX:Bx ns)(FI:fR (pr ns) (jq ns))(hh:h<pr ns)(hk:k<ns.length):(y_ ns h k).Perm (LI ns h k):=
 (ze (PX BX hk) ((m6 hh).filter _)).mpr fun y=>(w6 BX.pos hk).trans (ue BX FI hh hk).symm
structure Lt(ns homes:List Nat)(cs:List (Option Nat))(h i:Nat):Prop where
 hh:h<pr ns
 hg:homes.getD i 0<pr ns
 ph:jb ns h (homes.getD i 0)=some (vp ns homes h i)
 ws:y8 ns h (homes.getD i 0)=some (ju ns homes h i)
 wt:y7 ns h (ju ns homes h i) (vp ns homes h i)
 cm:cs.getD i none=some (oz cs i)
 ct:y7 ns h (oz cs i) (lu ns cs h i)
 le:lu ns cs h i<=vp ns homes h i
 pl:vp ns homes h i<ns.length
theorem UD{ns:List Nat}{a b k:Nat}(BX:Bx ns)(h:jb ns a b=some k):∃y,y8 ns a b=some y/\y7 ns a y k:=by
 have hk:=(f9 h).1;have e:=M9 BX.pos h;have e2:y8 ns a b=some (if (bQ ns a).getD k 0<(bQ ns b).getD k 0 then a+pr (ns.take k) else a-pr (ns.take k)):=by unfold y8;rw[h];rfl
 refine⟨_,e2,(w6 BX.pos hk).mp ?_⟩;rw[e] at e2;unfold y_;rw[dP];cases c:decide ((bQ ns a).getD k 0<(bQ ns b).getD k 0) with
 |true=>rw[c] at e2;right;rw[e2];exact dL.mpr rfl
 |false=>rw[c] at e2;left;rw[e2];exact dL.mpr rfl
theorem jY{ns homes:List Nat}{st cs:List (Option Nat)}{h i:Nat}(BX:Bx ns)(SN:Sn ns homes st)(BT:ur ns homes st (cs.map oV))(e:st.getD i none=some h):Lt ns homes cs h i:=by
 obtain⟨hh,hg,ne⟩:=SN.ok i h e;obtain⟨p,hp⟩:=yC hh hg ne;have hi:i<st.length:=iB (dD.mpr e);obtain⟨y,ey,⟨k,p',Gi,t,kp⟩,_⟩:=(BT.2 i hi).2 h e;obtain rfl:p=p':=a8 (hp.symm.trans Gi);rw[oy] at ey;have ey:=Bk ey;have ec:oz cs i=y:=by unfold oz;rw[ey];rfl
 have el:lu ns cs h i=k:=by unfold lu;rw[ec,e8 t];rfl
 have ep:vp ns homes h i=p:=by unfold vp;rw[hp];rfl
 obtain⟨w,ew,wt⟩:=UD BX hp;have eW:ju ns homes h i=w:=by unfold ju;rw[ew];rfl
 exact⟨hh,hg,by rw[ep];exact hp,by rw[eW];exact ew,by rw[eW,ep];exact wt,by rw[ec];exact ey,by rw[ec,el];exact t,by rw[el,ep];exact kp,by rw[ep];exact(f9 hp).1⟩
theorem De{ns homes:List Nat}{st cs:List (Option Nat)}{h:Nat}(BX:Bx ns)(FI:fR (pr ns) (jq ns))(SN:Sn ns homes st)(BT:ur ns homes st (cs.map oV))(hh:h<pr ns):HA ns.length (l7 st h) (ju ns homes h) (oz cs) (vp ns homes h) (lu ns cs h) (LI ns h):=by
 have L:∀i∈l7 st h,Lt ns homes cs h i:=fun i hi=>jY BX SN BT (dD.mp hi);refine⟨mv.filter _,fun i hi k hk=>?_,fun i hi k hk=>?_,fun i hi=>⟨(L i hi).le,(L i hi).pl⟩,?_,fun k hk=>⟨(m6 hh).filter _,?_⟩⟩
 .rw[ue BX FI hh hk];exact⟨fun t=>a8 ((e8 (L i hi).wt).symm.trans (e8 t)),fun e=>e ▸ (L i hi).wt⟩
 .rw[ue BX FI hh hk];exact⟨fun t=>a8 ((e8 (L i hi).ct).symm.trans (e8 t)),fun e=>e ▸ (L i hi).ct⟩
 .have key:∀i∈l7 st h,∀j∈l7 st h,j<i->oz cs i=oz cs j->False:=fun i hi j hj lt e=>by
   obtain⟨y,ey,_,no⟩:=(BT.2 i (iB hi)).2 h (dD.mp hi);refine no j lt (dD.mp hj) ?_;rw[oy,(L j hj).cm,<-e,<-ey,oy,(L i hi).cm]
  intro i hi j hj e;rcases Nat.lt_trichotomy i j with z|z|z
  .exact(key j hj i hi z e.symm).elim
  .exact z
  .exact(key i hi j hj z e).elim
 .rw[<-(IK BX FI hh hk).length_eq];exact xf
def ge(ns homes:List Nat)(st cs:List (Option Nat))(i:Nat):Option Nat:=
 match st.getD i none with
 |none=>none
 |some h=>uE (l7 st h) (ju ns homes h) (oz cs) (lu ns cs h) (LI ns h) ns.length ns.length (fun _=>none) i
abbrev Ze:Stmt:=fA 24
abbrev Zf:Stmt:=fA 25
def yR(xs:List Addr)(H H':Hp):Prop:=∀b o,H b=some o->b∉xs->H' b=some o
theorem yR.refl{xs:List Addr}{H:Hp}:yR xs H H:=fun b o e _=>e
theorem yR.trans{xs:List Addr}{H H' H'':Hp}(a:yR xs H H')(b:yR xs H' H''):yR xs H H'':=fun c o e n=>b c o (a c o e n) n
theorem yR.upd{xs:List Addr}{H H':Hp}{a:Addr}{o:HO}(k:yR xs H H')(h:a∈xs):yR xs H (upd H' a o):=fun c u e n=>by rw[al (fun (z:c=a)=>n (z ▸ h))];exact k c u e n
def fu(n:Nat)(G:Gf):List V:=(List.range n).map fun i=>oV (G i)
theorem fv{n:Nat}{G:Gf}:(fu n G).length=n:=by unfold fu;rw[aP,dO]
theorem fw{n i:Nat}{G:Gf}(h:i<n):(fu n G)[i]?=some (oV (G i)):=by
 unfold fu;rw[bL,oQ h];rfl
theorem uf{n i y:Nat}{G:Gf}:(fu n G).set i (.int (y:Int))=fu n (sg G i y):=by
 apply mn;intro j;rw[List.getElem?_set];rcases gQ j n with z|z
 .rw[fw z];by_cases e:i=j
  .subst e;rw[ai rfl,ai (by rw[fv];exact z),fw z,gb];rfl
  .rw[ap e,fw z,l6 (cj e)]
 .have n1:(fu n (sg G i y))[j]?=none:=gN (by rw[fv];exact z);have n2:(fu n G)[j]?=none:=gN (by rw[fv];exact z);rw[n1,n2];split
  .rw[ap (by rw[fv];lia)]
  .rfl
theorem PY{y:Nat}{T:List Nat}:B_ (.int (y:Int)) (NV T)=decide (y∈T):=by
 rw[im,w_ xb,fD,a9];exact⟨fun ⟨z,hz,e⟩=>by injection e with e;rw[<-cN e];exact hz,fun h=>⟨y,h,rfl⟩⟩
theorem ug{T:List Nat}:NV T=(T.map fun (n:Nat)=>(n:Int)).map V.int:=by rw[fh];rfl
theorem uh{T:List Nat}{y:Nat}:((T.map fun (n:Nat)=>(n:Int)).eraseIdx ((T.map fun (n:Nat)=>(n:Int)).idxOf (y:Int))).map V.int=NV (T.erase y):=by
 rw[<-List.erase_eq_eraseIdx_of_idxOf (l:=T.map fun (n:Nat)=>(n:Int)) (a:=(y:Int)) rfl,ug];congr 1;induction T with
 |nil=>rfl
 |cons t T ih=>
  rw[fg,List.erase_cons,List.erase_cons];by_cases e:t=y
  .subst e;simp
  .rw[ap (by rw[eA];exact fun z=>e (cN z)),ap (by rw[eA];exact e),fg,ih]
theorem jv{α:Type}{l:List α}{i:Nat}{x:α}(h:l[i]?=some x):l.take (i+1)=l.take i++[x]:=by
 rw[List.take_succ,h];rfl
section
variable {P:Program} {w:World} {K:PySem.W.Frag} {mg:Str->Option Value} {base:Heap}
theorem UE:aD ["wishes","letters","free","goes","letter"] ["wishes","letters","free","goes"] (am Ze):=⟨rfl,rfl,rfl,by decide +kernel,rfl,by decide +kernel,by decide +kernel⟩
def PZ:Sp:=fun vs H Q _=>∃ (wa la fa ga:Addr) (kvs:List (fL×V)) (W:Nat->Nat) (ls T:List Nat) (n:Nat) (G:Gf),vs=[.ref wa,.ref la,.ref fa,.ref ga]/\H wa=some (.dK kvs)/\(∀i∈ls,kQ kvs (.inl (i:Int))=some (.int (W i:Nat)))/\H la=some (.lst (NV ls))/\H fa=some (.lst (NV T))/\H ga=some (.lst (fu n G))/\la≠fa/\la≠ga/\fa≠ga/\(∀i∈ls,i<n)/\
 ∀ (H':Hp),yR [fa,ga] H H'->H' fa=some (.lst (NV (ls.foldl (uc W) (G,T)).2))->H' ga=some (.lst (fu n (ls.foldl (uc W) (G,T)).1))->Q .bR H'
theorem UF{f:Addr}{fd:FuncData}(F:eM K "take_wished" "take_wished" Ze f fd)(B:Bl mg):bn P w K mg base a7 1 f fd ["wishes","letters","free","goes"] PZ:=by
 refine F.ok UE (fun vs H Q E h=>?_) (fun dz A outer s H vs Q E hr h=>?_)
 .obtain⟨wa,la,fa,ga,kvs,W,ls,T,n,G,rfl,_⟩:=h;rfl
 .obtain⟨wa,la,fa,ga,kvs,W,ls,T,n,G,rfl,hw,hW,hl,hf,hg,n1,n2,n3,hn,q⟩:=h;have E7:=hr.u (n:=1);refine⟨_,(aj (cI dQ rfl (cS (pv 1)) (au (i:=4) UE.nd rfl (Or.inl rfl))
    (aj (bE (aK hU (lD E7 (pv 0) (pv 4) (fun _ _=>rfl)) (pv 2) rfl) (ag (i6 (lD E7 (pv 0) (pv 4) (fun _ _=>rfl)) (pi (pv 3) (pv 4) iq))
     (aj (bX (ji jd Fn Fm u4 (pv 2) (aa (lD E7 (pv 0) (pv 4) (fun _ _=>rfl)) af))))) aL)))),?_⟩
  have nwf:wa≠fa:=dI hw hf (fun z=>nomatch z);have nwg:wa≠ga:=dI hw hg (fun z=>nomatch z);refine⟨_,rfl,la,rfl,⟨_,br.of hl⟩,jf (K:=K) (a:=la) (xs:=NV ls) (fun i σ H1=>(∃u,σ=[some (.ref wa),some (.ref la),some (.ref fa),some (.ref ga),u])/\yR [fa,ga] H H1/\H1 fa=some (.lst (NV ((ls.take i).foldl (uc W) (G,T)).2))/\H1 ga=some (.lst (fu n ((ls.take i).foldl (uc W) (G,T)).1))) ⟨⟨_,rfl⟩,.refl,hf,hg⟩ (fun i σ H1 _ z=>br.of (z.2.1 _ _ hl (by simp[n1,n2]))) ?_ ?_⟩
  .rintro i x σ H1 hx ⟨⟨u,rfl⟩,k1,f1,g1⟩;have jw:(NV ls)[i]?=some x:=hx;rw[bL] at jw;cases BB:ls[i]? with
   |none=>rw[BB] at jw;cases jw
   |some j=>
   rw[BB] at jw;obtain rfl:V.int (j:Int)=x:=a8 jw;have hj:j∈ls:=cZ BB;have Zg:H1 wa=some (.dK kvs):=k1 _ _ hw (by simp[nwf,nwg]);have gd:∀ {H2:Hp},H2 wa=some (.dK kvs)->ya H2 wa (.int (j:Int)) (some (.int (W j:Nat))):=fun {H2} e=>by rw[<-hW j hj];exact ya.k (k:=.inl (j:Int)) e
   have Zh:(ls.take (i+1)).foldl (uc W) (G,T)=uc W ((ls.take i).foldl (uc W) (G,T)) j:=by rw[jv BB,vM];rfl
   rw[Zh];generalize (ls.take i).foldl (uc W) (G,T)=s1 at *;refine⟨_,rfl,_,rfl,wa,_,rfl,gd Zg,_,rfl,fa,_,rfl,.inl (br.of f1),rfl,lI,?_⟩;rw[ap bq,PY];unfold uc;refine⟨_,rfl,iE (fun c=>?_) (fun c=>?_)⟩
   .have c:W j∈s1.2:=c_ c;rw[ai c];refine⟨_,rfl,_,rfl,wa,_,rfl,gd Zg,_,rfl,_,rfl,ga,_,_,j,rfl,rfl,g1,iN (by rw[fv];exact hn j hj),?_⟩;rw[uf];have f2:(upd H1 ga (.lst (fu n (sg s1.1 j (W j))))) fa=some (.lst (NV s1.2)):=by rw[al n3];exact f1
    refine⟨_,rfl,.inl ⟨rfl,_,br.of f2⟩,_,rfl,_,rfl,wa,_,rfl,gd (by rw[al nwg];exact Zg),fa,s1.2.map fun (n:Nat)=>(n:Int),_,rfl,rfl,by rw[f2,ug],a9.mpr ⟨_,c,rfl⟩,?_⟩;rw[uh];exact⟨⟨_,rfl⟩,(k1.upd (by simp)).upd (by simp),ah,by rw[al (cj n3),ah]⟩
   .have c:¬ W j∈s1.2:=fun z=>c (aT z);rw[ap c];exact⟨⟨_,rfl⟩,k1,f1,g1⟩
  .rintro σ H1 ⟨_,k1,f1,g1⟩;rw[bi,gf] at f1 g1;exact q H1 k1 f1 g1
theorem UG:aD ["came","letters","free","goes","letter"] ["came","letters","free","goes"] (am Zf):=⟨rfl,rfl,rfl,by decide +kernel,rfl,by decide +kernel,by decide +kernel⟩
def P0:Sp:=fun vs H Q _=>∃ (ca la fa ga:Addr) (cs:List (Option Nat)) (ls T:List Nat) (n:Nat) (G:Gf),vs=[.ref ca,.ref la,.ref fa,.ref ga]/\H ca=some (.tup (cs.map oV))/\(∀i∈ls,cs.getD i none=some (oz cs i))/\H la=some (.lst (NV ls))/\H fa=some (.lst (NV T))/\H ga=some (.lst (fu n G))/\la≠fa/\la≠ga/\fa≠ga/\(∀i∈ls,i<n/\i<cs.length)/\KI (oz cs) ls (G,T)/\
 ∀ (H':Hp),yR [fa,ga] H H'->H' fa=some (.lst (NV (ls.foldl (ff (oz cs)) (G,T)).2))->H' ga=some (.lst (fu n (ls.foldl (ff (oz cs)) (G,T)).1))->Q .bR H'
theorem Df{c:Nat->Nat}:∀ (i:Nat) (ls:List Nat) (s:Gf×List Nat),KI c ls s->KI c (ls.drop i) ((ls.take i).foldl (ff c) s)
 |0,ls,s,k=>k
 |i+1,[],s,k=>k
 |i+1,x::ls,s,k=>Df i ls _ k.step.1
theorem UH{f:Addr}{fd:FuncData}(F:eM K "keep_to_lane" "keep_to_lane" Zf f fd)(B:Bl mg):bn P w K mg base a7 1 f fd ["came","letters","free","goes"] P0:=by
 refine F.ok UG (fun vs H Q E h=>?_) (fun dz A outer s H vs Q E hr h=>?_)
 .obtain⟨ca,la,fa,ga,cs,ls,T,n,G,rfl,_⟩:=h;rfl
 .obtain⟨ca,la,fa,ga,cs,ls,T,n,G,rfl,hc,hC,hl,hf,hg,n1,n2,n3,hn,KK,q⟩:=h;have E7:=hr.u (n:=1);refine⟨_,(aj (cI dQ rfl (cS (pv 1)) (au (i:=4) UG.nd rfl (Or.inl rfl))
    (aj (bE (aK i7 (aR bC (pv 3) (pv 4) (fun _ _=>rfl)) cn (aQ _)) (ag (i6 (ip (aK hU (aR bh (pv 0) (pv 4) (fun _ _=>rfl)) (pv 2) rfl) (aR bh (pv 0) (pv 4) (fun _ _=>rfl)) (aR bC (pv 2) aB (fun _ _=>rfl))) (pi (pv 3) (pv 4) iq))
     (aj (bX (ji jd Fn Fm u4 (pv 2) (aa (aR bC (pv 3) (pv 4) (fun _ _=>rfl)) af))))) aL)))),?_⟩
  have ncf:ca≠fa:=dI hc hf (fun z=>nomatch z);have ncg:ca≠ga:=dI hc hg (fun z=>nomatch z);refine⟨_,rfl,la,rfl,⟨_,br.of hl⟩,jf (K:=K) (a:=la) (xs:=NV ls) (fun i σ H1=>(∃u,σ=[some (.ref ca),some (.ref la),some (.ref fa),some (.ref ga),u])/\yR [fa,ga] H H1/\H1 fa=some (.lst (NV ((ls.take i).foldl (ff (oz cs)) (G,T)).2))/\H1 ga=some (.lst (fu n ((ls.take i).foldl (ff (oz cs)) (G,T)).1))) ⟨⟨_,rfl⟩,.refl,hf,hg⟩ (fun i σ H1 _ z=>br.of (z.2.1 _ _ hl (by simp[n1,n2]))) ?_ ?_⟩
  .rintro i x σ H1 hx ⟨⟨u,rfl⟩,k1,f1,g1⟩;have jw:(NV ls)[i]?=some x:=hx;rw[bL] at jw;cases BB:ls[i]? with
   |none=>rw[BB] at jw;cases jw
   |some j=>
   rw[BB] at jw;obtain rfl:V.int (j:Int)=x:=a8 jw;have hj:j∈ls:=cZ BB;have hc1:H1 ca=some (.tup (cs.map oV)):=k1 _ _ hc (by simp[ncf,ncg]);have gc:(cs.map oV)[j]?=some (.int (oz cs j:Nat)):=by rw[gW (hn j hj).2,hC j hj];rfl
   have Zh:(ls.take (i+1)).foldl (ff (oz cs)) (G,T)=ff (oz cs) ((ls.take i).foldl (ff (oz cs)) (G,T)) j:=by rw[jv BB,vM];rfl
   rw[Zh];have K1:=Df i ls (G,T) KK;have edr:ls.drop i=j::ls.drop (i+1):=by
    obtain⟨dt,e⟩:=dk.mp BB;rw[rh dt,e]
   rw[edr] at K1;generalize (ls.take i).foldl (ff (oz cs)) (G,T)=s1 at *;refine⟨_,rfl,_,rfl,ga,_,_,_,rfl,rfl,br.of g1,aw (fw (hn j hj).1),?_⟩;unfold ff;cases eg:s1.1 j with
   |some y=>
    refine⟨rfl,_,rfl,dE rfl ?_⟩;rw[ap (fun z=>nomatch z)];exact⟨⟨_,rfl⟩,k1,f1,g1⟩
   |none=>
    refine⟨rfl,_,rfl,gJ ?_⟩;rw[ai rfl];refine⟨_,rfl,_,rfl,ca,_,_,_,rfl,rfl,bp.of hc1,aw gc,_,rfl,fa,_,rfl,.inl (br.of f1),rfl,lI,?_⟩;rw[ap bq,PY];have bZ:∀y:Nat,y∈s1.2->∀H2:Hp,H2=upd H1 ga (.lst (fu n (sg s1.1 j y)))->H2 fa=some (.lst (NV s1.2))/\H2 ga=some (.lst (fu n (sg s1.1 j y))):=fun y _ H2 e=>by
     subst e;exact⟨by rw[al n3];exact f1,ah⟩
    refine⟨_,rfl,iE (fun c=>?_) (fun c=>?_)⟩
    .have c:oz cs j∈s1.2:=c_ c;rw[ai c];refine⟨_,rfl,_,rfl,ca,_,_,_,rfl,rfl,bp.of hc1,aw gc,_,rfl,_,rfl,ga,_,_,j,rfl,rfl,g1,iN (by rw[fv];exact(hn j hj).1),?_⟩;rw[uf];obtain⟨f2,g2⟩:=bZ _ c _ rfl;refine⟨_,rfl,.inl ⟨rfl,_,br.of f2⟩,_,rfl,_,rfl,ga,_,_,_,rfl,rfl,br.of g2,aw (by rw[fw (hn j hj).1,gb];rfl),fa,s1.2.map fun (n:Nat)=>(n:Int),_,rfl,rfl,by rw[f2,ug],a9.mpr ⟨_,c,rfl⟩,?_⟩;rw[uh];exact⟨⟨_,rfl⟩,(k1.upd (by simp)).upd (by simp),ah,by rw[al (cj n3),ah]⟩
    .have c:¬ oz cs j∈s1.2:=fun z=>c (aT z);rw[ap c];obtain⟨y,ey⟩:=K1.head eg c;have hy:s1.2.headD 0=y:=by rw[ey];rfl
     have my:y∈s1.2:=by rw[ey];exact bG
     rw[hy];refine⟨_,rfl,fa,_,0,_,rfl,rfl,br.of f1,by rw[ey];exact aw (j:=0) rfl,_,rfl,_,rfl,ga,_,_,j,rfl,rfl,g1,iN (by rw[fv];exact(hn j hj).1),?_⟩;rw[uf];obtain⟨f2,g2⟩:=bZ _ my _ rfl;refine⟨_,rfl,.inl ⟨rfl,_,br.of f2⟩,_,rfl,_,rfl,ga,_,_,_,rfl,rfl,br.of g2,aw (by rw[fw (hn j hj).1,gb];rfl),fa,s1.2.map fun (n:Nat)=>(n:Int),_,rfl,rfl,by rw[f2,ug],a9.mpr ⟨_,my,rfl⟩,?_⟩;rw[uh];exact⟨⟨_,rfl⟩,(k1.upd (by simp)).upd (by simp),ah,by rw[al (cj n3),ah]⟩
  .rintro σ H1 ⟨_,k1,f1,g1⟩;rw[bi,gf] at f1 g1;exact q H1 k1 f1 g1
end
abbrev Zi:Stmt:=eU (fA 50) 2
abbrev Zj:Stmt:=fA 15
abbrev Zk:Stmt:=fA 23
theorem Nd:(["letter","house"]:List Str).Nodup:=by decide +kernel
theorem P1:(["letter","stand","house"]:List Str).Nodup:=by decide +kernel
theorem LJ:(["letter","box","house","homes"]:List Str).Nodup:=by decide +kernel
theorem P3:(["other","box","house"]:List Str).Nodup:=by decide +kernel
theorem Dg:(["letter","ways","came","way"]:List Str).Nodup:=by decide +kernel
theorem P6:(["other","ways","way"]:List Str).Nodup:=by decide +kernel
theorem IL{pn sr:Addr}:(C0 pn sr).lookup ("sides":Str)=none:=nj (by decide +kernel) (by decide +kernel)
theorem xn{pn sr:Addr}:(C0 pn sr).lookup ("wish":Str)=none:=nj (by decide +kernel) (by decide +kernel)
def Nf:R2:=fun x y H Q=>y=.bR/\Q (.bl (!decide (x=.bR))) H
theorem P7{st:List (Option Nat)}{i:Nat}{x:V}(h:(st.map oV)[i]?=some x):i<st.length/\x=oV (st.getD i none):=by
 have hi:=(dk.mp h).1;rw[aP] at hi;refine⟨hi,?_⟩;rw[gW hi] at h;exact(a8 h).symm
theorem LL{o:Option Nat}:(!decide (oV o=.bR))=o.isSome:=by cases o <;> simp[oV]
def yS(st:List (Option Nat))(i:Nat):List Nat:=(List.range i).filter fun j=>(st.getD j none).isSome
theorem yT{st:List (Option Nat)}{i:Nat}:yS st (i+1)=yS st i++if (st.getD i none).isSome then [i] else []:=by
 unfold yS;rw[iV,jR,eZ];rfl
theorem q_{st:List (Option Nat)}{i:Nat}:(yS st i).length<=i:=by
 have:=je (fun j=>(st.getD j none).isSome) (List.range i);rwa [dO] at this
theorem LM{kvs:List (fL×V)}{f:Nat->V}{ms:List Nat}{m:Nat}(e:kvs=ms.map fun (n:Nat)=>((.inl (n:Int):fL),f n))(h:m∉ms):pM kvs (.inl (m:Int)) (f m)=(ms++[m]).map fun (n:Nat)=>((.inl (n:Int):fL),f n):=by
 rw[GC _ ?_,e,d_]
 .rfl
 .cases q:kQ kvs (.inl (m:Int)) with
  |none=>rfl
  |some v=>
   have:=Ko q;rw[e,fh] at this;obtain⟨n,hn,en⟩:=a9.mp this;have en:(Sum.inl (n:Int):fL)=Sum.inl (m:Int):=en;injection en with en;exact absurd (cN en ▸ hn) h
theorem ra{f:Nat->V}{m:Nat}:∀ {ms:List Nat},m∈ms->kQ (ms.map fun (n:Nat)=>((.inl (n:Int):fL),f n)) (.inl (m:Int))=some (f m)
 |n::ms,h=>by
  by_cases e:n=m
  .subst e;exact oh rfl
  .rw[fg,oj (fun z=>e (by injection z with z;exact cN z))];exact ra ((ba.mp h).resolve_left (cj e))
theorem yU{K:PySem.W.Frag}{a D:Addr}{g:TG}{tk tv:TE}{fin:Hp->Prop}{σB:St}{H0:Hp}(ms:List Nat)(f:Nat->V)(cP:St->Prop)(ha:H0 a=some (.lst (NV ms)))(hD:H0 D=none)(nd:ms.Nodup)(hn:ms.length<=1000)(h0:cP σB)(hs:∀m σ H (Kt:V->V->St->Hp->Prop),m∈ms->cP σ->aA H0 H->(∀σ2 H2,cP σ2->aA H H2->Kt (.int (m:Int)) (f m) σ2 H2)->g (.int (m:Int)) σ H fun σ2 H2=>tk σ2 H2 fun y H4=>tv σ2 H4 fun v H5=>Kt y v σ2 H5)(hd:∀H,aA H0 H->H D=some (.dK (ms.map fun (n:Nat)=>((.inl (n:Int):fL),f n)))->fin H):yF (Fw K a) g F6 tk tv D fin σB (upd H0 D (.dK [])):=by
 refine Bw (xs:=NV ms) (fun i kvs σ H=>cP σ/\aA H0 H/\H D=some (.dK kvs)/\kvs=(ms.take i).map fun (n:Nat)=>((.inl (n:Int):fL),f n)) ⟨h0,ao hD,ah,rfl⟩ (fun i ys σ H _ z=>br.of (z.2.1 _ _ ha)) ?_ ?_
 .rintro i x kvs σ H Kt Kf hx ⟨sh,sm,lY,rfl⟩ kt kf;have jw:(ms.map fun (n:Nat)=>V.int (n:Int))[i]?=some x:=hx;rw[bL] at jw;obtain⟨m,hm,rfl⟩:=vC.mp jw;have tk:ms.take (i+1)=ms.take i++[m]:=jv hm;have Zl:m∉ms.take i:=fun z=>by
   obtain⟨dt,e⟩:=dk.mp hm;have n2:(ms.take (i+1)).Nodup:=nd.sublist (List.take_sublist _ _);rw[tk] at n2;exact(rF.mp n2).2.2 m z m (dL.mpr rfl) rfl
  have:=hs m σ H Kt (cZ hm) sh sm fun σ2 H2 wQ s2=>by
   refine kt (.inl (m:Int)) _ _ _ (s2 _ _ lY) ?_ ⟨wQ,cy (sm.trans s2) hD,ah,?_⟩
   .rw[aP];exact fE (zu _ _) (fE hn (by decide))
   .rw[tk];exact LM rfl Zl
  exact this
 .rintro kvs σ H ⟨_,sm,lY,rfl⟩;rw[bi,gf] at lY;exact hd H sm lY
section
variable {P:Program} {w:World} {K:PySem.W.Frag} {mg:Str->Option Value} {base:Heap}
theorem Zm:aD ["self"] ["self"] (am Zi):=⟨rfl,rfl,rfl,by decide +kernel,rfl,by decide +kernel,by decide +kernel⟩
def P8(C CB:Addr):Sp:=fun vs H Q _=>∃ (L:Addr->Prop) (b:Addr) (ns:List Nat),vs=[.ref b]/\eF C CB H L b ns/\∀sr:Addr,H sr=some (.tup (NV ns))->Q (.ref sr) H
theorem UI{f C CB:Addr}{fd:FuncData}(F:eM K "sides" "Box.sides" Zi f fd)(TB:CZ K mg CB):bn P w K mg base a7 1 f fd ["self"] (P8 C CB):=by
 refine F.ok Zm (fun vs H Q E h=>?_) (fun dz A outer s H vs Q E hr h=>?_)
 .obtain⟨L,b,ns,rfl,_⟩:=h;rfl
 .obtain⟨L,b,ns,rfl,⟨BX,dx,pn,sr,hb,N,gZ⟩,q⟩:=h;refine⟨_,aj (aG (gI (pv 0) rfl)),?_⟩;exact⟨_,rfl,b,CB,dx,_,_,rfl,hb,TB.cl,TB.nS,C1,q sr gZ⟩
theorem Zn:aD ["stand"] ["stand"] (am Zj):=⟨rfl,rfl,rfl,by decide +kernel,rfl,by decide +kernel,by decide +kernel⟩
def P9:Sp:=fun vs H Q _=>∃ (sa:Addr) (st:List (Option Nat)),vs=[.ref sa]/\H sa=some (.tup (st.map oV))/\st.length<=16/\∀ (r:Addr) (H':Hp),aA H H'->H r=none->H' r=some (.lst (NV (yS st st.length)))->Q (.ref r) H'
theorem UJ{f:Addr}{fd:FuncData}(F:eM K "under_way" "under_way" Zj f fd)(hE:mg "enumerate"=none):bn P w K mg base a7 1 f fd ["stand"] P9:=by
 refine F.ok Zn (fun vs H Q E h=>?_) (fun dz A outer s H vs Q E hr h=>?_)
 .obtain⟨sa,st,rfl,_⟩:=h;rfl
 .obtain⟨sa,st,rfl,hS,hl,q⟩:=h;refine'⟨_,(aj (aG ?c1)),?_⟩;case c1=>
   refine' dN (g:=(wq K 2 (gn (bV 0) (gn (bV 1) wm)))) (tt:=(iK (lM Nf (be 1) (tC .bR)))) (te:=(be 0)) (NB:=["letter","house"]) (src:=[none,none]) (cp (by kernel_rfl)) rfl (GJ rfl hE (aa (pv 0) af)) ?g ?t ?e;case g=>exact fun cl C s₃ H₃ fp=>(fj (n:=2) rfl (aV (au (i:=0) Nd rfl (Or.inl rfl) (Or.inr rfl)) (aV (au (i:=1) Nd rfl (Or.inl rfl) (Or.inr rfl)) d7)))
   case t=>exact fun cl C s₃ H₃ fp=>d8 (aK wu (pv 1) cn (aQ _))
   case e=>exact fun cl C s₃ H₃ fp=>(pv 0)
  refine⟨_,rfl,sa,_,rfl,bp.of hS,fun D hD=>?_⟩;refine AR (K:=K) (a:=sa) (xs:=st.map oV) (fun i ys σ H3=>(∃u v,σ=[u,v])/\ys=NV (yS st i)/\aA H H3/\H3 D=some (.lst ys)) ⟨⟨_,_,rfl⟩,rfl,ao hD,ah⟩ (fun i ys σ H3 _ z=>bp.of (z.2.2.1 _ _ hS)) ?_ ?_
  .rintro i x t ys σ H3 Kt Kf hx ⟨⟨u,v,rfl⟩,rfl,sm,qz⟩ ht kt kf;obtain⟨hi,rfl⟩:=P7 hx;have bg:=ao (o:=.tup [.int (i:Int),oV (st.getD i none)]) ht;refine⟨_,_,rfl,bp.of ah,rfl,_,_,rfl,_,_,rfl,rfl,?_⟩;refine⟨_,rfl,rfl,_,rfl,?_⟩;rw[LL];refine iE (fun e=>?_) (fun e=>?_)
   .refine⟨_,rfl,kt _ _ _ (bg _ _ qz) (by rw[bi];exact fE q_ (bK (show i<17 by lia) (by decide))) ⟨⟨_,_,rfl⟩,?_,cy (sm.trans bg) hD,ah⟩⟩;rw[yT,ai e,iP]
   .refine kf _ _ ⟨⟨_,_,rfl⟩,?_,sm.trans bg,bg _ _ qz⟩;rw[yT,ap e,rM]
  .rintro ys σ H3 ⟨_,rfl,sm,qz⟩;rw[aP] at qz;exact q D H3 sm hD qz
end
theorem LN{d D:Addr}{o:Obj}{g:TG}{tt:TT}{te:TE}{fin:Hp->Prop}{σB:St}{H0:Hp}(ms:List Nat)(f:Nat->V)(c:Nat->Bool)(cP:St->Prop)(ha:H0 d=some (.mK o (.dK (ms.map fun (n:Nat)=>((.inl (n:Int):fL),f n)))))(hD:H0 D=none)(hn:ms.length<=1000)(h0:cP σB)(hs:∀m σ H (Kt:V->St->Hp->Prop) (Kf:St->Hp->Prop),m∈ms->cP σ->aA H0 H->(∀σ2 H2,cP σ2->aA H H2->c m=true->Kt (.int (m:Int)) σ2 H2)->(∀σ2 H2,cP σ2->aA H H2->c m=false->Kf σ2 H2)->
   g (.int (m:Int)) σ H fun σ2 H2=>tt σ2 H2 fun b H3=>if b=true then te σ2 H3 fun v H4=>Kt v σ2 H4 else Kf σ2 H3)(hd:∀H,aA H0 H->H D=some (.lst (NV (ms.filter c)))->fin H):gR (Wa d o (ms.map fun (n:Nat)=>((.inl (n:Int):fL),f n))) g tt te D fin σB (upd H0 D (.lst [])):=by
 refine EK (kvs:=ms.map fun (n:Nat)=>((.inl (n:Int):fL),f n)) (fun i ys σ H=>cP σ/\aA H0 H/\H D=some (.lst ys)/\ys=NV ((ms.take i).filter c)) ⟨h0,ao hD,ah,rfl⟩ (fun i ys σ H _ z=>z.2.1 _ _ ha) ?_ ?_
 .rintro i k v ys σ H Kt Kf hx ⟨sh,sm,lY,rfl⟩ kt kf;rw[bL] at hx;obtain⟨y,hy,e⟩:=vC.mp hx;obtain⟨rfl,rfl⟩:=Prod.mk.inj e;have tk:ms.take (i+1)=ms.take i++[y]:=jv hy;refine hs y σ H Kt Kf (cZ hy) sh sm (fun σ2 H2 wQ s2 e=>?_) (fun σ2 H2 wQ s2 e=>?_)
  .refine kt _ _ _ (s2 _ _ lY) ?_ ⟨wQ,cy (sm.trans s2) hD,ah,?_⟩
   .rw[bi];exact fE (bj (je _ _) (zu _ _)) (fE hn (by decide))
   .rw[tk,jR,eZ,e,ai rfl];exact iP (xs:=(ms.take i).filter c)
  .refine kf _ _ ⟨wQ,sm.trans s2,s2 _ _ lY,?_⟩;rw[tk,jR,eZ,e];simp
 .rintro ys σ H ⟨_,sm,lY,rfl⟩;rw[aP,gf] at lY;exact hd H sm lY
section
variable {P:Program} {w:World} {K:PySem.W.Frag} {mg:Str->Option Value} {base:Heap}
theorem yV:aD ["box","homes","stand","came","house","goes","letters","wishes","ways","way","same_lane","lesser_lane","free"] ["box","homes","stand","came","house","goes"] (am Zk):=⟨rfl,rfl,rfl,by decide +kernel,rfl,by decide +kernel,by decide +kernel⟩
abbrev nA(ns homes:List Nat)(st cs:List (Option Nat))(h m:Nat)(G:Gf):Gf:=uE (l7 st h) (ju ns homes h) (oz cs) (lu ns cs h) (LI ns h) ns.length m G
def P_(C CB:Addr):Sp:=fun vs H Q _=>∃ (L:Addr->Prop) (b ha sa xa ga:Addr) (ns homes:List Nat) (st cs:List (Option Nat)) (h:Nat) (G:Gf),vs=[.ref b,.ref ha,.ref sa,.ref xa,.int h,.ref ga]/\eF C CB H L b ns/\H ha=some (.tup (NV homes))/\H sa=some (.tup (st.map oV))/\H xa=some (.tup (cs.map oV))/\Sn ns homes st/\ur ns homes st (cs.map oV)/\h<pr ns/\H ga=some (.lst (fu st.length G))/\
 ∀H',yR [ga] H H'->H' ga=some (.lst (fu st.length (nA ns homes st cs h ns.length G)))->Q .bR H'
set_option maxHeartbeats 8000000 in
theorem UK{f C CB CE CT:Addr}{fd:FuncData}(F:eM K "hand_from" "hand_from" Zk f fd)(B:Bl mg)(hRv:mg "reversed"=none)(TB:CZ K mg CB)(MT:fc P w K mg base a7 6 CB "tied" ["self","house"] (Ls C CB))(MY:fc P w K mg base (iw P w) 7 CB "way" ["self","one","other"] (yB K C CB CT))(MI:fc P w K mg base (iw P w) 7 CB "wish" ["self","house","home"] (vi K C CB CE))(MS:fc P w K mg base a7 1 CB "sides" ["self"] (P8 C CB))(TW:cq P w K mg base a7 1 "take_wished" ["wishes","letters","free","goes"] PZ)(KL:cq P w K mg base a7 1 "keep_to_lane" ["came","letters","free","goes"] P0):
  bn P w K mg base a7 8 f fd ["box","homes","stand","came","house","goes"] (P_ C CB):=by
 obtain⟨fT,fdT,mT,bT,GT⟩:=MT.ex;obtain⟨fY,fdY,mY,bY,GY⟩:=MY.ex;obtain⟨fI,Tv,mI,bI,GI⟩:=MI.ex;obtain⟨fS,fdS,mS,bS,GS⟩:=MS.ex;refine F.ok yV (fun vs H Q E h=>?_) (fun dz A outer s H vs Q E hr h=>?_)
 .obtain⟨L,b,ha,sa,xa,ga,ns,homes,st,cs,h,G,rfl,_⟩:=h;rfl
 .obtain⟨L,b,ha,sa,xa,ga,ns,homes,st,cs,h,G,rfl,BA,nF,g8,xc,SN,BT,hh,hga,q⟩:=h;have h1:bA 1 _:=hr.mono (by decide);have h6:bA 6 _:=hr.mono (by decide);have h7:bA 7 _:=hr.mono (by decide);have E7:=hr.u (n:=1);have BX:=BA.bx;obtain⟨dx,pn,sr,hb,N,gZ⟩:=id BA.ob;have FI:=N.oo;have vm:=SN.vm;have l5:=BX.l5;have cl:cs.length=st.length:=by have:=BT.1;rwa [aP] at this
  have Zo:=De BX FI SN BT hh;have LT:∀i∈l7 st h,Lt ns homes cs h i:=fun i hi=>jY BX SN BT (dD.mp hi);refine'⟨_,(ag (dA (i:=6) (g:=(bV 0)) (tt:=(iK (lM NL (lM (sB K) (be 1) (be 0)) (be 2)))) (te:=(be 0)) (NB:=["letter","stand","house"]) (src:=[none,some 2,some 4]) (cp (by kernel_rfl)) rfl (bu rfl B.range (aa (aJ aF (by rfl) B.len dH (aa (pv 2) af)) af)) ?g1 ?t1 ?e1 yV.nd rfl rfl rfl)
   (ag (yG (i:=7) (g:=(bV 0)) (tt:=F6) (tk:=(be 0)) (tv:=(B0 CB "wish" (vi K C CB CE) [] E0 (be 1) (dR (be 2) (dR (lM (sB K) (be 3) (be 0)) mW)))) (NB:=["letter","box","house","homes"]) (src:=[none,some 0,some 4,some 1]) (cp (by kernel_rfl)) rfl (cS (pv 6)) ?g2 ?t2 ?k2 ?v2 yV.nd rfl rfl rfl)
   (ag (aN (i:=8) yV.nd rfl (Or.inr rfl) ?c3)
   (aj (cI dQ rfl (Lx rfl hRv (aa (bW qd (by rfl) B.range PyProof.Rows.boot_range (aa (aJ aF (by rfl) B.len dH (aa (su (pv 0) TB.cl mS GS h1 bS .nil aE) af)) af)) af)) (au (i:=9) yV.nd rfl (Or.inr rfl))
    (ag (dA (i:=10) (g:=(bV 0)) (tt:=(iK (lM NL (Cp (be 1) (lM (sB K) (be 2) (be 0))) (be 3)))) (te:=(be 0)) (NB:=["letter","ways","came","way"]) (src:=[none,some 8,some 3,some 9]) (cp (by kernel_rfl)) rfl (cS (pv 6)) ?g4 ?t4 ?e4 yV.nd rfl rfl rfl)
    (ag (dA (i:=11) (g:=(bV 0)) (tt:=(iK (lM (Jt fun i j=>.bl (decide (i<j))) (Cp (be 1) (lM (sB K) (be 2) (be 0))) (be 3)))) (te:=(be 0)) (NB:=["letter","ways","came","way"]) (src:=[none,some 8,some 3,some 9]) (cp (by kernel_rfl)) rfl (cS (pv 6)) ?g5 ?t5 ?e5 yV.nd rfl rfl rfl)
    (ag (dA (i:=12) (g:=(bV 0)) (tt:=(iK (lM NL (Cp (be 1) (be 0)) (be 2)))) (te:=(be 0)) (NB:=["other","ways","way"]) (src:=[none,some 8,some 9]) (cp (by kernel_rfl)) rfl (IF (pv 8)) ?g6 ?t6 ?e6 yV.nd rfl rfl rfl)
    (ag (bX (az TW h1 aE (aa (pv 7) (aa (pv 10) (aa (pv 12) (aa (pv 5) af))))))
    (ag (bX (az KL h1 aE (aa (pv 3) (aa (pv 10) (aa (pv 12) (aa (pv 5) af))))))
    (aj (bX (az TW h1 aE (aa (pv 7) (aa (pv 11) (aa (pv 12) (aa (pv 5) af))))))))))))))))),?_⟩
  case c3=>
   refine' Iw (g:=(bV 0)) (tt:=F6) (tk:=(be 0)) (tv:=(B0 CB "way" (yB K C CB CT) [] E0 (be 1) (dR (be 2) (dR (be 0) mW)))) (NB:=["other","box","house"]) (src:=[none,some 0,some 4]) (cp (by kernel_rfl)) rfl (cS (cL (pv 0) TB.cl mT GT h6 bT .nil aE (aa (pv 4) af))) ?g ?t ?k ?v;case g=>exact fun cl C s₃ H₃ fp=>(au (i:=0) P3 rfl (Or.inl rfl) (Or.inr rfl))
   case t=>exact fun cl C s₃ H₃ fp=>eG
   case k=>exact fun cl C s₃ H₃ fp=>(pv 0)
   case v=>exact fun cl C' s₃ H₃ fp=>(cL (pv 1) TB.cl mY GY h7 bY .nil jj (aa (pv 2) (aa (pv 0) af)))
  case g1=>exact fun cl C s₃ H₃ fp=>(au (i:=0) P1 rfl (Or.inl rfl) (Or.inr rfl))
  case t1=>exact fun cl C s₃ H₃ fp=>d8 (aK gv (aR bh (pv 1) (pv 0) (fun _ _=>rfl)) (pv 2) (aQ _))
  case e1=>exact fun cl C s₃ H₃ fp=>(pv 0)
  case g2=>exact fun cl C s₃ H₃ fp=>(au (i:=0) LJ rfl (Or.inl rfl) (Or.inr rfl))
  case t2=>exact fun cl C s₃ H₃ fp=>eG
  case k2=>exact fun cl C s₃ H₃ fp=>(pv 0)
  case v2=>exact fun cl C' s₃ H₃ fp=>(cL (pv 1) TB.cl mI GI h7 bI .nil jj (aa (pv 2) (aa (aR bh (pv 3) (pv 0) (fun _ _=>rfl)) af)))
  case g4=>exact fun cl C s₃ H₃ fp=>(au (i:=0) Dg rfl (Or.inl rfl) (Or.inr rfl))
  case t4=>exact fun cl C s₃ H₃ fp=>d8 (aK gv (lD E7 (pv 1) (aR bh (pv 2) (pv 0) (fun _ _=>rfl)) (fun _ _=>rfl)) (pv 3) (aQ _))
  case e4=>exact fun cl C s₃ H₃ fp=>(pv 0)
  case g5=>exact fun cl C s₃ H₃ fp=>(au (i:=0) Dg rfl (Or.inl rfl) (Or.inr rfl))
  case t5=>exact fun cl C s₃ H₃ fp=>d8 (aK si (lD E7 (pv 1) (aR bh (pv 2) (pv 0) (fun _ _=>rfl)) (fun _ _=>rfl)) (pv 3) (aQ _))
  case e5=>exact fun cl C s₃ H₃ fp=>(pv 0)
  case g6=>exact fun cl C s₃ H₃ fp=>(au (i:=0) P6 rfl (Or.inl rfl) (Or.inr rfl))
  case t6=>exact fun cl C s₃ H₃ fp=>d8 (aK gv (lD E7 (pv 1) (pv 0) (fun _ _=>rfl)) (pv 2) (aQ _))
  case e6=>exact fun cl C s₃ H₃ fp=>(pv 0)
  have Gh:∀ {H1:Hp},aA H H1->bp K H1 sa (st.map oV):=fun s=>bp.of (s _ _ g8);refine⟨_,rfl,sa,_,rfl,.inr (bp.of g8),_,rfl,by rw[aP];lia,by rw[aP];lia,fun D1 IM=>?_⟩;rw[aP];refine q0 (lo:=0) (n:=st.length) (fun j=>decide (st.getD j none=some h)) (fun σ=>∃u,σ=[u,some (.ref sa),some (.int (h:Int))]) IM (by lia) ⟨_,rfl⟩ ?_ ?_
  .rintro j σ H5 Kt Kf hj ⟨u,rfl⟩ s5 kt kf;rw[eK] at kt |-;refine⟨_,rfl,_,rfl,sa,_,_,_,rfl,rfl,Gh s5,aw (gW hj),_,rfl,jP,_,rfl,?_⟩;rw[ow];exact iE (fun c=>⟨_,rfl,kt _ _ ⟨_,rfl⟩ (aA.refl _) c⟩) (fun c=>kf _ _ ⟨_,rfl⟩ (aA.refl _) (j8.mpr c))
  intro H1 s1 IN;rw[show (((List.range st.length).filter fun j=>decide (st.getD j none=some h)).map fun (x:Nat)=>V.int (0+(x:Int)))=NV (l7 st h) from lT fun x _=>by rw[eK]] at IN;have Na:(l7 st h).length<=16:=bj (je _ _) (by rw[dO];exact vm);have hen:(l7 st h).Nodup:=mv.filter _;refine⟨_,rfl,D1,rfl,⟨_,br.of IN⟩,fun D2 pV=>?_⟩;refine yU (K:=K) (l7 st h) (fun i=>.int (ju ns homes h i:Nat)) (fun σ=>∃u,σ=[u,some (.ref b),some (.int (h:Int)),some (.ref ha)]) IN pV hen (by lia) ⟨_,rfl⟩ ?_ ?_
  .rintro j σ H5 Kt hj ⟨u,rfl⟩ s5 kt;have Dh:=s1.trans s5;have Lj:=LT j hj;refine⟨_,rfl,_,rfl,b,dx,_,rfl,Dh _ _ hb,xn,_,rfl,_,rfl,_,rfl,ha,_,_,_,rfl,rfl,bp.of (Dh _ _ nF),aw (l4 (by rw[SN.l];exact iB hj)),L,b,ns,_,_,some (h:Int),some (homes.getD j 0:Nat),rfl,BA.same Dh,eI,eI,(fun z=>by rw[cg hh,cg Lj.hg] at z;rcases z with z|z <;> cases z),fun h' g' _ _ e1 e2 H6 s6=>?_⟩;obtain rfl:h=h':=cN (a8 e1);obtain rfl:homes.getD j 0=g':=cN (a8 e2);rw[Lj.ws];exact kt _ _ ⟨_,rfl⟩ s6
  intro H2 s2 Qa;have j4:=s1.trans s2;have Ng:=s2 _ _ IN;refine⟨_,rfl,b,dx,_,rfl,j4 _ _ hb,C5,_,rfl,L,b,ns,h,rfl,BA.same j4,hh,fun r H3 s3 Zp=>⟨r,rfl,⟨_,br.of Zp⟩,fun D3 qz=>?_⟩⟩;have pW:=j4.trans s3;refine yU (K:=K) (dS (pr ns) (jq ns) h) (fun y=>oV (jb ns h y)) (fun σ=>∃u,σ=[u,some (.ref b),some (.int (h:Int))]) Zp qz (m6 hh) (by have h0:(dS (pr ns) (jq ns) h).length<=pr ns:=bj (je _ _) (by rw[aP,dO];exact aW _);have:=BX.Rn;lia) ⟨_,rfl⟩ ?_ ?_
  .rintro y σ H5 Kt hy ⟨u,rfl⟩ s5 kt;have Dh:=pW.trans s5;have ht:((h:Int),(y:Int))∈jq ns:=(eR FI hh).mp hy;have Pk:y<pr ns:=rW.mp (FI.rg _ ht).2.2;have Pl:=(Io BX hh Pk).mpr ((lH BX.pos hh Pk).mp ht);refine⟨_,rfl,_,rfl,b,dx,_,rfl,Dh _ _ hb,Im,_,rfl,_,rfl,L,b,ns,_,_,some (h:Int),some (y:Int),rfl,BA.same Dh,eI,eI,(fun z=>by rw[Pl] at z;cases z),fun h' y' _ _ e1 e2 _ H6 s6=>?_⟩;obtain rfl:h=h':=cN (a8 e1);obtain rfl:y=y':=cN (a8 e2);exact kt _ _ ⟨_,rfl⟩ s6
  intro H4 s4 El;have Pu:=s3.trans s4;have IP:=j4.trans Pu;refine⟨_,rfl,b,dx,_,rfl,IP _ _ hb,IL,L,b,ns,rfl,BA.same IP,fun sr gZ=>⟨sr,_,rfl,.inr (bp.of gZ),_,rfl,fun rp hrp=>⟨rp,ns.length,rfl,by rw[ah,bi],by lia,?_⟩⟩⟩;have Rt:=ao (o:=.BL 0 ((NV ns).length:Nat)) hrp;have Dh:=IP.trans Rt;generalize Zq:upd H4 rp (.BL 0 ((NV ns).length:Nat))=H5 at Rt Dh |-;clear Zq;have d1:=Rt _ _ (Pu _ _ Ng);have d2:=Rt _ _ (Pu _ _ Qa);have d3:=Rt _ _ El;have g5:=Dh _ _ hga;have n3g:D3≠ga:=dI d3 g5 (fun z=>nomatch z);have n1g:D1≠ga:=fun z=>by rw[z,hga] at IM;cases IM
  have Zr:D2≠D3:=fun z=>by rw[<-z,s3 _ _ Qa] at qz;cases qz
  have XV:D1≠D3:=dI d1 d3 (fun z=>nomatch z);have Zt:D2≠ga:=dI d2 g5 (fun z=>nomatch z);have ngg:∀ {a:Addr} {ys:List V},H5 a=some (.tup ys)->a≠ga/\a≠D3:=fun e=>⟨dI e g5 (fun z=>nomatch z),dI e d3 (fun z=>nomatch z)⟩
  have x5:=Dh _ _ xc;obtain⟨nxg,Zu⟩:=ngg x5;have n3:H D3=none:=by
   cases e:H D3 with
   |none=>rfl
   |some u=>rw[pW _ _ e] at qz;cases qz
  clear IM pV qz hrp Gh s1 s2 s3 s4 j4 pW IP Pu Rt IN Ng Qa El Zp gZ;have rd0:Rd H5 D3 (.dK ((dS (pr ns) (jq ns) h).map fun (n:Nat)=>((.inl (n:Int):fL),oV (jb ns h n)))):=.inl d3;refine IE (hi:=(ns.length:Int)-1) (n:=ns.length) (fun i σ H6=>(∃u9 Zv Zw Zx,σ=[some (.ref b),some (.ref ha),some (.ref sa),some (.ref xa),some (.int (h:Int)),some (.ref ga),some (.ref D1),some (.ref D2),some (.ref D3),u9,Zv,Zw,Zx])/\yR [D3,ga] H5 H6/\Rd H6 D3 (.dK ((dS (pr ns) (jq ns) h).map fun (n:Nat)=>((.inl (n:Int):fL),oV (jb ns h n))))/\H6 ga=some (.lst (fu st.length (nA ns homes st cs h i G)))) ⟨⟨_,_,_,_,rfl⟩,.refl,rd0,g5⟩ ?_ ?_
  .rintro i σ H6 hi ⟨⟨u9,Zv,Zw,Zx,rfl⟩,k6,Wv,g6⟩;have hk:ns.length-1-i<ns.length:=by lia
   rw[show ((ns.length:Int)-1-(i:Int))=((ns.length-1-i:Nat):Int) by lia];have UL:nA ns homes st cs h (i+1) G=lr (l7 st h) (ju ns homes h) (oz cs) (lu ns cs h) (LI ns h (ns.length-1-i)) (ns.length-1-i) (nA ns homes st cs h i G):=rfl;rw[UL];generalize nA ns homes st cs h i G=G1 at *;clear UL hi;generalize ns.length-1-i=k at *;have x6:H6 xa=some (.tup (cs.map oV)):=k6 _ _ x5 (by simp[nxg,Zu]);have e1:H6 D1=some (.lst (NV (l7 st h))):=k6 _ _ d1 (by simp[n1g,XV]);have e2:=k6 _ _ d2 (by simp[Zr,Zt]);have LK:∀j∈l7 st h,oz cs j∈dS (pr ns) (jq ns) h/\jb ns h (oz cs j)=some (lu ns cs h j):=fun j hj=>by
    have Lj:=LT j hj;have hl:lu ns cs h j<ns.length:=fE Lj.le Lj.pl;exact⟨(a_.mp ((ue BX FI hh hl).mpr Lj.ct)).1,e8 Lj.ct⟩
   have gx:∀ {H7:Hp} {j:Nat},j∈l7 st h->aA H6 H7->bp K H7 xa (cs.map oV)/\(cs.map oV)[j]?=some (.int (oz cs j:Nat))/\∀H8,(∀o,H6 D3=some o->H8 D3=some o)->ya H8 D3 (.int (oz cs j:Nat)) (some (.int (lu ns cs h j:Nat))):=fun {H7 j} hj s7=>by
    obtain⟨l1,l2⟩:=LK j hj;refine⟨bp.of (s7 _ _ x6),by rw[gW (by rw[cl];exact iB hj),(LT j hj).cm];rfl,fun H8 s8=>.inl ⟨_,.inl (oz cs j:Nat),Wv.elim (fun z=>.inl (s8 _ z)) (fun ⟨o,z⟩=>.inr ⟨o,s8 _ z⟩),rfl,?_⟩⟩;rw[ra (f:=fun n=>oV (jb ns h n)) l1,l2];rfl
   refine⟨_,rfl,D1,rfl,⟨_,br.of e1⟩,fun D4 yx=>?_⟩;refine ou (l7 st h) (fun (j:Nat)=>V.int (j:Int)) (fun j=>decide (lu ns cs h j=k)) (fun (j:Nat)=>V.int (j:Int)) (fun σ=>∃u,σ=[u,some (.ref D3),some (.ref xa),some (.int (k:Int))]) e1 yx (by lia) ⟨_,rfl⟩ ?_ ?_
   .rintro j σ H7 Kt Kf hj ⟨u,rfl⟩ s7 kt kf;obtain⟨t1,t2,t3⟩:=gx hj s7;refine⟨_,rfl,_,rfl,_,rfl,xa,_,_,_,rfl,rfl,t1,aw t2,D3,_,rfl,t3 _ (s7 _),_,rfl,rfl,_,rfl,?_⟩;rw[show decide (V.int ((lu ns cs h j:Nat):Int)=V.int (k:Int))=decide (lu ns cs h j=k) from rJ.mpr ⟨fun z=>by injection z with z;exact cN z,fun z=>by rw[z]⟩];exact iE (fun c=>⟨_,rfl,kt _ _ ⟨_,rfl⟩ (aA.refl _) c⟩) (fun c=>kf _ _ ⟨_,rfl⟩ (aA.refl _) (j8.mpr c))
   intro H7 s7 f4;have f4:H7 D4=some (.lst (NV (bo (l7 st h) (lu ns cs h) k))):=f4;refine⟨_,rfl,D1,rfl,⟨_,br.of (s7 _ _ e1)⟩,fun D5 nk=>?_⟩;refine ou (l7 st h) (fun (j:Nat)=>V.int (j:Int)) (fun j=>decide (lu ns cs h j<k)) (fun (j:Nat)=>V.int (j:Int)) (fun σ=>∃u,σ=[u,some (.ref D3),some (.ref xa),some (.int (k:Int))]) (s7 _ _ e1) nk (by lia) ⟨_,rfl⟩ ?_ ?_
   .rintro j σ H8 Kt Kf hj ⟨u,rfl⟩ s8 kt kf;have s78:=s7.trans s8;obtain⟨t1,t2,t3⟩:=gx hj s78;refine⟨_,rfl,_,rfl,_,rfl,xa,_,_,_,rfl,rfl,t1,aw t2,D3,_,rfl,t3 _ (s78 _),_,rfl,_,_,rfl,rfl,_,rfl,?_⟩;rw[show decide (((lu ns cs h j:Nat):Int)<(k:Int))=decide (lu ns cs h j<k) from rJ.mpr rW];exact iE (fun c=>⟨_,rfl,kt _ _ ⟨_,rfl⟩ (aA.refl _) c⟩) (fun c=>kf _ _ ⟨_,rfl⟩ (aA.refl _) (j8.mpr c))
   intro H8 s8 f5;have f5:H8 D5=some (.lst (NV (ln (l7 st h) (lu ns cs h) k))):=f5;have Zy:=s7.trans s8;refine⟨_,rfl,D3,_,rfl,Wv.elim (fun z=>.inl (Zy _ _ z)) (fun ⟨o,z⟩=>.inr ⟨o,Zy _ _ z⟩),fun o H9 h9 k9 D6 tI=>?_⟩;have Ru:∀ {a:Addr} {u:HO},a≠D3->H6 a=some u->H9 a=some u:=fun n e=>by rw[k9 _ n];exact Zy _ _ e
   refine LN (dS (pr ns) (jq ns) h) (fun y=>oV (jb ns h y)) (fun y=>decide (jb ns h y=some k)) (fun σ=>∃u,σ=[u,some (.ref D3),some (.int (k:Int))]) h9 tI (by have h0:(dS (pr ns) (jq ns) h).length<=pr ns:=bj (je _ _) (by rw[aP,dO];exact aW _);have:=BX.Rn;lia) ⟨_,rfl⟩ ?_ ?_
   .rintro y σ Zz Kt Kf hy ⟨u,rfl⟩ JC kt kf;refine⟨_,rfl,_,rfl,D3,_,rfl,.inl ⟨_,.inl (y:Int),.inr ⟨_,JC _ _ h9⟩,rfl,(ra (f:=fun n=>oV (jb ns h n)) hy).symm⟩,_,rfl,jP,_,rfl,?_⟩;rw[ow];exact iE (fun c=>⟨_,rfl,kt _ _ ⟨_,rfl⟩ (aA.refl _) c⟩) (fun c=>kf _ _ ⟨_,rfl⟩ (aA.refl _) (j8.mpr c))
   intro Zz JC f6;have f6:Zz D6=some (.lst (NV (LI ns h k))):=f6;obtain⟨o3,ho3⟩:∃u,H6 D3=some u:=Wv.elim (fun z=>⟨_,z⟩) fun ⟨o,z⟩=>⟨_,z⟩;have n43:D4≠D3:=fun z=>by rw[z,ho3] at yx;cases yx
   have n53:D5≠D3:=fun z=>by rw[z,s7 _ _ ho3] at nk;cases nk
   have n63:D6≠D3:=fun z=>by rw[z,h9] at tI;cases tI
   have g9:=Ru (cj n3g) g6;have ZA:D4≠ga:=fun z=>by rw[z,g6] at yx;cases yx
   have ZB:D5≠ga:=fun z=>by rw[z,s7 _ _ g6] at nk;cases nk
   have ZC:D6≠ga:=fun z=>by rw[z,g9] at tI;cases tI
   have ZD:H9 D4=some (.lst (NV (bo (l7 st h) (lu ns cs h) k))):=by rw[k9 _ n43];exact s8 _ _ f4
   have c59:H9 D5=some (.lst (NV (ln (l7 st h) (lu ns cs h) k))):=by rw[k9 _ n53];exact f5
   have ZE:D4≠D6:=fun z=>by rw[<-z,ZD] at tI;cases tI
   have ZF:D5≠D6:=fun z=>by rw[<-z,c59] at tI;cases tI
   have c2:=JC _ _ (Ru Zr e2);have n26:D2≠D6:=fun z=>by rw[<-z,Ru Zr e2] at tI;cases tI
   have nx6:xa≠D6:=fun z=>by rw[<-z,Ru Zu x6] at tI;cases tI
   have c3:=JC _ _ h9;have own:∀j∈bo (l7 st h) (lu ns cs h) k,j∈l7 st h:=fun j hj=>(a_.mp hj).1;have les:∀j∈ln (l7 st h) (lu ns cs h) k,j∈l7 st h:=fun j hj=>(a_.mp hj).1;have wv:∀j∈l7 st h,kQ ((l7 st h).map fun (n:Nat)=>((.inl (n:Int):fL),V.int ((ju ns homes h n:Nat):Int))) (.inl (j:Int))=some (.int (ju ns homes h j:Nat)):=fun j hj=>ra (f:=fun n=>V.int ((ju ns homes h n:Nat):Int)) hj;refine⟨_,rfl,_,rfl,_,rfl,_,rfl,D2,D4,D6,ga,_,ju ns homes h,_,_,st.length,G1,rfl,c2,fun j hj=>wv j (own j hj),JC _ _ ZD,f6,JC _ _ g9,ZE,ZA,ZC,fun j hj=>iB (own j hj),fun H11 UM f11 g11=>?_⟩;have KI1:=Zo.own hk (g:=G1);rw[d9 _ _ _ _ (Zo.tn k hk).1] at f11 g11;refine⟨_,rfl,_,rfl,_,rfl,_,rfl,xa,D4,D6,ga,cs,_,_,st.length,_,rfl,UM _ _ (JC _ _ (Ru Zu x6)) (by simp[nx6,nxg]),fun j hj=>(LT j (own j hj)).cm,UM _ _ (JC _ _ ZD) (by simp[ZE,ZA]),f11,g11,ZE,ZA,ZC,fun j hj=>⟨iB (own j hj),by rw[cl];exact iB (own j hj)⟩,KI1,fun H12 ZG f12 g12=>?_⟩;refine⟨_,rfl,_,rfl,_,rfl,_,rfl,D2,D5,D6,ga,_,ju ns homes h,_,_,st.length,_,rfl,ZG _ _ (UM _ _ c2 (by simp[n26,Zt])) (by simp[n26,Zt]),fun j hj=>wv j (les j hj),ZG _ _ (UM _ _ (JC _ _ c59) (by simp[ZF,ZB])) (by simp[ZF,ZB]),f12,g12,ZF,ZB,ZC,fun j hj=>iB (les j hj),fun H13 k13 f13 g13=>?_⟩;have kk:yR [D6,ga] Zz H13:=(UM.trans ZG).trans k13;refine⟨⟨_,_,_,_,rfl⟩,fun b' u e jW=>?_,.inr ⟨_,kk _ _ c3 (by simp[cj n63,n3g])⟩,?_⟩
   .have M2:b'≠D3:=fun z=>jW (by simp[z]);have Th:b'≠ga:=fun z=>jW (by simp[z]);have e9:=Ru M2 (k6 _ _ e jW);have Wl:b'≠D6:=fun z=>by rw[<-z,e9] at tI;cases tI
    exact kk _ _ (JC _ _ e9) (by simp[Th,Wl])
   .rw[g13];unfold lr;rw[d9 _ _ _ _ (Zo.tn k hk).1]
  .rintro σ H6 ⟨⟨u9,Zv,Zw,Zx,rfl⟩,k6,Wv,g6⟩;refine q H6 (fun b' o e jW=>?_) g6;have M2:b'≠D3:=fun z=>by rw[<-z,e] at n3;cases n3
   have Th:b'≠ga:=fun z=>jW (by simp[z]);exact k6 _ _ (Dh _ _ e) (by simp[M2,Th])
end
theorem rb:∀ (ns ks:List Int),ks.Nodup->(ns.foldl (fun ks i=>if i∈ks then ks else ks++[i]) ks).Nodup/\∀i,i∈ns.foldl (fun ks i=>if i∈ks then ks else ks++[i]) ks↔i∈ks\/i∈ns
 |[],ks,h=>⟨h,fun i=>⟨.inl,fun z=>z.elim id fun z=>(nomatch z)⟩⟩
 |n::ns,ks,h=>by
  rw[ic];by_cases c:n∈ks
  .rw[ai c];obtain⟨a,b⟩:=rb ns ks h;refine⟨a,fun i=>(b i).trans ⟨fun z=>z.imp id (bJ _),fun z=>z.elim .inl fun z=>(ba.mp z).elim (fun e=>.inl (e ▸ c)) .inr⟩⟩
  .rw[ap c];obtain⟨a,b⟩:=rb ns (ks++[n]) (rF.mpr ⟨h,cX.mpr ⟨fun z=>(nomatch z),gj⟩,fun a ha b hb e=>c (by rw[<-dL.mp hb,<-e];exact ha)⟩);refine⟨a,fun i=>(b i).trans ?_⟩;rw[dP,dL,ba,or_assoc]
theorem LO(ns:List Int):(iQ ns).Nodup/\∀i,i∈iQ ns↔i∈ns:=
 ⟨(rb ns [] gj).1,fun i=>((rb ns [] gj).2 i).trans ⟨fun z=>z.elim (fun z=>(nomatch z)) id,.inr⟩⟩
def BC(ns homes:List Nat)(st cs:List (Option Nat))(hs:List Nat)(G:Gf):Gf:=hs.foldl (fun G h=>nA ns homes st cs h ns.length G) G
theorem IQ{ns homes:List Nat}{st cs:List (Option Nat)}:∀ {hs:List Nat} {G:Gf} {i:Nat},hs.Nodup->(∀j,G j=none\/∀h∈hs,st.getD j none≠some h)->BC ns homes st cs hs G i=match st.getD i none with
  |none=>G i
  |some h=>if h∈hs then nA ns homes st cs h ns.length (fun _=>none) i else G i
 |[],G,i,_,_=>by cases st.getD i none <;> simp[BC]
 |h0::hs,G,i,nd,hG=>by
  obtain⟨n1,n2⟩:=cX.mp nd;have e0:BC ns homes st cs (h0::hs) G=BC ns homes st cs hs (nA ns homes st cs h0 ns.length G):=rfl;have ZH:∀j,st.getD j none≠some h0->nA ns homes st cs h0 ns.length G j=G j:=fun j hj=>Dc (fun z=>hj (dD.mp z)) _;rw[e0,IQ n2 fun j=>?_]
  .cases e:st.getD i none with
   |none=>exact ZH i (by rw[e];exact fun z=>nomatch z)
   |some h=>
    dsimp only;by_cases c:h=h0
    .subst c;rw[ap n1,ai bG];refine Db (fun j hj=>?_) _ i (dD.mpr e);rcases hG j with z|z
     .exact z
     .exact absurd (dD.mp hj) (z h bG)
    .rw[ZH i (by rw[e];exact fun z=>c (a8 z))];exact UA ⟨fun z=>bJ _ z,fun z=>(ba.mp z).resolve_left c⟩
  .by_cases c:st.getD j none=some h0
   .right;intro h hh z;rw[c] at z;exact n1 (a8 z ▸ hh)
   .rw[ZH j c];exact(hG j).imp id fun z h hh=>z h (bJ _ hh)
theorem Qb{ns homes:List Nat}{st cs:List (Option Nat)}{hs:List Nat}(nd:hs.Nodup)(hm:∀i h,st.getD i none=some h->h∈hs):BC ns homes st cs hs (fun _=>none)=ge ns homes st cs:=by
 funext i;rw[IQ nd fun j=>.inl rfl];unfold ge;cases e:st.getD i none with
 |none=>rfl
 |some h=>exact ai (hm i h e)
theorem EL{n:Nat}:fu n (fun _=>none)=List.replicate n V.bR:=by
 unfold fu;exact List.map_const' .. |>.trans (by rw[dO];rfl)
section
variable {P:Program} {w:World} {K:PySem.W.Frag} {mg:Str->Option Value} {base:Heap}
theorem LP:(["home"]:List Str).Nodup:=by decide +kernel
theorem UN:(["letter","stand"]:List Str).Nodup:=by decide +kernel
def yW(K:PySem.W.Frag)(C CB:Addr):Sp:=fun vs H Q _=>∃ (L:Addr->Prop) (b ha sa xa:Addr) (ns homes:List Nat) (st cs:List (Option Nat)),vs=[.ref b,.ref ha,.ref sa,.ref xa]/\eF C CB H L b ns/\H ha=some (.tup (NV homes))/\H sa=some (.tup (st.map oV))/\H xa=some (.tup (cs.map oV))/\Sn ns homes st/\ur ns homes st (cs.map oV)/\
 ∀ (r:Addr) (H':Hp),aA H H'->H' r=some (.tup (fu st.length (ge ns homes st cs)))->Q (.ref r) H'
theorem UO{H:Hp}{cs:List (Option Nat)}:∀x∈cs.map oV,∃o,Be K H x o:=fun x hx=>by
 obtain⟨o,_,rfl⟩:=a9.mp hx;cases o with
 |none=>exact⟨none,fun H' _=>.no ⟨_,.of .bR,.inl rfl⟩⟩
 |some y=>exact⟨_,eI⟩
set_option maxHeartbeats 8000000 in
theorem Qc{f C CB:Addr}{fd:FuncData}(F:eM K "lane_hand" "lane_hand" YQ f fd)(B:Bl mg)(CK:cq P w K mg base a7 10 "check_berthed" ["box","homes","stand","came"] (IJ K C CB))(UW:cq P w K mg base a7 1 "under_way" ["stand"] P9)(HF:cq P w K mg base a7 8 "hand_from" ["box","homes","stand","came","house","goes"] (P_ C CB)):bn P w K mg base a7 11 f fd ["box","homes","stand","came"] (yW K C CB):=by
 refine F.ok Po (fun vs H Q E h=>?_) (fun dz A outer s H vs Q E hr h=>?_)
 .obtain⟨L,b,ha,sa,xa,ns,homes,st,cs,rfl,_⟩:=h;rfl
 .obtain⟨L,b,ha,sa,xa,ns,homes,st,cs,rfl,BA,nF,g8,xc,SN,BT,q⟩:=h;have h1:bA 1 _:=hr.mono (by decide);have h8:bA 8 _:=hr.mono (by decide);have vm:=SN.vm;refine'⟨_,(ag (bX (az CK hr aE (aa (pv 0) (aa (pv 1) (aa (pv 2) (aa (pv 3) af))))))
   (ag (dA (i:=4) (g:=(bV 0)) (te:=(tC .bR)) (NB:=["home"]) (src:=[none]) (cp (by kernel_rfl)) rfl (mU (pv 1)) ?g1 ?t1 ?e1 Po.nd rfl rfl rfl)
   (ag (cI dQ rfl (cS (aJ (Bv rfl) (by rfl) B.sorted zg (aa (bW (Bu rfl) (by rfl) B.set PyProof.Rows.boot_set (aa ?c2 af)) af))) (au (i:=5) Po.nd rfl (Or.inl rfl))
    (aj (bX (az HF h8 aE (aa (pv 0) (aa (pv 1) (aa (pv 2) (aa (pv 3) (aa (pv 5) (aa (pv 4) af))))))))))
   (aj (aG (bW ce (by rfl) B.tup jQ (aa (pv 4) af))))))),?_⟩
  case g1=>exact fun cl C s₃ H₃ fp=>(au (i:=0) LP rfl (Or.inl rfl) (Or.inr rfl))
  case t1=>exact fun cl C s₃ H₃ fp=>eG
  case e1=>exact fun cl C s₃ H₃ fp=>cn
  case c2=>
   refine' dN (g:=(bV 0)) (te:=(lM (sB K) (be 1) (be 0))) (NB:=["letter","stand"]) (src:=[none,some 2]) (cp (by kernel_rfl)) rfl (cS (az UW h1 aE (aa (pv 2) af))) ?g ?t ?e;case g=>exact fun cl C s₃ H₃ fp=>(au (i:=0) UN rfl (Or.inl rfl) (Or.inr rfl))
   case t=>exact fun cl C s₃ H₃ fp=>eG
   case e=>exact fun cl C s₃ H₃ fp=>(aR bh (pv 1) (pv 0) (fun _ _=>rfl))
  refine⟨_,rfl,_,rfl,_,rfl,_,rfl,L,b,ha,sa,xa,ns,homes,st,_,rfl,BA,nF,g8,xc,SN,UO,BT,fun H1 s1=>?_⟩;have a1:=s1 _ _ nF;refine⟨_,rfl,ha,rfl,⟨_,bp.of a1⟩,fun D1 IM=>?_⟩;rw[show (NV homes)=homes.map (fun (n:Nat)=>V.int (n:Int)) from rfl] at a1;refine Hr (xs:=NV homes) (fun i ys σ H2=>(∃u,σ=[u])/\aA H1 H2/\H2 D1=some (.lst ys)/\ys=List.replicate i V.bR) ⟨⟨_,rfl⟩,ao IM,ah,rfl⟩ (fun i ys σ H2 _ z=>bp.of (z.2.1 _ _ a1)) ?_ ?_
  .rintro i x ys σ H2 Kt Kf hx ⟨⟨u,rfl⟩,s2,d2,rfl⟩ kt kf;have hi:=(dk.mp hx).1;rw[bi,SN.l] at hi;exact kt _ _ _ d2 (by rw[me];exact bK (show i<17 by lia) (by decide)) ⟨⟨_,rfl⟩,cy s2 IM,ah,zq.symm⟩
  rintro ys σ H2 ⟨⟨u,rfl⟩,s2,d2,rfl⟩;rw[bi,SN.l,<-EL] at d2;have j4:=s1.trans s2;have nD:H D1=none:=by
   cases e:H D1 with
   |none=>rfl
   |some u=>rw[s1 _ _ e] at IM;cases IM
  refine⟨_,rfl,sa,st,rfl,j4 _ _ g8,vm,fun D2 H3 s3 _ f2=>⟨D2,rfl,⟨_,br.of f2⟩,fun D3 qz=>?_⟩⟩;have pW:=j4.trans s3;refine ou (yS st st.length) (fun (j:Nat)=>V.int (j:Int)) (fun _=>true) (fun (j:Nat)=>V.int (((st.getD j none).getD 0:Nat):Int)) (fun σ=>∃u,σ=[u,some (.ref sa)]) f2 qz (bj q_ (by lia)) ⟨_,rfl⟩ ?_ ?_
  .rintro j σ H4 Kt Kf hj ⟨u,rfl⟩ s4 kt kf;obtain⟨EC,Lu⟩:=a_.mp hj;have EC:=cY.mp EC;refine⟨_,rfl,_,rfl,sa,_,_,_,rfl,rfl,bp.of (s4 _ _ (pW _ _ g8)),aw (gW EC),?_⟩;cases e:st.getD j none with
   |none=>rw[e] at Lu;cases Lu
   |some h=>
    have:=kt [some (.int (j:Int)),some (.ref sa)] H4 ⟨_,rfl⟩ (aA.refl _) rfl;rw[e] at this;exact this
  intro H4 s4 f3;have IP:=pW.trans s4;have f3:H4 D3=some (.lst ((((yS st st.length).filter fun _=>true).map fun j=>(((st.getD j none).getD 0:Nat):Int)).map V.int)):=by rw[f3,fh];rfl
  rw[List.filter_eq_self.mpr fun _ _=>rfl] at f3;refine⟨D3,_,rfl,br.of f3,by rw[aP];exact bj q_ (by lia),fun S hS=>?_⟩;obtain⟨o1,o2⟩:=LO ((yS st st.length).map fun j=>(((st.getD j none).getD 0:Nat):Int));have ol:(iQ ((yS st st.length).map fun j=>(((st.getD j none).getD 0:Nat):Int))).length<=17:=by
   refine bj (yO o1 fun x hx=>(o2 x).mp hx) ?_;rw[aP];exact bj q_ (by lia)
  refine⟨S,_,rfl,ah,ol,fun D4 hs yx hp=>⟨D4,rfl,⟨_,br.of ah⟩,?_⟩⟩;have uy:∀z,z∈hs↔∃i h,st.getD i none=some h/\z=(h:Int):=fun z=>by
   rw[hp.mem_iff,o2,a9];constructor
   .rintro⟨j,hj,rfl⟩;obtain⟨_,Lu⟩:=a_.mp hj;cases e:st.getD j none with
    |none=>rw[e] at Lu;cases Lu
    |some h=>exact⟨j,h,e,rfl⟩
   .rintro⟨i,h,e,rfl⟩;exact⟨i,a_.mpr ⟨cY.mpr (iB (dD.mpr e)),by rw[e];rfl⟩,by rw[e];rfl⟩
  have eh:hs=(hs.map Int.toNat).map fun (n:Nat)=>(n:Int):=by
   rw[fh];refine Eq.trans (jz hs).symm (lT fun z hz=>?_);obtain⟨_,h,_,rfl⟩:=(uy z).mp hz;rfl
  have hnd:(hs.map Int.toNat).Nodup:=by
   have h0:hs.Nodup:=hp.nodup_iff.mpr o1;unfold List.Nodup;rw[jS];refine h0.imp_of_mem fun {x y} hx hy ne e=>ne ?_;obtain⟨_,h,_,rfl⟩:=(uy x).mp hx;obtain⟨_,h',_,rfl⟩:=(uy y).mp hy;rw[mq,mq] at e;rw[e]
  have pO:∀h∈hs.map Int.toNat,∃i,st.getD i none=some h:=fun h hh=>by
   obtain⟨z,hz,rfl⟩:=a9.mp hh;obtain⟨i,h,e,rfl⟩:=(uy z).mp hz;exact⟨i,e⟩
  have hal:∀i h,st.getD i none=some h->h∈hs.map Int.toNat:=fun i h e=>a9.mpr ⟨(h:Int),(uy _).mpr ⟨i,h,e,rfl⟩,rfl⟩;generalize hs.map Int.toNat=hn at *;have eV:hs.map V.int=NV hn:=by rw[eh,ug]
  rw[eV];have yx:(upd H4 S (ub P w S (iQ ((yS st st.length).map fun j=>(((st.getD j none).getD 0:Nat):Int))))) D4=none:=yx;have s5:=(ao (o:=ub P w S (iQ ((yS st st.length).map fun j=>(((st.getD j none).getD 0:Nat):Int)))) hS).trans (ao (o:=.lst (NV hn)) yx);have f4:(upd (upd H4 S (ub P w S (iQ ((yS st st.length).map fun j=>(((st.getD j none).getD 0:Nat):Int))))) D4 (.lst (NV hn))) D4=some (.lst (NV hn)):=ah;generalize Zq:upd (upd H4 S (ub P w S (iQ ((yS st st.length).map fun j=>(((st.getD j none).getD 0:Nat):Int))))) D4 (.lst (NV hn))=H5 at s5 f4;have Dh:=IP.trans s5;have d5:=s5 _ _ (s4 _ _ (s3 _ _ d2));have n41:D4≠D1:=fun z=>by
   have e4:=s4 _ _ (s3 _ _ d2);rw[<-z] at e4;have:=(ao (o:=ub P w S (iQ ((yS st st.length).map fun j=>(((st.getD j none).getD 0:Nat):Int)))) hS) _ _ e4;rw[yx] at this;cases this
  subst Zq;refine jf (K:=K) (a:=D4) (xs:=NV hn) (H:=upd (upd H4 S (ub P w S (iQ ((yS st st.length).map fun j=>(((st.getD j none).getD 0:Nat):Int))))) D4 (.lst (NV hn))) (fun i σ H6=>(∃u,σ=[some (.ref b),some (.ref ha),some (.ref sa),some (.ref xa),some (.ref D1),u])/\yR [D1] (upd (upd H4 S (ub P w S (iQ ((yS st st.length).map fun j=>(((st.getD j none).getD 0:Nat):Int))))) D4 (.lst (NV hn))) H6/\H6 D1=some (.lst (fu st.length (BC ns homes st cs (hn.take i) (fun _=>none))))) ⟨⟨_,rfl⟩,.refl,d5⟩ (fun i σ H6 _ z=>br.of (z.2.1 _ _ f4 (by simp[n41]))) ?_ ?_
  .rintro i x σ H6 hx ⟨⟨u,rfl⟩,k6,g6⟩;have jw:(NV hn)[i]?=some x:=hx;rw[bL] at jw;cases BB:hn[i]? with
   |none=>rw[BB] at jw;cases jw
   |some h=>
   rw[BB] at jw;obtain rfl:V.int (h:Int)=x:=a8 jw;obtain⟨j,ej⟩:=pO h (cZ BB);have to:∀ {c:Addr} {o:HO},H c=some o->H6 c=some o:=fun {c o} e=>k6 _ _ (Dh _ _ e) (by
    have:c≠D1:=fun z=>by rw[z,nD] at e;cases e
    simp[this])
   have sT:aA H H6:=fun c o e=>to e;refine⟨_,rfl,_,rfl,_,rfl,_,rfl,_,rfl,_,rfl,L,b,ha,sa,xa,D1,ns,homes,st,cs,h,_,rfl,BA.same sT,to nF,to g8,to xc,SN,BT,(SN.ok j h ej).1,g6,fun H7 k7 g7=>⟨⟨_,rfl⟩,k6.trans k7,?_⟩⟩;rw[g7,jv BB];unfold BC;rw[vM];rfl
  .rintro σ H6 ⟨⟨u,rfl⟩,k6,g6⟩;rw[bi,gf,Qb hnd hal] at g6;refine⟨_,rfl,D1,_,rfl,.inl ⟨br.of g6,fun r hr=>q r _ (fun c o e=>?_) ah⟩⟩;have n1:c≠D1:=fun z=>by rw[z,nD] at e;cases e
   exact ao (o:=.tup (fu st.length (ge ns homes st cs))) hr _ _ (k6 _ _ (Dh _ _ e) (by simp[n1]))
end
section
variable {ns homes:List Nat} {st cs:List (Option Nat)}
theorem IR{h:Nat}(BX:Bx ns)(FI:fR (pr ns) (jq ns))(SN:Sn ns homes st)(BT:ur ns homes st (cs.map oV))(hh:h<pr ns):JI (l7 st h) (vp ns homes h) (lu ns cs h) 0 (nA ns homes st cs h ns.length fun _=>none)/\JT ns.length (l7 st h) (ju ns homes h) (lu ns cs h) (LI ns h) 0 (nA ns homes st cs h ns.length fun _=>none):=by
 have A:=De BX FI SN BT hh;have a:=JI.all A (g:=fun _=>none) (fun _ _=>rfl) ns.length (aW _);have b:=JT.all A (fun y q q' hq Mn h1 h2=>a8 ((c_ (a_.mp h1).2).symm.trans (c_ (a_.mp h2).2))) (g:=fun _=>none) (fun _ _=>rfl) ns.length (aW _);rw[rT] at a b;exact⟨a,b⟩
theorem BF{i h:Nat}(BX:Bx ns)(FI:fR (pr ns) (jq ns))(SN:Sn ns homes st)(BT:ur ns homes st (cs.map oV))(e:st.getD i none=some h):∃y q,ge ns homes st cs i=some y/\q<ns.length/\y7 ns h y q/\q<=vp ns homes h i/\(y=ju ns homes h i\/lu ns cs h i=q):=by
 have L:=jY BX SN BT e;obtain⟨a,b⟩:=IR (h:=h) BX FI SN BT L.hh;have hi:=dD.mpr e;have el:ge ns homes st cs i=nA ns homes st cs h ns.length (fun _=>none) i:=by unfold ge;rw[e]
 cases ey:nA ns homes st cs h ns.length (fun _=>none) i with
 |none=>exact absurd ey (a.hi i hi (cF _))
 |some y=>
  obtain⟨q,_,hq,hy,hw⟩:=b.ty i hi y ey;have t:=(ue BX FI L.hh hq).mp hy;refine⟨y,q,el.trans ey,hq,t,?_,hw⟩;rcases hw with z|z
  .rw[z] at t;exact mD (a8 ((e8 t).symm.trans (e8 L.wt)))
  .rw[<-z];exact L.le
theorem IS{i j h y:Nat}(BX:Bx ns)(FI:fR (pr ns) (jq ns))(SN:Sn ns homes st)(BT:ur ns homes st (cs.map oV))(ei:st.getD i none=some h)(ej:st.getD j none=some h)(yi:ge ns homes st cs i=some y)(yj:ge ns homes st cs j=some y):i=j:=by
 obtain⟨_,b⟩:=IR (h:=h) BX FI SN BT (jY BX SN BT ei).hh;have el:∀ {i:Nat},st.getD i none=some h->ge ns homes st cs i=nA ns homes st cs h ns.length (fun _=>none) i:=fun e=>by unfold ge;rw[e]
 exact b.inj i (dD.mpr ei) j (dD.mpr ej) y ((el ei).symm.trans yi) ((el ej).symm.trans yj)
def xo(ns homes:List Nat)(st cs:List (Option Nat))(i:Nat):Bool:=match ge ns homes st cs i with
 |some y=>decide (y≠homes.getD i 0)
 |none=>false
def EM(ns homes:List Nat)(st cs:List (Option Nat)):List (Option Nat):=(List.range st.length).map fun i=>if xo ns homes st cs i=true then ge ns homes st cs i else none
def EN(ns homes:List Nat)(st cs:List (Option Nat)):List (Option Nat):=(List.range st.length).map fun i=>if xo ns homes st cs i=true then st.getD i none else none
theorem ZI{n i:Nat}{f:Nat->Option Nat}(h:i<n):((List.range n).map f).getD i none=f i:=by
 rw[cr,bL,oQ h];rfl
theorem Qd{n i h:Nat}{f:Nat->Option Nat}(e:((List.range n).map f).getD i none=some h):i<n/\f i=some h:=by
 rcases gQ i n with c|c
 .exact⟨c,(ZI c).symm.trans e⟩
 .rw[cr,gN (by rw[aP,dO];exact c)] at e;cases e
theorem xp{i:Nat}(h:xo ns homes st cs i=true):∃g y,st.getD i none=some g/\ge ns homes st cs i=some y/\y≠homes.getD i 0:=by
 unfold xo at h;cases e:ge ns homes st cs i with
 |none=>rw[e] at h;cases h
 |some y=>
  rw[e] at h;cases e2:st.getD i none with
  |none=>unfold ge at e;rw[e2] at e;cases e
  |some g=>exact⟨g,y,rfl,rfl,c_ h⟩
theorem xq{i y:Nat}(e:(EM ns homes st cs).getD i none=some y):i<st.length/\xo ns homes st cs i=true/\ge ns homes st cs i=some y/\(EN ns homes st cs).getD i none=st.getD i none:=by
 obtain⟨hi,e⟩:=Qd e;by_cases c:xo ns homes st cs i=true
 .rw[ai c] at e;exact⟨hi,c,e,by unfold EN;rw[ZI hi,ai c]⟩
 .rw[ap c] at e;cases e
theorem xr:(EM ns homes st cs).length=st.length:=by unfold EM;rw[aP,dO]
theorem Qe:(EN ns homes st cs).length=st.length:=by unfold EN;rw[aP,dO]
theorem Di(BX:Bx ns)(FI:fR (pr ns) (jq ns))(SN:Sn ns homes st)(BT:ur ns homes st (cs.map oV)):Sn ns homes (EM ns homes st cs):=by
 refine⟨SN.l.trans xr.symm,fun i y e=>?_,by rw[xr];exact SN.vm⟩;obtain⟨hi,c,el,_⟩:=xq e;obtain⟨g,y',e2,e3,ne⟩:=xp c;obtain rfl:=a8 (el.symm.trans e3);obtain⟨y',q,f1,f2,f3,_⟩:=BF BX FI SN BT e2;obtain rfl:=a8 (el.symm.trans f1);exact⟨Bj BX FI (SN.ok i g e2).1 f2 f3,(SN.ok i g e2).2.1,ne⟩
theorem LQ(BX:Bx ns)(FI:fR (pr ns) (jq ns))(SN:Sn ns homes st)(BT:ur ns homes st (cs.map oV)):ur ns homes (EM ns homes st cs) ((EN ns homes st cs).map oV):=by
 have ZJ:=Di BX FI SN BT;refine⟨by rw[aP,Qe,xr],fun i hi=>⟨fun e=>?_,fun y e=>?_⟩⟩
 .rw[xr] at hi;rw[oy];unfold EM at e;unfold EN;rw[ZI hi] at e |-;by_cases c:xo ns homes st cs i=true
  .rw[ai c] at e;obtain⟨g,y',e2,e3,ne⟩:=xp c;rw[e3] at e;cases e
  .rw[ap c];rfl
 .obtain⟨_,c,el,ec⟩:=xq e;obtain⟨g,y',e2,e3,ne⟩:=xp c;obtain rfl:=a8 (el.symm.trans e3);obtain⟨y',q,f1,f2,f3,f4,_⟩:=BF BX FI SN BT e2;obtain rfl:=a8 (el.symm.trans f1);obtain⟨hy,hg,lN⟩:=ZJ.ok i y e;obtain⟨p',Gi⟩:=yC hy hg lN;have L:=jY BX SN BT e2;refine⟨g,by rw[oy,ec,e2];rfl,⟨q,p',Gi,?_,UC f3 L.ph f4 Gi⟩,fun j hj ej z=>?_⟩
  .rcases f3 with u|u
   .exact .inr u
   .exact .inl u
  .obtain⟨_,_,el2,ec2⟩:=xq ej;rw[oy,ec2] at z;have z:=Bk z;have:=IS BX FI SN BT z e2 el2 el;lia
def vq(ns homes:List Nat)(st cs:List (Option Nat))(i:Nat):Bool:=match st.getD i none with
 |none=>false
 |some h=>decide (ge ns homes st cs i≠y8 ns h (homes.getD i 0))
def Qf(ns homes:List Nat)(st cs:List (Option Nat))(h y:Nat):Option Nat:=(List.range st.length).find? fun j=>decide (st.getD j none=some h/\ge ns homes st cs j=some y)
def Rv(ns homes:List Nat)(st cs:List (Option Nat))(h c:Nat):Nat:=(Qf ns homes st cs h (ju ns homes h c)).getD 0
def Rx(ns homes:List Nat)(st cs:List (Option Nat))(h:Nat):Nat->Nat->Nat
 |0,c=>c
 |f+1,c=>if vq ns homes st cs c=true then Rx ns homes st cs h f (Rv ns homes st cs h c) else c
theorem Qg{h f c:Nat}(e:vq ns homes st cs c=false):Rx ns homes st cs h f c=c:=by
 cases f with
 |zero=>rfl
 |succ f=>unfold Rx;rw[ap (by rw[e];exact bq)]
def IT(ns homes:List Nat)(st cs:List (Option Nat))(i:Nat):Option Nat:=match st.getD i none with
 |none=>none
 |some h=>if vq ns homes st cs i=true then some (Rx ns homes st cs h (st.length+1) i) else none
theorem xt{i h:Nat}(BX:Bx ns)(SN:Sn ns homes st)(BT:ur ns homes st (cs.map oV))(e:st.getD i none=some h):vq ns homes st cs i=true↔ge ns homes st cs i≠some (ju ns homes h i):=by
 unfold vq;rw[e,<-(jY BX SN BT e).ws];exact fD
theorem xu{c h:Nat}(BX:Bx ns)(FI:fR (pr ns) (jq ns))(SN:Sn ns homes st)(BT:ur ns homes st (cs.map oV))(e:st.getD c none=some h):∃j,Qf ns homes st cs h (ju ns homes h c)=some j/\Rv ns homes st cs h c=j/\st.getD j none=some h/\ge ns homes st cs j=some (ju ns homes h c):=by
 have L:=jY BX SN BT e;have A:=De BX FI SN BT L.hh;obtain⟨j,hj,ej⟩:=Dd A (g:=fun _=>none) (fun _ _=>rfl) (dD.mpr e) ns.length (aW _) (by rw[rT];exact cF _);have sj:=dD.mp hj;have lj:ge ns homes st cs j=some (ju ns homes h c):=by
  unfold ge;rw[sj];exact ej
 cases et:Qf ns homes st cs h (ju ns homes h c) with
 |none=>
  have:=mj.mp et j (cY.mpr (iB hj));exact absurd (aT ⟨sj,lj⟩) this
 |some j'=>
  obtain⟨a,b⟩:st.getD j' none=some h/\ge ns homes st cs j'=some (ju ns homes h c):=c_ (oW (p:=fun j=>decide (st.getD j none=some h/\ge ns homes st cs j=some (ju ns homes h c))) et);exact⟨j',rfl,by unfold Rv;rw[et];rfl,a,b⟩
theorem LR{c j h:Nat}(BX:Bx ns)(FI:fR (pr ns) (jq ns))(SN:Sn ns homes st)(BT:ur ns homes st (cs.map oV))(e:st.getD c none=some h)(ej:st.getD j none=some h)(lj:ge ns homes st cs j=some (ju ns homes h c)):(vq ns homes st cs j=true->lu ns cs h c<lu ns cs h j)/\vp ns homes h c<=vp ns homes h j:=by
 have L:=jY BX SN BT e;have Lj:=jY BX SN BT ej;have A:=De BX FI SN BT L.hh;have go:vq ns homes st cs j=true->lu ns cs h c<lu ns cs h j/\lu ns cs h j=vp ns homes h c:=fun a=>by
  have ne:=(xt BX SN BT ej).mp a;rw[lj] at ne;have ne:ju ns homes h c≠ju ns homes h j:=fun z=>ne (by rw[z]);obtain⟨y,q,f1,f2,f3,f4,f5⟩:=BF BX FI SN BT ej;obtain rfl:=a8 (lj.symm.trans f1);have lq:=f5.resolve_left ne;have qp:=a8 ((e8 f3).symm.trans (e8 L.wt));have N:=NW.all A (g:=fun _=>none) (fun _ _=>rfl) ns.length (aW _) j (dD.mpr ej) (ju ns homes h c) (by
   have:ge ns homes st cs j=nA ns homes st cs h ns.length (fun _=>none) j:=by unfold ge;rw[ej]
   exact this.symm.trans lj) ne c (dD.mpr e)
  have:lu ns cs h c≠lu ns cs h j:=fun z=>N z rfl;have:=L.le;exact⟨by lia,by lia⟩
 refine⟨fun a=>(go a).1,?_⟩;cases a:vq ns homes st cs j with
 |true=>have:=(go a).2;have:=Lj.le;lia
 |false=>
  have:ge ns homes st cs j=some (ju ns homes h j):=oM fun z=>by rw[(xt BX SN BT ej).mpr z] at a;cases a
  rw[lj] at this;have w:=a8 this;have t:=L.wt;rw[w] at t;exact mD (a8 ((e8 t).symm.trans (e8 Lj.wt)))
structure Wk(ns homes:List Nat)(st cs:List (Option Nat))(h i c:Nat)(ls:List Nat):Prop where
 ec:st.getD c none=some h
 pc:vp ns homes h i<=vp ns homes h c
 nd:ls.Nodup
 mem:∀x∈ls,st.getD x none=some h/\vq ns homes st cs x=true/\(vq ns homes st cs c=true->lu ns cs h x<lu ns cs h c)
 s0:ls=[]->c=i
 s1:ls≠[]->i∈ls
 rs:Rx ns homes st cs h (st.length+1-ls.length) c=Rx ns homes st cs h (st.length+1) i
theorem Wk.start{h i:Nat}(e:st.getD i none=some h):Wk ns homes st cs h i i []:=⟨e,aW _,gj,fun x z=>(nomatch z),fun _=>rfl,fun z=>absurd rfl z,rfl⟩
theorem Wk.out{h i c:Nat}{ls:List Nat}(w:Wk ns homes st cs h i c ls):c∉ls:=fun m=>by
 obtain⟨_,a,b⟩:=w.mem c m;have:=b a;lia
theorem Wk.len{h i c:Nat}{ls:List Nat}(w:Wk ns homes st cs h i c ls):ls.length<st.length:=by
 have:=yO (a:=c::ls) (b:=List.range st.length) (cX.mpr ⟨w.out,w.nd⟩) fun x hx=>cY.mpr (iB (dD.mpr ((ba.mp hx).elim (fun z=>z ▸ w.ec) fun z=>(w.mem x z).1)));rw[cu,dO] at this;exact this
theorem Wk.is{h i c:Nat}{ls:List Nat}(w:Wk ns homes st cs h i c ls):c=i↔ls=[]:=⟨fun e=>oM fun z=>w.out (e ▸ w.s1 z),w.s0⟩
theorem Wk.step{h i c:Nat}{ls:List Nat}(BX:Bx ns)(FI:fR (pr ns) (jq ns))(SN:Sn ns homes st)(BT:ur ns homes st (cs.map oV))(w:Wk ns homes st cs h i c ls)(a:vq ns homes st cs c=true):Wk ns homes st cs h i (Rv ns homes st cs h c) (c::ls):=by
 obtain⟨j,_,ej,sj,lj⟩:=xu BX FI SN BT w.ec;obtain⟨m1,m2⟩:=LR BX FI SN BT w.ec sj lj;have wl:=w.len;rw[ej];refine⟨sj,bj w.pc m2,cX.mpr ⟨w.out,w.nd⟩,fun x hx=>?_,fun z=>(nomatch z),fun _=>?_,?_⟩
 .rcases ba.mp hx with rfl|hx
  .exact⟨w.ec,a,m1⟩
  .obtain⟨q1,q2,q3⟩:=w.mem x hx;exact⟨q1,q2,fun z=>rV (q3 a) (m1 z)⟩
 .by_cases z:ls=[]
  .rw[w.s0 z];exact bG
  .exact bJ _ (w.s1 z)
 .rw[<-w.rs,cu,show st.length+1-ls.length=(st.length+1-(ls.length+1))+1 by lia];show _=if vq ns homes st cs c=true then _ else _
  rw[ai a,ej]
theorem Wk.fin{h i c:Nat}{ls:List Nat}(w:Wk ns homes st cs h i c ls)(a:vq ns homes st cs c=false):IT ns homes st cs i=if ls=[] then none else some c:=by
 have e:=w.rs;rw[Qg a] at e;have hi:st.getD i none=some h:=by
  by_cases z:ls=[]
  .rw[<-w.s0 z];exact w.ec
  .exact(w.mem i (w.s1 z)).1
 unfold IT;rw[hi];dsimp only;by_cases z:ls=[]
 .rw[ai z,ap (by rw[<-w.s0 z,a];exact bq)]
 .rw[ap z,ai (w.mem i (w.s1 z)).2.1,e]
end
end tu
namespace L2
open PySem PySem.Spec PyProof.Rows
def UP(te:TE)(g h:TG):TS:=fun D σ H=>te σ H fun x H1=>g x σ H1 fun σ2 H2=>h x σ2 H2 D.nx
theorem LU{X:Cx}{a b e:Expr}{te:TE}{g h:TG}{pos:Pos}(he:PE X e te)(hg:PG X a g)(hh:PG X b h)(h1:(assignEach [a,b] X.env).map (·.2)=[assign a X.env,assign b X.env]:=by rfl)(hw:swappedStores [a,b] e X.env=pure none:=by rfl):PS X (.Assign [a,b] e pos) (UP te g h):=by
 intro ae s σ H D I w;refine wpAny_Assign_two (cz (he ae s σ H _ I w) fun v s1 ⟨x,H1,I1,r1,q1⟩=>?_) h1 hw;exact cz (hg ae s1 σ H1 x v _ I1 r1 q1) fun _ s2 ⟨σ2,H2,I2,q2⟩=>cz (hh ae s2 σ2 H2 x v _ I2 r1 q2) fun _ s3 q=>q
end L2
namespace tu
open PySem L2 jJ
abbrev ZK:Stmt:=fA 16
abbrev ZL:Stmt:=fA 27
abbrev ZM:Stmt:=fA 26
section
variable {P:Program} {w:World} {K:PySem.W.Frag} {mg:Str->Option Value} {base:Heap}
theorem UQ:aD ["stand","handing","house","goes","letter"] ["stand","handing","house","goes"] (am ZK):=⟨rfl,rfl,rfl,by decide +kernel,rfl,by decide +kernel,by decide +kernel⟩
def Qh:Sp:=fun vs H Q _=>∃ (sa ta:Addr) (ns homes:List Nat) (st cs:List (Option Nat)) (h y:Nat),vs=[.ref sa,.ref ta,.int h,.int y]/\H sa=some (.tup (st.map oV))/\H ta=some (.tup (fu st.length (ge ns homes st cs)))/\st.length<=16/\Q (oV (Qf ns homes st cs h y)) H
theorem UR{f:Addr}{fd:FuncData}(F:eM K "taker" "taker" ZK f fd)(B:Bl mg):bn P w K mg base a7 1 f fd ["stand","handing","house","goes"] Qh:=by
 refine F.ok UQ (fun vs H Q E h=>?_) (fun dz A outer s H vs Q E hr h=>?_)
 .obtain⟨sa,ta,ns,homes,st,cs,h,y,rfl,_⟩:=h;rfl
 .obtain⟨sa,ta,ns,homes,st,cs,h,y,rfl,g8,EO,vm,q⟩:=h;refine⟨_,(ag (cI dQ rfl (bu rfl B.range (aa (aJ aF (by rfl) B.len dH (aa (pv 0) af)) af)) (au (i:=4) UQ.nd rfl (Or.inl rfl))
    (aj (bE (PW.pt (Fu (aK gv (aR bh (pv 0) (pv 4) (fun _ _=>rfl)) (pv 2) (aQ _)) (BU (aK gv (aR bh (pv 1) (pv 4) (fun _ _=>rfl)) (pv 3) (aQ _))))) (aj (aG (pv 4))) aL)))
   (aj (aG cn))),?_⟩
  refine⟨_,rfl,sa,_,rfl,.inr (bp.of g8),_,rfl,by rw[aP];lia,by rw[aP];lia,?_⟩;rw[aP];refine dg (n:=st.length) (lo:=0) (fun j σ H1=>(∃z,σ=[some (.ref sa),some (.ref ta),some (.int (h:Int)),some (.int (y:Int)),z])/\H1=H/\(List.range j).find? (fun j=>decide (st.getD j none=some h/\ge ns homes st cs j=some y))=none) ⟨⟨_,rfl⟩,rfl,rfl⟩ ?_ ?_
  .rintro j σ H1 hj ⟨⟨z,rfl⟩,rfl,fn⟩;rw[eK];have ZN:(List.range (j+1)).find? (fun j=>decide (st.getD j none=some h/\ge ns homes st cs j=some y))=if st.getD j none=some h/\ge ns homes st cs j=some y then some j else none:=by
    rw[iV,List.find?_append,fn];by_cases c:st.getD j none=some h/\ge ns homes st cs j=some y
    .rw[ai c,List.find?_cons_of_pos (by exact aT c)];rfl
    .rw[ap c,zm (by simpa using c)];rfl
   refine⟨_,rfl,_,rfl,sa,_,_,_,rfl,rfl,bp.of g8,aw (gW hj),_,rfl,jP,_,rfl,?_⟩;rw[ow];by_cases c1:st.getD j none=some h
   .refine ft (aT c1) ⟨_,rfl,_,rfl,ta,_,_,_,rfl,rfl,bp.of EO,aw (fw hj),_,rfl,jP,_,rfl,?_⟩;rw[ow];by_cases c2:ge ns homes st cs j=some y
    .refine ft (aT c2) ⟨_,rfl,?_⟩;have ef:Qf ns homes st cs h y=some j:=by
      unfold Qf;have:List.range st.length=List.range (j+1)++(List.range st.length).drop (j+1):=by
       have:=md (j+1) (List.range st.length);rwa [List.take_range,Nat.min_eq_left (by lia),eq_comm] at this
      rw[this,List.find?_append,ZN,ai ⟨c1,c2⟩];rfl
     rw[ef] at q;exact q
    .exact dE (cW c2) ⟨⟨_,rfl⟩,rfl,by rw[ZN,ap fun z=>c2 z.2]⟩
   .exact dE (cW c1) (e_ ⟨⟨_,rfl⟩,rfl,by rw[ZN,ap fun z=>c1 z.1]⟩)
  .rintro σ H1 ⟨⟨z,rfl⟩,rfl,fn⟩;have ef:Qf ns homes st cs h y=none:=fn;rw[ef] at q;exact q
theorem ZO:aD ["box","homes","stand","handing","letter"] ["box","homes","stand","handing","letter"] (am ZL):=⟨rfl,rfl,rfl,by decide +kernel,rfl,by decide +kernel,by decide +kernel⟩
def Qi(C CB:Addr):Sp:=fun vs H Q _=>∃ (L:Addr->Prop) (b ha sa ta:Addr) (ns homes:List Nat) (st cs:List (Option Nat)) (c:Nat),vs=[.ref b,.ref ha,.ref sa,.ref ta,.int c]/\eF C CB H L b ns/\H ha=some (.tup (NV homes))/\H sa=some (.tup (st.map oV))/\H ta=some (.tup (fu st.length (ge ns homes st cs)))/\Sn ns homes st/\c<st.length/\∀H',aA H H'->Q (.bl (vq ns homes st cs c)) H'
theorem US{f C CB CE:Addr}{fd:FuncData}(F:eM K "is_astray" "is_astray" ZL f fd)(B:Bl mg)(TB:CZ K mg CB)(WW:cq P w K mg base a7 2 "is_whole_within" ["thing","least","most"] (jo K))(MI:fc P w K mg base (iw P w) 7 CB "wish" ["self","house","home"] (vi K C CB CE)):bn P w K mg base a7 8 f fd ["box","homes","stand","handing","letter"] (Qi C CB):=by
 obtain⟨fI,Tv,mI,bI,GI⟩:=MI.ex;refine F.ok ZO (fun vs H Q E h=>?_) (fun dz A outer s H vs Q E hr h=>?_)
 .obtain⟨L,b,ha,sa,ta,ns,homes,st,cs,c,rfl,_⟩:=h;rfl
 .obtain⟨L,b,ha,sa,ta,ns,homes,st,cs,c,rfl,BA,nF,g8,EO,SN,hc,q⟩:=h;have h2:bA 2 _:=hr.mono (by decide);have h7:bA 7 _:=hr.mono (by decide);obtain⟨dx,pn,sr,hb,N,gZ⟩:=id BA.ob;refine⟨_,(ag (bE (PW.pt (xG (dw (cR (az WW h2 aE (aa (pv 4) (aa aB (aa (bv mV (aJ aF (by rfl) B.len dH (aa (pv 2) af)) aB) af)))))) (se (aK i7 (aR bh (pv 2) (pv 4) (fun _ _=>rfl)) cn (aQ _))))) (aj (aG kG)) aL)
   (aj (aG (eT nR (aR bh (pv 3) (pv 4) (fun _ _=>rfl)) (cL (pv 0) TB.cl mI GI h7 bI .nil jj (aa (aR bh (pv 2) (pv 4) (fun _ _=>rfl)) (aa (aR bh (pv 1) (pv 4) (fun _ _=>rfl)) af))) (aQ _))))),?_⟩
  refine⟨_,rfl,_,rfl,sa,_,rfl,.inr (bp.of g8),_,_,rfl,rfl,_,some (c:Int),_,_,rfl,.int _,_,rfl,?_⟩;rw[aP,cg hc];refine dE rfl ⟨_,rfl,_,rfl,sa,_,_,_,rfl,rfl,bp.of g8,aw (gW hc),rfl,_,rfl,?_⟩;have q1:=q;unfold vq at q1;cases e:st.getD c none with
  |none=>
   rw[e] at q1;exact ft rfl (q1 H (aA.refl _))
  |some h=>
   rw[e] at q1;obtain⟨hh,hg,ne⟩:=SN.ok c h e;refine dE rfl ?_;refine⟨_,rfl,_,rfl,ta,_,_,_,rfl,rfl,bp.of EO,aw (fw hc),?_⟩;refine⟨_,rfl,b,dx,_,rfl,hb,xn,_,rfl,_,rfl,sa,_,_,_,rfl,rfl,bp.of g8,aw (show (st.map oV)[c]?=some (.int (h:Int)) by rw[gW hc,e];rfl),_,rfl,_,rfl,ha,_,_,_,rfl,rfl,bp.of nF,aw (l4 (by rw[SN.l];exact hc)),L,b,ns,_,_,some (h:Int),some (homes.getD c 0:Nat),rfl,BA,eI,eI,(fun z=>by rw[cg hh,cg hg] at z;rcases z with z|z <;> cases z),fun h' g' _ _ e1 e2 H6 s6=>?_⟩;obtain rfl:h=h':=cN (a8 e1);obtain rfl:homes.getD c 0=g':=cN (a8 e2);obtain⟨p,hp⟩:=yC hh hg ne;obtain⟨wi,hw⟩:∃wi,y8 ns h (homes.getD c 0)=some wi:=by unfold y8;rw[hp];exact⟨_,rfl⟩
   have q2:=q1 H6 s6;dsimp only at q2;rw[hw] at q2 |-;refine⟨jP,?_⟩;rw[show (!decide (oV (ge ns homes st cs c)=oV (some wi)))=decide (ge ns homes st cs c≠some wi) by rw[decide_not];congr 1;exact ow];exact q2
theorem EQ:aD ["box","homes","stand","came","letter","handing","found","house"] ["box","homes","stand","came","letter"] (am ZM):=⟨rfl,rfl,rfl,by decide +kernel,rfl,by decide +kernel,by decide +kernel⟩
def Qj(K:PySem.W.Frag)(C CB:Addr):Sp:=fun vs H Q _=>∃ (L:Addr->Prop) (b ha sa xa:Addr) (ns homes:List Nat) (st cs:List (Option Nat)) (i:Nat),vs=[.ref b,.ref ha,.ref sa,.ref xa,.int i]/\eF C CB H L b ns/\H ha=some (.tup (NV homes))/\H sa=some (.tup (st.map oV))/\H xa=some (.tup (cs.map oV))/\Sn ns homes st/\ur ns homes st (cs.map oV)/\i<st.length/\∀H',aA H H'->Q (oV (IT ns homes st cs i)) H'
theorem UT{f C CB CE:Addr}{fd:FuncData}(F:eM K "reason" "reason" ZM f fd)(B:Bl mg)(TB:CZ K mg CB)(LH:cq P w K mg base a7 11 "lane_hand" ["box","homes","stand","came"] (yW K C CB))(AS:cq P w K mg base a7 8 "is_astray" ["box","homes","stand","handing","letter"] (Qi C CB))(TK:cq P w K mg base a7 1 "taker" ["stand","handing","house","goes"] Qh)(MI:fc P w K mg base (iw P w) 7 CB "wish" ["self","house","home"] (vi K C CB CE)):bn P w K mg base a7 12 f fd ["box","homes","stand","came","letter"] (Qj K C CB):=by
 obtain⟨fI,Tv,mI,bI,GI⟩:=MI.ex;refine F.ok EQ (fun vs H Q E h=>?_) (fun dz A outer s H vs Q E hr h=>?_)
 .obtain⟨L,b,ha,sa,xa,ns,homes,st,cs,i,rfl,_⟩:=h;rfl
 .obtain⟨L,b,ha,sa,xa,ns,homes,st,cs,i,rfl,BA,nF,g8,xc,SN,BT,hi,q⟩:=h;have h1:bA 1 _:=hr.mono (by decide);have h7:bA 7 _:=hr.mono (by decide);have h8:bA 8 _:=hr.mono (by decide);have UU:bA 11 _:=hr;have BX:=BA.bx;obtain⟨dx,pn,sr,hb,N,gZ⟩:=id BA.ob;have FI:=N.oo;refine⟨_,(ag (aN (i:=5) EQ.nd rfl (Or.inl rfl) (az LH UU aE (aa (pv 0) (aa (pv 1) (aa (pv 2) (aa (pv 3) af))))))
   (ag (aN (i:=6) EQ.nd rfl (Or.inl rfl) cn)
   (ag (xI dQ (cR (az AS h8 aE (aa (pv 0) (aa (pv 1) (aa (pv 2) (aa (pv 5) (aa (pv 4) af))))))) (ag (aN (i:=7) EQ.nd rfl (Or.inl rfl) (aR bh (pv 2) (pv 4) (fun _ _=>rfl)))
    (aj (LU (az TK h1 aE (aa (pv 2) (aa (pv 5) (aa (pv 7) (aa (cL (pv 0) TB.cl mI GI h7 bI .nil jj (aa (pv 7) (aa (aR bh (pv 1) (pv 4) (fun _ _=>rfl)) af))) af))))) (au (i:=4) EQ.nd rfl (Or.inl rfl)) (au (i:=6) EQ.nd rfl (Or.inl rfl))))))
   (aj (aG (pv 6)))))),?_⟩
  refine⟨_,rfl,_,rfl,_,rfl,_,rfl,L,b,ha,sa,xa,ns,homes,st,cs,rfl,BA,nF,g8,xc,SN,BT,fun ta H1 s1 EO=>?_⟩;have fin:∀ (σ:St) (H2:Hp),(∃c u,σ=[some (.ref b),some (.ref ha),some (.ref sa),some (.ref xa),some c,some (.ref ta),some (oV (IT ns homes st cs i)),u])->aA H1 H2->NE (be 6) { nx:=fun _ H'=>Q .bR H',rt:=Q } σ H2:=fun σ H2 ⟨c,u,e⟩ s2=>by
   subst e;exact⟨_,rfl,q H2 (s1.trans s2)⟩
  cases e:st.getD i none with
  |none=>
   have ea:vq ns homes st cs i=false:=by unfold vq;rw[e]
   have er:IT ns homes st cs i=none:=by unfold IT;rw[e]
   rw[er] at fin;refine⟨fun m σ H2=>(∃u,σ=[some (.ref b),some (.ref ha),some (.ref sa),some (.ref xa),some (.int (i:Int)),some (.ref ta),some .bR,u])/\H2=H1,⟨0,⟨_,rfl⟩,rfl⟩,?_⟩;rintro m σ H2 ⟨⟨u,rfl⟩,rfl⟩;refine⟨_,rfl,_,rfl,_,rfl,_,rfl,_,rfl,L,b,ha,sa,ta,ns,homes,st,cs,i,rfl,BA.same s1,s1 _ _ nF,s1 _ _ g8,EO,SN,hi,fun H3 s3=>⟨_,rfl,?_⟩⟩;rw[ea];exact e_ (fin _ H3 ⟨_,_,rfl⟩ s3)
  |some h=>
   refine⟨fun m σ H2=>∃c ls u,σ=[some (.ref b),some (.ref ha),some (.ref sa),some (.ref xa),some (.int ((c:Nat):Int)),some (.ref ta),some (oV (if ls=[] then none else some c)),u]/\Wk ns homes st cs h i c ls/\aA H1 H2/\m=st.length-ls.length,⟨_,i,[],_,rfl,Wk.start e,aA.refl _,rfl⟩,?_⟩;rintro m σ H2 ⟨c,ls,u,rfl,wk,s2,rfl⟩;have hc:=iB (dD.mpr wk.ec);have j4:=s1.trans s2;refine⟨_,rfl,_,rfl,_,rfl,_,rfl,_,rfl,L,b,ha,sa,ta,ns,homes,st,cs,c,rfl,BA.same j4,j4 _ _ nF,j4 _ _ g8,s2 _ _ EO,SN,hc,fun H3 s3=>⟨_,rfl,?_⟩⟩;have pW:=j4.trans s3;cases ea:vq ns homes st cs c with
   |false=>
    have er:=wk.fin ea;rw[<-er];exact e_ (fin _ H3 ⟨_,_,rfl⟩ (s2.trans s3))
   |true=>
    have wl:=wk.len;have wn:=wk.step BX FI SN BT ea;refine gJ ⟨fun σ' H'=>∃u,σ'=[some (.ref b),some (.ref ha),some (.ref sa),some (.ref xa),some (.int ((Rv ns homes st cs h c:Nat):Int)),some (.ref ta),some (oV (some (Rv ns homes st cs h c))),u]/\aA H1 H',?_,?_⟩
    .rintro σ' H' ⟨u,rfl,s'⟩;exact⟨st.length-(c::ls).length,by rw[cu];lia,_,c::ls,u,rfl,wn,s',rfl⟩
    .obtain⟨hh,hg,ne⟩:=SN.ok c h wk.ec;obtain⟨j,ej,en,_,_⟩:=xu BX FI SN BT wk.ec;have LW:=(jY BX SN BT wk.ec).ws;refine⟨_,rfl,_,rfl,sa,_,_,_,rfl,rfl,bp.of (pW _ _ g8),aw (show (st.map oV)[c]?=some (.int (h:Int)) by rw[gW hc,wk.ec];rfl),?_⟩;refine⟨_,rfl,_,rfl,_,rfl,_,rfl,b,dx,_,rfl,pW _ _ hb,xn,_,rfl,_,rfl,_,rfl,ha,_,_,_,rfl,rfl,bp.of (pW _ _ nF),aw (l4 (by rw[SN.l];exact hc)),L,b,ns,_,_,some (h:Int),some (homes.getD c 0:Nat),rfl,BA.same pW,eI,eI,(fun z=>by rw[cg hh,cg hg] at z;rcases z with z|z <;> cases z),fun h' g' _ _ e1 e2 H6 s6=>?_⟩;obtain rfl:h=h':=cN (a8 e1);obtain rfl:homes.getD c 0=g':=cN (a8 e2);rw[LW];have s36:=(s2.trans s3).trans s6;refine⟨sa,ta,ns,homes,st,cs,h,ju ns homes h c,rfl,s6 _ _ (pW _ _ g8),s36 _ _ EO,SN.vm,?_⟩;rw[ej,<-en];exact⟨_,rfl,s36⟩
end
abbrev ZP:Stmt:=fA 64
abbrev ZQ:Stmt:=fA 65
abbrev ZR:Stmt:=fA 66
theorem ui{n j:Nat}{p:Nat->Bool}(hj:j<n)(h:∀x,x<n->(p x=true↔x=j)):(List.range n).filter p=[j]:=by
 refine List.perm_singleton.mp ((ze (mv.filter _) (by simp)).mpr fun x=>?_);rw[a_,cY,dL];exact⟨fun z=>(h x z.1).mp z.2,fun z=>by subst z;exact⟨hj,(h x hj).mpr rfl⟩⟩
section
variable {P:Program} {w:World} {K:PySem.W.Frag} {mg:Str->Option Value} {base:Heap}
theorem LV:(["_law_k","_law_other","_law_sides_here","_law_one"]:List Str).Nodup:=by decide +kernel
theorem IU:(["_law_j","_law_stand","_law_i","_law_handing","_law_wish_here"]:List Str).Nodup:=by decide +kernel
theorem ZS:aD ["_law_sides_here","_law_one","_law_other"] ["_law_sides_here","_law_one","_law_other"] (am ZP):=⟨rfl,rfl,rfl,by decide +kernel,rfl,by decide +kernel,by decide +kernel⟩
def Qk:Sp:=fun vs H Q _=>∃ (sr:Addr) (ns:List Nat) (a b k:Nat),vs=[.ref sr,.int a,.int b]/\H sr=some (.tup (NV ns))/\Bx ns/\y7 ns a b k/\∀H',aA H H'->Q (.int (k:Nat)) H'
theorem UV{f:Addr}{fd:FuncData}(F:eM K "_law_way" "_law_way" ZP f fd)(B:Bl mg)(TI:cq P w K mg base a7 3 "_law_ties" ["_law_sides_here","_law_house","_law_k"] Ik):bn P w K mg base a7 4 f fd ["_law_sides_here","_law_one","_law_other"] Qk:=by
 refine F.ok ZS (fun vs H Q E h=>?_) (fun dz A outer s H vs Q E hr h=>?_)
 .obtain⟨sr,ns,a,b,k,rfl,_⟩:=h;rfl
 .obtain⟨sr,ns,a,b,k,rfl,gZ,BX,t,q⟩:=h;have l5:=BX.l5;have kl:=(f9 (e8 t)).1;refine'⟨_,(aj (aG (aR bC ?c1 aB (fun _ _=>rfl)))),?_⟩;case c1=>
   refine' dN (g:=(bV 0)) (tt:=(iK (lM (VZ K false) (be 1) (nV Ik [] E0 (dR (be 2) (dR (be 3) (dR (be 0) mW))))))) (te:=(be 0)) (NB:=["_law_k","_law_other","_law_sides_here","_law_one"]) (src:=[none,some 2,some 0,some 1]) (cp (by kernel_rfl)) rfl (bu rfl B.range (aa (aJ aF (by rfl) B.len dH (aa (pv 0) af)) af)) ?g ?t ?e;case g=>exact fun cl C s₃ H₃ fp=>(au (i:=0) LV rfl (Or.inl rfl) (Or.inr rfl))
   case t=>exact fun cl C s₃ H₃ fp=>d8 (aK hU (pv 1) (az TI hr aE (aa (pv 2) (aa (pv 3) (aa (pv 0) af)))) rfl)
   case e=>exact fun cl C s₃ H₃ fp=>(pv 0)
  refine⟨_,rfl,sr,_,rfl,.inr (bp.of gZ),_,rfl,by lia,by rw[bi];lia,fun D hD=>?_⟩;rw[bi];refine q0 (lo:=0) (n:=ns.length) (fun j=>decide (b∈y_ ns a j)) (fun σ=>∃u,σ=[u,some (.int (b:Int)),some (.ref sr),some (.int (a:Int))]) hD (by lia) ⟨_,rfl⟩ ?_ ?_
  .rintro j σ H5 Kt Kf hj ⟨b',rfl⟩ s5 kt kf;rw[eK] at kt |-;refine⟨_,rfl,_,rfl,_,rfl,_,rfl,sr,ns,a,j,rfl,s5 _ _ gZ,BX,hj,fun r1 H6 s6 _ yw=>⟨r1,_,rfl,.inl (br.of yw),rfl,lI,_,rfl,?_⟩⟩;rw[ap bq,PY];exact iE (fun c=>⟨_,rfl,kt _ _ ⟨_,rfl⟩ s6 c⟩) (fun c=>kf _ _ ⟨_,rfl⟩ s6 (j8.mpr c))
  intro H5 s5 nk;have e1:(List.range ns.length).filter (fun j=>decide (b∈y_ ns a j))=[k]:=ui kl fun x hx=>by
   rw[fD,w6 BX.pos hx];exact⟨fun u=>a8 ((e8 u).symm.trans (e8 t)),fun u=>u ▸ t⟩
  rw[e1] at nk;exact⟨D,_,0,_,rfl,rfl,br.of nk,aw (j:=0) (by simp),q H5 s5⟩
theorem ER:aD ["_law_sides_here","_law_homes","_law_stand","_law_handing","_law_i","_law_here","_law_turn","_law_wish_here","_law_takers"] ["_law_sides_here","_law_homes","_law_stand","_law_handing","_law_i"] (am ZQ):=⟨rfl,rfl,rfl,by decide +kernel,rfl,by decide +kernel,by decide +kernel⟩
def Ql:Sp:=fun vs H Q _=>∃ (sr ha sa ta:Addr) (ns homes:List Nat) (st cs:List (Option Nat)) (i h:Nat),vs=[.ref sr,.ref ha,.ref sa,.ref ta,.int i]/\H sr=some (.tup (NV ns))/\Bx ns/\fR (pr ns) (jq ns)/\Sn ns homes st/\ur ns homes st (cs.map oV)/\H ha=some (.tup (NV homes))/\H sa=some (.tup (st.map oV))/\H ta=some (.tup (fu st.length (ge ns homes st cs)))/\st.getD i none=some h/\
 ∀H',aA H H'->(∀e,IT ns homes st cs i=some e->e<st.length/\y7 ns h (ju ns homes h e) (vp ns homes h e)/\ge ns homes st cs e=some (ju ns homes h e)/\vp ns homes h i<=vp ns homes h e)->Q (oV (IT ns homes st cs i)) H'
set_option maxHeartbeats 4000000 in
theorem UX{f:Addr}{fd:FuncData}(F:eM K "_law_reason" "_law_reason" ZQ f fd)(B:Bl mg)(WI:cq P w K mg base a7 3 "_law_wish" ["_law_sides_here","_law_house","_law_home"] Pg):bn P w K mg base a7 4 f fd ["_law_sides_here","_law_homes","_law_stand","_law_handing","_law_i"] Ql:=by
 refine F.ok ER (fun vs H Q E h=>?_) (fun dz A outer s H vs Q E hr h=>?_)
 .obtain⟨sr,ha,sa,ta,ns,homes,st,cs,i,h,rfl,_⟩:=h;rfl
 .obtain⟨sr,ha,sa,ta,ns,homes,st,cs,i,h,rfl,gZ,BX,FN,SN,BT,nF,g8,EO,ei,q⟩:=h;have vm:=SN.vm;refine'⟨_,(ag (aN (i:=5) ER.nd rfl (Or.inl rfl) (pv 4))
   (ag (cI dQ rfl (bu rfl B.range (aa (bv eC (aJ aF (by rfl) B.len dH (aa (pv 2) af)) aB) af)) (au (i:=6) ER.nd rfl (Or.inl rfl))
    (ag (aN (i:=7) ER.nd rfl (Or.inr rfl) (az WI hr aE (aa (pv 0) (aa (aR bh (pv 2) (pv 5) (fun _ _=>rfl)) (aa (aR bh (pv 1) (pv 5) (fun _ _=>rfl)) af)))))
    (ag (bE (aK gv (aR bh (pv 3) (pv 5) (fun _ _=>rfl)) (pv 7) (aQ _)) (aj (aG (ip (aK gv (pv 5) (pv 4) (aQ _)) cn (pv 5)))) aL)
    (ag (dA (i:=8) (g:=(bV 0)) (tt:=(RL (iK (lM (NL) (lM (sB K) (be 1) (be 0)) (lM (sB K) (be 1) (be 2)))) (iK (lM (NL) (lM (sB K) (be 3) (be 0)) (be 4))))) (te:=(be 0)) (NB:=["_law_j","_law_stand","_law_i","_law_handing","_law_wish_here"]) (src:=[none,some 2,some 4,some 3,some 7]) (cp (by kernel_rfl)) rfl (bu rfl B.range (aa (aJ aF (by rfl) B.len dH (aa (pv 2) af)) af)) ?g1 ?t1 ?e1 ER.nd rfl rfl rfl)
    (ag (bE (aK nR (aJ aF (by rfl) B.len dH (aa (pv 8) af)) aB (aQ _)) (aj (aG (uL pB aB))) aL)
    (aj (aN (i:=5) ER.nd rfl (Or.inl rfl) (aR bC (pv 8) aB (fun _ _=>rfl)))))))))
   (aj (aG (uL pB aB))))),?_⟩
  case g1=>exact fun cl C s₃ H₃ fp=>(au (i:=0) IU rfl (Or.inl rfl) (Or.inr rfl))
  case t1=>exact fun cl C s₃ H₃ fp=>d8 (PW.pt (Fu (aK gv (aR bh (pv 1) (pv 0) (fun _ _=>rfl)) (aR bh (pv 1) (pv 2) (fun _ _=>rfl)) (aQ _)) (BU (aK gv (aR bh (pv 3) (pv 0) (fun _ _=>rfl)) (pv 4) (aQ _)))))
  case e1=>exact fun cl C s₃ H₃ fp=>(pv 0)
  refine⟨_,rfl,_,rfl,sa,_,rfl,.inr (bp.of g8),_,_,rfl,rfl,_,rfl,by rw[aP];lia,by rw[aP];lia,?_⟩;rw[aP,show ((st.length:Int)+1).toNat=st.length+1 by lia];refine dg (n:=st.length+1) (lo:=0) (fun m σ H2=>∃ (c:Nat) (ls:List Nat) (u6 u7 u8:Option V),σ=[some (.ref sr),some (.ref ha),some (.ref sa),some (.ref ta),some (.int (i:Int)),some (.int (c:Int)),u6,u7,u8]/\Wk ns homes st cs h i c ls/\ls.length=m/\aA H H2) ⟨i,[],_,_,_,rfl,Wk.start ei,rfl,aA.refl _⟩ ?_ ?_
  rotate_left
  .rintro σ H2 ⟨c,ls,u6,u7,u8,rfl,wk,el,s2⟩;have:=wk.len;exact absurd el (by lia)
  rintro m σ H2 hm ⟨c,ls,u6,u7,u8,rfl,wk,el,s2⟩;have hc:=iB (dD.mpr wk.ec);have L:=jY BX SN BT wk.ec;have hi:i<st.length:=iB (dD.mpr ei);have UY:∀ {x:Nat},st.getD x none=some h->x<st.length->(st.map oV)[x]?=some (.int (h:Int)):=fun e hx=>by rw[gW hx,e];rfl
  refine⟨_,rfl,_,rfl,_,rfl,sa,_,_,_,rfl,rfl,bp.of (s2 _ _ g8),aw (UY wk.ec hc),_,rfl,_,rfl,ha,_,_,_,rfl,rfl,bp.of (s2 _ _ nF),aw (l4 (by rw[SN.l];exact hc)),sr,ns,h,homes.getD c 0,rfl,s2 _ _ gZ,BX,fun H3 s3=>?_⟩;rw[L.ws];have UZ:=s2.trans s3;refine⟨_,rfl,_,rfl,ta,_,_,_,rfl,rfl,bp.of (UZ _ _ EO),aw (fw hc),_,rfl,jP,_,rfl,?_⟩;rw[show decide (oV (ge ns homes st cs c)=oV (some (ju ns homes h c)))=decide (ge ns homes st cs c=some (ju ns homes h c)) from ow];by_cases cw:ge ns homes st cs c=some (ju ns homes h c)
  .refine ft (aT cw) ?_;have ea:vq ns homes st cs c=false:=by
    cases z:vq ns homes st cs c with
    |false=>rfl
    |true=>exact absurd cw ((xt BX SN BT wk.ec).mp z)
   have er:=wk.fin ea;have q1:=q H3 UZ fun e ee=>by
    rw[er] at ee;by_cases z:ls=[]
    .rw[ai z] at ee;cases ee
    .rw[ap z] at ee;obtain rfl:=a8 ee;exact⟨hc,L.wt,cw,wk.pc⟩
   rw[er] at q1;refine⟨_,rfl,_,rfl,rfl,_,rfl,?_⟩;by_cases z:ls=[]
   .rw[ai z] at q1;exact ft (aT (by rw[wk.is.mpr z])) q1
   .rw[ap z] at q1;exact dE (cW fun y=>z (wk.is.mp (by injection y with y;exact cN y))) ⟨_,rfl,q1⟩
  .refine dE (cW cw) ?_;have ea:=(xt BX SN BT wk.ec).mpr cw;have wn:=wk.step BX FN SN BT ea;obtain⟨j,ej,en,ZT,ej2⟩:=xu BX FN SN BT wk.ec;rw[en] at wn;have hj:=iB (dD.mpr ZT);refine⟨_,rfl,sa,_,rfl,.inr (bp.of (UZ _ _ g8)),_,rfl,by rw[aP];lia,by rw[aP];lia,fun D hD=>?_⟩;rw[aP];refine q0 (lo:=0) (n:=st.length) (fun x=>decide (st.getD x none=some h)&&decide (ge ns homes st cs x=some (ju ns homes h c))) (fun σ=>∃u,σ=[u,some (.ref sa),some (.int (i:Int)),some (.ref ta),some (.int (ju ns homes h c:Nat))]) hD (by lia) ⟨_,rfl⟩ ?_ ?_
   .rintro x σ H5 Kt Kf hx ⟨u,rfl⟩ s5 kt kf;rw[eK] at kt |-;have Ro:=UZ.trans s5;refine⟨_,rfl,_,rfl,sa,_,_,_,rfl,rfl,bp.of (Ro _ _ g8),aw (gW hx),_,rfl,_,rfl,sa,_,_,_,rfl,rfl,bp.of (Ro _ _ g8),aw (UY ei hi),jP,_,rfl,?_⟩;rw[ow];by_cases c1:st.getD x none=some h
    .refine ft (aT c1) ⟨_,rfl,_,rfl,ta,_,_,_,rfl,rfl,bp.of (Ro _ _ EO),aw (fw hx),_,rfl,jP,_,rfl,?_⟩;rw[ow];by_cases c2:ge ns homes st cs x=some (ju ns homes h c)
     .exact ft (aT c2) ⟨_,rfl,kt _ _ ⟨_,rfl⟩ (aA.refl _) (by rw[aT c1,aT c2];rfl)⟩
     .exact dE (cW c2) (kf _ _ ⟨_,rfl⟩ (aA.refl _) (by rw[aT c1,cW c2];rfl))
    .exact dE (cW c1) (e_ (kf _ _ ⟨_,rfl⟩ (aA.refl _) (by rw[cW c1];rfl)))
   intro H5 s5 nk;have e1:(List.range st.length).filter (fun x=>decide (st.getD x none=some h)&&decide (ge ns homes st cs x=some (ju ns homes h c)))=[j]:=ui hj fun x hx=>by
    rw[gh,fD,fD];exact⟨fun z=>IS BX FN SN BT z.1 ZT z.2 ej2,fun z=>by subst z;exact⟨ZT,ej2⟩⟩
   rw[e1] at nk;have nk:H5 D=some (.lst [V.int (j:Int)]):=by rw[nk];simp
   refine⟨_,rfl,D,_,rfl,.inl (br.of nk),rfl,_,rfl,dE (by simp) ?_⟩;refine⟨_,rfl,D,_,0,_,rfl,rfl,br.of nk,aw (j:=0) rfl,?_⟩;refine⟨j,c::ls,_,_,_,by rw[eK];rfl,wn,by rw[cu,el],UZ.trans s5⟩
theorem Qm:aD ["_law_box","_law_sides_here","_law_homes","_law_stand","_law_came","_law_i","_law_told","_law_handing"] ["_law_box","_law_sides_here","_law_homes","_law_stand","_law_came","_law_i"] (am ZR):=⟨rfl,rfl,rfl,by decide +kernel,rfl,by decide +kernel,by decide +kernel⟩
def Qn(K:PySem.W.Frag)(C CB:Addr):Sp:=fun vs H Q _=>∃ (L:Addr->Prop) (b sr ha sa xa:Addr) (ns homes:List Nat) (st cs:List (Option Nat)) (i:Nat),vs=[.ref b,.ref sr,.ref ha,.ref sa,.ref xa,.int i]/\eF C CB H L b ns/\H sr=some (.tup (NV ns))/\H ha=some (.tup (NV homes))/\H sa=some (.tup (st.map oV))/\H xa=some (.tup (cs.map oV))/\Sn ns homes st/\ur ns homes st (cs.map oV)/\i<st.length/\∀H',aA H H'->Q (.bl true) H'
theorem LX{o:Option Nat}:JV (oV o) (oV o)=true:=by cases o <;> rfl
theorem U0{f C CB:Addr}{fd:FuncData}(F:eM K "_law_right" "_law_right" ZR f fd)(RE:cq P w K mg base a7 12 "reason" ["box","homes","stand","came","letter"] (Qj K C CB))(LH:cq P w K mg base a7 11 "lane_hand" ["box","homes","stand","came"] (yW K C CB))(RN:cq P w K mg base a7 4 "_law_reason" ["_law_sides_here","_law_homes","_law_stand","_law_handing","_law_i"] Ql)(WA:cq P w K mg base a7 4 "_law_way" ["_law_sides_here","_law_one","_law_other"] Qk)(PH:cq P w K mg base a7 2 "_law_phase" ["_law_sides_here","_law_house","_law_home"] Il):bn P w K mg base a7 13 f fd ["_law_box","_law_sides_here","_law_homes","_law_stand","_law_came","_law_i"] (Qn K C CB):=by
 refine F.ok Qm (fun vs H Q E h=>?_) (fun dz A outer s H vs Q E hr h=>?_)
 .obtain⟨L,b,sr,ha,sa,xa,ns,homes,st,cs,i,rfl,_⟩:=h;rfl
 .obtain⟨L,b,sr,ha,sa,xa,ns,homes,st,cs,i,rfl,BA,gZ,nF,g8,xc,SN,BT,hi,q⟩:=h;have h2:bA 2 _:=hr.mono (by decide);have h4:bA 4 _:=hr.mono (by decide);have UU:bA 11 _:=hr.mono (by decide);have BX:=BA.bx;obtain⟨_,_,_,_,NN,_⟩:=id BA.ob;have FN:=NN.oo;refine⟨_,(ag (aN (i:=6) Qm.nd rfl (Or.inl rfl) (az RE hr aE (aa (pv 0) (aa (pv 2) (aa (pv 3) (aa (pv 4) (aa (pv 5) af)))))))
   (ag (bE (aK i7 (aR bh (pv 3) (pv 5) (fun _ _=>rfl)) cn (aQ _)) (aj (aG (eT i7 (pv 6) cn (aQ _)))) aL)
   (ag (aN (i:=7) Qm.nd rfl (Or.inl rfl) (az LH UU aE (aa (pv 0) (aa (pv 2) (aa (pv 3) (aa (pv 4) af))))))
   (ag (bE (aK nR (pv 6) (az RN h4 aE (aa (pv 1) (aa (pv 2) (aa (pv 3) (aa (pv 7) (aa (pv 5) af)))))) (aQ _)) (aj (aG kG)) aL)
   (ag (bE (aK i7 (pv 6) cn (aQ _)) (aj (aG kG)) aL)
   (aj (aG (eT R4 (az WA h4 aE (aa (pv 1) (aa (aR bh (pv 3) (pv 5) (fun _ _=>rfl)) (aa (aR bh (pv 7) (pv 6) (fun _ _=>rfl)) af)))) (az PH h2 aE (aa (pv 1) (aa (aR bh (pv 3) (pv 5) (fun _ _=>rfl)) (aa (aR bh (pv 2) (pv 5) (fun _ _=>rfl)) af)))) (aQ _))))))))),?_⟩
  refine⟨_,rfl,_,rfl,_,rfl,_,rfl,_,rfl,L,b,ha,sa,xa,ns,homes,st,cs,i,rfl,BA,nF,g8,xc,SN,BT,hi,fun H1 s1=>?_⟩;refine⟨_,rfl,_,rfl,sa,_,_,_,rfl,rfl,bp.of (s1 _ _ g8),aw (gW hi),rfl,_,rfl,?_⟩;cases e:st.getD i none with
  |none=>
   have er:IT ns homes st cs i=none:=by unfold IT;rw[e]
   rw[er];exact ft rfl ⟨_,rfl,rfl,q H1 s1⟩
  |some h=>
   refine dE rfl ?_;refine⟨_,rfl,_,rfl,_,rfl,_,rfl,L,b,ha,sa,xa,ns,homes,st,cs,rfl,BA.same s1,s1 _ _ nF,s1 _ _ g8,s1 _ _ xc,SN,BT,fun ta H2 s2 EO=>?_⟩;have j4:=s1.trans s2;refine⟨_,rfl,_,rfl,_,rfl,_,rfl,_,rfl,_,rfl,sr,ha,sa,ta,ns,homes,st,cs,i,h,rfl,j4 _ _ gZ,BX,FN,SN,BT,j4 _ _ nF,j4 _ _ g8,EO,e,fun H3 s3 fx=>⟨LX,_,rfl,dE (by rw[aT rfl];rfl) ?_⟩⟩;have pW:=j4.trans s3;cases er:IT ns homes st cs i with
   |none=>exact⟨_,rfl,rfl,_,rfl,ft rfl (q H3 pW)⟩
   |some c=>
    obtain⟨f1,f2,f3,f4⟩:=fx c er;have Li:=jY BX SN BT e;have UY:(st.map oV)[i]?=some (.int (h:Int)):=by rw[gW hi,e];rfl
    refine⟨_,rfl,rfl,_,rfl,dE rfl ?_⟩;refine⟨_,rfl,_,rfl,_,rfl,sa,_,_,_,rfl,rfl,bp.of (pW _ _ g8),aw UY,_,rfl,_,rfl,ta,_,_,_,rfl,rfl,bp.of (s3 _ _ EO),aw (show (fu st.length (ge ns homes st cs))[c]?=some (.int (ju ns homes h c:Nat)) by rw[fw f1,f3];rfl),sr,ns,h,ju ns homes h c,vp ns homes h c,rfl,pW _ _ gZ,BX,f2,fun H4 s4=>?_⟩;have IP:=pW.trans s4;refine⟨_,rfl,_,rfl,_,rfl,sa,_,_,_,rfl,rfl,bp.of (IP _ _ g8),aw UY,_,rfl,_,rfl,ha,_,_,_,rfl,rfl,bp.of (IP _ _ nF),aw (l4 (by rw[SN.l];exact hi)),sr,ns,h,homes.getD i 0,rfl,IP _ _ gZ,BX,fun H5 s5=>?_⟩;rw[Li.ph];refine⟨_,_,rfl,rfl,?_⟩;have qq:=q H5 (IP.trans s5);rw[<-aT (show ((vp ns homes h i:Nat):Int)<=((vp ns homes h c:Nat):Int) by lia)] at qq;exact qq
end
abbrev BG:Stmt:=fA 67
theorem Qo{ns:List Nat}(B:Bx ns):2<=pr ns:=by
 have h1:=B.l1;have hs:=B.sd;have hp:=B.pos;cases ns with
 |nil=>exact absurd h1 (by decide)
 |cons n l=>
  have a:=(hs n bG).1;have b:=HW (ns:=l) fun x hx=>hp x (bJ _ hx);show 2<=n*pr l;exact bj (show 2<=n*1 by lia) (oP n b)
theorem _root_.L2.og.kE{lp:Pos}{q:Str}{p Pt:Addr}{H H':Hp}(t:og lp q Pt H)(s:cx p H H')(hp:cQ H p):og lp q Pt H':=by
 obtain⟨a,b,e,_⟩:=hp;rcases t with z|⟨c,z,y⟩
 .exact .inl (s _ _ z (by rintro rfl;rw[z] at e;cases e))
 .exact .inr ⟨c,s _ _ z (by rintro rfl;rw[z] at e;cases e),s _ _ y (by rintro rfl;rw[y] at e;cases e)⟩
theorem _root_.L2.og.sm{lp:Pos}{q:Str}{Pt:Addr}{H H':Hp}(t:og lp q Pt H)(s:aA H H'):og lp q Pt H':=by
 rcases t with z|⟨c,z,y⟩
 .exact .inl (s _ _ z)
 .exact .inr ⟨c,s _ _ z,s _ _ y⟩
theorem eF.eS{C CB b p:Addr}{H H':Hp}{L:Addr->Prop}{ns:List Nat}(h:eF C CB H L b ns)(s:cx p H H')(hp:cQ H p)(nL:¬ L p):eF C CB H' L b ns:=by
 obtain⟨dx,pn,sr,hb,N,gZ⟩:=h.ob;obtain⟨x,y,e,_⟩:=hp;refine⟨h.bx,dx,pn,sr,s _ _ hb (by rintro rfl;rw[hb] at e;cases e),N.keep (fun c o l z=>s _ _ z (by rintro rfl;exact nL l)) (fun o z=>s _ _ z ?_),s _ _ gZ (by rintro rfl;rw[gZ] at e;cases e)⟩;obtain⟨_,_,_,_,g,_⟩:=N.ob;rintro rfl;rw[g] at e;cases e
section
variable {P:Program} {w:World} {K:PySem.W.Frag} {mg:Str->Option Value} {base:Heap}
def Fa(K:PySem.W.Frag)(H:Hp)(a:Addr)(xs:List V):Prop:=(∃o,H a=some (.mK o (.lst xs)))\/(∀H':Hp,br K H' a xs)
theorem Fa.seq{H:Hp}{a:Addr}{xs:List V}(h:Fa K H a xs):br K H a xs:=by
 rcases h with ⟨o,h⟩|h
 .exact .inl (.inr ⟨o,h⟩)
 .exact h H
theorem Fa.mono{H H':Hp}{a:Addr}{xs:List V}(h:Fa K H a xs)(e:∀o u,H a=some (.mK o u)->H' a=some (.mK o u)):Fa K H' a xs:=by
 rcases h with ⟨o,h⟩|h
 .exact .inl ⟨o,e _ _ h⟩
 .exact .inr h
theorem Fa.eS{H H':Hp}{a p:Addr}{xs:List V}(h:Fa K H a xs)(s:cx p H H')(hp:cQ H p):Fa K H' a xs:=by
 obtain⟨x,y,e,_⟩:=hp;exact h.mono fun o u z=>s _ _ z (by rintro rfl;rw[z] at e;cases e)
structure Cs(K:PySem.W.Frag)(C CB Pt:Addr)(L:Addr->Prop)(a p bx sd:Addr)(xs:List V)(ns:List Nat)(H:Hp):Prop where
 scr:Fa K H a xs
 qA:cQ H p
 box:eF C CB H L bx ns
 nl:¬ L p
 hd:H sd=some (.tup (NV ns))
 tp:nE Pt H
theorem Cs.eS{C CB Pt a p bx sd:Addr}{L:Addr->Prop}{xs:List V}{ns:List Nat}{H H':Hp}(c:Cs K C CB Pt L a p bx sd xs ns H)(s:cx p H H')(hp:cQ H' p):Cs K C CB Pt L a p bx sd xs ns H':=
 ⟨c.scr.eS s c.qA,hp,c.box.eS s c.qA c.nl,c.nl,s _ _ c.hd (c.qA.neT c.hd),c.tp.kE s c.qA⟩
structure Ct(K:PySem.W.Frag)(C CB Pt:Addr)(L:Addr->Prop)(a p bx sd ha sa ca:Addr)(xs:List V)(ns homes:List Nat)(st cm:List (Option Nat))(H:Hp):Prop where
 cs:Cs K C CB Pt L a p bx sd xs ns H
 hh:H ha=some (.tup (NV homes))
 hs:H sa=some (.tup (st.map oV))
 hc:H ca=some (.tup (cm.map oV))
theorem Ct.eS{C CB Pt:Addr}{L:Addr->Prop}{a p bx sd ha sa ca:Addr}{xs:List V}{ns homes:List Nat}{st cm:List (Option Nat)}{H H':Hp}(c:Ct K C CB Pt L a p bx sd ha sa ca xs ns homes st cm H)(s:cx p H H')(hp:cQ H' p):Ct K C CB Pt L a p bx sd ha sa ca xs ns homes st cm H':=
 ⟨c.cs.eS s hp,s _ _ c.hh (c.cs.qA.neT c.hh),s _ _ c.hs (c.cs.qA.neT c.hs),s _ _ c.hc (c.cs.qA.neT c.hc)⟩
theorem Ct.same{C CB Pt:Addr}{L:Addr->Prop}{a p bx sd ha sa ca:Addr}{xs:List V}{ns homes:List Nat}{st cm:List (Option Nat)}{H H':Hp}(c:Ct K C CB Pt L a p bx sd ha sa ca xs ns homes st cm H)(s:aA H H'):Ct K C CB Pt L a p bx sd ha sa ca xs ns homes st cm H':=c.eS (cx.of s) (c.cs.qA.same s)
theorem Nh:(["_law_to","_law_home"]:List Str).Nodup:=by decide +kernel
theorem Ni:(["_law_house","_law_on"]:List Str).Nodup:=by decide +kernel
theorem Nj:(["_law_to","_law_on"]:List Str).Nodup:=by decide +kernel
theorem iR:aD ["_law_script","_law_k","_law_pot_here","_law_sides_here","_law_box","_law_homes","_law_stand","_law_came","_law_turn","_law_i","_law_told","_law_gone"] ["_law_script"] (am BG):=⟨rfl,rfl,rfl,by decide +kernel,rfl,by decide +kernel,by decide +kernel⟩
def Dj(K:PySem.W.Frag)(Pt:Addr):Sp:=fun vs H Q _=>∃ (a:Addr) (ns:List Int),vs=[.ref a]/\Fa K H a (ns.map V.int)/\ns.length<=63/\nE Pt H/\∀H',Q (.bl true) H'
theorem uj{K:PySem.W.Frag}{ka kb:Bool}{a b D:Addr}{n:Nat}{f g v:Nat->V}{gg:TG}{te:TE}{fin:Hp->Prop}{H0:Hp}(hn:n<=16)(hD:H0 D=none)(hl:∀H,aA H0 H->CW ka K H a ((List.range n).map f)/\CW kb K H b ((List.range n).map g))(hs:∀i u w p H (Kt:V->St->Hp->Prop),i<n->aA H0 H->H p=some (.tup [f i,g i])->(∀u w,Kt (v i) [u,w] H)->gg (.ref p) [u,w] H fun σ2 H2=>te σ2 H2 fun x H4=>Kt x σ2 H4)(hd:∀H,aA H0 H->H D=some (.lst ((List.range n).map v))->fin H):gR (Bd ka kb K a b) gg F6 te D fin [none,none] (upd H0 D (.lst [])):=by
 have len:∀f:Nat->V,((List.range n).map f).length=n:=fun f=>by rw[aP,dO]
 refine EA (xs:=(List.range n).map f) (ys:=(List.range n).map g) (by rw[len,len]) (fun i ys σ H=>(∃u w,σ=[u,w])/\aA H0 H/\H D=some (.lst ys)/\ys=(List.range i).map v) ⟨⟨_,_,rfl⟩,ao hD,ah,rfl⟩ (fun i ys σ H _ z=>hl H z.2.1) ?_ ?_
 .rintro i x y p ys σ H Kt Kf hx hy ⟨⟨u,w,rfl⟩,s,d,rfl⟩ hp kt kf;have hi:i<n:=by have:=(dk.mp hx).1;rwa [len] at this
  rw[bL,oQ hi] at hx hy;obtain rfl:=a8 hx;obtain rfl:=a8 hy;have sp:=ao (o:=.tup [f i,g i]) hp;refine hs i u w p _ Kt hi (s.trans sp) ah fun u w=>kt _ _ _ (sp _ _ d) (by rw[aP,dO];exact bK (show i<17 by lia) (by decide)) ⟨⟨_,_,rfl⟩,cy (s.trans sp) hD,ah,?_⟩;rw[iV,d_];rfl
 .rintro ys σ H ⟨_,s,d,rfl⟩;rw[len] at d;exact hd H s d
theorem IW{st:List (Option Nat)}:st.map oV=(List.range st.length).map fun i=>oV (st.getD i none):=by
 refine mn fun i=>?_;rcases gQ i st.length with c|c
 .rw[gW c,bL,oQ c];rfl
 .rw[gN (by rw[aP];exact c),gN (by rw[aP,dO];exact c)]
theorem IX{ns:List Nat}{n:Nat}(h:ns.length=n):NV ns=(List.range n).map fun i=>V.int (ns.getD i 0:Nat):=by
 subst h;refine mn fun i=>?_;rcases gQ i ns.length with c|c
 .rw[l4 c,bL,oQ c];rfl
 .rw[gN (by rw[bi];exact c),gN (by rw[aP,dO];exact c)]
set_option maxHeartbeats 8000000 in
theorem Qp{f C CB Pt fB:Addr}{fd fdB:FuncData}(F:eM K "law" "law" BG f fd)(B:Bl mg)(Qq:mg "zip"=none)(TB:CZ K mg CB)(MB:Mk K CB fB)(bB:jg K fdB ["self","sides"] [])(GB:bn P w K mg base a7 11 fB fdB ["self","sides"] (HQ C CB Pt))(PT:cq P w K mg base a7 1 "_law_pot" ["_law_script","_law_k"] (Ie K))(DR:cq P w K mg base a7 1 "_law_draw" ["_law_pot_here","_law_many_here"] Bg)(SI:cq P w K mg base a7 2 "_law_sides" ["_law_pot_here"] Pe)(BT:cq P w K mg base a7 5 "_law_berthed" ["_law_pot_here","_law_sides_here"] Pz)(LH:cq P w K mg base a7 11 "lane_hand" ["box","homes","stand","came"] (yW K C CB))(RI:cq P w K mg base a7 13 "_law_right" ["_law_box","_law_sides_here","_law_homes","_law_stand","_law_came","_law_i"] (Qn K C CB)):
  bn P w K mg base a7 14 f fd ["_law_script"] (Dj K Pt):=by
 refine F.ok iR (fun vs H Q E h=>?_) (fun dz A outer s H vs Q E hr h=>?_)
 .obtain⟨a,ns,rfl,_⟩:=h;rfl
 .obtain⟨a,JD,rfl,hS,AM,tb,q⟩:=h;have h1:bA 1 _:=hr.mono (by decide);have h2:bA 2 _:=hr.mono (by decide);have h5:bA 5 _:=hr.mono (by decide);have h12:bA 12 _:=hr.mono (by decide);have ZU:bA 13 _:=hr;have UU:bA 11 _:=hr.mono (by decide);refine'⟨_,(ag (cI dQ rfl (bu rfl B.range (aa (aJ (uM rfl) (by rfl) B.max PyProof.Rows.boot_max (aa aB (aa (aJ (uN rfl) (by rfl) B.min PyProof.Rows.boot_min (aa (aJ aF (by rfl) B.len dH (aa (pv 0) af)) (aa aB af))) af))) af)) (au (i:=1) iR.nd rfl (Or.inl rfl))
    (ag (aN (i:=2) iR.nd rfl (Or.inl rfl) (az PT h1 aE (aa (pv 0) (aa (pv 1) af))))
    (ag (aN (i:=3) iR.nd rfl (Or.inl rfl) (az SI h2 aE (aa (pv 2) af)))
    (ag (aN (i:=4) iR.nd rfl (Or.inl rfl) (B1 MB GB h12 rfl TB.XW bB .nil aE (aa (pv 3) af)))
    (ag (i6 (az BT h5 aE (aa (pv 2) (aa (pv 3) af))) (fj (n:=3) rfl (aV (au (i:=5) iR.nd rfl (Or.inl rfl)) (aV (au (i:=6) iR.nd rfl (Or.inl rfl)) (aV (au (i:=7) iR.nd rfl (Or.inl rfl)) d7)))))
    (aj (cI dQ rfl (bu rfl B.range (aa (bv eC aB (az DR h1 aE (aa (pv 2) (aa aB af)))) af)) (au (i:=8) iR.nd rfl (Or.inl rfl))
     (ag (cI dQ rfl (bu rfl B.range (aa (aJ aF (by rfl) B.len dH (aa (pv 6) af)) af)) (au (i:=9) iR.nd rfl (Or.inl rfl))
      (aj (bE (dw (cR (az RI ZU aE (aa (pv 4) (aa (pv 3) (aa (pv 5) (aa (pv 6) (aa (pv 7) (aa (pv 9) af))))))))) (aj (aG kG)) aL)))
     (ag (aN (i:=10) iR.nd rfl (Or.inl rfl) (az LH UU aE (aa (pv 4) (aa (pv 5) (aa (pv 6) (aa (pv 7) af))))))
     (ag (dA (i:=11) (g:=(wq K 2 (gn (bV 0) (gn (bV 1) wm)))) (te:=(Ml (lM Nf (be 0) (tC .bR)) (lM (WV) (be 0) (be 1)))) (NB:=["_law_to","_law_home"]) (src:=[none,none]) (cp (by kernel_rfl)) rfl (qZ (ka:=false) (kb:=false) rfl Qq (aa (pv 10) (aa (pv 5) af))) ?g1 ?t1 ?e1 iR.nd rfl rfl rfl)
     (ag (aN (i:=7) iR.nd rfl (Or.inl rfl) (bW ce (by rfl) B.tup jQ (aa ?c2 af)))
     (aj (aN (i:=6) iR.nd rfl (Or.inl rfl) (bW ce (by rfl) B.tup jQ (aa ?c3 af)))))))))))))))
   (aj (aG kG))),?_⟩
  case g1=>exact fun cl C s₃ H₃ fp=>(fj (n:=2) rfl (aV (au (i:=0) Nh rfl (Or.inl rfl) (Or.inr rfl)) (aV (au (i:=1) Nh rfl (Or.inl rfl) (Or.inr rfl)) d7)))
  case t1=>exact fun cl C s₃ H₃ fp=>eG
  case e1=>exact fun cl C s₃ H₃ fp=>(kI (eT wu (pv 0) cn (aQ _)) (mR (eT nR (pv 0) (pv 1) (aQ _))))
  case c2=>
   refine' dN (g:=(wq K 2 (gn (bV 0) (gn (bV 1) wm)))) (te:=(WJ (tB (be 1)) (be 0) (tC .bR))) (NB:=["_law_house","_law_on"]) (src:=[none,none]) (cp (by kernel_rfl)) rfl (qZ (ka:=false) (kb:=true) rfl Qq (aa (pv 6) (aa (pv 11) af))) ?g ?t ?e;case g=>exact fun cl C s₃ H₃ fp=>(fj (n:=2) rfl (aV (au (i:=0) Ni rfl (Or.inl rfl) (Or.inr rfl)) (aV (au (i:=1) Ni rfl (Or.inl rfl) (Or.inr rfl)) d7)))
   case t=>exact fun cl C s₃ H₃ fp=>eG
   case e=>exact fun cl C s₃ H₃ fp=>(ip (cR (pv 1)) (pv 0) cn)
  case c3=>
   refine' dN (g:=(wq K 2 (gn (bV 0) (gn (bV 1) wm)))) (te:=(WJ (tB (be 1)) (be 0) (tC .bR))) (NB:=["_law_to","_law_on"]) (src:=[none,none]) (cp (by kernel_rfl)) rfl (qZ (ka:=false) (kb:=true) rfl Qq (aa (pv 10) (aa (pv 11) af))) ?g ?t ?e;case g=>exact fun cl C s₃ H₃ fp=>(fj (n:=2) rfl (aV (au (i:=0) Nj rfl (Or.inl rfl) (Or.inr rfl)) (aV (au (i:=1) Nj rfl (Or.inl rfl) (Or.inr rfl)) d7)))
   case t=>exact fun cl C s₃ H₃ fp=>eG
   case e=>exact fun cl C s₃ H₃ fp=>(ip (cR (pv 1)) (pv 0) cn)
  refine⟨_,rfl,a,_,rfl,.inl hS.seq,_,4,rfl,1,_,rfl,_,rfl,?_⟩;obtain⟨j,hj,j1⟩:∃j:Int,(if (if (4:Int)<(((JD.map V.int).length:Nat):Int) then (4:Int) else (((JD.map V.int).length:Nat):Int)) > 1 then (if (4:Int)<(((JD.map V.int).length:Nat):Int) then (4:Int) else (((JD.map V.int).length:Nat):Int)) else 1)=j/\1<=j/\j<=4:=⟨_,rfl,by split <;> split <;> lia⟩
  rw[hj];refine⟨by lia,by lia,dg (n:=j.toNat) (lo:=0) (fun k σ H2=>(∃x1 x2 x3 x4 x5 x6 x7 x8 x9 y1 y2,σ=[some (.ref a),x1,x2,x3,x4,x5,x6,x7,x8,x9,y1,y2])/\Fa K H2 a (JD.map V.int)/\nE Pt H2) ⟨⟨_,_,_,_,_,_,_,_,_,_,_,rfl⟩,hS,tb⟩ ?_ (fun σ H2 _=>q H2)⟩;rintro k σ H2 hk ⟨⟨x1,x2,x3,x4,x5,x6,x7,x8,x9,y1,y2,rfl⟩,S2,t2⟩;refine⟨_,rfl,_,rfl,a,JD,k,by rw[eK];rfl,S2.seq,by lia,fun p H3 s3 np p3=>?_⟩;refine⟨_,rfl,p,rfl,p3,fun sd ns H6 s6 p6 PB BX=>?_⟩;have Rn:=BX.Rn;have pr2:=Qo BX;have S6:=(S2.mono fun o u e=>s3 _ _ e).eS s6 p3;have t6:=(t2.sm s3).kE s6 p3;refine⟨_,rfl,fun bx dx nx Yi Yj=>?_⟩;have sN:aA H6 (upd (upd H6 dx (.own bx)) bx (.ins CB dx [])):=(ao (o:=.own bx) Yi).trans (ao (D:=bx) (o:=.ins CB dx []) (by rw[al Yj.symm];exact nx));have gbx:(upd (upd H6 dx (.own bx)) bx (.ins CB dx [])) bx=some (.ins CB dx []):=ah;generalize upd (upd H6 dx (.own bx)) bx (.ins CB dx [])=HM at *;refine⟨bx,dx,sd,ns,rfl,gbx,sN _ _ PB,BX,t6.sm sN,fun H8 BA t8 s8=>⟨rfl,?_⟩⟩;have tN:nE Pt HM:=t6.sm sN;have kp:∀ {c o},H6 c=some o->(∀ps,o≠.qJ ps)->H8 c=some o:=fun {c o} e nt=>s8 _ _ (sN _ _ e) (aq e nx) (tN.not (sN _ _ e) nt);have cs:Cs K C CB Pt (fun a=>HM a=none) a p bx sd (JD.map V.int) ns H8:=by
   refine⟨S6.mono fun o u e=>kp e (by intro ps z;cases z),?_,BA,fun z=>?_,kp PB (by intro ps z;cases z),t8⟩
   .obtain⟨u,v,e,r⟩:=p6;exact⟨u,v,kp e (by intro ps z;cases z),r⟩
   .exact(p6.same sN).full z
  clear kp;refine⟨_,rfl,_,rfl,p,sd,ns,rfl,cs.qA,cs.hd,BX,pr2,fun t ha sa ca homes st cm H9 s9 p9 ht nF g8 Ug SN cl Qr=>⟨t,_,rfl,bp.of ht,rfl,_,_,rfl,_,_,rfl,_,_,rfl,rfl,?_⟩⟩;have ct:Ct K C CB Pt (fun a=>HM a=none) a p bx sd ha sa ca (JD.map V.int) ns homes st cm H9:=⟨cs.eS s9 p9,nF,g8,Ug⟩
  clear cs S6 t6 p6 p3 PB s9 p9 ht nF g8 Ug;obtain⟨_,_,_,_,NN,_⟩:=id ct.cs.box.ob;have FN:=NN.oo;refine⟨_,rfl,p,4,rfl,by decide,by decide,ct.cs.qA,fun d HA hd sA pA=>?_⟩;have cA:=ct.eS sA pA;clear ct sA pA;refine⟨_,_,rfl,rfl,_,rfl,by lia,by lia,dg (n:=1+d) (lo:=0) (fun _ σ HB=>∃ (sa ca:Addr) (st cm:List (Option Nat)) (x8 x9 y1 y2:Option V),σ=[some (.ref a),some (.int (k:Int)),some (.ref p),some (.ref sd),some (.ref bx),some (.ref ha),some (.ref sa),some (.ref ca),x8,x9,y1,y2]/\Ct K C CB Pt (fun a=>HM a=none) a p bx sd ha sa ca (JD.map V.int) ns homes st cm HB/\Sn ns homes st/\ur ns homes st (cm.map oV)) ⟨sa,ca,st,cm,_,_,_,_,by rw[eK];rfl,cA,SN,Qr⟩ ?_ ?_⟩
  rotate_left
  .rintro σ HB ⟨sa,ca,st,cm,x8,x9,y1,y2,rfl,c9,_,_⟩;exact⟨⟨_,_,_,_,_,_,_,_,_,_,_,rfl⟩,c9.cs.scr,c9.cs.tp⟩
  clear cA SN Qr cl;rintro i σ HB hi ⟨sa,ca,st,cm,x8,x9,y1,y2,rfl,cB,SN,Qr⟩;have vm:=SN.vm;refine⟨_,rfl,sa,_,rfl,.inr (bp.of cB.hs),_,rfl,by rw[aP];lia,by rw[aP];lia,?_⟩;rw[aP];refine dg (n:=st.length) (lo:=0) (fun _ σ HC=>(∃x8 x9,σ=[some (.ref a),some (.int (k:Int)),some (.ref p),some (.ref sd),some (.ref bx),some (.ref ha),some (.ref sa),some (.ref ca),x8,x9,y1,y2])/\aA HB HC) ⟨⟨_,_,rfl⟩,aA.refl _⟩ ?_ ?_
  .rintro x σ HC hx ⟨⟨x8,x9,rfl⟩,sC⟩;have cC:=cB.same sC;exact⟨_,rfl,_,rfl,_,rfl,_,rfl,_,rfl,_,rfl,_,bx,sd,ha,sa,ca,ns,homes,st,cm,x,by rw[eK];rfl,cC.cs.box,cC.cs.hd,cC.hh,cC.hs,cC.hc,SN,Qr,hx,fun HD sD=>⟨_,rfl,dE rfl ⟨⟨_,_,rfl⟩,sC.trans sD⟩⟩⟩
  rintro σ HC ⟨⟨x8,x9,rfl⟩,sC⟩;have cC:=cB.same sC;refine⟨_,rfl,_,rfl,_,rfl,_,rfl,_,bx,ha,sa,ca,ns,homes,st,cm,rfl,cC.cs.box,cC.hh,cC.hs,cC.hc,SN,Qr,fun tl HD sD tD=>?_⟩;have cD:=cC.same sD;have ehm:NV homes=(List.range st.length).map fun i=>V.int (homes.getD i 0:Nat):=IX SN.l;refine⟨_,rfl,_,rfl,tl,ha,_,_,rfl,bp.of tD,bp.of cD.hh,by rw[fv,bi,SN.l],fun D1 IM=>?_⟩;refine uj (ka:=false) (kb:=false) (n:=st.length) (f:=fun i=>oV (ge ns homes st cm i)) (g:=fun i=>V.int (homes.getD i 0:Nat)) (v:=fun i=>V.bl (xo ns homes st cm i)) vm IM (fun H s=>⟨bp.of (s _ _ tD),by rw[<-ehm];exact bp.of (s _ _ cD.hh)⟩) ?_ ?_
  .rintro i u w' p' H Kt hi s hp kt;refine⟨p',_,rfl,bp.of hp,rfl,_,_,rfl,_,_,rfl,rfl,?_⟩;refine⟨_,rfl,rfl,_,rfl,?_⟩;have kt:=kt (some (oV (ge ns homes st cm i))) (some (.int (homes.getD i 0:Nat)));unfold xo at kt;cases e:ge ns homes st cm i with
   |none=>rw[e] at kt;exact dE rfl kt
   |some y=>
    rw[e] at kt;refine ft rfl ⟨_,rfl,_,rfl,rfl,?_⟩;rw[show (!decide (oV (some y)=V.int (homes.getD i 0:Nat)))=decide (y≠homes.getD i 0) by
     rw[decide_not];congr 1;exact rJ.mpr ⟨fun z=>by injection z with z;exact cN z,fun z=>by rw[z];rfl⟩]
    exact kt
  intro HE sE f1;have cE:=cD.same sE;have tE:=sE _ _ tD;refine⟨_,rfl,_,rfl,sa,D1,_,_,rfl,bp.of cE.hs,br.of f1,by rw[aP,aP,dO],fun D2 pV=>?_⟩;refine uj (ka:=false) (kb:=true) (n:=st.length) (f:=fun i=>oV (st.getD i none)) (g:=fun i=>V.bl (xo ns homes st cm i)) (v:=fun i=>oV (if xo ns homes st cm i=true then st.getD i none else none)) vm pV (fun H s=>⟨by rw[<-IW];exact bp.of (s _ _ cE.hs),br.of (s _ _ f1)⟩) ?_ ?_
  .rintro i u w' p' H Kt hi s hp kt;refine⟨p',_,rfl,bp.of hp,rfl,_,_,rfl,_,_,rfl,rfl,?_⟩;have kt:=kt (some (oV (st.getD i none))) (some (.bl (xo ns homes st cm i)));refine⟨_,rfl,_,rfl,?_⟩;cases e:xo ns homes st cm i with
   |true=>rw[e,ai rfl] at kt;exact ft rfl ⟨_,rfl,kt⟩
   |false=>rw[e,ap bq] at kt;exact dE rfl kt
  intro HF sF f2;have ec:((List.range st.length).map fun i=>oV (if xo ns homes st cm i=true then st.getD i none else none))=(EN ns homes st cm).map oV:=by unfold EN;rw[fh];rfl
  rw[ec] at f2;refine⟨D2,_,rfl,.inl ⟨br.of f2,fun Q_ ZV=>?_⟩⟩;have sG:=ao (o:=.tup ((EN ns homes st cm).map oV)) ZV;have gca:upd HF Q_ (.tup ((EN ns homes st cm).map oV)) Q_=some (.tup ((EN ns homes st cm).map oV)):=ah;generalize upd HF Q_ (.tup ((EN ns homes st cm).map oV))=HG at *;have ZW:=sF.trans sG;have cG:=cE.same ZW;have tG:=ZW _ _ tE;have f1G:=ZW _ _ f1;refine⟨_,rfl,_,rfl,tl,D1,_,_,rfl,bp.of tG,br.of f1G,by rw[fv,aP,dO],fun D3 qz=>?_⟩;refine uj (ka:=false) (kb:=true) (n:=st.length) (f:=fun i=>oV (ge ns homes st cm i)) (g:=fun i=>V.bl (xo ns homes st cm i)) (v:=fun i=>oV (if xo ns homes st cm i=true then ge ns homes st cm i else none)) vm qz (fun H s=>⟨bp.of (s _ _ tG),br.of (s _ _ f1G)⟩) ?_ ?_
  .rintro i u w' p' H Kt hi s hp kt;refine⟨p',_,rfl,bp.of hp,rfl,_,_,rfl,_,_,rfl,rfl,?_⟩;have kt:=kt (some (oV (ge ns homes st cm i))) (some (.bl (xo ns homes st cm i)));refine⟨_,rfl,_,rfl,?_⟩;cases e:xo ns homes st cm i with
   |true=>rw[e,ai rfl] at kt;exact ft rfl ⟨_,rfl,kt⟩
   |false=>rw[e,ap bq] at kt;exact dE rfl kt
  intro HI sI f3;have es:((List.range st.length).map fun i=>oV (if xo ns homes st cm i=true then ge ns homes st cm i else none))=(EM ns homes st cm).map oV:=by unfold EM;rw[fh];rfl
  rw[es] at f3;refine⟨D3,_,rfl,.inl ⟨br.of f3,fun U1 ZX=>?_⟩⟩;have sJ:=ao (o:=.tup ((EM ns homes st cm).map oV)) ZX;have gsa:upd HI U1 (.tup ((EM ns homes st cm).map oV)) U1=some (.tup ((EM ns homes st cm).map oV)):=ah;generalize upd HI U1 (.tup ((EM ns homes st cm).map oV))=HJ at *;have sGJ:=sI.trans sJ;have cJ:=cG.same sGJ;have gcJ:=sGJ _ _ gca;have ZJ:=Di BX FN SN Qr;have BT':=LQ BX FN SN Qr;have cK:Ct K C CB Pt (fun a=>HM a=none) a p bx sd ha U1 Q_ (JD.map V.int) ns homes (EM ns homes st cm) (EN ns homes st cm) HJ:=⟨cJ.cs,cJ.hh,gsa,gcJ⟩
  exact⟨U1,Q_,_,_,_,_,_,_,rfl,cK,ZJ,BT'⟩
end
def FD(K:PySem.W.Frag)(n:Str)(st:Stmt):Prop:=∃ (f:Addr) (oc:Value) (od an:Option Addr) (sl:Array (Option Value)) (kV dc pm cd ct:Value),PySem.W.nsIn K mainGlobals n=some (some (.ref f))/\K.lookup f=some ⟨oc,od,.func (PySem.W.fnOf n n (dv st) (cH st) (am st) .none kV dc pm an cd ct),sl⟩/\PySem.W.codeIn K cd n=true/\PySem.W.keepIn K (.ref f)=true
def FC(K:PySem.W.Frag)(n:Str)(st:Stmt)(c:Addr):Prop:=∃ (f:Addr) (oc:Value) (od an:Option Addr) (sl:Array (Option Value)) (kV dc pm ct:Value),PySem.W.nsIn K mainGlobals n=some (some (.ref f))/\K.lookup f=some ⟨oc,od,.func (PySem.W.fnOf n n (dv st) (cH st) (am st) .none kV dc pm an (.ref c) ct),sl⟩/\PySem.W.codeIn K (.ref c) n=true/\PySem.W.keepIn K (.ref f)=true
def MD(K:PySem.W.Frag)(C:Addr)(n q:Str)(st:Stmt):Prop:=∃ (f:Addr) (oc:Value) (od an:Option Addr) (sl:Array (Option Value)) (kV dc pm cd ct:Value),PySem.W.findIn K (.ref C) n=some (some (.ref f))/\PySem.W.isFn K (.ref f)=true/\K.lookup f=some ⟨oc,od,.func (PySem.W.fnOf n q (dv st) (cH st) (am st) .none kV dc pm an cd ct),sl⟩/\PySem.W.codeIn K cd q=true/\PySem.W.keepIn K (.ref f)=true
def MC(K:PySem.W.Frag)(C:Addr)(n q:Str)(st:Stmt)(c:Addr):Prop:=∃ (f:Addr) (oc:Value) (od an:Option Addr) (sl:Array (Option Value)) (kV dc pm ct:Value),PySem.W.findIn K (.ref C) n=some (some (.ref f))/\PySem.W.isFn K (.ref f)=true/\K.lookup f=some ⟨oc,od,.func (PySem.W.fnOf n q (dv st) (cH st) (am st) .none kV dc pm an (.ref c) ct),sl⟩/\PySem.W.codeIn K (.ref c) q=true/\PySem.W.keepIn K (.ref f)=true
section
variable {P:Program} {w:World} {K:PySem.W.Frag} {mg:Str->Option Value} {base h:Heap} {n q:Str} {st:Stmt} {f c C:Addr} {oc kV dc pm cd ct:Value} {od an:Option Addr} {sl:Array (Option Value)} {CX:xB} {k:Nat} {ps:List Str} {sp:Sp}
theorem FD.mk(a:PySem.W.nsIn K mainGlobals n=some (some (.ref f)))(l:K.lookup f=some ⟨oc,od,.func (PySem.W.fnOf n n (dv st) (cH st) (am st) .none kV dc pm an cd ct),sl⟩)(d:PySem.W.codeIn K cd n=true)(k:PySem.W.keepIn K (.ref f)=true):FD K n st:=⟨f,oc,od,an,sl,kV,dc,pm,cd,ct,a,l,d,k⟩
theorem FC.mk(a:PySem.W.nsIn K mainGlobals n=some (some (.ref f)))(l:K.lookup f=some ⟨oc,od,.func (PySem.W.fnOf n n (dv st) (cH st) (am st) .none kV dc pm an (.ref c) ct),sl⟩)(d:PySem.W.codeIn K (.ref c) n=true)(k:PySem.W.keepIn K (.ref f)=true):FC K n st c:=⟨f,oc,od,an,sl,kV,dc,pm,ct,a,l,d,k⟩
theorem MD.mk(a:PySem.W.findIn K (.ref C) n=some (some (.ref f)))(i:PySem.W.isFn K (.ref f)=true)(l:K.lookup f=some ⟨oc,od,.func (PySem.W.fnOf n q (dv st) (cH st) (am st) .none kV dc pm an cd ct),sl⟩)(d:PySem.W.codeIn K cd q=true)(k:PySem.W.keepIn K (.ref f)=true):MD K C n q st:=⟨f,oc,od,an,sl,kV,dc,pm,cd,ct,a,i,l,d,k⟩
theorem MC.mk(a:PySem.W.findIn K (.ref C) n=some (some (.ref f)))(i:PySem.W.isFn K (.ref f)=true)(l:K.lookup f=some ⟨oc,od,.func (PySem.W.fnOf n q (dv st) (cH st) (am st) .none kV dc pm an (.ref c) ct),sl⟩)(d:PySem.W.codeIn K (.ref c) q=true)(k:PySem.W.keepIn K (.ref f)=true):MC K C n q st c:=⟨f,oc,od,an,sl,kV,dc,pm,ct,a,i,l,d,k⟩
def BD(n q:Str)(st:Stmt)(ps:List Str):Prop:=∀ (kV nB pm:Value) (an:Option Addr) (dz ct:Value) (us:List Value),us.length=ps.length->bindArgs (PySem.W.fnOf n q (dv st) (cH st) (am st) .none kV nB pm an dz ct) ⟨us,[]⟩=pure (ps.zip us)
theorem FD.fJ(X:K.In h)(G:h.Ns mainGlobals mg)(D:FD K n st)(b:BD n n st ps)(o:∀ {f fd},eM K n n st f fd->bn P w K mg base CX k f fd ps sp):cq P w K mg base CX k n ps sp:=by
 obtain⟨f,_,_,_,_,_,_,_,_,_,a,l,d,kp⟩:=D;have F:=sH (x:=n) (qual:=n) (st:=st) l d kp;exact⟨⟨f,_,ig X G a,kp,F.binds b,o F⟩⟩
theorem FC.fJ(X:K.In h)(G:h.Ns mainGlobals mg)(D:FC K n st c)(b:BD n n st ps)(o:∀ {f fd},AN K n n st f fd c->bn P w K mg base CX k f fd ps sp):cq P w K mg base CX k n ps sp:=by
 obtain⟨f,_,_,_,_,_,_,_,_,a,l,d,kp⟩:=D;have F:=Kk (x:=n) (qual:=n) (st:=st) l d kp;exact⟨⟨f,_,ig X G a,kp,F.fun.binds b,o F⟩⟩
theorem MD.fJ(D:MD K C n q st)(b:BD n q st ps)(o:∀ {f fd},eM K n q st f fd->bn P w K mg base CX k f fd ps sp):fc P w K mg base CX k C n ps sp:=by
 obtain⟨f,_,_,_,_,_,_,_,_,_,a,i,l,d,kp⟩:=D;have F:=sH (x:=n) (qual:=q) (st:=st) l d kp;exact⟨⟨f,_,⟨a,i,kp⟩,F.binds b,o F⟩⟩
end
theorem jZ{α:Type}{P:List α->Prop}(h:∀a0,P [a0])(l:List α)(e:l.length=1):P l:=by
 cases l with
 |nil=>cases e
 |cons a t=>cases t with
  |nil=>exact h a
  |cons b t=>cases e
theorem fz{α:Type}{P:List α->Prop}(h:∀a0 a1,P [a0,a1])(l:List α)(e:l.length=2):P l:=by
 cases l with
 |nil=>cases e
 |cons a t=>exact jZ (P:=fun t=>P (a::t)) (h a) t (mC e)
theorem iS{α:Type}{P:List α->Prop}(h:∀a0 a1 a2,P [a0,a1,a2])(l:List α)(e:l.length=3):P l:=by
 cases l with
 |nil=>cases e
 |cons a t=>exact fz (P:=fun t=>P (a::t)) (h a) t (mC e)
theorem oA{α:Type}{P:List α->Prop}(h:∀a0 a1 a2 a3,P [a0,a1,a2,a3])(l:List α)(e:l.length=4):P l:=by
 cases l with
 |nil=>cases e
 |cons a t=>exact iS (P:=fun t=>P (a::t)) (h a) t (mC e)
theorem yX{α:Type}{P:List α->Prop}(h:∀a0 a1 a2 a3 a4,P [a0,a1,a2,a3,a4])(l:List α)(e:l.length=5):P l:=by
 cases l with
 |nil=>cases e
 |cons a t=>exact oA (P:=fun t=>P (a::t)) (h a) t (mC e)
theorem Nk{α:Type}{P:List α->Prop}(h:∀a0 a1 a2 a3 a4 a5,P [a0,a1,a2,a3,a4,a5])(l:List α)(e:l.length=6):P l:=by
 cases l with
 |nil=>cases e
 |cons a t=>exact yX (P:=fun t=>P (a::t)) (h a) t (mC e)
theorem Qs{l:PySem.W.OpenLaw}{w:World}{K:PySem.W.Frag}{h:Heap}{mg:Str->Option Value}{fa:Addr}(X:K.In h)(G:h.Ns mainGlobals mg)(hfa:mg "law"=some (.ref fa)){C cO Pt ql lK fW xv bU:Addr}{qD uF qE xw qF uk:Tok}(aC:PySem.W.nsIn K mainGlobals "Net"=some (some (.ref C)))(Nl:PySem.W.nsIn K mainGlobals "BeatError"=some (some (.ref ql)))(ES:PySem.W.nsIn K mainGlobals "NoShape"=some (some (.ref lK)))(ET:PySem.W.nsIn K mainGlobals "NoHouse"=some (some (.ref fW)))(LY:PySem.W.nsIn K mainGlobals "NoTie"=some (some (.ref xv)))(U2:PySem.W.nsIn K mainGlobals "Box"=some (some (.ref bU)))(LZ:FD K "is_whole" A0)(IY:FD K "is_whole_within" wO)(L3:FD K "is_house" A1)(U3:FD K "is_row" OB)(U4:FD K "are_unlike_houses" OI)(U5:FD K "is_tie" OG)(L4:FD K "check_ties" A3)(U6:FD K "check_balance" OH)(Qt:FC K "houses_out" yv cO)(Qu:FD K "distances_from" Hf)(L5:FD K "check_reached" A4)(Qv:FD K "product" Hk)(IZ:FD K "pairs_net" wV)(I0:FD K "check_sides" wW)(I_:FD K "box_pairs" wX)(Qw:FD K "box_net" Hj)(ZY:FD K "are_tied" Yt)(U7:FD K "_law_pot" Pb)(ZZ:FD K "_law_draw" Yy)(Z0:FD K "_law_sides" YA)(Z1:FD K "_law_many" YB)(Z2:FD K "_law_place" YC)(Z3:FD K "_law_step" YD)(Z4:FD K "_law_ties" YF)(Z5:FD K "_law_phase" YG)(Z6:FD K "came_by_at" YN)(Z7:FD K "is_berth" YM)(Z8:FD K "is_berthed" YL)(Z9:FD K "under_way" Zj)(U8:FD K "take_wished" Ze)(Z_:FD K "keep_to_lane" Zf)(aaa:FD K "hand_from" Zk)(aab:FD K "check_berthed" YO)(aac:FD K "lane_hand" YQ)(aad:FD K "_law_wish" YH)(U9:FD K "taker" ZK)(U_:FD K "is_astray" ZL)(aae:FD K "reason" ZM)(aaf:FD K "_law_way" ZP)(aag:FD K "_law_reason" ZQ)(aah:FD K "_law_right" ZR)(aai:FD K "_law_lane_ties" YU)(aaj:FD K "_law_houses" YV)(aak:FD K "_law_berthed" YX)(Va:FD K "law" BG)(Qx:MD K C "__init__" "Net.__init__" CL)(L6:MD K C "check_house" "Net.check_house" A2)(Vb:MD K C "out" "Net.out" OE)(Qy:MD K C "many" "Net.many" G9)(pg:PySem.W.plainGet K C Str.empty=true)(aal:PySem.W.hasDictIn K C=true)(po:PySem.W.plainOver K C=true)(sa:PySem.W.findIn K (.ref C) "__setattr__"=some (some (.builtin "object.__setattr__")))(mk:PySem.W.makesIn K C=true)(kc:PySem.W.keepIn K (.ref C)=true)(nH:PySem.W.findIn K (.ref C) "house_count"=some none)(nT:PySem.W.findIn K (.ref C) "tie_list"=some none)(nO:PySem.W.findIn K (.ref C) "out_lists"=some none)(nD:PySem.W.findIn K (.ref C) "distances"=some none)(xx:PySem.W.nsIn K mainGlobals "isinstance"=some none)(Vc:PySem.W.nsIn K mainGlobals "int"=some none)(Qz:PySem.W.nsIn K mainGlobals "bool"=some none)(L7:PySem.W.nsIn K mainGlobals "tuple"=some none)(QA:PySem.W.nsIn K mainGlobals "list"=some none)(Vd:PySem.W.nsIn K mainGlobals "str"=some none)(Ve:PySem.W.nsIn K mainGlobals "set"=some none)(Vf:PySem.W.nsIn K mainGlobals "len"=some none)(L8:PySem.W.nsIn K mainGlobals "range"=some none)(Ja:PySem.W.nsIn K mainGlobals "sorted"=some none)(Vg:PySem.W.nsIn K mainGlobals "any"=some none)(Vh:PySem.W.nsIn K mainGlobals "max"=some none)(Vi:PySem.W.nsIn K mainGlobals "min"=some none)(xy:PySem.W.nsIn K mainGlobals "ValueError"=some none)(Vj:PySem.W.nsIn K mainGlobals "all"=some none)(Vk:PySem.W.nsIn K mainGlobals "abs"=some none)(Jb:PySem.W.nsIn K mainGlobals "divmod"=some none)(QB:PySem.W.nsIn K mainGlobals "dict"=some none)(Vl:PySem.W.nsIn K mainGlobals "zip"=some none)(QC:PySem.W.nsIn K mainGlobals "repr"=some none)(yY:PySem.W.nsIn K mainGlobals "enumerate"=some none)(BH:PySem.W.nsIn K mainGlobals "reversed"=some none)(qG:PySem.W.nsIn K mainGlobals "FEWEST_HOUSES"=some (some (.int 2 qD)))(l8:PySem.W.nsIn K mainGlobals "MOST_HOUSES"=some (some (.int 32 uF)))(qH:PySem.W.nsIn K mainGlobals "MOST_TIES_OUT"=some (some (.int 8 qE)))(xz:PySem.W.nsIn K mainGlobals "MOST_SIDES"=some (some (.int 5 xw)))(qI:PySem.W.nsIn K mainGlobals "SHORTEST_SIDE"=some (some (.int 2 qF)))(ul:PySem.W.nsIn K mainGlobals "LONGEST_SIDE"=some (some (.int 8 uk)))(Nm:qu K ql)(EU:qu K lK)(EV:qu K fW)(L9:qu K xv)(aam:PySem.W.plainGet K bU Str.empty=true)(aan:PySem.W.hasDictIn K bU=true)(aao:PySem.W.plainOver K bU=true)(aap:PySem.W.findIn K (.ref bU) "__setattr__"=some (some (.builtin "object.__setattr__")))(aaq:PySem.W.makesIn K bU=true)(aar:PySem.W.keepIn K (.ref bU)=true)(aas:PySem.W.findIn K (.ref bU) "tied_net"=some none)(aat:PySem.W.findIn K (.ref bU) "side_row"=some none)(QD:MD K bU "__init__" "Box.__init__" Lf)(aau:MD K bU "place" "Box.place" OW)(aav:MD K bU "tied" "Box.tied" YK)(aaw:MD K bU "way" "Box.way" OY)(aax:MD K bU "phase" "Box.phase" OZ)(aay:MD K bU "sides" "Box.sides" Zi)(aaz:MD K bU "house" "Box.house" OX)(aaA:MD K bU "wish" "Box.wish" O0)(QE:PySem.W.codeHdIn K cO Pt=true):
  ∃fd:FuncData,(∀ (s:Shared) (v:Value),BindsTo s fd ⟨[v],[]⟩ [("_law_script",v)])/\∀base:Heap,K.In base->base.Ns mainGlobals mg->wG mg base->bn l.prog w K mg base a7 14 fa fd ["_law_script"] (Dj K Pt):=by
 obtain⟨abq,oc,od,an,sl,kV,dc,pm,cd,ct,Vm,Vn,Vo,Vp⟩:=Va;have e:=hfa.symm.trans (ig X G Vm);cases e;have Vq:=sH (x:="law") (qual:="law") (st:=BG) Vn Vo Vp;obtain⟨f_i,oci,odi,ani,sli,kVi,dci,pmi,cdi,cti,a_i,i_i,l_i,d_i,k_i⟩:=Qx;have yZ:=sH (x:="__init__") (qual:="Net.__init__") (st:=CL) l_i d_i k_i;have Jc:=yZ.binds (ps:=["self","many","ties"]) fun _ _ _ _ _ _=>iS fun _ _ _=>rfl;have MK:Mk K C f_i:=⟨mk,a_i,i_i,kc⟩
 have B:Bl mg:=⟨eJ X G xx,eJ X G Vc,eJ X G Qz,eJ X G L7,eJ X G QA,eJ X G Vd,eJ X G Ve,eJ X G Vf,eJ X G L8,eJ X G Ja,eJ X G Vg,eJ X G Vh,eJ X G Vi,eJ X G xy,eJ X G Vj⟩
 have T:NT K mg C:=⟨⟨pg,aal,po,sa⟩,nH,nT,nO,nD,ig X G aC⟩
 have B2:Bl2 mg:=⟨eJ X G Vk,eJ X G Jb,eJ X G QB,eJ X G Vl,eJ X G QC⟩
 have TB:CZ K mg bU:=⟨⟨aam,aan,aao,aap⟩,aas,aat,ig X G U2⟩
 obtain⟨Vr,oc9,od9,an9,sl9,kV9,dc9,pm9,cd9,ct9,aaB,aaC,aaD,aaE,aaF⟩:=QD;have Vs:=sH (x:="__init__") (qual:="Box.__init__") (st:=Lf) aaD aaE aaF;have aaG:=Vs.binds (ps:=["self","sides"]) fun _ _ _ _ _ _=>fz fun _ _=>rfl;have MB:Mk K bU Vr:=⟨aaq,aaB,aaC,aar⟩
 refine⟨PySem.W.fnOf "law" "law" (dv BG) (cH BG) (am BG) .none kV dc pm an cd ct,fun s v=>.of_eq rfl,fun base kb nb hb=>?_⟩;have Dk:cq l.prog w K mg base a7 1 "is_whole" ["thing"] (qU K):=FD.fJ X G LZ (fun _ _ _ _ _ _=>jZ fun _=>rfl) fun L_=>G4 L_ B;have oB:cq l.prog w K mg base a7 2 "is_whole_within" ["thing","least","most"] (jo K):=FD.fJ X G IY (fun _ _ _ _ _ _=>iS fun _ _ _=>rfl) fun Jd=>Eh Jd Dk;have rd:cq l.prog w K mg base a7 3 "is_house" ["many","thing"] (lE K):=FD.fJ X G L3 (fun _ _ _ _ _ _=>fz fun _ _=>rfl) fun Ma=>G6 Ma oB;have Dl:cq l.prog w K mg base a7 1 "is_row" ["thing","length"] (vd K):=FD.fJ X G U3 (fun _ _ _ _ _ _=>fz fun _ _=>rfl) fun Vt=>OC Vt B;have Vu:cq l.prog w K mg base a7 4 "are_unlike_houses" ["many","one","other"] Ha:=FD.fJ X G U4 (fun _ _ _ _ _ _=>iS fun _ _ _=>rfl) fun Vv=>OJ Vv rd;have Vw:cq l.prog w K mg base a7 5 "is_tie" ["many","thing"] Hb:=FD.fJ X G U5 (fun _ _ _ _ _ _=>fz fun _ _=>rfl) fun Vx=>OK Vx Dl Vu;have Mb:cq l.prog w K mg base a7 6 "check_ties" ["many","ties"] lF:=FD.fJ X G L4 (fun _ _ _ _ _ _=>fz fun _ _=>rfl) fun Mc=>Hd Mc B ⟨_,ig X G qG⟩ ⟨_,ig X G l8⟩ oB Vw;have Vy:cq l.prog w K mg base a7 1 "check_balance" ["many","ties"] lF:=FD.fJ X G U6 (fun _ _ _ _ _ _=>fz fun _ _=>rfl) fun Vz=>OL Vz B ⟨_,ig X G qH⟩;have QF:cq l.prog w K mg base a7 1 "houses_out" ["many","ties","house"] (wS Pt):=FC.fJ X G Qt (fun _ _ _ _ _ _=>iS fun _ _ _=>rfl) fun QG=>K2 QG B kb hb QE;have QH:cq l.prog w K mg base a7 1 "distances_from" ["out_lists","start"] wT:=FD.fJ X G Qu (fun _ _ _ _ _ _=>fz fun _ _=>rfl) fun QI=>K3 QI B;have Md:cq l.prog w K mg base a7 1 "check_reached" ["distances"] wU:=FD.fJ X G L5 (fun _ _ _ _ _ _=>jZ fun _=>rfl) fun Me=>Hh Me B;have QJ:bn l.prog w K mg base a7 7 f_i _ ["self","many","ties"] (A6 C Pt):=K7 yZ T B Mb Vy QF QH Md;have Dm:fc l.prog w K mg base (iw l.prog w) 4 C "check_house" ["self","thing"] (qX K C fW):=MD.fJ L6 (fun _ _ _ _ _ _=>fz fun _ _=>rfl) fun EW=>G_ EW T ⟨ig X G ET,EV⟩ rd;have Nn:fc l.prog w K mg base (iw l.prog w) 5 C "out" ["self","house"] (CN K C fW KU):=MD.fJ Vb (fun _ _ _ _ _ _=>fz fun _ _=>rfl) fun Mf=>OF Mf T B Dm;have QK:fc l.prog w K mg base a7 1 C "many" ["self"] (A7 C):=MD.fJ Qy (fun _ _ _ _ _ _=>jZ fun _=>rfl) fun Je=>K9 Je T;have BI:cq l.prog w K mg base a7 1 "product" ["numbers"] (tK K):=FD.fJ X G Qv (fun _ _ _ _ _ _=>jZ fun _=>rfl) fun QL=>K_ QL;have Jf:cq l.prog w K mg base a7 9 "pairs_net" ["many","pairs"] (tJ C Pt):=FD.fJ X G IZ (fun _ _ _ _ _ _=>fz fun _ _=>rfl) fun Jg=>Em Jg B T MK Jc QJ Dl;have Jh:cq l.prog w K mg base (iw l.prog w) 3 "check_sides" ["sides"] (tP K lK):=FD.fJ X G I0 (fun _ _ _ _ _ _=>jZ fun _=>rfl) fun Ji=>En Ji B ⟨ig X G ES,EU⟩ ⟨_,ig X G xz⟩ ⟨_,ig X G qI⟩ ⟨_,ig X G ul⟩ ⟨_,ig X G l8⟩ oB BI;have Jj:cq l.prog w K mg base a7 2 "box_pairs" ["sides"] tQ:=FD.fJ X G I_ (fun _ _ _ _ _ _=>jZ fun _=>rfl) fun Jk=>Eo Jk B BI;have QM:cq l.prog w K mg base (iw l.prog w) 10 "box_net" ["sides"] (A_ K C Pt lK):=FD.fJ X G Qw (fun _ _ _ _ _ _=>jZ fun _=>rfl) fun QN=>La QN Jh Jf BI Jj;have aaH:cq l.prog w K mg base a7 6 "are_tied" ["net","one","other"] (O7 K C):=FD.fJ X G ZY (fun _ _ _ _ _ _=>iS fun _ _ _=>rfl) fun aaI=>TU aaI T rd QK Nn;have aaJ:bn l.prog w K mg base a7 11 Vr _ ["self","sides"] (HQ C bU Pt):=O1 Vs B TB QM;have No:fc l.prog w K mg base (iw l.prog w) 5 bU "place" ["self","house"] (C3 K C bU fW):=MD.fJ aau (fun _ _ _ _ _ _=>fz fun _ _=>rfl) fun F=>O2 F B T TB Dm;have VA:fc l.prog w K mg base a7 1 bU "sides" ["self"] (P8 C bU):=MD.fJ aay (fun _ _ _ _ _ _=>jZ fun _=>rfl) fun F=>UI F TB;have VB:fc l.prog w K mg base a7 4 bU "house" ["self","place"] (HX C bU):=MD.fJ aaz (fun _ _ _ _ _ _=>fz fun _ _=>rfl) fun F=>O4 F B B2.zip TB Dl rd;have Np:fc l.prog w K mg base a7 6 bU "tied" ["self","house"] (Ls C bU):=MD.fJ aav (fun _ _ _ _ _ _=>fz fun _ _=>rfl) fun F=>Ue F T TB Nn;have Jl:fc l.prog w K mg base (iw l.prog w) 6 bU "phase" ["self","house","home"] (yA K C bU fW):=MD.fJ aax (fun _ _ _ _ _ _=>iS fun _ _ _=>rfl) fun F=>O8 F B TB No;have Nq:fc l.prog w K mg base (iw l.prog w) 7 bU "way" ["self","one","other"] (yB K C bU xv):=MD.fJ aaw (fun _ _ _ _ _ _=>iS fun _ _ _=>rfl) fun F=>O_ F TB ⟨ig X G LY,L9⟩ aaH Jl;have Jm:fc l.prog w K mg base (iw l.prog w) 7 bU "wish" ["self","house","home"] (vi K C bU fW):=MD.fJ aaA (fun _ _ _ _ _ _=>iS fun _ _ _=>rfl) fun F=>Pa F B TB Jl No VB;have aaK:cq l.prog w K mg base a7 1 "came_by_at" ["stand","came","house"] Pi:=FD.fJ X G Z6 (fun _ _ _ _ _ _=>iS fun _ _ _=>rfl) fun aaL=>Uf aaL B;have aaM:cq l.prog w K mg base a7 8 "is_berth" ["box","homes","stand","came","letter"] (Pj K C bU):=FD.fJ X G Z7 (fun _ _ _ _ _ _=>yX fun _ _ _ _ _=>rfl) fun aaN=>Ui aaN TB Dk Np Nq Jl aaK;have aaO:cq l.prog w K mg base a7 9 "is_berthed" ["box","homes","stand","came"] (Pn K C bU):=FD.fJ X G Z8 (fun _ _ _ _ _ _=>oA fun _ _ _ _=>rfl) fun aaP=>Uk aaP B Dl aaM;have aaQ:cq l.prog w K mg base a7 1 "under_way" ["stand"] P9:=FD.fJ X G Z9 (fun _ _ _ _ _ _=>jZ fun _=>rfl) fun aaR=>UJ aaR (eJ X G yY);have VC:cq l.prog w K mg base a7 1 "take_wished" ["wishes","letters","free","goes"] PZ:=FD.fJ X G U8 (fun _ _ _ _ _ _=>oA fun _ _ _ _=>rfl) fun VD=>UF VD B;have aaS:cq l.prog w K mg base a7 1 "keep_to_lane" ["came","letters","free","goes"] P0:=FD.fJ X G Z_ (fun _ _ _ _ _ _=>oA fun _ _ _ _=>rfl) fun aaT=>UH aaT B;have aaU:cq l.prog w K mg base a7 8 "hand_from" ["box","homes","stand","came","house","goes"] (P_ C bU):=FD.fJ X G aaa (fun _ _ _ _ _ _=>Nk fun _ _ _ _ _ _=>rfl) fun aaV=>UK aaV B (eJ X G BH) TB Np Nq Jm VA VC aaS;have aaW:cq l.prog w K mg base a7 10 "check_berthed" ["box","homes","stand","came"] (IJ K C bU):=FD.fJ X G aab (fun _ _ _ _ _ _=>oA fun _ _ _ _=>rfl) fun aaX=>PV aaX aaO;have QO:cq l.prog w K mg base a7 11 "lane_hand" ["box","homes","stand","came"] (yW K C bU):=FD.fJ X G aac (fun _ _ _ _ _ _=>oA fun _ _ _ _=>rfl) fun aaY=>Qc aaY B aaW aaQ aaU;have VE:cq l.prog w K mg base a7 1 "_law_pot" ["_law_script","_law_k"] (Ie K):=FD.fJ X G U7 (fun _ _ _ _ _ _=>fz fun _ _=>rfl) fun VF=>Pd VF B;have Mg:cq l.prog w K mg base a7 1 "_law_draw" ["_law_pot_here","_law_many_here"] Bg:=FD.fJ X G ZZ (fun _ _ _ _ _ _=>fz fun _ _=>rfl) fun aaZ=>TZ aaZ B2;have aa0:cq l.prog w K mg base a7 2 "_law_sides" ["_law_pot_here"] Pe:=FD.fJ X G Z0 (fun _ _ _ _ _ _=>jZ fun _=>rfl) fun aa1=>T4 aa1 B Mg;have VG:cq l.prog w K mg base a7 1 "_law_many" ["_law_sides_here"] Ii:=FD.fJ X G Z1 (fun _ _ _ _ _ _=>jZ fun _=>rfl) fun aa2=>T5 aa2;have QP:cq l.prog w K mg base a7 1 "_law_place" ["_law_sides_here","_law_house"] Bi:=FD.fJ X G Z2 (fun _ _ _ _ _ _=>fz fun _ _=>rfl) fun aa3=>T6 aa3;have VH:cq l.prog w K mg base a7 2 "_law_step" ["_law_sides_here","_law_house","_law_k","_law_by"] Lm:=FD.fJ X G Z3 (fun _ _ _ _ _ _=>oA fun _ _ _ _=>rfl) fun aa4=>T8 aa4 QP VG;have VI:cq l.prog w K mg base a7 3 "_law_ties" ["_law_sides_here","_law_house","_law_k"] Ik:=FD.fJ X G Z4 (fun _ _ _ _ _ _=>iS fun _ _ _=>rfl) fun aa5=>T9 aa5 VH;have QQ:cq l.prog w K mg base a7 2 "_law_phase" ["_law_sides_here","_law_house","_law_home"] Il:=FD.fJ X G Z5 (fun _ _ _ _ _ _=>iS fun _ _ _=>rfl) fun aa6=>Ua aa6 B QP;have aa7:cq l.prog w K mg base a7 3 "_law_wish" ["_law_sides_here","_law_house","_law_home"] Pg:=FD.fJ X G aad (fun _ _ _ _ _ _=>iS fun _ _ _=>rfl) fun aa8=>Uc aa8 QP VH QQ;have aa9:cq l.prog w K mg base a7 4 "_law_lane_ties" ["_law_sides_here","_law_house","_law_home","_law_used"] Ps:=FD.fJ X G aai (fun _ _ _ _ _ _=>oA fun _ _ _ _=>rfl) fun aba=>Ul aba B QQ VI;have abb:cq l.prog w K mg base a7 2 "_law_houses" ["_law_pot_here","_law_many_here"] Pw:=FD.fJ X G aaj (fun _ _ _ _ _ _=>fz fun _ _=>rfl) fun abc=>Um abc B Mg;have abd:cq l.prog w K mg base a7 5 "_law_berthed" ["_law_pot_here","_law_sides_here"] Pz:=FD.fJ X G aak (fun _ _ _ _ _ _=>fz fun _ _=>rfl) fun abe=>Up abe B VG Mg abb aa9;have VJ:cq l.prog w K mg base a7 1 "taker" ["stand","handing","house","goes"] Qh:=FD.fJ X G U9 (fun _ _ _ _ _ _=>oA fun _ _ _ _=>rfl) fun VL=>UR VL B;have VM:cq l.prog w K mg base a7 8 "is_astray" ["box","homes","stand","handing","letter"] (Qi C bU):=FD.fJ X G U_ (fun _ _ _ _ _ _=>yX fun _ _ _ _ _=>rfl) fun VN=>US VN B TB oB Jm;have abf:cq l.prog w K mg base a7 12 "reason" ["box","homes","stand","came","letter"] (Qj K C bU):=FD.fJ X G aae (fun _ _ _ _ _ _=>yX fun _ _ _ _ _=>rfl) fun abg=>UT abg B TB QO VM VJ Jm;have abh:cq l.prog w K mg base a7 4 "_law_way" ["_law_sides_here","_law_one","_law_other"] Qk:=FD.fJ X G aaf (fun _ _ _ _ _ _=>iS fun _ _ _=>rfl) fun abi=>UV abi B VI;have abj:cq l.prog w K mg base a7 4 "_law_reason" ["_law_sides_here","_law_homes","_law_stand","_law_handing","_law_i"] Ql:=FD.fJ X G aag (fun _ _ _ _ _ _=>yX fun _ _ _ _ _=>rfl) fun abk=>UX abk B aa7;have abl:cq l.prog w K mg base a7 13 "_law_right" ["_law_box","_law_sides_here","_law_homes","_law_stand","_law_came","_law_i"] (Qn K C bU):=FD.fJ X G aah (fun _ _ _ _ _ _=>Nk fun _ _ _ _ _ _=>rfl) fun abm=>U0 abm abf QO abj abh QQ;exact Qp Vq B B2.zip TB MB aaG aaJ VE Mg aa0 abd QO abl
theorem VO(h:((List.range 2000).any fun c=>PySem.W.codeHdIn K c P)=true):∃c,PySem.W.codeHdIn K c P=true:=
 let ⟨c,_,e⟩:=vR.mp h;⟨c,e⟩
theorem QR(hO:Cn ts H)(h:br K H a xs):Fa K H a xs:=by
 rcases h with h|h
 .rcases h with h|⟨o,h⟩
  .rcases hO.2 a with z|⟨_,z⟩|⟨o,ys,z⟩ <;> · rw[h] at z;cases z
  .exact .inl ⟨o,h⟩
 .exact .inr fun H'=>.inr h
theorem walk{l:PySem.W.OpenLaw}{q:Program}{uS:List Str}{XP:(Str->Option Value)->Heap->Prop}{YP:World->Heap->Prop}{d:DefRec}{K:Params->PySem.W.Frag}{Pt:Addr}(hn:l.most=some 63)(Sg:d.params.defaults=[])(hY:∀ (w:World) (h:Heap),YP w h->(K w.params).In h)(hT:∀ (w:World) (h:Heap),YP w h->∀P∈[Pt],h.get? P=some (PySem.W.tabObj #[]))(abn:∀ (w:World),((List.range 2000).any fun c=>PySem.W.codeHdIn (K w.params) c Pt)=true)(abo:∀ (w:World),(K w.params).lookup Pt=none)(F:∀ (w:World) (mg:Str->Option Value) (fa:Addr) (h:Heap),(K w.params).In h->h.Ns mainGlobals mg->mg d.name=some (.ref fa)->
   ∃fd:FuncData,(∀ (s:Shared) (u:Value),BindsTo s fd ⟨[u],[]⟩ [("_law_script",u)])/\∀base:Heap,(K w.params).In base->base.Ns mainGlobals mg->wG mg base->bn l.prog w (K w.params) mg base a7 14 fa fd ["_law_script"] (Dj (K w.params) Pt)):
  PySem.W.WalkO q uS XP YP l.row.toRowW d [] (fun f vs=>PySem.call f vs):=
 Gy (n:=63) (k:=14) (x:="_law_script") (ts:=[Pt]) (K:=K) (CX:=fun _=>a7) (sp:=fun w=>(Dj (K w.params) Pt)) hn (by decide) Sg ⟨rfl,by decide,by decide,rfl⟩ hY hT
  (fun w P=>fun e=>by rw[dL.mp e];exact VO (abn w)) (fun w P=>fun e=>by rw[dL.mp e];exact abo w) F
  (fun w H a ns hl hO hS=>⟨a,ns,rfl,QR hO hS,hl,.inl (hO.1 _ (by simp)),fun _=>rfl⟩) fun _ _ _ _ _ z=>z
end tu
open PySem PySem.W PyProof.Rows
namespace PySem.W.Fast
def tw16008441042578838544:=trivial
def tw8761501380080644938:=trivial
def tw17855116224174622260:=trivial
def tw9320104938265654050:=trivial
def tw7152807937152598598:=trivial
def tw14206835651335324806:=trivial
def tw18336132396525458674:=trivial
def tw3246924896893564040:=trivial
def tw1092270045984760128:=trivial
def tw1541850226921362176:=trivial
def tw16954305669066124340:=trivial
def tw2004325895441870608:=trivial
def tw9520583197274956017:=trivial
def tw4692311703488577597:=trivial
def tw9751830699514405773:=trivial
def tw4615168115951640696:=trivial
def tw2046028313332304135:=trivial
def tw7740564255831295972:=trivial
def tw630537568175334555:=trivial
def tw10333783961459811226:=trivial
def tw11054833440073539891:=trivial
def tw13987847899579404627:=trivial
def tw17773225876364871925:=trivial
def tw11610442480876848415:=trivial
def tw4906762896313647895:=trivial
def tw5139343789547285167:=trivial
def tw1439323239342593990:=trivial
def tw3064823177696699368:=trivial
def tw12214431940305588557:=trivial
def tw2373559102389456134:=trivial
def tw6077295511908616854:=trivial
def tw234510816858864803:=trivial
def tw16759268581837297428:=trivial
def tw16003557418983349003:=trivial
def tw15368083615332455599:=trivial
def tw9742995855444544877:=trivial
def tw10161062310596007809:=trivial
def tw17559256025481087896:=trivial
def tw2582975440419280722:=trivial
def tw8104097947447966136:=trivial
def tw7780456463348537011:=trivial
def tw11957138775349247762:=trivial
def tw8249158758035939003:=trivial
def tw16498993615725406202:=trivial
def tw10451679949158240442:=trivial
def tw18255380884967054677:=trivial
def tw6982282268323925326:=trivial
def tw9157246935496945890:=trivial
def tw9361487289794641699:=trivial
def tw9990758532070207471:=trivial
def tw15685411715813024767:=trivial
def tw15119606535659315399:=trivial
def tw15085569072851899474:=trivial
def tw11420161063082500386:=trivial
def tw13643881697050623645:=trivial
def tw12787014698889458069:=trivial
def tw13524400735568535411:=trivial
def tw17807376133171205500:=trivial
def tw5776592124158434445:=trivial
def tw12249351549379087627:=trivial
def tw6549665350285136411:=trivial
def tw1301118354388835698:=trivial
def tw5635462158021592812:=trivial
def tw4949547250852184965:=trivial
def tw16708604183054352534:=trivial
def tw4992427873123420972:=trivial
def tw3110806267513867159:=trivial
def tw4832884444725598873:=trivial
def tw18186829527639032867:=trivial
def tw16368451582048182501:=trivial
def tw10032758383420123844:=trivial
def tw398846445864453309:=trivial
def tw7757227504563081652:=trivial
def tw2496275384819157620:=trivial
def tw8960332804256766204:=trivial
def tw1046778095392557773:=trivial
def tw9925538394013454615:=trivial
def tw14691955854679729507:=trivial
def tw3348655029929176175:=trivial
def tw10977184647488953348:=trivial
def tw7978924800866115761:=trivial
def tw4742206850633210458:=trivial
def tw6779747330187969945:=trivial
def tw3908666977888403342:=trivial
def tw16093973462330487837:=trivial
def tw14475229559445829839:=trivial
def tw11550748178413235628:=trivial
def tw6820491612674226267:=trivial
def tw4354900779614372732:=trivial
def tw5935449116877988963:=trivial
def tw2678420099908302270:=trivial
def tw4596290517568819512:=trivial
def tw7635897049135017305:=trivial
def tw10995680648827562475:=trivial
def tw10509495515025604380:=trivial
def tw9308417999915902476:=trivial
def tw5770992362681314863:=trivial
def tw6415788316912390495:=trivial
def tw10298807302294539580:=trivial
def tw18281493621628292431:=trivial
def tw12315488062449839154:=trivial
def tw1901423108300429808:=trivial
def tw2317963634366055326:=trivial
def tw14033024169940497740:=trivial
def tw8204436495041959357:=trivial
def tw6965221700692177306:=trivial
def tw5681711935590654179:=trivial
def tw14177499245984709298:=trivial
def tw3460829419975803429:=trivial
def tw15054233614373129844:=trivial
def tw1136203320234852565:=trivial
def tw10435481451866066222:=trivial
def tw18201300987157224655:=trivial
def tw15587650378334710700:=trivial
def tw14633032255447704890:=trivial
def tw11191803745785506284:=trivial
def tw8536069166355404182:=trivial
def tw1177613111515332888:=trivial
def tw15240929357903087039:=trivial
def tw17467199014162434292:=trivial
def tw2328936093894114970:=trivial
def tw17447411963064396110:=trivial
def tw11424143348382459188:=trivial
def tw6770871474975533243:=trivial
def tw6542550687970708548:=trivial
def tw17676571953319409588:=trivial
def tw6849065850198904679:=trivial
def tw5170503078806940239:=trivial
def tw5161506794323536011:=trivial
def tw8721915216869952118:=trivial
def tw17801758940400873952:=trivial
def tw16593778308807412526:=trivial
def tw3318164013860551812:=trivial
def tw6271913848292150683:=trivial
def tw14395813726609147751:=trivial
def tw6909860077605085669:=trivial
def tw4746235524452294281:=trivial
def tw10478507336455408705:=trivial
def tw16797930128116456298:=trivial
def tw10653824181721038143:=trivial
def tw7347680893977906162:=trivial
def tw17968409735444221305:=trivial
def tw149473469983974985:=trivial
def tw4097498771281245761:=trivial
def tw9784168500202814344:=trivial
def tw2242693902602465795:=trivial
def tw12075706278343746058:=trivial
def tw12868021149851169434:=trivial
def tw9831594250298154943:=trivial
def tw8046303594721977011:=trivial
def tw8434266616535749572:=trivial
def tw1658189259423353231:=trivial
def tw8969070627134808361:=trivial
def tw2351147849370314514:=trivial
def tw2766811874904796789:=trivial
def tw3231584030664048556:=trivial
def tw648598591297386025:=trivial
def tw14038216999650898538:=trivial
def tw13291348279169223237:=trivial
def tw7996525161543979249:=trivial
def tw11404701907204521731:=trivial
def tw11795448184523075149:=trivial
def tw15462641796646014519:=trivial
def tw9391834310339710896:=trivial
def tw14634111340997459179:=trivial
def tw4159036859078360023:=trivial
def tw6304340037672185475:=trivial
def tw1284927388079103752:=trivial
def tw7541099062714700090:=trivial
def tw7013862532650980640:=trivial
def tw6264330846493568701:=trivial
def tw13558785016475468226:=trivial
def tw372960887020976926:=trivial
def tw6596382851520241277:=trivial
def tw14379926511551985774:=trivial
def tw8291510296274324876:=trivial
def tw11005219179015315870:=trivial
def tw3841919309174726102:=trivial
def tw4774385252813143188:=trivial
def tw1160899832134900579:=trivial
def tw14299098783242760476:=trivial
def tw12101488861741314235:=trivial
def tw17288762718483596883:=trivial
def tw1590785919700250742:=trivial
def tw17388212993805464909:=trivial
def tw6883198555174635182:=trivial
def tw17553686280640221859:=trivial
def tw2415852452695590908:=trivial
def tw1820625585242522323:=trivial
def tw11550978806622970815:=trivial
def tw1782423311856239172:=trivial
def tw12911449310092870170:=trivial
def tw6823942260038874374:=trivial
def tw15639136449993662395:=trivial
def tw118989755169716693:=trivial
def tw10018890636003552787:=trivial
def tw17109898953095674007:=trivial
def tw11486166422238426360:=trivial
def tw10623657728961265297:=trivial
def tw6840566037596622825:=trivial
def tw18058178766209054535:=trivial
def tw8537186728447605013:=trivial
def tw9115712610020370734:=trivial
def tw1106078630445980415:=trivial
def tw7563279431804725352:=trivial
def tw12817467149696551974:=trivial
def tw1274964442370853965:=trivial
def tw7679095481985600754:=trivial
def tw8086436929940098438:=trivial
def tw9890633764960886017:=trivial
def tw5219021913698010778:=trivial
def tw10887053340128832241:=trivial
def tw310303570937952287:=trivial
def tw5015237263047833992:=trivial
def tw6551003408990209049:=trivial
def tw13758331088569930045:=trivial
def tw15005920858136153647:=trivial
def tw2012802052398886900:=trivial
def tw16090592105273929122:=trivial
def tw4779037279714392235:=trivial
def tw4811291156328521992:=trivial
def tw3395443532382422542:=trivial
def tw16328792850515589712:=trivial
def tw4360837133036941278:=trivial
def tw14258944999356327983:=trivial
def tw14527490289562829151:=trivial
def tw14291799561732814892:=trivial
def tw8641202088040573259:=trivial
def tw1262240042778714681:=trivial
def tw5525673873226432884:=trivial
def tw6502298199349972825:=trivial
def tw151708237657589754:=trivial
def tw6536033849258329399:=trivial
def tw8035574658421668022:=trivial
def tw3528386136769694841:=trivial
def tw16953515258120297147:=trivial
def tw5202946559061443309:=trivial
def tw4528721996789182445:=trivial
def tw6720602965962473873:=trivial
def tw5615152898325754153:=trivial
def tw6134127453368515452:=trivial
def tw11016429303865701650:=trivial
def tw13029115994101828354:=trivial
def tw3890071720878475647:=trivial
def tw13154651018429502604:=trivial
def tw14883716479848612395:=trivial
def tw5877488977423112360:=trivial
def tw15360089595512551516:=trivial
def tw16198163923381315655:=trivial
def tw14053802054703688606:=trivial
def tw11117785096217969260:=trivial
def tw3222601303627669729:=trivial
def tw3979335960421013998:=trivial
def tw2518170154385825048:=trivial
def tw17871552343522048026:=trivial
def tw1851677481065967262:=trivial
def tw16690960358615469724:=trivial
def tw10641762072740514967:=trivial
def tw8542810345285589680:=trivial
def tw1361147707759504174:=trivial
def tw15356818775953242363:=trivial
def tw13411712833435881730:=trivial
def tw13763753101828567528:=trivial
def tw1026853881129206421:=trivial
def tw10171332895640206674:=trivial
def tw4444259686447420955:=trivial
def tw5500314907466534985:=trivial
def tw10810636430048635359:=trivial
def tw2051168843854295562:=trivial
def tw11027522010699897631:=trivial
def tw6163633025522760355:=trivial
def tw5645379555204892938:=trivial
def tw17232209415923083764:=trivial
def tw5723983722304172129:=trivial
def tw3404324721803534595:=trivial
def tw17996739021541228741:=trivial
def tw14223432139693714980:=trivial
def tw15169411931922203742:=trivial
def tw6183537092693998609:=trivial
def tw14915952514635585807:=trivial
def tw9730152969033574916:=trivial
def tw11169992538446503012:=trivial
def tw10965980394766962629:=trivial
def tw4495676018036155755:=trivial
def tw14007079833772164447:=trivial
def tw11631171592399427491:=trivial
def tw14195642490017807407:=trivial
def tw6819548858795224074:=trivial
def tw13978541738464692465:=trivial
def tw13516013948495885811:=trivial
def tw8026307894495387398:=trivial
def tw8031880051152128686:=trivial
def tw683031427368838922:=trivial
def tw6363065301696484495:=trivial
def tw9850376676222896373:=trivial
def tw9754924126531455165:=trivial
def tw1089150455069695475:=trivial
def tw13370306922091700005:=trivial
def tw16195004025850788658:=trivial
def tw13556856011936976607:=trivial
def tw7532823049708457377:=trivial
def tw4026399409921894819:=trivial
def tw4719910854832392515:=trivial
def tw22602863553346378:=trivial
def tw3780853892845247433:=trivial
def tw5585638413627151967:=trivial
def tw11210964547195355674:=trivial
def tw3360395050054765251:=trivial
def tw5914754045859766711:=trivial
def tw4742962735989076917:=trivial
def tw13882133483926129003:=trivial
def tw5681575015014234714:=trivial
def tw15106519384456477873:=trivial
def tw18433782881226756565:=trivial
def tw17398882679148516649:=trivial
def tw11260847124671408765:=trivial
def tw4010827543399517493:=trivial
def tw8492354565759978011:=trivial
def tw10118581032706111049:=trivial
def tw14900626552422068789:=trivial
def tw9116590172517313151:=trivial
def tw8401336680316514760:=trivial
def tw16974012759953345622:=trivial
def tw14447121052136541890:=trivial
def tw9720168958470670427:=trivial
def tw12910401008395923800:=trivial
def tw4615596802664075542:=trivial
def tw17299930118313718479:=trivial
def tw9171969082005270208:=trivial
def tw7425345467119180097:=trivial
def tw13340899638109988837:=trivial
def tw7029225910447109587:=trivial
def tw8839685608557781486:=trivial
def tw6916904637807981351:=trivial
def tw12300521003057047130:=trivial
def tw16492573380687298395:=trivial
def tw15104054647860624090:=trivial
def tw7190511511412396296:=trivial
def tw9387798933898626167:=trivial
def tw5771632196649896620:=trivial
def tw18279471993877248132:=trivial
def tw17111916923869746993:=trivial
def tw4001319460040463243:=trivial
def tw2817641877492319658:=trivial
def tw920126593649827965:=trivial
def tw6107576328953344156:=trivial
def tw10453265282387258906:=trivial
def tw17228434752727263074:=trivial
def tw2925959708351875977:=trivial
def tw17591158661393512265:=trivial
def tw4447328135443318297:=trivial
def tw14700901559310011001:=trivial
def tw7560699924116705207:=trivial
def tw3287824733239298287:=trivial
def tw5566156816111584610:=trivial
def tw452865333606604912:=trivial
def tw4299951479208493755:=trivial
def tw15412833925750902040:=trivial
def tw6603399256678017497:=trivial
def tw10190855630099863132:=trivial
def tw12264777203278449969:=trivial
def tw11743953305778964519:=trivial
def tw17972129222206701716:=trivial
def tw9877757865218672196:=trivial
def tw3462583006191856378:=trivial
def tw17231383237372776998:=trivial
def tw16319184582695396867:=trivial
def tw493246816575760711:=trivial
def tw10443533659345091656:=trivial
def tw3173821280760453821:=trivial
def tw14474771829342895201:=trivial
def tw14292882086185096552:=trivial
def tw367913084366921356:=trivial
def tw9793643173407035235:=trivial
def tw13208042865087349632:=trivial
def tw6846766965336810241:=trivial
def tw10964312935678845542:=trivial
def tw7882116617666117498:=trivial
def tw11311436017421609386:=trivial
def tw10519615291330204363:=trivial
def tw9355896324181811895:=trivial
def tw18426741328719446698:=trivial
def tw4262297443102066200:=trivial
def tw1342559890781503272:=trivial
def tw13640874029532968874:=trivial
def tw8658135430128431593:=trivial
def tw6502170806234314816:=trivial
def tw2980498141161033859:=trivial
def tw12375510435698912311:=trivial
def tw10453934765974302701:=trivial
def tw15626115533666005951:=trivial
def tw16145206180433019316:=trivial
def tw5601162007642159471:=trivial
def tw518932936784437478:=trivial
def tw2598805496098099524:=trivial
def tw7251296104534605285:=trivial
def tw265432843095736057:=trivial
def tw18349745972843775246:=trivial
def tw13029620780554810341:=trivial
def tw13146177258760741269:=trivial
def tw239750471422157647:=trivial
def tw15688187192402964023:=trivial
def tw4237956409376394612:=trivial
def tw15680706582258359666:=trivial
def tw10404979070983546954:=trivial
def tw17422430677070585570:=trivial
def tw6364464918717029163:=trivial
def tw8465948219365386152:=trivial
def tw8570913248602826659:=trivial
def tw12046197477061469486:=trivial
def tw328229317801138515:=trivial
def tw16152312349922512668:=trivial
def tw13631907149047493934:=trivial
def tw9289989625143785206:=trivial
def tw547740329211275196:=trivial
def tw4321094016390890604:=trivial
def tw5123950013317825651:=trivial
def tw6090388561546783034:=trivial
def tw1142791417241727354:=trivial
def tw5726899923959813604:=trivial
def tw12322041127426074278:=trivial
def tw12057794767155471154:=trivial
def tw1570223608582353415:=trivial
def tw16502144451910907566:=trivial
def tw16972952931890795127:=trivial
def tw17426537789356800368:=trivial
def tw9640668791186602687:=trivial
def tw3369778640107000057:=trivial
def tw17184291724776580608:=trivial
def tw88567823652428030:=trivial
def tw12810003578059646190:=trivial
def tw10569085071679452360:=trivial
def tw7677673738511842779:=trivial
def tw2558158027400339514:=trivial
def tw14936892906484889108:=trivial
def tw12238762510846940219:=trivial
def tw3381572737235370791:=trivial
def tw11821521591178035074:=trivial
def tw4546877951084455415:=trivial
def tw653895497679188642:=trivial
def tw14775994332477114347:=trivial
def tw12524109253255320234:=trivial
def tw6926128375760516214:=trivial
def tw1198761985774507422:=trivial
def tw1451852695787231821:=trivial
def tw3732540529313296185:=trivial
def tw12731084892259766286:=trivial
def tw18290878367351454516:=trivial
def tw2341244602856798606:=trivial
def tw4155127242079396320:=trivial
def tw11137145956496393131:=trivial
def tw14708862750953510274:=trivial
def tw8821454221331897507:=trivial
def tw17408094864167676452:=trivial
def tw15037114653393315769:=trivial
def tw8903066986071896802:=trivial
def tw2377358500840169535:=trivial
def tw8999433409513232206:=trivial
def tw14525477294401957669:=trivial
def tw9457024474745146855:=trivial
def tw9048558695019105899:=trivial
def tw9475869912046259602:=trivial
def tw5681449280535426079:=trivial
def tw13143493719514109645:=trivial
def tw3946645181350453224:=trivial
def tw9891403457447529391:=trivial
def tw13104808889767741821:=trivial
def tw12592625510003808173:=trivial
def tw2929697683026882606:=trivial
def tw6618146545578899314:=trivial
def tw4168898178679653114:=trivial
def tw5894894420533799848:=trivial
def tw2005620469904618515:=trivial
def tw10530663320632412852:=trivial
def tw14177238930402255675:=trivial
def tw4345014219092728730:=trivial
def tw12814824728546898714:=trivial
def tw9824863692761380290:=trivial
def tw10828634415257531841:=trivial
def tw1834590346023049945:=trivial
def tw4640566523152720591:=trivial
def tw13604759377930335045:=trivial
def tw7111758074220299841:=trivial
def tw9986401363040208647:=trivial
def tw11630495434723362249:=trivial
def tw7257355748505293124:=trivial
def tw17036862089510693447:=trivial
def tw14086261562660347462:=trivial
def tw15260857837471930291:=trivial
def tw10944531585261780632:=trivial
def tw6888484715678008376:=trivial
def tw12835948047579917495:=trivial
def tw3061010848535409299:=trivial
def tw2371938238840548179:=trivial
def tw2248273454420113295:=trivial
def tw2206900987838552269:=trivial
def tw12339458540137840898:=trivial
def tw6808514783754462481:=trivial
def tw15837089276868002380:=trivial
def tw3338384053641445138:=trivial
end PySem.W.Fast
set_option maxRecDepth 100000 in
set_option maxHeartbeats 0 in
theorem PySem.Challenge.cw_neverwait_k47_reasons_holds : PySem.Challenge.rw_neverwait_k47_reasons.Holds := by
 w_on; o_law; k_head; (case hw=>w_witness2)
 k_fill
 refine tu.walk (l:=PySem.Challenge.rw_neverwait_k47_reasons) (Pt:=_) rfl rfl (fun w h Y=>PySem.W.km_in_of Y) (fun w h Y=>PySem.W.km_tabs_of Y) ?cd0 ?kt0 ?F;case F =>
  intro w mg fa h KX G Sh;refine' tu.Qs (Pt:=_) KX G Sh ?_ ?_ ?_ ?_ ?_ ?_ ?_ ?_ ?_ ?_ ?_ ?_ ?_ ?_ ?_ ?_ ?_ ?_ ?_ ?_ ?_ ?_ ?_ ?_ ?_ ?_ ?_ ?_ ?_ ?_ ?_ ?_ ?_ ?_ ?_ ?_ ?_ ?_ ?_ ?_ ?_ ?_ ?_ ?_ ?_ ?_ ?_ ?_ ?_ ?_ ?_ ?_ ?_ ?_ ?_ ?_ ?_ ?_ ?_ ?_ ?_ ?_ ?_ ?_ ?_ ?_ ?_ ?_ ?_ ?_ ?_ ?_ ?_ ?_ ?_ ?_ ?_ ?_ ?_ ?_ ?_ ?_ ?_ ?_ ?_ ?_ ?_ ?_ ?_ ?_ ?_ ?_ ?_ ?_ ?_ ?_ ?_ ?_ ?_ ?_ ?_ ?_ ?_ ?_ ?_ ?_ ?_ ?_ ?_ ?_ ?_ ?_ ?_ ?_;all_goals first
   | (refine' tu.FD.mk ?a ?l ?d ?k; (case a=>k_is); (case l=>k_is); (case d=>k_is); (case k=>k_is))
   | (refine' tu.FC.mk ?a ?l ?d ?k; (case a=>k_is); (case l=>k_is); (case d=>k_is); (case k=>k_is))
   | (refine' tu.MD.mk ?a ?i ?l ?d ?k; (case a=>k_is); (case i=>k_is); (case l=>k_is); (case d=>k_is); (case k=>k_is))
   | (refine' tu.MC.mk ?a ?i ?l ?d ?k; (case a=>k_is); (case i=>k_is); (case l=>k_is); (case d=>k_is); (case k=>k_is))
   | k_is
   | kernel_rfl
   | decide
   | exact ⟨by kernel_rfl,by k_is,by k_is,by k_is,by k_is,by k_is,by k_is,by kernel_rfl⟩
   | skip
 case kt0=>intro w; kernel_rfl
 case cd0=>intro w; kernel_rfl
