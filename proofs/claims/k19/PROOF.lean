import PyProof.Rows.All
import Wide.All
import OpenK.AllK
import Wide.FinOn
import Lean
import PyProof.EqAt
import PyProof.EqKinds
import PyProof.TupleCall
import PySem.Challenge.RW_momentties_k19_asked_again
import PyProof.NsDelKeeps
import KE.KTabLook
import PyProof.DictWalks
import PyProof.Rows.DictUnroll
import PyProof.Rows.SortShell
import PyProof.CollectWalk
import PyProof.DictTruth
import KE.KSortTup
abbrev iv:List PySem.Str:=["web"]
abbrev qq:List PySem.Str:=["self"]
abbrev xv:List PySem.Str:=["_law_d","_law_many","_law_last","_law_wide"]
abbrev Q0:List PySem.Str:=["_law_d","_law_most","_law_last","_law_wide"]
abbrev Ā:List PySem.Str:=["_law_dice","_law_many"]
abbrev ā:List PySem.Str:=["_law_moment","_law_many","_law_turn"]
abbrev Ă:List PySem.Str:=["self","what","word","used"]
abbrev ă:List PySem.Str:=["self","many","last","ties","falls"]
abbrev Ą:List PySem.Str:=["_law_d","_law_many","_law_wide"]
abbrev ą:List PySem.Str:=["many","bounds"]
abbrev Ć:List PySem.Str:=["many","one","other"]
abbrev ć:List PySem.Str:=["falls","wait"]
abbrev Ĉ:List PySem.Str:=["falls","word","used"]
abbrev ĉ:List PySem.Str:=["falls","tie"]
abbrev Ċ:List PySem.Str:=["rows","last"]
abbrev ċ:List PySem.Str:=["self","word","used"]
abbrev Č:List PySem.Str:=["web","bounds"]
abbrev č:List PySem.Str:=["_law_web_here"]
abbrev Ď:List PySem.Str:=["self","kind","a"]
abbrev ď:List PySem.Str:=["falls","wait","tie"]
abbrev Đ:List PySem.Str:=["web","ties"]
abbrev đ:List PySem.Str:=["first","second"]
abbrev Ē:List PySem.Str:=["pushers","moment"]
abbrev ē:List PySem.Str:=["_law_found"]
abbrev Ĕ:List PySem.Str:=["self","b"]
abbrev ĕ:List PySem.Str:=["many","last"]
abbrev Ė:List PySem.Str:=["self","at","a","b"]
abbrev ė:List PySem.Str:=["self","kind"]
abbrev Ę:List PySem.Str:=["table","tie"]
abbrev ę:List PySem.Str:=["by_end","wait"]
abbrev Ě:List PySem.Str:=["many","falls"]
abbrev ě:List PySem.Str:=["many","ties"]
abbrev Ĝ:List PySem.Str:=["self","ring"]
abbrev ĝ:List PySem.Str:=["self","at","a"]
abbrev Ğ:List PySem.Str:=["self","what"]
abbrev ğ:List PySem.Str:=["what"]
abbrev Ġ:List PySem.Str:=["self","web"]
abbrev ġ:List PySem.Str:=["_law_k","_law_d","_law_last"]
abbrev Ģ:List PySem.Str:=["_law_script"]
abbrev ģ:List PySem.Str:=["spans"]
theorem U{a:α}:a=a:=rfl
abbrev kh := @Int.le_trans
abbrev iE := @List.mem_append_left
abbrev ng := @Array.toList_append
abbrev Ay := @List.length_drop
abbrev kg := @Nat.le_succ
abbrev gk := @Int.le_of_lt
abbrev kZ := @Int.toNat_of_nonneg
abbrev xj := @PySem.mem_of_lookup
abbrev oS := @Array.length_toList
abbrev a6 := @Ne.symm
abbrev rM := @List.mem_iff_getElem?
abbrev vy := @PySem.boot_len
abbrev oR := @PySem.W.mg_none_of
abbrev ae := @PySem.wpAny_bind
abbrev aI := @PySem.wpAny_pure
abbrev kY := @PySem.F.plainAttrs_list
abbrev kf := @PySem.F.slot_list_append
abbrev kX := @PySem.F.type_list_append
abbrev ak := @List.length_map
abbrev cO := @List.getElem?_eq_some_iff
abbrev ar := @Nat.le_refl
abbrev df := @List.getElem?_eq_getElem
abbrev cL := @PySem.Heap.get?_push_of_some
abbrev fu := @Classical.byContradiction
abbrev cW := @List.getElem?_map
abbrev fY := @List.mem_of_getElem?
abbrev dW := @List.size_toArray
abbrev dw := @List.length_append
abbrev gI := @List.mem_cons_of_mem
abbrev fh := @List.mem_cons_self
abbrev fg := @Bool.false_ne_true
abbrev ff := @Option.some.inj
abbrev fv := @List.lookup_cons
abbrev d_ := @List.map_append
abbrev dV := @Nat.zero_le
abbrev aR := @Nat.le_of_lt
abbrev cV := @PySem.Heap.lt_size
abbrev g_ := @List.mem_singleton
abbrev eR := @List.mem_cons
abbrev eG := @List.map_cons
abbrev cQ := @Nat.le_trans
abbrev jh := @PySem.Heap.get?_push_size
abbrev i5 := @List.take_length
abbrev fy := @Nat.ne_of_lt
abbrev iD := @List.getElem?_append_right
abbrev iC := @List.length_take
abbrev gZ := @Nat.lt_of_lt_of_le
abbrev jq := @List.mem_append_right
abbrev gH := @List.mem_append
abbrev gw := @List.length_cons
abbrev ic := @List.getElem?_append_left
abbrev eQ := @List.mem_map
abbrev pW := @List.getElem_of_mem
abbrev Ax := @List.pairwise_iff_getElem
abbrev jo := @List.take_succ
abbrev lT := @List.all_eq_true
abbrev gG := @Int.toNat_natCast
abbrev vu := @decide_eq_true_eq
abbrev vw := @List.getD_eq_getElem?_getD
abbrev ji := @Nat.lt_irrefl
abbrev vv := @List.getElem_mem
abbrev Ka := @List.length_nil
abbrev jt := @Nat.le_of_not_lt
abbrev mG := @Nat.not_lt_zero
abbrev mE := @beq_self_eq_true
abbrev jr := @decide_eq_true
abbrev fz := @decide_eq_false
abbrev jg := @PySem.Heap.get?_update_other
abbrev gj := @Nat.le.refl
abbrev gQ := @Nat.le.step
abbrev gX := @False.elim
abbrev jn := @Int.le_refl
abbrev gW := @Int.NonNeg.mk
abbrev tL := @Nat.lt_of_le_of_lt
abbrev pT := @PySem.Heap.get?_update_self
abbrev vt := @List.filterMap_cons
abbrev i4 := @List.length_range
abbrev pS := @Bool.and_eq_true
abbrev oQ := @List.pairwise_map
abbrev xi := @List.extract_eq_take_drop
abbrev Aw := @List.eq_nil_of_length_eq_zero
abbrev tK := @List.foldl_append
abbrev pR := @List.append_assoc
abbrev mC := @Nat.le_add_right
abbrev vr := @PySem.Obj.data_mapFields
abbrev vq := @List.foldl_cons
abbrev pQ := @PySem.W.mg_of
abbrev Av := @PySem.W.callWith_K
abbrev xh := @List.mem_filterMap
abbrev pP := @List.mem_range
abbrev Au := @Array.getElem?_eq_some_iff
abbrev aS := @PyProof.Rows.wpS_pure
abbrev aV := @PyProof.Rows.wpS_bind
abbrev ft := @PySem.PassesOwn.never
abbrev CZ := @List.length_filter_le
abbrev gY := @PySem.wpAny_mono
abbrev kd := @PySem.Paired.length
abbrev rL := @List.append_nil
abbrev jO := @PySem.wpAny_field
abbrev lS := @PySem.wpAny_holding
abbrev pV := @PySem.wpAny_truthy_bool
abbrev J_ := @List.filter_append
abbrev pU := @PySem.wpAny_newObj_type
abbrev Ap := @List.replicate_succ
abbrev rK := @PySem.wpAny_setField
abbrev Ao := @PySem.wpAny_loadPart_at
abbrev rJ := @Nat.le_of_lt_succ
abbrev xf := @PySem.wpAny_callSpecial?_slot
abbrev oP := @getElem?_pos
abbrev tI := @PySem.wpAny_call_entry
abbrev xc := @PySem.wpAny_Call_Name_kw
abbrev tH := @Nat.sub_add_cancel
abbrev j_ := @PyProof.Rows.wpS_mono
abbrev tG := @Nat.le_of_eq
abbrev w_ := @Nat.add_le_add_right
abbrev wZ := @Array.toList_extract
abbrev tF := @PySem.wpAny_attempt
abbrev RY := @List.filter_cons_of_pos
abbrev RX := @List.filter_cons_of_neg
abbrev CU := @PySem.wpAny_typeNameOfWhole_keyiter
abbrev rH := @List.map_nil
abbrev An := @Int.natCast_nonneg
abbrev vo := @PySem.wpAny_passesOwn
abbrev Am := @PySem.F.slot_dict_keyiterator_next
abbrev CT := @PySem.Obj.isFreed_of_fields
abbrev Al := @List.filterMap_append
abbrev CS := @Array.getElem?_toList
abbrev wY := @List.flatten_cons
abbrev xg := @PyProof.Rows.callWith_type1
abbrev pO := @PySem.wpAny_rule
abbrev tJ := @PySem.wpAny_call
abbrev vp := @Sum.inl.inj
abbrev As := @List.nodup_nil
abbrev Ar := @PySem.W.looks_findIn
abbrev CY := @PySem.wpAny_typeNameOf_keyiter
abbrev Aq := @List.length_filterMap_le
abbrev CV := @List.getElem?_take_of_lt
abbrev Ag := @PySem.wpAny_execs_nil
abbrev RW := @List.getElem?_replicate
abbrev tD := @Nat.ne_of_gt
abbrev Af := @PySem.Heap.size_push
abbrev wX := @Nat.lt_trichotomy
abbrev Ae := @Nat.lt_succ_of_lt
abbrev J' := @List.getElem?_set_self
abbrev CM := @List.take_append_drop
abbrev Ad := @Nat.lt_succ_self
abbrev wW := @List.any_cons
abbrev Ac := @List.all_cons
abbrev CL := @List.mem_of_mem_take
abbrev CK := @List.map_congr_left
abbrev oO := @PyProof.Rows.wpS_get
abbrev wV := @PySem.codeAny_mono
abbrev Ab := @List.all_map
abbrev CJ := @PySem.tupleKind_room_in1
abbrev CI := @Nat.pos_of_ne_zero
abbrev CH := @Nat.lt_or_eq_of_le
abbrev RV := @List.mem_of_find?_eq_some
abbrev JZ := @List.drop_eq_getElem_cons
abbrev CG := @PySem.wpAny_dictEntries
abbrev CF := @Array.toList_push
abbrev Ak := @PySem.wpAny_standAt
abbrev Aj := @Nat.add_assoc
abbrev Ai := @Int.ofNat.inj
abbrev CQ := @List.Pairwise.imp_of_mem
abbrev tE := @PyProof.Rows.wpS_lift
abbrev CP := @PySem.wpAny_eqBool_int
abbrev CO := @Nat.not_lt_of_le
abbrev Ah := @PyProof.Rows.wpS_forRange
abbrev CC := @List.take_of_length_le
abbrev CB := @Option.map_some
abbrev t8 := @List.range_succ
abbrev JW := @List.of_mem_zip
abbrev CA := @Bool.eq_iff_iff
abbrev JV := @PySem.wpAny_isOneOf_keyiter
abbrev JU := @List.perm_append_comm
abbrev JT := @Classical.choose_spec
abbrev C9 := @PySem.wpAny_fieldsOf
abbrev JS := @PySem.codeAny_call_builtin
abbrev JR := @List.getElem?_set_ne
abbrev JQ := @Array.toList_reverse
abbrev JP := @Nat.add_le_add_left
abbrev z_ := @PyProof.Rows.wpS_modify
abbrev JO := @Nat.lt_of_le_of_ne
abbrev C7 := @PySem.wpAny_typeOf
abbrev zZ := @Nat.zero_add
abbrev Aa := @Nat.sub_self
abbrev JY := @Option.isSome_map
abbrev CD := @List.reverse_perm
abbrev RU := @List.take_succ_eq_append_getElem
abbrev RS := @PySem.plainObj_wpAny_Assign_Attribute
abbrev JX := @PyProof.Rows.slot_tuple_getitem
abbrev RQ := @PyProof.Rows.callWith_builtin1
abbrev RP := @PySem.F.args_dict_keyiterator_next_1
abbrev C4 := @PyProof.Rows.wpS_reverse
abbrev zY := @PySem.sizeLine_eq
abbrev C0 := @PyProof.Rows.mirror_perm
abbrev Cz := @PySem.Paired.snoc
abbrev RO := @PySem.F.entry_dict_keyiterator_next
abbrev JN := @PySem.wpAny_dictEpoch
abbrev JM := @PySem.codeAny_builtin
abbrev JL := @Int.emod_nonneg
abbrev Cy := @PyProof.Rows.size_push'
abbrev ZGo := @Nat.sub_le
abbrev JK := @Nat.add_le_add
abbrev RN := @PySem.F.slot_range_iterator_next
abbrev RM := @PySem.Calls.Name_function_global
abbrev RL := @Nat.lt_of_add_lt_add_left
abbrev aY := PySem.W.Frag
noncomputable abbrev gF := PySem.Challenge.rw_momentties_k19_asked_again.prog
noncomputable section
variable {P:PySem.Program} {w:PySem.World} {K:aY} {mg:PySem.Str->Option PySem.Value} {base:PySem.Heap}
set_option linter.all false
section
variable {a b c d e f g h k l m n:Nat} {p q r s t u v w x y z:Int}
theorem Tz:¬a<b->b+(a-b)=a:=by lia
theorem ER:a<=b->a<b+1:=Nat.lt_succ_of_le
theorem sE:a<b->b-(a+1)<b-a:=Nat.sub_succ_lt_self b a
theorem M8:1<=a->b=c+a->b-1<b:=by omega
theorem ES:a<b->0<b:=Nat.zero_lt_of_lt
theorem Bq:a<min b c-d->d+a<c:=by omega
theorem ET:a<b->c<=a+1->c<=b:=λi j=>cQ j i
theorem Br:a+b<=c->b<=c-a:=Nat.le_sub_of_add_le'
theorem T1:¬a<b->b+c+(a+c-(b+c))=a+c:=by omega
theorem EU:a+b<=c->a+(c-a)=c:=by lia
theorem B2:a<b->b<=a->False:=by lia
theorem yh:a<=b->a+(b-a)<=b:=by lia
theorem B4:¬p<q->q<=p:=by lia
theorem M9:a=b+c->a=b+d->c=d:=by lia
theorem T4:a+b<c->a<c:=Nat.lt_of_add_right_lt
theorem T5:p<=q->p<=max q r:=by lia
theorem lC:0<=p->q<=q+p:=Int.le_add_of_nonneg_right
theorem T6:a<=b->c-b<=c-a:=λi=>Nat.sub_le_sub_left i c
theorem MC:¬a=0->a-1<a:=Nat.sub_one_lt
theorem B5:a<b->b<c->a<c:=Nat.lt_trans
theorem T7:p<q->¬q=p:=Int.ne_of_gt
theorem MD:a<b->c=b+d->c=a->e=f:=by lia
theorem T8:a<=b->a-c<=b:=by omega
theorem ug:a<=b->a+c<=b+c:=λi=>w_ i c
theorem ME:a-b<=c->a<=c+b:=Nat.le_add_of_sub_le
theorem MF:a+b<=c->d<=b->¬d<=e->a+(e+(d-e)/2)<c:=by lia
theorem T9:a+b<=c->a=d->b=e->d+e<=c:=by lia
theorem B6:a<=b->b<=c->a+(b-a)<=c:=by lia
theorem TB:¬a<b->b+c+(a+c-(b+c))<=a+c:=by lia
theorem EE:a<min b c->a<b:=by lia
theorem MG:a+3*(b+c)+d<e->a+c+3*b+d<e:=by lia
theorem sF:a<=b->¬a<b->a=b:=by lia
theorem TF:a<b->a+(b-a)=b:=by lia
theorem MZ:a<b->c=b+d->c=a->False:=by lia
theorem M':1<a->¬a-1=1->1<a-1:=by lia
theorem yi:a=b->a<=c->b<=c:=λi j=>le_of_eq_of_le (i.symm) j
theorem wc:a<b->¬a+1=b->a+1<b:=JO
theorem TH: -max p (-q)<=q:=by lia
theorem M_:a<b->b-1<b:=Nat.sub_one_lt_of_lt
theorem TJ:a+16*(b+1)+c<d->a+3+16*b+c<d:=by lia
theorem uh:p<=q->q<=r->p<=r:=kh
theorem B7:a+1<b->b<=8->a<7:=by lia
theorem EF:a+b<=c->d=c->a<=d:=by lia
theorem Na:a<b->7*a+7+(7*b-(7*a+7))=7*b:=by omega
theorem TK:a+16*(b+c)+d<e->a+c+16*b+d<e:=by lia
theorem yj:a<b->(a:Int)<(b:Int):=by lia
theorem B8:a+b<=c->d<b->a+d-e<c:=by omega
theorem ui:(a:Int)<=8->a<=8:=Int.ofNat_le.mp
theorem pE:a<b+1->¬a=b->a<b:=by lia
theorem uj:a<b-c->c+a<b:=Nat.add_lt_of_lt_sub'
theorem iK:a<=a+b:=mC a b
theorem TL:a+16*b+c<d->e<=b->a+16*e+c<d:=by lia
theorem Nb:a<b+c->b=d+e->f=e-g+c->¬e-g=0->a-(d+g)<f:=by lia
theorem j8:¬a<b->b<=a:=jt
theorem TM:a+b+200<c->a+64<c:=by lia
theorem TN:a<b->a-c<b:=Nat.sub_lt_of_lt
theorem EG:a<b->a<=b-1:=Nat.le_sub_one_of_lt
theorem TR:a<b->a<=Int.toNat ((b:Int)-1):=by omega
theorem Nc:a<=b->¬0<b-a->a=b:=by lia
theorem TV:min p q<=q:=Int.min_le_right p q
theorem UO:a<b->0<b-a:=Nat.zero_lt_sub_of_lt
theorem Nd:a<b+1->a<=b:=rJ
theorem qz:a<=b->b<=c->a<=c:=cQ
theorem wg:a=b->b<=c->a<=c:=le_of_eq_of_le
theorem Nf:a<=b->b=b-a+a:=by lia
theorem UP:a+3*b+c<d->e<=b->a+3*e+c<d:=by lia
theorem UQ:p<q->p<=q:=gk
theorem yk:a+b<=c->d=c->e<=b->a+e<=d:=by lia
theorem UR:a<b->b=c->a<c:=Nat.lt_of_lt_of_eq
theorem US:a=b->b<=c->a+(c-a)=c:=by lia
theorem mR:a+b<=c->d<b->a+d<c:=by lia
theorem Ng:1<=a->a-1<a:=Nat.sub_one_lt_of_lt
theorem UT:a+b+c<d->a<d:=by lia
theorem Nh:a<min b c-d->d+a<b:=by omega
theorem MI:p<=q->p<=q:=λi=>i
theorem EH:a<=2->min b a<=1000:=by lia
theorem pC:a<b->c+a<c+b:=λi=>Nat.add_lt_add_left i c
theorem EI:a<=b+c->b<=d+e->a<=d+(c+e):=by lia
theorem UU:¬(a:Int)<0:=Int.not_ofNat_neg a
theorem yl:0<=p->p<(a:Int)->Int.toNat p<a:=by lia
theorem B9:2<=p->0<p-1:=by lia
theorem uk:a<=b->c+a<=c+b:=by lia
theorem fL:a<b->b<=c->a<c:=gZ
theorem EJ:a<b->a<b+c:=Nat.lt_add_right c
theorem BA:0<=p->((Int.toNat p:Nat):Int)=p:=kZ
theorem ym:a<b->c=b->a<c:=λi j=>Nat.lt_of_lt_of_eq i (j.symm)
theorem BB:a<=b->¬a=b->a<b:=JO
theorem pD:¬a=0->0<a:=Nat.zero_lt_of_ne_zero
theorem MJ:a<b->c<=c+b-1-a:=by omega
theorem UW:a<=b->b-a+a=b:=tH
theorem UX:min a b=a->a<=b:=by lia
theorem BC:a<b->a<b:=λi=>i
theorem um:¬a<=b->b<a:=Nat.lt_of_not_le
theorem EK:a<b+c->b<=a->a-b<c:=λi j=>Nat.sub_lt_left_of_lt_add j i
theorem UY:a+1<=b-c->c+a<b:=Nat.add_lt_of_lt_sub'
theorem kI:a<=b->a+(b-a)=b:=Nat.add_sub_cancel'
theorem wh:¬p<=q->q<p:=Int.lt_of_not_ge
theorem UG:a+b-1=c->¬b=0->a+(b-1)=c:=by lia
theorem UH: -p<=q->-max p r<=q:=by lia
end
set_option Elab.async false
set_option maxRecDepth 100000
namespace L2
open PySem PySem.Spec PyProof.Rows
abbrev dy (C:Addr) (dx:Option Addr) (t a:Value):Obj:={ cls:=.ref C,dict:=dx,data:=.fields #[t,a,.none,.none,.bool false,.none] }
def Hd (A:Around) (h:Heap):Prop:=A.handled=none\/∃(a C:Addr) (b:Option Addr) (t c:Value),A.handled=some (.ref a)/\h.get? a=some (dy C b t c)
theorem Wn:entryFor table "proto.unchain"=some Builtin.«proto.unchain»:=entryFor_of_tree (by kernel_rfl)
section
theorem Hd.keep (q:Hd A h) (k:∀b C dx t c,h.get? b=some (dy C dx t c)->h'.get? b=some (dy C dx t c)):Hd A h':=by
 rcases q with q | ⟨a,C,dx,t,c,q,e⟩
 ·exact .inl q
 ·exact .inr ⟨a,C,dx,t,c,q,k a C dx t c e⟩
theorem S_ (q:Hd A s.heap) (b:s.heap.get? e=some I) (g:∃n,I.cls=.type n) (d:I.data=.fields vs) (i:2<vs.size)
 (h:∀h',Heap.SameBut e s.heap h'->(∃o,h'.get? e=some o/\o.cls=I.cls)->E (.ref e) { s with heap:=h' }):wpAny (model prog w) A (raiseNew (.ref e):Sem α) Q E s:=by
 unfold raiseNew;refine ae (wpAny_handled ?_);rcases q with q | ⟨a,C,k,t,l,q,c⟩
 ·rw [q];exact ae (aI (wpAny_throw (h s.heap (Heap.SameBut.refl ..) ⟨I,b,U⟩)))
 ·rw [q];have j:a≠e:=λz=>by
   rw [z,b] at c;obtain ⟨n,f⟩:=g;rw [ff c] at f;cases f
  dsimp only;rw [if_pos (show (Value.ref a !=Value.ref e)=true by simp [j])];refine ae (lS (wpAny_runValue (JM Wn ?_)));show wpAny _ _ (field (.ref a) 2>>=_) _ _ s;refine ae (jO c U (x:=.none) U ?_);rw [if_pos (by rfl)];refine ae (aI (aI ?_));refine ae (rK (a:=e) b d i ?_);exact wpAny_throw (h _ (Heap.SameBut.update ..) ⟨_,pT _ b (CT (vr d _)),Obj.cls_mapFields ..⟩)
theorem AZ (q:Hd A s.heap)
 (h:∀e h',(∀b o,s.heap.get? b=some o->h'.get? b=some o)->(∃o,h'.get? e=some o/\o.cls=.type "StopIteration")->E (.ref e) { s with heap:=h' }):
 wpAny (model prog w) A (newExc (.type "StopIteration") []>>=λx=>(raiseNew x:Sem α)) Q E s:=by
 refine ae ?_;unfold newExc newTuple;refine ae (pU ?_ (by size_fits));refine ae (wpAny_of_eq (a:=Value.none) (by first | rfl | (simp only [firstArgMember];rfl)) ?_);refine pU ?_ (by size_fits);refine S_ (q.keep λb C i t k e=>cL _ (cL _ e)) (jh _ U) ⟨_,U⟩ U (by simp;exact aR (Nat.le_add_left (Nat.succ 2).succ 2)) λh' g ⟨o,f,d⟩=>?_;refine h _ h' (λb j e=>?_) ⟨o,f,d⟩;have c:=cL (h:=s.heap) { cls:=.type "tuple",data:=.seq ([]:List Value).toArray } e;exact (g.2 b (fy (cV c))).trans (cL _ c)
theorem AO {a:Addr} {s0:Shared} {e:Addr} {h':Heap} {Q:Option Value->Shared->Prop} (k:∀b o,b≠a->s0.heap.get? b=some o->h'.get? b=some o) (t:∃o,h'.get? e=some o/\o.cls=.type "StopIteration") (f:∀h',Heap.ExtBut a s0.heap h'->Q none { s0 with heap:=h' }):
 wpAny (model prog w) A (isInstance (.ref e) (.type "StopIteration")) (λb s'=>b=true/\Q none s') E { s0 with heap:=h' }:=by
 obtain ⟨o,c,d⟩:=t;exact wpAny_isInstance (T:="StopIteration") (b:=true) ⟨o,c,d⟩ isSubtype_stop ⟨U,f h' λb u g e=>k b u g e⟩
theorem VT {a l:Addr} {i:Nat} {g:Array Value} {Q:Option Value->Shared->Prop} (q:Hd A s.heap) (st:s.heap.IsListIter a l i) (n:s.heap.IsList l g) (r:g[i]?=none)
 (m:∀h',Heap.ExtBut a s.heap h'->Q none { s with heap:=h' }):wpAny (model prog w) A (pyNext (.ref a)) Q E s:=by
 obtain ⟨u,c,j,d⟩:=id st;obtain ⟨v,p,_,F,k⟩:=n;unfold pyNext;refine ae (tF (xf (name:=Str.ofString "__next__") st.typeIs slot_listiter_next (tI slot_listiter_next st.typeIs entry_listiter_next ?_ (args_listiter_next _))));show wpAny _ _ (field (.ref a) 0>>=_) _ _ s;refine ae (jO c d (x:=.ref l) U ?_);rw [if_neg (show ¬((Value.ref l==Value.none)=true) from fg)];refine ae (jO c d (x:=.int i 0) U (ae (wpAny_seqItems p k ?_)));simp only [gG,r];refine ae (pO (ae (rK c d (by simp) ?_)));have h:∀b o,b≠a->s.heap.get? b=some o->(s.heap.update a (Obj.mapFields (·.setIfInBounds 0 Value.none))).get? b=some o:=λb o f e=>(jg _ _ (a6 f)).trans e;refine AZ (A:=A.in1) (s:={ s with heap:=s.heap.update a (Obj.mapFields (·.setIfInBounds 0 Value.none)) }) (Hd.keep (A:=A.in1) q λb C D t H e=>h b _ (λz=>?_) e) λe h' y B=>?_
 ·rw [z,c] at e;cases e;cases j
 ·refine ae (gY (AO (s0:=s) (λb o f z=>y b o (h b o f z)) B m) (λb G z=>?_) λ_ _ z=>z);obtain ⟨rfl,z⟩:=z;exact aI z
theorem OM {a:Addr} {x left c:Int} {Q:Option Value->Shared->Prop} (q:Hd A s.heap) (st:IsRangeIter s.heap a x left c) (g:left<=0)
 (f:∀h',Heap.ExtBut a s.heap h'->Q none { s with heap:=h' }):wpAny (model prog w) A (pyNext (.ref a)) Q E s:=by
 have d:s.TypeIs (.ref a) "range_iterator":=⟨_,st,U⟩;unfold pyNext;refine ae (tF (xf (name:=Str.ofString "__next__") d RN (tI RN d F.entry_range_iterator_next ?_ (F.args_range_iterator_next_1 _))));show wpAny _ _ (field (.ref a) 0>>=_) _ _ s;refine ae (jO st U (x:=rawInt x) U (ae (jO st U (x:=rawInt left) U (ae (jO st U (x:=rawInt c) U ?_)))));show wpAny _ _ (if left<=0 then _ else _) _ _ s;rw [if_pos g];refine ae (pO ?_);refine ae ?_;refine AZ (A:=A.in1) (s:=s) q λe h' h i=>?_;refine ae (gY (AO (s0:=s) (λb o _ z=>h b o z) i f) (λb j z=>?_) λ_ _ z=>z);obtain ⟨rfl,z⟩:=z;exact aI z
theorem VM {a t:Addr} {i:Nat} {g:Array Value} {Q:Option Value->Shared->Prop} (q:Hd A s.heap) (st:IsTupIter s.heap a t i) (m:IsTup s.heap t g) (p:g[i]?=none)
 (l:∀h',Heap.ExtBut a s.heap h'->Q none { s with heap:=h' }):wpAny (model prog w) A (pyNext (.ref a)) Q E s:=by
 obtain ⟨u,c,j,d⟩:=id st;obtain ⟨v,n,_,D,k⟩:=m;unfold pyNext;refine ae (tF (xf (name:=Str.ofString "__next__") st.typeIs slot_tupleiter_next (tI slot_tupleiter_next st.typeIs entry_tupleiter_next ?_ (args_tupleiter_next _))));show wpAny _ _ (field (.ref a) 0>>=_) _ _ s;refine ae (jO c d (x:=.ref t) U ?_);rw [if_neg (show ¬((Value.ref t==Value.none)=true) from fg)];refine ae (jO c d (x:=.int i 0) U (ae (wpAny_seqItems n k ?_)));simp only [gG,p];refine ae (pO (ae (rK c d (by simp) ?_)));have h:∀b o,b≠a->s.heap.get? b=some o->(s.heap.update a (Obj.mapFields (·.setIfInBounds 0 Value.none))).get? b=some o:=λb o f e=>(jg _ _ (a6 f)).trans e;refine AZ (A:=A.in1) (s:={ s with heap:=s.heap.update a (Obj.mapFields (·.setIfInBounds 0 Value.none)) }) (Hd.keep (A:=A.in1) q λb C B H G e=>h b _ (λz=>?_) e) λe h' r y=>?_
 ·rw [z,c] at e;cases e;cases j
 ·refine ae (gY (AO (s0:=s) (λb o f z=>r b o (h b o f z)) y l) (λb F z=>?_) λ_ _ z=>z);obtain ⟨rfl,z⟩:=z;exact aI z
theorem Ws {a:Int} {i n:Nat} (l:i<n) (st:IsRangeIter s.heap it (a+(i:Nat)*1) ((n:Int)-(i:Nat)) 1)
 (f:∀(t:Tok) h' k,IsRangeIter h' it (a+((i+1:Nat):Int)*1) ((n:Int)-((i+1:Nat):Int)) 1->(∀b o,b∉[it]->s.heap.get? b=some o->h'.get? b=some o)->Q (some (.int (a+(i:Nat)*1) t)) { s with heap:=h',toks:=k }):
 wpAny (model prog w) A (pyNext (.ref it)) Q E s:=by
 refine wpAny_pyNext_range_item st (by lia) λh' j h=>?_;refine f _ h' _ ?_ λb o g e=>h.extBut b o (λz=>g (by simp [z])) e;have c:a+((i+1:Nat):Int)*1=a+(i:Int)*1+1:=by lia
 have d:(n:Int)-((i+1:Nat):Int)=(n:Int)-(i:Int)-1:=by lia
 rw [c,d];exact j
end
abbrev Key:=Sum Int Str
def tT:Key->Value->Bool
 | .inl k,v=>Value.isInt k v
 | .inr x,v=>Value.isStrOf x v
def WL (w:World):Key->Int
 | .inl k=>hashInt k
 | .inr x=>hashStr w x
theorem pF:∀{k:Key} {v:Value},tT k v=true->(∃i t,k=Sum.inl i/\v=Value.int i t)\/(∃x t,k=Sum.inr x/\v=Value.str x t)
 | .inl i,v,h=>by obtain ⟨t,e⟩:=Value.isInt_shape (k:=i) (v:=v) h;exact .inl ⟨i,t,U,e⟩
 | .inr x,v,h=>by obtain ⟨t,e⟩:=Value.isStrOf_shape (x:=x) (v:=v) h;exact .inr ⟨x,t,U,e⟩
theorem U_ (i:Int) (t:Tok):tT (.inl i) (.int i t)=true:=by simp [tT,Value.isInt]
theorem Va (x:Str) (t:Tok):tT (.inr x) (.str x t)=true:=by simp [tT,Value.isStrOf]
theorem Yt (a b:Int):decide ((Sum.inl a:Key)=Sum.inl b)=(a==b):=by
 by_cases e:a=b
 ·subst e;simp
 ·have h:¬(Sum.inl a:Key)=Sum.inl b:=λq=>e (vp q);rw [fz h];exact (beq_eq_false_iff_ne.mpr e).symm
theorem Yw (a b:Str):decide ((Sum.inr a:Key)=Sum.inr b)=decide (a=b):=by
 by_cases e:a=b
 ·subst e;simp
 ·have h:¬(Sum.inr a:Key)=Sum.inr b:=λq=>e (Sum.inr.inj q);rw [fz h,fz e]
theorem Yu (a:Int) (b:Str):decide ((Sum.inl a:Key)=Sum.inr b)=false:=fz nofun
theorem Yv (a:Str) (b:Int):decide ((Sum.inr a:Key)=Sum.inl b)=false:=fz nofun
def kH (prog:Program) (w:World):PySem.KeyKind prog w Key where
 is:=tT
 hash:=WL w
 inj:=λv a b g f=>by
  rcases pF g with ⟨i,t,rfl,rfl⟩ | ⟨x,t,rfl,rfl⟩
  ·rcases pF f with ⟨j,u,rfl,e⟩ | ⟨y,u,rfl,e⟩
   ·injection e with c _;rw [c]
   ·exact nomatch e
  ·rcases pF f with ⟨j,u,rfl,e⟩ | ⟨y,u,rfl,e⟩
   ·exact nomatch e
   ·injection e with c _;rw [c]
 byValue:=λk v h=>by rcases pF h with ⟨i,t,rfl,rfl⟩ | ⟨x,t,rfl,rfl⟩<;>rfl
 pyHash:=λd h=>by
  rcases pF d with ⟨i,t,rfl,rfl⟩ | ⟨x,t,rfl,rfl⟩
  ·exact wpAny_pyHash_int h
  ·exact wpAny_pyHash_str h
 eqBool:=λl d h=>by
  rcases pF l with ⟨i,t,rfl,rfl⟩ | ⟨x,t,rfl,rfl⟩
  ·rcases pF d with ⟨j,u,rfl,rfl⟩ | ⟨y,u,rfl,rfl⟩
   ·rw [Yt] at h;exact CP h
   ·rw [Yu] at h;exact SeqAt.EqAt.int_str i t y u _ _ _ _ h
  ·rcases pF d with ⟨j,u,rfl,rfl⟩ | ⟨y,u,rfl,rfl⟩
   ·rw [Yv] at h;exact SeqAt.EqAt.str_int x t j u _ _ _ _ h
   ·rw [Yw] at h;exact wpAny_eqBool_str h
 «strs»:=λk x t v h=>by
  rcases pF h with ⟨i,u,rfl,e⟩ | ⟨y,u,rfl,e⟩
  ·exact nomatch e
  ·injection e with c _
   subst c;cases v<;>rfl
theorem VU (prog:Program) (w:World) (i:Int) (t:Tok):(kH prog w).is (.inl i) (.int i t)=true:=U_ i t
theorem VW (prog:Program) (w:World) (x:Str) (t:Tok):(kH prog w).is (.inr x) (.str x t)=true:=Va x t
inductive V where
 | a9 | bl (b:Bool) | int (i:Int) | str (x:Str) | lR (b:Array UInt8) | oJ (b:UInt64) | ref (a:Addr) | ty (n:String)
 deriving DecidableEq
def bz:V->Value->Prop
 | .a9,u=>u=Value.none
 | .bl b,u=>u=Value.bool b
 | .int i,u=>∃t,u=Value.int i t
 | .str x,u=>∃t,u=Value.str x t
 | .lR b,u=>∃t,u=Value.bytes b t
 | .oJ b,u=>∃t,u=Value.float b t
 | .ref a,u=>u=Value.ref a
 | .ty n,u=>u=Value.type n
abbrev aX:List V->List Value->Prop:=Paired bz
theorem aX.length {xs:List V} {us:List Value} (r:aX xs us):xs.length=us.length:=kd r
theorem aX.get:∀{xs:List V} {us:List Value} {i:Nat} {x:V},aX xs us->xs[i]?=some x->∃u,us[i]?=some u/\bz x u
 | _,_,_,_,.nil,e=>by simp at e
 | _,_,0,_,.cons r _,e=>by simp at e;subst e;exact ⟨_,U,r⟩
 | _,_,i+1,x,.cons _ t,e=>by obtain ⟨u,a,b⟩:=aX.get (i:=i) (x:=x) t (by simpa using e);exact ⟨u,by simpa using a,b⟩
theorem aX.set {x:V} {u:Value} (r:bz x u):∀{xs:List V} {us:List Value} (i:Nat),aX xs us->aX (xs.set i x) (us.set i u)
 | _,_,_,.nil=>.nil
 | _,_,0,.cons _ t=>.cons r t
 | _,_,i+1,.cons q t=>.cons q (aX.set r i t)
theorem aX.append {xs ys:List V} {us a:List Value} (h:aX xs us) (s:aX ys a):aX (xs++ys) (us++a):=by
 induction h with
 | nil=>exact s
 | cons r t b=>exact .cons r b
theorem aX.take:∀{xs:List V} {us:List Value} (n:Nat),aX xs us->aX (xs.take n) (us.take n)
 | _,_,0,_=>.nil
 | _,_,_+1,.nil=>.nil
 | _,_,n+1,.cons r t=>.cons r (aX.take n t)
theorem aX.drop:∀{xs:List V} {us:List Value} (n:Nat),aX xs us->aX (xs.drop n) (us.drop n)
 | _,_,0,r=>r
 | _,_,_+1,.nil=>.nil
 | _,_,n+1,.cons _ t=>aX.drop n t
def ie:Option V->Option Value->Prop
 | some v,some u=>bz v u
 | none,none=>True
 | _,_=>False
def KV {a:Type}:List (a×V)->List (a×Value)->Prop:=Paired λ(p:a×V) (q:a×Value)=>p.1=q.1/\bz p.2 q.2
def kV:Key->V
 | .inl i=>.int i
 | .inr x=>.str x
inductive HO where
 | lst (xs:List V)
 | tup (xs:List V)
 | dK (kvs:List (Key×V)) | dT (kvs:List (List Key×V))
 | set (S:Int->Bool) (n:Nat)
 | ins (C dx:Addr) (fs:List (Str×V))
 | own (x:Addr)
 | xd (fs:List (Str×V))
 | met (f x:Addr)
 | GU (lo hi:Int)
 | dZ (o:Obj) (u:HO)
 | uB (ps:Array Value)
 | ext (φ:Heap->Prop)
abbrev Hp:=Addr->Option HO
def upd (H:Hp) (a:Addr) (o:HO):Hp:=λb=>if b=a then some o else H b
theorem ah {H:Hp} {a:Addr} {o:HO}:upd H a o a=some o:=by unfold upd;rw [if_pos rfl]
theorem ag {H:Hp} {a b:Addr} {o:HO} (h:b≠a):upd H a o b=H b:=by unfold upd;rw [if_neg h]
theorem LD {H:Hp} {a:Addr} {o u:HO}:upd (upd H a o) a u=upd H a u:=by funext b;unfold upd;split<;>rfl
theorem cI {H:Hp} {a b:Addr} {o u:HO} (h:H a=some o) (h':H b=some u) (d:o≠u):a≠b:=by intro e;subst e;rw [h] at h';exact d (ff h')
theorem a7 {H:Hp} {a b:Addr} {o:HO} (h:H a=some o) (h':H b=none):a≠b:=by intro e;subst e;rw [h] at h';cases h'
section
variable (P:Program) (w:World)
def cZ (H:Hp) (h:Heap) (a:Addr):HO->Prop
 | .lst b=>b.length<=sizeLine/\∃(e:List Value) (n:Nat),aX b e/\h.get? a=some { cls:=.type "list",data:=.seq e.toArray n }
 | .tup b=>b.length<=sizeLine/\∃e:List Value,aX b e/\IsTup h a e.toArray
 | .dK g=>g.length<=sizeLine/\(a==sysModules)=false/\∃r,KV g r/\h.DictOf (kH P w) a r
 | .dT g=>g.length<=sizeLine/\(a==sysModules)=false/\∃b:List (List Key×Addr×Value),
  Paired (λ(p:List Key×V) (q:List Key×Addr×Value)=>p.1=q.1/\H q.2.1=some (.tup (p.1.map kV))/\bz p.2 q.2.2) g b/\
  ∃o k s,h.get? a=some o/\o.ExactDict/\o.data=.dict k s/\k.toList=b.map (entryOfKey (tupleKind (kH P w)))/\(b.map (·.1)).Nodup
 | .set S n=>h.SetOf (intKind P w) a S n
 | .ins C i d=>H i=some (.own a)/\d.length<=1000/\i≠a/\h.get? a=some (PySem.W.instObj C i)/\
  ∃c,h.Ns1 i c/\(∀f,ie (d.lookup f) (c f))/\PySem.Within c (d.map (·.1))
 | .own _=>∃o,h.get? a=some o
 | .xd d=>∃c,h.Ns1 a c/\∀f,ie (d.lookup f) (c f)
 | .GU z y=>∃t u v,h.get? a=some { cls:=.type "range",data:=.fields #[.int z t,.int y u,.int 1 v] }
 | .dZ o u=>h.get? a=some o/\cZ H h a u
 | .uB A=>h.get? a=some { cls:=.none,data:=.fields A }
 | .met f x=>h.get? a=some (PySem.W.methodObj (.ref f) (.ref x))
 | .ext j=>j h/\(∃o,h.get? a=some o)/\∀l m:Heap,j l->(∀o,l.get? a=some o->m.get? a=some o)->j m
def dJ (H:Hp) (h:Heap):Prop:=∀a o,H a=some o->cZ P w H h a o
end
section
theorem cZ.lt (x:cZ P w H h a o):a<h.objs.size:=by
 cases o with
 | lst d=>obtain ⟨_,_,_,_,e⟩:=x;exact cV e
 | tup d=>obtain ⟨_,_,_,p⟩:=x;exact p.lt
 | dK c=>obtain ⟨_,_,_,_,o,_,_,e,_⟩:=x;exact cV e
 | dT c=>obtain ⟨_,_,_,_,o,_,_,e,_⟩:=x;exact cV e
 | set S n=>obtain ⟨o,_,_,_,e,_⟩:=x;exact cV e
 | ins C g b=>obtain ⟨_,_,_,e,_⟩:=x;exact cV e
 | own y=>obtain ⟨_,e⟩:=x;exact cV e
 | xd b=>obtain ⟨_,⟨_,_,_,e,_⟩,_⟩:=x;exact cV e
 | GU j i=>obtain ⟨_,_,_,e⟩:=x;exact cV e
 | dZ k u=>obtain ⟨e,_⟩:=x;exact cV e
 | uB l=>exact cV (show h.get? a=some _ from x)
 | met f y=>exact cV (show h.get? a=some _ from x)
 | ext m=>obtain ⟨_,⟨_,e⟩,_⟩:=x;exact cV e
theorem Paired.uS {c d:Type} {F G:c->d->Prop} {l₁:List c} {l₂:List d} (h:Paired F l₁ l₂) (f:∀a b,F a b->G a b):Paired G l₁ l₂:=by
 induction h with
 | nil=>exact .nil
 | cons r t e=>exact .cons (f _ _ r) e
theorem cZ.ei (x:cZ P w H h a o) (k:∀b u,(b=a\/H b=some (.own a))->h.get? b=some u->h'.get? b=some u)
 (F:∀b,H b=some (.own a)->H' b=some (.own a)) (G:∀b xs,H b=some (.tup xs)->H' b=some (.tup xs)):cZ P w H' h' a o:=by
 induction o with
 | lst xs=>obtain ⟨z,l,n,r,e⟩:=x;exact ⟨z,l,n,r,k _ _ (.inl U) e⟩
 | tup xs=>obtain ⟨z,l,r,g,e,c⟩:=x;exact ⟨z,l,r,g,k _ _ (.inl U) e,c⟩
 | dK J=>obtain ⟨z,y,M,r,g,j,i,e,c⟩:=x;exact ⟨z,y,M,r,g,j,i,k _ _ (.inl U) e,c⟩
 | dT J=>
  obtain ⟨z,y,xs,r,g,j,i,e,c⟩:=x;exact ⟨z,y,xs,Paired.uS r λp q z=>⟨z.1,G _ _ z.2.1,z.2.2⟩,g,j,i,k _ _ (.inl U) e,c⟩
 | set S n=>obtain ⟨g,j,i,t,e,c⟩:=x;exact ⟨g,j,i,t,k _ _ (.inl U) e,c⟩
 | ins C N E=>
  obtain ⟨d,z,L,e,m,⟨s,j,i,D,c⟩,r⟩:=x;exact ⟨F _ d,z,L,k _ _ (.inl U) e,m,⟨s,j,i,k _ _ (.inr d) D,c⟩,r⟩
 | own y=>obtain ⟨g,e⟩:=x;exact ⟨g,k _ _ (.inl U) e⟩
 | xd E=>obtain ⟨m,⟨s,j,i,e,c⟩,r⟩:=x;exact ⟨m,⟨s,j,i,k _ _ (.inl U) e,c⟩,r⟩
 | GU Q O=>obtain ⟨t,u,v,e⟩:=x;exact ⟨t,u,v,k _ _ (.inl U) e⟩
 | dZ g u I=>obtain ⟨e,q⟩:=x;exact ⟨k _ _ (.inl U) e,I q⟩
 | uB A=>
  have e:h.get? a=some { cls:=.none,data:=.fields A }:=x;show h'.get? a=some { cls:=.none,data:=.fields A };exact k a _ (.inl U) e
 | met f y=>
  have e:h.get? a=some (PySem.W.methodObj (.ref f) (.ref y)):=x;show h'.get? a=some (PySem.W.methodObj (.ref f) (.ref y));exact k a _ (.inl U) e
 | ext R=>obtain ⟨p,⟨o,e⟩,B⟩:=x;exact ⟨B _ _ p λo q=>k _ _ (.inl U) q,⟨o,k _ _ (.inl U) e⟩,B⟩
theorem dJ.lt (x:dJ P w H h) (e:H a=some o):a<h.objs.size:=(x a o e).lt
theorem dJ.fresh (x:dJ P w H h) (e:h.objs.size<=a):H a=none:=by
 cases q:H a with
 | none=>rfl
 | some u=>exact absurd (gZ (x.lt q) e) (ji _)
theorem dJ.kept (x:dJ P w H h) (k:∀b u,h.get? b=some u->h'.get? b=some u):dJ P w H h':=λa o e=>
 (x a o e).ei (λb u _ q=>k b u q) (λ_ q=>q) λ_ _ q=>q
theorem dJ.laid (x:dJ P w H h) (k:∀b u,h.get? b=some u->h'.get? b=some u) (g:h.objs.size<=a) (i:cZ P w (upd H a o) h' a o):dJ P w (upd H a o) h':=λb u e=>by
 have f:=x.fresh g
 by_cases d:b=a
 ·subst d;rw [ah] at e;cases e;exact i
 ·rw [ag d] at e;exact (x b u e).ei (λc v _ q=>k c v q) (λc q=>by rw [ag (a7 q f)];exact q) λc j q=>by rw [ag (a7 q f)];exact q
end
def Rd (H:Hp) (a:Addr) (u:HO):Prop:=H a=some u\/∃o,H a=some (.dZ o u)
theorem Rd.ok {H:Hp} {h:Heap} {a:Addr} {u:HO} (r:Rd H a u) (x:dJ P w H h):cZ P w H h a u:=by
 rcases r with r | ⟨o,r⟩
 ·exact x a u r
 ·obtain ⟨_,q⟩:=x a _ r;exact q
def xl:Option HO->Prop
 | some (.lst _)=>True
 | some (.dK _)=>True
 | some (.dT _)=>True
 | some (.set _ _)=>True
 | some (.ins _ _ _)=>True
 | some (.ext _)=>True
 | _=>False
section
theorem dJ.write (ok:dJ P w H h) (g:xl (H x)) (j:e=x\/H e=some (.own x)) (k:∀b u,b≠e->h.get? b=some u->h'.get? b=some u) (n:∃u,h'.get? e=some u)
 (p:cZ P w (upd H x o') h' x o'):dJ P w (upd H x o') h':=λb u q=>by
 have l:∀c y,H c=some (.own y)->c≠x:=λc y r z=>by subst z;rw [r] at g;exact g
 have s:∀c i,H c=some (.tup i)->c≠x:=λc i r z=>by subst z;rw [r] at g;exact g
 by_cases a:b=x
 ·subst a;rw [ah] at q;cases q;exact p
 ·rw [ag a] at q
  by_cases d:b=e
  ·have m:H b=some (.own x):=by
    rcases j with z | z
    ·exact absurd (d.trans z) a
    ·rw [d];exact z
   rw [q] at m;cases m;obtain ⟨v,o⟩:=n;exact ⟨v,by rw [d];exact o⟩
  ·refine (ok b u q).ei (λc v f r=>k c v ?_ r) (λc r=>by rw [ag (l c b r)];exact r) λc i r=>by rw [ag (s c i r)];exact r
   rcases f with rfl | f
   ·exact d
   ·rintro rfl;rcases j with z | z
    ·exact l c b f z
    ·rw [f] at z;cases z;exact a U
end
structure Un (fs ex:List Addr) (H H':Hp) (h h':Heap):Prop where
 keep:∀b o,h.get? b=some o->H b=none->b∉fs->b∉ex->h'.get? b=some o
 slot:∀b o,h.get? b=some o->H b=none->b∈fs->b∉ex->∃sl,h'.get? b=some { o with slots:=sl }
 free:∀b o,h.get? b=some o->H b=none->b∉ex->H' b=none
 there:∀b o,h.get? b=some o->b∉ex->∃o',h'.get? b=some o'
 eh:∀b xs,H b=some (.tup xs)->H' b=some (.tup xs)
 eX:∀b o u,H b=some (.dZ o u)->H' b=some (.dZ o u)
 fq:∀b ps,H b=some (.uB ps)->∃more,H' b=some (.uB (ps++more))
section
theorem Un.any (u:Un fs ex H H1 h C) {b:Addr} {a:Obj} (q:h.get? b=some a) (n:H b=none) (d:b∉ex):∃e,C.get? b=some { a with slots:=e }:=by
 by_cases c:b∈fs
 ·exact u.slot b a q n c d
 ·exact ⟨a.slots,u.keep b a q n c d⟩
theorem Un.kept (k:∀b u,h.get? b=some u->h'.get? b=some u):Un fs ex H H h h':=
 ⟨λb a q _ _ _=>k b a q,λb a q _ _ _=>⟨a.slots,k b a q⟩,λ_ _ _ n _=>n,λb a q _=>⟨a,k b a q⟩,λ_ _ q=>q,λ_ _ _ q=>q,λ_ c q=>⟨#[],by rw [q];simp⟩⟩
theorem Un.refl:Un fs ex H H h h:=Un.kept λ_ _ q=>q
theorem Un.laid (k:∀b u,h.get? b=some u->h'.get? b=some u) (d:h.objs.size<=a) (c:H a=none):Un fs ex H (upd H a o) h h' where
 keep:=λb u q _ _ _=>k b u q
 slot:=λb u q _ _ _=>⟨u.slots,k b u q⟩
 free:=λb u q n _=>by rw [ag (fy (gZ (cV q) d))];exact n
 there:=λb u q _=>⟨u,k b u q⟩
 eh:=λb e q=>by rw [ag (a7 q c)];exact q
 eX:=λb u e q=>by rw [ag (a7 q c)];exact q
 fq:=λb f q=>⟨#[],by rw [ag (a7 q c),q];simp⟩
theorem Un.write (a:xl (H x)) (i:e=x\/H e=some (.own x)) (k:∀b u,b≠e->h.get? b=some u->h'.get? b=some u) (j:∃u,h'.get? e=some u):Un fs ex H (upd H x o) h h':=by
 have g:∀b,H b=none->b≠x:=λb n z=>by subst z;rw [n] at a;exact a
 have d:∀b,H b=none->b≠e:=λb n z=>by
  subst z;rcases i with r | r
  ·exact g b n r
  ·rw [n] at r;cases r
 have c:∀b u,H b=some u->¬xl (some u)->b≠x:=λb u q l z=>by subst z;rw [q] at a;exact l a
 refine ⟨λb u q n _ _=>k b u (d b n) q,λb u q n _ _=>⟨u.slots,k b u (d b n) q⟩,λb u q n _=>by rw [ag (g b n)];exact n,λb u q _=>?_,
  λb m q=>by rw [ag (c b _ q λz=>z)];exact q,λb u m q=>by rw [ag (c b _ q λz=>z)];exact q,λb p q=>⟨#[],by rw [ag (c b _ q λz=>z),q];simp⟩⟩
 by_cases f:b=e
 ·subst f;exact j
 ·exact ⟨u,k b u f q⟩
end
def BY (h:Heap) (H:Hp):List Addr:=(List.range h.objs.size).filter λa=>(H a).isSome
def pZ (h:Heap) (H:Hp):Heap:=PySem.W.hideAll h (BY h H)
theorem Vk (h:Heap) (H:Hp):(pZ h H).objs.size=h.objs.size:=PySem.W.hideAll_size _ _
theorem S3 {h:Heap} {H:Hp} {b:Addr} {o:Obj} (e:h.get? b=some o) (n:H b=none):(pZ h H).get? b=some o:=
 PySem.W.hideAll_get _ e λa=>by have q:(H b).isSome=true:=(List.mem_filter.mp a).2;rw [n] at q;simp at q
theorem Zg {h:Heap} {H:Hp} {b:Addr} {o:Obj} (e:(pZ h H).get? b=some o):h.get? b=some o/\H b=none:=by
 have a:h.get? b=some o:=PySem.W.of_hideAll (BY h H) e;refine ⟨a,?_⟩
 cases q:H b with
 | none=>rfl
 | some x=>
  have c:b∈BY h H:=List.mem_filter.mpr ⟨pP.mpr (cV a),by simp [q]⟩;have z:(pZ h H).get? b=none:=PySem.W.hideAll_none (BY h H) c;rw [z] at e;cases e
structure Mod (K:aY) (mg:Str->Option Value) (base:Heap):Prop where
 uX:K.In base
 glob:base.Ns mainGlobals mg
 blt:∃mb,base.Ns builtinsNs mb/\∀x:Str,x≠"__name__"->mb x=bootBuiltins x
 nolimit:base.NoLimit
structure Cx where
 prog:Program
 w:World
 K:aY
 mg:Str->Option Value
 base:Heap
 A:Around
 N:List Str
 bQ:Shared
 gx:Hp
 env:Env
 outer:List Env
 stack:List Env
 ex:List Addr
 fn:Str->Bool
 calm:Bool
 pn:List (Addr×Obj)
 xe:Value->Shared->Prop
def jd (l:List Env):List Addr:=l.filterMap (·.frame)
abbrev Cx.fs (X:Cx):List Addr:=jd X.outer
def vz (a:Scope) (x:Str):Prop:=a.names.lookup x=some .local\/a.names.lookup x=some .cell\/a.names.lookup x=some .free
def Loc (a:Scope) (x:Str):Prop:=a.names.lookup x=some .local\/a.names.lookup x=some .cell
def OS (env:Env) (h:Heap) (m:Str->Option Value) (x:Str) (u:Value):Prop:=
 (env.kindOf x=some .local/\m x=some u)\/((env.kindOf x=some .cell\/env.kindOf x=some .free)/\∃c,env.cells.lookup x=some c/\h.IsCell c (some u))
structure Cx.Ok (X:Cx):Prop where
 mod:Mod X.K X.mg X.base
 kind:X.env.scope.kind=.function
 glob:X.env.globals=mainGlobals
 blt:X.env.builtins=builtinsNs
 above:X.bQ.heap.objs.size<=X.env.locals
 inj:∀x y c,X.env.cells.lookup x=some c->X.env.cells.lookup y=some c->x=y
 has:∀x,(X.env.kindOf x=some .cell\/X.env.kindOf x=some .free)->∃c,X.env.cells.lookup x=some c
 rG:∀x c,X.fn x=true->X.env.cells.lookup x=some c->X.bQ.heap.objs.size<=c
 hd:X.calm=true->X.A.handled=none
 frames:X.A.frames=some X.stack
 sO:X.stack=X.outer\/(X.stack=X.env::X.outer/\X.env.frame=some X.env.locals)
 wR:∀b∈X.ex,b≠X.env.locals/\∀x c,X.env.cells.lookup x=some c->c≠b
 bs:∀b o,X.base.get? b=some o->X.bQ.heap.get? b=some o/\X.gx b=none
 m8:X.base.objs.size<=X.bQ.heap.objs.size
 i_:∀b o,X.base.get? b=some o->b∉X.ex
 je:∀b∈X.ex,b∉X.fs
 eE:X.bQ.heap.FunFrames X.base X.outer
 mY:∀b∈X.fs,X.gx b=none
structure Inv (X:Cx) (pins:List (Addr×Obj)) (σ:List (Option V)) (H:Hp) (s:Shared):Prop where
 ok:X.Ok
 os:s.os=X.bQ.os
 bare:AllBare s.gens
 base:Un X.fs X.ex X.gx H X.bQ.heap s.heap
 loc:∃m,s.heap.Ns X.env.locals m/\∀(i:Nat) (x:Str) (v:V),X.N[i]?=some x->σ[i]?=some (some v)->vz X.env.scope x->∃u,bz v u/\OS X.env s.heap m x u
 cell:∀x c,X.env.cells.lookup x=some c->∃v,s.heap.IsCell c v
 free:H X.env.locals=none
 bS:∀x c,X.env.cells.lookup x=some c->H c=none
 pin:∀p∈X.pn++pins,s.heap.get? p.1=some p.2/\H p.1=none/\p.1≠X.env.locals/\p.1∉X.fs/\∀v,p.2.data≠.cell v
 a4:dJ X.prog X.w H s.heap
 len:σ.length=X.N.length
section
variable {X:Cx}
theorem Cx.Ok.Hi (ok:X.Ok) {b:Addr} {o:Obj} (e:X.base.get? b=some o):b∉X.fs:=λa=>by have:=(ok.eE.mem a).1;rw [e] at this;cases this
theorem Inv.bs (I:Inv X pins σ H s):∀b o,X.base.get? b=some o->s.heap.get? b=some o/\H b=none:=λb o e=>
 ⟨I.base.keep b o (I.ok.bs b o e).1 (I.ok.bs b o e).2 (I.ok.Hi e) (I.ok.i_ b o e),I.base.free b o (I.ok.bs b o e).1 (I.ok.bs b o e).2 (I.ok.i_ b o e)⟩
theorem Inv.bk (I:Inv X pins σ H s):∀b o,X.base.get? b=some o->s.heap.get? b=some o:=λb o e=>(I.bs b o e).1
theorem Inv.mod (I:Inv X pins σ H s):Mod X.K X.mg X.base:=I.ok.mod
theorem Inv.de (I:Inv X pins σ H s):X.K.In s.heap:=I.ok.mod.uX.keeps I.bk
theorem Inv.lt (I:Inv X pins σ H s):X.env.locals<s.heap.objs.size:=let ⟨_,a,_⟩:=I.loc;a.lt
theorem Inv.sz (I:Inv X pins σ H s):X.bQ.heap.objs.size<=s.heap.objs.size:=cQ I.ok.above (aR I.lt)
theorem Inv.Hh (I:Inv X pins σ H s) {a:Addr} (h:s.heap.objs.size<=a):a∉X.fs:=λb=>by obtain ⟨_,o,c,_⟩:=I.ok.eE.mem b;exact absurd (gZ (cV c) (cQ I.sz h)) (ji _)
theorem Inv.zQ (I:Inv X pins σ H s):∀x c,X.env.cells.lookup x=some c->c≠X.env.locals:=λx c e z=>by obtain ⟨v,o,b,a⟩:=I.cell x c e;obtain ⟨m,⟨i,h,g,f,d,_⟩,_⟩:=I.loc;rw [z,f] at b;cases b;rw [d] at a;cases a
theorem Inv.eE (I:Inv X pins σ H s):s.heap.FunFrames X.base X.outer:=by
 have g:∀(l:List Env),(∀b∈jd l,b∈X.fs)->X.bQ.heap.FunFrames X.base l->s.heap.FunFrames X.base l:=by
  intro l
  induction l with
  | nil=>intro _ _;trivial
  | cons q r p=>
   intro f j;obtain ⟨i,⟨L,o,d,k,m,h⟩,n⟩:=j;have a:L∈X.fs:=f L (by unfold jd;rw [vt,d];exact fh);obtain ⟨t,e⟩:=I.base.slot L o m (I.ok.mY L a) a λz=>I.ok.je L z a;exact ⟨i,⟨L,_,d,k,e,h⟩,p (λb c=>f b (by unfold jd;rw [vt,d];exact gI _ c)) n⟩
 exact g X.outer (λ_ c=>c) I.ok.eE
theorem Inv.stack (I:Inv X pins σ H s):s.heap.FunFrames X.base X.stack:=by
 rcases I.ok.sO with e | ⟨e,a⟩
 ·rw [e];exact I.eE
 ·rw [e];obtain ⟨m,b,_⟩:=I.loc;refine .cons (by rw [I.ok.kind];decide) a b ?_ I.eE;exact Heap.get?_none_of_le (cQ I.ok.m8 I.ok.above)
theorem Inv.iV (I:Inv X pins σ H s):∀b∈jd X.stack,b∈X.env.locals::X.fs:=λb a=>by
 rcases I.ok.sO with e | ⟨e,c⟩
 ·rw [e] at a;exact gI _ a
 ·rw [e] at a;unfold jd at a;rw [vt,c] at a;exact a
theorem Inv.iW (I:Inv X pins σ H s):∀b∈jd X.stack,H b=none:=λb a=>by
 rcases eR.mp (I.iV b a) with e | a
 ·rw [e];exact I.free
 ·obtain ⟨_,o,c,_⟩:=I.ok.eE.mem a;exact I.base.free b o c (I.ok.mY b a) λz=>I.ok.je b z a
theorem Inv.step {g':Array GenState} {t':Nat} {d':Drawn} {ch:List Addr} (I:Inv X pins σ H s)
 (q:∀b∈ch,(b∈X.ex\/X.bQ.heap.objs.size<=b)/\b≠X.env.locals/\(∀x c,X.env.cells.lookup x=some c->c≠b)/\∀p∈X.pn++pins,p.1≠b)
 (D:∀b o,b≠X.env.locals->b∉X.fs->b∉ch->s.heap.get? b=some o->H b=none->h'.get? b=some o)
 (O:∀b o,b≠X.env.locals->b∈X.fs->b∉ch->s.heap.get? b=some o->H b=none->∃E,h'.get? b=some { o with slots:=E }) (y:∀b o,b∉ch->s.heap.get? b=some o->H b=none->H' b=none)
 (there:∀b o,b∉ch->s.heap.get? b=some o->∃t,h'.get? b=some t)
 (eh:∀b xs,H b=some (.tup xs)->H' b=some (.tup xs)) (R:∀b o u,H b=some (.dZ o u)->H' b=some (.dZ o u)) (fq:∀b B,H b=some (.uB B)->∃more,H' b=some (.uB (B++more)))
 (ns:∀m,s.heap.Ns X.env.locals m->h'.Ns X.env.locals m) (W:dJ X.prog X.w H' h') (S:AllBare g'):
 Inv X pins σ H' { s with heap:=h',gens:=g',drawn:=d',toks:=t' }:=by
 have M:∀b o,X.bQ.heap.get? b=some o->b≠X.env.locals:=λb o e=>fy (gZ (cV e) I.ok.above);have A:∀b o,X.bQ.heap.get? b=some o->b∉X.ex->b∉ch:=λb o e a g=>by
  rcases (q b g).1 with z | z
  ·exact a z
  ·exact absurd (gZ (cV e) z) (ji _)
 have F:∀x c,X.env.cells.lookup x=some c->∀v,s.heap.IsCell c v->h'.IsCell c v:=λx c e v ⟨o,h,C⟩=>by
  have r:c∉ch:=λz=>(q c z).2.2.1 x c e U
  by_cases G:c∈X.fs
  ·obtain ⟨E,x1⟩:=O c o (I.zQ x c e) G r h (I.bS x c e);exact ⟨_,x1,C⟩
  ·exact ⟨o,D c o (I.zQ x c e) G r h (I.bS x c e),C⟩
 refine ⟨I.ok,I.os,S,⟨λb o e n g a=>?_,λb o e n g a=>?_,λb o e n a=>?_,λb o e a=>?_,λb xs e=>eh b xs (I.base.eh b xs e),λb o xs e=>R b o xs (I.base.eX b o xs e),λb B e=>?_⟩,?_,λx c e=>?_,?_,λx c e=>?_,λp J=>?_,W,I.len⟩
 ·exact D b o (M b o e) g (A b o e a) (I.base.keep b o e n g a) (I.base.free b o e n a)
 ·obtain ⟨E,f⟩:=I.base.slot b o e n g a;obtain ⟨Ç,j⟩:=O b _ (M b o e) g (A b o e a) f (I.base.free b o e n a);exact ⟨Ç,j⟩
 ·obtain ⟨t,f⟩:=I.base.there b o e a;exact y b t (A b o e a) f (I.base.free b o e n a)
 ·obtain ⟨t,f⟩:=I.base.there b o e a;exact there b t (A b o e a) f
 ·obtain ⟨Y,f⟩:=I.base.fq b B e;obtain ⟨Z,j⟩:=fq b _ f;exact ⟨Y++Z,by rw [j,Array.append_assoc]⟩
 ·obtain ⟨m,V,T⟩:=I.loc;refine ⟨m,ns m V,λi x v f j Q=>?_⟩;obtain ⟨u,x2,l⟩:=T i x v f j Q;refine ⟨u,x2,?_⟩;rcases l with l | ⟨k,c,e,z⟩
  ·exact .inl l
  ·exact .inr ⟨k,c,e,F x c e _ z⟩
 ·obtain ⟨v,z⟩:=I.cell x c e;exact ⟨v,F x c e v z⟩
 ·obtain ⟨m,⟨o,_,_,h,_⟩,_⟩:=I.loc;exact y _ o (λz=>(q _ z).2.1 U) h I.free
 ·obtain ⟨v,o,h,C⟩:=I.cell x c e;exact y c o (λz=>(q c z).2.2.1 x c e U) h (I.bS x c e)
 ·obtain ⟨e,n,L,N,d⟩:=I.pin p J;have r:p.1∉ch:=λz=>(q p.1 z).2.2.2 p J U;exact ⟨D p.1 p.2 L N r e n,y p.1 p.2 r e n,L,N,d⟩
theorem Inv.un {t':Nat} (I:Inv X pins σ H s) (u:Un X.fs [] H H' s.heap h') (j:dJ X.prog X.w H' h'):Inv X pins σ H' { s with heap:=h',toks:=t' }:=by
 obtain ⟨m,⟨o,p,l,c,r⟩,_⟩:=id I.loc;obtain ⟨v,h⟩:=u.any c I.free (by simp);exact I.step (g':=s.gens) (d':=s.drawn) (ch:=[]) (λ_ z=>nomatch z) (λb o _ a _ e n=>u.keep b o e n a (by simp)) (λb o _ a _ e n=>u.slot b o e n a (by simp)) (λb o _ e n=>u.free b o e n (by simp)) (λb o _ e=>u.there b o e (by simp)) u.eh u.eX u.fq (λq i=>by
  obtain ⟨t,g,f,d,k⟩:=i;rw [c] at d;cases d;exact ⟨_,g,f,h,k⟩) j I.bare
theorem Inv.call {g':Array GenState} {t':Nat} {d':Drawn} {ch:List Addr} (I:Inv X pins σ H s) (u:Un (jd X.stack) ch H H' s.heap h') (t:dJ X.prog X.w H' h') (l:AllBare g')
 (f:∀b∈ch,(b∈X.ex\/X.bQ.heap.objs.size<=b)/\b≠X.env.locals/\(∀x c,X.env.cells.lookup x=some c->c≠b)/\∀p∈X.pn++pins,p.1≠b):
 Inv X pins σ H' { s with heap:=h',gens:=g',drawn:=d',toks:=t' }:=by
 obtain ⟨m,⟨o,A,y,g,r⟩,_⟩:=id I.loc;obtain ⟨D,d⟩:=u.any g I.free λz=>(f _ z).2.1 U;exact I.step (ch:=ch) f (λb o d k a e n=>u.keep b o e n (λz=>(eR.mp (I.iV b z)).elim d k) a) (λb o _ _ a e n=>u.any e n a) (λb o a e n=>u.free b o e n a) (λb o a e=>u.there b o e a) u.eh u.eX u.fq (λB q=>by
  obtain ⟨C,j,i,h,v⟩:=q;rw [g] at h;cases h;exact ⟨_,j,i,d,v⟩) t l
theorem Inv.turned {t':Nat} {it:Addr} (I:Inv X pins σ H s) (k:∀b o,b≠it->s.heap.get? b=some o->h'.get? b=some o) (A:H it=none) (d:it≠X.env.locals)
 (i:it∈X.ex\/X.bQ.heap.objs.size<=it) (j:∀x c,X.env.cells.lookup x=some c->c≠it) (l:∀p∈X.pn++pins,p.1≠it):Inv X pins σ H { s with heap:=h',toks:=t' }:=by
 have f:∀b u,H b=some u->b≠it:=λb u e z=>by rw [z,A] at e;cases e
 refine I.step (g':=s.gens) (d':=s.drawn) (ch:=[it]) (λb t=>?_) (λb o _ _ a e _=>k b o (λz=>a (by simp [z])) e) (λb o _ _ a e _=>⟨o.slots,k b o (λz=>a (by simp [z])) e⟩) (λ_ _ _ _ n=>n)
  (λb o a e=>⟨o,k b o (λz=>a (by simp [z])) e⟩) (λ_ _ e=>e) (λ_ _ _ e=>e) (λb C e=>⟨#[],by rw [e];simp⟩) (λm y=>?_) (λb u e=>?_) I.bare
 ·have e:b=it:=by simpa using t
  subst e;exact ⟨i,d,j,l⟩
 ·obtain ⟨o,h,g,B,r⟩:=y;exact ⟨o,h,g,k _ o (a6 d) B,r⟩
 ·refine (I.a4 b u e).ei (λc v a q=>k c v ?_ q) (λ_ q=>q) λ_ _ q=>q;rcases a with z | z
  ·rw [z];exact f b u e
  ·exact f c _ z
theorem Inv.tok (I:Inv X pins σ H s) (t:Nat):Inv X pins σ H { s with toks:=t }:=I.un (h':=s.heap) (t':=t) Un.refl I.a4
theorem Inv.kept {t':Nat} (I:Inv X pins σ H s) (k:∀b u,s.heap.get? b=some u->h'.get? b=some u):Inv X pins σ H { s with heap:=h',toks:=t' }:=I.un (Un.kept k) (I.a4.kept k)
theorem Inv.laid {a:Addr} {o:HO} {t':Nat} (I:Inv X pins σ H s) (k:∀b u,s.heap.get? b=some u->h'.get? b=some u) (c:s.heap.objs.size<=a) (d:cZ X.prog X.w (upd H a o) h' a o):
 Inv X pins σ (upd H a o) { s with heap:=h',toks:=t' }:=I.un (Un.laid k c (I.a4.fresh c)) (I.a4.laid k c d)
theorem Inv.write {x e:Addr} {o:HO} {t':Nat} (I:Inv X pins σ H s) (d:xl (H x)) (a:e=x\/H e=some (.own x)) (k:∀b u,b≠e->s.heap.get? b=some u->h'.get? b=some u) (c:∃u,h'.get? e=some u)
 (f:cZ X.prog X.w (upd H x o) h' x o):Inv X pins σ (upd H x o) { s with heap:=h',toks:=t' }:=I.un (Un.write d a k c) (I.a4.write d a k c f)
theorem Inv.lI {a:List (Addr×Obj)} (I:Inv X pins σ H s) (h:∀p∈a,s.heap.get? p.1=some p.2/\H p.1=none/\p.1≠X.env.locals/\p.1∉X.fs/\∀v,p.2.data≠.cell v):Inv X a σ H s:=
 ⟨I.ok,I.os,I.bare,I.base,I.loc,I.cell,I.free,I.bS,λp b=>(gH.mp b).elim (λz=>I.pin p (iE _ z)) (h p),I.a4,I.len⟩
theorem Mv {N:List Str} (e:N.Nodup) {i j:Nat} {x:Str} (a:N[i]?=some x) (b:N[j]?=some x):i=j:=by obtain ⟨f,c⟩:=cO.mp a;obtain ⟨g,d⟩:=cO.mp b;exact (List.getElem_inj e).mp (c.trans d.symm)
theorem Nu {M:Model} {A:Around} {E:Value->Shared->Prop} {i:Nat} {x:Str} {v:V} {u:Value} {Q:Unit->Shared->Prop} (I:Inv X pins σ H s) (hN:X.N.Nodup) (F:X.N[i]?=some x) (m:Loc X.env.scope x) (r:bz v u)
 (h:∀s',Inv X pins (σ.set i (some v)) H s'->(∃a,Heap.SameBut a s.heap s'.heap/\(a=X.env.locals\/X.env.cells.lookup x=some a))->Q () s') (hf:X.fn x=true\/X.env.scope.names.lookup x=some .local:=by first | exact .inl rfl | exact .inr rfl | assumption):wpAny M A (storeName X.env x u) Q E s:=by
 obtain ⟨x1,S,hl⟩:=id I.loc;have ID:(X.env.scope.kind==.class || (X.env.scope.kind==.module && X.env.locals !=X.env.globals))=false:=by rw [I.ok.kind];rfl
 have zp:i<σ.length:=by rw [I.len];exact (cO.mp F).1
 have N:=I.zQ;have tracked:∀{a:Addr} {h':Heap},(∃o,s.heap.get? a=some o/\H a=none)->Heap.SameBut a s.heap h'->dJ X.prog X.w H h':=λ{a h'} ha f b ob e=>by
  obtain ⟨_,_,sZ⟩:=ha;refine (I.a4 b ob e).ei (λc L l q=>(f.2 c ?_).trans q) (λ_ q=>q) λ_ _ q=>q;rintro rfl;rcases l with rfl | l
  ·rw [sZ] at e;cases e
  ·rw [sZ] at l;cases l
 rcases m with B | B
 ·refine wpAny_storeName_local B S (λh' hn' f=>?_) ID;obtain ⟨oL,_,_,ϸ,_⟩:=id S;refine h _ ⟨I.ok,I.os,I.bare,⟨λb o e n C m=>?_,λb o e n C m=>?_,I.base.free,λb o e m=>?_,I.base.eh,I.base.eX,I.base.fq⟩,⟨_,hn',λj y v' g t O=>?_⟩,λy c e=>?_,I.free,I.bS,λp T=>?_,tracked ⟨oL,ϸ,I.free⟩ f,by simpa using I.len⟩ ⟨_,f,.inl U⟩
  ·exact (f.2 b (fy (gZ (cV e) I.ok.above))).trans (I.base.keep b o e n C m)
  ·obtain ⟨sl,g⟩:=I.base.slot b o e n C m;exact ⟨sl,(f.2 b (fy (gZ (cV e) I.ok.above))).trans g⟩
  ·obtain ⟨Y,g⟩:=I.base.there b o e m;exact ⟨Y,(f.2 b (fy (gZ (cV e) I.ok.above))).trans g⟩
  ·by_cases D:j=i
   ·subst D;rw [F] at g;cases g;rw [J' zp] at t;cases t;exact ⟨u,r,.inl ⟨B,by simp⟩⟩
   ·rw [JR (a6 D)] at t;obtain ⟨u',Z,q⟩:=hl j y v' g t O;refine ⟨u',Z,?_⟩;rcases q with ⟨k,e⟩ | ⟨k,c,e,z⟩
    ·refine .inl ⟨k,?_⟩;have:y≠x:=λe=>D (Mv hN g (e▸F));simp [this,e]
    ·exact .inr ⟨k,c,e,z.sameBut f (N y c e)⟩
  ·obtain ⟨L,z⟩:=I.cell y c e;exact ⟨L,z.sameBut f (N y c e)⟩
  ·obtain ⟨e,n,J,W,d⟩:=I.pin p T;exact ⟨(f.2 p.1 J).trans e,n,J,W,d⟩
 ·have R:X.fn x=true:=by
   rcases hf with z | z
   ·exact z
   ·rw [z] at B;cases B
  obtain ⟨c,l⟩:=I.ok.has x (.inl B);obtain ⟨L,z⟩:=I.cell x c l;refine wpAny_storeName_cell I.ok.kind B l z (λh' QX f=>?_);obtain ⟨oc,QL,HX⟩:=id z;refine h { s with heap:=h' } ⟨I.ok,I.os,I.bare,⟨λb o e n C m=>?_,λb o e n C m=>?_,I.base.free,λb o e m=>?_,I.base.eh,I.base.eX,I.base.fq⟩,⟨x1,S.sameBut f (a6 (N x c l)),λj y v' g t O=>?_⟩,λy G e=>?_,I.free,I.bS,λp T=>?_,tracked ⟨oc,QL,I.bS x c l⟩ f,by simpa using I.len⟩ ⟨c,f,.inr l⟩
  ·exact (f.2 b (fy (gZ (cV e) (I.ok.rG x c R l)))).trans (I.base.keep b o e n C m)
  ·obtain ⟨sl,g⟩:=I.base.slot b o e n C m;exact ⟨sl,(f.2 b (fy (gZ (cV e) (I.ok.rG x c R l)))).trans g⟩
  ·obtain ⟨Y,g⟩:=I.base.there b o e m;exact ⟨Y,(f.2 b (fy (gZ (cV e) (I.ok.rG x c R l)))).trans g⟩
  ·by_cases D:j=i
   ·subst D;rw [F] at g;cases g;rw [J' zp] at t;cases t;exact ⟨u,r,.inr ⟨.inl B,c,l,QX⟩⟩
   ·rw [JR (a6 D)] at t;obtain ⟨u',Z,q⟩:=hl j y v' g t O;refine ⟨u',Z,?_⟩;rcases q with q | ⟨k,G,e,z'⟩
    ·exact .inl q
    ·refine .inr ⟨k,G,e,z'.sameBut f ?_⟩;rintro rfl;exact D (Mv hN g (I.ok.inj _ _ _ e l▸F))
  ·by_cases QW:G=c
   ·subst QW;exact ⟨_,QX⟩
   ·obtain ⟨w2,z2⟩:=I.cell y G e;exact ⟨w2,z2.sameBut f QW⟩
  ·obtain ⟨e,n,J,W,d⟩:=I.pin p T;refine ⟨(f.2 p.1 ?_).trans e,n,J,W,d⟩;intro q;rw [q,QL] at e;have q':oc=p.2:=ff e;exact d L (by rw [<-q'];exact HX)
theorem Bi {M:Model} {A:Around} {E:Value->Shared->Prop} {i:Nat} {x:Str} {v:V} {u:Value} {Q:Unit->Shared->Prop} (I:Inv X pins σ H s) (b:X.N.Nodup) (d:X.N[i]?=some x) (e:Loc X.env.scope x) (r:bz v u)
 (h:∀s',Inv X pins (σ.set i (some v)) H s'->Q () s') (c:X.fn x=true\/X.env.scope.names.lookup x=some .local:=by first | exact .inl rfl | exact .inr rfl | assumption):wpAny M A (storeName X.env x u) Q E s:=
 Nu I b d e r (λs' a _=>h s' a) c
theorem Inv.oN {s':Shared} {ch:List Addr} (I:Inv X pins σ H s) (f:s'.os=s.os) (u:Un (jd X.stack) ch H H' s.heap s'.heap) (g:dJ X.prog X.w H' s'.heap) (d:AllBare s'.gens)
 (a:∀b∈ch,(b∈X.ex\/X.bQ.heap.objs.size<=b)/\b≠X.env.locals/\(∀x c,X.env.cells.lookup x=some c->c≠b)/\∀p∈X.pn++pins,p.1≠b):Inv X pins σ H' s':=by
 obtain ⟨i,g',d',t',h⟩:=s';have e:h=s.os:=f;subst e;exact I.call (g':=g') (t':=t') (d':=d') u g d a
end
abbrev XK:=Value->Option Addr->Hp->Prop
abbrev St:=List (Option V)
abbrev VK:=V->Hp->Prop
abbrev TE:=St->Hp->VK->Prop
abbrev TT:=St->Hp->(Bool->Hp->Prop)->Prop
abbrev TA:=St->Hp->(List V->Hp->Prop)->Prop
structure qb where
 nx:St->Hp->Prop
 rt:VK
 bk:St->Hp->Prop:=λ_ _=>False
 ct:St->Hp->Prop:=λ_ _=>False
abbrev TS:=qb->St->Hp->Prop
theorem eF {c d:Type} {p q r:c->d->Prop} {P:Prop} (h:∃a b,p a b/\q a b/\r a b) (k:∀a b,p a b->q a b->r a b->P):P:=by obtain ⟨a,b,x,y,z⟩:=h;exact k a b x y z
theorem Rq {b:Type} {p q:b->Prop} {P:Prop} (h:∃a,p a/\q a) (k:∀a,p a->q a->P):P:=by obtain ⟨a,x,y⟩:=h;exact k a x y
def EP (X:Cx) (b:List (Addr×Obj)) (c:St) (Q:VK) (u:Value) (s':Shared):Prop:=∃v a,Inv X b c a s'/\bz v u/\Q v a
def TP (X:Cx) (c:List (Addr×Obj)) (d:St) (Q:Bool->Hp->Prop) (b:Bool) (s':Shared):Prop:=∃a,Inv X c d a s'/\Q b a
def AP (X:Cx) (c:List (Addr×Obj)) (d:St) (Q:List V->Hp->Prop) (us:List Value) (s':Shared):Prop:=∃b a,Inv X c d a s'/\aX b us/\Q b a
def SP (X:Cx) (c:List (Addr×Obj)) (D:qb) (f:Flow) (s':Shared):Prop:=
 match f with
 | .next=>∃b a,Inv X c b a s'/\D.nx b a
 | .brk=>∃b a,Inv X c b a s'/\D.bk b a
 | .cont=>∃b a,Inv X c b a s'/\D.ct b a
 | .ret u=>∃v b a,Inv X c b a s'/\bz v u/\D.rt v a
def PE (X:Cx) (e:Expr) (t:TE):Prop:=
 ∀(b:List (Addr×Obj)) (s:Shared) (a:St) (H:Hp) (Q:VK),Inv X b a H s->t a H Q->wpAny (model X.prog X.w) X.A (eval e X.env) (EP X b a Q) X.xe s
def PT (X:Cx) (e:Expr) (t:TT):Prop:=
 ∀(b:List (Addr×Obj)) (s:Shared) (a:St) (H:Hp) (Q:Bool->Hp->Prop),Inv X b a H s->t a H Q->wpAny (model X.prog X.w) X.A (isTrue e X.env (eval e X.env)) (TP X b a Q) X.xe s
def PW (X:Cx) (e:Expr) (t:TT):Prop:=
 ∀(c:Sem Value) (b:List (Addr×Obj)) (s:Shared) (a:St) (H:Hp) (Q:Bool->Hp->Prop),Inv X b a H s->t a H Q->wpAny (model X.prog X.w) X.A (isTrue e X.env c) (TP X b a Q) X.xe s
theorem PW.pt {X:Cx} {e:Expr} {t:TT} (h:PW X e t):PT X e t:=h _
def PA (X:Cx) (c:List Expr) (t:TA):Prop:=
 ∀(d:Pos) (b:List (Addr×Obj)) (s:Shared) (a:St) (H:Hp) (Q:List V->Hp->Prop),Inv X b a H s->t a H Q->wpAny (model X.prog X.w) X.A (spliced (backTo d (starEach c X.env))) (AP X b a Q) X.xe s
def PS (X:Cx) (st:Stmt) (t:TS):Prop:=
 ∀(a:List (Addr×Obj)) (s:Shared) (b:St) (H:Hp) (D:qb),Inv X a b H s->t D b H->wpAny (model X.prog X.w) X.A (exec st X.env) (SP X a D) X.xe s
def f7 (X:Cx) (st:List Stmt) (t:TS):Prop:=
 ∀(a:List (Addr×Obj)) (s:Shared) (b:St) (H:Hp) (D:qb),Inv X a b H s->t D b H->wpAny (model X.prog X.w) X.A (execs st X.env) (SP X a D) X.xe s
theorem ay {c:Type} {t:Sem c} {Q b:c->Shared->Prop} {M:Model} {A:Around} {E:Value->Shared->Prop} {s:Shared} (h:wpAny M A t Q E s) (d:∀a s,Q a s->b a s):wpAny M A t b E s:=gY h d λ_ _ x=>x
section
def gf (i:Nat):TE:=λa H Q=>∃v,a[i]?=some (some v)/\Q v H
def tC (v:V):TE:=λ_ H Q=>Q v H
theorem Du {i:Nat} {x:Str} {pos:Pos} (j:X.N[i]?=some x) (q:vz X.env.scope x) (d:(x==("__debug__":Str))=false:=by decide) (k:(x==("__classdict__":Str))=false:=by decide):PE X (.Name x pos) (gf i):=by
 intro t s y H Q I h;obtain ⟨v,e,h⟩:=h;obtain ⟨m,p,n⟩:=I.loc;obtain ⟨u,r,l⟩:=n i x v j e q;have b:EP X t y Q u s:=⟨v,H,I,r,h⟩;rcases l with ⟨a,o⟩ | ⟨a,c,f,g⟩
 ·exact wpAny_Name (wpAny_loadName_local I.ok.kind a p o b) d
 ·rcases a with a | a
  ·exact wpAny_Name (wpAny_loadName_cell I.ok.kind a f g b) d
  ·exact wpAny_Name (wpAny_loadName_free I.ok.kind a f g b k) d
theorem a0 {i j pos}:PE X (.Constant (.int i) j pos) (tC (.int i)):=λ_ _ _ H _ I h=>wpAny_Constant_int ⟨.int i,H,I.tok _,⟨_,U⟩,h⟩
theorem F8 {b j pos}:PE X (.Constant (.bool b) j pos) (tC (.bl b)):=λ_ _ _ H _ I h=>Constant_bool ⟨.bl b,H,I,U,h⟩
theorem zev {j pos}:PE X (.Constant .none j pos) (tC .a9):=λ_ _ _ H _ I h=>Constant_none ⟨.a9,H,I,U,h⟩
theorem eV {x j pos}:PE X (.Constant (.str x) j pos) (tC (.str x)):=λ_ _ _ H _ I h=>Calls.Constant_str ⟨.str x,H,I.tok _,⟨_,U⟩,h⟩
def Gl (X:Cx) (x:Str):Prop:=X.env.kindOf x=some .globalImplicit
theorem vR {E:Value->Shared->Prop} {d:List (Addr×Obj)} {s:Shared} {e:St} {H:Hp} {x:Str} {u:Value} {pos:Pos} {Q:Value->Shared->Prop} (I:Inv X d e H s) (b:Gl X x) (c:X.mg x=some u) (h:Q u s)
 (a:(x==("__debug__":Str))=false:=by decide):wpAny (model X.prog X.w) X.A (eval (.Name x pos) X.env) Q E s:=
 RM I.ok.kind b (Calls.loadGlobal_global (by rw [I.ok.glob];exact I.mod.glob.keeps I.bk) c h) a
theorem r_ {E:Value->Shared->Prop} {i:List (Addr×Obj)} {s:Shared} {j:St} {H:Hp} {x:Str} {u:Value} {pos:Pos} {Q:Value->Shared->Prop} (I:Inv X i j H s) (d:Gl X x) (e:X.mg x=none) (g:bootBuiltins x=some u) (h:Q u s)
 (f:x≠"__name__":=by decide) (c:(x==("__debug__":Str))=false:=by decide):wpAny (model X.prog X.w) X.A (eval (.Name x pos) X.env) Q E s:=by
 obtain ⟨k,a,b⟩:=I.mod.blt;exact RM I.ok.kind d (Calls.loadGlobal_builtin (by rw [I.ok.glob];exact I.mod.glob.keeps I.bk) e (by rw [I.ok.blt];exact a.keeps I.bk) ((b x f).trans g) h) c
theorem nH {x:Str} {v:V} {u:Value} {pos:Pos} (b:Gl X x) (c:X.mg x=some u) (r:bz v u) (a:(x==("__debug__":Str))=false:=by decide):PE X (.Name x pos) (tC v):=
 λ_ _ _ H _ I h=>vR I b c ⟨v,H,I,r,h⟩ a
theorem Lh {x:Str} {v:V} {u:Value} {pos:Pos} (b:Gl X x) (c:X.mg x=none) (e:bootBuiltins x=some u) (r:bz v u) (d:x≠"__name__":=by decide) (a:(x==("__debug__":Str))=false:=by decide):PE X (.Name x pos) (tC v):=
 λ_ _ _ H _ I h=>r_ I b c e ⟨v,H,I,r,h⟩ d a
def PC (X:Cx) (e:CmpOp) (a b:Expr) (t:TE):Prop:=
 ∀(d:List (Addr×Obj)) (s:Shared) (c:St) (H:Hp) (Q:VK),Inv X d c H s->t c H Q->
  wpAny (model X.prog X.w) X.A (eval a X.env) (λv f=>wpAny (model X.prog X.w) X.A (eval b X.env) (λu g=>wpAny (model X.prog X.w) X.A (compareOp e v u) (EP X d c Q) X.xe g) X.xe f) X.xe s
def tB (t:TE):TT:=λb H Q=>t b H λx a=>∃c,x=.bl c/\Q c a
theorem tW {f:CmpOp} {t:TE} (h:PC X f a b t) (e:behindInMarks f b=false:=by first | exact C _ (by decide) (by decide) | rfl):PT X (.Compare a [f] [b] pos) (tB t):=by intro l s p H Q I k;refine wpAny_isTrue_Compare1 (ay (h l s p H _ I k) λv r e=>ay e λu y j=>ay j λc z o=>?_) e;obtain ⟨x,g,i,n,m⟩:=o;obtain ⟨d,rfl,q⟩:=m;cases n;exact pV ⟨g,i,q⟩
theorem sg {e:Expr} {t:TE} (h:PE X e t) (f:∀a,isTrue e X.env a=(do let v <-a;standAt e.pos;holding [v] (truthy v)):=by intro _;rfl):PT X e (tB t):=by intro i s m H Q I g;refine isTrue_plain (ay (h i s m H _ I g) λv n l=>?_) (f _);obtain ⟨x,b,c,k,j⟩:=l;obtain ⟨d,rfl,q⟩:=j;cases k;exact pV ⟨b,c,q⟩
variable {rest:List Expr}
def Xw (t u:TT):TT:=λb H Q=>t b H λc a=>if c=true then u b a Q else Q false a
def À (t u:TT):TT:=λb H Q=>t b H λc a=>if c=true then Q true a else u b a Q
def X2 (t:TT):TT:=λb H Q=>t b H λc a=>Q (!c) a
theorem vV (b:PT X a tA):PW X (.BoolOp .And [a] pos) tA:=by
 intro i d s f H Q I h;refine isTrue_and (ay (b d s f H Q I h) λc g e=>?_)
 cases c with
 | true=>exact isTrue_and_nil e
 | false=>exact e
theorem vN (b:PT X a tA):PW X (.BoolOp .Or [a] pos) tA:=by
 intro i d s f H Q I h;refine isTrue_or (ay (b d s f H Q I h) λc g e=>?_)
 cases c with
 | false=>exact isTrue_or_nil e
 | true=>exact e
theorem vM (j:PT X a C) (k:PW X (.BoolOp .And (b::rest) pos) J):PW X (.BoolOp .And (a::b::rest) pos) (Xw C J):=by
 intro m f s i H Q I h;refine isTrue_and (ay (j f s i H _ I h) λc l n=>?_);obtain ⟨d,e,g⟩:=n
 cases c with
 | true=>exact k m f l i d Q e g
 | false=>exact ⟨d,e,g⟩
theorem rY (j:PT X a C) (k:PW X (.BoolOp .Or (b::rest) pos) J):PW X (.BoolOp .Or (a::b::rest) pos) (À C J):=by
 intro m f s i H Q I h;refine isTrue_or (ay (j f s i H _ I h) λc l n=>?_);obtain ⟨d,e,g⟩:=n
 cases c with
 | true=>exact ⟨d,e,g⟩
 | false=>exact k m f l i d Q e g
theorem vL (d:PT X a C):PT X (.UnaryOp .Not a pos) (X2 C):=by intro e s f H Q I h;exact isTrue_not (d e s f H (λc b=>Q (!c) b) I h)
def XZ (d e:TE):TE:=λb H Q=>d b H λx a=>∃c,x=.bl c/\if c=true then e b a Q else Q (.bl false) a
theorem Dt {op} {t:TE} (h:PE X a t):PE X (.BoolOp op [a] pos) t:=λc s d H Q I b=>BoolOp_one (h c s d H Q I b)
theorem xG (j:PE X a C) (k:PE X (.BoolOp .And (b::rest) pos) J):PE X (.BoolOp .And (a::b::rest) pos) (XZ C J):=by
 intro g s i H Q I h;refine BoolOp_and (ay (j g s i H _ I h) λv m n=>?_);obtain ⟨x,e,f,l,d⟩:=n;obtain ⟨c,rfl,d⟩:=d;cases l;refine pV ?_
 cases c with
 | true=>exact k g m i e Q f d
 | false=>exact ⟨.bl false,e,f,U,d⟩
def Á (t:TT) (d e:TE):TE:=λa H Q=>t a H λc b=>if c=true then d a b Q else e a b Q
theorem M4 {c:Expr} (n:PT X c C) (l:PE X a J) (m:PE X b tb):PE X (.IfExp c a b pos) (Á C J tb):=by
 intro e s f H Q I h;refine wpAny_IfExp (ay (n e s f H _ I h) λd k o=>?_);obtain ⟨g,i,j⟩:=o
 cases d with
 | true=>exact l e k f g Q i j
 | false=>exact m e k f g Q i j
end
def ai (K:aY) (H:Hp) (a:Addr) (xs:List V):Prop:=
 Rd H a (.lst xs)\/
  ∃(o:Obj) (b:Array Value) (n:Nat),K.lookup a=some o/\o.cls=.type "list"/\o.dict=none/\o.data=.seq b n/\b.size<=sizeLine/\aX xs b.toList
def cK (K:aY) (H:Hp) (a:Addr) (xs:List V):Prop:=
 Rd H a (.tup xs)\/
  ∃(o:Obj) (b:Array Value) (n:Nat),K.lookup a=some o/\o.cls=.type "tuple"/\o.data=.seq b n/\b.size<=sizeLine/\aX xs b.toList
def WA:Value->Option V
 | .none=>some .a9
 | .bool b=>some (.bl b)
 | .int i _=>some (.int i)
 | .str x _=>some (.str x)
 | .bytes b _=>some (.lR b)
 | .float b _=>some (.oJ b)
 | .ref a=>some (.ref a)
 | .type n=>some (.ty n)
 | _=>none
theorem bz.abs {x:V} {u:Value} (r:bz x u):WA u=some x:=by
 cases x with
 | a9=>cases r;rfl
 | bl _=>cases r;rfl
 | int _=>obtain ⟨t,rfl⟩:=r;rfl
 | str _=>obtain ⟨t,rfl⟩:=r;rfl
 | lR _=>obtain ⟨t,rfl⟩:=r;rfl
 | oJ _=>obtain ⟨t,rfl⟩:=r;rfl
 | ref _=>cases r;rfl
 | ty _=>cases r;rfl
theorem bz.inj {x y:V} {u:Value} (r:bz x u) (q:bz y u):x=y:=ff (r.abs.symm.trans q.abs)
theorem aX.inj {xs ys:List V} {us:List Value} (h:aX xs us) (h':aX ys us):xs=ys:=by
 induction h generalizing ys with
 | nil=>cases h';rfl
 | cons r t a=>
  cases h' with
  | cons b c=>rw [r.inj b,a c]
section
theorem ai.of (h:H a=some (.lst xs)):ai K H a xs:=.inl (.inl h)
theorem cK.of (h:H a=some (.tup xs)):cK K H a xs:=.inl (.inl h)
theorem Inv.list (I:Inv X pins σ H s) (h:ai X.K H a xs):∃its:List Value,aX xs its/\PlainL s.heap a its.toArray/\xs.length<=sizeLine:=by
 rcases h with h | ⟨o,its,n,d,b,c,f,g,r⟩
 ·obtain ⟨z,its,n,r,e⟩:=h.ok I.a4;exact ⟨its,r,⟨_,n,e,U,U,U⟩,z⟩
 ·refine ⟨its.toList,r,⟨o,n,I.de a o d,b,c,by simpa using f⟩,?_⟩;have e:=r.length;simp only [oS] at e;exact wg e g
theorem Inv.tuple (I:Inv X pins σ H s) (h:cK X.K H a xs):∃its:List Value,aX xs its/\IsTup s.heap a its.toArray/\xs.length<=sizeLine:=by
 rcases h with h | ⟨o,its,n,c,b,d,f,r⟩
 ·obtain ⟨z,its,r,p⟩:=h.ok I.a4;exact ⟨its,r,p,z⟩
 ·refine ⟨its.toList,r,⟨o,I.de a o c,b,n,by simpa using d⟩,?_⟩;have e:=r.length;simp only [oS] at e;exact wg e f
theorem Inv.o5 (I:Inv X pins σ H s) (h:ai X.K H a xs) (h':ai X.K H a ys):xs=ys:=by
 obtain ⟨g,r,⟨o,n,e,_,_,d⟩,_⟩:=I.list h;obtain ⟨its',i,⟨k,j,c,_,_,b⟩,_⟩:=I.list h';rw [e] at c;cases c;rw [d] at b
 injection b with f _
 have:g=its':=by simpa using congrArg Array.toList f
 subst this;exact r.inj i
theorem Inv.mh (I:Inv X pins σ H s) (h:cK X.K H a xs) (h':cK X.K H a ys):xs=ys:=by
 obtain ⟨g,r,⟨o,e,_,n,d⟩,_⟩:=I.tuple h;obtain ⟨its',i,⟨k,c,_,j,b⟩,_⟩:=I.tuple h';rw [e] at c;cases c;rw [d] at b
 injection b with f _
 have:g=its':=by simpa using congrArg Array.toList f
 subst this;exact r.inj i
end
abbrev Cx.h_ (X:Cx) (E:Value->Shared->Prop):Cx:={ X with xe:=E }
abbrev Cx.wD (X:Cx):Cx:=X.h_ λ_ _=>False
theorem Cx.Ok.h_ {X:Cx} (ok:X.Ok) (E:Value->Shared->Prop):(X.h_ E).Ok:=
 ⟨ok.mod,ok.kind,ok.glob,ok.blt,ok.above,ok.inj,ok.has,ok.rG,ok.hd,ok.frames,ok.sO,ok.wR,ok.bs,ok.m8,ok.i_,ok.je,ok.eE,ok.mY⟩
theorem Cx.Ok.d0 {X:Cx} {E:Value->Shared->Prop} (ok:(X.h_ E).Ok):X.Ok:=
 ⟨ok.mod,ok.kind,ok.glob,ok.blt,ok.above,ok.inj,ok.has,ok.rG,ok.hd,ok.frames,ok.sO,ok.wR,ok.bs,ok.m8,ok.i_,ok.je,ok.eE,ok.mY⟩
section
theorem Inv.h_ (I:Inv X pins σ H s) (E:Value->Shared->Prop):Inv (X.h_ E) pins σ H s:=⟨I.ok.h_ E,I.os,I.bare,I.base,I.loc,I.cell,I.free,I.bS,I.pin,I.a4,I.len⟩
theorem Inv.d0 (I:Inv (X.h_ E) pins σ H s):Inv X pins σ H s:=⟨I.ok.d0,I.os,I.bare,I.base,I.loc,I.cell,I.free,I.bS,I.pin,I.a4,I.len⟩
theorem SP.d0 {D:qb} {f:Flow} {s':Shared} (h:SP (X.h_ E) pins D f s'):SP X pins D f s':=by
 cases f with
 | next=>obtain ⟨b,a,I,q⟩:=h;exact ⟨b,a,I.d0,q⟩
 | brk=>obtain ⟨b,a,I,q⟩:=h;exact ⟨b,a,I.d0,q⟩
 | cont=>obtain ⟨b,a,I,q⟩:=h;exact ⟨b,a,I.d0,q⟩
 | ret u=>obtain ⟨v,b,a,I,r,q⟩:=h;exact ⟨v,b,a,I.d0,r,q⟩
theorem f7.wD {st:List Stmt} {t:TS} (h:f7 X.wD st t):f7 X st t:=λb s c H D I a=>
 gY (h b s c H D (I.h_ _) a) (λ_ _ q=>q.d0) λ_ _ z=>gX z
end
section
variable {st:Stmt} {rest:List Stmt}
def Ye:TS:=λD a H=>D.nx a H
def X4 (t u:TS):TS:=λD a H=>t { D with nx:=u D } a H
theorem dH:f7 X [] Ye:=λ_ _ a H _ I h=>Ag ⟨a,H,I,h⟩
theorem aO (d:PS X st t) (e:f7 X rest u):f7 X (st::rest) (X4 t u):=by
 intro a s i H D I h;refine wpAny_execs_cons (ay (d a s i H { D with nx:=u D } I h) λf g q=>?_)
 cases f with
 | next=>
  obtain ⟨j,b,c,q⟩:=q;exact e a g j b D c q
 | ret v=>exact q
 | brk=>exact q
 | cont=>exact q
theorem ax (a:PS X st t):f7 X [st] t:=by
 intro b s c H D I h;refine wpAny_execs_cons (ay (a b s c H D I h) λf d q=>?_)
 cases f with
 | next=>exact Ag q
 | ret v=>exact q
 | brk=>exact q
 | cont=>exact q
theorem Inv.quiet {a:List (Addr×Obj)} {b:St} {H:Hp} {s:Shared} (I:Inv X a b H s):interactive X.env=false:=by simp [interactive,I.ok.kind]
def Yb (c:TE):TS:=λD a H=>c a H λ_ b=>D.nx a b
theorem eg (d:PE X e C) (f:swapsWith e none pos.line X.env=pure false:=by rfl):PS X (.Expr e pos) (Yb C):=by intro g s a H D I h;exact wpAny_Expr_any (ay (d g s a H _ I h) λv l j=>L2.eF j λx b c k i=>⟨a,b,c,i⟩) I.quiet f
def X3 (a:TE):TS:=λD b H=>a b H D.rt
theorem b_ (d:PE X e C):PS X (.Return (some e) pos) (X3 C):=by intro f s a H D I h;exact wpAny_Return_some (ay (d f s a H _ I h) λv k j=>L2.eF j λx b c i g=>⟨x,a,b,c,i,g⟩)
def X0 (c:TT) (t u:TS):TS:=λD a H=>c a H λb d=>if b=true then t D a d else u D a d
theorem dG {c:Expr} {a b:List Stmt} {l:TT} (o:PT X c l) (m:f7 X a t) (n:f7 X b u):PS X (.If c a b pos) (X0 l t u):=by
 intro e s f H D I h;refine wpAny_If (ay (o e s f H _ I h) λd k p=>?_);obtain ⟨g,i,j⟩:=p
 cases d with
 | true=>exact m e k f g D i j
 | false=>exact n e k f g D i j
def YF:TS:=λ_ _ _=>False
theorem sC {a:List Stmt}:f7 X a YF:=λ_ _ _ _ _ _ h=>h.elim
end
abbrev TG:=V->St->Hp->(St->Hp->Prop)->Prop
abbrev v9:=List V->St->Hp->(St->Hp->Prop)->Prop
def PG (X:Cx) (f:Expr) (t:TG):Prop:=
 ∀(b:List (Addr×Obj)) (s:Shared) (c:St) (H:Hp) (v:V) (u:Value) (Q:St->Hp->Prop),Inv X b c H s->bz v u->t v c H Q->
  wpAny (model X.prog X.w) X.A (assign f X.env u) (λ_ e=>∃d a,Inv X b d a e/\Q d a) X.xe s
def mH (X:Cx) (h:List Expr) (t:v9):Prop:=
 ∀(b:List (Addr×Obj)) (s:Shared) (e:St) (H:Hp) (d:List V) (c:List Value) (Q:St->Hp->Prop),Inv X b e H s->aX d c->t d e H Q->
  wpAny (model X.prog X.w) X.A (assignInOrder ((assignEach h X.env).map (·.2)) c) (λ_ g=>∃f a,Inv X b f a g/\Q f a) X.xe s
abbrev Fi:=V->V->V->Hp->(Hp->Prop)->Prop
def OU (X:Cx) (t:Fi):Prop:=
 ∀(d:List (Addr×Obj)) (s:Shared) (e:St) (H:Hp) (o i v:V) (c b u:Value) (Q:Hp->Prop),Inv X d e H s->bz o c->bz i b->bz v u->t o i v H Q->
  wpAny (model X.prog X.w) X.A (setItem c b u) (λ_ f=>∃a,Inv X d e a f/\Q a) X.xe s
abbrev C':=V->V->Hp->VK->Prop
def Sb (X:Cx) (c:Operator) (t:C'):Prop:=
 ∀(a:List (Addr×Obj)) (s:Shared) (b:St) (H:Hp) (x y:V) (v u:Value) (Q:VK),Inv X a b H s->bz x v->bz y u->t x y H Q->
  wpAny (model X.prog X.w) X.A (inplaceOp c v u) (EP X a b Q) X.xe s
section
def tS (i:Nat):TG:=λv a H Q=>Q (a.set i (some v)) H
theorem ZH {i:Nat} {x:Str} (b:X.N.Nodup) (d:X.N[i]?=some x) (e:Loc X.env.scope x) (c:X.fn x=true\/X.env.scope.names.lookup x=some .local:=by first | exact .inl rfl | exact .inr rfl | assumption):PG X (.Name x pos) (tS i):=by intro f s j H v u Q I r h;exact wpAny_assign_Name (Bi I b d e r (λg a=>⟨_,H,a,h⟩) c)
def WI:v9:=λa b H Q=>a=[]/\Q b H
def XN (t:TG) (u:v9):v9:=λb c H Q=>∃v r,b=v::r/\t v c H λd a=>u r d a Q
theorem qr:mH X [] WI:=by intro b s a H d c Q I r h;obtain ⟨e,h⟩:=h;subst e;cases r;exact assignInOrder_nil ⟨a,H,I,h⟩
theorem e_ {e:Expr} {a:List Expr} {t:TG} {u:v9} (g:PG X e t) (i:mH X a u)
 (j:(assignEach (e::a) X.env).map (·.2)=assign e X.env::(assignEach a X.env).map (·.2):=by rfl):mH X (e::a) (XN t u):=by
 intro b s o H y q Q I r h;obtain ⟨v,x,f,h⟩:=h;subst f
 cases r with
 | cons r l=>
  rw [j];refine assignInOrder_cons (ay (g b s o H _ _ _ I r h) λ_ m n=>?_);obtain ⟨p,c,d,k⟩:=n;exact i b m p c _ _ Q d l k
def OW (K:aY) (n:Nat) (t:v9):TG:=λv c H Q=>∃a b,v=.ref a/\cK K H a b/\b.length=n/\t b c H Q
theorem ql {c:List Expr} {k:Nat} {t:v9} {n:Nat} (p:X.calm=true) (h:mH X c t)
 (x:(assignEach c X.env).length=n:=by rfl) (z:(assignEach c X.env).findIdx? (·.1)=none:=by rfl):PG X (.Tuple c k pos) (OW X.K n t):=by
 intro f s i H v u Q I r d;obtain ⟨a,C,l,y,q,d⟩:=d;subst l;cases r;obtain ⟨E,g,A,D⟩:=I.tuple y;refine assign_Tuple_tuple (I.ok.hd p) A (by simp [x,<-q,g.length]) z λm B=>?_;have j:Inv X f i H { s with heap:=m }:=I.kept (t':=s.toks) λb o e=>B b o (fy (cV e)) e;exact h f _ i H C _ Q j (by simpa using g) d
def WJ (f e:TE) (t:Fi):TG:=λv a H Q=>f a H λo b=>e a b λi c=>t o i v c λd=>Q a d
theorem qk {o i:Expr} {g f:TE} {t:Fi} (A:PE X o g) (z:PE X i f) (B:OU X t)
 (q:∀v,assign (.Subscript o i pos) X.env v=(do
  let a <-holding [v] (eval o X.env)
  let b <-holding [v,a] (eval i X.env)
  standAt pos
  holding [v,a,b] (setItem a b v)
  release [v,a,b] []):=by intro _;rfl):PG X (.Subscript o i pos) (WJ g f t):=by
 intro e s d H v u Q I r h;rw [q];refine ae (lS (ay (A e s d H _ I h) λa J c=>?_));obtain ⟨x,j,m,F,C⟩:=c;refine ae (lS (ay (z e J d j _ m C) λb L c=>?_));obtain ⟨y,k,n,G,D⟩:=c;refine ae (Ak (ae (lS (ay (B e L d k x y v a b u _ n F G r D) λ_ M c=>?_))));obtain ⟨l,p,E⟩:=c;exact wpAny_release ⟨d,l,p,E⟩
def yA (c:TE) (g:TG):TS:=λD a H=>c a H λx b=>g x a b D.nx
theorem qm {a e:Expr} {c:TE} {g:TG} (k:PE X e c) (l:PG X a g) (m:swapsWithSole [a] e pos.line X.env=pure false:=by rfl) (hw:swappedStores [a] e X.env=pure none:=by rfl)
 (j:(assignEach [a] X.env).map (·.2)=[assign a X.env]:=by rfl):PS X (.Assign [a] e pos) (yA c g):=by
 intro b s d H D I h;refine wpAny_Assign_stores (ay (k b s d H _ I h) λv p r=>?_) m hw;obtain ⟨x,f,i,o,n⟩:=r;rw [j];exact ay (l b p d f x v _ i o n) λ_ t q=>q
theorem n9 {i:Nat} {x:Str} {e:Expr} {b:TE} {a:Pos} (g:X.N.Nodup) (l:X.N[i]?=some x) (n:Loc X.env.scope x) (j:PE X e b) (m:swapsWith e (some (.Name x a)) pos.line X.env=pure false:=by rfl) (k:X.fn x=true\/X.env.scope.names.lookup x=some .local:=by first | exact .inl rfl | exact .inr rfl | assumption):
 PS X (.Assign [.Name x a] e pos) (yA b (tS i)):=by
 intro o s t H D I h;refine wpAny_Assign_Name (ay (j o s t H _ I h) λv u r=>?_) m;obtain ⟨y,c,d,q,p⟩:=r;exact Bi d g l n q (λz f=>⟨_,c,f,p⟩) k
def Xx (i:Nat) (d:TE) (e:C'):TS:=λD a H=>∃x,a[i]?=some (some x)/\d a H λy b=>e x y b λz c=>D.nx (a.set i (some z)) c
theorem DD {i:Nat} {x:Str} {e:Expr} {m:TE} {c:Operator} {n:C'} {O:Pos} (B:X.N.Nodup) (j:X.N[i]?=some x) (b:Loc X.env.scope x) (F:PE X e m) (N:Sb X c n) (G:X.fn x=true\/X.env.scope.names.lookup x=some .local:=by first | exact .inl rfl | exact .inr rfl | assumption):
 PS X (.AugAssign (.Name x O) c e pos) (Xx i m n):=by
 intro d s o H D I h;obtain ⟨v,A,h⟩:=h;obtain ⟨x3,M,J⟩:=I.loc;have Z:vz X.env.scope x:=by rcases b with k | k;exact .inl k;exact .inr (.inl k)
 obtain ⟨u,r,l⟩:=J i x v j A Z;refine wpAny_AugAssign_Name ?_;have g:wpAny (model X.prog X.w) X.A (eval e X.env) (λw W=>wpAny (model X.prog X.w) X.A (inplaceOp c u w) (λr Y=>wpAny (model X.prog X.w) X.A (storeName X.env x r) (λ_=>SP X d D .next) X.xe Y) X.xe W) X.xe s:=by refine ay (F d s o H _ I h) λw V f=>?_;obtain ⟨x1,p,t,S,Q⟩:=f;refine ay (N d V o p v x1 u w _ t r S Q) λx4 s2 f=>?_;obtain ⟨zv,q,y,T,R⟩:=f;exact Bi y B j b T (λs3 z=>⟨_,q,z,R⟩) G
 rcases l with ⟨a,L⟩ | ⟨a,x2,C,E⟩
 ·exact wpAny_loadName_local I.ok.kind a M L g
 ·rcases a with a | a
  ·exact wpAny_loadName_cell I.ok.kind a C E g
  ·rcases b with k | k
   ·have:X.env.scope.names.lookup x=some .free:=a;rw [k] at this;cases this
   ·have:X.env.scope.names.lookup x=some .free:=a;rw [k] at this;cases this
def Ϛ (f:Int->Int->Int):C':=λx y H Q=>∃i j,x=.int i/\y=.int j/\Q (.int (f i j)) H
theorem Dl:Sb X .Add (Ϛ λi j=>i+j):=by intro e s g H x y v u Q I c d h;obtain ⟨i,j,a,b,q⟩:=h;subst a;subst b;obtain ⟨t,rfl⟩:=c;obtain ⟨f,rfl⟩:=d;exact iadd_int ⟨.int _,H,I.tok _,⟨_,U⟩,q⟩
end
section
def YH (c:TT) (h:TS):TS:=λD a H=>∃W:Nat->St->Hp->Prop,(∃m,W m a H)/\∀m a H,W m a H->
 c a H λb e=>if b=true then ∃N:St->Hp->Prop,(∀g d,N g d->∃f,f<m/\W f g d)/\h { D with nx:=N,ct:=N,bk:=D.nx } a e else D.nx a e
theorem M5 {c:Expr} {x:List Stmt} {B:TT} {A:TS} (z:PassesOwn (model X.prog X.w) X.A X.env X.xe) (G:PT X c B) (F:f7 X x A):PS X (.While c x [] pos) (YH B A):=by
 intro o s V H D I h;obtain ⟨W,⟨J,R⟩,Q⟩:=h;refine wpAny_While (codeAny_whileLoop (λn L=>∃C q,Inv X o C q L/\W n C q) ?_ J ⟨V,H,I,R⟩);rintro n M ⟨i,r,E,S⟩;refine vo z (ay (G o M i r _ E (Q n i r S)) λb O T=>?_);obtain ⟨t,u,e⟩:=T
 cases b with
 | true=>
  obtain ⟨N,y,e⟩:=e;rw [if_pos rfl];refine vo z (ay (F o O i t _ u e) λf Y g=>?_)
  cases f with
  | next=>
   obtain ⟨d,a,j,m⟩:=g;obtain ⟨l,k,p⟩:=y d a m;exact ⟨l,k,d,a,j,p⟩
  | cont=>
   obtain ⟨d,a,j,m⟩:=g;obtain ⟨l,k,p⟩:=y d a m;exact ⟨l,k,d,a,j,p⟩
  | brk=>exact g
  | ret v=>exact g
 | false=>
  rw [if_neg fg];exact Ag ⟨i,t,u,e⟩
end
structure It where
 go:Nat->Hp->Prop
 u9:Nat->Hp->V->Hp->Prop
 stop:Nat->Hp->Prop
def oV (X:Cx) (a:List (Addr×Obj)) (H:Hp) (b:Addr):Prop:=
 H b=none/\b≠X.env.locals/\b∉X.fs/\(b∈X.ex\/X.bQ.heap.objs.size<=b)/\(∀x c,X.env.cells.lookup x=some c->c≠b)/\∀p∈X.pn++a,p.1≠b
theorem Inv.oI {X:Cx} {f:List (Addr×Obj)} {i:St} {H d:Hp} {s:Shared} {b:Addr} (I:Inv X f i H s) (a:s.heap.objs.size<=b) (g:d b=none):oV X f d b:=by
 refine ⟨g,tD (gZ I.lt a),I.Hh a,.inr (cQ I.sz a),λx c e z=>?_,λp h z=>?_⟩
 ·obtain ⟨v,q⟩:=I.cell x c e;exact absurd (gZ q.lt (by rw [z];exact a)) (ji _)
 ·exact absurd (gZ (cV (I.pin p h).1) (by rw [z];exact a)) (ji _)
def XF (X:Cx):Prop:=X.A.handled=none\/∃(a C:Addr) (b:Option Addr) (t c:Value) (u:HO),X.A.handled=some (.ref a)/\X.gx a=some (.dZ (dy C b t c) u)
def lq (X:Cx):Prop:=X.calm=true\/XF X
theorem xB {X:Cx} {c:List (Addr×Obj)} {f:St} {H:Hp} {s:Shared} (q:lq X) (I:Inv X c f H s):Hd X.A s.heap:=by
 rcases q with q | q | ⟨a,C,b,t,d,u,q,e⟩
 ·exact .inl (I.ok.hd q)
 ·exact .inl q
 ·exact .inr ⟨a,C,b,t,d,q,(I.a4 a _ (I.base.eX a _ _ e)).1⟩
theorem lq.Ϝ {X:Cx} {g:List (Addr×Obj)} {i:St} {H:Hp} {s:Shared} (q:lq X) (I:Inv X g i H s) {Y:Cx} (d:Y.calm=X.calm) (b:Y.A.handled=X.A.handled) (f:∀a o u,H a=some (.dZ o u)->Y.gx a=some (.dZ o u)):lq Y:=by
 rcases q with q | q | ⟨a,C,c,t,h,u,q,e⟩
 ·exact .inl (d.trans q)
 ·exact .inr (.inl (b.trans q))
 ·exact .inr (.inr ⟨a,C,c,t,h,u,b.trans q,f _ _ _ (I.base.eX a _ _ e)⟩)
structure u4 (P:Program) (w:World) (K:aY) (tg:Expr) (J:It) (fp:List Addr) (it:Addr) (tn:Nat->Heap->Prop):Prop where
 mem:it∈fp
 obj:∀i h,tn i h->∀b∈fp,∃o,h.get? b=some o/\∀v,o.data≠.cell v
 keep:∀i h h',tn i h->(∀b∈fp,∀o,h.get? b=some o->h'.get? b=some o)->tn i h'
 item:∀(X:Cx),X.prog=P->X.w=w->X.K=K->lq X->∀(i:Nat) (pins:List (Addr×Obj)) (s:Shared) (σ:St) (H:Hp) (E:Value->Shared->Prop),Inv X pins σ H s->(∀b∈fp,oV X pins H b)->tn i s.heap->J.go i H->
  wpAny (model P w) X.A (pyNext (.ref it)) (λr s1=>∃u,r=some u/\
   wpAny (model P w) X.A (letOwnedTupleGo tg (.ref it) u) (λ_ s2=>∃x H',Inv X pins σ H' s2/\bz x u/\J.u9 i H x H'/\tn (i+1) s2.heap/\∀b∈fp,H' b=none) E s1) E s
 done:∀(X:Cx),X.prog=P->X.w=w->X.K=K->lq X->∀(i:Nat) (pins:List (Addr×Obj)) (s:Shared) (σ:St) (H:Hp) (E:Value->Shared->Prop),Inv X pins σ H s->(∀b∈fp,oV X pins H b)->tn i s.heap->J.stop i H->
  wpAny (model P w) X.A (pyNext (.ref it)) (λr s1=>r=none/\Inv X pins σ H s1) E s
 self:∀(A:Around) (i:Nat) (s:Shared) (Q:Value->Shared->Prop) (E:Value->Shared->Prop),tn i s.heap->Q (.ref it) s->wpAny (model P w) A (pyIter (.ref it)) Q E s
abbrev TI:=St->Hp->(It->Hp->Prop)->Prop
def Sd (X:Cx) (e:List (Addr×Obj)) (j:St) (i:Expr) (R:It->Hp->Prop) (h:Value) (f:Shared):Prop:=
 ∃(d:Addr) (c:List Addr) (g:Nat->Heap->Prop) (J:It) (a:Hp),h=.ref d/\Inv X e j a f/\u4 X.prog X.w X.K i J c d g/\g 0 f.heap/\(∀b∈c,oV X e a b)/\R J a
def PI (X:Cx) (e c:Expr) (f:TI):Prop:=
 ∀(b:List (Addr×Obj)) (s:Shared) (a:St) (H:Hp) (R:It->Hp->Prop),Inv X b a H s->f a H R->
  wpAny (model X.prog X.w) X.A (eval c X.env) (λv d=>wpAny (model X.prog X.w) X.A (pyIter v) (Sd X b a e R) X.xe d) X.xe s
theorem A7 {M:Model} {A:Around} {E:Value->Shared->Prop} {s:Shared} {c:Expr} {b:Addr} {u:Value} {o:Obj} {n:String} {vs:Array Value} {Q:Unit->Shared->Prop} (g:s.heap.get? b=some o) (d:o.cls=.type n) (e:o.data=.fields vs)
 (f:["enumerate","zip","dict_itemiterator","dict_reverseitemiterator","odict_iterator","itertools.zip_longest","itertools.pairwise"].contains n=false) (a:Q () s):wpAny M A (letOwnedTupleGo c (.ref b) u) Q E s:=by
 unfold letOwnedTupleGo;cases c<;>first
  | exact aI a
  | (cases u<;>first
   | exact aI a
   | (refine ae (wpAny_load g ?_)
      rw [d,e];show wpAny M A (if (["enumerate","zip","dict_itemiterator","dict_reverseitemiterator","odict_iterator","itertools.zip_longest","itertools.pairwise"].contains n && vs[0]?==some (rawInt _))=true then _ else _) Q E s;rw [if_neg (by intro h;rw [f,Bool.false_and] at h;cases h)];exact aI a))
def xo (K:aY) (a:Addr):It:=
 ⟨λi H=>∃b x,ai K H a b/\b[i]?=some x,λi H x c=>c=H/\∀b,ai K H a b->b[i]?=some x,λi H=>∃b,ai K H a b/\b.length<=i⟩
def xn (K:aY) (a:Addr):It:=
 ⟨λi H=>∃b x,cK K H a b/\b[i]?=some x,λi H x c=>c=H/\∀b,cK K H a b->b[i]?=some x,λi H=>∃b,cK K H a b/\b.length<=i⟩
def tM (b:Int) (n:Nat):It:=⟨λi _=>i<n,λi H x a=>a=H/\x=.int (b+i),λi _=>n<=i⟩
theorem VD {tg:Expr} (a it:Addr):u4 P w K tg (xo K a) [it] it (λi h=>h.IsListIter it a i) where
 mem:=by simp
 obj:=λi h f b g=>by
  have e:b=it:=by simpa using g
  subst e;obtain ⟨o,e,c,d⟩:=f;exact ⟨o,e,λx1 z=>by rw [d] at z;cases z⟩
 keep:=λi h j f k=>f.at λo e=>k it (by simp) o e
 item:=by intro X B D A G i J s M H E I l f C;subst B D A;obtain ⟨xs,x,m,n⟩:=C;obtain ⟨W,F,p,V⟩:=I.list m;obtain ⟨u,S,Y⟩:=F.get n;obtain ⟨q,r,Q,t,v,y⟩:=l it (by simp);refine wpAny_pyNext_list_item f p.isList (x:=u) (by simpa using S) λj L Z=>?_;have N:Inv X J M H { s with heap:=j }:=I.turned (t':=s.toks) (λb o g e=>(Z.2 b g).trans e) q r t v y;obtain ⟨o,e,c,d⟩:=id L;exact ⟨u,U,A7 (s:={ s with heap:=j }) e c d (by decide) ⟨x,H,N,Y,⟨U,λys T=>by rw [I.o5 T m];exact n⟩,L,λb g=>(l b g).1⟩⟩
 done:=by intro X B D A G i J s M H E I l f C;subst B D A;obtain ⟨xs,m,n⟩:=C;obtain ⟨W,F,p,V⟩:=I.list m;obtain ⟨q,r,Q,t,v,y⟩:=l it (by simp);have R:=F.length;exact VT (xB G I) f p.isList (by simp;exact yi R n) λj O=>⟨U,I.turned (t':=s.toks) (λb o g e=>O b o g e) q r t v y⟩
 self:=λ_ _ _ _ _ f h=>wpAny_pyIter_listiter f h
theorem VO {tg:Expr} (a it:Addr):u4 P w K tg (xn K a) [it] it (λi h=>h.IsTupleIter it a i) where
 mem:=by simp
 obj:=λi h f b g=>by
  have e:b=it:=by simpa using g
  subst e;obtain ⟨o,e,c,d⟩:=f;exact ⟨o,e,λx1 z=>by rw [d] at z;cases z⟩
 keep:=λi h j f k=>f.at λo e=>k it (by simp) o e
 item:=by intro X B D A G i L s N H E I l f C;subst B D A;obtain ⟨xs,x,m,n⟩:=C;obtain ⟨J,F,p,W⟩:=I.tuple m;obtain ⟨u,T,Y⟩:=F.get n;obtain ⟨q,r,R,t,v,y⟩:=l it (by simp);refine wpAny_pyNext_tuple_item f (show s.heap.IsTuple a J.toArray from p) (x:=u) (by simpa using T) λj M Z=>?_;have O:Inv X L N H { s with heap:=j }:=I.turned (t':=s.toks) (λb o g e=>(Z.2 b g).trans e) q r t v y;obtain ⟨o,e,c,d⟩:=id M;exact ⟨u,U,A7 (s:={ s with heap:=j }) e c d (by decide) ⟨x,H,O,Y,⟨U,λys V=>by rw [I.mh V m];exact n⟩,M,λb g=>(l b g).1⟩⟩
 done:=by intro X B D A G i L s N H E I l f C;subst B D A;obtain ⟨xs,m,n⟩:=C;obtain ⟨J,F,p,W⟩:=I.tuple m;obtain ⟨q,r,R,t,v,y⟩:=l it (by simp);have S:=F.length;exact VM (xB G I) f p (by simp;exact yi S n) λj Q=>⟨U,I.turned (t':=s.toks) (λb o g e=>Q b o g e) q r t v y⟩
 self:=λ_ _ _ _ _ f h=>wpAny_pyIter_tupleiter f h
theorem VN {N:Expr} (it:Addr) (y:Int) (n:Nat):u4 P w K N (tM y n) [it] it (λi h=>IsRangeIter h it (y+(i:Nat)*1) ((n:Int)-(i:Nat)) 1) where
 mem:=by simp
 obj:=λi h a b c=>by
  have e:b=it:=by simpa using c
  subst e;exact ⟨_,a,λv z=>by
   have O:Data.fields _=Data.cell v:=z;cases O⟩
 keep:=λi h d a k=>k it (by simp) _ a
 item:=by intro X r x q A i B s F H E I f a u;subst r x q;obtain ⟨g,j,L,l,m,p⟩:=f it (by simp);refine Ws u a λt d D C M=>?_;have G:Inv X B F H { s with heap:=d,toks:=D }:=I.turned (λb o c e=>M b o (by simpa using c) e) g j l m p;refine ⟨_,U,A7 (s:={ s with heap:=d,toks:=D }) (n:="range_iterator") C U U (by decide) ⟨.int (y+i),H,G,⟨t,?_⟩,⟨U,U⟩,C,λb c=>(f b c).1⟩⟩;rw [Int.mul_one]
 done:=by intro X r x q A i B s F H E I f a u;subst r x q;obtain ⟨g,j,L,l,m,p⟩:=f it (by simp);exact OM (xB A I) a (by have:n<=i:=u;omega) λd J=>⟨U,I.turned (t':=s.toks) (λb o c e=>J b o c e) g j l m p⟩
 self:=λ_ _ _ _ _ a h=>wpAny_pyIter_rangeiter a h
section
def XP (K:aY) (tl:TE):TI:=λd H R=>tl d H λx b=>∃a,x=.ref a/\(∃c,ai K b a c)/\R (xo K a) b
def WK (K:aY) (tl:TE):TI:=λd H R=>tl d H λx b=>∃a,x=.ref a/\(∃c,cK K b a c)/\R (xn K a) b
theorem f9 {l:Expr} {tl:TE} (i:PE X l tl):PI X tg l (XP X.K tl):=by
 intro k s t H R I h;refine ay (i k s t H _ I h) λv d r=>?_;obtain ⟨x,f,c,n,m⟩:=r;obtain ⟨a,e,⟨A,j⟩,q⟩:=m;subst e;cases n;obtain ⟨y,z,p,u⟩:=c.list j;refine wpAny_pyIter_list p.isList ?_;refine ⟨d.heap.objs.size,[d.heap.objs.size],_,_,f,U,c.kept (t':=d.toks) λb o e=>cL _ e,VD a _,⟨_,jh _ U,U,U⟩,λb g=>?_,q⟩;have e:b=d.heap.objs.size:=by simpa using g
 subst e;exact c.oI (ar _) (c.a4.fresh (ar _))
theorem Dv {l:Expr} {tl:TE} (i:PE X l tl):PI X tg l (WK X.K tl):=by
 intro m s u H R I h;refine ay (i m s u H _ I h) λv c t=>?_;obtain ⟨x,f,d,r,n⟩:=t;obtain ⟨a,e,⟨A,j⟩,q⟩:=n;subst e;cases r;obtain ⟨k,z,p,y⟩:=d.tuple j;refine wpAny_pyIter_tuple (show c.heap.IsTuple a k.toArray from p) ?_;refine ⟨c.heap.objs.size,[c.heap.objs.size],_,_,f,U,d.kept (t':=c.toks) λb o e=>cL _ e,VO a _,⟨_,jh _ U,U,U⟩,λb g=>?_,q⟩;have e:b=c.heap.objs.size:=by simpa using g
 subst e;exact d.oI (ar _) (d.a4.fresh (ar _))
theorem Mc {d:List (Addr×Obj)} {g:St} {H:Hp} {s:Shared} {R:It->Hp->Prop} {E:Value->Shared->Prop} {lo a:Int} {t u v:Tok} {f:Nat} (I:Inv X d g H s) (j: -(2 ^ 62)<=lo) (k:lo<2 ^ 62) (l: -(2 ^ 62)<=a) (m:a<2 ^ 62)
 (q:R (tM lo (a-lo).toNat) H):wpAny (model X.prog X.w) X.A (pyIter (.ref s.heap.objs.size)) (Sd X d g tg R) E { s with heap:=s.heap.push { cls:=.type "range",data:=.fields #[.int lo t,.int a u,.int 1 v] },toks:=f }:=by
 refine wpAny_pyIter_range (IsRange.new ..) (small_one j k l m) ?_;have c:Inv X d g H { s with heap:=s.heap.push { cls:=.type "range",data:=.fields #[.int lo t,.int a u,.int 1 v] },toks:=f }:=I.kept λb o e=>cL _ e;refine ⟨(s.heap.push { cls:=.type "range",data:=.fields #[.int lo t,.int a u,.int 1 v] }).objs.size,[(s.heap.push { cls:=.type "range",data:=.fields #[.int lo t,.int a u,.int 1 v] }).objs.size],_,_,H,U,
  c.kept (t':=f) λb o e=>cL _ e,VN _ lo (a-lo).toNat,?_,λb n=>?_,q⟩
 ·have h:lo+((0:Nat):Int)*1=lo:=by simp
  have i:(((a-lo).toNat:Nat):Int)-((0:Nat):Int)=Builtin.Range.rangeSize lo a 1:=by rw [rangeSize_one];split<;>omega
  show IsRangeIter _ _ (lo+((0:Nat):Int)*1) ((((a-lo).toNat:Nat):Int)-((0:Nat):Int)) 1;rw [h,i];exact jh _ U
 ·have e:b=(s.heap.push { cls:=.type "range",data:=.fields #[.int lo t,.int a u,.int 1 v] }).objs.size:=by simpa using n
  subst e;exact c.oI (ar _) (c.a4.fresh (ar _))
def XQ (b:TA):TI:=λd H R=>b d H λc a=>∃j:Int,c=[.int j]/\-(2 ^ 62)<=j/\j<2 ^ 62/\R (tM 0 j.toNat) a
def XR (b:TA):TI:=λd H R=>b d H λc a=>∃i j:Int,c=[.int i,.int j]/\(-(2 ^ 62)<=i/\i<2 ^ 62/\-(2 ^ 62)<=j/\j<2 ^ 62)/\R (tM i (j-i).toNat) a
theorem qC {a:Expr} {c:TA} {p pos:Pos} (g:Gl X "range") (i:X.mg "range"=none) (f:PA X [a] c) (k:starEach [a] X.env=[(false,eval a X.env)]:=by rfl):PI X tg (.Call (.Name "range" p) [a] [] pos) (XQ c):=by
 intro l s v H R I h;refine Call_ (r_ I g i boot_range (xg (ay (f pos l s v H _ I h) λz y u=>?_) k U));obtain ⟨A,x,d,n,b⟩:=u;obtain ⟨j,e,b,m,q⟩:=b;subst e
 cases n with
 | cons r o=>
  cases o;obtain ⟨t,rfl⟩:=r;exact call_range_1 (Mc d (by omega) (by omega) b m (by simpa using q))
theorem Vh {a b:Expr} {g:TA} {p pos:Pos} (m:Gl X "range") (n:X.mg "range"=none) (l:PA X [a,b] g) (o:starEach [a,b] X.env=[(false,eval a X.env),(false,eval b X.env)]:=by rfl) (f:starEach [b] X.env=[(false,eval b X.env)]:=by rfl):
 PI X tg (.Call (.Name "range" p) [a,b] [] pos) (XR g):=by
 intro u s C H R I h;refine Call_ (r_ I m n boot_range (xg (ay (l pos u s C H _ I h) λG E B=>?_) (by rw [o,f]) (by rw [f];rfl)));obtain ⟨J,D,k,A,c⟩:=B;obtain ⟨i,j,e,⟨c,v,x,y⟩,q⟩:=c;subst e
 cases A with
 | cons r d=>
  cases d with
  | cons z d=>
   cases d;obtain ⟨t,rfl⟩:=r;obtain ⟨F,rfl⟩:=z;exact call_range_2 (Mc k c v x y q)
def Pb (j:TI) (g:TG) (h:TS):TS:=λD a H=>j a H λJ e=>∃W:Nat->Nat->St->Hp->Prop,(∃m,W 0 m a e)/\∀i m a H,W i m a H->
 (J.stop i H/\D.nx a H)\/(J.go i H/\∃N:St->Hp->Prop,(∀d b,N d b->∃c,c<m/\W (i+1) c d b)/\∀x b,J.u9 i H x b->g x a b λk f=>h { D with nx:=N,ct:=N,bk:=D.nx } k f)
def xH (a:List Addr) (h:Heap):List (Addr×Obj):=a.filterMap λb=>(h.get? b).map λo=>(b,o)
theorem BG {a:List Addr} {h:Heap} {b:Addr} {o:Obj} (c:b∈a) (e:h.get? b=some o):(b,o)∈xH a h:=xh.mpr ⟨b,c,by rw [e];rfl⟩
theorem Ve {a:List Addr} {h:Heap} {p:Addr×Obj} (f:p∈xH a h):p.1∈a/\h.get? p.1=some p.2:=by
 obtain ⟨b,d,e⟩:=xh.mp f
 cases q:h.get? b with
 | none=>rw [q] at e;cases e
 | some o=>
  rw [q] at e;have c:(b,o)=p:=ff e;subst c;exact ⟨d,q⟩
theorem Inv.pinned {c:List (Addr×Obj)} {h:St} {H:Hp} {s:Shared} {a:List Addr} (I:Inv X c h H s) (l:∀b∈a,oV X c H b) (m:∀b∈a,∃o,s.heap.get? b=some o/\∀v,o.data≠.cell v):Inv X (c++xH a s.heap) h H s:=
 I.lI λp n=>(gH.mp n).elim (λz=>I.pin p (jq _ z)) λz=>by obtain ⟨g,e⟩:=Ve z;obtain ⟨i,j,k,_⟩:=l p.1 g;obtain ⟨o,f,d⟩:=m p.1 g;rw [e] at f;cases f;exact ⟨e,i,j,k,d⟩
theorem Inv.fQ {a pl:List (Addr×Obj)} {b:St} {H:Hp} {s:Shared} (I:Inv X (a++pl) b H s):Inv X a b H s:=I.lI λp c=>I.pin p (jq _ (iE _ c))
theorem ZN {v:Expr} {E:List Stmt} {S:TI} {g:TG} {Q:TS} {pos:Pos} (l:PassesOwn (model X.prog X.w) X.A X.env X.xe) (J:lq X) (hi:PI X tg v S) (hg:PG X tg g) (d:f7 X E Q)
 (hs:∀x,foldedSetIterable v X.env x=pure x:=by intro _;rfl):PS X (.For tg v E [] pos) (Pb S g Q):=by
 intro j x5 V H x9 I x3;refine wpAny_For (ay (hi j x5 V H _ I x3) λx8 s1 h1=>ay h1 λQ0 s2 h2=>?_) hs;obtain ⟨it,k,R,kJ,Y,e,I2,T,eW,F,W,⟨m0,w0⟩,turn⟩:=h2;subst e;have A:∀{H':Hp},(∀b∈k,H' b=none)->∀b∈k,oV X j H' b:=λhn b d=>⟨hn b d,(F b d).2⟩;refine codeAny_forLoop_any (λn L=>∃i r H',Inv X j r H' L/\R i L.heap/\(∀b∈k,H' b=none)/\W i n r H') ?_ m0 ⟨0,V,Y,I2,eW,λb d=>(F b d).1,w0⟩;rintro n M ⟨i,s,t,C,O,G,w3⟩;rcases turn i n s t w3 with ⟨stop,qn⟩ | ⟨go,x1,hN,step⟩
 ·refine vo l (ay (T.done X U U U J i j M s t X.xe C (A G) O stop) λx4 s4 ⟨u,I4⟩=>?_);subst u;exact Ag ⟨s,t,I4,qn⟩
 ·refine vo l (ay (T.item X U U U J i j M s t X.xe C (A G) O go) λx4 s4 q=>L2.Rq q λx6 u h4=>?_);subst u;refine vo l (ay h4 λ_ N q=>?_);obtain ⟨x,B,I5,r5,y5,z,Ct⟩:=q;have Kg:=I5.pinned (A Ct) (T.obj _ _ z);refine vo l (ay (hg _ N s B x x6 _ Kg r5 (step x B y5)) λ_ s6 q=>?_);obtain ⟨Ss,Z,I6,q6⟩:=q;refine vo l (ay (d _ s6 Ss Z _ I6 q6) λx2 y h=>?_);have D:∀{f:St} {a:Hp},Inv X (j++xH k N.heap) f a y->x1 f a->∃m,m<n/\∃i r H',Inv X j r H' y/\R i y.heap/\(∀b∈k,H' b=none)/\W i m r H':=λ{f a} c p=>by
   obtain ⟨m',hm,w7⟩:=hN f a p;refine ⟨m',hm,i+1,f,a,c.fQ,T.keep _ _ _ z λb d o e=>(c.pin (b,o) (jq _ (jq _ (BG d e)))).1,λb d=>?_,w7⟩;obtain ⟨o,e,nP⟩:=T.obj _ _ z b d;exact (c.pin (b,o) (jq _ (jq _ (BG d e)))).2.1
  cases x2 with
  | next=>obtain ⟨f,a,c,p⟩:=h;exact D c p
  | cont=>obtain ⟨f,a,c,p⟩:=h;exact D c p
  | brk=>obtain ⟨f,a,c,h⟩:=h;exact ⟨f,a,c.fQ,h⟩
  | ret x8=>obtain ⟨x7,f,a,c,r7,h⟩:=h;exact ⟨x7,f,a,c.fQ,r7,h⟩
theorem fJ {a:Expr} {b:List Stmt} {d:TI} {g:TG} {c:TS} {pos:Pos} (j:PassesOwn (model X.prog X.w) X.A X.env X.xe) (f:X.calm=true) (i:PI X tg a d) (h:PG X tg g) (e:f7 X b c)
 (k:∀x,foldedSetIterable a X.env x=pure x:=by intro _;rfl):PS X (.For tg a b [] pos) (Pb d g c):=ZN j (.inl f) i h e k
end
theorem iA {a:Addr} {xs:List V} {g:TG} {o:TS} {D:qb} {b:St} {H:Hp} (c:Nat->St->Hp->Prop) (r:c 0 b H) (t:∀i b H,i<=xs.length->c i b H->ai K H a xs)
 (u:∀i x b H,xs[i]?=some x->c i b H->g x b H λk h=>o { D with nx:=c (i+1),ct:=c (i+1),bk:=D.nx } k h) (s:∀b H,c xs.length b H->D.nx b H):
 ∃W:Nat->Nat->St->Hp->Prop,(∃m,W 0 m b H)/\∀i m b H,W i m b H->
  ((xo K a).stop i H/\D.nx b H)\/((xo K a).go i H/\∃N:St->Hp->Prop,(∀j d,N j d->∃n,n<m/\W (i+1) n j d)/\∀x d,(xo K a).u9 i H x d->g x b d λk h=>o { D with nx:=N,ct:=N,bk:=D.nx } k h):=by
 refine ⟨λi m b H=>m=xs.length-i/\i<=xs.length/\c i b H,⟨xs.length,by simp,dV _,r⟩,?_⟩;rintro i m b H ⟨rfl,l,p⟩;have q:=t i b H l p
 by_cases f:i<xs.length
 ·refine .inr ⟨⟨xs,xs[i],q,by simp [f]⟩,c (i+1),λj d v=>⟨xs.length-(i+1),sE f,U,f,v⟩,λx d y=>?_⟩;obtain ⟨e,y⟩:=y;subst e;exact u i x b _ (y xs q) p
 ·have e:i=xs.length:=sF l f;subst e;exact .inl ⟨⟨xs,q,ar _⟩,s b H p⟩
theorem YT {a:Addr} {xs:List V} {g:TG} {o:TS} {D:qb} {b:St} {H:Hp} (c:Nat->St->Hp->Prop) (r:c 0 b H) (t:∀i b H,i<=xs.length->c i b H->cK K H a xs)
 (u:∀i x b H,xs[i]?=some x->c i b H->g x b H λk h=>o { D with nx:=c (i+1),ct:=c (i+1),bk:=D.nx } k h) (s:∀b H,c xs.length b H->D.nx b H):
 ∃W:Nat->Nat->St->Hp->Prop,(∃m,W 0 m b H)/\∀i m b H,W i m b H->
  ((xn K a).stop i H/\D.nx b H)\/((xn K a).go i H/\∃N:St->Hp->Prop,(∀j d,N j d->∃n,n<m/\W (i+1) n j d)/\∀x d,(xn K a).u9 i H x d->g x b d λk h=>o { D with nx:=N,ct:=N,bk:=D.nx } k h):=by
 refine ⟨λi m b H=>m=xs.length-i/\i<=xs.length/\c i b H,⟨xs.length,by simp,dV _,r⟩,?_⟩;rintro i m b H ⟨rfl,l,p⟩;have q:=t i b H l p
 by_cases f:i<xs.length
 ·refine .inr ⟨⟨xs,xs[i],q,by simp [f]⟩,c (i+1),λj d v=>⟨xs.length-(i+1),sE f,U,f,v⟩,λx d y=>?_⟩;obtain ⟨e,y⟩:=y;subst e;exact u i x b _ (y xs q) p
 ·have e:i=xs.length:=sF l f;subst e;exact .inl ⟨⟨xs,q,ar _⟩,s b H p⟩
theorem yo {f:Int} {n:Nat} {g:TG} {o:TS} {D:qb} {a:St} {H:Hp} (c:Nat->St->Hp->Prop) (q:c 0 a H)
 (t:∀i a H,i<n->c i a H->g (.int (f+i)) a H λk h=>o { D with nx:=c (i+1),ct:=c (i+1),bk:=D.nx } k h) (r:∀a H,c n a H->D.nx a H):
 ∃W:Nat->Nat->St->Hp->Prop,(∃m,W 0 m a H)/\∀i m a H,W i m a H->
  ((tM f n).stop i H/\D.nx a H)\/((tM f n).go i H/\∃N:St->Hp->Prop,(∀j b,N j b->∃l,l<m/\W (i+1) l j b)/\∀x b,(tM f n).u9 i H x b->g x a b λk h=>o { D with nx:=N,ct:=N,bk:=D.nx } k h):=by
 refine ⟨λi m a H=>m=n-i/\i<=n/\c i a H,⟨n,by simp,dV _,q⟩,?_⟩;rintro i m a H ⟨rfl,s,p⟩
 by_cases d:i<n
 ·refine .inr ⟨d,c (i+1),λj b u=>⟨n-(i+1),sE d,U,d,u⟩,λx b y=>?_⟩;obtain ⟨e,y⟩:=y;subst e y;exact t i a _ d p
 ·have e:i=n:=sF s d;subst e;exact .inl ⟨ar _,r a H p⟩
abbrev R2:=V->V->Hp->VK->Prop
def eI (X:Cx) (f:Value->Value->Sem Value) (r:R2):Prop:=
 ∀(a:List (Addr×Obj)) (s:Shared) (b:St) (H:Hp) (x y:V) (v u:Value) (Q:VK),Inv X a b H s->bz x v->bz y u->r x y H Q->
  wpAny (model X.prog X.w) X.A (f v u) (EP X a b Q) X.xe s
def Kb (X:Cx) (f:Value->Sem Value) (r:V->Hp->VK->Prop):Prop:=
 ∀(a:List (Addr×Obj)) (s:Shared) (b:St) (H:Hp) (x:V) (v:Value) (Q:VK),Inv X a b H s->bz x v->r x H Q->
  wpAny (model X.prog X.w) X.A (f v) (EP X a b Q) X.xe s
def nv (X:Cx) (f:Value) (r:List V->Hp->VK->Prop):Prop:=
 ∀(a:List (Addr×Obj)) (s:Shared) (d:St) (H:Hp) (c:List V) (b:List Value) (Q:VK),Inv X a d H s->aX c b->r c H Q->
  wpAny (model X.prog X.w) X.A (call f b) (EP X a d Q) X.xe s
def uC (r:R2) (d e:TE):TE:=λa H Q=>d a H λx b=>e a b λy c=>r x y c Q
def Z' (r:V->Hp->VK->Prop) (b:TE):TE:=λc H Q=>b c H λx a=>r x a Q
def rI (C:Int->Int->Prop) (g:Int->Int->V):R2:=λx y H Q=>∃i j,x=.int i/\y=.int j/\C i j/\Q (g i j) H
def fV (g:Int->Int->V):R2:=λx y H Q=>∃i j,x=.int i/\y=.int j/\Q (g i j) H
def rU (g:Int->V):V->Hp->VK->Prop:=λx H Q=>∃i,x=.int i/\Q (g i) H
section
theorem Fo (m:PE X a C) (n:PE X b J) {e:List (Addr×Obj)} {s:Shared} {d:St} {H:Hp} {R:V->V->Hp->Prop} (I:Inv X e d H s)
 (h:C d H λx i=>J d i λy c=>R x y c) {Q:Value->Shared->Prop} {f:Value->Value->Sem Value}
 (o:∀v u g x y c,Inv X e d c g->bz x v->bz y u->R x y c->wpAny (model X.prog X.w) X.A (f v u) Q X.xe g):
 wpAny (model X.prog X.w) X.A (eval a X.env) (λv A=>wpAny (model X.prog X.w) X.A (eval b X.env) (λu B=>wpAny (model X.prog X.w) X.A (f v u) Q X.xe B) X.xe A) X.xe s:=by
 refine ay (m e s d H _ I h) λv z j=>?_;obtain ⟨x,i,k,r,p⟩:=j;refine ay (n e z d i _ k p) λu g j=>?_;obtain ⟨y,c,l,t,q⟩:=j;exact o v u g x y c l r t q
theorem cv {c:Operator} {r:R2} (i:eI X (binaryOp c) r) (f:PE X a C) (g:PE X b J):PE X (.BinOp a c b pos) (uC r C J):=by intro j s n H Q I h;exact wpAny_BinOp (Fo f g I h λv u m x y d e k l q=>i j m n d x y v u Q e k l q)
theorem nt {b:UnaryOp} {r:V->Hp->VK->Prop} (i:Kb X (unaryOp b) r) (g:PE X a C):PE X (.UnaryOp b a pos) (Z' r C):=by intro c s d H Q I h;exact UnaryOp_ (ay (g c s d H _ I h) λv l m=>L2.eF m λx e f k j=>i c l d e x v Q f k j)
theorem Qi {f:Value->Value->Sem Value} {C:Int->Int->Prop} {g:Int->Int->Int}
 (b:∀(i j:Int) (t u:Tok) (s:Shared) (Q:Value->Shared->Prop) (E:Value->Shared->Prop),C i j->Q (.int (g i j) s.toks) { s with toks:=s.toks+1 }->wpAny (model X.prog X.w) X.A (f (.int i t) (.int j u)) Q E s):
 eI X f (rI C λi j=>.int (g i j)):=by
 intro k s l H x y v u Q I c d h;obtain ⟨i,j,rfl,rfl,a,q⟩:=h;obtain ⟨t,rfl⟩:=c;obtain ⟨e,rfl⟩:=d;exact b i j t e s _ _ a ⟨.int (g i j),H,I.tok _,⟨_,U⟩,q⟩
theorem Pc {f:Value->Value->Sem Value} {g:Int->Int->Int}
 (a:∀(i j:Int) (t u:Tok) (s:Shared) (Q:Value->Shared->Prop) (E:Value->Shared->Prop),Q (.int (g i j) s.toks) { s with toks:=s.toks+1 }->wpAny (model X.prog X.w) X.A (f (.int i t) (.int j u)) Q E s):
 eI X f (fV λi j=>.int (g i j)):=by
 intro e s k H x y v u Q I b c h;obtain ⟨i,j,rfl,rfl,q⟩:=h;obtain ⟨t,rfl⟩:=b;obtain ⟨d,rfl⟩:=c;exact a i j t d s _ _ ⟨.int (g i j),H,I.tok _,⟨_,U⟩,q⟩
theorem BO {f:Value->Value->Sem Value} {g:Int->Int->Bool}
 (a:∀(i j:Int) (t u:Tok) (s:Shared) (Q:Value->Shared->Prop) (E:Value->Shared->Prop),Q (.bool (g i j)) s->wpAny (model X.prog X.w) X.A (f (.int i t) (.int j u)) Q E s):
 eI X f (fV λi j=>.bl (g i j)):=by
 intro e s k H x y v u Q I b c h;obtain ⟨i,j,rfl,rfl,q⟩:=h;obtain ⟨t,rfl⟩:=b;obtain ⟨d,rfl⟩:=c;exact a i j t d s _ _ ⟨.bl (g i j),H,I,U,q⟩
def Fh (i j:Int):Prop:=(-(2 ^ 64)<i/\i<2 ^ 64)\/(-(2 ^ 64)<j/\j<2 ^ 64)
theorem Fh.ok {i j:Int} (h:Fh i j):IntMulOk i j:=by
 rcases h with ⟨a,b⟩ | ⟨a,b⟩
 ·exact .of_left (intBits_le_64 a b)
 ·exact .of_right (intBits_le_64 a b)
theorem ik:eI X (binaryOp .Add) (fV λi j=>.int (i+j)):=Pc λ_ _ _ _ _ _ _ q=>add_int q
theorem i9:eI X (binaryOp .Sub) (fV λi j=>.int (i-j)):=Pc λ_ _ _ _ _ _ _ q=>sub_int q
theorem Y2:eI X (binaryOp .Mult) (rI Fh λi j=>.int (i*j)):=Qi λ_ _ _ _ _ _ _ a q=>mul_int q a.ok
theorem Dq:eI X (binaryOp .Mod) (rI (λ_ j=>0<j) λi j=>.int (i % j)):=Qi λi j _ _ _ _ _ a q=>by have b:(0:Int)<j:=a;exact mod_int' (T7 a) (by rw [Int.fmod_eq_emod_of_nonneg i (UQ a)];exact q)
theorem ZR {f:Value->Sem Value} {g:Int->Int}
 (a:∀(i:Int) (t:Tok) (s:Shared) (Q:Value->Shared->Prop) (E:Value->Shared->Prop),Q (.int (g i) s.toks) { s with toks:=s.toks+1 }->wpAny (model X.prog X.w) X.A (f (.int i t)) Q E s):
 Kb X f (rU λi=>.int (g i)):=by
 intro c s d H x v Q I b h;obtain ⟨i,rfl,q⟩:=h;obtain ⟨t,rfl⟩:=b;exact a i t s _ _ ⟨.int (g i),H,I.tok _,⟨_,U⟩,q⟩
theorem nG:Kb X (unaryOp .USub) (rU λi=>.int (-i)):=ZR λ_ _ _ _ _ q=>neg_int q
end
def O_:V->V->Bool
 | .a9,.a9=>true | .a9,.int _=>true | .int _,.a9=>true | .a9,.bl _=>true | .bl _,.a9=>true | .a9,.str _=>true | .str _,.a9=>true
 | .int _,.int _=>true | .bl _,.bl _=>true | .str _,.str _=>true | .lR _,.lR _=>true
 | .int _,.str _=>true | .str _,.int _=>true | .bl _,.str _=>true | .str _,.bl _=>true
 | _,_=>false
def Ô:R2:=λx y H Q=>O_ x y=true/\Q (.bl (decide (x=y))) H
def Ó:R2:=λx y H Q=>O_ x y=true/\Q (.bl (!decide (x=y))) H
theorem Ld {i j:Int}:decide (V.int i=V.int j)=(i==j):=by rw [CA];simp
theorem KL {i j:Bool}:decide (V.bl i=V.bl j)=(i==j):=by rw [CA];simp
theorem Le {i j:Str}:decide (V.str i=V.str j)=(i==j):=by rw [CA];simp
theorem Lc {i j:Array UInt8}:decide (V.lR i=V.lR j)=(i.toList==j.toList):=by rw [CA];cases i;cases j;simp
section
theorem eZ {b:List (Addr×Obj)} {c:St} {H:Hp} {s:Shared} {Q:VK} {k a:Bool} (I:Inv X b c H s) (q:Q (.bl k) H) (e:k=a):EP X b c Q (.bool a) s:=by subst e;exact ⟨.bl k,H,I,U,q⟩
theorem gC:eI X (compareOp .Eq) Ô:=by
 intro e s f H x y v u Q I d a h;obtain ⟨c,q⟩:=h
 cases x with
 | a9=>
  cases d
  cases y with
  | a9=>cases a;exact PySem.EqNone.eq_none_none (eZ I q (by simp))
  | bl j=>cases a;exact PySem.EqNone.eq_none_bool (eZ I q (by simp))
  | int j=>obtain ⟨b,rfl⟩:=a;exact PySem.EqNone.eq_none_int (eZ I q (by simp))
  | str j=>obtain ⟨b,rfl⟩:=a;exact PySem.EqNone.eq_none_str (eZ I q (by simp))
  | _=>exact absurd (show false=true from c) fg
 | bl i=>
  cases d
  cases y with
  | a9=>cases a;exact PySem.EqNone.eq_bool_none (eZ I q (by simp))
  | bl j=>cases a;exact eq_bool (eZ I q KL)
  | str j=>obtain ⟨b,rfl⟩:=a;exact PySem.EqMixed.eq_bool_str (eZ I q (by simp))
  | _=>exact absurd (show false=true from c) fg
 | int i=>
  obtain ⟨t,rfl⟩:=d
  cases y with
  | a9=>cases a;exact PySem.EqNone.eq_int_none (eZ I q (by simp))
  | int j=>obtain ⟨b,rfl⟩:=a;exact eq_int (eZ I q Ld)
  | str j=>obtain ⟨b,rfl⟩:=a;exact PySem.EqMixed.eq_int_str (eZ I q (by simp))
  | _=>exact absurd (show false=true from c) fg
 | str i=>
  obtain ⟨t,rfl⟩:=d
  cases y with
  | a9=>cases a;exact PySem.EqNone.eq_str_none (eZ I q (by simp))
  | bl j=>cases a;exact PySem.EqMixed.eq_str_bool (eZ I q (by simp))
  | int j=>obtain ⟨b,rfl⟩:=a;exact PySem.EqMixed.eq_str_int (eZ I q (by simp))
  | str j=>obtain ⟨b,rfl⟩:=a;exact eq_str (eZ I q Le)
  | _=>exact absurd (show false=true from c) fg
 | lR i=>
  obtain ⟨t,rfl⟩:=d
  cases y with
  | lR j=>obtain ⟨b,rfl⟩:=a;exact PySem.W.eq_bytes (eZ I q Lc)
  | _=>exact absurd (show false=true from c) fg
 | _=>cases y<;>exact absurd (show false=true from c) fg
theorem AH:eI X (compareOp .NotEq) Ó:=by
 intro e s f H x y v u Q I d a h;obtain ⟨c,q⟩:=h
 cases x with
 | a9=>
  cases d
  cases y with
  | a9=>cases a;exact PySem.EqNone.ne_none_none (eZ I q (by simp))
  | bl j=>cases a;exact PySem.EqNone.ne_none_bool (eZ I q (by simp))
  | int j=>obtain ⟨b,rfl⟩:=a;exact PySem.EqNone.ne_none_int (eZ I q (by simp))
  | str j=>obtain ⟨b,rfl⟩:=a;exact PySem.EqNone.ne_none_str (eZ I q (by simp))
  | _=>exact absurd (show false=true from c) fg
 | bl i=>
  cases d
  cases y with
  | a9=>cases a;exact PySem.EqNone.ne_bool_none (eZ I q (by simp))
  | bl j=>cases a;exact ne_bool (eZ I q (congrArg not KL))
  | str j=>obtain ⟨b,rfl⟩:=a;exact PySem.EqMixed.ne_bool_str (eZ I q (by simp))
  | _=>exact absurd (show false=true from c) fg
 | int i=>
  obtain ⟨t,rfl⟩:=d
  cases y with
  | a9=>cases a;exact PySem.EqNone.ne_int_none (eZ I q (by simp))
  | int j=>obtain ⟨b,rfl⟩:=a;exact ne_int (eZ I q (congrArg not Ld))
  | str j=>obtain ⟨b,rfl⟩:=a;exact PySem.EqMixed.ne_int_str (eZ I q (by simp))
  | _=>exact absurd (show false=true from c) fg
 | str i=>
  obtain ⟨t,rfl⟩:=d
  cases y with
  | a9=>cases a;exact PySem.EqNone.ne_str_none (eZ I q (by simp))
  | bl j=>cases a;exact PySem.EqMixed.ne_str_bool (eZ I q (by simp))
  | int j=>obtain ⟨b,rfl⟩:=a;exact PySem.EqMixed.ne_str_int (eZ I q (by simp))
  | str j=>obtain ⟨b,rfl⟩:=a;exact ne_str (eZ I q (congrArg not Le))
  | _=>exact absurd (show false=true from c) fg
 | lR i=>
  obtain ⟨t,rfl⟩:=d
  cases y with
  | lR j=>obtain ⟨b,rfl⟩:=a;exact PySem.W.ne_bytes (eZ I q (congrArg not Lc))
  | _=>exact absurd (show false=true from c) fg
 | _=>cases y<;>exact absurd (show false=true from c) fg
theorem rZ:eI X (compareOp .Lt) (fV λi j=>.bl (decide (i<j))):=BO λ_ _ _ _ _ _ _ q=>lt_int q
theorem jS:eI X (compareOp .LtE) (fV λi j=>.bl (decide (i<=j))):=BO λ_ _ _ _ _ _ _ q=>le_int q
theorem Pu:eI X (compareOp .Gt) (fV λi j=>.bl (decide (j<i))):=BO λ_ _ _ _ _ _ _ q=>gt_int q
theorem XW:eI X (compareOp .GtE) (fV λi j=>.bl (decide (j<=i))):=BO λ_ _ _ _ _ _ _ q=>ge_int q
theorem Dp:eI X (compareOp .Is) (λx y H Q=>y=.a9/\Q (.bl (decide (x=.a9))) H):=by
 intro c s d H x y v u Q I a b h;obtain ⟨rfl,q⟩:=h;cases b;refine is_none_gen (eZ I q ?_);cases x<;>first
  | (cases a;rfl)
  | (obtain ⟨t,rfl⟩:=a;rfl)
theorem Lg:eI X (compareOp .IsNot) (λx y H Q=>y=.a9/\Q (.bl (!decide (x=.a9))) H):=by
 intro c s d H x y v u Q I a b h;obtain ⟨rfl,q⟩:=h;cases b;refine isnot_none_gen (eZ I q ?_);cases x<;>first
  | (cases a;rfl)
  | (obtain ⟨t,rfl⟩:=a;rfl)
theorem Kq (b:Expr) {a:CmpOp} (h:a≠.In:=by decide) (e:a≠.NotIn:=by decide):behindInMarks a b=false:=by
 have c:(a==CmpOp.In)=false:=by cases a<;>first | rfl | exact absurd rfl h
 have d:(a==CmpOp.NotIn)=false:=by cases a<;>first | rfl | exact absurd rfl e
 cases b<;>simp [behindInMarks,c,d]
theorem Zk {c:CmpOp} {r:R2} (j:eI X (compareOp c) r) (f:PE X a C) (g:PE X b J) (i:behindInMarks c b=false):PE X (.Compare a [c] [b] pos) (uC r C J):=by intro k s o H Q I h;exact wpAny_Compare1 (Fo f g I h λv u n x y d e l m q=>j k n o d x y v u Q e l m q) i
def kT (Q:Bool->Hp->Prop) (x:V) (H:Hp):Prop:=∃k,x=.bl k/\Q k H
def AG (t:TE):TT:=λa H Q=>t a H (kT Q)
theorem xR {f:CmpOp} {r:R2} (B:eI X (compareOp f) r) (q:PE X a ta) (t:PE X b tb) (A:behindInMarks f b=false):PT X (.Compare a [f] [b] pos) (AG (uC r ta tb)):=by
 intro g s i H Q I h;refine wpAny_isTrue_Compare1 (ay (q g s i H _ I h) λv L d=>L2.eF d λx j n F C=>ay (t g L i j _ n C) λu M d=>L2.eF d λy l o G D=>
  ay (B g M i l x y v u _ o F G D) λc N d=>?_) A
 obtain ⟨z,m,p,J,k,e,E⟩:=d;subst e;cases J;exact pV ⟨m,p,E⟩
theorem oX {X:Cx} {a b:Expr} {d e:TE} {pos:Pos} {c:CmpOp} {r:R2} (j:eI X (compareOp c) r) (g:PE X a d) (i:PE X b e) (h:c≠.In:=by decide) (f:c≠.NotIn:=by decide):PE X (.Compare a [c] [b] pos) (uC r d e):=Zk j g i (Kq _ h f)
theorem dF {X:Cx} {a b:Expr} {d e:TE} {pos:Pos} {c:CmpOp} {r:R2} (j:eI X (compareOp c) r) (g:PE X a d) (i:PE X b e) (h:c≠.In:=by decide) (f:c≠.NotIn:=by decide):PT X (.Compare a [c] [b] pos) (AG (uC r d e)):=xR j g i (Kq _ h f)
def KD (r f:R2) (g h i:TE):TE:=λa H Q=>g a H λx c=>h a c λy d=>r x y d λz b=>∃k,z=.bl k/\
 (if k=true then i a b λj e=>f y j e Q else Q (.bl false) b)
theorem DY {i j:CmpOp} {r o:R2} (F:eI X (compareOp i) r) (G:eI X (compareOp j) o) (B:PE X a ta) (C:PE X b tb) (D:PE X c tc)
 (E:lastMarks [i,j] [b,c]=false:=by with_unfolding_all rfl):PE X (.Compare a [i,j] [b,c] pos) (KD r o ta tb tc):=by
 intro f s g H Q I h;refine Compare_chain (ay (B f s g H _ I h) λx1 S d=>L2.eF d λx2 q x N J=>chain_link (ay (C f S g q _ x J) λu T d=>L2.eF d λy t z p L=>
  ay (F f T g t x2 y x1 u _ z N p L) λx3 V d=>?_)) E
 obtain ⟨x4,l,m,O,k,e,n⟩:=d;subst e;cases O;refine pV ?_
 cases k with
 | false=>exact ite_ff ⟨.bl false,l,m,U,n⟩
 | true=>exact ite_tt (chain_last (ay (D f V g l _ m n) λw' W d=>L2.eF d λz' v A R M=>G f W g v y z' u w' Q A p R M))
theorem M6 {i j:CmpOp} {r o:R2} (M:eI X (compareOp i) r) (N:eI X (compareOp j) o) (F:PE X a ta) (G:PE X b tb) (J:PE X c tc)
 (L:lastMarks [i,j] [b,c]=false:=by with_unfolding_all rfl):PT X (.Compare a [i,j] [b,c] pos) (AG (KD r o ta tb tc)):=by
 intro f s g H x3 I h;refine isTrue_chain (ay (F f s g H _ I h) λx1 s1 d=>L2.eF d λx2 q z V Q=>test_link (ay (G f s1 g q _ z Q) λu s2 d=>L2.eF d λy t A p R=>
  ay (M f s2 g t x2 y x1 u _ A V p R) λx4 s3 d=>?_)) L
 obtain ⟨x5,l,m,W,k,e,n⟩:=d;subst e;cases W;refine pV ?_
 cases k with
 | false=>
  obtain ⟨k',D,O⟩:=n;cases D;exact ite_ff ⟨l,m,O⟩
 | true=>
  refine ite_tt (test_last (ay (J f s3 g l _ m n) λw' s4 d=>L2.eF d λz' v B Y S=>ay (N f s4 g v y z' u w' _ B p Y S) λd' s5 d=>?_));obtain ⟨z2,x,C,Z,k2,E,T⟩:=d;subst E;cases Z;exact pV ⟨x,C,T⟩
theorem AJ:(sizeLine:Nat)<2 ^ 63:=by rw [zY];decide
theorem tQ {x:V} {us:List Value} (r:aX [x] us):∃u,us=[u]/\bz x u:=by
 cases r with
 | cons a b=>cases b;exact ⟨_,U,a⟩
theorem FJ {x y:V} {us:List Value} (r:aX [x,y] us):∃u w',us=[u,w']/\bz x u/\bz y w':=by
 cases r with
 | cons a b=>
  cases b with
  | cons c d=>cases d;exact ⟨_,_,U,a,c⟩
theorem MP (b:X.calm=true):nv X (.builtin "max") (λxs H Q=>∃i j,xs=[.int i,.int j]/\Q (.int (if j>i then j else i)) H):=by
 intro d s m H xs g Q I r h;obtain ⟨i,j,rfl,q⟩:=h;obtain ⟨u,l,rfl,⟨t,rfl⟩,⟨e,rfl⟩⟩:=FJ r;refine max_two_ints (I.ok.hd b) λc f k=>⟨_,H,I.kept k,?_,q⟩
 by_cases a:j>i
 ·rw [if_pos a,if_pos a];exact ⟨_,U⟩
 ·rw [if_neg a,if_neg a];exact ⟨_,U⟩
theorem uo (b:X.calm=true):nv X (.builtin "min") (λxs H Q=>∃i j,xs=[.int i,.int j]/\Q (.int (if j<i then j else i)) H):=by
 intro d s m H xs g Q I r h;obtain ⟨i,j,rfl,q⟩:=h;obtain ⟨u,l,rfl,⟨t,rfl⟩,⟨e,rfl⟩⟩:=FJ r;refine min_two_ints (I.ok.hd b) λc f k=>⟨_,H,I.kept k,?_,q⟩
 by_cases a:j<i
 ·rw [if_pos a,if_pos a];exact ⟨_,U⟩
 ·rw [if_neg a,if_neg a];exact ⟨_,U⟩
end
structure uy (h:Heap) (x dx C:Addr) (mA:Str->Option Value):Prop where
 obj:h.get? x=some (PySem.W.instObj C dx)
 ns:h.Ns1 dx mA
 ne:dx≠x
theorem NA {h:Heap} {dx:Addr} {c:Str->Option Value} (n:h.Ns1 dx c):∃d,h.get? dx=some d/\∀name,PySem.W.lookIn name d=some (c name):=by
 obtain ⟨o,b,p,l,g,i,_,k⟩:=n;refine ⟨o,l,λname=>?_⟩;have e:=k name;unfold nsFind findBy at e;rw [<-Array.find?_toList] at e;unfold PySem.W.lookIn;rw [g];dsimp only;split
 ·rename_i y q
  rw [q] at e;exact congrArg some e
 ·rename_i q
  rw [q] at e;have a:b.toList.any (·.refKey)=false:=by rw [List.any_eq_false];intro y m;obtain ⟨z,t,j⟩:=i y (Array.mem_toList_iff.mp m);simp [DictEntry.refKey,j]
  have f:¬b.toList.any (·.refKey)=true:=by rw [a];exact fg
  rw [if_neg f];exact congrArg some e
theorem uy.look {h:Heap} {x dx C:Addr} {b:Str->Option Value} (I:uy h x dx C b):∃a,PySem.W.InstAt h x (PySem.W.instObj C dx) C (some a)/\∀name,PySem.W.lookIn name a=some (b name):=
 let ⟨a,d,c⟩:=NA I.ns
 ⟨a,⟨I.obj,U,U,d⟩,c⟩
section
variable {K:aY}
theorem YV {a:Bool} {Q:Value->Shared->Prop} (X:K.In s.heap) (I:uy s.heap x dx C mA) (c:PySem.W.plainGet K C name=true) (d:PySem.W.hasDictIn K C=true)
 (b:PySem.W.findIn K (.ref C) name=some none) (f:mA name=some v) (g:PySem.W.handedIn v=true) (h:Q v { s with toks:=s.toks+1 }):
 wpAny (model prog w) A (getAttr (.ref x) name a) Q E s:=by
 obtain ⟨i,J,e⟩:=I.look;exact PySem.W.get_value X J (PySem.W.plainGet_of c).1 (PySem.W.findObj_own d b U (by rw [e,f])) g h
theorem S0 {pl:Sem Bool} {Q:Value×List Value->Shared->Prop} (X:K.In s.heap) (I:uy s.heap x dx C mA) (a:PySem.W.plainGet K C name=true)
 (b:PySem.W.findIn K (.ref C) name=some (some (.ref f))) (d:PySem.W.isFn K (.ref f)=true) (e:mA name=none) (h:Q (.ref f,[.ref x]) s):
 wpAny (model prog w) A (getMethod (.ref x) name pl) Q E s:=by
 obtain ⟨g,J,c⟩:=I.look;exact PySem.W.method_fn X J (PySem.W.plainGet_of a).1 (PySem.W.plainGet_of a).2 b (beq_iff_eq.mp d) (by show (PySem.W.lookIn name g).map (·.isSome)=some false;rw [c,e];rfl) h
theorem Zx {ns:List Str} {Q:Unit->Shared->Prop} (X:K.In s.heap) (I:uy s.heap x dx C mA)
 (m:PySem.W.findIn K (.ref C) "__setattr__"=some (some (.builtin "object.__setattr__"))) (l:PySem.W.plainOver K C=true) (n:PySem.W.takerIn K C name=some none) (j:PySem.W.hasDictIn K C=true)
 (hw:PySem.Within mA ns) (hsz:ns.length<=sizeLine)
 (h:∀h',uy h' x dx C (λy=>if y=name then some v else mA y)->Heap.SameBut dx s.heap h'->Q () { s with heap:=h',toks:=s.toks+2 }):
 wpAny (model prog w) A (setAttr (.ref x) name v) Q E s:=by
 obtain ⟨B,J,u⟩:=I.look;refine PySem.W.set_plain X J m (PySem.W.osa_open (s:={ s with toks:=s.toks+1 }) (r:=none) X J l n λb=>?_);obtain ⟨p,e,g⟩:=PySem.W.any_some j;have o:s.heap.get? x=some ⟨.ref C,some dx,.plain,#[]⟩:=I.obj;refine ae (aI (ae (ae (wpAny_loadPart o (ae (PySem.W.Looks.here (s:={ s with toks:=s.toks+1 }) (PySem.W.looks_clsIn X e) ?_))))));rw [g];refine aI (a:=some dx) (ae (aI (ae ?_)));refine wpAny_nsSet1 (s:={ s with toks:=s.toks+1 }) I.ns λh' c d=>?_;obtain ⟨z,t,q,k,i,f⟩:=c.count (PySem.Within.cons name v hw);refine ae (wpAny_lookBehind k (by rw [i];exact pastItsLine_dict (cQ f (by rw [gw];exact ug hsz))) ?_);exact aI (h _ ⟨(d.2 _ (a6 I.ne)).trans I.obj,c,I.ne⟩ d)
theorem SD {R:Result->Shared->Prop} {vs:List Value} {a:List (Str×Value)} (X:K.In s.heap) (e:PySem.W.makesIn K C=true)
 (c:PySem.W.findIn K (.ref C) "__init__"=some (some (.ref f))) (b:PySem.W.typeIn K (.ref f)=some (.type "function"))
 (h:codeAny (model prog w) (A.under (.builtin "type.__call__" ⟨.ref C::vs,a⟩)) (.call (.ref f) ⟨.ref (s.heap.objs.size+1)::vs,a⟩) (PySem.W.InitBack (s.heap.objs.size+1) R)
  { s with heap:=(s.heap.push PySem.W.emptyDict).push (PySem.W.instObj C s.heap.objs.size) }):
 codeAny (model prog w) A (.call (.ref C) ⟨vs,a⟩) R s:=by
 obtain ⟨i,g,d,t,j⟩:=s;exact PySem.W.make_core (PySem.W.makes_of X e) (Ar X c) (λself=>PySem.W.bind_fn X self b) (.inl U) h
end
def aA (f:Str) (v:V):List (Str×V)->List (Str×V)
 | []=>[(f,v)]
 | (g,x)::r=>if g=f then (g,v)::r else (g,x)::aA f v r
theorem jU (f g:Str) (v:V):∀c:List (Str×V),(aA f v c).lookup g=if g=f then some v else c.lookup g
 | []=>by
  show List.lookup g [(f,v)]=_
  by_cases h:g=f
  ·have a:(g==f)=true:=beq_iff_eq.mpr h;simp only [List.lookup,a,if_pos h]
  ·have a:(g==f)=false:=beq_eq_false_iff_ne.mpr h;simp only [List.lookup,a,if_neg h]
 | (k,x)::r=>by
  have d:=jU f g v r;rw [show aA f v ((k,x)::r)=(if k=f then (k,v)::r else (k,x)::aA f v r) from rfl]
  by_cases b:k=f
  ·rw [if_pos b]
   by_cases h:g=k
   ·have a:(g==k)=true:=beq_iff_eq.mpr h;simp only [List.lookup,a,if_pos (h.trans b)]
   ·have a:(g==k)=false:=beq_eq_false_iff_ne.mpr h;simp only [List.lookup,a,if_neg (λe:g=f=>h (e.trans b.symm))]
  ·rw [if_neg b]
   by_cases h:g=k
   ·have a:(g==k)=true:=beq_iff_eq.mpr h;simp only [List.lookup,a,if_neg (λe:g=f=>b (h.symm.trans e))]
   ·have a:(g==k)=false:=beq_eq_false_iff_ne.mpr h;simp only [List.lookup,a];exact d
theorem EM (f:Str) (v:V):∀a:List (Str×V),f∈(aA f v a).map (·.1)/\∀g,g∈a.map (·.1)->g∈(aA f v a).map (·.1)
 | []=>⟨by simp [aA],λg h=>by simp at h⟩
 | (k,x)::r=>by
  obtain ⟨c,d⟩:=EM f v r;rw [show aA f v ((k,x)::r)=(if k=f then (k,v)::r else (k,x)::aA f v r) from rfl]
  by_cases b:k=f
  ·rw [if_pos b];subst b;exact ⟨by simp,λg h=>by simpa using h⟩
  ·rw [if_neg b];refine ⟨?_,λg h=>?_⟩
   ·rw [eG];exact gI _ c
   ·rw [eG] at h ⊢;rcases eR.mp h with e | e
    ·exact eR.mpr (.inl e)
    ·exact gI _ (d g e)
theorem OF (f:Str) (v:V):∀a:List (Str×V),(aA f v a).length<=a.length+1
 | []=>by simp [aA]
 | (k,x)::r=>by
  have c:=OF f v r;rw [show aA f v ((k,x)::r)=(if k=f then (k,v)::r else (k,x)::aA f v r) from rfl]
  by_cases b:k=f
  ·rw [if_pos b,gw,gw];exact iK
  ·rw [if_neg b,gw,gw];exact ug c
theorem ie.some_of {v:V} {o:Option Value} (r:ie (some v) o):∃u,o=some u/\bz v u:=by
 cases o with
 | none=>exact (show False from r).elim
 | some u=>exact ⟨u,U,r⟩
theorem ie.none_of {o:Option Value} (r:ie none o):o=none:=by
 cases o with
 | none=>rfl
 | some u=>exact (show False from r).elim
theorem MW {v:V} {u:Value} (r:bz v u):PySem.W.handedIn u=true:=by
 cases v with
 | a9=>cases (show u=Value.none from r);rfl
 | bl b=>cases (show u=Value.bool b from r);rfl
 | int i=>obtain ⟨t,e⟩:=(show ∃t,u=Value.int i t from r);cases e;rfl
 | str x=>obtain ⟨t,e⟩:=(show ∃t,u=Value.str x t from r);cases e;rfl
 | lR b=>obtain ⟨t,e⟩:=(show ∃t,u=Value.bytes b t from r);cases e;rfl
 | oJ b=>obtain ⟨t,e⟩:=(show ∃t,u=Value.float b t from r);cases e;rfl
 | ref a=>cases (show u=Value.ref a from r);rfl
 | ty n=>cases (show u=Value.type n from r);rfl
section
theorem AQ (c:dJ P w H h) (e:H a=some (.ins C dx fs)):∃b,uy h a dx C b/\(∀f,ie (fs.lookup f) (b f))/\PySem.Within b (fs.map (·.1))/\fs.length<=1000/\H dx=some (.own a):=by obtain ⟨d,z,g,i,b,n,r,q⟩:=(show cZ P w H h a (.ins C dx fs) from c a _ e);exact ⟨b,⟨i,n,g⟩,r,q,z,d⟩
end
structure lU (K:aY) (C:Addr):Prop where
 pg:PySem.W.plainGet K C Str.empty=true
 hd:PySem.W.hasDictIn K C=true
 po:PySem.W.plainOver K C=true
 sa:PySem.W.findIn K (.ref C) "__setattr__"=some (some (.builtin "object.__setattr__"))
theorem lU.get {C:Addr} (c:lU K C) (f:Str):PySem.W.plainGet K C f=true:=c.pg
def j5 (K:aY) (C:Addr) (f:Str):Prop:=PySem.W.findIn K (.ref C) f=some none
theorem j5.yH {C:Addr} {f:Str} (n:j5 K C f):PySem.W.takerIn K C f=some none:=by unfold PySem.W.takerIn;rw [show PySem.W.findIn K (.ref C) f=some none from n];rfl
structure gc (K:aY) (C:Addr) (m:Str) (f:Addr):Prop where
 at_:PySem.W.findIn K (.ref C) m=some (some (.ref f))
 fn:PySem.W.isFn K (.ref f)=true
 kp:PySem.W.keepIn K (.ref f)=true
section
theorem V0 {b:Bool} {Q:Value->Shared->Prop} (I:Inv X pins σ H s) (e:H a=some (.ins C dx fs)) (c:lU X.K C) (n:j5 X.K C f) (l:fs.lookup f=some v)
 (h:∀u s',Inv X pins σ H s'->bz v u->Q u s'):wpAny (model X.prog X.w) A (getAttr (.ref a) f b) Q E s:=by
 obtain ⟨i,O,r,_,_,_⟩:=AQ I.a4 e;obtain ⟨u,g,d⟩:=ie.some_of (v:=v) (o:=i f) (by rw [<-l];exact r f);exact YV I.de O (c.get f) c.hd n g (MW d) (h u _ (I.tok _) d)
theorem NO {m:Str} {g:Addr} {pl:Sem Bool} {Q:Value×List Value->Shared->Prop} (I:Inv X pins σ H s) (e:H a=some (.ins C dx fs)) (c:lU X.K C) (k:gc X.K C m g) (l:fs.lookup m=none)
 (h:Q (.ref g,[.ref a]) s):wpAny (model X.prog X.w) A (getMethod (.ref a) m pl) Q E s:=by
 obtain ⟨d,O,r,_,_,_⟩:=AQ I.a4 e;have b:d m=none:=ie.none_of (by rw [<-l];exact r m);exact S0 I.de O (c.get m) k.at_ k.fn b h
theorem VI {y:V} {u:Value} {Q:Unit->Shared->Prop} (I:Inv X pins σ H s) (e:H a=some (.ins C dx fs)) (c:lU X.K C) (n:j5 X.K C f) (B:fs.length<1000) (F:bz y u)
 (h:∀s',Inv X pins σ (upd H a (.ins C dx (aA f y fs))) s'->Q () s'):wpAny (model X.prog X.w) A (setAttr (.ref a) f u) Q E s:=by
 obtain ⟨j,O,r,k,_,i⟩:=AQ I.a4 e;have D:(fs.map (·.1)).length<=sizeLine:=by rw [ak,zY];omega
 refine Zx I.de O c.sa c.po n.yH c.hd k D λm d G=>h _ ?_;have t:∃o,m.get? dx=some o:=let ⟨o,_,_,l,_⟩:=d.ns;⟨o,l⟩;refine I.write (x:=a) (e:=dx) (by rw [e];exact True.intro) (.inr i) (λb q p z=>(G.2 b p).trans z) t ?_;refine ⟨by rw [ag O.ne];exact i,?_,O.ne,d.obj,_,d.ns,λg=>?_,λg v=>?_⟩
 ·have:=OF f y fs;exact ET B this
 ·show ie ((aA f y fs).lookup g) (if g=f then some u else j g);rw [jU]
  by_cases q:g=f
  ·rw [if_pos q,if_pos q];exact F
  ·rw [if_neg q,if_neg q];exact r g
 ·by_cases q:g=f
  ·rw [q];exact (EM f y fs).1
  ·refine (EM f y fs).2 g (k g λz=>v ?_);show (if g=f then some u else j g)=none;rw [if_neg q];exact z
theorem Inv.made (I:Inv X pins σ H s):Inv X pins σ (upd (upd H s.heap.objs.size (.own (s.heap.objs.size+1))) (s.heap.objs.size+1) (.ins C s.heap.objs.size []))
 { s with heap:=(s.heap.push PySem.W.emptyDict).push (PySem.W.instObj C s.heap.objs.size) }:=by
 have c:(s.heap.push PySem.W.emptyDict).get? s.heap.objs.size=some PySem.W.emptyDict:=jh s.heap U;have g:((s.heap.push PySem.W.emptyDict).push (PySem.W.instObj C s.heap.objs.size)).get? (s.heap.objs.size+1)=some (PySem.W.instObj C s.heap.objs.size):=by
  have:=jh (s.heap.push PySem.W.emptyDict) (o:=PySem.W.instObj C s.heap.objs.size) U
  rwa [Af] at this
 have h:(s.heap.push PySem.W.emptyDict).Ns s.heap.objs.size (λ_=>none):=⟨PySem.W.emptyDict,#[],_,c,U,(λe i=>absurd i (by simp)),λ_=>rfl⟩;have f:=I.laid (a:=s.heap.objs.size) (o:=.own (s.heap.objs.size+1)) (h':=s.heap.push PySem.W.emptyDict) (t':=s.toks) (λb u q=>cL _ q) (ar _) ⟨_,c⟩;refine f.laid (a:=s.heap.objs.size+1) (o:=.ins C s.heap.objs.size []) (t':=s.toks) (λb u q=>cL _ q) (tG (Af _ _)) ?_;have d:s.heap.objs.size≠s.heap.objs.size+1:=fy (Ad _);refine ⟨by rw [ag d,ah],dV _,d,g,λ_=>none,(Heap.Ns1.of_empty h).at λo q=>cL _ q,λ_=>True.intro,λy j=>absurd U j⟩
theorem KU {prog:Program} {env:Env} {e:Expr} {f:Str} {pos:Pos} {s:Shared} {Q:Value->Shared->Prop} (a:attributeBase e f env (eval e env)=eval e env)
 (h:wpAny (model prog w) A (eval e env) (λo b=>wpAny (model prog w) A (getAttr o f true) Q E b) E s):wpAny (model prog w) A (eval (.Attribute e f pos) env) Q E s:=
 Attribute_any_ h (by rw [arm_eval_Attribute,a])
end
def iu (K:aY) (f:Str) (x:V) (H:Hp) (Q:VK):Prop:=∃a C c b v,x=.ref a/\H a=some (.ins C c b)/\lU K C/\j5 K C f/\b.lookup f=some v/\Q v H
def Pa (K:aY) (b:TE) (f:Str):TE:=λc H Q=>b c H λx a=>iu K f x a Q
def iq (K:aY) (f:Str) (y x:V) (H:Hp) (N:Hp->Prop):Prop:=∃a C c b,x=.ref a/\H a=some (.ins C c b)/\lU K C/\j5 K C f/\b.length<1000/\N (upd H a (.ins C c (aA f y b)))
def X6 (K:aY) (d e:TE) (f:Str):TS:=λD a H=>e a H λy b=>d a b λx c=>iq K f y x c (D.nx a)
section
theorem dY (m:PE X e J) (k:attributeBase e f X.env (eval e X.env)=eval e X.env):PE X (.Attribute e f pos) (Pa X.K J f):=by intro o s y H Q I h;refine KU k (ay (m o s y H _ I h) λu B t=>?_);obtain ⟨x,b,d,r,a,C,z,A,v,j,i,c,n,l,q⟩:=t;subst j;obtain rfl:u=Value.ref a:=r;exact V0 d i c n l λE D g p=>⟨v,b,g,p,q⟩
theorem pj (r:PE X o J) (v:PE X value tv) (t:swapsWith value (some (.Attribute o f pos')) pos.line X.env=pure false):PS X (.Assign [.Attribute o f pos'] value pos) (X6 X.K J tv f):=by intro e s d H D I h;refine RS (ay (v e s d H _ I h) λu F b=>L2.eF b λy g i E q=>ay (r e F d g _ i q) λz N b=>?_) t;obtain ⟨x,G,j,B,a,C,L,M,p,m,c,n,l,A⟩:=b;subst p;obtain rfl:z=Value.ref a:=B;exact VI j m c n l E λO k=>⟨d,_,k,A⟩
end
section
inductive k_ (K:aY) (H:Hp):V->Value->Prop where
 | a9:k_ K H .a9 (.type "NoneType")
 | bl (x:Bool):k_ K H (.bl x) (.type "bool")
 | int (i:Int):k_ K H (.int i) (.type "int")
 | str (x:Str):k_ K H (.str x) (.type "str")
 | oJ (x:UInt64):k_ K H (.oJ x) (.type "float")
 | lst {a:Addr} {xs:List V} (e:H a=some (.lst xs)):k_ K H (.ref a) (.type "list")
 | dZ {a:Addr} {o:Obj} {xs:List V} (e:H a=some (.dZ o (.lst xs))):k_ K H (.ref a) (.type "list")
 | tup {a:Addr} {xs:List V} (e:H a=some (.tup xs)):k_ K H (.ref a) (.type "tuple")
 | dK {a:Addr} {kvs:List (Key×V)} (e:H a=some (.dK kvs)):k_ K H (.ref a) (.type "dict")
 | dT {a:Addr} {kvs:List (List Key×V)} (e:H a=some (.dT kvs)):k_ K H (.ref a) (.type "dict")
 | ins {a C dx:Addr} {fs:List (Str×V)} (e:H a=some (.ins C dx fs)) (cl:lU K C) (ha:PySem.W.findIn K (.ref C) "__class__"=some (some (.builtin "object.__class__")))
  (hn:PySem.W.specialIn K (.builtin "object.__class__") "__get__"=some (some (.builtin "getset_descriptor.__get__"))) (QC:PySem.W.takesIn K (.builtin "object.__class__")=some true)
  (hm:PySem.W.mroIn K C (.type "object")=some true):k_ K H (.ref a) (.ref C)
theorem U' {x:V} {u t:Value} (I:Inv X pins σ H s) (f:bz x u) (M:k_ X.K H x t) (e:PySem.W.kitOne X.K t c=some b) (h:∀L,Q (.bool b) { s with toks:=L }):
 wpAny (model X.prog X.w) A (call (.builtin "isinstance") [u,c]) Q E s:=by
 cases M with
 | a9=>cases (show u=Value.none from f);exact PySem.W.kia_one PySem.W.kitx_none I.de True.intro e nofun h
 | bl y=>cases (show u=Value.bool y from f);exact PySem.W.kia_one PySem.W.kitx_bool I.de True.intro e nofun h
 | int i=>obtain ⟨t,q⟩:=(show ∃t,u=Value.int i t from f);cases q;exact PySem.W.kia_one PySem.W.kitx_int I.de True.intro e nofun h
 | str y=>obtain ⟨t,q⟩:=(show ∃t,u=Value.str y t from f);cases q;exact PySem.W.kia_one PySem.W.kitx_str I.de True.intro e nofun h
 | oJ y=>obtain ⟨t,q⟩:=(show ∃t,u=Value.float y t from f);cases q;exact PySem.W.kia_one PySem.W.kitx_float I.de True.intro e nofun h
 | @lst a j d=>
  cases (show u=Value.ref a from f);obtain ⟨_,_,n,_,g⟩:=(show cZ X.prog X.w H s.heap a (.lst j) from I.a4 a _ d);exact PySem.W.kia_one PySem.W.kitx_list I.de ⟨_,g,U⟩ e nofun h
 | @dZ a G j d=>
  cases (show u=Value.ref a from f);obtain ⟨_,_,_,n,_,g⟩:=(show cZ X.prog X.w H s.heap a (.dZ G (.lst j)) from I.a4 a _ d);exact PySem.W.kia_one PySem.W.kitx_list I.de ⟨_,g,U⟩ e nofun h
 | @tup a j d=>
  cases (show u=Value.ref a from f);obtain ⟨_,_,_,p⟩:=(show cZ X.prog X.w H s.heap a (.tup j) from I.a4 a _ d);obtain ⟨o,g,k,_⟩:=p;exact PySem.W.kia_one PySem.W.kitx_tuple I.de ⟨o,g,k⟩ e nofun h
 | @dK a l d=>
  cases (show u=Value.ref a from f);obtain ⟨_,_,W,_,p⟩:=(show cZ X.prog X.w H s.heap a (.dK l) from I.a4 a _ d);obtain ⟨o,v,r,g,k,_⟩:=p;exact PySem.W.kia_one PySem.W.kitx_dict I.de ⟨o,g,k.1⟩ e nofun h
 | @dT a l d=>
  cases (show u=Value.ref a from f);obtain ⟨_,_,j,_,o,v,r,g,k,_⟩:=(show cZ X.prog X.w H s.heap a (.dT l) from I.a4 a _ d);exact PySem.W.kia_one PySem.W.kitx_dict I.de ⟨o,g,k.1⟩ e nofun h
 | @ins a C N R d m z D F B=>
  cases (show u=Value.ref a from f);obtain ⟨S,O,_⟩:=AQ I.a4 d;obtain ⟨T,J,_⟩:=O.look;exact PySem.W.kia_one (PySem.W.kitx_own (m.get _) m.hd z D F B) I.de J e nofun h
end
structure cA (k:Nat) (A:Around):Prop where
 hd:A.handled=none
 dp:A.depth+3*k+5<recursionLimit
 un:A.units+16*k+200<cLine
theorem cA.mono {j k:Nat} {A:Around} (r:cA k A) (h:j<=k):cA j A:=⟨r.hd,by have:=r.dp;exact UP this h,by have:=r.un;exact TL this h⟩
theorem cA.deeper {k:Nat} {A:Around} (r:cA (k+1) A) (env:Env):cA k (A.deeper env):=
 ⟨r.hd,by have:=r.dp;show A.depth+1+3*k+5<_;exact MG this,by have:=r.un;show A.units+3+16*k+200<_;exact TJ this⟩
theorem V1 {A:Around} {C:Addr} {us:List Value} {a:List (Str×Value)}:(A.under (.builtin "type.__call__" ⟨.ref C::us,a⟩)).depth=A.depth+1:=by first | rfl | simp [Around.under,Code.weight,Code.isCreation,Code.isGuard,Code.isCaller,Code.frames,Code.isFrame,guardIds]
theorem V2 {A:Around} {C:Addr} {us:List Value} {a:List (Str×Value)}:(A.under (.builtin "type.__call__" ⟨.ref C::us,a⟩)).units=A.units+1:=by first | rfl | simp [Around.under,Code.cUnits,Code.frames,Code.isFrame]
theorem cA.make {k:Nat} {A:Around} (r:cA (k+1) A) (C:Addr) (us:List Value) (a:List (Str×Value)):cA k (A.under (.builtin "type.__call__" ⟨.ref C::us,a⟩)):=
 ⟨r.hd,by have:=r.dp;rw [V1];exact MG this,by have:=r.un;rw [V2];exact TK this⟩
theorem cA.depth {k:Nat} {A:Around} (r:cA k A):A.depth<recursionLimit:=by have:=r.dp;exact UT this
theorem cA.units {k:Nat} {A:Around} (r:cA k A):A.units+64<cLine:=by have:=r.un;exact TM this
def oZ:TA:=λ_ H Q=>Q [] H
def jy (d:TE) (e:TA):TA:=λa H Q=>d a H λx b=>e a b λf c=>Q (x::f) c
section
theorem n7:PA X [] oZ:=λ_ _ _ _ H Q I h=>Calls.spliced_nil ⟨[],H,I,.nil,h⟩
theorem qp (k:PE X e J) (l:PA X C t) (m:starEach (e::C) X.env=(false,eval e X.env)::starEach C X.env:=by rfl):PA X (e::C) (jy J t):=by intro c b s d H Q I h;rw [m];show wpAny _ _ (spliced ((false,eval e X.env)::backTo c (starEach C X.env))) _ _ s;refine Calls.spliced_cons (ay (k b s d H _ I h) λu r a=>?_);obtain ⟨x,f,i,p,n⟩:=a;exact ay (l c b r d f _ i n) λz y a=>L2.eF a λv g j q o=>⟨x::v,g,j,.cons p q,o⟩
theorem dj {n:Nat} (h:Nat.ble n sizeLine=true):n<=sizeLine:=Nat.le_of_ble_eq_true h
theorem cg {X:Cx} {x:Str} {e:Expr} {b:TE} {pos a:Pos} (i:Nat) (c:X.N.Nodup) (d:PE X e b) (g:X.N[i]?=some x:=by rfl) (j:Loc X.env.scope x:=by exact Or.inl U) (h:swapsWith e (some (.Name x a)) pos.line X.env=pure false:=by rfl) (f:X.fn x=true\/X.env.scope.names.lookup x=some .local:=by first | exact .inl rfl | exact .inr rfl | assumption):PS X (.Assign [.Name x a] e pos) (yA b (tS i)):=n9 (i:=i) c g j d h f
theorem bH {X:Cx} {x:Str} {pos:Pos} (i:Nat) (a:X.N.Nodup) (c:X.N[i]?=some x:=by rfl) (d:Loc X.env.scope x:=by exact Or.inl U) (b:X.fn x=true\/X.env.scope.names.lookup x=some .local:=by first | exact .inl rfl | exact .inr rfl | assumption):PG X (.Name x pos) (tS i):=ZH (i:=i) a c d b
theorem aU {X:Cx} {a:Expr} {b:TE} (c:PE X a b) (d:starEach [a] X.env=(false,eval a X.env)::starEach [] X.env:=by rfl):PA X [a] (jy b oZ):=qp c n7 d
theorem bp {X:Cx} {a b:Expr} {c d:TE} (e:PE X a c) (f:PE X b d) (g:starEach [a,b] X.env=(false,eval a X.env)::starEach [b] X.env:=by rfl) (h:starEach [b] X.env=(false,eval b X.env)::starEach [] X.env:=by rfl):PA X [a,b] (jy c (jy d oZ)):=qp e (aU f h) g
theorem gv {X:Cx} {a b c:Expr} {d e f:TE} (g:PE X a d) (h:PE X b e) (i:PE X c f) (j:starEach [a,b,c] X.env=(false,eval a X.env)::starEach [b,c] X.env:=by rfl) (k:starEach [b,c] X.env=(false,eval b X.env)::starEach [c] X.env:=by rfl) (l:starEach [c] X.env=(false,eval c X.env)::starEach [] X.env:=by rfl):PA X [a,b,c] (jy d (jy e (jy f oZ))):=qp g (bp h i k l) j
theorem jV {X:Cx} {a b c d:Expr} {e f g h:TE} (i:PE X a e) (j:PE X b f) (k:PE X c g) (l:PE X d h) (m:starEach [a,b,c,d] X.env=(false,eval a X.env)::starEach [b,c,d] X.env:=by rfl) (n:starEach [b,c,d] X.env=(false,eval b X.env)::starEach [c,d] X.env:=by rfl) (o:starEach [c,d] X.env=(false,eval c X.env)::starEach [d] X.env:=by rfl) (p:starEach [d] X.env=(false,eval d X.env)::starEach [] X.env:=by rfl):PA X [a,b,c,d] (jy e (jy f (jy g (jy h oZ)))):=qp i (gv j k l n o p) m
def Fu (t:TA):TE:=λc H Q=>t c H λb a=>b.length<=sizeLine/\∀p,a p=none->Q (.ref p) (upd a p (.tup b))
def X1 (t:TA):TE:=λc H Q=>t c H λb a=>b.length<=sizeLine/\∀p,a p=none->Q (.ref p) (upd a p (.lst b))
theorem eN {J} (h:PA X C t):PE X (.Tuple C J pos) (Fu t):=by intro i s m H Q I g;refine wpAny_Tuple_spliced (ay (h pos i s m H _ I g) λj a l=>?_);obtain ⟨k,c,d,r,z,q⟩:=l;refine ⟨by rw [<-r.length];exact z,?_⟩;have f:c a.heap.objs.size=none:=d.a4.fresh (ar _);refine ⟨.ref a.heap.objs.size,upd c a.heap.objs.size (.tup k),d.laid (t':=a.toks) (λb u e=>cL _ e) (ar _) ?_,U,q _ f⟩;exact ⟨z,j,r,⟨_,jh _ U,U,_,U⟩⟩
theorem iJ (h:PA X C t):PE X (.List C pos) (X1 t):=by intro i s m H Q I g;refine wpAny_List_spliced (ay (h pos i s m H _ I g) λj a l=>?_);obtain ⟨k,c,d,r,z,q⟩:=l;refine ⟨by rw [<-r.length];exact z,?_⟩;have f:c a.heap.objs.size=none:=d.a4.fresh (ar _);refine ⟨.ref a.heap.objs.size,upd c a.heap.objs.size (.lst k),d.laid (t':=a.toks) (λb u e=>cL _ e) (ar _) ?_,U,q _ f⟩;exact ⟨z,j,0,r,jh _ U⟩
end
abbrev Sp:=List V->Hp->VK->XK->Prop
abbrev nh:=List Env->Hp->Shared->XK->Value->Shared->Prop
structure uw (P:Program) (w:World) (K:aY) (mg:Str->Option Value) (base:Heap) (A:Around) (outer:List Env) (s:Shared) (H:Hp):Prop where
 frames:A.frames=some outer
 mod:Mod K mg base
 bs:∀b o,base.get? b=some o->s.heap.get? b=some o/\H b=none
 m8:base.objs.size<=s.heap.objs.size
 eE:s.heap.FunFrames base outer
 mY:∀b∈jd outer,H b=none
 a4:dJ P w H s.heap
 bare:AllBare s.gens
def CE (b:List Env) (P:Program) (w:World) (H:Hp) (s:Shared) (Q:VK) (u:Value) (s':Shared):Prop:=
 ∃v a,s'.os=s.os/\AllBare s'.gens/\Un (jd b) [] H a s.heap s'.heap/\dJ P w a s'.heap/\bz v u/\Q v a
def CR (CX:nh) (a:List Env) (P:Program) (w:World) (H:Hp) (s:Shared) (Q:VK) (E:XK) (r:Result) (s':Shared):Prop:=
 match r with
 | .ok (.ret u)=>CE a P w H s Q u s'
 | .ok _=>False
 | .error e=>CX a H s E e s'
structure af (P:Program) (w:World) (K:aY) (mg:Str->Option Value) (base:Heap) (CX:nh) (k:Nat) (f:Addr) (fd:FuncData) (ps:List Str) (sp:Sp):Prop where
 len:∀vs H Q E,sp vs H Q E->vs.length=ps.length
 run:∀(A:Around) (outer:List Env) (s:Shared) (H:Hp) (args:Args) (us:List Value) (vs:List V) (Q:VK) (E:XK),cA k A->uw P w K mg base A outer s H->BindsTo s fd args (ps.zip us)->aX vs us->sp vs H Q E->
  codeAny (model P w) A (.call (.ref f) args) (CR CX outer P w H s Q E) s
theorem uw.make {A:Around} {a:List Env} {s:Shared} {H:Hp} (e:uw P w K mg base A a s H) (C:Addr) (us:List Value) (b:List (Str×Value)):
 uw P w K mg base (A.under (.builtin "type.__call__" ⟨.ref C::us,b⟩)) a s H:=⟨by first | exact e.frames | (simpa [Around.under,Code.envs,Code.isFrame,pushEnvs] using e.frames),e.mod,e.bs,e.m8,e.eE,e.mY,e.a4,e.bare⟩
section
theorem Inv.rE (I:Inv X pins σ H s):uw X.prog X.w X.K X.mg X.base X.A X.stack s H:=
 ⟨I.ok.frames,I.ok.mod,I.bs,cQ I.ok.m8 I.sz,I.stack,I.iW,I.a4,I.bare⟩
theorem Inv.after {Q:VK} {u:Value} (I:Inv X pins σ H s) (h:CE X.stack X.prog X.w H s Q u s'):EP X pins σ Q u s':=by obtain ⟨v,a,i,c,k,f,r,q⟩:=h;obtain ⟨e,g,d,t,j⟩:=s';obtain rfl:j=s.os:=i;exact ⟨v,a,I.call (h':=e) (g':=g) (d':=d) (t':=t) (ch:=[]) k f c (λb z=>absurd z (by simp)),r,q⟩
end
def P9 (sp:Sp) (b:List V) (E:XK) (t:TA):TE:=λd H Q=>t d H λc a=>sp (c++b) a Q E
def ir (C:Addr) (m:Str) (x:V) (H:Hp) (R:Prop):Prop:=∃a c b,x=.ref a/\H a=some (.ins C c b)/\b.lookup m=none/\R
def FD (C:Addr) (m:Str) (sp:Sp) (d:List V) (E:XK) (e:TE) (t:TA):TE:=λb H Q=>e b H λx a=>ir C m x a (t b a λf c=>sp (x::(f++d)) c Q E)
def Yd (C:Addr) (sp:Sp) (d:List V) (E:XK) (t:TA):TE:=λf H Q=>t f H λe b=>∀x a,b x=none->b a=none->a≠x->
 sp (.ref x::(e++d)) (upd (upd b a (.own x)) x (.ins C a [])) (λv c=>v=.a9/\Q (.ref x) c) E
def cY (K:aY) (d:FuncData) (c:List Str) (b:List Value):Prop:=
 ∀(s:Shared) (a:List Value),K.In s.heap->(a++b).length=c.length->BindsTo s d ⟨a,[]⟩ (c.zip (a++b))
theorem cY.all {b:FuncData} {a:List Str} (h:∀us:List Value,us.length=a.length->bindArgs b ⟨us,[]⟩=pure (a.zip us)):cY K b a []:=λs us _ c=>by rw [rL] at c ⊢;exact .of_eq (h us c)
def pe (CX:nh) (X:Cx) (E:XK):Prop:=∀(b:List (Addr×Obj)) (c:St) (H:Hp) (s:Shared) (e:Value) (a:Shared),Inv X b c H s->CX X.stack H s E e a->X.xe e a
section
theorem DE {b:List (Addr×Obj)} {c:St} {H:Hp} {s:Shared} {Q:VK} {us:List Value} {vs:List V} (F:af X.prog X.w X.K X.mg X.base CX k f fd ps sp) (m:cA k X.A) (i:cY X.K fd ps ds) (j:aX C ds) (n:pe CX X E)
 (I:Inv X b c H s) (r:aX vs us) (h:sp (vs++C) H Q E):wpAny (model X.prog X.w) X.A (call (.ref f) us) (EP X b c Q) X.xe s:=by
 have d:aX (vs++C) (us++ds):=r.append j;have l:(us++ds).length=ps.length:=by rw [<-d.length];exact F.len _ _ _ _ h
 refine tJ (wV (F.run X.A X.stack s H ⟨us,[]⟩ (us++ds) (vs++C) Q E m I.rE (i s us I.de l) d h) λr o a=>?_)
 cases r with
 | error e=>exact n b c H s e o I a
 | ok g=>
  cases g with
  | ret u=>exact I.after a
  | next=>exact gX a
  | brk=>exact gX a
  | cont=>exact gX a
theorem vU (F:af X.prog X.w X.K X.mg X.base CX k f fd ps sp) (o:cA k X.A) (j:Gl X x) (m:X.mg x=some (.ref f)) (l:PySem.W.keepIn X.K (.ref f)=true) (c:cY X.K fd ps ds) (d:aX J ds) (u:pe CX X E)
 (b:PA X (e::C) t) (g:(x==("__debug__":Str))=false:=by decide) (i:starEach (e::C) X.env=(false,eval e X.env)::starEach C X.env:=by rfl) (n:(backTo pos (starEach C X.env)).any (·.1)=false:=by rfl):
 PE X (.Call (.Name x p) (e::C) [] pos) (P9 sp J E t):=by
 intro v s z H Q I h;refine xc (vR I j m ?_ g);refine Av (h₀:=X.base) I.ok.mod.uX l (ay (b pos v s z H _ I h) λD B y=>L2.eF y λG A a r q=>⟨a.de,?_⟩) i n;exact DE F o c d u a r q
theorem iU {pl:Sem Bool} (D:PE X o ta) (c:lU X.K C) (i:gc X.K C m f) (F:af X.prog X.w X.K X.mg X.base CX k f fd ps sp) (L:cA k X.A) (A:cY X.K fd ps ds) (B:aX JI ds) (O:pe CX X E) (z:PA X (e::J) t)
 (M:starEach (e::J) X.env=(false,eval e X.env)::starEach J X.env:=by rfl) (G:(backTo pos (starEach J X.env)).any (·.1)=false:=by rfl)
 (N:eval (.Call (.Attribute o m apos) (e::J) [] pos) X.env=(do
  let j <-eval o X.env
  standAt apos.atName
  let (f,first) <-holding [j] (getMethod j m pl)
  callWith pos f first (backTo pos (starEach (e::J) X.env)) (backToKw pos (keywordEach [] X.env))):=by rfl):
 PE X (.Call (.Attribute o m apos) (e::J) [] pos) (FD C m sp JI E ta t):=by
 intro n s p H Q I h;refine PySem.W.methodCall_KW (pl:=pl) (ay (D n s p H _ I h) λu T b=>?_) N;obtain ⟨x1,v,d,S,a,W,fs,y,x,l,q⟩:=b;subst y;obtain rfl:u=Value.ref a:=S;refine NO d x c i l ?_;refine Av (first:=[.ref a]) (h₀:=X.base) I.ok.mod.uX i.kp (ay (z pos n T p v _ d q) λus s2 b=>L2.eF b λvs V g r R=>⟨g.de,?_⟩) M G;exact DE (us:=.ref a::us) (vs:=.ref a::vs) F L A B O g (.cons U r) R
theorem pB {pl:Sem Bool} (p:PE X o ta) (c:lU X.K C) (d:gc X.K C m f) (F:af X.prog X.w X.K X.mg X.base CX k f fd ps sp) (r:cA k X.A) (j:cY X.K fd ps ds) (n:aX J ds) (v:pe CX X E)
 (t:eval (.Call (.Attribute o m apos) [] [] pos) X.env=(do
  let e <-eval o X.env
  standAt apos.atName
  let (f,first) <-holding [e] (getMethod e m pl)
  callWith pos f first (backTo pos (starEach [] X.env)) (backToKw pos (keywordEach [] X.env))):=by rfl):
 PE X (.Call (.Attribute o m apos) [] [] pos) (FD C m sp J E ta oZ):=by
 intro y s B H Q I h;refine PySem.W.methodCall_KW (pl:=pl) (ay (p y s B H _ I h) λu M A=>?_) t;obtain ⟨x,D,b,z,a,G,L,i,g,l,q⟩:=A;subst i;obtain rfl:u=Value.ref a:=z;refine NO b g c d l ?_;exact PySem.W.callWith_K0 (first:=[.ref a]) b.de d.kp (DE (us:=[.ref a]) (vs:=[.ref a]) F r j n v b (.cons rfl .nil) q)
structure Mk (K:aY) (C f:Addr):Prop where
 makes:PySem.W.makesIn K C=true
 init:PySem.W.findIn K (.ref C) "__init__"=some (some (.ref f))
 fn:PySem.W.isFn K (.ref f)=true
 kp:PySem.W.keepIn K (.ref C)=true
theorem Th {c:List (Addr×Obj)} {d:St} {H:Hp} {s:Shared} {Q:VK} {us:List Value} {vs:List V} (M:Mk X.K C f) (F:af X.prog X.w X.K X.mg X.base CX k f fd ps sp) (y:cA (k+1) X.A) (p:cY X.K fd ps ds) (q:aX J ds)
 (z:pe CX X E) (I:Inv X c d H s) (r:aX vs us)
 (h:∀x dx,H x=none->H dx=none->dx≠x->sp (.ref x::(vs++J)) (upd (upd H dx (.own x)) x (.ins C dx [])) (λv l=>v=.a9/\Q (.ref x) l) E):
 wpAny (model X.prog X.w) X.A (call (.ref C) us) (EP X c d Q) X.xe s:=by
 have g:=h (s.heap.objs.size+1) s.heap.objs.size (I.a4.fresh (kg _)) (I.a4.fresh (ar _)) (fy (Ad _));have b:=Inv.made (C:=C) I;have i:aX (V.ref (s.heap.objs.size+1)::(vs++J)) (Value.ref (s.heap.objs.size+1)::(us++ds)):=.cons U (r.append q);have t:(Value.ref (s.heap.objs.size+1)::us++ds).length=ps.length:=by have e:=i.length;rw [F.len _ _ _ _ g] at e;exact e.symm
 refine tJ (SD (f:=f) I.de M.makes M.init (beq_iff_eq.mp M.fn) (wV (F.run _ X.stack _ _ ⟨Value.ref (s.heap.objs.size+1)::us,[]⟩ (Value.ref (s.heap.objs.size+1)::(us++ds)) _ _ E (y.make C us [])
  (b.rE.make C us []) (p _ (Value.ref (s.heap.objs.size+1)::us) b.de t) i g) λr D a=>?_))
 cases r with
 | error e=>exact z c d _ _ e D b a
 | ok o=>
  cases o with
  | ret u=>
   obtain ⟨v,j,m,B,n,A⟩:=b.after a;subst n;exact ⟨B,⟨V.ref (s.heap.objs.size+1),j,m,U,A⟩⟩
  | next=>exact gX a
  | brk=>exact gX a
  | cont=>exact gX a
theorem DJ (M:Mk X.K C f) (F:af X.prog X.w X.K X.mg X.base CX k f fd ps sp) (n:cA (k+1) X.A) (j:Gl X x) (l:X.mg x=some (.ref C)) (c:cY X.K fd ps ds) (d:aX JI ds) (o:pe CX X E)
 (b:PA X (e::J) t) (g:(x==("__debug__":Str))=false:=by decide) (i:starEach (e::J) X.env=(false,eval e X.env)::starEach J X.env:=by rfl) (m:(backTo pos (starEach J X.env)).any (·.1)=false:=by rfl):
 PE X (.Call (.Name x p) (e::J) [] pos) (Yd C sp JI E t):=by
 intro u s y H Q I h;refine xc (vR I j l ?_ g);refine Av (h₀:=X.base) I.ok.mod.uX M.kp (ay (b pos u s y H _ I h) λB A v=>L2.eF v λD z a r q=>⟨a.de,?_⟩) i m;exact Th M F n c d o a r q
end
section
end
structure cb (N P:List Str) (sc:Scope):Prop where
 kind:sc.kind=.function
 co:sc.isCoroutine=false
 gen:sc.isGenerator=false
 nd:N.Nodup
 pre:N.take P.length=P
 par:∀x∈P,sc.names.lookup x=some .local\/sc.names.lookup x=some .cell
 uR:∀y∈sc.names,y.2≠.free
theorem c9 {N P:List Str} {sc:Scope} (a:sc.kind=.function:=by rfl) (b:sc.isCoroutine=false:=by rfl) (c:sc.isGenerator=false:=by rfl) (d:N.Nodup:=by decide+kernel) (e:N.take P.length=P:=by rfl) (f:∀x∈P,sc.names.lookup x=some .local\/sc.names.lookup x=some .cell:=by decide+kernel) (g:∀y∈sc.names,y.2≠.free:=by decide+kernel):cb N P sc:=⟨a,b,c,d,e,f,g⟩
theorem MO {c:Str->Option NameKind} {x:Str}:∀{a:List (Str×Value)} {m:Str->Option Value},(∀v,(x,v)∉a)->bindL c a m x=m x
 | [],_,_=>rfl
 | (n,v)::r,m,h=>by
  unfold bindL;rw [MO λw b=>h w (gI _ b)];split
  ·have:x≠n:=by rintro rfl;exact h v fh
   simp [this]
  ·rfl
theorem MM {c:Str->Option NameKind} {x:Str}:∀{a:List (Str×Value)} {m:Str->Option Value},(∀v,(x,v)∉a)->bindC c a m x=m x
 | [],_,_=>rfl
 | (n,v)::r,m,h=>by
  unfold bindC;rw [MM λw b=>h w (gI _ b)];split
  ·rfl
  ·have:x≠n:=by rintro rfl;exact h v fh
   simp [this]
theorem MN {c:Str->Option NameKind} {x:Str} {v:Value}:∀{P:List Str} {vs:List Value} {i:Nat} {m:Str->Option Value},P.Nodup->P[i]?=some x->vs[i]?=some v->c x=some .local->
 bindL c (P.zip vs) m x=some v
 | [],_,_,_,_,h,_,_=>by simp at h
 | _::_,[],_,_,_,_,h,_=>by simp at h
 | p::P,w::vs,0,m,e,a,b,d=>by simp at a b;subst a;subst b;show bindL c ((p,w)::P.zip vs) m p=_;unfold bindL;rw [MO λv f=>(List.nodup_cons.mp e).1 (JW f).1,if_pos d];simp
 | p::P,w::vs,i+1,m,e,a,b,d=>by show bindL c ((p,w)::P.zip vs) m x=_;unfold bindL;exact MN (i:=i) (List.nodup_cons.mp e).2 (by simpa using a) (by simpa using b) d
theorem ML {c:Str->Option NameKind} {x:Str} {v:Value}:∀{P:List Str} {vs:List Value} {i:Nat} {m:Str->Option Value},P.Nodup->P[i]?=some x->vs[i]?=some v->c x≠some .local->
 bindC c (P.zip vs) m x=some v
 | [],_,_,_,_,h,_,_=>by simp at h
 | _::_,[],_,_,_,_,h,_=>by simp at h
 | p::P,w::vs,0,m,e,a,b,d=>by simp at a b;subst a;subst b;show bindC c ((p,w)::P.zip vs) m p=_;unfold bindC;rw [MM λv f=>(List.nodup_cons.mp e).1 (JW f).1,if_neg d];simp
 | p::P,w::vs,i+1,m,e,a,b,d=>by show bindC c ((p,w)::P.zip vs) m x=_;unfold bindC;exact ML (i:=i) (List.nodup_cons.mp e).2 (by simpa using a) (by simpa using b) d
def i8 (N:List Str) (vs:List V):St:=vs.map some++List.replicate (N.length-vs.length) none
def lh (CX:nh) (P:Program) (w:World) (K:aY) (mg:Str->Option Value) (base:Heap) (N:List Str) (b:Str) (scope:Scope) (f:Addr) (a:Value) (A:Around) (outer:List Env) (s:Shared) (H:Hp) (E:XK):Cx where
 prog:=P
 w:=w
 K:=K
 mg:=mg
 base:=base
 A:=A.deeper (envOfC b scope s.heap.objs.size f a)
 N:=N
 bQ:=s
 gx:=H
 env:=envOfC b scope s.heap.objs.size f a
 outer:=outer
 stack:=envOfC b scope s.heap.objs.size f a::outer
 ex:=[]
 calm:=true
 fn:=λ_=>true
 pn:=[]
 xe:=λe g=>wpAny (model P w) (A.deeper (envOfC b scope s.heap.objs.size f a)) (leaving (envOfC b scope s.heap.objs.size f a) e) (λ_ c=>CX outer H s E e c) (λd c=>CX outer H s E d c) g
theorem LJ {a:Scope} {n:Nat} {x:Str} (h:a.names.lookup x=some .cell):∃c,(cellsFrom n a.names []).lookup x=some c:=by have q:=PySem.W.cellsFrom_some a.names n [] (.inl h);exact Option.isSome_iff_exists.mp q
theorem UZ {CX:nh} {N l:List Str} {C:Str} {scope:Scope} {f:Addr} {t:Value} {A:Around} {F:List Env} {s s1:Shared} {H:Hp} {E:XK} {us:List Value} {vs:List V}
 (S:cb N l scope) (O:A.handled=none) (g:uw P w K mg base A F s H) (I:vs.length=l.length) (r:aX vs us)
 (x:InCallC s s.heap.objs.size (bindL (envOfC C scope s.heap.objs.size f t).kindOf (l.zip us) λ_=>none) (cellsFrom (s.heap.objs.size+1) scope.names []) (bindC (envOfC C scope s.heap.objs.size f t).kindOf (l.zip us) λ_=>none) s1):
 Inv (lh CX P w K mg base N C scope f t A F s H E) [] (i8 N vs) H s1:=by
 have Q:l.length<=N.length:=by have:=congrArg List.length S.pre;rw [iC] at this;exact UX this
 obtain ⟨B,W,rfl,G⟩:=x.done;have D:∀b:Addr,b∉(lh CX P w K mg base N C scope f t A F s H E).ex:=λb z=>absurd (show b∈([]:List Addr) from z) (by simp);refine ⟨⟨g.mod,S.kind,U,U,ar _,λy z c B d=>?_,λy j=>?_,λy c _ h=>?_,λ_=>O,Around.frames_deeper g.frames,.inr ⟨U,U⟩,λb z=>absurd z (D b),g.bs,g.m8,λb _ _=>D b,λb z=>absurd z (D b),g.eE,g.mY⟩,
  rfl,g.bare,Un.kept G,⟨_,x.toInCall.ns,λi y v B d T=>?_⟩,λy c h=>⟨_,x.cell y c h⟩,g.a4.fresh (ar _),λy c h=>?_,λp o=>absurd (show p∈([]:List (Addr×Obj)) from o) (by simp),g.a4.kept G,?_⟩
 ·exact name_of_addr x.apart (xj B) (xj d)
 ·have j:scope.names.lookup y=some .cell\/scope.names.lookup y=some .free:=j;rcases j with j | j
  ·exact LJ j
  ·exact absurd U (S.uR _ (xj j))
 ·exact aR (x.above y c (xj h))
 ·have m:i<vs.length:=by
   unfold i8 at d
   by_cases m:i<vs.length
   ·exact m
   ·rw [iD (by simpa using m)] at d;rw [RW] at d;split at d<;>cases d
  have M:vs[i]?=some v:=by
   unfold i8 at d;rw [ic (by simpa using m),cW] at d
   cases e:vs[i]? with
   | none=>rw [e] at d;cases d
   | some a=>rw [e] at d;cases d;rfl
  obtain ⟨u,J,R⟩:=r.get M;have o:l[i]?=some y:=by rw [<-S.pre,CV (UR m I)];exact B
  have L:l.Nodup:=by rw [<-S.pre];exact S.nd.sublist (List.take_sublist _ _)
  refine ⟨u,R,?_⟩;rcases S.par y (fY o) with k | k
  ·exact .inl ⟨k,MN L o J k⟩
  ·obtain ⟨c,e⟩:=LJ (n:=s.heap.objs.size+1) k;refine .inr ⟨.inl k,c,e,?_⟩;have q:=x.cell y c e;rw [ML L o J (by show scope.names.lookup y≠_;rw [k];decide)] at q;exact q
 ·exact g.a4.fresh (aR (x.above y c (xj h)))
 ·unfold i8;show _=N.length;rw [dw,ak,List.length_replicate];exact US I Q
theorem Pp {CX:nh} {k:Nat} {f:Addr} {name d:Str} {O:Arguments} {m:List Stmt} {scope:Scope} {C L D R c B oc:Value} {z od:Option Addr}
 {Hb:Array (Option Value)} {N j:List Str} {sp:Sp} (lk:K.lookup f=some ⟨oc,od,.func (PySem.W.fnOf name d O m scope C L D R z c B),Hb⟩) (Y:PySem.W.codeIn K c d=true) (S:cb N j scope)
 (M:∀vs H Q E,sp vs H Q E->vs.length=j.length)
 (X:∀(A:Around) (h:List Env) (s:Shared) (H:Hp) (vs:List V) (Q:VK) (E:XK),cA k (A.deeper (envOfC d scope s.heap.objs.size f c))->sp vs H Q E->
  ∃t,f7 (lh CX P w K mg base N d scope f c A h s H E) m t/\t { nx:=λ_ a=>Q .a9 a,rt:=Q } (i8 N vs) H):
 af P w K mg base CX (k+1) f (PySem.W.fnOf name d O m scope C L D R z c B) j sp:=by
 refine ⟨M,λA h s H args us vs Q E n i W x2 G=>?_⟩;have hl:=M _ _ _ _ G;have r:K.In s.heap:=i.mod.uX.keeps λb o e=>(i.bs b o e).1;have lim:s.heap.NoLimit:=i.mod.nolimit.keeps λb o e=>(i.bs b o e).1;have zj:∀y∈j.zip us,scope.names.lookup y.1=some .local\/(scope.names.lookup y.1=some .cell/\((cellsFrom (s.heap.objs.size+1) scope.names []).lookup y.1).isSome=true):=λ⟨x1,v⟩ hy=>by
  rcases S.par x1 (JW hy).1 with q | q
  ·exact .inl q
  ·exact .inr ⟨q,PySem.W.cellsFrom_some _ _ _ (.inl q)⟩
 refine codeAny_call_function n.depth (r _ _ lk) U S.co S.gen U (PySem.W.codeRec_of r Y) (W _ _ _ _ ?_);refine wpAny_newFunctionEnv_cells S.kind zj λenv Z s1 x=>?_;subst Z;refine ⟨lim.keeps x.toInCall.keep,codeAny_func ?_⟩;obtain ⟨t,ht,hq⟩:=X A h s H vs Q E (n.deeper _) G;have I:Inv (lh CX P w K mg base N d scope f c A h s H E) [] (i8 N vs) H s1:=UZ S n.hd i hl x2 x;refine gY (ht [] s1 (i8 N vs) H _ I hq) (λT s' g=>?_) λe s' g=>g;have F:∀{l:St} {a:Hp} {v:V} {u:Value},Inv (lh CX P w K mg base N d scope f c A h s H E) [] l a s'->bz v u->Q v a->CE h P w H s Q u s':=
  λ{l a v u} J p q=>⟨v,a,J.os,J.bare,J.base,J.a4,p,q⟩
 cases T with
 | ret u=>
  obtain ⟨v,l,a,J,p,q⟩:=g;exact F J p q
 | next=>
  obtain ⟨l,a,J,q⟩:=g;exact F (v:=V.a9) (u:=Value.none) J U q
 | brk=>
  obtain ⟨_,_,_,q⟩:=g;exact gX q
 | cont=>
  obtain ⟨_,_,_,q⟩:=g;exact gX q
section
variable {id T:String}
def PY (r:List V->Hp->VK->Prop) (t:TA):TE:=λc H Q=>t c H λb a=>r b a Q
theorem iB (g:nv X (.builtin id) r) (k:Gl X x) (l:X.mg x=none) (o:bootBuiltins x=some (.builtin id)) (f:PA X (e::C) t) (m:x≠"__name__":=by decide) (i:(x==("__debug__":Str))=false:=by decide)
 (j:starEach (e::C) X.env=(false,eval e X.env)::starEach C X.env:=by rfl) (n:(backTo pos (starEach C X.env)).any (·.1)=false:=by rfl):PE X (.Call (.Name x p) (e::C) [] pos) (PY r t):=by
 intro a s b H Q I h;refine xc (r_ I k l o ?_ m i);exact RQ (ay (f pos a s b H _ I h) λy v A=>L2.eF A λz c d u q=>g a v b c z y Q d u q) j n
theorem qB (g:nv X (.type T) r) (k:Gl X x) (l:X.mg x=none) (o:bootBuiltins x=some (.type T)) (f:PA X (e::C) t) (m:x≠"__name__":=by decide) (i:(x==("__debug__":Str))=false:=by decide)
 (j:starEach (e::C) X.env=(false,eval e X.env)::starEach C X.env:=by rfl) (n:(backTo pos (starEach C X.env)).any (·.1)=false:=by rfl):PE X (.Call (.Name x p) (e::C) [] pos) (PY r t):=by
 intro a s b H Q I h;refine xc (r_ I k l o ?_ m i);exact xg (ay (f pos a s b H _ I h) λy v A=>L2.eF A λz c d u q=>g a v b c z y Q d u q) j n
end
end L2
namespace HT
open PySem PyProof.Rows
section
open PySem.SeqAt
open PySem.AutoSeq1 (wpAny_loadPart')
open PySem.MeetsSeq PySem.MeetsSeq2 PySem.MeetsSeq3
end
section
def bR (n d:Nat):Option Int->Nat
 | none=>d
 | some v=>if v<0 then (v+(n:Int)).toNat else min v.toNat n
theorem eo (n d:Nat):bR n d none=d:=U
theorem dC (n d k:Nat):bR n d (some (k:Int))=min k n:=by show (if (k:Int)<0 then ((k:Int)+(n:Int)).toNat else min (k:Int).toNat n)=min k n;rw [if_neg UU,gG]
theorem Y6 (n d:Nat) (b:d<=n) (o:Option Int):bR n d o<=n:=by
 cases o with
 | none=>exact b
 | some v=>
  show (if v<0 then (v+(n:Int)).toNat else min v.toNat n)<=n
  by_cases a:v<0
  ·rw [if_pos a];omega
  ·rw [if_neg a];exact Nat.min_le_right _ _
theorem K' (v:Int) (n d:Nat):(if v<0 then max (v+(n:Int)) 0 else min v (n:Int))=((bR n d (some v):Nat):Int):=by
 show (if v<0 then max (v+(n:Int)) 0 else min v (n:Int))=(((if v<0 then (v+(n:Int)).toNat else min v.toNat n):Nat):Int)
 by_cases a:v<0
 ·simp only [if_pos a];omega
 ·simp only [if_neg a];omega
theorem Vx (b a:Option Int) (n:Nat):Builtin.Slice.sliceAdjust b a 1 (n:Int)=(((bR n 0 b:Nat):Int),((bR n n a:Nat):Int)):=by
 have c:¬((1:Int)<0):=by omega
 unfold Builtin.Slice.sliceAdjust;simp only [c,if_false];refine Prod.ext ?_ ?_
 ·cases b with
  | none=>rfl
  | some v=>exact K' v n 0
 ·cases a with
  | none=>rfl
  | some v=>exact K' v n n
theorem V7 (i j:Nat):Builtin.Slice.slicePlaces (i:Int) (j:Int) 1=j-i:=by
 unfold Builtin.Slice.slicePlaces;have a:(1:Int)>0:=by omega
 simp only [a,if_true,Int.ediv_one];split<;>omega
theorem NR {v:Value} {o:Option Int} {Q:Option Int->Shared->Prop} (p:IsPart v o) (h:Q o s):wpAny (model prog w) A (Builtin.Slice.slicePartIndex v) Q E s:=by
 cases p with
 | none=>exact slicePart_none h
 | int i t=>exact slicePart_int h
theorem Wx {g:Addr} {e f:Value} {a b:Option Int} {n:Nat} {Q:Int×Int×Nat->Shared->Prop} (i:s.heap.IsSliceOf g e f .none) (pl:IsPart e a) (j:IsPart f b)
 (h:Q (((bR n 0 a:Nat):Int),1,bR n n b-bR n 0 a) s):wpAny (model prog w) A (Builtin.Slice.sliceApplied (.ref g) (pure (n:Int))) Q E s:=by
 obtain ⟨l,d,k,c⟩:=id i;unfold Builtin.Slice.sliceApplied Builtin.Slice.sliceFields;refine ae (ae (jO d c (x:=e) U (ae (jO d c (x:=f) U (ae (jO d c (x:=.none) U (aI ?_)))))));refine ae (slicePart_none ?_);show wpAny _ _ (if ((1:Int)==0)=true then _ else _) _ _ s;rw [if_neg (by decide)];refine ae (NR pl (ae (NR j (ae (aI ?_)))));show wpAny _ _ (match Builtin.Slice.sliceAdjust a b 1 (n:Int) with | (a,b)=>pure (a,(1:Int),Builtin.Slice.slicePlaces a b 1)) _ _ s;rw [Vx a b n];show wpAny _ _ (pure (((bR n 0 a:Nat):Int),(1:Int),Builtin.Slice.slicePlaces ((bR n 0 a:Nat):Int) ((bR n n b:Nat):Int) 1)) _ _ s;rw [V7];exact aI h
theorem SV (xs:Array Value) (i k:Nat):((List.range k).filterMap λ(m:Nat)=>xs[((i:Int)+(m:Int)*1).toNat]?).toArray=((xs.toList.drop i).take k).toArray:=by
 have e:(λ(m:Nat)=>xs[((i:Int)+(m:Int)*1).toNat]?)=λm=>xs[i+m]?:=by
  funext m
  have:((i:Int)+(m:Int)*1).toNat=i+m:=by omega
  rw [this]
 rw [e];have:=pick_run xs i k;rw [List.filterMap_map] at this;have a:((λx=>xs[x]?) ∘ λx=>i+x)=λm=>xs[i+m]?:=U;rw [a] at this;rw [this]
theorem fX {t f:Addr} {a:Array Value} {i j:Value} {b c:Option Int} {Q:Value->Shared->Prop} (d:IsTup s.heap t a) (g:s.heap.IsSliceOf f i j .none) (pl:IsPart i b) (r:IsPart j c)
 (hw:¬(bR a.size 0 b=0/\bR a.size a.size c=a.size))
 (h:Q (.ref s.heap.objs.size) { s with heap:=s.heap.push { cls:=.type "tuple",data:=.seq ((a.toList.drop (bR a.size 0 b)).take (bR a.size a.size c-bR a.size 0 b)).toArray } })
 (hsz:a.size<=sizeLine):wpAny (model prog w) A (getItem (.ref t) (.ref f)) Q E s:=by
 have e:sizeOk (.seq ((a.toList.drop (bR a.size 0 b)).take (bR a.size a.size c-bR a.size 0 b)).toArray):=by show ((a.toList.drop (bR a.size 0 b)).take (bR a.size a.size c-bR a.size 0 b)).toArray.size<=sizeLine;rw [dW,iC,Ay,oS];omega
 have v:bR a.size a.size c<=a.size:=Y6 _ _ (ar _) c;obtain ⟨p,o,l,u⟩:=id g;have k:s.TypeIs (.ref f) "slice":=⟨p,o,l⟩;unfold getItem
 try with_reducible refine lS ?_
 first | refine ae (aI ?_) | skip
 refine ae (wpAny_sequenceKey d.typeIs (by decide) ?_);refine ae (xf (name:=Str.ofString "__getitem__") d.typeIs JX
  (tI JX d.typeIs entry_tuple_getitem ?_ (args_tuple_getitem _ _)))
 show wpAny _ _ (Builtin.Tuple.tupleItemsOf (.ref t)>>=_) _ _ s;refine ae (tupleItemsOf_ d ?_);refine ae (C7 k ?_);rw [if_pos (by decide)];refine ae (Wx g pl r ?_);have n:¬((((bR a.size 0 b:Nat):Int)==0 && (1:Int)==1 && (bR a.size a.size c-bR a.size 0 b)==a.size)=true):=by intro q;rw [pS,pS] at q;have x:((bR a.size 0 b:Nat):Int)=0:=eq_of_beq q.1.1;have y:bR a.size a.size c-bR a.size 0 b=a.size:=eq_of_beq q.2;exact hw ⟨by omega,by omega⟩
 show wpAny _ _ (if (((bR a.size 0 b:Nat):Int)==0 && (1:Int)==1 && (bR a.size a.size c-bR a.size 0 b)==a.size)=true then _ else _) _ _ s;rw [if_neg n,SV]
 first
  | exact ae (m:=Builtin.Tuple.tupleExact _) (pU (aI ⟨_,rfl,aI h⟩) e)
  | exact ae (m:=Builtin.Tuple.tupleExact _) (pU (ae (aI (aI ⟨_,rfl,aI h⟩))) e)
  | exact ae (ae (m:=Builtin.Tuple.tupleExact _) (pU (aI (aI ⟨_,rfl,aI h⟩)) e))
  | exact ae (ae (m:=Builtin.Tuple.tupleExact _) (pU (aI ⟨_,rfl,aI h⟩) e))
end
end HT
open HT (bR eo dC)
namespace L2
open PySem PySem.Spec PyProof.Rows
abbrev TO:=St->Hp->(Option Int->Hp->Prop)->Prop
def PO (X:Cx) (e:Option Expr) (t:TO):Prop:=
 ∀(c:List (Addr×Obj)) (s:Shared) (a:St) (H:Hp) (Q:Option Int->Hp->Prop),Inv X c a H s->t a H Q->
  wpAny (model X.prog X.w) X.A (evalPart e X.env) (λu d=>∃o b,Inv X c a b d/\IsPart u o/\Q o b) X.xe s
def Z5:TO:=λ_ H Q=>Q none H
def Yf (t:TE):TO:=λb H Q=>t b H λx a=>∃i,x=.int i/\Q (some i) a
section
variable {lo hi:Option Expr}
theorem qt:PO X none Z5:=by intro a s b H Q I h;rw [evalPart_none];exact aI ⟨none,H,I,.none,h⟩
theorem qu (h:PE X e C):PO X (some e) (Yf C):=by intro d s k H Q I c;rw [evalPart_some];refine ay (h d s k H _ I c) λu l j=>?_;obtain ⟨x,a,b,g,f⟩:=j;obtain ⟨i,rfl,q⟩:=f;obtain ⟨t,rfl⟩:=g;exact ⟨some i,a,b,.int i t,q⟩
def C_ (X:Cx) (r:V->Option Int->Option Int->Hp->VK->Prop):Prop:=
 ∀(a:List (Addr×Obj)) (s:Shared) (e:St) (H:Hp) (x:V) (v c d:Value) (lo hi:Option Int) (b:Addr) (Q:VK),Inv X a e H s->bz x v->s.heap.IsSliceOf b c d .none->IsPart c lo->IsPart d hi->r x lo hi H Q->
  ∃T id,typeLookup (.type T) "__getitem__"=pure (some (.builtin id))/\s.TypeIs v T/\wpAny (model X.prog X.w) X.A (getItem v (.ref b)) (EP X a e Q) X.xe s
def Z_ (r:V->Option Int->Option Int->Hp->VK->Prop) (e:TE) (tl f:TO):TE:=λa H Q=>e a H λx b=>tl a b λl c=>f a c λu d=>r x l u d Q
theorem qx {r:V->Option Int->Option Int->Hp->VK->Prop} (C:C_ X r) (z:PE X e te) (B:PO X lo tl) (E:PO X hi th):PE X (.Subscript e (.Slice lo hi none J) pos) (Z_ r te tl th):=by intro c s d H Q I h;refine Subscript_ (ay (z c s d H _ I h) λv R f=>?_);obtain ⟨x,k,n,O,L⟩:=f;refine wpAny_Slice (ay (B c R d k _ n L) λg S f=>L2.eF f λl m o F M=>ay (E c S d m _ o M) λi a f=>?_);obtain ⟨u,j,p,G,N⟩:=f;rw [evalPart_none];refine aI ?_;have t:Inv X c d j { a with heap:=a.heap.push { cls:=.type "slice",data:=.fields #[g,i,.none] } }:=p.kept (t':=a.toks) λb W q=>cL _ q;obtain ⟨T,id,y,D,A⟩:=C c { a with heap:=a.heap.push { cls:=.type "slice",data:=.fields #[g,i,.none] } } d j x v g i l u a.heap.objs.size Q t O (Heap.IsSliceOf.new ..) F G N;show wpAny (model X.prog X.w) X.A (subscriptTail e (.Slice lo hi none J) v (.ref a.heap.objs.size)) (EP X c d Q) X.xe { a with heap:=a.heap.push { cls:=.type "slice",data:=.fields #[g,i,.none] } };exact tail_any (ops:=[.ref a.heap.objs.size,v]) D y A (by with_unfolding_all rfl)
def iR (xs:List V) (lo hi:Option Int):List V:=(xs.drop (bR xs.length 0 lo)).take (bR xs.length xs.length hi-bR xs.length 0 lo)
theorem OD (xs:List V) (lo hi:Option Int):(iR xs lo hi).length<=xs.length:=by unfold iR;rw [iC,Ay];omega
def Xe (K:aY):V->Option Int->Option Int->Hp->VK->Prop:=λx lo hi H Q=>∃a b,x=.ref a/\cK K H a b/\
 ¬(bR b.length 0 lo=0/\bR b.length b.length hi=b.length)/\∀p,H p=none->Q (.ref p) (upd H p (.tup (iR b lo hi)))
theorem AK:C_ X (Xe X.K):=by
 intro t s A H x v y z lo hi u Q I n g l m h;obtain ⟨a,c,rfl,j,i,q⟩:=h;cases n;obtain ⟨k,r,e,f⟩:=I.tuple j;have d:k.toArray.size=c.length:=by rw [dW];exact r.length.symm
 refine ⟨"tuple",_,JX.lookup,e.typeIs,?_⟩;refine HT.fX e g l m (by rw [d];exact i) ?_ (by rw [d];exact f);rw [d];refine ⟨.ref s.heap.objs.size,_,I.laid (t':=s.toks) (o:=.tup (iR c lo hi)) (λb p q=>cL _ q) (ar _) ?_,U,q _ (I.a4.fresh (ar _))⟩;exact ⟨cQ (OD c lo hi) f,_,(r.drop (bR c.length 0 lo)).take (bR c.length c.length hi-bR c.length 0 lo),IsTup.new _ _⟩
end
def mV (n:Nat) (i:Int):Option Nat:=if 0<=i then (if i<n then some i.toNat else none) else if-(n:Int)<=i then some (i+n).toNat else none
def gP {α:Type} (xs:List α) (i:Int):Option α:=(mV xs.length i).bind λj=>xs[j]?
theorem Lf {n:Nat} {i:Int} {j:Nat} (h:mV n i=some j):seqIndex? i n=some j/\j<n/\-(n:Int)<=i/\i<n:=by
 unfold mV at h
 by_cases b:0<=i
 ·rw [if_pos b] at h
  by_cases a:i<n
  ·rw [if_pos a] at h;have e:i.toNat=j:=ff h;exact ⟨by rw [seqIndex_of b a,e],by omega,by omega,a⟩
  ·rw [if_neg a] at h;cases h
 ·rw [if_neg b] at h
  by_cases a: -(n:Int)<=i
  ·rw [if_pos a] at h;have e:(i+n).toNat=j:=ff h;exact ⟨by rw [seqIndex_neg (wh b) a,e],by omega,a,by omega⟩
  ·rw [if_neg a] at h;cases h
theorem KR {a:Type} {xs:List a} {i:Int} {v:a} (h:gP xs i=some v):∃j,seqIndex? i xs.length=some j/\xs[j]?=some v/\j<xs.length/\-(xs.length:Int)<=i/\i<xs.length:=by
 unfold gP at h
 cases e:mV xs.length i with
 | none=>rw [e] at h;cases h
 | some j=>
  rw [e] at h;obtain ⟨b,c,d,f⟩:=Lf e;exact ⟨j,b,h,c,d,f⟩
theorem iH {a:Type} {xs:List a} {j:Nat} {v:a} (h:xs[j]?=some v):gP xs (j:Int)=some v:=by
 have b:j<xs.length:=(cO.mp h).1;have e:mV xs.length (j:Int)=some j:=by unfold mV;rw [if_pos (by omega),if_pos (yj b)];simp
 unfold gP;rw [e];exact h
theorem SM {a:Type} (xs:List a) (v:a):gP (xs++[v]) (-1)=some v:=by
 have b:(xs++[v]).length=xs.length+1:=by simp
 have e:mV (xs++[v]).length (-1)=some xs.length:=by unfold mV;rw [b,if_neg (by decide),if_pos (by omega)];congr 1;omega
 unfold gP;rw [e];show (xs++[v])[xs.length]?=some v;simp
def Zm (b:Expr):Prop:=∀o i,subscripted b false o i=operate [o,i] (getItem o i)
def vB (X:Cx) (r:R2):Prop:=
 ∀(d b:Expr) (a:List (Addr×Obj)) (s:Shared) (c:St) (H:Hp) (x y:V) (v u:Value) (Q:VK),Inv X a c H s->bz x v->bz y u->r x y H Q->
  subscripted b false v u=operate [v,u] (getItem v u)->wpAny (model X.prog X.w) X.A (subscriptTail d b v u) (EP X a c Q) X.xe s
def Se (X:Cx) (id:String) (r:V->List V->Hp->VK->Prop):Prop:=
 ∀(a:List (Addr×Obj)) (s:Shared) (d:St) (H:Hp) (x:V) (c:List V) (v:Value) (b:List Value) (Q:VK),Inv X a d H s->bz x v->aX c b->r x c H Q->
  wpAny (model X.prog X.w) X.A (call (.builtin id) (v::b)) (EP X a d Q) X.xe s
section
theorem cu {r:R2} (g:vB X r) (e:PE X a C) (f:PE X b J) (i:Zm b:=by exact λ_ _=>rfl):PE X (.Subscript a b pos) (uC r C J):=by intro j s n H Q I h;exact Subscript_ (Fo e f I h λv u m x y c d k l q=>g a b j m n c x y v u Q d k l q (i _ _))
def Pe (K:aY):R2:=λx y H Q=>∃p a i v,x=.ref p/\y=.int i/\ai K H p a/\gP a i=some v/\Q v H
def Pf (K:aY):R2:=λx y H Q=>∃p a i v,x=.ref p/\y=.int i/\cK K H p a/\gP a i=some v/\Q v H
theorem ua:vB X (Pe X.K):=by
 intro R O k s l H x y v u Q I F G h g;obtain ⟨p,S,i,z,rfl,rfl,C,A,q⟩:=h;cases F;obtain ⟨t,rfl⟩:=G;obtain ⟨D,r,d,N⟩:=I.list C;obtain ⟨j,b,m,L,n,o⟩:=KR A;obtain ⟨w,e,E⟩:=r.get m;have B:=r.length;have M:=AJ;have f:EP X k l Q w s:=⟨z,H,I,E,q⟩
 by_cases a:0<=i
 ·have c:i.toNat=j:=by
   rw [seqIndex_of a o] at b;exact ff b
  exact item_listR d.isList a (by omega) (by rw [c];simpa using e) f g
 ·have c:(i+(D.toArray.size:Int)).toNat=j:=by
   rw [seqIndex_neg (wh a) n] at b;rw [dW,<-B];exact ff b
  exact subscriptTail_builtinR (x:=w) d.isList.typeIs slot_list_getitem.lookup
   (wpAny_getItem_list_neg (Q:=λr J=>r=w/\EP X k l Q r J) d.isList (wh a) (by rw [dW]<;>omega) (by omega) (by rw [c];simpa using e) ⟨U,f⟩) g
theorem Kp:vB X (Pf X.K):=by
 intro N M a s c H x y v u Q I A B h n;obtain ⟨p,O,i,z,rfl,rfl,m,k,q⟩:=h;cases A;obtain ⟨t,rfl⟩:=B;obtain ⟨L,r,b,J⟩:=I.tuple m;obtain ⟨j,f,g,D,E,F⟩:=KR k;obtain ⟨w,d,o⟩:=r.get g;have l:=r.length;have G:=AJ;have e:EP X a c Q w s:=⟨z,H,I,o,q⟩;exact subscriptTail_builtinR (x:=w) b.typeIs slot_tuple_getitem.lookup
  (getItem_tuple (j:=j) (Q:=λr C=>r=w/\EP X a c Q r C) b (by omega) (by omega) (by rw [dW,<-l];exact f) (by simpa using d) ⟨U,e⟩) n
theorem V3 (its:List Value) (n j:Nat) (u:Value):Obj.mapSeq (·.setIfInBounds j u) { cls:=.type "list",data:=.seq its.toArray n }={ cls:=.type "list",data:=.seq (its.set j u).toArray n }:=by simp [Obj.mapSeq]
theorem Inv.lst {a:List (Addr×Obj)} {b:St} {H:Hp} {s:Shared} {p:Addr} {xs:List V} (I:Inv X a b H s) (h:H p=some (.lst xs)):
 ∃(its:List Value) (n:Nat),aX xs its/\s.heap.get? p=some { cls:=.type "list",data:=.seq its.toArray n }/\xs.length<=sizeLine:=by
 obtain ⟨z,its,n,r,e⟩:=I.a4 p _ h;exact ⟨its,n,r,e,z⟩
theorem Inv.uT {d:List (Addr×Obj)} {g:St} {H:Hp} {s:Shared} {p:Addr} {xs ys:List V} {its its':List Value} {n a:Nat} {f:Obj->Obj} (I:Inv X d g H s) (h:H p=some (.lst xs))
 (j:s.heap.get? p=some { cls:=.type "list",data:=.seq its.toArray n }) (c:f { cls:=.type "list",data:=.seq its.toArray n }={ cls:=.type "list",data:=.seq its'.toArray a }) (r:aX ys its') (k:ys.length<=sizeLine) (t:Nat):
 Inv X d g (upd H p (.lst ys)) { s with heap:=s.heap.update p f,toks:=t }:=by
 have e:(s.heap.update p f).get? p=some { cls:=.type "list",data:=.seq its'.toArray a }:=by rw [pT f j (by rw [c]<;>rfl),c]
 refine I.write (x:=p) (e:=p) (by rw [h];trivial) (.inl U) (λb u i q=>(jg _ _ (a6 i)).trans q) ⟨_,e⟩ ?_;exact ⟨k,its',a,r,e⟩
def Yk:V->V->V->Hp->(Hp->Prop)->Prop:=λo i v H Q=>∃p a k j,o=.ref p/\i=.int k/\H p=some (.lst a)/\mV a.length k=some j/\Q (upd H p (.lst (a.set j v)))
theorem qy:OU X Yk:=by
 intro A s F H o i v M L u Q I C B D h;obtain ⟨p,E,k,j,rfl,rfl,m,y,q⟩:=h;cases C;obtain ⟨t,rfl⟩:=B;obtain ⟨x,n,r,e,z⟩:=I.lst m;obtain ⟨b,G,g,l⟩:=Lf y;have d:=r.length;have J:=AJ;have f:Inv X A F (upd H p (.lst (E.set j v))) { s with heap:=s.heap.update p (Obj.mapSeq (·.setIfInBounds j u)) }:=
  I.uT m e (V3 x n j u) (r.set D j) (by rw [List.length_set];exact z) s.toks
 by_cases a:0<=k
 ·have c:k.toNat=j:=by
   rw [seqIndex_of a l] at b;exact ff b
  exact PySem.W.ki_setAt e a (by omega) (by rw [dW,<-d];exact l) (by rw [c];exact ⟨_,f,q⟩)
 ·have c:(k+(x.toArray.size:Int)).toNat=j:=by
   rw [seqIndex_neg (wh a) g] at b;rw [dW,<-d];exact ff b
  exact PySem.W.ki_setBack e (wh a) (by rw [dW,<-d];exact g) (by omega) (by rw [c];exact ⟨_,f,q⟩)
theorem Wk (b a:Option Int) (n:Nat):(sliceBounds b a none n).1=((bR n 0 b:Nat):Int)/\(sliceBounds b a none n).2.1=((bR n n a:Nat):Int)/\(sliceBounds b a none n).2.2=1:=by
 refine ⟨?_,?_,U⟩
 ·cases b with
  | none=>simp [sliceBounds,bR]
  | some i=>
   simp only [sliceBounds,bR,Option.getD_none,show (1:Int)>0 by decide,if_true]
   by_cases h:i<0
   ·simp only [h,if_true]<;>omega
   ·simp only [h,if_false]<;>omega
 ·cases a with
  | none=>simp [sliceBounds,bR]
  | some i=>
   simp only [sliceBounds,bR,Option.getD_none,show (1:Int)>0 by decide,if_true]
   by_cases h:i<0
   ·simp only [h,if_true]<;>omega
   ·simp only [h,if_false]<;>omega
theorem Wt (its:List Value) (a b:Option Int):slicePick its.toArray a b none=((its.drop (bR its.length 0 a)).take (bR its.length its.length b-bR its.length 0 a)).toArray:=by obtain ⟨c,d,e⟩:=Wk a b its.toArray.size;unfold slicePick;rw [c,d,e];simp only [sliceRange_one,pick_run,dW]<;>rfl
def Xd (K:aY):V->Option Int->Option Int->Hp->VK->Prop:=λx d c H Q=>∃a b,x=.ref a/\ai K H a b/\∀p,H p=none->Q (.ref p) (upd H p (.lst (iR b d c)))
theorem xS:C_ X (Xd X.K):=by intro u s B H x v z A d e y Q I n i l m h;obtain ⟨a,c,rfl,j,q⟩:=h;cases n;obtain ⟨p,r,f,k⟩:=I.list j;have g:=r.length;refine ⟨"list",_,slot_list_getitem.lookup,f.isList.typeIs,?_⟩;refine wpAny_getItem_list_slice f.isList i l m .none (by simp) ?_ (by rw [dW]<;>omega);rw [Wt,<-g];refine ⟨.ref s.heap.objs.size,_,I.laid (t':=s.toks) (o:=.lst (iR c d e)) (λb t q=>cL _ q) (ar _) ?_,U,q _ (I.a4.fresh (ar _))⟩;exact ⟨cQ (OD c d e) k,_,0,(r.drop (bR c.length 0 d)).take (bR c.length c.length e-bR c.length 0 d),jh _ U⟩
def gh:V->Bool
 | .a9=>true
 | .bl _=>true
 | .int _=>true
 | .str _=>true
 | _=>false
def nc:V->V->Bool
 | .a9,.a9=>true
 | .bl a,.bl b=>a==b
 | .bl a,.int b=>(if a then 1 else 0)==b
 | .int a,.bl b=>a==(if b then 1 else 0)
 | .int a,.int b=>a==b
 | .str a,.str b=>a==b
 | _,_=>false
theorem Dk {A:Around} {s:Shared} {y x:V} {u v:Value} (f:bz y u) (c:bz x v) (g:gh y=true) (e:gh x=true):SeqAt.EqAt A s u v (nc y x):=by
 cases y with
 | a9=>
  cases f
  cases x with
  | a9=>cases c;exact SeqAt.EqAt.same _
  | bl b=>cases c;exact SeqAt.EqAt.none_bool b
  | int b=>obtain ⟨t,rfl⟩:=c;exact SeqAt.EqAt.none_int b t
  | str b=>obtain ⟨t,rfl⟩:=c;exact SeqAt.EqAt.none_str b t
  | _=>exact absurd (show false=true from e) fg
 | bl a=>
  cases f
  cases x with
  | a9=>cases c;exact SeqAt.EqAt.bool_none a
  | bl b=>cases c;exact SeqAt.EqAt.bool_bool a b
  | int b=>obtain ⟨t,rfl⟩:=c;exact SeqAt.EqAt.bool_int a b t
  | str b=>obtain ⟨t,rfl⟩:=c;exact SeqAt.EqAt.bool_str a b t
  | _=>exact absurd (show false=true from e) fg
 | int a=>
  obtain ⟨d,rfl⟩:=f
  cases x with
  | a9=>cases c;exact SeqAt.EqAt.int_none a d
  | bl b=>cases c;exact SeqAt.EqAt.int_bool a d b
  | int b=>obtain ⟨t,rfl⟩:=c;exact SeqAt.EqAt.int_int a d b t
  | str b=>obtain ⟨t,rfl⟩:=c;exact SeqAt.EqAt.int_str a d b t
  | _=>exact absurd (show false=true from e) fg
 | str a=>
  obtain ⟨d,rfl⟩:=f
  cases x with
  | a9=>cases c;exact SeqAt.EqAt.str_none a d
  | bl b=>cases c;exact SeqAt.EqAt.str_bool a d b
  | int b=>obtain ⟨t,rfl⟩:=c;exact SeqAt.EqAt.str_int a d b t
  | str b=>obtain ⟨t,rfl⟩:=c;exact SeqAt.EqAt.str_str a d b t
  | _=>exact absurd (show false=true from e) fg
 | _=>exact absurd (show false=true from g) fg
def kW (x:V) (u:Value):Bool:=match u with
 | .none=>nc .a9 x
 | .bool b=>nc (.bl b) x
 | .int i _=>nc (.int i) x
 | .str z _=>nc (.str z) x
 | _=>false
theorem KO {x y:V} {u:Value} (r:bz y u) (f:gh y=true):kW x u=nc y x:=by
 cases y with
 | a9=>cases r;rfl
 | bl b=>cases r;rfl
 | int i=>obtain ⟨t,rfl⟩:=r;rfl
 | str z=>obtain ⟨t,rfl⟩:=r;rfl
 | _=>exact absurd (show false=true from f) fg
theorem AW {x:V} {xs:List V} {us:List Value} (h:aX xs us) (f:xs.all gh=true):us.any (kW x)=xs.any λy=>nc y x:=by
 induction h with
 | nil=>rfl
 | cons r t a=>
  rw [Ac,pS] at f;rw [wW,wW,KO r f.1,a f.2]
theorem Bf {A:Around} {s:Shared} {x:V} {v:Value} (d:bz x v) (b:gh x=true) {xs:List V} {us:List Value} (h:aX xs us) (f:xs.all gh=true):∀u∈us,SeqAt.EqAt A s u v (kW x u):=by
 induction h with
 | nil=>intro u a;cases a
 | cons r t c=>
  intro e a;rw [Ac,pS] at f;rcases eR.mp a with rfl | a
  ·rw [KO r f.1];exact Dk r d f.1 b
  ·exact c f.2 e a
def rm (x:V) (xs:List V):Bool:=xs.any λy=>nc y x
def Cb (K:aY) (b:Bool):R2:=λx y H Q=>∃p a,y=.ref p/\(ai K H p a\/cK K H p a)/\gh x=true/\a.all gh=true/\Q (.bl (if b then !rm x a else rm x a)) H
theorem EO:eI X (compareOp .In) (Cb X.K false):=by
 intro k s m H x y v u Q I g j h;obtain ⟨p,l,rfl,a,f,c,q⟩:=h;cases j;rcases a with a | a
 ·obtain ⟨b,r,e,i⟩:=I.list a;refine SeqAt.in_listAt (kW x) e.isList (λw d=>Bf g f r c w (by simpa using d)) ⟨.bl _,H,I,U,?_⟩;rw [show b.toArray.any (kW x)=b.any (kW x) by simp,AW r c];exact q
 ·obtain ⟨b,r,e,i⟩:=I.tuple a;refine SeqAt.in_tupleAt (kW x) e (λw d=>Bf g f r c w (by simpa using d)) ⟨.bl _,H,I,U,?_⟩;rw [show b.toArray.any (kW x)=b.any (kW x) by simp,AW r c];exact q
theorem Wm:eI X (compareOp .NotIn) (Cb X.K true):=by
 intro k s m H x y v u Q I g j h;obtain ⟨p,l,rfl,a,f,c,q⟩:=h;cases j;rcases a with a | a
 ·obtain ⟨b,r,e,i⟩:=I.list a;refine SeqAt.notIn_listAt (kW x) e.isList (λw d=>Bf g f r c w (by simpa using d)) ⟨.bl _,H,I,U,?_⟩;rw [show b.toArray.any (kW x)=b.any (kW x) by simp,AW r c];exact q
 ·obtain ⟨b,r,e,i⟩:=I.tuple a;refine SeqAt.notIn_tupleAt (kW x) e (λw d=>Bf g f r c w (by simpa using d)) ⟨.bl _,H,I,U,?_⟩;rw [show b.toArray.any (kW x)=b.any (kW x) by simp,AW r c];exact q
theorem ur:nv X (.builtin "len") (λxs H Q=>∃p ys,xs=[.ref p]/\(ai X.K H p ys\/cK X.K H p ys)/\Q (.int ys.length) H):=by
 intro j s l H xs k Q I r h;obtain ⟨p,ys,rfl,a,q⟩:=h;obtain ⟨u,rfl,g⟩:=tQ r;cases g;have i:=AJ;rcases a with a | a
 ·obtain ⟨f,d,c,e⟩:=I.list a;have b:=d.length;exact Calls.call_len_list c.isList (by simp only [dW]<;>omega) ⟨.int ys.length,H,I.tok _,⟨s.toks+1,by rw [dW,b]⟩,q⟩
 ·obtain ⟨f,d,c,e⟩:=I.tuple a;have b:=d.length;exact len_tuple c (by simp only [dW]<;>omega) ⟨.int ys.length,H,I.tok _,⟨s.toks+1,by rw [dW,b]⟩,q⟩
theorem uu:nv X (.type "list") (λxs H Q=>∃p ys,xs=[.ref p]/\(ai X.K H p ys\/cK X.K H p ys)/\∀l,H l=none->Q (.ref l) (upd H l (.lst ys))):=by
 intro A s C H xs D Q I r h;obtain ⟨p,ys,rfl,g,q⟩:=h;obtain ⟨u,rfl,B⟩:=tQ r;cases B;have x:∀(c:List Value),aX ys c->ys.length<=sizeLine->∀(a:Heap) (d:Nat),(∀b y,s.heap.get? b=some y->a.get? b=some y)->
  a.get? s.heap.objs.size=some { cls:=.type "list",dict:=none,data:=.seq c.toArray d,slots:= #[] }->EP X A C Q (.ref s.heap.objs.size) { s with heap:=a }:=λc f i a d j e=>
  ⟨.ref s.heap.objs.size,_,I.laid (t':=s.toks) j (ar _) (show cZ X.prog X.w _ a _ (.lst ys) from ⟨i,c,d,f,e⟩),U,q _ (I.a4.fresh (ar _))⟩
 rcases g with g | g
 ·obtain ⟨c,f,v,i⟩:=I.list g;have z:=f.length;obtain ⟨o,t,k,n,m⟩:=v.isList;exact call_list_seq p (.inl U) t k m (λa d j e=>x c f i a d j e) (by simp only [dW]<;>omega)
 ·obtain ⟨c,f,v,i⟩:=I.tuple g;have z:=f.length;obtain ⟨o,t,k,n,m⟩:=v;exact call_list_seq p (.inr U) t k m (λa d j e=>x c f i a d j e) (by simp only [dW]<;>omega)
theorem ON:nv X (.type "tuple") (λxs H Q=>∃p ys,xs=[.ref p]/\((ai X.K H p ys/\∀l,H l=none->Q (.ref l) (upd H l (.tup ys)))\/(cK X.K H p ys/\Q (.ref p) H))):=by
 intro k s m H xs y Q I r h;obtain ⟨p,ys,rfl,h⟩:=h;obtain ⟨u,rfl,v⟩:=tQ r;cases v;rcases h with ⟨c,q⟩ | ⟨c,q⟩
 ·obtain ⟨d,g,f,j⟩:=I.list c;have x:=g.length;refine call_tuple_list f.isList (λa t=>?_) (by simp only [dW]<;>omega);have i:Inv X k m H { s with heap:=a }:=I.kept (t':=s.toks) t;have n:Inv X k m (upd H a.objs.size (.tup ys)) { s with heap:=a.push { cls:=.type "tuple",data:=.seq d.toArray } }:=
   i.laid (t':=s.toks) (λb o e=>cL _ e) (ar _) (show cZ X.prog X.w _ _ _ (.tup ys) from ⟨j,d,g,IsTup.new _ _⟩)
  exact ⟨.ref a.objs.size,_,n,U,q _ (i.a4.fresh (ar _))⟩
 ·obtain ⟨d,g,f,j⟩:=I.tuple c;exact call_tuple_same f ⟨.ref p,H,I,U,q⟩
def PN (K:aY) (T:String) (x:V) (H:Hp):Prop:=match x with
 | .str _=>T="str"
 | .int _=>T="int"
 | .ref p=>(T="list"/\∃b,ai K H p b)\/(T="tuple"/\∃o,K.lookup p=some o/\o.cls=.type "tuple"/\o.dict=none)\/
  (T="dict"/\((∃a,H p=some (.dK a))\/∃a,H p=some (.dT a)))\/(T="set"/\∃S n,H p=some (.set S n))
 | _=>False
theorem YI {u:List (Addr×Obj)} {y:St} {H:Hp} {s:Shared} {T:String} {x:V} {v:Value} (I:Inv X u y H s) (r:bz x v) (f:PN X.K T x H):
 s.TypeIs v T/\∀a,v=.ref a->∃j,s.heap.get? a=some j/\j.dict=none:=by
 cases x with
 | str z=>
  obtain ⟨t,rfl⟩:=r;cases (show T="str" from f);exact ⟨typeIs_str s z t,λ_ e=>nomatch e⟩
 | int i=>
  obtain ⟨t,rfl⟩:=r;cases (show T="int" from f);exact ⟨typeIs_int s i t,λ_ e=>nomatch e⟩
 | ref p=>
  cases r;rcases f with ⟨rfl,B,m⟩ | ⟨rfl,o,b,l,h⟩ | ⟨rfl,b⟩ | ⟨rfl,S,n,b⟩
  ·obtain ⟨A,_,k,_⟩:=I.list m;refine ⟨k.isList.typeIs,λa e=>?_⟩;cases e;obtain ⟨o,n,e,c,h,_⟩:=k;exact ⟨o,e,h⟩
  ·refine ⟨⟨o,I.de p o b,l⟩,λa e=>?_⟩;cases e;exact ⟨o,I.de _ o b,h⟩
  ·have z:∃o,s.heap.get? p=some o/\o.ExactDict:=by
    rcases b with ⟨q,b⟩ | ⟨q,b⟩
    ·obtain ⟨_,_,_,_,o,_,_,e,d,_⟩:=I.a4 p _ b;exact ⟨o,e,d⟩
    ·obtain ⟨_,_,_,_,o,_,_,e,d,_⟩:=I.a4 p _ b;exact ⟨o,e,d⟩
   obtain ⟨o,e,d⟩:=z;refine ⟨⟨o,e,d.1⟩,λa g=>?_⟩;cases g;exact ⟨o,e,d.2.1⟩
  ·obtain ⟨o,_,_,_,e,d,_⟩:=I.a4 p _ b;refine ⟨⟨o,e,d.1⟩,λa g=>?_⟩;cases g;exact ⟨o,e,d.2.1⟩
 | _=>exact gX f
def PZ (K:aY) (T:String) (r:V->List V->Hp->VK->Prop) (d:TE) (t:TA):TE:=λb H Q=>d b H λx a=>PN K T x a/\t b a λe c=>r x e c Q
variable {T id:String}
theorem kE (E:PlainAttrs T) (N:Slot T name id) (D:typeOf (.builtin id)=pure (.type "method_descriptor")) (y:Se X id r) (z:PE X o to) (n:PA X (e::C) t)
 (p:attributeBase o name X.env (eval o X.env)=eval o X.env:=by rfl)
 (q:((backTo dU (starEach (e::C) X.env)).all (λx=> !x.1) && (backToKw dU (keywordEach [] X.env)).all (λx=>x.1.isSome)
  && decide ((e::C).length+([]:List Keyword).length+(if ([]:List Keyword).isEmpty then 0 else 1)<30))=true:=by rfl)
 (u:(apos.endLine==dU.line)=true:=by rfl) (B:starEach (e::C) X.env=(false,eval e X.env)::starEach C X.env:=by rfl) (A:(backTo dU (starEach C X.env)).any (·.1)=false:=by rfl):
 PE X (.Call (.Attribute o name apos) (e::C) [] dU) (PZ X.K T r to t):=by
 intro a s c H Q I h;refine wpAny_Call_method_late p q u U (ay (z a s c H _ I h) λv L b=>?_);obtain ⟨x,i,d,g,O,F⟩:=b;obtain ⟨l,m⟩:=YI d g O;refine ⟨T,id,E,N,D,l,m,?_⟩;have f:=n dU a L c i _ d F;rw [B] at f ⊢;refine Calls.callWith_builtin (by show (false || (backTo dU (starEach C X.env)).any (·.1))=false;rw [A]<;>rfl) (Calls.evalArgs_plain ?_);exact ay f λR M b=>L2.eF b λS j k J G=>y a M c j x S v R Q k g J G
end
def MtM (X:Cx) (id:String) (r:V->List V->Hp->VK->Prop):Prop:=
 ∀(a:List (Addr×Obj)) (s:Shared) (d:St) (H:Hp) (x:V) (c:List V) (v:Value) (b:List Value) (Q:VK),Inv X a d H s->bz x v->aX c b->r x c H Q->
  wpAny (model X.prog X.w) X.A (call (.builtin id) (v::b)) (EP X a d Q) X.xe s
theorem aX.one {x:V} {us:List Value} (h:aX [x] us):∃u,us=[u]/\bz x u:=by
 cases h with
 | cons r t=>
  cases t;exact ⟨_,U,r⟩
theorem aX.rep {xs:List V} {us:List Value} (h:aX xs us):∀k:Nat,aX (List.replicate k xs).flatten (List.replicate k us).flatten
 | 0=>.nil
 | k+1=>by rw [Ap,Ap,wY,wY];exact aX.append h (aX.rep h k)
theorem MV (its:List Value):∀(k:Nat) (a:List Value),
 List.foldl (λc d=>c++d) a.toArray (List.replicate k its.toArray)=(a++(List.replicate k its).flatten).toArray
 | 0,a=>by simp
 | k+1,a=>by
  have e:a.toArray++its.toArray=(a++its).toArray:=by simp
  have b:(a++its)++(List.replicate k its).flatten=a++(List.replicate (k+1) its).flatten:=by rw [Ap,wY,pR]
  rw [<-b,<-MV its k (a++its),<-e,Ap,vq]
section
theorem Inv.Hl {its its':List Value} {n:Nat} {f:Array Value->Array Value} {t':Nat} (I:Inv X pins σ H s) (a:H l=some (.lst xs))
 (e:s.heap.get? l=some { cls:=.type "list",data:=.seq its.toArray n }) (c:f its.toArray=its'.toArray) (g:aX ys its') (h:ys.length<=sizeLine):
 Inv X pins σ (upd H l (.lst ys)) { s with heap:=s.heap.update l (Obj.mapSeq f),toks:=t' }:=by
 have q:=PySem.IsL.update e f;rw [c] at q;refine I.write (x:=l) (e:=l) (by rw [a];exact trivial) (.inl U) (λi u b d=>(jg s.heap (Obj.mapSeq f) (a6 b)).trans d) ⟨_,q⟩ ?_;exact ⟨h,its',_,g,q⟩
theorem Inv.uU {its:List Value} {t':Nat} (I:Inv X pins σ H s) (a:aX ys its) (b:ys.length<=sizeLine):
 Inv X pins σ (upd H s.heap.objs.size (.lst ys)) { s with heap:=s.heap.push { cls:=.type "list",data:=.seq its.toArray },toks:=t' }:=
 I.laid (λ_ _ q=>cL _ q) (ar _) ⟨b,its,0,a,jh _ U⟩
theorem Inv.fresh (I:Inv X pins σ H s):H s.heap.objs.size=none:=I.a4.fresh (ar _)
theorem Inv.rj (I:Inv X pins σ H s) (a:H l=some (.lst xs)):xs.length<=sizeLine/\∃(its:List Value) (n:Nat),aX xs its/\xs.length=its.length/\s.heap.get? l=some { cls:=.type "list",data:=.seq its.toArray n }:=by obtain ⟨z,its,n,r,e⟩:=I.a4 l _ a;exact ⟨z,its,n,r,r.length,e⟩
theorem Tt {n:Nat} (h:n<=sizeLine):Builtin.List.listTooLong n=false:=by unfold Builtin.List.listTooLong;exact fz (by omega)
end
section
def il:V->List V->Hp->VK->Prop:=λx b H Q=>∃l a y,x=.ref l/\b=[y]/\H l=some (.lst a)/\a.length<sizeLine/\Q .a9 (upd H l (.lst (a++[y])))
theorem jT:MtM X "list.append" il:=by intro j s p H x m v k Q I f d h;obtain ⟨l,o,y,rfl,rfl,a,i,q⟩:=h;cases f;obtain ⟨u,rfl,c⟩:=d.one;obtain ⟨z,b,n,r,g,e⟩:=I.rj a;refine call_meets kf ⟨_,e,U⟩ F.entry_list_append (F.args_list_append_2 _ _) (PySem.list_append l b.toArray n u (by rw [dW];omega)) ⟨e,?_⟩;refine ⟨.a9,_,I.Hl (its':=b++[u]) a e (by simp) (r.append (.cons c .nil)) ?_,U,q⟩;rw [dw,List.length_singleton];omega
def Xb:R2:=λx y H Q=>∃l b a c,x=.ref l/\y=.ref b/\H l=some (.lst a)/\H b=some (.lst c)/\a.length+c.length<=sizeLine/\∀p,H p=none->Q (.ref p) (upd H p (.lst (a++c)))
theorem xK:eI X (binaryOp .Add) Xb:=by
 intro B s F H x y v u Q I p t h;obtain ⟨l,b,C,E,rfl,rfl,i,g,m,q⟩:=h;cases p;cases t;obtain ⟨z,a,n,r,j,e⟩:=I.rj i;obtain ⟨D,c,A,o,k,d⟩:=I.rj g;refine PySem.P.add_list e d ?_ (by rw [dW,dW];exact T9 m j k);have f:a.toArray++c.toArray=(a++c).toArray:=by simp
 rw [f];exact ⟨.ref _,_,I.uU (t':=s.toks) (r.append o) (by rw [dw];omega),U,q _ I.fresh⟩
def Xc:R2:=λx y H Q=>∃l k a,x=.ref l/\y=.int k/\H l=some (.lst a)/\-(2 ^ 63)<=k/\k<2 ^ 63/\a.length*k.toNat<=sizeLine/\
 ∀p,H p=none->Q (.ref p) (upd H p (.lst (List.replicate k.toNat a).flatten))
theorem Za {b:Type} (xs:List b) (k:Nat):(List.replicate k xs).flatten.length=k*xs.length:=by
 induction k with
 | zero=>simp
 | succ k a=>rw [Ap,wY,dw,a,Nat.succ_mul,Nat.add_comm]
theorem xF:eI X (binaryOp .Mult) Xc:=by
 intro M s R H x y v u Q I G J h;obtain ⟨l,k,O,rfl,rfl,o,i,j,f,q⟩:=h;cases G;obtain ⟨t,rfl⟩:=J;obtain ⟨z,b,n,r,B,e⟩:=I.rj o;have C:b.toArray.size*k.toNat<=sizeLine:=by rw [dW,<-B];exact f
 have p:¬b.toArray.size*k.toNat>(2 ^ 63-1) / 8:=by
  have:(sizeLine:Nat)<=(2 ^ 63-1) / 8:=by decide
  omega
 have A:¬(!Builtin.List.listFitsIndex k)=true:=by rw [fitsIndex_both i j];exact fg
 have D:¬Builtin.List.listTooLong (b.toArray.size*k.toNat)=true:=by rw [Tt C];exact fg
 have E:List.foldl (λc d=>c++d) #[] (List.replicate (if b.toArray.isEmpty=true then 0 else k.toNat) b.toArray)=(List.replicate k.toNat b).flatten.toArray:=by
  have g:∀m:Nat,List.foldl (λc d=>c++d) #[] (List.replicate m b.toArray)=(List.replicate m b).flatten.toArray:=λm=>by have:=MV b m [];rw [List.nil_append] at this;exact this
  rw [g]
  cases b with
  | nil=>simp
  | cons a N=>rw [if_neg (by simp)]
 refine wpAny_binaryOp_repeat_ref (T:="list") (U:="int") (by decide) ⟨_,e,U⟩ (λL=>typeIs_int L k t) noFill_list_mul F.fills_int_mul F.slot_int_rmul repeat_list F.slot_int_index.lookup
  (call_meets F.slot_int_rmul (typeIs_int s k t) F.entry_int_rmul (F.args_int_rmul_2 _ _) (int___rmul___int_list k t l b.toArray n)
   ⟨e,U,⟨_,e,U⟩,call_meets F.slot_list_mul ⟨_,e,U⟩ F.entry_list_mul (F.args_list_mul_2 _ _) (AutoListH.list___mul___list_int_3 l b.toArray n k t A p D) ⟨e,?_⟩⟩)
 rw [E];exact ⟨.ref _,_,I.uU (t':=s.toks) (r.rep k.toNat) (by rw [Za,Nat.mul_comm];exact f),U,q _ I.fresh⟩
end
section
set_option maxRecDepth 100000 in
end
section
end
end L2
namespace Sq
open PySem PySem.W PySem.Calls PyProof.Rows
theorem Ww {P:Params} {h:Heap}:∀(ns:List Int) (vs:List Value),WellAll P h vs (ns.map WData.int)->IntsAre vs ns:=by
 intro ns
 induction ns with
 | nil=>
  intro vs w;rw [rH] at w;cases w;exact .nil
 | cons n ns c=>
  intro vs w;rw [eG] at w
  cases w with
  | cons a b=>
   cases a;exact .cons _ _ (c _ b)
theorem Vl {l:OpenLaw} {n:Nat} (p:l.most=some n) {P:Params} {h:Heap} {args:List WData} {g:List Value}
 (f:l.row.toRowW.claim.pre args=true) (u:WellAll P h g args):
 ∃a vs ns,g=[Value.ref a]/\args=[WData.list (ns.map WData.int)]/\h.get? a=some { cls:=.type "list",data:=.seq vs.toArray }/\IntsAre vs ns/\ns.length<=n:=by
 have t:WShape.hasAll [] args [.list .int]=true:=(pre_splitW f).1;have e:l.pre.holds [] { args:=args }=true:=(pre_splitW f).2;obtain ⟨d,r,rfl,i,j⟩:=hasAllW_cons t;obtain rfl:=hasAllW_nil j;obtain ⟨z,rfl,k⟩:=hasW_list i;obtain ⟨ns,rfl⟩:=items_int k;have o:ns.length<=n:=by
  unfold OpenLaw.pre at e;have b:(WTm.not (.lt (.lit (.int (n:Int))) (.len (.arg 0)))).holds [] { args:=[.list (ns.map .int)] }=true:=by have b:=(holds_andW e).1;rw [p] at b;exact b
  have c:=condW_of b (w_not (w_lt w_lit (w_len_list (w_arg U))));rw [ak] at c;refine jt λq=>?_;have v:(n:Int)<((ns.length:Nat):Int):=yj q
  first
   | (rw [jr v] at c;exact absurd c (by decide))
   | (simp at c;omega)
 cases u with
 | cons x y=>
  cases y
  cases x with
  | list s m=>exact ⟨_,_,ns,U,U,s,Ww ns _ m,o⟩
theorem Vq (l:OpenLaw) (args:List WData):l.row.toRowW.claim.post args (.bool true) args=true:=
 postW_of (r:=l.row.toRowW) (X:=(true==true))
  (show WShape.has [] (.bool true) .bool=true by first | rfl | decide | simp [WShape.has,WShape.arms,WShape.armsAll])
  (show (WTm.eq .res (.lit (.bool true))).value [] { args:=args,res:=some (.bool true),after:=args }=some (.bool (true==true)) from w_eq_bool (w_res U) w_lit) U
theorem jN {l:OpenLaw} {n:Nat} {q:Program} {s:List Str} {k:(Str->Option Value)->Heap->Prop} {m:World->Heap->Prop} {d:DefRec}
 (I:l.most=some n) (B:d.params.defaults=[])
 (t:∀(w:World) (j b:Shared) (mg h:Str->Option Value) (c:Addr) (o:Obj) (i e g:Value) (a:Addr) (vs:List Value) (ns:List Int),
  Ground q s [] k w j mg h b.heap->m w b.heap->
  b.heap.get? c=some o->o.data=.func (docDef d.name d.params d.body d.scope i e g)->b.heap.CodeRec e d.name->mg d.name=some (.ref c)->
  b.heap.get? a=some { cls:=.type "list",data:=.seq vs.toArray }->IntsAre vs ns->ns.length<=n->b.gens= #[]->
  codeAny (model l.prog w) callerA (.call (.ref c) ⟨[.ref a],[]⟩) (λr s'=>r=.ok (.ret (.bool true))/\OldK b.heap s'.heap/\s'.os=b.os/\AllBare s'.gens) b):
 WalkO q s k m l.row.toRowW d [] (λf vs=>PySem.call f vs):=by
 intro w j b mg h G Y c o i e g u Q J A z p H C args W R M S V O T;obtain rfl:u=.none:=Dflts.none p B;obtain rfl:Q=.none:=Dflts.noKw p;obtain ⟨a,vs,ns,rfl,rfl,L,D,E⟩:=Vl I M O;refine enter_call (wV (t w j b mg h c o i e g a vs ns G Y J (fd_plain A) z H L D E C) λr s' N=>?_);obtain ⟨rfl,v,x,y⟩:=N;exact ⟨.inl ⟨.bool true,.bool true,[],U,λ_=>rfl,.bool true,Vq l _,λ_=>⟨List.Pairwise.nil,λ_ F=>(nomatch F)⟩⟩,v,x,y⟩
section
variable {K:Frag}
end
end Sq
namespace L2
open PySem PySem.Spec PyProof.Rows
theorem N7:∀{vs:List Value} {ns:List Int},IntsAre vs ns->aX (ns.map V.int) vs
 | _,_,.nil=>.nil
 | _,_,.cons n t h=>.cons ⟨t,U⟩ (N7 h)
def yz (H:Hp):Prop:=∀b,H b=none\/∃o a,H b=some (.dZ o (.lst a))
theorem S9 {mg p:Str->Option Value} {CX:nh} {k:Nat} {n a:Addr} {D:FuncData} {x:Str} {sp:Sp} {cy:Shared} {vs:List Value} {ns:List Int}
 (t:K.In cy.heap) (M:cy.heap.Ns mainGlobals mg) (c:cy.heap.Ns builtinsNs p) (vj:∀x:Str,x≠"__name__"->p x=bootBuiltins x) (Il:cy.heap.NoLimit) (hg:cy.gens= #[])
 (i:cy.heap.get? a=some { cls:=.type "list",data:=.seq vs.toArray }) (J:IntsAre vs ns) (L:ns.length<=sizeLine) (hr:cA k callerA)
 (F:∀base:Heap,K.In base->base.Ns mainGlobals mg->af P w K mg base CX k n D [x] sp) (z9:∀(s:Shared) (u:Value),BindsTo s D ⟨[u],[]⟩ [(x,u)])
 (ϯ:∀H:Hp,yz H->ai K H a (ns.map V.int)->sp [.ref a] H (λv _=>v=.bl true) λ_ _ _=>False)
 (hCX:∀H e s',CX [] H cy (λ_ _ _=>False) e s'->False):
 codeAny (model P w) callerA (.call (.ref n) ⟨[.ref a],[]⟩) (λr s'=>r=.ok (.ret (.bool true))/\OldK cy.heap s'.heap/\s'.os=cy.os/\AllBare s'.gens) cy:=by
 have O:=N7 J;have Hm:=J.length;have A:∀H:Hp,yz H->ai K H a (ns.map V.int)->dJ P w H cy.heap->(∀b,H b≠none->b=a)->(H a≠none->K.lookup a=none)->
  codeAny (model P w) callerA (.call (.ref n) ⟨[.ref a],[]⟩) (λr s'=>r=.ok (.ret (.bool true))/\OldK cy.heap s'.heap/\s'.os=cy.os/\AllBare s'.gens) cy:=by
  intro H I hS N E hK;have y:∀{b:Addr} {o:Obj},cy.heap.get? b=some o->H b=none->(pZ cy.heap H).get? b=some o:=λe x1=>S3 e x1;have à:∀{b:Addr} {o:Obj} {f:Array DictEntry} {ep:Nat},cy.heap.get? b=some o->o.data=.dict f ep->H b=none:=λ{b o f ep} e d=>by
   cases q:H b with
   | none=>rfl
   | some u=>
    have l:b=a:=E b (by rw [q];simp);subst l;rw [i] at e;cases e;have S:Data.seq vs.toArray _=Data.dict f ep:=d;cases S
  have j:∀{b:Addr} {m:Str->Option Value},cy.heap.Ns b m->(pZ cy.heap H).Ns b m:=λ{b m} ⟨o,f,ep,e,d,r⟩=>⟨o,f,ep,y e (à e d),d,r⟩;have G:K.In (pZ cy.heap H):=λb o e=>y (t b o e) (by
   cases q:H b with
   | none=>rfl
   | some u=>
    have l:b=a:=E b (by rw [q];simp);subst l;rw [hK (by rw [q];simp)] at e;cases e)
  have hM:Mod K mg (pZ cy.heap H):=⟨G,j M,⟨p,j c,vj⟩,let ⟨mc,Y,Z⟩:=Il;⟨mc,j Y,Z⟩⟩;have T:uw P w K mg (pZ cy.heap H) callerA [] cy H:=⟨U,hM,λb o e=>Zg e,tG (Vk _ _),trivial,λb c=>absurd (show b∈([]:List Addr) from c) (by simp),N,.of_eq hg⟩;refine wV ((F _ G (j M)).run callerA [] cy H ⟨[.ref a],[]⟩ [.ref a] [.ref a] _ _ hr T (z9 cy (.ref a)) (.cons rfl .nil) (ϯ H I hS)) λr s' h=>?_
  cases r with
  | error e=>exact (hCX H e s' h).elim
  | ok X=>
   cases X with
   | next=>exact gX h
   | brk=>exact gX h
   | cont=>exact gX h
   | ret u=>
    obtain ⟨v,H',os,R,Q,ja,r',q⟩:=h;have q':v=.bl true:=q;subst q';obtain rfl:u=Value.bool true:=r';refine ⟨U,OldK.of_keep λb o e=>?_,os,R⟩
    cases q:H b with
    | none=>exact Q.keep b o e q (by intro z;exact absurd (show b∈([]:List Addr) from z) (by simp)) (by simp)
    | some u=>
     rcases I b with z | ⟨ob,xs,z⟩
     ·rw [q] at z;cases z
     ·have z2:=Q.eX b ob _ z;obtain ⟨B,_⟩:=N b _ z;obtain ⟨W,_⟩:=ja b _ z2;rw [e] at B;cases B;exact W
 cases C:K.lookup a with
 | some o=>
  have e:=t a o C;rw [i] at e;cases e;refine A (λ_=>none) (λ_=>.inl U) (.inr ⟨_,vs.toArray,_,C,U,U,U,by rw [dW,Hm];exact L,by simpa using O⟩) (λb u z=>by have g:(none:Option HO)=some u:=z;cases g) (λb z=>absurd U z) λz=>absurd U z
 | none=>
  refine A (λb=>if b=a then some (.dZ { cls:=.type "list",data:=.seq vs.toArray } (.lst (ns.map V.int))) else none) (λb=>?_) (.inl (.inr ⟨{ cls:=.type "list",data:=.seq vs.toArray },if_pos U⟩)) (λb u z=>?_) (λb z=>?_) λ_=>C
  ·by_cases c:b=a
   ·exact .inr ⟨_,_,if_pos c⟩
   ·exact .inl (if_neg c)
  ·by_cases c:b=a
   ·have g:=(if_pos c).symm.trans z;cases g;subst c;exact ⟨i,by rw [ak];exact L,vs,_,O,i⟩
   ·have g:=(if_neg c).symm.trans z;cases g
  ·by_cases c:b=a
   ·exact c
   ·exact absurd (if_neg c) z
abbrev eJ {K:aY} {h:Heap} (_:K.In h):aY:=K
theorem ZA {l:PySem.W.OpenLaw} {n k:Nat} {q:Program} {O:List Str} {m:(Str->Option Value)->Heap->Prop} {i:World->Heap->Prop} {d:DefRec} {K:Params->aY} {CX:World->nh} {sp:World->Sp} {x:Str}
 (I:l.most=some n) (J:n<=sizeLine) (B:d.params.defaults=[]) (M:cA k callerA)
 (z:∀(w:World) (h:Heap),i w h->(K w.params).In h)
 (F:∀(w:World) (mg:Str->Option Value) (b:Addr) (h:Heap),(K w.params).In h->h.Ns mainGlobals mg->mg d.name=some (.ref b)->
  ∃c:FuncData,(∀(s:Shared) (u:Value),BindsTo s c ⟨[u],[]⟩ [(x,u)])/\
   ∀base:Heap,(K w.params).In base->base.Ns mainGlobals mg->af l.prog w (K w.params) mg base (CX w) k b c [x] (sp w))
 (N:∀(w:World) (H:Hp) (a:Addr) (ns:List Int),ns.length<=n->yz H->ai (K w.params) H a (ns.map V.int)->sp w [.ref a] H (λv _=>v=.bl true) λ_ _ _=>False)
 (p:∀(w:World) (H:Hp) (s:Shared) (e:Value) (s':Shared),CX w [] H s (λ_ _ _=>False) e s'->False):
 PySem.W.WalkO q O m i l.row.toRowW d [] (λf vs=>PySem.call f vs):=by
 refine Sq.jN I B λw bQ Q mg Z b o pm R S a vs ns G Y X W T E L D j C=>?_;have g:=z w _ Y;obtain ⟨c,A,r⟩:=F w mg b _ g G.T.g E;exact S9 g G.T.g G.T.b G.T.builtins G.T.nolimit C L D (cQ j J) M r A (λH t y=>N w H a ns j t y) λH e s'=>p w H Q e s'
theorem UC {l:PySem.W.OpenLaw} {n k:Nat} {q:Program} {C:List Str} {i:(Str->Option Value)->Heap->Prop} {b:World->Heap->Prop} {d:DefRec} {K:Params->aY} {CX:nh} {sp:aY->Sp} {x:Str}
 (y:l.most=some n) (z:n<=sizeLine) (t:d.params.defaults=[]) (A:cA k callerA)
 (r:∀(w:World) (h:Heap),b w h->(K w.params).In h)
 (F:∀(w:World) (mg:Str->Option Value) (c:Addr) (h:Heap),(K w.params).In h->h.Ns mainGlobals mg->mg d.name=some (.ref c)->
  ∃g:FuncData,(∀(s:Shared) (u:Value),BindsTo s g ⟨[u],[]⟩ [(x,u)])/\
   ∀base:Heap,(K w.params).In base->base.Ns mainGlobals mg->af l.prog w (K w.params) mg base CX k c g [x] (sp (K w.params)))
 (B:∀(K:aY) (H:Hp) (a:Addr) (ns:List Int),ns.length<=n->yz H->ai K H a (ns.map V.int)->sp K [.ref a] H (λv _=>v=.bl true) λ_ _ _=>False)
 (p:∀(H:Hp) (s:Shared) (e:Value) (s':Shared),CX [] H s (λ_ _ _=>False) e s'->False):
 PySem.W.WalkO q C i b l.row.toRowW d [] (λf vs=>PySem.call f vs):=
 ZA (K:=K) (CX:=λ_=>CX) (sp:=λw=>sp (K w.params)) y z t A r F (λw H a ns j m o=>B (K w.params) H a ns j m o) λ_ H s e s'=>p H s e s'
def kG (s:Stmt) (j:Nat):Stmt:=match s with
 | .ClassDef _ _ _ a _ _ _ _ _ _ _=>a.getD j (.Pass ⟨0,0,0,0⟩)
 | _=>.Pass ⟨0,0,0,0⟩
def pz (s:Stmt):Arguments:=match s with
 | .FunctionDef _ a _ _ _ _ _ _ _ _=>a
 | _=>{ posonlyargs:=[],args:=[],vararg:=none,kwonlyargs:=[],kw_defaults:=[],kwarg:=none,defaults:=[] }
def l9 (s:Stmt):List Stmt:=match s with
 | .FunctionDef _ _ b _ _ _ _ _ _ _=>b
 | _=>[]
def aJ (s:Stmt):Scope:=match s with
 | .FunctionDef _ _ _ _ _ _ a _ _ _=>a
 | _=>{ kind:=.function,names:=[],isGenerator:=false,isCoroutine:=false }
abbrev aq:nh:=λ_ _ _ _ _ _=>False
abbrev E0:XK:=λ_ _ _=>False
theorem eK {X:Cx}:pe aq X E0:=λ_ _ _ _ _ _ _ h=>h.elim
structure gb (K:aY) (x qual:Str) (st:Stmt) (f:Addr) (fd:FuncData):Prop where
 ex:∃(oc:Value) (od:Option Addr) (kV doc pm:Value) (an:Option Addr) (R4 ct:Value) (Hb:Array (Option Value)),
  fd=PySem.W.fnOf x qual (pz st) (l9 st) (aJ st) .none kV doc pm an R4 ct/\K.lookup f=some ⟨oc,od,.func fd,Hb⟩/\PySem.W.codeIn K R4 qual=true
 kp:PySem.W.keepIn K (.ref f)=true
section
variable {K:aY}
theorem gb.ok {x d:Str} {st:Stmt} {f:Addr} {e:FuncData} {N c:List Str} {k:Nat} {sp:Sp} (F:gb K x d st f e) (S:cb N c (aJ st)) (n:∀vs H Q E,sp vs H Q E->vs.length=c.length)
 (i:∀(a:Value) (A:Around) (b:List Env) (s:Shared) (H:Hp) (vs:List V) (Q:VK) (E:XK),cA k (A.deeper (envOfC d (aJ st) s.heap.objs.size f a))->sp vs H Q E->
  ∃t,f7 (lh aq P w K mg base N d (aJ st) f a A b s H E).wD (l9 st) t/\t { nx:=λ_ g=>Q .a9 g,rt:=Q } (i8 N vs) H):af P w K mg base aq (k+1) f e c sp:=by
 obtain ⟨v,y,u,r,B,o,a,p,z,rfl,lk,j⟩:=F.ex;refine Pp lk j S n λA b s H vs Q E l m=>?_;obtain ⟨t,h,q⟩:=i a A b s H vs Q E l m;exact ⟨t,h.wD,q⟩
theorem gb.cJ {x b:Str} {st:Stmt} {f:Addr} {d:FuncData} {N a:List Str} {k:Nat} {sp:Sp} (F:gb K x b st f d) (S:cb N a (aJ st)) (g:∀(c:Value) (A:Around) (j:List Env) (s:Shared) (H:Hp) (vs:List V) (Q:VK) (E:XK),cA k (A.deeper (envOfC b (aJ st) s.heap.objs.size f c))->sp vs H Q E->
  ∃t,f7 (lh aq P w K mg base N b (aJ st) f c A j s H E).wD (l9 st) t/\t { nx:=λ_ e=>Q .a9 e,rt:=Q } (i8 N vs) H) (i:∀vs H Q E,sp vs H Q E->vs.length=a.length:=by intro _ _ _ _ h;repeat (first|(obtain ⟨rfl,_⟩:=h;rfl)|obtain ⟨_,h⟩:=h)):af P w K mg base aq (k+1) f d a sp:=F.ok S i g
theorem gb.binds {x k:Str} {st:Stmt} {f:Addr} {j:FuncData} {i:List Str} (F:gb K x k st f j)
 (h:∀(e d g:Value) (a:Option Addr) (b c:Value) (us:List Value),us.length=i.length->bindArgs (PySem.W.fnOf x k (pz st) (l9 st) (aJ st) .none e d g a b c) ⟨us,[]⟩=pure (i.zip us)):cY K j i []:=by
 obtain ⟨m,n,e,d,g,a,b,c,o,rfl,lk,l⟩:=F.ex;exact .all (h e d g a b c)
theorem Dw {x b:Str} {st:Stmt} {f:Addr} {j:Value} {m d:Option Addr} {n:Array (Option Value)} {h g i a e:Value} (l:K.lookup f=some ⟨j,m,.func (PySem.W.fnOf x b (pz st) (l9 st) (aJ st) .none h g i d a e),n⟩)
 (c:PySem.W.codeIn K a b=true) (k:PySem.W.keepIn K (.ref f)=true):gb K x b st f (PySem.W.fnOf x b (pz st) (l9 st) (aJ st) .none h g i d a e):=⟨⟨j,m,h,g,i,d,a,e,n,U,l,c⟩,k⟩
end
theorem kr {A:Around} {k:Nat} (a:cA k A):A.units+1<cLine:=tL (JP (by decide:1<=64) _) a.units
theorem fe {n:Nat} (h:n<=1000):n<sizeLine:=tL h (by decide)
section
theorem pv (i:Nat) {x:Str} {pos:Pos} (a:X.N[i]?=some x:=by rfl) (d:vz X.env.scope x:=by first | exact Or.inl rfl | exact Or.inr (Or.inl rfl) | exact Or.inr (Or.inr rfl)) (c:(x==("__debug__":Str))=false:=by decide)
 (b:(x==("__classdict__":Str))=false:=by decide):PE X (.Name x pos) (gf i):=Du a d c b
end
theorem gJ {A B:Prop} (h:B):if false=true then A else B:=by rw [if_neg fg];exact h
theorem km {A B:Prop} (h:A):if true=true then A else B:=by rw [if_pos rfl];exact h
theorem iG {c A B:Prop} [Decidable c] (a:c->A) (b:¬c->B):if c then A else B:=by
 by_cases h:c
 ·rw [if_pos h];exact a h
 ·rw [if_neg h];exact b h
theorem rW {c A B:Prop} [Decidable c] (a:c) (h:B):if (!decide c)=true then A else B:=by rw [jr a];exact gJ h
def ao (H a:Hp):Prop:=∀b o,H b=some o->a b=some o
theorem ao.refl (H:Hp):ao H H:=λ_ _ h=>h
theorem ao.trans {H d H2:Hp} (a:ao H d) (b:ao d H2):ao H H2:=λc o h=>b c o (a c o h)
theorem ao.free {H a:Hp} (e:ao H a) {l:Addr} (h:a l=Option.none):H l=Option.none:=by
 cases q:H l with
 | none=>rfl
 | some o=>
  rw [e l o q] at h;cases h
section
theorem Vd (I:Nat->Shared->Prop)
 (u:∀n s,I n s->wpAny (model prog w) A (pyNext it) (λr b=>match r with
  | none=>R (.ok .next) b
  | some v=>wpAny (model prog w) A (letOwnedTupleGo target it v) (λ_ g=>wpAny (model prog w) A (assign target env v) (λ_ i=>
   wpAny (model prog w) A (forIn ifs true λc r=>if r=true then do let ok <-isTrue c env (eval c env);pure (ForInStep.yield ok) else pure (ForInStep.yield r)) (λok d=>
    if ok=true then wpAny (model prog w) A (eval elt env) (λx j=>
     wpAny (model prog w) A (call (.builtin "list.append") [acc,x]) (λ_ k=>∃m,m<n/\I m k) (λ_ _=>False) j) (λ_ _=>False) d
    else ∃m,m<n/\I m d) (λ_ _=>False) i) (λ_ _=>False) g) (λ_ _=>False) b) (λ_ _=>False) s)
 (n:Nat) (h:I n s):codeAny (model prog w) A (.compLoop (.ListComp elt [⟨target,iter,ifs,0⟩] scope pos) 0 it acc env) R s:=by
 refine codeAny_loop U I (λn s l=>?_) n h;show wpAny _ A ((compTurn (.ListComp elt [⟨target,iter,ifs,0⟩] scope pos) 0 it acc env).onRaise (λx=>do noteFrame x env;theTreesLotGoes x)) _ _ s;refine wpAny_noted ?_;rw [compTurn_list];refine ae (Ak (ae (gY (u n s l) (λr b e=>?_) λ_ _ a=>a.elim)))
 cases r with
 | none=>exact aI e
 | some v=>
  refine ae (gY e (λ_ g o=>?_) λ_ _ a=>a.elim);refine ae (gY o (λ_ i p=>ae (gY p (λok d f=>?_) λ_ _ a=>a.elim)) λ_ _ a=>a.elim)
  cases ok with
  | false=>exact aI ⟨U,f⟩
  | true=>
   exact ae (ae (gY f (λx j q=>ae (gY q (λ_ k t=>aI (aI ⟨U,t⟩)) λ_ _ a=>a.elim)) λ_ _ a=>a.elim))
end
theorem Vz {env:Env} {f:(Str×NameKind)->List (Str×Addr)->Sem (ForInStep (List (Str×Addr)))}
 (C:∀n k j,k≠NameKind.free->f (n,k) j=pure (.yield j)) (D:∀n a j,env.cells.lookup n=some a->f (n,.free) j=pure (.yield ((n,a)::j))):
 ∀(i:List (Str×NameKind)) (d:List (Str×Addr)),(∀x∈i,x.2=.free->∃c,env.cells.lookup x.1=some c)->(∀x c,d.lookup x=some c->env.cells.lookup x=some c)->
  ∃h,forIn i d f=pure h/\(∀x c,h.lookup x=some c->env.cells.lookup x=some c/\((∃m,d.lookup x=some m)\/(x,NameKind.free)∈i))/\
   ∀x,((∃c,d.lookup x=some c)\/(x,NameKind.free)∈i)->∃c,h.lookup x=some c:=by
 intro i
 induction i with
 | nil=>exact λd _ l=>⟨d,U,λx c e=>⟨l x c e,.inl ⟨c,e⟩⟩,λx b=>b.elim (λz=>z) λz=>nomatch z⟩
 | cons y r B=>
  intro d v l;obtain ⟨n,k⟩:=y;have A:∀x∈r,x.2=.free->∃c,env.cells.lookup x.1=some c:=λx b=>v x (gI _ b)
  by_cases t:k=.free
  ·subst t;obtain ⟨a,e⟩:=v (n,.free) fh U;have e:env.cells.lookup n=some a:=e;have E:∀x c,((n,a)::d).lookup x=some c->env.cells.lookup x=some c:=λx c q=>by
    rw [fv] at q
    cases b:x==n with
    | true=>rw [b] at q;cases q;rw [beq_iff_eq.mp b];exact e
    | false=>rw [b] at q;exact l x c q
   obtain ⟨h,o,p,s⟩:=B ((n,a)::d) A E;refine ⟨h,?_,λx c q=>?_,λx b=>?_⟩
   ·rw [List.forIn_cons,D n a d e,pure_bind];exact o
   ·obtain ⟨u,g⟩:=p x c q;refine ⟨u,?_⟩;rcases g with ⟨m,g⟩ | g
    ·rw [fv] at g
     cases b:x==n with
     | true=>rw [beq_iff_eq.mp b];exact .inr fh
     | false=>rw [b] at g;exact .inl ⟨m,g⟩
    ·exact .inr (gI _ g)
   ·refine s x ?_;rcases b with ⟨c,b⟩ | b
    ·refine .inl ?_;rw [fv]
     cases x==n with
     | true=>exact ⟨a,U⟩
     | false=>exact ⟨c,b⟩
    ·rcases eR.mp b with z | z
     ·cases z;exact .inl ⟨a,by rw [fv,mE]⟩
     ·exact .inr z
  ·obtain ⟨h,o,p,s⟩:=B d A l;refine ⟨h,?_,λx c q=>?_,λx b=>?_⟩
   ·rw [List.forIn_cons,C n k d t,pure_bind];exact o
   ·obtain ⟨u,g⟩:=p x c q;exact ⟨u,g.elim .inl λz=>.inr (gI _ z)⟩
   ·refine s x ?_;rcases b with b | b
    ·exact .inl b
    ·rcases eR.mp b with z | z
     ·cases z;exact absurd U t
     ·exact .inr z
theorem OB {scope:Scope} {env:Env} (h:∀x∈scope.names,x.2=.free->∃c,env.cells.lookup x.1=some c):
 ∃b,closureFor scope env=pure b/\(∀x c,b.lookup x=some c->env.cells.lookup x=some c/\(x,NameKind.free)∈scope.names)/\∀x,(x,NameKind.free)∈scope.names->∃c,b.lookup x=some c:=by
 obtain ⟨b,g,i,j⟩:=Vz (env:=env) (f:=λx d=>if (x.2==NameKind.free)=true then do let a <-cellOf env x.1;pure (ForInStep.yield ((x.1,a)::d)) else pure (ForInStep.yield d))
  (λn k d l=>by
   have:(k==NameKind.free)=false:=by simpa using l
   simp only [this,Bool.false_eq_true,if_false])
  (λn a d e=>by
   simp only [mE,if_true,cellOf,e,pure_bind])
  scope.names [] h (λx c q=>nomatch q)
 refine ⟨b,?_,λx c q=>?_,λx m=>j x (.inr m)⟩
 ·unfold closureFor
  first
   | (rw [show (forIn scope.names ([]:List (Str×Addr)) _:Sem (List (Str×Addr)))=pure b from g];rfl)
   | (simp only [g,pure_bind];done)
   | exact (r (λz=>z>>=λd=>pure d) g).trans (pure_bind _ _)
 ·obtain ⟨o,p⟩:=i x c q;exact ⟨o,p.elim (λ⟨_,z⟩=>nomatch z) λz=>z⟩
theorem OQ {env:Env}:∀{b:List (Str×NameKind)} {x:Str},b.lookup x=some .free->
 (b.map λ(n,k)=>if (k==NameKind.free && env.scope.kind==.function && env.kindOf n==some .cell) then (n,NameKind.cell) else (n,k)).lookup x=some .cell\/
 (b.map λ(n,k)=>if (k==NameKind.free && env.scope.kind==.function && env.kindOf n==some .cell) then (n,NameKind.cell) else (n,k)).lookup x=some .free
 | [],_,h=>by simp at h
 | (n,k)::r,x,h=>by
  have c:= @OQ env r x;show List.lookup x ((if (k==NameKind.free && env.scope.kind==.function && env.kindOf n==some .cell)=true then (n,NameKind.cell) else (n,k))::_)=_\/
   List.lookup x ((if (k==NameKind.free && env.scope.kind==.function && env.kindOf n==some .cell)=true then (n,NameKind.cell) else (n,k))::_)=_
  cases hx:x==n with
  | true=>
   simp only [fv,hx] at h;cases h
   by_cases a:(NameKind.free==NameKind.free && env.scope.kind==.function && env.kindOf n==some .cell)=true
   ·rw [if_pos a];exact .inl (by simp [fv,hx])
   ·rw [if_neg a];exact .inr (by simp [fv,hx])
  | false=>
   simp only [fv,hx] at h
   by_cases a:(k==NameKind.free && env.scope.kind==.function && env.kindOf n==some .cell)=true
   ·rw [if_pos a];simp only [fv,hx];exact c h
   ·rw [if_neg a];simp only [fv,hx];exact c h
def gq (X:Cx) (scope:Scope) (a:List (Str×Addr)) (N:List Str) (ex:List Addr) (s:Shared) (H:Hp):Cx where
 prog:=X.prog
 w:=X.w
 K:=X.K
 mg:=X.mg
 base:=X.base
 A:=X.A
 N:=N
 bQ:=s
 gx:=H
 env:=compEnvC scope a s.heap.objs.size X.env
 outer:=X.stack
 stack:=X.stack
 ex:=ex
 fn:=λx=>scope.names.lookup x==some .local
 calm:=X.calm
 pn:=[]
 xe:=λ_ _=>False
def pk (a:List (Option Nat)) (b:St):St:=a.map λj=>match j with
 | none=>none
 | some j=>(b[j]?).join
structure hV (sc:Scope) (NX:List Str) (scope:Scope) (N:List Str) (js:List (Option Nat)):Prop where
 kind:scope.kind=.function
 cell:∀x∈scope.names,x.2≠.cell
 loc:∀x∈scope.names,x.2=.local->scope.names.lookup x.1=some .local
 free:∀x∈scope.names,x.2=.free->scope.names.lookup x.1=some .free/\(sc.names.lookup x.1=some .cell\/sc.names.lookup x.1=some .free)
 len:js.length=N.length
 at_:∀p∈js.zip N,p.1=none\/∃j∈List.range NX.length,p.1=some j/\NX[j]?=some p.2/\(p.2,NameKind.free)∈scope.names
theorem jZ {b:Scope} {a:List Str} {scope:Scope} {N:List Str} {js:List (Option Nat)} (c:scope.kind=.function:=by rfl) (d:∀x∈scope.names,x.2≠.cell:=by decide+kernel) (e:∀x∈scope.names,x.2=.local->scope.names.lookup x.1=some .local:=by decide+kernel) (f:∀x∈scope.names,x.2=.free->scope.names.lookup x.1=some .free/\(b.names.lookup x.1=some .cell\/b.names.lookup x.1=some .free):=by decide+kernel) (g:js.length=N.length:=by rfl) (h:∀p∈js.zip N,p.1=none\/∃j∈List.range a.length,p.1=some j/\a[j]?=some p.2/\(p.2,NameKind.free)∈scope.names:=by decide+kernel):hV b a scope N js:=⟨c,d,e,f,g,h⟩
section
theorem S4 (I:Inv X pins σ H s) (C:hV X.env.scope X.N scope N js) (g:∀x c,cl.lookup x=some c->X.env.cells.lookup x=some c/\(x,NameKind.free)∈scope.names)
 (M:∀x,(x,NameKind.free)∈scope.names->∃c,cl.lookup x=some c) (D:∀b∈ex,oV X pins H b/\b<s.heap.objs.size)
 (H_:h1.Ns s.heap.objs.size λ_=>none) (p:∀b o,s.heap.get? b=some o->h1.get? b=some o):Inv (gq X scope cl N ex s H) [] (pk js σ) H { s with heap:=h1,toks:=tk }:=by
 have W:∀x,(x,NameKind.free)∈scope.names->(relabel scope X.env).names.lookup x=some .cell\/(relabel scope X.env).names.lookup x=some .free:=λx A=>OQ (C.free _ A U).1;refine ⟨⟨I.ok.mod,C.kind,I.ok.glob,I.ok.blt,ar _,λx y c t a=>I.ok.inj x y c (g x c t).1 (g y c a).1,λx A=>?_,λx c n e=>?_,I.ok.hd,I.ok.frames,.inl U,λb h=>⟨fy (D b h).2,λx c e=>(D b h).1.2.2.2.2.1 x c (g x c e).1⟩,I.bs,cQ I.ok.m8 I.sz,λb o e h=>?_,λb h n=>?_,I.stack,I.iW⟩,
  rfl,I.bare,Un.kept p,⟨λ_=>none,H_,λi x v t a e3=>?_⟩,λx c e=>?_,I.a4.fresh (ar _),λx c e=>I.bS x c (g x c e).1,λx3 hp=>absurd (show x3∈([]:List (Addr×Obj)) from hp) (by simp),I.a4.kept p,?_⟩
 ·
  have A:(relabel scope X.env).names.lookup x=some .cell\/(relabel scope X.env).names.lookup x=some .free:=A;have u:(x,NameKind.free)∈scope.names:=by
   have R:∀k,(relabel scope X.env).names.lookup x=some k->k=.cell\/k=.free->(x,NameKind.free)∈scope.names:=λk F p=>by
    have m:=xj F;obtain ⟨⟨x2,Q⟩,u,e⟩:=eQ.mp m;dsimp only at e
    by_cases l:(Q==NameKind.free && X.env.scope.kind==.function && X.env.kindOf x2==some .cell)=true
    ·rw [if_pos l] at e;cases e;have:Q=.free:=by
      simp only [pS,beq_iff_eq] at l;exact l.1.1
     subst this;exact u
    ·rw [if_neg l] at e;cases e;rcases p with z | z
     ·exact absurd z (C.cell _ u)
     ·subst z;exact u
   rcases A with z | z
   ·exact R _ z (.inl U)
   ·exact R _ z (.inr U)
  exact M x u
 ·have n:(scope.names.lookup x==some .local)=true:=n;have T:=(C.free _ (g x c e).2 U).1;rw [T] at n;exact absurd n (by decide)
 ·obtain ⟨⟨_,_,_,L,_⟩,_⟩:=D b h;rcases L with z | z
  ·exact I.ok.i_ b o e z
  ·exact absurd (gZ (gZ (cV e) I.ok.m8) z) (ji _)
 ·obtain ⟨⟨_,Y,zu,_⟩,_⟩:=D b h;rcases eR.mp (I.iV b n) with z | z
  ·exact Y z
  ·exact zu z
 ·
  unfold pk at a;rw [cW] at a
  cases J:js[i]? with
  | none=>rw [J] at a;cases a
  | some oj=>
   rw [J] at a
   cases oj with
   | none=>cases a
   | some j=>
    have B:(σ[j]?).join=some v:=ff a;have V:σ[j]?=some (some v):=by
     cases q:σ[j]? with
     | none=>rw [q] at B;cases B
     | some z=>rw [q] at B;exact congrArg some B
    have t:N[i]?=some x:=t;have L:(some j,x)∈js.zip N:=rM.mpr ⟨i,by rw [List.getElem?_zip_eq_some];exact ⟨J,t⟩⟩;obtain ⟨r,d⟩:X.N[j]?=some x/\(x,NameKind.free)∈scope.names:=by
     rcases C.at_ _ L with q | ⟨j',_,q,r,d⟩
     ·cases q
     ·cases q;exact ⟨r,d⟩
    have r:X.N[j]?=some x:=r;have d:(x,NameKind.free)∈scope.names:=d;obtain ⟨_,f⟩:=C.free _ d U;have f:X.env.scope.names.lookup x=some .cell\/X.env.scope.names.lookup x=some .free:=f;obtain ⟨m,_,F⟩:=I.loc;obtain ⟨x5,x4,x1⟩:=F j x v r V (.inr f);refine ⟨x5,x4,?_⟩;rcases x1 with ⟨k,_⟩ | ⟨_,c,l,z⟩
    ·have k:X.env.scope.names.lookup x=some .local:=k;rcases f with f | f<;>(rw [f] at k;cases k)
    ·obtain ⟨S,O⟩:=M x d;have:=(g x S O).1;rw [l] at this;cases this;obtain ⟨o,G,E⟩:=z;exact .inr ⟨W x d,c,O,⟨o,p _ _ G,E⟩⟩
 ·obtain ⟨v,o,G,E⟩:=I.cell x c (g x c e).1;exact ⟨v,o,p _ _ G,E⟩
 ·show (pk js σ).length=N.length;unfold pk;rw [ak];exact C.len
end
def vA (X:Cx) (d:List Expr) (t:TT):Prop:=
 ∀(b:List (Addr×Obj)) (s:Shared) (a:St) (H:Hp) (Q:Bool->Hp->Prop),Inv X b a H s->t a H Q->
  wpAny (model X.prog X.w) X.A (forIn d true λc r=>if r=true then do let ok <-isTrue c X.env (eval c X.env);pure (ForInStep.yield ok) else pure (ForInStep.yield r)) (TP X b a Q) X.xe s
def Xv:TT:=λ_ H Q=>Q true H
theorem nI:vA X [] Xv:=λ_ _ _ H _ I h=>wpAny_tests_nil ⟨H,I,h⟩
theorem xQ (h:PT X c t):vA X [c] t:=λb s d H Q I a=>wpAny_tests_one (h b s d H Q I a)
def vQ (o:List (Option Nat)) (g:TG) (p:TT) (q:TE) (r:St) (Q:VK) (J:It) (l:Hp) (D:Addr):Prop:=∃W:Nat->Nat->St->Hp->Prop,(∃m,W 0 m (pk o r) (upd l D (.lst [])))/\
 ∀i m j a,W i m j a->(J.stop i a/\Q (.ref D) a)\/(J.go i a/\∃N:St->Hp->Prop,(∀k b,N k b->∃h,h<m/\W (i+1) h k b)/\
  ∀x b,J.u9 i a x b->g x j b λc n=>p c n λok e=>if ok=true then q c e λy f=>∃d,f D=some (.lst d)/\d.length<sizeLine/\N c (upd f D (.lst (d++[y]))) else N c e)
def AF (c:List (Option Nat)) (f:TI) (g:TG) (d:TT) (e:TE):TE:=λb H Q=>f b H λJ a=>∀D,a D=none->vQ c g d e b Q J a D
def jY (l:List (Str×NameKind)):Scope:={ kind:=.function,names:=l,isGenerator:=false,isCoroutine:=false,more:=[] }
section
theorem LL {f:List (Str×Addr)} {t:List (Addr×Obj)} {y:St} {H:Hp} {s:Shared} {E:Value->Shared->Prop} {Q:VK} {RR:Value->Addr->Result->Shared->Prop} (hc:lq X) (C:hV X.env.scope X.N scope N js)
 (c2:∀x c,f.lookup x=some c->X.env.cells.lookup x=some c/\(x,NameKind.free)∈scope.names) (c3:∀x,(x,NameKind.free)∈scope.names->∃c,f.lookup x=some c)
 (a:∀f ex s H,lq (gq X scope f N ex s H)->PG (gq X scope f N ex s H) tg g/\vA (gq X scope f N ex s H) ifs tc/\PE (gq X scope f N ex s H) elt te)
 {it:Addr} {h:List Addr} {v:Nat->Heap->Prop} {x2:It} (I:Inv X t y H s) (T:u4 X.prog X.w X.K tg x2 h it v) (st:v 0 s.heap) (J:∀b∈h,oV X t H b)
 (x4:∀D,H D=none->vQ js g tc te y Q x2 H D)
 (hRR:∀D q d s',Q (.ref D) d->(∃m,s'.heap.Ns q m)->d q=none->X.bQ.heap.objs.size<=q->q≠X.env.locals->(∀x c,X.env.cells.lookup x=some c->c≠q)->(∀p∈X.pn++t,p.1≠q)->Inv X t y d s'->RR (.ref D) q (.ok .next) s'):
 wpAny (model X.prog X.w) X.A (newList []) (λacc FY=>wpAny (model X.prog X.w) X.A (newFunctionEnv scope X.env.globals f [] X.env.qual none .none (some X.env)) (λzR FX=>
  codeAny (model X.prog X.w) X.A (.compStart (.ListComp elt [⟨tg,iter,ifs,0⟩] scope pos) 0 (.ref it) acc { zR with scope:=relabel scope X.env }) (RR acc zR.locals) FX) E FY) E s:=by
 have hD:H s.heap.objs.size=none:=I.fresh;have k:Inv X t y (upd H s.heap.objs.size (.lst [])) { s with heap:=s.heap.push { cls:=.type "list",data:=.seq ([]:List Value).toArray } }:=I.uU (its:=[]) (ys:=[]) (t':=s.toks) .nil (dV _);refine pU (wpAny_newFunctionEnv C.cell (by intro x1 hy;simp at hy) (λh₁ W Z=>?_) C.kind);dsimp only at W Z ⊢;generalize QG:({ s with heap:=s.heap.push { cls:=.type "list",data:=.seq ([]:List Value).toArray } }:Shared)=s3 at k;have R:s.heap.push { cls:=.type "list",dict:=none,data:=.seq ([]:List Value).toArray }=s3.heap:=by rw [<-QG]
 rw [R] at W Z ⊢;have kp:∀b o,s3.heap.get? b=some o->h₁.get? b=some o:=λb o e=>Z.extBut b o (fy (cV e)) (cL _ e);have S:∀b∈h,b<s.heap.objs.size:=λb a=>by obtain ⟨o,e,_⟩:=T.obj 0 s.heap st b a;exact cV e
 have P':s3.heap.objs.size=s.heap.objs.size+1:=by rw [<-R,Af]
 have f3:∀b∈h,oV X t (upd H s.heap.objs.size (.lst [])) b:=λb a=>by obtain ⟨h1,h2⟩:=J b a;exact ⟨by rw [ag (fy (S b a))];exact h1,h2⟩
 have IY:∀tk,Inv (gq X scope f N h s3 (upd H s.heap.objs.size (.lst []))) [] (pk js y) (upd H s.heap.objs.size (.lst [])) { s3 with heap:=h₁,toks:=tk }:=λtk=>
  S4 k C c2 c3 (λb a=>⟨f3 b a,by rw [P'];exact Ae (S b a)⟩) W kp
 have iX:v 0 h₁:=T.keep 0 s.heap h₁ st λb _ o e=>kp b o (by rw [<-R];exact cL _ e);obtain ⟨x3,⟨m0,w0⟩,turn⟩:=x4 s.heap.objs.size hD;have M:lq (gq X scope f N h s3 (upd H s.heap.objs.size (.lst []))):=hc.Ϝ k U U λ_ _ _ z=>z;have hbY:=a f h s3 (upd H s.heap.objs.size (.lst [])) M;obtain ⟨hg,hif,he⟩:=hbY;have uE:∀{d:Hp},(∀b∈h,d b=none)->∀b∈h,oV (gq X scope f N h s3 (upd H s.heap.objs.size (.lst []))) [] d b:=λV b a=>by
  obtain ⟨_,L,zu,_,O,_⟩:=J b a;refine ⟨V b a,fy (by show b<s3.heap.objs.size;rw [P'];exact Ae (S b a)),λz=>?_,.inl a,λx c e=>O x c (c2 x c e).1,λp u=>absurd (show p∈([]:List (Addr×Obj)) from u) (by simp)⟩;rcases eR.mp (I.iV b z) with z | z
  ·exact L z
  ·exact zu z
 have loop:∀s4:Shared,s4={ s3 with heap:=h₁,toks:=s.toks+([]:List (Str×Value)).length }->
  codeAny (model X.prog X.w) X.A (.compLoop (.ListComp elt [⟨tg,iter,ifs,0⟩] scope pos) 0 (.ref it) (.ref s.heap.objs.size) (compEnvC scope f s3.heap.objs.size X.env)) (RR (.ref s.heap.objs.size) s3.heap.objs.size) s4:=by
  rintro s4 rfl;refine Vd (λn s'=>∃i l d,Inv (gq X scope f N h s3 (upd H s.heap.objs.size (.lst []))) [] l d s'/\v i s'.heap/\(∀b∈h,d b=none)/\x3 i n l d) ?_ m0
   ⟨0,_,_,IY _,iX,λb a=>(f3 b a).1,w0⟩
  rintro n s5 ⟨i,B,A,I5,B',Ct,w5⟩;rcases turn i n B A w5 with ⟨stop,qn⟩ | ⟨go,Nx,hN,step⟩
  ·refine ay (T.done (gq X scope f N h s3 (upd H s.heap.objs.size (.lst []))) U U U M i [] s5 B A _ I5 (uE Ct) B' stop) λx5 s6 ⟨Y,r⟩=>?_;subst Y;obtain ⟨m,V,_⟩:=r.loc;refine hRR _ _ A s6 qn ⟨m,V⟩ r.free (cQ k.sz (ar _)) (tD k.lt) (λx c e z=>?_) (λp u z=>?_) (k.oN r.os r.base r.a4 r.bare λb a=>?_)
   ·obtain ⟨x7,o,ho,_⟩:=k.cell x c e;exact absurd (cV ho) (by rw [z];exact ji _)
   ·exact absurd (cV (k.pin p u).1) (by rw [z];exact ji _)
   ·obtain ⟨_,L,_,hx,O,u⟩:=J b a;exact ⟨hx,L,O,u⟩
  ·refine ay (T.item (gq X scope f N h s3 (upd H s.heap.objs.size (.lst []))) U U U M i [] s5 B A _ I5 (uE Ct) B' go) λx5 s6 j=>L2.Rq j λx6 Y h6=>?_;subst Y;refine ay h6 λ_ s7 j=>?_;obtain ⟨x,H7,I7,r7,y7,F_,fr7⟩:=j;have I7':=I7.pinned (uE fr7) (T.obj _ _ F_);refine ay (hg _ s7 B H7 x x6 _ I7' r7 (step x H7 y7)) λ_ s8 j=>?_;obtain ⟨F,H8,I8,q8⟩:=j;refine ay (hif _ s8 F H8 _ I8 q8) λok s9 j=>?_;obtain ⟨H9,I9,q9⟩:=j;have again:∀{s':Shared} {l:St} {d:Hp},Inv (gq X scope f N h s3 (upd H s.heap.objs.size (.lst []))) ([]++xH h s7.heap) l d s'->Nx l d->
    ∃m,m<n/\∃i xt Kh,Inv (gq X scope f N h s3 (upd H s.heap.objs.size (.lst []))) [] xt Kh s'/\v i s'.heap/\(∀b∈h,Kh b=none)/\x3 i m xt Kh:=λ{s' l d} G n'=>by
    obtain ⟨m',hm,w'⟩:=hN l d n';refine ⟨m',hm,i+1,l,d,G.fQ,T.keep _ _ _ F_ λb a o e=>(G.pin (b,o) (jq _ (jq _ (BG a e)))).1,λb a=>?_,w'⟩;obtain ⟨o,e,_⟩:=T.obj _ _ F_ b a;exact (G.pin (b,o) (jq _ (jq _ (BG a e)))).2.1
   cases ok with
   | false=>exact again I9 q9
   | true=>
    refine ay (he _ s9 F H9 _ I9 q9) λyv GQ j=>?_;obtain ⟨x1,xp,I10,Õ,ys,hDD,Ii,ñ⟩:=j;refine ay (jT _ GQ F xp (.ref s.heap.objs.size) [x1] (.ref s.heap.objs.size) [yv] (λ_ d=>Nx F d) I10 U (.cons Õ .nil) ⟨_,ys,x1,U,U,hDD,Ii,ñ⟩) λ_ yM j=>?_;obtain ⟨_,De,I11,_,ð⟩:=j;exact again I11 ð
 have e4:({ s with heap:=h₁,toks:=s.toks+([]:List (Str×Value)).length }:Shared)={ s3 with heap:=h₁,toks:=s.toks+([]:List (Str×Value)).length }:=by rw [<-QG]
 exact codeAny_compStart_list (loop _ e4) (T.self _ 0 _ _ _ iX (loop _ e4))
theorem SR (u:lq X) (B:PI X tg iter wi) (C:hV X.env.scope X.N scope N js)
 (c:∀a ex s H,lq (gq X scope a N ex s H)->PG (gq X scope a N ex s H) tg g/\vA (gq X scope a N ex s H) ifs tc/\PE (gq X scope a N ex s H) elt te)
 (L:∀x,foldedSetIterable iter X.env x=pure x:=by intro _;rfl):PE X (.ListComp elt [⟨tg,iter,ifs,0⟩] scope pos) (AF js wi g tc te):=by
 intro f s i H Q I h;obtain ⟨a,v,o,p⟩:=OB (scope:=scope) (env:=X.env) λx O z=>I.ok.has x.1 (C.free x O z).2;rw [eval_ListComp];refine wpAny_comprehension_free (use:=none) U L v C.kind C.loc (ay (B f s i H _ I h) λxv cy R=>ay R λQ0 mi S=>?_);obtain ⟨it,fp,tn,x1,H2,rfl,l,T,Y,r,q⟩:=S;refine LL (RR:=λn d=>compPost (model X.prog X.w) X.A X.xe none (EP X f i Q) n d) u C o p c l T Y r q ?_;intro D d j V J F A M t y G k;obtain ⟨m,E⟩:=F;refine ⟨m,E,λh' W=>⟨.ref D,j,?_,U,J⟩⟩;exact k.turned (t':=V.toks) (λb x2 c e=>(W.2 b c).trans e) A (a6 (a6 t)) (.inr M) y G
theorem me (c:X.calm=true) (d:PI X tg iter J) (C:hV X.env.scope X.N scope N js)
 (b:∀a ex s H,PG (gq X scope a N ex s H) tg g/\vA (gq X scope a N ex s H) ifs tc/\PE (gq X scope a N ex s H) elt I)
 (e:∀x,foldedSetIterable iter X.env x=pure x:=by intro _;rfl):PE X (.ListComp elt [⟨tg,iter,ifs,0⟩] scope pos) (AF js J g tc I):=SR (.inl c) d C (λa ex s H _=>b a ex s H) e
theorem SY (L:X.N.Nodup) (Y:X.N[i]?=some y) (r:X.env.scope.names.lookup y=some .local) (O:lq X) (W:PI X tg iter wi) (C:hV X.env.scope X.N scope N js)
 (k:∀c ex s H,lq (gq X scope c N ex s H)->PG (gq X scope c N ex s H) tg g/\vA (gq X scope c N ex s H) ifs tc/\PE (gq X scope c N ex s H) elt te)
 (Ϯ:swapsWith (.ListComp elt [⟨tg,iter,ifs,0⟩] scope pos) (some (.Name y py)) G7.line X.env=pure true:=by rfl)
 (hs:∀x,foldedSetIterable iter X.env x=pure x:=by intro _;rfl):PS X (.Assign [.Name y py] (.ListComp elt [⟨tg,iter,ifs,0⟩] scope pos) G7) (yA (AF js wi g tc te) (tS i)):=by
 intro n s t H D I h;obtain ⟨c,R,F,G⟩:=OB (scope:=scope) (env:=X.env) λx m S=>I.ok.has x.1 (C.free x m S).2;rw [exec_Assign_Name_used _ _ _ _ Ϯ];refine ae (Ak (ae ?_));show wpAny _ X.A (do let _ <-comprehension (.ListComp elt [⟨tg,iter,ifs,0⟩] scope pos) scope X.env _ (newList []) false (eval iter X.env) (some (assign (.Name y py) X.env))) _ _ s;refine ae (gY (wpAny_comprehension_free (use:=some (assign (.Name y py) X.env)) (Q:=λ_ d=>SP X n D .next d) U hs R C.kind C.loc (ay (W n s t H _ I h) λxv cy h₁=>ay h₁ λQ0 mi Hy=>?_))
  (λ_ d l=>aI (aI l)) λ_ _ e=>e)
 obtain ⟨it,fp,tn,x3,H2,rfl,j,T,eW,J,x2⟩:=Hy;refine LL (Q:=λx A=>tS i x t A D.nx) (RR:=λE f=>compPost (model X.prog X.w) X.A X.xe (some (assign (.Name y py) X.env)) (λ_ d=>SP X n D .next d) E f) O C F G k j T eW J x2 ?_;intro o f u d l H_ V hsz p q HU B;obtain ⟨x1,Z⟩:=H_;show wpAny _ X.A (assign (.Name y py) X.env (.ref o)) _ _ _;refine wpAny_assign_Name (Nu B L Y (.inl r) (v:=.ref o) U (λs2 j m=>?_) (.inr r));obtain ⟨a,Ì,M⟩:=m;have kQ:f≠a:=by
  rcases M with z | z
  ·rw [z];exact p
  ·exact λe=>q y a z e.symm
 refine ⟨x1,Z.sameBut Ì kQ,λh' sb=>⟨_,u,?_,l⟩⟩;exact j.turned (t':=s2.toks) (λb x4 k e=>(sb.2 b k).trans e) V p (.inr hsz) q HU
theorem DK (b:X.N.Nodup) (f:X.N[i]?=some y) (k:X.env.scope.names.lookup y=some .local) (d:X.calm=true) (e:PI X tg iter wi) (C:hV X.env.scope X.N scope N js)
 (c:∀a ex s H,PG (gq X scope a N ex s H) tg g/\vA (gq X scope a N ex s H) ifs tc/\PE (gq X scope a N ex s H) elt J)
 (j:swapsWith (.ListComp elt [⟨tg,iter,ifs,0⟩] scope pos) (some (.Name y py)) I.line X.env=pure true:=by rfl)
 (h:∀x,foldedSetIterable iter X.env x=pure x:=by intro _;rfl):PS X (.Assign [.Name y py] (.ListComp elt [⟨tg,iter,ifs,0⟩] scope pos) I) (yA (AF js wi g tc J) (tS i)):=SY b f k (.inl d) e C (λa ex s H _=>c a ex s H) j h
end
section
theorem yq {l:Int} {n:Nat} (b:Nat->St->Hp->Prop) (r:b 0 (pk js h) (upd H D (.lst [])))
 (u:∀i c a,i<n->b i c a->g (.int (l+i)) c a λf q=>tc f q λok j=>if ok=true then C f j λy k=>∃ys,k D=some (.lst ys)/\ys.length<sizeLine/\b (i+1) f (upd k D (.lst (ys++[y]))) else b (i+1) f j)
 (s:∀c a,b n c a->Q (.ref D) a):
 vQ js g tc C h Q (tM l n) H D:=by
 refine ⟨λi m h H=>m=n-i/\i<=n/\b i h H,⟨n,by simp,dV _,r⟩,?_⟩;rintro i m c a ⟨rfl,t,p⟩
 by_cases d:i<n
 ·refine .inr ⟨d,b (i+1),λz o v=>⟨n-(i+1),sE d,U,d,v⟩,λx o y=>?_⟩;obtain ⟨e,y⟩:=y;subst e y;exact u i c _ d p
 ·have e:i=n:=sF t d;subst e;exact .inl ⟨ar _,s c a p⟩
theorem sG {a:Addr} {xs:List V} (d:Nat->St->Hp->Prop) (s:d 0 (pk js j) (upd H D (.lst []))) (u:∀i c b,i<=xs.length->d i c b->ai K b a xs)
 (v:∀i x c b,xs[i]?=some x->d i c b->g x c b λh r=>tc h r λok k=>if ok=true then C h k λy l=>∃ys,l D=some (.lst ys)/\ys.length<sizeLine/\d (i+1) h (upd l D (.lst (ys++[y]))) else d (i+1) h k)
 (t:∀c b,d xs.length c b->Q (.ref D) b):
 vQ js g tc C j Q (xo K a) H D:=by
 refine ⟨λi m j H=>m=xs.length-i/\i<=xs.length/\d i j H,⟨xs.length,by simp,dV _,s⟩,?_⟩;rintro i m c b ⟨rfl,n,p⟩;have q:=u i c b n p
 by_cases f:i<xs.length
 ·refine .inr ⟨⟨xs,xs[i],q,by simp [f]⟩,d (i+1),λA o z=>⟨xs.length-(i+1),sE f,U,f,z⟩,λx o y=>?_⟩;obtain ⟨e,y⟩:=y;subst e;exact v i x c _ (y xs q) p
 ·have e:i=xs.length:=sF n f;subst e;exact .inl ⟨⟨xs,q,ar _⟩,t c b p⟩
end
end L2
set_option maxHeartbeats 4000000
namespace L2
open PySem PySem.Spec PyProof.Rows
abbrev m9:List Value:=[.type "ValueError",.type "Exception",.type "BaseException",.type "object"]
def iF (a C:Addr) (dx:Option Addr):HO:=.ext λh=>∃t:Addr,h.get? a=some (dy C dx (.ref t) .none)
def ju (d:Addr) (b:List (Str×V)):HO:=.ext λh=>∃a,h.Ns1 d a/\(∀f,ie (b.lookup f) (a f))/\PySem.Within a (b.map (·.1))
section
theorem DP (e:h.get? a=some (dy C dx (.ref t) .none)):cZ P w H h a (iF a C dx):=⟨⟨t,e⟩,⟨_,e⟩,λ_ _ ⟨c,b⟩ k=>⟨c,k _ b⟩⟩
theorem DO (ok:dJ P w H h) (e:H a=some (iF a C dx)):∃t:Addr,h.get? a=some (dy C dx (.ref t) .none):=(ok a _ e).1
theorem YR (n:h.Ns1 d mA) (r:∀f,ie (fs.lookup f) (mA f)) (g:PySem.Within mA (fs.map (·.1))):cZ P w H h d (ju d fs):=by refine ⟨⟨mA,n,r,g⟩,?_,λi j ⟨m,a,b,c⟩ k=>⟨m,a.at k,b,c⟩⟩;obtain ⟨o,_,_,e,_⟩:=n;exact ⟨o,e⟩
theorem Zr (ok:dJ P w H h) (e:H d=some (ju d fs)):∃a,h.Ns1 d a/\(∀f,ie (fs.lookup f) (a f))/\PySem.Within a (fs.map (·.1)):=(ok d _ e).1
theorem YJ (e:H a=some o):upd H a o=H:=by
 funext b
 by_cases c:b=a
 ·rw [c,ah,e]
 ·rw [ag c]
end
theorem Inv.jA (I:Inv X pins σ H s) (kp:∀b u,b≠a->s.heap.get? b=some u->h'.get? b=some u) (y:H a=none)
 (D:X.bQ.heap.objs.size<=a) (g:a≠X.env.locals) (l:∀x c,X.env.cells.lookup x=some c->c≠a) (C:∀p∈X.pn++pins,p.1≠a) (E:cZ X.prog X.w (upd H a o) h' a o):Inv X pins σ (upd H a o) { s with heap:=h',toks:=t' }:=by
 have f:∀b u,H b=some u->b≠a:=λb u e=>a7 e y;refine I.step (g':=s.gens) (d':=s.drawn) (ch:=[a]) (λb d=>?_) (λb u _ _ d e _=>kp b u (λz=>d (by simp [z])) e) (λb u _ _ d e _=>⟨u.slots,kp b u (λz=>d (by simp [z])) e⟩) (λb u d _ n=>by rw [ag λz=>d (by simp [z])];exact n)
  (λb u d e=>⟨u,kp b u (λz=>d (by simp [z])) e⟩) (λb i e=>by rw [ag (f b _ e)];exact e) (λb u i e=>by rw [ag (f b _ e)];exact e) (λb F e=>⟨#[],by rw [ag (f b _ e),e];simp⟩) (λm A=>?_) (λb u e=>?_) I.bare
 ·have e:b=a:=by simpa using d
  subst e;exact ⟨.inr D,g,l,C⟩
 ·obtain ⟨h,k,j,B,r⟩:=A;exact ⟨h,k,j,kp _ h (a6 g) B,r⟩
 ·by_cases d:b=a
  ·subst d;rw [ah] at e;cases e;exact E
  ·rw [ag d] at e;refine (I.a4 b u e).ei (λc v t q=>kp c v ?_ q) (λc q=>by rw [ag (f c _ q)];exact q) λc i q=>by rw [ag (f c _ q)];exact q
   rcases t with z | z
   ·rw [z];exact d
   ·exact f c _ z
structure nk (K:aY) (C M fI:Addr):Prop where
 obj:∃(nm q:Str) (N:Addr) (bs:List Value) (sn:List Str) (sub:List Value) (ab:Bool) (col:Option Bool) (dd:Option Addr) (k0 k1 k2 k3 k5:Option Value),
  K.lookup C=some (excClassObj nm q C N bs (.ref M::m9) true sn sub ab col dd k0 k1 k2 k3 k5 "ValueError.__new__")/\PySem.W.nsOkIn K N=true/\PySem.W.nsIn K N "__init__"=some (some (.ref fI))
 tail:PySem.W.tailIn K m9 (.ref M::m9)=true
 fn:PySem.W.isFn K (.ref fI)=true
 kp:PySem.W.keepIn K (.ref C)=true
 sa:PySem.W.findIn K (.ref C) "__setattr__"=some (some (.builtin "object.__setattr__"))
theorem V5 {h:Heap} {N:Addr} {m:Str->Option Value} {n:Str} {v:Value} (X:K.In h) (G:h.Ns N m) (e:PySem.W.nsIn K N n=some (some v)):m n=some v:=by
 obtain ⟨o,k,j,g,a,_,f⟩:=G;unfold PySem.W.nsIn at e;split at e
 ·rename_i c d l p r q
  have z:=X _ _ q;rw [g] at z;cases z;cases a;split at e
  ·rename_i i b
   cases e;rw [<-f];unfold nsFind findBy;rw [<-Array.find?_toList,b];rfl
  ·split at e<;>cases e
 ·cases e
section
variable {os:OsState}
theorem Wu (T:OwnTail h m9 bm)
 (a:h.get? C=some (excClassObj nm q C N bs bm J sn sub ab col dd k0 k1 k2 k3 k5 "ValueError.__new__")) (u:h.Ns N mN) (s:mN "__init__"=some (.ref fI)) (l:h.get? fI=some I) (n:I.cls=.type "function")
 (y:wpAny (model prog w) A (call (.ref fI) (.ref (h.objs.size+1)::args)) (λr s'=>r=.none/\Q (.done (.ret (.ref (h.objs.size+1)))) s') E
  ⟨(h.push { cls:=.type "tuple",data:=.seq args.toArray }).push (dy C none (.ref h.objs.size) .none),g,d,t,os⟩) (B:args.length<=sizeLine):
 wpAny (model prog w) A (Builtin.«type.__call__» ⟨.ref C::args,[]⟩) Q E ⟨h,g,d,t,os⟩:=by
 have F:=PySem.F.excBase_ValueError
 repeat (first | with_reducible refine Ao a ?_ | with_reducible refine wpAny_madeBy_exc a ?_ | wp_step)
 refine codeAny_call_builtin_code (Code.quiet_builtin _ F.quiet) (wpAny_check_new_subT F T a ?_);refine codeAny_exc_new_subT F T a ?_ B;show wpAny _ _ _ _ _ _;have c:∀b o,h.get? b=some o->((h.push { cls:=.type "tuple",data:=.seq args.toArray }).push (dy C none (.ref h.objs.size) .none)).get? b=some o:=
  λb o e=>cL _ (cL _ e)
 have f:=c _ _ a;have m:=c _ _ l;have v:((h.push { cls:=.type "tuple",data:=.seq args.toArray }).push (dy C none (.ref h.objs.size) .none)).Ns N mN:=u.keeps c;have p:((h.push { cls:=.type "tuple",data:=.seq args.toArray }).push (dy C none (.ref h.objs.size) .none)).get? (h.objs.size+1)=some (dy C none (.ref h.objs.size) .none):=by heap_get
 have k:(Value.ref C::bm).contains (.ref C)=true:=by simp
 have i:=T.keeps c;unfold isInstance
 repeat (first | with_reducible refine Ao p ?_ | (with_reducible refine wpAny_isSubtype_exc f ?_;rw [k]) | wp_step)
 show wpAny _ _ (typeLookup (.ref C) _) _ _ _;refine wpAny_typeLookup_tail f v i F.mroIs F.init.lookup ?_;rw [s];refine lS (ae ?_);unfold bindSpecial;refine ae (C7 (T:="function") ⟨_,m,n⟩ ?_);rw [if_pos (by decide)];refine aI (ae (gY y (λr s' z=>?_) λ_ _ x=>x));obtain ⟨rfl,j⟩:=z
 wp_walk
 exact j
theorem SO (T:OwnTail h m9 bm)
 (a:h.get? C=some (excClassObj nm q C N bs bm hdct sn sub ab col dd k0 k1 k2 k3 k5 "ValueError.__new__")) (f:h.Ns N I) (e:I "__init__"=some (.ref fI)) (b:h.get? fI=some J) (c:J.cls=.type "function")
 (i:wpAny (model prog w) (A.under (.builtin "type.__call__" ⟨.ref C::args,[]⟩)) (call (.ref fI) (.ref (h.objs.size+1)::args)) (λr s'=>r=.none/\Q (.ref (h.objs.size+1)) s') E
  ⟨(h.push { cls:=.type "tuple",data:=.seq args.toArray }).push (dy C none (.ref h.objs.size) .none),g,d,t,os⟩) (j:args.length<=sizeLine):
 wpAny (model prog w) A (call (.ref C) args) Q E ⟨h,g,d,t,os⟩:=by
 have k:=tc_lookup;have l:=tc_bind (.ref C);have m:(⟨h,g,d,t,os⟩:Shared).TypeIs (.ref C) "type":=⟨_,a,U⟩;refine tJ (codeAny_of_tree ?_);show wpAny _ _ (callAny (.ref C) _) _ _ _
 repeat (any_goals (first | assumption | with_reducible refine Ao a ?_ | wp_step))
 refine ⟨U,?_⟩;refine codeAny_call_builtin_at (Code.quiet_builtin _ (by decide+kernel)) entry_typeCall (wpAny_check_type_call_sub a (Wu T a f e b c ?_ j));exact i
end
def YE (C:Addr) (sp:Sp) (E:XK) (t:TA):TE:=λd H Q=>t d H λb a=>b.length<=sizeLine/\∀x,a x=none->sp (.ref x::b) (upd a x (iF x C none)) (λv c=>v=.a9/\Q (.ref x) c) E
section
theorem Vs {h:List (Addr×Obj)} {i:St} {H:Hp} {s:Shared} {Q:VK} {us:List Value} {vs:List V} (M:nk X.K C Mo f) (F:af X.prog X.w X.K X.mg X.base CX k f fd ps sp) (Y:cA (k+1) X.A) (G:cY X.K fd ps [])
 (Z:pe CX X E) (I:Inv X h i H s) (r:aX vs us) (hz:vs.length<=sizeLine)
 (W:∀x,H x=none->sp (.ref x::vs) (upd H x (iF x C none)) (λv y=>v=.a9/\Q (.ref x) y) E):wpAny (model X.prog X.w) X.A (call (.ref C) us) (EP X h i Q) X.xe s:=by
 obtain ⟨nm,x2,N,bs,sn,sub,ab,col,dd,k0,k1,k2,k3,k5,lk,ß,ϛ⟩:=M.obj;have a:=I.de;have D:=a _ _ lk;have T:=PySem.W.tail_of_in a M.tail;have q:s.heap.Ns N (s.heap.nsMap N):=.of_isNs (PySem.W.isNs_of_in a ß);have R:=V5 a q ϛ;have S:∃l,s.heap.get? f=some l/\l.cls=.type "function":=by
  have m:PySem.W.typeIn X.K (.ref f)=some (.type "function"):=beq_iff_eq.mp M.fn;unfold PySem.W.typeIn at m
  cases c:X.K.lookup f with
  | none=>simp [c] at m
  | some o=>exact ⟨o,a _ _ c,by simpa [c] using m⟩
 obtain ⟨l,J,L⟩:=S;have n:=W (s.heap.objs.size+1) (I.a4.fresh (kg _));have kp:∀b o,s.heap.get? b=some o->((s.heap.push { cls:=.type "tuple",data:=.seq us.toArray }).push (dy C none (.ref s.heap.objs.size) .none)).get? b=some o:=
  λb o e=>cL _ (cL _ e)
 have O:((s.heap.push { cls:=.type "tuple",data:=.seq us.toArray }).push (dy C none (.ref s.heap.objs.size) .none)).get? (s.heap.objs.size+1)=some (dy C none (.ref s.heap.objs.size) .none):=by
  have x1:=jh (s.heap.push { cls:=.type "tuple",data:=.seq us.toArray }) (o:=dy C none (.ref s.heap.objs.size) .none) U
  rwa [Af] at x1
 have g:Inv X h i (upd H (s.heap.objs.size+1) (iF (s.heap.objs.size+1) C none)) { s with heap:=(s.heap.push { cls:=.type "tuple",data:=.seq us.toArray }).push (dy C none (.ref s.heap.objs.size) .none) }:=
  I.laid (t':=s.toks) kp (kg _) (DP O)
 have t:aX (V.ref (s.heap.objs.size+1)::vs) (Value.ref (s.heap.objs.size+1)::us):=.cons U r;have c:(Value.ref (s.heap.objs.size+1)::us).length=ps.length:=by rw [<-t.length];exact F.len _ _ _ _ n
 have p:=G { s with heap:=(s.heap.push { cls:=.type "tuple",data:=.seq us.toArray }).push (dy C none (.ref s.heap.objs.size) .none) } (Value.ref (s.heap.objs.size+1)::us) g.de (by simpa using c);rw [rL] at p;obtain ⟨j,gg,dd',tt,oo⟩:=s;refine SO T D q R J L ?_ (by rw [<-r.length];exact hz);refine tJ (wV (F.run _ X.stack _ _ ⟨Value.ref (j.objs.size+1)::us,[]⟩ (Value.ref (j.objs.size+1)::us) _ _ E (Y.make C us []) (g.rE.make C us []) p t n) λr s' d=>?_)
 cases r with
 | error e=>exact Z h i _ _ e s' g d
 | ok B=>
  cases B with
  | ret x3=>
   obtain ⟨v,u,z,rv,A,q3⟩:=g.after d;subst A;exact ⟨rv,⟨V.ref (j.objs.size+1),u,z,U,q3⟩⟩
  | next=>exact gX d
  | brk=>exact gX d
  | cont=>exact gX d
theorem SU (M:nk X.K C Mo f) (F:af X.prog X.w X.K X.mg X.base CX k f fd ps sp) (m:cA (k+1) X.A) (i:Gl X x) (j:X.mg x=some (.ref C)) (c:cY X.K fd ps []) (n:pe CX X E)
 (b:PA X (e::J) t) (d:(x==("__debug__":Str))=false:=by decide) (g:starEach (e::J) X.env=(false,eval e X.env)::starEach J X.env:=by rfl) (l:(backTo pos (starEach J X.env)).any (·.1)=false:=by rfl):
 PE X (.Call (.Name x p) (e::J) [] pos) (YE C sp E t):=by
 intro o s v H Q I h;refine xc (vR I i j ?_ d);refine Av (h₀:=X.base) I.ok.mod.uX M.kp (ay (b pos o s v H _ I h) λB A u=>?_) g l;obtain ⟨D,y,a,r,z,q⟩:=u;refine ⟨a.de,?_⟩;exact Vs M F m c n a r z q
end
structure OR (K:aY) (C M:Addr):Prop where
 obj:∃(nm q:Str) (N:Addr) (bs:List Value) (sn:List Str) (sub:List Value) (ab:Bool) (col:Option Bool) (dd:Option Addr) (k0 k1 k2 k3 k5:Option Value),
  K.lookup C=some (excClassObj nm q C N bs (.ref M::m9) true sn sub ab col dd k0 k1 k2 k3 k5 "ValueError.__new__")
 tail:PySem.W.tailIn K m9 (.ref M::m9)=true
theorem nk.o {C Mo f:Addr} (M:nk K C Mo f):OR K C Mo:=by obtain ⟨k,q,N,b,l,m,a,c,d,e,g,h,i,j,lk,_⟩:=M.obj;exact ⟨⟨k,q,N,b,l,m,a,c,d,e,g,h,i,j,lk⟩,M.tail⟩
theorem UK (I:Inv X pins σ H s) (M:OR X.K C Mo)
 (a:H x=some (iF x C dx)) (D:us.length<=sizeLine) (l:∀s',Inv X pins σ H s'->Q .none s'):wpAny (model X.prog X.w) A (call (.builtin "ValueError.__init__") (.ref x::us)) Q E s:=by
 obtain ⟨S,q,N,n,W,Y,m,p,r,G,J,L,O,R,lk⟩:=M.obj;have f:=I.de;have j:=f _ _ lk;have T:=PySem.W.tail_of_in f M.tail;have F:=PySem.F.excBase_ValueError;obtain ⟨t,g⟩:=DO I.a4 a;have i:∀(v:Addr) (c:Nat),Inv X pins σ H { s with heap:=(s.heap.push { cls:=.type "tuple",data:=.seq us.toArray }).update x (Obj.mapFields (·.setIfInBounds 0 (.ref v))),toks:=c }:=λv c=>by
  have h:(s.heap.push { cls:=.type "tuple",data:=.seq us.toArray }).get? x=some (dy C dx (.ref t) .none):=cL _ g;have d:((s.heap.push { cls:=.type "tuple",data:=.seq us.toArray }).update x (Obj.mapFields (·.setIfInBounds 0 (.ref v)))).get? x=some (dy C dx (.ref v) .none):=pT _ h U;have z:=I.write (x:=x) (e:=x) (o:=iF x C dx) (h':=(s.heap.push { cls:=.type "tuple",data:=.seq us.toArray }).update x (Obj.mapFields (·.setIfInBounds 0 (.ref v)))) (t':=c) (by rw [a];exact True.intro) (.inl U)
   (λb x1 k e=>(jg _ _ (a6 k)).trans (cL _ e)) ⟨_,d⟩ (DP d)
  rwa [YJ a] at z
 obtain ⟨B,y,u,Z,V⟩:=s;refine tJ (JS F.init.plain F.initEntry (wpAny_check_init_subT F T j g U ?_))
 wp_walk
 exact l _ (i _ _)
open PySem PySem.Spec PyProof.Rows Builtin Builtin.ObjectAttr
structure Py (K:aY) (Mo:Addr):Prop where
 ty:PySem.W.typeIn K (.ref Mo)=some (.type "type")
 ga:PySem.W.specialIn K (.ref Mo) "__getattribute__"=some (some (.builtin "type.__getattribute__"))
 gt:PySem.W.findIn K (.type "type") "__getattribute__"=some (some (.builtin "type.__getattribute__"))
 op:PySem.W.nsIn K cStatics "thirdparty.any"=some none
 fc:PySem.W.findCls K (.ref Mo) (.type "type") "__init__"=some (.val (.builtin "ValueError.__init__"))
 si:PySem.W.subIn K (.type "type") (.type "type")=some true
def X' (K:aY) (t:TA):TE:=λg H Q=>t g H λe a=>∃x b C c f d,e=.ref x::b/\a x=some (iF x C d)/\nk K C c f/\b.length<=sizeLine/\Q .a9 a
theorem Zj (B:Py X.K Mo) (l:Gl X x) (m:X.mg x=some (.ref Mo)) (j:PA X (e::J) t) (k:(x==("__debug__":Str))=false:=by decide)
 (o:starEach (e::J) X.env=(false,eval e X.env)::starEach J X.env:=by rfl) (n:(backTo pos (starEach J X.env)).any (·.1)=false:=by rfl)
 (r:eval (.Call (.Attribute (.Name x p) "__init__" apos) (e::J) [] pos) X.env=(do
  let a <-eval (.Name x p) X.env
  standAt apos.atName
  let (f,first) <-holding [a] (getMethod a "__init__" pl)
  callWith pos f first (backTo pos (starEach (e::J) X.env)) (backToKw pos (keywordEach [] X.env))):=by rfl):
 PE X (.Call (.Attribute (.Name x p) "__init__" apos) (e::J) [] pos) (X' X.K t):=by
 intro v s F H Q I h;refine PySem.W.methodCall_KW (pl:=pl) (vR I l m ?_ k) r;unfold getMethod;refine ae ((PySem.W.looks_specialIn I.de B.ga).here ?_);dsimp only;rw [if_pos (by decide+kernel)];refine ae (PySem.W.cls_open I.de (PySem.W.looks_opaque I.de B.op) (PySem.W.looks_typeIn I.de B.ty) B.gt (PySem.W.looks_hook I.de U) B.si B.fc ?_);refine aI ?_;show wpAny _ _ (handedOut (.builtin "ValueError.__init__")) _ _ _;rw [PySem.W.handedOut_of (by decide+kernel)];refine aI (aI ?_);refine RQ (ay (j pos v _ F H _ (I.tok _) h) λS O E=>?_) o n;obtain ⟨T,b,c,z,y,N,C,G,f,L,g,i,M,u,q⟩:=E;subst g
 cases z with
 | cons A D=>
  cases A;exact UK c M.o i (by rw [<-D.length];exact u) λR d=>⟨.a9,b,d,U,q⟩
theorem VY {X:Cx} {A:Around} {E:Value->Shared->Prop} {C l Y x:Addr} {dx:Option Addr} {D:List (Addr×Obj)} {F:St} {H:Hp} {s:Shared} {Q:Unit->Shared->Prop} {a:Str} {y:V} {u:Value} (I:Inv X D F H s) (M:nk X.K C l Y)
 (na:PySem.W.findIn X.K (.ref C) a=some none) (v:H x=some (iF x C none)) (ru:bz y u)
 (hq:∀d s',H d=none->d≠x->Inv X D F (upd (upd H x (iF x C (some d))) d (ju d [(a,y)])) s'->Q () s'):wpAny (model X.prog X.w) A (setAttr (.ref x) a u) Q E s:=by
 obtain ⟨R,x2,N,O,sn,sub,L,S,dd,k0,k1,k2,k3,k5,lk,_⟩:=M.obj;have h:=I.de;have hC:=h _ _ lk;have g:=PySem.F.store_object;obtain ⟨t,i⟩:=DO I.a4 v;have k:PySem.W.Looks (model X.prog X.w) s.heap (typeOf (.ref x)) (.ref C):=(PySem.W.Looks.ld i).andThen .now;have n:PySem.W.clsIn X.K C=some { name:=R,bases:=O,mro:=.ref C::.ref l::m9,ns:=N,qualname:=x2,hasDict:=true,slotNames:=sn,subclasses:=sub,abstract:=L,collection:=S,hasDel:=false }:=by unfold PySem.W.clsIn;rw [lk]
 have J:PySem.W.Looks (model X.prog X.w) s.heap (mroOf (.ref C)) (.ref C::.ref l::m9):=(PySem.W.looks_clsIn h n).andThen .now;have FZ:PySem.W.Looks (model X.prog X.w) s.heap (isInstance (.ref x) (.type "object")) true:=k.andThen (PySem.W.looks_mroIn h (by unfold PySem.W.mroIn;rw [n];rfl));have p:x≠s.heap.objs.size:=fy (cV i);have Z:∀(h':Heap) (q:Nat),h'.Ns1 s.heap.objs.size (λz=>if z=a then some u else none)->
  Heap.SameBut s.heap.objs.size ((s.heap.push { cls:=.type "dict",data:=.dict #[] }).update x λo=>{ cls:=o.cls,dict:=some s.heap.objs.size,data:=o.data,slots:=o.slots }) h'->Q () { s with heap:=h',toks:=q }:=λh' q n1 sb=>by
  refine hq s.heap.objs.size _ I.fresh (a6 p) ?_;have W:(s.heap.push { cls:=.type "dict",data:=.dict #[] }).get? x=some (dy C none (.ref t) .none):=cL _ i;have r:((s.heap.push { cls:=.type "dict",data:=.dict #[] }).update x λo=>{ cls:=o.cls,dict:=some s.heap.objs.size,data:=o.data,slots:=o.slots }).get? x=some (dy C (some s.heap.objs.size) (.ref t) .none):=pT _ W U;have G:=I.write (x:=x) (e:=x) (o:=iF x C (some s.heap.objs.size)) (h':=(s.heap.push { cls:=.type "dict",data:=.dict #[] }).update x λo=>{ cls:=o.cls,dict:=some s.heap.objs.size,data:=o.data,slots:=o.slots }) (t':=s.toks)
   (by rw [v];exact True.intro) (.inl U) (λb x3 m e=>(jg _ _ (a6 m)).trans (cL _ e)) ⟨_,r⟩ (DP r)
  have e3:((s.heap.push { cls:=.type "dict",data:=.dict #[] }).update x λo=>{ cls:=o.cls,dict:=some s.heap.objs.size,data:=o.data,slots:=o.slots }).objs.size=s.heap.objs.size+1:=by rw [Heap.size_after_update,Af]
  have hf:upd H x (iF x C (some s.heap.objs.size)) s.heap.objs.size=none:=by rw [ag (a6 p)];exact I.fresh
  have hd0:X.bQ.heap.objs.size<=s.heap.objs.size:=I.sz;have kp:∀b o,b≠s.heap.objs.size->((s.heap.push { cls:=.type "dict",data:=.dict #[] }).update x λo=>{ cls:=o.cls,dict:=some s.heap.objs.size,data:=o.data,slots:=o.slots }).get? b=some o->h'.get? b=some o:=λb o m e=>(sb.2 b m).trans e;have new:cZ X.prog X.w (upd (upd H x (iF x C (some s.heap.objs.size))) s.heap.objs.size (ju s.heap.objs.size [(a,y)])) h' s.heap.objs.size (ju s.heap.objs.size [(a,y)]):=by
   refine YR n1 (λz=>?_) (λz hz=>?_)
   ·show ie (List.lookup z [(a,y)]) (if z=a then some u else none);rw [fv]
    by_cases e:z=a
    ·subst e;rw [mE,if_pos rfl];exact ru
    ·rw [show (z==a)=false from beq_eq_false_iff_ne.mpr e,if_neg e];exact True.intro
   ·by_cases e:z=a
    ·subst e;exact fh
    ·exact absurd (if_neg e) hz
  exact G.jA (t':=q) kp hf hd0 (λz=>by
   have:=I.lt;rw [z] at this;exact ji _ this) (λy' c e z=>by
   obtain ⟨x3,o,ho,_⟩:=I.cell y' c e;have:=cV ho;rw [z] at this;exact ji _ this) (λx1 hp z=>by
   have:=cV (I.pin x1 hp).1;rw [z] at this;exact ji _ this) new
 obtain ⟨f,gg,T,j,oo⟩:=s;unfold setAttr;refine ae (wpAny_mkText (ae ?_));unfold callSpecial? specialOf;refine ae (ae (k.at ((Ar h M.sa).at (lS (ae ?_)))));rw [g.slot.bind];refine aI (ae (tJ (JS g.slot.plain g.entry (@PySem.W.check_slot (model X.prog X.w) _ _ ⟨f,gg,T,j+1,oo⟩ "object.__setattr__" "object" "__setattr__" (.ref x) [.str a j,u] [] _ g.kind g.split FZ (g.args (.ref x) (.str a j) u) ?_))));show wpAny _ A.in1 (Builtin.«object.__setattr__» ⟨[.ref x,.str a j,u],[]⟩) _ _ _;rw [PySem.W.osa_eq,refuse_eq];refine ae (ae (k.at (ae (J.at ?_))));rw [refuseLoop_ref,refuseLoop_ref,PySem.F.store_ValueError.passes];refine aI (ae (k.at (ae ((Ar h na).at (ae (aI ?_))))));refine ae (aI (ae (ae (wpAny_loadPart (o:=dy C none (.ref t) .none) i (ae ((PySem.W.looks_clsIn h n).at ?_))))));have yW:(f.push { cls:=.type "dict",data:=.dict #[] }).get? x=some (dy C none (.ref t) .none):=cL _ i;refine ae (wpAny_alloc' ?_);refine ae (wpAny_update' yW ?_);refine aI ?_;have hgd:((f.push { cls:=.type "dict",data:=.dict #[] }).update x λo=>{ cls:=o.cls,dict:=some f.objs.size,data:=o.data,slots:=o.slots }).get? f.objs.size=some { cls:=.type "dict",data:=.dict #[] }:=
  (Heap.get?_update_ne _ _ _ _ p.symm).trans (Heap.get?_push_at U U)
 have oB:((f.push { cls:=.type "dict",data:=.dict #[] }).update x λo=>{ cls:=o.cls,dict:=some f.objs.size,data:=o.data,slots:=o.slots }).Ns f.objs.size (λ_=>none):=
  ⟨_,#[],_,hgd,U,λe he=>absurd he (by simp),λ_=>rfl⟩
 show wpAny _ _ (storeInDict f.objs.size (.str a j) a u) _ _ _;unfold storeInDict newKeyGuard;refine ae (aI (ae (wpAny_nsSet1 (Heap.Ns1.of_empty oB) λh' B hs=>?_)));obtain ⟨oD,esD,epD,Ϲ,hdD,hcD⟩:=B.count (Within.cons a u Within.nil);refine ae (wpAny_lookBehind Ϲ (by rw [hdD];exact pastItsLine_dict (cQ hcD (by rw [gw,Ka,zY];lia))) ?_)
 wp_walk
 exact Z _ _ B hs
def Yo (K:aY) (i j:TE) (f:Str):TS:=λD c H=>j c H λy e=>i c e λx b=>∃a C g h,x=.ref a/\b a=some (iF a C none)/\nk K C g h/\PySem.W.findIn K (.ref C) f=some none/\
 ∀d,b d=none->d≠a->D.nx c (upd (upd b a (iF a C (some d))) d (ju d [(f,y)]))
theorem ZM {X:Cx} {o b:Expr} {f:Str} {pos i:Pos} {j k:TE} (v:PE X o j) (E:PE X b k) (B:swapsWith b (some (.Attribute o f i)) pos.line X.env=pure false):PS X (.Assign [.Attribute o f i] b pos) (Yo X.K j k f):=by intro g s e H D I h;refine RS (ay (E g s e H _ I h) λu O c=>L2.eF c λy l m N q=>ay (v g O e l _ m q) λG T c=>?_) B;obtain ⟨x,Q,n,L,a,C,R,S,t,r,M,F,J⟩:=c;subst t;obtain rfl:G=Value.ref a:=L;exact VY (dx:=none) n M F r N λd V z A p=>⟨e,_,p,J d z A⟩
def mJ (c h:Heap) (H:Hp) (a C:Addr) (dx:Option Addr):Prop:=
 c.get? a=none/\H a=none/\∃t b,h.get? a=some (dy C dx t b)/\
  (b=.none\/∃T d e,b=.ref T/\T≠a/\c.get? T=none/\H T=none/\h.get? T=some d/\d.data=.fields e/\e[3]?=some .none)
def DF (b h:Heap) (H:Hp) (a C:Addr) (dx:Option Addr) (L:Addr):Prop:=
 b.get? a=none/\H a=none/\∃t T c d,h.get? a=some (dy C dx t (.ref T))/\T≠a/\b.get? T=none/\H T=none/\h.get? T=some c/\c.data=.fields d/\d[3]?=some (rawInt L)
def l7 (c:List Addr) (a h h':Heap) (H:Hp):Prop:=
 (∀b o,(H b≠none\/a.get? b≠none)->b∉c->h.get? b=some o->h'.get? b=some o)/\∀b o,(H b≠none\/a.get? b≠none)->h.get? b=some o->∃d,h'.get? b=some { o with slots:=d }
theorem l7.trans (x:l7 fs h0 C I H) (y:l7 fs h0 I J H):l7 fs h0 C J H:=
 ⟨λb o z a e=>y.1 b o z a (x.1 b o z a e),λb o z e=>by
  obtain ⟨_,c⟩:=x.2 b o z e;obtain ⟨f,d⟩:=y.2 b _ z c;exact ⟨f,d⟩⟩
theorem Xu (C:Addr) (dx:Option Addr) (t a v:Value):Obj.mapFields (·.setIfInBounds 1 v) (dy C dx t a)=dy C dx t v:=by simp [Obj.mapFields]
section
theorem MR (J:A.frames=some (env::outer)) (n:s.heap.FunFrames base (env::outer)) (G:env.frame=some L)
 (k:s.heap.get? a=some (dy C dx t I)) (g:h0.get? a=none) (i:H a=none) (W:∀b o,h0.get? b=some o->∃v,s.heap.get? b=some v) (N:∀b,s.heap.objs.size<=b->H b=none)
 (V:∀h',DF h0 h' H a C dx L->l7 (jd (env::outer)) h0 s.heap h' H->Q () { s with heap:=h' }):
 wpAny M A (do let B <-frameOf env;let pl <-entryPlaceOf L Cq;let b <-EntryCells.newEntry head B .none (rawInt L) .none pl;setField (.ref a) 1 b) Q E s:=by
 have R:a∉jd (env::outer):=λO=>by obtain ⟨_,o,p,S⟩:=n.mem O;rw [k] at p;cases p;exact S _ U
 refine ae (wpAny_frameOf_fun J n G λc d=>?_);refine ae (wpAny_entryPlaceOf λpl T=>?_);unfold EntryCells.newEntry newFields;refine ae (pU ?_ (T.sizeOk5 _ _ _ _ _));have l:c.get? a=some (dy C dx t I):=(d.2.1 a R).trans k;have m:=cL (h:=c) { cls:=.type "traceback",dict:=none,data:=.fields ([head,.ref L,.none,rawInt L,.none]++(if pl.isEmpty then List.replicate 6 Value.none else pl)).toArray } l;refine rK m U (by simp) ?_;have j:c.objs.size≠a:=tD (cV l);have F:=(pT (Obj.mapFields (·.setIfInBounds 1 (Value.ref c.objs.size))) m U).trans (congrArg some (Xu C dx t I (.ref c.objs.size)));have D:=(jg (c.push { cls:=.type "traceback",dict:=none,data:=.fields ([head,.ref L,.none,rawInt L,.none]++(if pl.isEmpty then List.replicate 6 Value.none else pl)).toArray })
  (Obj.mapFields (·.setIfInBounds 1 (Value.ref c.objs.size))) (a6 j)).trans (jh c U)
 have r:∀b o,b≠a->c.get? b=some o->((c.push { cls:=.type "traceback",dict:=none,data:=.fields ([head,.ref L,.none,rawInt L,.none]++(if pl.isEmpty then List.replicate 6 Value.none else pl)).toArray }).update a (Obj.mapFields (·.setIfInBounds 1 (Value.ref c.objs.size)))).get? b=some o:=
  λb o f e=>(jg _ _ (a6 f)).trans (cL _ e)
 have u:∀b,(H b≠none\/h0.get? b≠none)->b≠a:=λb z e=>by subst e;exact z.elim (λq=>q i) λq=>q g
 refine V _ ⟨g,i,t,c.objs.size,_,_,F,j,(by
  cases q:h0.get? c.objs.size with
  | none=>rfl
  | some o=>
   obtain ⟨v,x⟩:=W _ o q;exact absurd (cV x) (by rw [d.1];exact ji _)),N _ (by rw [d.1];exact ar _),D,U,by simp⟩ ⟨λb o z f e=>?_,λb o z e=>?_⟩
 ·exact r b o (u b z) ((d.2.1 b f).trans e)
 ·obtain ⟨X,y⟩:=d.2.2 b o e;exact ⟨X,r b _ (u b z) y⟩
theorem Mw (v:A.frames=some (env::outer)) (B:s.heap.FunFrames base (env::outer)) (i:env.frame=some L) (fl:mJ h0 s.heap H a C dx) (F:∀b o,h0.get? b=some o->∃l,s.heap.get? b=some l) (y:∀b,s.heap.objs.size<=b->H b=none)
 (D:∀h',DF h0 h' H a C dx L->l7 (jd (env::outer)) h0 s.heap h' H->Q () { s with heap:=h' }):wpAny M A (noteFrame (.ref a) env) Q E s:=by
 obtain ⟨m,p,t,X,f,c⟩:=fl;unfold noteFrame;simp only [i];rcases c with rfl | ⟨T,W,S,rfl,N,u,J,g,h,r⟩
 ·refine ae (jO f U (x:=.none) U ?_);rw [if_neg (by decide)];exact MR v B i f m p F y D
 ·refine ae (jO f U (x:=.ref T) U ?_);rw [if_pos (show (Value.ref T !=Value.none)=true from by simp)];refine ae (jO g h r ?_);rw [if_neg (show ¬((Value.none==rawInt L)=true) from by simp [rawInt])];refine ae (rK g h (Au.mp r).1 ?_);have d:∀b,b≠T->(s.heap.update T (Obj.mapFields (·.setIfInBounds 3 Value.none))).get? b=s.heap.get? b:=λb c=>jg _ _ (a6 c);have O:∀b o,s.heap.get? b=some o->(∀V,o.data≠.fields V)->b≠T:=λb o e j q=>by
   rw [q,g] at e;cases e;exact j S h
  have G:∀b,(H b≠none\/h0.get? b≠none)->b≠T:=λb z e=>by subst e;exact z.elim (λq=>q J) λq=>q u
  have R:(s.heap.update T (Obj.mapFields (·.setIfInBounds 3 Value.none))).objs.size=s.heap.objs.size:=Heap.size_after_update ..;refine MR (s:={ s with heap:=s.heap.update T (Obj.mapFields (·.setIfInBounds 3 Value.none)) }) v (B.of_keeps λb o e j=>⟨o,(d b (O b o e j)).trans e,U⟩) i ((d a (a6 N)).trans f) m p
   (λb o e=>by
    obtain ⟨l,I⟩:=F b o e;exact ⟨l,(d b λz=>by rw [z,u] at e;cases e).trans I⟩) (λb c=>y b (by rw [R] at c;exact c)) λh' n k=>D h' n ⟨λb o z c e=>k.1 b o z c ((d b (G b z)).trans e),λb o z e=>k.2 b o z ((d b (G b z)).trans e)⟩
theorem Ma (n:DF h0 s.heap H a C dx L) (r:∀h',mJ h0 h' H a C dx->l7 [] h0 s.heap h' H->Q () { s with heap:=h' }):wpAny M A (setFlight (.ref a) none) Q E s:=by
 obtain ⟨l,m,t,T,v,u,i,h,f,g,d,c,p⟩:=n;have k:∀b,(H b≠none\/h0.get? b≠none)->b≠T:=λb z e=>by subst e;exact z.elim (λq=>q g) λq=>q f
 have j:3<u.size:=(Au.mp p).1;unfold setFlight;refine ae (jO i U (x:=.ref T) U ?_);rw [if_pos (show (Value.ref T !=Value.none)=true from by simp)];refine rK d c j (r _ ⟨l,m,t,.ref T,(jg _ _ h).trans i,.inr ⟨T,_,_,U,h,f,g,pT _ d (CT (vr c _)),vr c _,by simp [j]⟩⟩ ⟨λb o z _ e=>?_,λb o z e=>⟨o.slots,?_⟩⟩)
 ·exact (jg _ _ (a6 (k b z))).trans e
 ·exact (jg _ _ (a6 (k b z))).trans e
theorem Tg (fl:mJ h0 s.heap H a C dx) (j:∀h',mJ h0 h' H a C dx->l7 [] h0 s.heap h' H->Q () { s with heap:=h' }):wpAny M A (setFlight (.ref a) none) Q E s:=by
 obtain ⟨m,n,t,y,d,r⟩:=id fl;rcases r with rfl | ⟨T,v,u,rfl,i,g,h,f,c,p⟩
 ·unfold setFlight;refine ae (jO d U (x:=.none) U ?_);rw [if_neg (by decide)];exact aI (j s.heap fl ⟨λ_ _ _ _ e=>e,λ_ o _ e=>⟨o.slots,e⟩⟩)
 ·have l:∀b,(H b≠none\/h0.get? b≠none)->b≠T:=λb z e=>by
   subst e;exact z.elim (λq=>q h) λq=>q g
  have k:3<u.size:=(Au.mp p).1;unfold setFlight;refine ae (jO d U (x:=.ref T) U ?_);rw [if_pos (show (Value.ref T !=Value.none)=true from by simp)];refine rK f c k (j _ ⟨m,n,t,.ref T,(jg _ _ i).trans d,.inr ⟨T,_,_,U,i,g,h,pT _ f (CT (vr c _)),vr c _,by simp [k]⟩⟩ ⟨λb o z _ e=>?_,λb o z e=>⟨o.slots,?_⟩⟩)
  ·exact (jg _ _ (a6 (l b z))).trans e
  ·exact (jg _ _ (a6 (l b z))).trans e
theorem Vb (i:A.frames=some (env::outer)) (k:s.heap.FunFrames base (env::outer)) (h:env.frame=some L) (fl:mJ h0 s.heap H a C dx) (m:∀b o,h0.get? b=some o->∃q,s.heap.get? b=some q) (j:∀b,s.heap.objs.size<=b->H b=none)
 (l:∀h',mJ h0 h' H a C dx->l7 (jd (env::outer)) h0 s.heap h' H->Q () { s with heap:=h' }):wpAny M A (leaving env (.ref a)) Q E s:=by
 unfold leaving;refine ae (Mw i k h fl m j λf p n=>?_);exact Ma (s:={ s with heap:=f }) p λg d c=>l g d (n.trans ⟨λb o z _ e=>c.1 b o z (by simp) e,c.2⟩)
end
def cX (P:Program) (w:World):nh:=λf H s E e b=>∃(a C:Addr) (d:Option Addr) (c:Hp),e=.ref a/\b.os=s.os/\AllBare b.gens/\Un (jd f) [] H c s.heap b.heap/\dJ P w c b.heap/\
 mJ s.heap b.heap c a C d/\E (.ref C) d c
theorem dJ.gV (ok:dJ P w H h) (k:l7 fs h0 h h' H) (f:∀b∈fs,H b=none):dJ P w H h':=λb u e=>by
 refine (ok b u e).ei (λc v a q=>?_) (λ_ q=>q) λ_ _ q=>q;have d:H c≠none:=by
  rcases a with rfl | a
  ·rw [e];simp
  ·rw [a];simp
 exact k.1 c v (.inl d) (λz=>d (f c z)) q
theorem Un.gV (u:Un fs ex H H' h0 C) (k:l7 gs h0 C h2 H') (f:∀b o,h0.get? b=some o->b∈gs->b∈fs):Un fs ex H H' h0 h2:=by
 refine ⟨λb o e n c a=>k.1 b o (.inr (by rw [e];simp)) (λz=>c (f b o e z)) (u.keep b o e n c a),λb o e n c a=>?_,u.free,λb o e a=>?_,u.eh,u.eX,u.fq⟩
 ·obtain ⟨g,q⟩:=u.slot b o e n c a;obtain ⟨h,d⟩:=k.2 b _ (.inr (by rw [e];simp)) q;exact ⟨h,d⟩
 ·obtain ⟨i,q⟩:=u.there b o e a;obtain ⟨g,d⟩:=k.2 b _ (.inr (by rw [e];simp)) q;exact ⟨_,d⟩
section
variable {K:aY}
theorem P2 (I:Inv (lh (cX P w) P w K mg base N qual scope f cd A outer s H J) pins σ H' s') (fl:mJ s.heap s'.heap H' a C dx) (g:J (.ref C) dx H'):
 (lh (cX P w) P w K mg base N qual scope f cd A outer s H J).xe (.ref a) s':=by
 show wpAny (model P w) (A.deeper (envOfC qual scope s.heap.objs.size f cd)) (leaving (envOfC qual scope s.heap.objs.size f cd) (.ref a)) (λ_ h=>cX P w outer H s J (.ref a) h) _ s';refine Vb (L:=s.heap.objs.size) I.ok.frames I.stack U fl (λb o e=>I.base.there b o e (by intro z;exact absurd (show b∈([]:List Addr) from z) (by simp))) (λb c=>I.a4.fresh c) λi d k=>?_;refine ⟨a,C,dx,H',U,I.os,I.bare,I.base.gV k λb o e c=>?_,I.a4.gV k I.iW,d,g⟩;unfold jd at c;rw [vt] at c;rcases eR.mp c with z | z
 ·exact absurd (cV e) (by rw [z];exact ji _)
 ·exact z
theorem mJ.back (fl:mJ I h H a C dx) (k:∀b o,h0.get? b=some o->∃f,I.get? b=some f):mJ h0 h H a C dx:=by
 have d:∀b,I.get? b=none->h0.get? b=none:=λb e=>by
  cases q:h0.get? b with
  | none=>rfl
  | some o=>
   obtain ⟨f,c⟩:=k b o q;rw [e] at c;cases c
 obtain ⟨g,i,t,s,n,m⟩:=fl;refine ⟨d a g,i,t,s,n,?_⟩;rcases m with z | ⟨T,p,u,e,l,j,r⟩
 ·exact .inl z
 ·exact .inr ⟨T,p,u,e,l,d T j,r⟩
theorem xA (h:∀C dx c,E C dx c->J C dx c):pe (cX P w) (lh (cX P w) P w K mg base N qual scope f cd A outer s H J) E:=by intro q t p r e s' I l;obtain ⟨a,C,dx,c,rfl,m,g,n,k,i,j⟩:=l;have d:=I.oN (s':=s') (ch:=[]) m n k g (λb z=>absurd z (by simp));exact P2 d (i.back λb o e=>I.base.there b o e (by intro z;exact absurd (show b∈([]:List Addr) from z) (by simp))) (h _ _ _ j)
end
def forget (H:Hp) (a:Addr):Hp:=λb=>if b=a then none else H b
theorem qA (h:b≠a):forget H a b=H b:=by unfold forget;rw [if_neg h]
theorem OE:forget H a a=none:=by unfold forget;rw [if_pos rfl]
theorem BL (h:H b=none):forget H a b=none:=by
 unfold forget;split
 ·rfl
 ·exact h
theorem Inv.forget (I:Inv X pins σ H s) (h:H a=some (iF a C dx)):Inv X pins σ (L2.forget H a) s:=by
 have d:∀b u,H b=some u->(∀t,u≠.ext t)->b≠a:=λb u e j z=>by subst z;rw [h] at e;exact j _ (ff e).symm
 refine ⟨I.ok,I.os,I.bare,⟨I.base.keep,I.base.slot,λb o e n k=>BL (I.base.free b o e n k),I.base.there,λb g e=>?_,λb o u e=>?_,λb m e=>?_⟩,I.loc,I.cell,BL I.free,λx c e=>BL (I.bS x c e),λp i=>?_,λb u e=>?_,I.len⟩
 ·have q:=I.base.eh b g e;rw [qA (d b _ q (λ_ z=>nomatch z))];exact q
 ·have q:=I.base.eX b o u e;rw [qA (d b _ q (λ_ z=>nomatch z))];exact q
 ·obtain ⟨l,q⟩:=I.base.fq b m e;exact ⟨l,by rw [qA (d b _ q (λ_ z=>nomatch z))];exact q⟩
 ·obtain ⟨e,n,r⟩:=I.pin p i;exact ⟨e,BL n,r⟩
 ·by_cases f:b=a
  ·rw [f,OE] at e;cases e
  ·rw [qA f] at e;exact (I.a4 b u e).ei (λc v _ q=>q) (λc q=>by rw [qA (d c _ q (λ_ z=>nomatch z))];exact q) λc g q=>by rw [qA (d c _ q (λ_ z=>nomatch z))];exact q
def YG (K:aY) (H0:Hp) (d:XK) (g:TE):TS:=λ_ h H=>g h H λx b=>∃a C e f c,x=.ref a/\b a=some (iF a C c)/\nk K C e f/\H0 a=none/\d (.ref C) c (forget b a)
theorem V9 (I:A.handled=none)
 (h:wpAny M A x (λv a=>∃e C dx t y q N f b l z B c i j m n o p r u,v=.ref e/\b.contains (.type "BaseException")=true/\a.heap.get? C=some (excClassObj y q C N f b l z B c i j m n o p r u)/\
  a.heap.get? e=some (dy C dx t .none)/\E (.ref e) a) E s):wpAny M A (raiseStmt env (some x) none) Q E s:=by
 unfold raiseStmt;refine ae (gY h (λv a J=>?_) λ_ _ x=>x);obtain ⟨e,C,dx,t,y,q,N,f,b,l,z,B,c,i,j,m,n,o,p,r,u,rfl,F,k,H,D⟩:=J;have G:(Value.ref C::b).contains (.type "BaseException")=true:=by rw [List.contains_cons,F,Bool.or_true]
 obtain ⟨L,g,d,R,O⟩:=a
 repeat (first | with_reducible refine Ao H ?_ | with_reducible refine Ao k ?_ | (with_reducible refine wpAny_isSubtype_exc k ?_;rw [G]) | wp_step)
 exact wpAny_raiseNew_none I D
section
variable {K:aY}
theorem SX (u:PE (lh (cX P w) P w K mg base N qual scope f cd A outer s H J) x te):PS (lh (cX P w) P w K mg base N qual scope f cd A outer s H J) (.Raise (some x) none pos) (YG K H J te):=by
 intro L Q V e D I h;rw [arm_exec_Raise];refine ae (Ak (V9 (I.ok.hd U) ?_));refine ae (ay (u L Q V e _ I h) λx1 s2 T=>ae (Ak (aI ?_)));obtain ⟨x2,W,b,O,a,C,X,f',m,n,c,M,p,r⟩:=T;subst n;cases O;obtain ⟨G,q,g,j,R,S,i,k,l,v,y,B,E,F,lk,_,_⟩:=M.obj;obtain ⟨t,d⟩:=DO b.a4 c;refine ⟨a,C,m,.ref t,G,q,g,j,_,_,R,S,i,k,l,v,y,B,E,F,_,U,U,b.de _ _ lk,d,?_⟩;refine P2 (b.forget c) ⟨?_,OE,.ref t,.none,d,.inl U⟩ r
 cases q0:s.heap.get? a with
 | none=>rfl
 | some o=>
  have z:=b.base.free a o q0 p (by intro z;exact absurd (show a∈([]:List Addr) from z) (by simp));rw [c] at z;cases z
end
def Wz (X:Cx) (g:List (Addr×Obj)) (i:Addr->Option Addr->St->Hp->Prop):Value->Shared->Prop:=λe c=>∃a C f h H l j d,e=.ref a/\Inv X g l j d/\Inv X g h H c/\
 (∀b o,d.heap.get? b=some o->∃k,c.heap.get? b=some k)/\mJ d.heap c.heap H a C f/\i C f h H
def tP (X:Cx) (a:List (Addr×Obj)) (b:Addr->Option Addr->St->Hp->Prop):Cx where
 prog:=X.prog
 w:=X.w
 K:=X.K
 mg:=X.mg
 base:=X.base
 A:=X.A
 N:=X.N
 bQ:=X.bQ
 gx:=X.gx
 env:=X.env
 outer:=X.outer
 stack:=X.stack
 ex:=X.ex
 fn:=X.fn
 calm:=X.calm
 pn:=X.pn++a
 xe:=Wz X a b
def vW (X:Cx) (e:Value):Cx where
 prog:=X.prog
 w:=X.w
 K:=X.K
 mg:=X.mg
 base:=X.base
 A:=X.A.mark (some e)
 N:=X.N
 bQ:=X.bQ
 gx:=X.gx
 env:=X.env
 outer:=X.outer
 stack:=X.stack
 ex:=X.ex
 fn:=X.fn
 calm:=false
 pn:=X.pn
 xe:=λ_ _=>False
section
theorem Inv.yF (I:Inv X pins σ H s):Inv (tP X pins C) [] σ H s:=
 ⟨⟨I.ok.mod,I.ok.kind,I.ok.glob,I.ok.blt,I.ok.above,I.ok.inj,I.ok.has,I.ok.rG,I.ok.hd,I.ok.frames,I.ok.sO,I.ok.wR,I.ok.bs,I.ok.m8,I.ok.i_,I.ok.je,I.ok.eE,I.ok.mY⟩,
  I.os,I.bare,I.base,I.loc,I.cell,I.free,I.bS,λp a=>I.pin p (by have z:p∈(X.pn++pins)++[]:=a;simpa using z),I.a4,I.len⟩
theorem Inv.gE (I:Inv (tP X pins C) J σ H s):Inv X pins σ H s:=
 ⟨⟨I.ok.mod,I.ok.kind,I.ok.glob,I.ok.blt,I.ok.above,I.ok.inj,I.ok.has,I.ok.rG,I.ok.hd,I.ok.frames,I.ok.sO,I.ok.wR,I.ok.bs,I.ok.m8,I.ok.i_,I.ok.je,I.ok.eE,I.ok.mY⟩,
  I.os,I.bare,I.base,I.loc,I.cell,I.free,I.bS,λp a=>I.pin p (iE _ a),I.a4,I.len⟩
theorem Inv.sN (I:Inv X pins σ H s):Inv (vW X e) pins σ H s:=
 ⟨⟨I.ok.mod,I.ok.kind,I.ok.glob,I.ok.blt,I.ok.above,I.ok.inj,I.ok.has,I.ok.rG,(λz=>absurd (show false=true from z) fg),I.ok.frames,I.ok.sO,I.ok.wR,I.ok.bs,I.ok.m8,I.ok.i_,I.ok.je,I.ok.eE,I.ok.mY⟩,
  I.os,I.bare,I.base,I.loc,I.cell,I.free,I.bS,I.pin,I.a4,I.len⟩
theorem Inv.sM (a:X.calm=true->X.A.handled=none) (I:Inv (vW X e) pins σ H s):Inv X pins σ H s:=
 ⟨⟨I.ok.mod,I.ok.kind,I.ok.glob,I.ok.blt,I.ok.above,I.ok.inj,I.ok.has,I.ok.rG,a,I.ok.frames,I.ok.sO,I.ok.wR,I.ok.bs,I.ok.m8,I.ok.i_,I.ok.je,I.ok.eE,I.ok.mY⟩,
  I.os,I.bare,I.base,I.loc,I.cell,I.free,I.bS,I.pin,I.a4,I.len⟩
theorem SP.gE (h:SP (tP X pins C) [] D f s):SP X pins D f s:=by
 cases f with
 | next=>obtain ⟨b,a,I,q⟩:=h;exact ⟨b,a,I.gE,q⟩
 | brk=>obtain ⟨b,a,I,q⟩:=h;exact ⟨b,a,I.gE,q⟩
 | cont=>obtain ⟨b,a,I,q⟩:=h;exact ⟨b,a,I.gE,q⟩
 | ret u=>obtain ⟨v,b,a,I,r,q⟩:=h;exact ⟨v,b,a,I.gE,r,q⟩
theorem Inv.oK (I:Inv X pins σ H s) (k:l7 (X.env.locals::X.fs) h0 s.heap h' H) (g:∀b o,X.bQ.heap.get? b=some o->h0.get? b≠none) (N:h0.get? X.env.locals≠none) (M:∀x c,X.env.cells.lookup x=some c->h0.get? c≠none) (Q:∀p∈X.pn++pins,h0.get? p.1≠none):
 Inv X pins σ H { s with heap:=h' }:=by
 obtain ⟨m,⟨W,L,J,T,r⟩,S⟩:=id I.loc;obtain ⟨C,O⟩:=k.2 _ W (.inr N) T;have t:∀x c,X.env.cells.lookup x=some c->∀v,s.heap.IsCell c v->h'.IsCell c v:=λx c e v ⟨o,h,R⟩=>by obtain ⟨C,q⟩:=k.2 c o (.inr (M x c e)) h;exact ⟨_,q,R⟩
 refine ⟨I.ok,I.os,I.bare,⟨λb o e n a f=>?_,λb o e n a f=>?_,I.base.free,λb o e f=>?_,I.base.eh,I.base.eX,I.base.fq⟩,⟨m,⟨_,L,J,O,r⟩,λi x v E F G=>?_⟩,λx c e=>?_,I.free,I.bS,λp y=>?_,?_,I.len⟩
 ·refine k.1 b o (.inr (g b o e)) (λz=>?_) (I.base.keep b o e n a f);rcases eR.mp z with z | z
  ·exact absurd (gZ (cV e) I.ok.above) (by rw [z];exact ji _)
  ·exact a z
 ·obtain ⟨C,q⟩:=I.base.slot b o e n a f;obtain ⟨D,j⟩:=k.2 b _ (.inr (g b o e)) q;exact ⟨D,j⟩
 ·obtain ⟨Z,q⟩:=I.base.there b o e f;obtain ⟨D,j⟩:=k.2 b _ (.inr (g b o e)) q;exact ⟨_,j⟩
 ·obtain ⟨u,Y,l⟩:=S i x v E F G;refine ⟨u,Y,?_⟩;rcases l with l | ⟨V,c,e,z⟩
  ·exact .inl l
  ·exact .inr ⟨V,c,e,t x c e _ z⟩
 ·obtain ⟨v,z⟩:=I.cell x c e;exact ⟨v,t x c e v z⟩
 ·obtain ⟨e,n,A,B,d⟩:=I.pin p y;refine ⟨k.1 p.1 p.2 (.inr (Q p y)) (λz=>?_) e,n,A,B,d⟩;rcases eR.mp z with z | z
  ·exact A z
  ·exact B z
 ·refine I.a4.gV k λb a=>?_;rcases eR.mp a with z | z
  ·rw [z];exact I.free
  ·obtain ⟨_,o,h,_⟩:=I.ok.eE.mem z;exact I.base.free b o h (I.ok.mY b z) λq=>I.ok.je b q z
end
section
def Z3 (r j l:R2) (m n o p:TE):TE:=λa H Q=>m a H λx f=>n a f λy g=>r x y g λz b=>∃k,z=.bl k/\
 (if k=true then o a b λe h=>j y e h λs c=>∃d,s=.bl d/\(if d=true then p a c λq i=>l e q i Q else Q (.bl false) c) else Q (.bl false) b)
theorem Nk (Y:eI X (compareOp op) r) (Z:eI X (compareOp C) r') (HY:eI X (compareOp J) Ö) (R:PE X a ta) (S:PE X b tb) (T:PE X c tc) (V:PE X d td)
 (W:lastMarks [op,C,J] [b,c,d]=false:=by with_unfolding_all rfl):PT X (.Compare a [op,C,J] [b,c,d] pos) (AG (Z3 r r' Ö ta tb tc td)):=by
 intro g x4 i H x7 I h;refine isTrue_chain (ay (R g x4 i H _ I h) λx5 s1 f=>L2.eF f λx6 z F r1 q1=>test_link (ay (S g s1 i z _ F q1) λu s2 f=>L2.eF f λy A G s q2=>
  ay (Y g s2 i A x6 y x5 u _ G r1 s q2) λx8 s3 f=>?_)) W
 obtain ⟨z',l,n,r3,x1,e,p⟩:=f;subst e;cases r3;refine pV ?_
 cases x1 with
 | false=>
  obtain ⟨k',j,k⟩:=p;cases j;exact ite_ff ⟨l,n,k⟩
 | true=>
  refine ite_tt (test_link (ay (T g s3 i l _ n p) λv s4 f=>L2.eF f λx B L t q4=>ay (Z g s4 i B y x u v _ L s t q4) λz2 s5 f=>?_));obtain ⟨z5,m,o,r5,k2,O,q⟩:=f;subst O;cases r5;refine pV ?_
  cases k2 with
  | false=>
   obtain ⟨k',j,k⟩:=q;cases j;exact ite_ff ⟨m,o,k⟩
  | true=>
   refine ite_tt (test_last (ay (V g s5 i m _ o q) λx3 s6 f=>L2.eF f λy6 D M r6 q6=>ay (HY g s6 i D x y6 v x3 _ M t r6 q6) λz3 s7 f=>?_));obtain ⟨z7,E,N,r7,k3,Q,q7⟩:=f;subst Q;cases r7;exact pV ⟨E,N,q7⟩
theorem OC:nv X (.builtin "isinstance") (λxs H Q=>∃x n t b,xs=[x,.ty n]/\k_ X.K H x t/\PySem.W.kitOne X.K t (.type n)=some b/\Q (.bl b) H):=by intro f s j H xs i Q I r h;obtain ⟨x,n,t,b,rfl,d,e,q⟩:=h;obtain ⟨u,v,rfl,a,c⟩:=FJ r;cases c;exact U' I a d e λg=>⟨.bl b,H,I.tok _,U,q⟩
theorem LF:∀{xs:List V} {us:List Value},xs.length=us.length->(∀(i:Nat) x u,xs[i]?=some x->us[i]?=some u->bz x u)->aX xs us
 | [],[],_,_=>.nil
 | [],_::_,h,_=>by simp at h
 | _::_,[],h,_=>by simp at h
 | x::xs,u::us,h,r=>.cons (r 0 x u U U) (LF (by simpa using h) λi y v a b=>r (i+1) y v (by simpa using a) (by simpa using b))
theorem Wv (h:ItemsOf (λi v=>∃t,v=.int (0+(i:Int)*1) t) acc j):aX ((List.range j).map λ(i:Nat)=>V.int (i:Int)) acc.toList:=by
 refine LF (by simp [h.1]) λi x u a b=>?_;rw [cW] at a;have c:i<j:=by have:=(cO.mp b).1;rw [oS,h.1] at this;exact this
 rw [List.getElem?_range c] at a;cases a;obtain ⟨t,e⟩:=h.2 i u (by simpa using b);exact ⟨t,by rw [e];congr 1;lia⟩
def VJ (b:TA):TE:=λd H Q=>b d H λc a=>∃j:Nat,c=[.int j]/\j<=1000000/\∀l,a l=none->Q (.ref l) (upd a l (.lst ((List.range j).map λ(i:Nat)=>V.int (i:Int))))
theorem OL (B:X.calm=true) (D:Gl X "list") (L:X.mg "list"=none) (E:Gl X "range") (M:X.mg "range"=none) (A:PA X [a] ta)
 (g:starEach [.Call (.Name "range" J) [a] [] C] X.env=[(false,eval (.Call (.Name "range" J) [a] [] C) X.env)]:=by rfl) (N:starEach [a] X.env=[(false,eval a X.env)]:=by rfl):
 PE X (.Call (.Name "list" p) [.Call (.Name "range" J) [a] [] C] [] pos) (VJ ta):=by
 intro k s l H Q I h;refine Call_ (r_ I D L boot_list (xg ?_ g U));rw [g];show wpAny _ _ (spliced ((false,eval (.Call (.Name "range" J) [a] [] C) X.env)::backTo pos [])) _ _ s;refine Calls.spliced_cons (Call_ (r_ I E M boot_range (xg (ay (A C k s l H _ I h) λus c T=>?_) N U)));obtain ⟨vs,m,r,S,R⟩:=T;obtain ⟨j,e,Y,q⟩:=R;subst e;obtain ⟨u,rfl,t,rfl⟩:=tQ S;refine call_range_1 ?_;refine Calls.spliced_nil ?_;have x:∀(t u v:Tok) (d:Nat),Inv X k l m { c with heap:=c.heap.push { cls:=.type "range",data:=.fields #[.int 0 t,.int (j:Int) u,.int 1 v] },toks:=d }:=λt u v d=>r.kept λb o e=>cL _ e;refine call_list_range (n:=j) (I.ok.hd B) (IsRange.new ..) (small_one (by lia) (by exact gW (2 ^ 62-Nat.succ 0)) (by exact gW (j+Nat.succ 4611686018427387903)) (by lia)) (by rw [rangeSize_one];split<;>lia) (by lia) λW d y z O G F=>?_;have f:=x c.toks t (c.toks+1) (c.toks+2);refine ⟨.ref _,_,f.laid (t':=d) (o:=.lst ((List.range j).map λ(i:Nat)=>V.int (i:Int))) O (ar _) ?_,U,q _ f.fresh⟩;refine ⟨by rw [ak,i4,zY];lia,y.toList,z,?_,by simpa using G⟩;exact Wv F
end
section
variable {K:aY}
theorem YZ (h:Y.K=K):vB Y (Pf K):=by subst h;exact Kp
theorem xY (h:Y.K=K):vB Y (Pe K):=by subst h;exact ua
theorem Y1 (h:Y.K=K):eI Y (compareOp .In) (Cb K false):=by subst h;exact EO
theorem Vf (h:Y.K=K):eI Y (compareOp .NotIn) (Cb K true):=by subst h;exact Wm
theorem ZI (a:Y.K=K) (b:Y.calm=true) (h:mH Y C t) (c:(assignEach C Y.env).length=n:=by rfl) (d:(assignEach C Y.env).findIdx? (·.1)=none:=by rfl):PG Y (.Tuple C k pos) (OW K n t):=by subst a;exact ql b h c d
end
def WH (a C:Addr) (dx:Option Addr):HO:=.ext λh=>∃t b,h.get? a=some (dy C dx t b)
abbrev yw (a C:Addr) (dx:Option Addr) (t b:Value):HO:=.dZ (dy C dx t b) (WH a C dx)
section
theorem YS (e:h.get? a=some (dy C dx t I)):cZ P w H h a (yw a C dx t I):=⟨e,⟨t,I,e⟩,⟨_,e⟩,λ_ _ ⟨c,d,b⟩ k=>⟨c,d,k _ b⟩⟩
end
section
theorem Inv.yE (I:Inv X pins σ H s) (e:s.heap.get? a=some (dy C dx t J)) (j:H a=none) (i:X.bQ.heap.get? a=none) (k:a≠X.env.locals) (l:∀x c,X.env.cells.lookup x=some c->c≠a) (m:∀p∈X.pn++pins,p.1≠a):Inv X pins σ (upd H a (yw a C dx t J)) s:=by
 have d:∀b u,H b=some u->b≠a:=λb u q=>a7 q j;refine ⟨I.ok,I.os,I.bare,⟨I.base.keep,I.base.slot,λb o q n r=>?_,I.base.there,λb h q=>?_,λb o u q=>?_,λb A q=>?_⟩,I.loc,I.cell,by rw [ag (a6 k)];exact I.free,λx c q=>by rw [ag (l x c q)];exact I.bS x c q,λp g=>?_,λb u q=>?_,I.len⟩
 ·have:b≠a:=λz=>by rw [z,i] at q;cases q
  rw [ag this];exact I.base.free b o q n r
 ·have z:=I.base.eh b h q;rw [ag (d b _ z)];exact z
 ·have z:=I.base.eX b o u q;rw [ag (d b _ z)];exact z
 ·obtain ⟨y,z⟩:=I.base.fq b A q;exact ⟨y,by rw [ag (d b _ z)];exact z⟩
 ·obtain ⟨B,D,E⟩:=I.pin p g;exact ⟨B,by rw [ag (m p g)];exact D,E⟩
 ·by_cases f:b=a
  ·subst f;rw [ah] at q;cases q;exact YS e
  ·rw [ag f] at q;exact (I.a4 b u q).ei (λc v _ z=>z) (λc z=>by rw [ag (d c _ z)];exact z) λc h z=>by rw [ag (d c _ z)];exact z
theorem Inv.blank (I:Inv X pins σ H s) (A:h'.Ns X.env.locals m) (a:Heap.SameBut X.env.locals s.heap h'):Inv X pins (List.replicate X.N.length none) H { s with heap:=h',toks:=tk }:=by
 have h:∀b o,X.bQ.heap.get? b=some o->b≠X.env.locals:=λb o e=>fy (gZ (cV e) I.ok.above);have t:∀x c,X.env.cells.lookup x=some c->c≠X.env.locals:=λx c e=>I.zQ x c e;refine ⟨I.ok,I.os,I.bare,⟨λb o e n l f=>?_,λb o e n l f=>?_,I.base.free,λb o e f=>?_,I.base.eh,I.base.eX,I.base.fq⟩,⟨m,A,λi x v _ k _=>?_⟩,λy c e=>?_,I.free,I.bS,λp B=>?_,λb u e=>?_,by simp⟩
 ·exact (a.2 b (h b o e)).trans (I.base.keep b o e n l f)
 ·obtain ⟨E,j⟩:=I.base.slot b o e n l f;exact ⟨E,(a.2 b (h b o e)).trans j⟩
 ·obtain ⟨D,j⟩:=I.base.there b o e f;exact ⟨D,(a.2 b (h b o e)).trans j⟩
 ·rw [RW] at k;split at k<;>cases k
 ·obtain ⟨F,z⟩:=I.cell y c e;exact ⟨F,z.sameBut a (t y c e)⟩
 ·obtain ⟨e,n,r,C,d⟩:=I.pin p B;exact ⟨(a.2 p.1 r).trans e,n,r,C,d⟩
 ·refine (I.a4 b u e).ei (λc v g q=>(a.2 c ?_).trans q) (λ_ q=>q) λ_ _ q=>q;rintro rfl;rcases g with rfl | g
  ·rw [I.free] at e;cases e
  ·rw [I.free] at g;cases g
end
open PySem PySem.Spec PyProof.Rows Builtin
structure wx (K:aY) (C:Addr):Prop where
 ga:PySem.W.findIn K (.ref C) "__getattribute__"=some (some (.builtin "BaseException.__getattribute__"))
 gt:PySem.W.findIn K (.ref C) "__getattr__"=some none
 be:PySem.W.mroIn K C (.type "BaseException")=some true
 ob:PySem.W.mroIn K C (.type "object")=some true
 hd:PySem.W.hasDictIn K C=true
 cl:PySem.W.findIn K (.ref C) "__class__"=some (some (.builtin "object.__class__"))
 gs:PySem.W.specialIn K (.builtin "object.__class__") "__get__"=some (some (.builtin "getset_descriptor.__get__"))
 tk:PySem.W.takesIn K (.builtin "object.__class__")=some true
section
variable {K:aY}
theorem YU:builtinKind "BaseException.__getattribute__"=some .slot:=by decide+kernel
theorem Sz:splitId "BaseException.__getattribute__"=some ("BaseException","__getattribute__"):=by decide+kernel
theorem sV:(Value.builtin "BaseException.__getattribute__"==Value.builtin "object.__getattribute__")=false:=by decide+kernel
theorem Sx (X:K.In s.heap) (I:PySem.W.InstAt s.heap x J C od) (G:wx K C)
 (h:wpAny (model prog w) A.in1 (Builtin.«object.__getattribute__» ⟨[.ref x,.str name tk],[]⟩) (λc s'=>match c with | .done f=>R (.ok f) s' | .again a=>a.quiet=true/\codeAny (model prog w) A a R s') (λe s'=>R (.error e) s') s):
 codeAny (model prog w) A (.call (.builtin "BaseException.__getattribute__") ⟨[.ref x,.str name tk],[]⟩) R s:=by
 have b:PySem.W.Looks (model prog w) s.heap (typeOf (.ref x)) (.ref C):=I.type;have k:PySem.W.Looks (model prog w) s.heap (isInstance (.ref x) (.type "BaseException")) true:=b.andThen (PySem.W.looks_mroIn X G.be);obtain ⟨i,g,d,t,j⟩:=s;exact JS F.attrBase_ValueError.ga.plain F.entry_bexc_ga (@PySem.W.check_slot (model prog w) _ _ ⟨i,g,d,t,j⟩ "BaseException.__getattribute__" "BaseException" "__getattribute__" (.ref x) [.str name tk] [] _ YU Sz k (F.args_bexc_ga (.ref x) (.str name tk)) h)
theorem Vj (X:K.In s.heap) (I:PySem.W.InstAt s.heap x J C (some od)) (G:wx K C) (e:PySem.W.findObj K C (some od) name=some (.value v)) (f:PySem.W.handedIn v=true) (h:Q v { s with toks:=s.toks+1 }):
 wpAny (model prog w) A (getAttr (.ref x) name expr) Q E s:=by
 have a:=I.type (M:=model prog w);have b:=Ar (M:=model prog w) X G.ga;have L2:=Ar (M:=model prog w) X G.gt;have c:=PySem.W.looks_find (M:=model prog w) X I e;obtain ⟨i,g,d,t,j⟩:=s;unfold getAttr getAttrBy;refine ae (wpAny_mkText (lS (ae (a.at (ae (b.at ?_))))));dsimp only;rw [sV,Bool.and_false,if_neg fg];unfold getAttrByItsOwn hookBefore;rw [if_pos (by rfl)];refine ae (L2.at (ae (tF (lS ?_))));unfold callGetattribute;rw [if_neg (by cases expr<;>decide)];unfold boundAndCalled;rw [F.attrBase_ValueError.ga.bind];refine ae (aI (tJ (Sx (s:=⟨i,g,d,t+1,j⟩) X I G ?_)));unfold Builtin.«object.__getattribute__»;refine ae (aI (ae (aI (ae (a.at (ae (c.at ?_)))))));refine aI ?_;show wpAny _ _ (handedOut v) _ _ _;rw [PySem.W.handedOut_of f];exact aI h
end
section
variable {K:aY}
theorem Sy (ok:dJ P w H h) (e:H a=some (.dZ (dy C (some d) t I) u)) (g:H d=some (ju d fs)):
 ∃(c:Obj) (b:Str->Option Value),PySem.W.InstAt h a (dy C (some d) t I) C (some c)/\(∀name,PySem.W.lookIn name c=some (b name))/\∀f,ie (fs.lookup f) (b f):=by
 obtain ⟨b,k,r,_⟩:=Zr ok g;obtain ⟨c,j,i⟩:=NA k;exact ⟨c,b,⟨(ok a _ e).1,U,U,j⟩,i,r⟩
def Yc (K:aY) (e:TE) (f:Str):TE:=λh H Q=>e h H λx b=>∃a C d t g u c v,x=.ref a/\b a=some (.dZ (dy C (some d) t g) u)/\b d=some (ju d c)/\wx K C/\PySem.W.findIn K (.ref C) f=some none/\c.lookup f=some v/\Q v b
theorem ZF (m:X.K=K) (p:PE X e ta) (n:attributeBase e f X.env (eval e X.env)=eval e X.env):PE X (.Attribute e f pos) (Yc K ta f):=by subst m;intro D s M H Q I h;refine KU n (ay (p D s M H _ I h) λF R L=>?_);obtain ⟨x,g,b,E,a,C,d,t,S,u,N,v,k,i,j,G,B,l,q⟩:=L;subst k;obtain rfl:F=Value.ref a:=E;obtain ⟨O,A,J,y,r⟩:=Sy b.a4 i j;obtain ⟨T,z,c⟩:=ie.some_of (v:=v) (o:=A f) (by rw [<-l];exact r f);exact Vj b.de J G (PySem.W.findObj_own G.hd B U (by rw [y,z])) (MW c) ⟨v,g,b.tok _,c,q⟩
end
section
variable {K:aY}
end
section
end
theorem vX:∀{xs:List V} {j:Nat} {x:V},xs.all gh=true->xs[j]?=some x->gh x=true
 | [],_,_,_,e=>by simp at e
 | y::xs,j,x,h,e=>by
  rw [Ac,pS] at h
  cases j with
  | zero=>simp at e;subst e;exact h.1
  | succ j=>exact vX h.2 (by simpa using e)
theorem Zp (e:aX xs us) (f:aX ys vs) (i:xs.all gh=true) (k:ys.all gh=true) (j:Nat) (c:j<us.toArray.size) (d:j<vs.toArray.size):
 SeqAt.EqAt A s us.toArray[j] vs.toArray[j] (nc (xs.getD j .a9) (ys.getD j .a9)):=by
 have n:=e.length;have o:=f.length;rw [dW] at c d;have a:xs[j]?=some (xs.getD j .a9):=by rw [vw,df (ym c n)];rfl
 have b:ys[j]?=some (ys.getD j .a9):=by rw [vw,df (ym d o)];rfl
 obtain ⟨u,l,p⟩:=e.get a;obtain ⟨v,m,q⟩:=f.get b;have g:us.toArray[j]=u:=by have:=(cO.mp l).2;simpa using this
 have h:vs.toArray[j]=v:=by have:=(cO.mp m).2;simpa using this
 rw [g,h];exact Dk p q (vX i a) (vX k b)
section
variable {K:aY}
end
section
variable {K:aY}
end
def vF (xs ys:List V):Bool:=((List.range (min xs.length ys.length)).all λj=>nc (xs.getD j .a9) (ys.getD j .a9)) && xs.length==ys.length
theorem LO:∀{x:V},gh x=true->nc x x=true
 | .a9,_=>rfl
 | .bl b,_=>(mE b:(b==b)=true)
 | .int i,_=>(mE i:(i==i)=true)
 | .str s,_=>(mE s:(s==s)=true)
 | .lR _,h=>by cases h
 | .oJ _,h=>by cases h
 | .ref _,h=>by cases h
 | .ty _,h=>by cases h
theorem NM (f:xs.all gh=true):vF xs xs=true:=by
 unfold vF;rw [mE,Bool.and_true,lT];intro j a;have a:=pP.mp a;rw [Nat.min_self] at a;have g:xs[j]?=some (xs.getD j .a9):=by rw [vw,df a];rfl
 exact LO (vX f g)
section
end
def vC (H:Hp):Nat->V->V->Prop
 | 0,x,y=>x=y/\(gh x=true\/∃p,x=.ref p)
 | d+1,x,y=>vC H d x y\/∃(p q:Addr) (c e:List V),x=.ref p/\y=.ref q/\((H p=some (.lst c)/\H q=some (.lst e))\/(H p=some (.tup c)/\H q=some (.tup e)))/\c.length=e.length/\∀(j:Nat) (a b:V),c[j]?=some a->e[j]?=some b->vC H d a b
theorem EA (I:Inv X pins σ H s):∀{d:Nat} {A:Around} {x y:V} {u v:Value},A.units+d<cLine->bz x u->bz y v->vC H d x y->SeqAt.EqAt A s u v true
 | 0,A,x,y,u,v,O,k,l,h=>by
  obtain ⟨rfl,h⟩:=h;rcases h with h | ⟨p,rfl⟩
  ·have:=Dk (A:=A) (s:=s) k l h h;rw [LO h] at this;exact this
  ·cases k;cases l;exact SeqAt.EqAt.same _
 | d+1,A,x,y,u,v,O,k,l,h=>by
  rcases h with h | ⟨p,q,C,L,rfl,rfl,g,N,M⟩
  ·exact EA I (by lia) k l h
  cases k;cases l
  by_cases e:p=q
  ·rw [e];exact SeqAt.EqAt.same _
  have J:∀{c f:List Value},aX C c->aX L f->∀j (D:j<c.toArray.size) (E:j<f.toArray.size),SeqAt.EqAt A.in1 s c.toArray[j] f.toArray[j] true:=by
   intro c f a b j D E;have r:=a.length;have t:=b.length;rw [dW] at D E;have F:=df (show j<C.length by lia);have G:=df (show j<L.length by lia);obtain ⟨u1,m,Q⟩:=a.get F;obtain ⟨u2,n,R⟩:=b.get G;have m:c.toArray[j]'(by rw [dW];exact D)=u1:=by have:=(cO.mp m).2;simpa using this
   have n:f.toArray[j]'(by rw [dW];exact E)=u2:=by have:=(cO.mp n).2;simpa using this
   rw [m,n];exact EA I (by show A.units+1+d<cLine;lia) Q R (M j _ _ F G)
  rcases g with ⟨g,o⟩ | ⟨g,o⟩
  ·obtain ⟨c,a,z,_⟩:=I.list (ai.of g);obtain ⟨f,b,B,_⟩:=I.list (ai.of o);have r:=a.length;have t:=b.length;have i:=SeqAt.RcAt.lists (A:=A) (s:=s) (e:=λ_=>true) z.isList B.isList (by rw [dW,dW];lia) (by lia) (J a b);rw [show ((List.range c.toArray.size).all λ_=>true)=true from lT.mpr λ_ _=>rfl] at i;exact SeqAt.EqAt.of_refs e i
  ·obtain ⟨c,a,z,_⟩:=I.tuple (cK.of g);obtain ⟨f,b,B,_⟩:=I.tuple (cK.of o);have r:=a.length;have t:=b.length;have i:=SeqAt.RcAt.tuples (A:=A) (s:=s) (e:=λ_=>true) z B (by lia) (J a b);rw [dW,dW,<-r,<-t,<-N,Nat.min_self,mE,Bool.and_true,show ((List.range C.length).all λ_=>true)=true from lT.mpr λ_ _=>rfl] at i;exact SeqAt.EqAt.of_refs e i
theorem Yz (M:X.A.units+d+1<cLine):eI X (compareOp .Eq) (λx y H Q=>∃(p q:Addr) (xs ys:List V),x=.ref p/\y=.ref q/\H p=some (.lst xs)/\H q=some (.lst ys)/\xs.length=ys.length/\(∀(j:Nat) (a b:V),xs[j]?=some a->ys[j]?=some b->vC H d a b)/\Q (.bl true) H):=by
 intro R s S H x y v u Q I F G h;obtain ⟨p,q,xs,ys,rfl,rfl,r,t,L,z,A⟩:=h;cases F;cases G;obtain ⟨m,k,D,_⟩:=I.list (ai.of r);obtain ⟨J,l,E,_⟩:=I.list (ai.of t);have N:=k.length;have O:=l.length;refine SeqAt.eq_listAt (e:=λ_=>true) D.isList E.isList (by rw [dW,dW];lia) (by lia) (λj n o=>?_) ⟨.bl _,H,I,U,?_⟩
 ·rw [dW] at n o;have g:=df (show j<xs.length by lia);have i:=df (show j<ys.length by lia);obtain ⟨u1,c,B⟩:=k.get g;obtain ⟨u2,f,C⟩:=l.get i;have c:m.toArray[j]'(by rw [dW];exact n)=u1:=by
   have:=(cO.mp c).2;simpa using this
  have f:J.toArray[j]'(by rw [dW];exact o)=u2:=by have:=(cO.mp f).2;simpa using this
  rw [c,f];exact EA I (by show X.A.units+1+d<cLine;lia) B C (z j _ _ g i)
 ·rw [show ((List.range m.toArray.size).all λ_=>true)=true from lT.mpr λ_ _=>rfl];exact A
section
variable {K:aY}
end
section
end
def Yg (t u:TS):TS:=λD c H=>∀N:St->Hp->Prop,(∀b a,u D b a->N b a)->t { D with nx:=N } c H
theorem cf {X:Cx} {st:Stmt} {a:List Stmt} {t u:TS} (b:PS X st t) (c:f7 X a u):f7 X (st::a) (Yg t u):=λd s e H D I h=>aO b c d s e H D I (h (u D) λ_ _ z=>z)
def gS:R2:=λx y H Q=>∃p a i v,x=.ref p/\y=.int i/\H p=some (.lst a)/\gP a i=some v/\Q v H
def hQ:R2:=λx y H Q=>∃p a i v,x=.ref p/\y=.int i/\H p=some (.tup a)/\gP a i=some v/\Q v H
theorem cR:vB X gS:=by intro l j d s o H x y v u Q I f g n c;obtain ⟨p,m,i,k,a,b,h,e,q⟩:=n;exact ua l j d s o H x y v u Q I f g ⟨p,m,i,k,a,b,ai.of h,e,q⟩ c
theorem YY:vB X hQ:=by intro l j d s o H x y v u Q I f g n c;obtain ⟨p,m,i,k,a,b,h,e,q⟩:=n;exact Kp l j d s o H x y v u Q I f g ⟨p,m,i,k,a,b,cK.of h,e,q⟩ c
theorem aa (h:σ[j]?=some (some v)) (q:Q v H):gf j σ H Q:=⟨v,h,q⟩
theorem ct (q:Q k H):kT Q (.bl k) H:=⟨k,U,q⟩
theorem cS {f:Str} {a C dx:Addr} {b:List (Str×V)} {v:V} {H:Hp} {Q:VK} (h:H a=some (.ins C dx b)) (c:lU K C) (n:j5 K C f) (l:b.lookup f=some v) (q:Q v H):iu K f (.ref a) H Q:=⟨a,C,dx,b,v,U,h,c,n,l,q⟩
theorem pG {f:Str} {y:V} {a C dx:Addr} {b:List (Str×V)} {H:Hp} {N:Hp->Prop} (h:H a=some (.ins C dx b)) (c:lU K C) (n:j5 K C f) (l:b.length<1000) (q:N (upd H a (.ins C dx (aA f y b)))):iq K f y (.ref a) H N:=⟨a,C,dx,b,U,h,c,n,l,q⟩
theorem ip (h:H a=some (.ins C dx fs)) (l:fs.lookup m=none) (q:R):ir C m (.ref a) H R:=⟨a,dx,fs,U,h,l,q⟩
theorem ri (q:Q (g i j) H):fV g (.int i) (.int j) H Q:=⟨i,j,U,U,q⟩
theorem wB (h:H p=some (.lst xs)) (e:gP xs i=some v) (q:Q v H):gS (.ref p) (.int i) H Q:=⟨p,xs,i,v,U,U,h,e,q⟩
theorem kK (h:H l=some (.lst xs)) (z:xs.length<sizeLine) (q:Q .a9 (upd H l (.lst (xs++[y])))):il (.ref l) [y] H Q:=⟨l,xs,y,U,U,h,z,q⟩
theorem aN {X:Cx} {a:Expr} {b:TE} {k:Int} {j pos C} (h:PE X a b):PE X (.Subscript a (.Constant (.int k) j C) pos) (uC hQ b (tC (.int k))):=cu YY h a0 (λ_ _=>rfl)
theorem aL (h:H p=some (.tup xs)) (e:gP xs i=some v) (q:Q v H):tC (.int i) σ H λy a=>hQ (.ref p) y a Q:=⟨p,xs,i,v,U,U,h,e,q⟩
theorem jD (h:H p=some (.lst xs)) (e:gP xs i=some v) (q:Q v H):tC (.int i) σ H λy a=>gS (.ref p) y a Q:=⟨p,xs,i,v,U,U,h,e,q⟩
theorem ij (b:σ[j]?=some (some (.int i))) (h:H p=some (.lst xs)) (e:gP xs i=some v) (q:Q v H):gf j σ H λy a=>gS (.ref p) y a Q:=⟨.int i,b,p,xs,i,v,U,U,h,e,q⟩
end L2
namespace MA
def pass (k:Nat) (T:Nat->Nat->Int):Nat->Nat->Int:=λi j=>min (T i j) (T i k+T k j)
def mix (k a b:Nat) (T:Nat->Nat->Int):Nat->Nat->Int:=λi j=>if i<a\/(i=a/\j<b) then pass k T i j else T i j
theorem Tr (k:Nat) (T:Nat->Nat->Int):mix k 0 0 T=T:=by funext i j;unfold mix;rw [if_neg (by lia)]
theorem Mz (h:T k k=0) (i:Nat):pass k T i k=T i k:=by unfold pass;lia
theorem My (h:T k k=0) (j:Nat):pass k T k j=T k j:=by unfold pass;lia
theorem Ze (h:T k k=0) (i:Nat):mix k a b T i k=T i k:=by
 unfold mix;split
 ·exact Mz h i
 ·rfl
theorem Zd (h:T k k=0) (j:Nat):mix k a b T k j=T k j:=by
 unfold mix;split
 ·exact My h j
 ·rfl
theorem SG:mix k a b T a b=T a b:=by unfold mix;rw [if_neg (by lia)]
theorem Tq (i j:Nat):
 (if i=a/\j=b then min (T a b) (T a k+T k b) else mix k a b T i j)=mix k a (b+1) T i j:=by
 by_cases e:i=a/\j=b
 ·rw [if_pos e];obtain ⟨rfl,rfl⟩:=e;unfold mix pass;rw [if_pos (by lia)]
 ·rw [if_neg e];unfold mix
  by_cases h:i<a\/(i=a/\j<b)
  ·rw [if_pos h,if_pos (by lia)]
  ·rw [if_neg h,if_neg (by lia)]
theorem SH (b:j<n):mix k a n T i j=mix k (a+1) 0 T i j:=by
 unfold mix
 by_cases h:i<a\/(i=a/\j<n)
 ·rw [if_pos h,if_pos (by lia)]
 ·rw [if_neg h,if_neg (by lia)]
theorem Zc (a:i<n):mix k n 0 T i j=pass k T i j:=by unfold mix;rw [if_pos (by exact Or.inl a)]
structure Tab (n k:Nat) (p:Nat->Int) (T:Nat->Nat->Int):Prop where
 low:∀i j,i<n->j<n->p j-p i<=T i j
 zP:∀i,i<n->T i i=0
 mS:∀v,v<k->∀i j,i<n->j<n->T i j<=T i v+T v j
theorem Tab.pass (t:Tab n k p T) (b:k<n):Tab n (k+1) p (pass k T):=by
 have d:=t.zP k b;refine ⟨λi j a c=>?_,λi a=>?_,λv o i j a c=>?_⟩
 ·have h:=t.low i j a c;have l:=t.low i k a b;have m:=t.low k j b c;unfold MA.pass;lia
 ·have h:=t.low i k a b;have l:=t.low k i b a;have m:=t.zP i a;unfold MA.pass;lia
 ·by_cases e:v=k
  ·subst e;rw [Mz d,My d];unfold MA.pass;exact TV
  ·have f:v<k:=pE o e;have g:v<n:=by lia
   have q:=t.mS v f i j a c;have r:=t.mS v f k j b c;have s:=t.mS v f i k a b;have u:=t.low k v b g;have x:=t.low v k g b;unfold MA.pass;omega
def it (f:Nat->Nat):Nat->Nat->Nat
 | 0,x=>x
 | k+1,x=>f (it f k x)
theorem Dm (f:Nat->Nat) (a:Nat):∀(b:Nat) (x:Nat),it f (a+b) x=it f a (it f b x):=by
 intro b x
 induction a with
 | zero=>rw [zZ];rfl
 | succ a c=>rw [Nat.succ_add];show f (it f (a+b) x)=f (it f a (it f b x));rw [c]
theorem A8 (h:∀x,x<n->f x<n) (a:x<n):∀k,it f k x<n
 | 0=>a
 | k+1=>h _ (A8 h a k)
theorem Zw (h:∀x,x<n->f x<n) (q:x<n):∃p,1<=p/\p<=n/\it f p (it f n x)=it f n x:=by
 have t:¬((List.range (n+1)).map λk=>it f k x).Nodup:=λs=>by
  have:=List.Nodup.length_le_of_subset s (l₂:=List.range n) (λy r=>by
   obtain ⟨k,_,rfl⟩:=eQ.mp r;exact pP.mpr (A8 h q k))
  simp at this;exact gX (ji n this)
 have g:∃i j,i<j/\j<=n/\it f i x=it f j x:=by apply fu;intro u;apply t;rw [List.nodup_iff_pairwise_ne,oQ];refine CQ (R:=(·<·)) (λ{a b} _ m l e=>u ⟨a,b,l,?_,e⟩) List.pairwise_lt_range;have:=pP.mp m;exact rJ this
 obtain ⟨i,j,v,o,e⟩:=g;refine ⟨j-i,by lia,T8 o,?_⟩;have c:it f n x=it f (n-i) (it f i x):=by rw [<-Dm];congr 1;lia
 have d:it f (j-i) (it f n x)=it f (n-i) (it f j x):=by rw [<-Dm,<-Dm];congr 1;lia
 rw [d,c,e]
end MA
namespace MB
open MA
abbrev B3:=Nat×Nat×Int
structure Rx where
 t:Nat->Int
 p:Nat->Nat
 q:Option Nat
def put (f:Nat->α) (i:Nat) (v:α):Nat->α:=λj=>if j=i then v else f j
def fw (s:Rx) (x:B3):Rx:=if s.t x.1<s.t x.2.1-x.2.2 then ⟨put s.t x.1 (s.t x.2.1-x.2.2),put s.p x.1 x.2.1,some x.1⟩ else s
def lX (s:Rx):Rx:=⟨s.t,s.p,none⟩
def Ym (B:List B3) (s:Rx):Rx:=B.foldl fw (lX s)
def a_ (B:List B3):Nat->Rx
 | 0=>⟨λ_=>0,λ_=>0,none⟩
 | k+1=>Ym B (a_ B k)
def Kf (n:Nat) (B:List B3):Prop:=∀x∈B,x.1<n/\x.2.1<n
structure Rx.In (s:Rx) (n:Nat):Prop where
 p:∀i,s.p i<n
 q:∀i,s.q=some i->i<n
theorem Td (h:s.In n) (b:x.1<n) (a:x.2.1<n):(fw s x).In n:=by
 unfold fw;split
 ·refine ⟨λi=>?_,λi e=>?_⟩
  ·show put s.p x.1 x.2.1 i<n;unfold put;split
   ·exact a
   ·exact h.p i
  ·have:x.1=i:=ff e;lia
 ·exact h
theorem Lj:∀{B:List B3} {s:Rx},s.In n->Kf n B->(B.foldl fw s).In n
 | [],_,h,_=>h
 | x::B,s,h,a=>by rw [vq];exact Lj (Td h (a x fh).1 (a x fh).2) λy b=>a y (gI _ b)
theorem SN (h:s.In n):(lX s).In n:=⟨h.p,λ_ e=>nomatch e⟩
theorem Nn (b:0<n) (a:Kf n B):∀k,(a_ B k).In n
 | 0=>⟨λ_=>b,λ_ e=>nomatch e⟩
 | k+1=>Lj (SN (Nn b a k)) a
def n6 (f:Nat->Nat) (n x:Nat) (ring:List Nat):Prop:=∃L,1<=L/\L<=n/\ring=(List.range L).map (λj=>it f j (it f n x))/\it f L (it f n x)=it f n x/\∀j,0<j->j<L->it f j (it f n x)≠it f n x
def T0 (la:Int):Nat->Nat->Int:=λi j=>if i=j then 0 else la
def xy (T:Nat->Nat->Int) (x:B3):Nat->Nat->Int:=λi j=>if i=x.1/\j=x.2.1 then min (T x.1 x.2.1) x.2.2 else T i j
def lW (B:List B3) (T:Nat->Nat->Int):Nat->Nat->Int:=B.foldl xy T
def tN (T:Nat->Nat->Int):Nat->Nat->Nat->Int
 | 0=>T
 | k+1=>pass k (tN T k)
def pq (n:Nat) (la:Int) (B:List B3):Nat->Nat->Int:=tN (lW B (T0 la)) n
structure xk (n:Nat) (la:Int) (B:List B3) (p:Nat->Int):Prop where
 la:∀i j,i<n->j<n->i≠j->p j-p i<=la
 b:∀x∈B,p x.2.1-p x.1<=x.2.2
theorem Vm (t:Tab n 0 p T) (f:p x.2.1-p x.1<=x.2.2):Tab n 0 p (xy T x):=by
 refine ⟨λi j a b=>?_,λi a=>?_,λv e=>absurd e (mG _)⟩
 ·unfold xy;split
  ·rename_i h
   obtain ⟨rfl,rfl⟩:=h;have:=t.low _ _ a b;lia
  ·exact t.low i j a b
 ·unfold xy;split
  ·rename_i h
   obtain ⟨c,d⟩:=h;have:=t.zP i a;rw [<-c,<-d] at f ⊢;lia
  ·exact t.zP i a
theorem Mp:∀{B:List B3} {T:Nat->Nat->Int},Tab n 0 p T->(∀x∈B,p x.2.1-p x.1<=x.2.2)->Tab n 0 p (lW B T)
 | [],_,t,_=>t
 | x::B,_,t,h=>Mp (B:=B) (Vm t (h x fh)) λy a=>h y (gI _ a)
theorem Vn (h:xk n la B p):Tab n 0 p (lW B (T0 la)):=by
 refine Mp ⟨λi j a b=>?_,λi _=>?_,λv c=>absurd c (mG _)⟩ h.b
 ·unfold T0;split
  ·rename_i e
   rw [e];lia
  ·rename_i e
   exact h.la i j a b e
 ·unfold T0;rw [if_pos rfl]
theorem Mn (h:xk n la B p):∀k,k<=n->Tab n k p (tN (lW B (T0 la)) k)
 | 0,_=>Vn h
 | k+1,a=>(Mn h k (by exact aR a)).pass (by exact a)
end MB
open MB (n6 a_ fw lX xk pq lW tN)
namespace Y0
open PySem L2
def top (i:Nat):Stmt:=PySem.Challenge.pw_momentties_k19_asked_again.main.body.getD i (.Pass ⟨0,0,0,0⟩)
abbrev cE:Stmt:=kG (top 3) 0
abbrev cp:Stmt:=top 5
abbrev cm:Stmt:=top 6
abbrev bx:Stmt:=top 7
abbrev a5:Stmt:=top 8
abbrev cq:Stmt:=top 9
abbrev aw:Stmt:=top 10
abbrev bU:Stmt:=top 13
abbrev eP:Stmt:=top 14
abbrev dA:Stmt:=top 15
abbrev d9:Stmt:=top 16
abbrev d8:Stmt:=top 17
abbrev dB:Stmt:=top 18
abbrev cT:Stmt:=top 19
abbrev bo:Stmt:=top 20
abbrev bf:Stmt:=top 21
abbrev cG:Stmt:=kG (top 23) 0
abbrev bX:Stmt:=kG (top 23) 1
abbrev cF:Stmt:=kG (top 23) 2
abbrev bV:Stmt:=kG (top 23) 3
abbrev aT:Stmt:=kG (top 23) 4
abbrev bg:Stmt:=kG (top 23) 5
abbrev aQ:Stmt:=kG (top 23) 6
abbrev aK:Stmt:=kG (top 23) 7
abbrev bL:Stmt:=kG (top 23) 8
abbrev aH:Stmt:=kG (top 23) 9
abbrev bq:Stmt:=top 24
abbrev bw:Stmt:=top 25
abbrev d7:Stmt:=top 26
abbrev eO:Stmt:=top 27
abbrev bj:Stmt:=top 29
abbrev dq:Stmt:=top 30
abbrev aW:Stmt:=top 32
abbrev dm:Stmt:=top 33
abbrev cB:Stmt:=top 34
abbrev dn:Stmt:=top 35
abbrev bC:Stmt:=top 36
abbrev en:Stmt:=top 37
abbrev aE:Stmt:=top 43
abbrev bu:Stmt:=top 44
abbrev br:Stmt:=top 45
abbrev aD:Stmt:=top 46
abbrev eC:Stmt:=kG (top 47) 0
abbrev eB:Stmt:=kG (top 47) 1
abbrev dD:Stmt:=kG (top 47) 2
abbrev cP:Stmt:=kG (top 47) 3
abbrev iL:Stmt:=top 49
abbrev iY:Stmt:=top 50
abbrev iZ:Stmt:=top 51
abbrev jC:Stmt:=top 52
abbrev nY:Stmt:=top 53
abbrev dr:Stmt:=top 54
abbrev fU:Stmt:=top 55
abbrev uH:Stmt:=top 56
seal L2.kT L2.il L2.iu L2.fV L2.gS L2.hQ L2.ir L2.iq L2.gf
structure Fn (K:aY) (mg:Str->Option Value) (x:Str) (st:Stmt) (ps:List Str) (f:Addr) (fd:FuncData):Prop where
 F:gb K x x st f fd
 b:cY K fd ps []
 g:mg x=some (.ref f)
theorem bM {X:Cx} {k:Nat} {f:Addr} {b:FuncData} {c:List Str} {sp:Sp} {x:Str} {st:Stmt} {e:Expr} {a:List Expr} {t:TA} {p pos:Pos} (G:af X.prog X.w X.K X.mg X.base aq k f b c sp) (l:cA k X.A) (F:Fn X.K X.mg x st c f b) (d:PA X (e::a) t) (i:Gl X x:=by rfl) (g:(x==("__debug__":Str))=false:=by decide) (h:starEach (e::a) X.env=(false,eval e X.env)::starEach a X.env:=by rfl) (j:(backTo pos (starEach a X.env)).any (·.1)=false:=by rfl):PE X (.Call (.Name x p) (e::a) [] pos) (P9 sp [] E0 t):=vU G l i F.g F.F.kp F.b .nil eK d g h j
end Y0
namespace L2
open PySem
def cx (d:Addr) (H a:Hp):Prop:=∀b o,H b=some o->b≠d->a b=some o
theorem cx.refl (d:Addr) (H:Hp):cx d H H:=λ_ _ e _=>e
theorem cx.trans (x:cx d H H1) (y:cx d H1 H2):cx d H H2:=λb o e n=>y b o (x b o e n) n
theorem a8 (h:H p=none):ao H (upd H p o):=λb u e=>by rw [ag (a7 e h)];exact e
end L2
namespace Y0
open PySem L2
seal L2.kT L2.il L2.iu L2.fV L2.gS L2.hQ L2.ir L2.iq L2.gf
def ny (K:aY) (H:Hp) (sa:Addr) (ns:List Int):Prop:=(∃o,H sa=some (.dZ o (.lst (ns.map V.int))))\/
 ∃(o:Obj) (a:Array Value) (n:Nat),K.lookup sa=some o/\o.cls=.type "list"/\o.dict=none/\o.data=.seq a n/\a.size<=sizeLine/\aX (ns.map V.int) a.toList
theorem ny.sq (h:ny K H sa ns):ai K H sa (ns.map V.int):=by
 rcases h with ⟨o,h⟩ | h
 ·exact .inl (.inr ⟨o,h⟩)
 ·exact .inr h
theorem ny.same (h:ny K H sa ns) (k:ao H H1):ny K H1 sa ns:=by
 rcases h with ⟨o,h⟩ | h
 ·exact .inl ⟨o,k _ _ h⟩
 ·exact .inr h
theorem ny.keep (h:ny K H sa ns) (k:cx l H H1) (a:H l=some (.lst xs)):ny K H1 sa ns:=by
 rcases h with ⟨o,h⟩ | h
 ·exact .inl ⟨o,k _ _ h (cI h a nofun)⟩
 ·exact .inr h
structure eb (K:aY) (sa:Addr) (H:Hp) (d:Addr):Prop where
 at_:∃p:Nat,H d=some (.lst [.ref sa,.int p])
 scr:∃ns:List Int,ny K H sa ns
theorem eb.same (x:eb K sa H d) (k:ao H H1):eb K sa H1 d:=by obtain ⟨⟨p,h⟩,⟨a,r⟩⟩:=x;exact ⟨⟨p,k _ _ h⟩,⟨a,r.same k⟩⟩
def aB (K:aY):Sp:=λc H Q _=>∃d b m,c=[.ref d,.int m]/\eb K b H d/\1<=m/\∀r a,0<=r->r<m->eb K b a d->cx d H a->Q (.int r) a
theorem iw (D:eb K sa H d) (h:1<=m) (q:∀r a,0<=r->r<m->eb K sa a d->cx d H a->Q (.int r) a):aB K [.ref d,.int m] H Q E:=Exists.intro d (Exists.intro sa (Exists.intro m ⟨U,D,h,q⟩))
section
theorem É:cb Ā Ā (aJ iL):=c9
theorem qW (F:Fn K mg "_law_next" iL Ā f fd) (z:mg "len"=none):af P w K mg base aq 1 f fd Ā (aB K):=by
 refine F.F.cJ É λ_ A _ s H _ Q E B h=>?_;obtain ⟨d,c,m,rfl,D,g,k⟩:=h;obtain ⟨⟨p,j⟩,⟨i,y⟩⟩:=id D;refine ⟨_,aO (qm (cv ik (cu cR (pv 0) a0) a0) (qk (pv 0) a0 qy))
  (aO (dG (dF Pu (cu cR (pv 0) a0) (iB ur (by rfl) z vy (aU (cu cR (pv 0) a0)))) (ax (b_ a0)) dH)
  (ax (b_ (cv Dq (cu ua (cu cR (pv 0) a0) (cv i9 (cu cR (pv 0) a0) a0)) (pv 1))))),?_⟩
 refine (aa U (jD j U (ri (aa U ⟨_,_,_,_,U,U,j,U,?_⟩))));have a:upd H d (.lst ([V.ref c,V.int p].set 1 (.int ((p:Int)+1)))) d=some (.lst [.ref c,.int ((p:Int)+1)]):=ah;have l:cx d H (upd H d (.lst ([V.ref c,V.int p].set 1 (.int ((p:Int)+1))))):=λb o e n=>by rw [ag n];exact e
 have u:=y.keep l j;have t:=u.sq;have q:eb K c (upd H d (.lst ([V.ref c,V.int p].set 1 (.int ((p:Int)+1))))) d:=⟨⟨p+1,a⟩,⟨i,u⟩⟩;refine (aa U (jD a U (aa U (jD a U ⟨_,_,U,.inl t,ri (ct ?_)⟩))));refine iG (λ_=>?_) (λr=>?_)
 ·exact k 0 _ (jn _) (by exact g) q l
 ·have x:p<i.length:=by
   rw [ak] at r;simp only [vu] at r;omega
  have v:gP (i.map V.int) ((p:Int)+1-1)=some (.int i[p]):=by rw [show (p:Int)+1-1=((p:Nat):Int) by lia];exact iH (by rw [cW,df x];rfl)
  refine (aa U (jD a U (aa U (jD a U (ri ⟨_,_,_,_,U,U,t,v,aa U ⟨_,_,U,U,(by show (0:Int)<m;exact g),?_⟩⟩)))));exact k _ _ (JL _ (by exact Int.ne_of_gt g)) (Int.emod_lt_of_pos _ (by exact g)) q l
end
end Y0
namespace L2
open PySem
def Xy (t:TS):TS:=λD c H=>∃R:St->Hp->Prop,t { D with nx:=R } c H/\∀b a,R b a->D.nx b a
theorem vK (h:PS X st t):PS X st (Xy t):=by
 intro i s j H D I g;obtain ⟨R,d,e⟩:=g;refine ay (h i s j H _ I d) λf k q=>?_
 cases f with
 | next=>obtain ⟨b,a,c,r⟩:=q;exact ⟨b,a,c,e b a r⟩
 | brk=>exact q
 | cont=>exact q
 | ret v=>exact q
theorem Ks (h:PS X.wD st t):PS X st t:=λb s c H D I a=>
 gY (h b s c H D (I.h_ _) a) (λ_ _ q=>q.d0) λ_ _ z=>gX z
def ee (H:Hp) (a:Addr) (b:List Addr) (rows:List (List Int)):Prop:=H a=some (.lst (b.map V.ref))/\Paired (λp r=>H p=some (.tup (r.map V.int))) b rows
def dP (H:Hp) (a:Addr) (rows:List (List Int)):Prop:=∃b,ee H a b rows
theorem gM (h:Paired F l m) (i:∀a b,F a b->G a b):Paired G l m:=Paired.uS h i
theorem ee.same (h:ee H a ps rows) (k:ao H H'):ee H' a ps rows:=⟨k _ _ h.1,gM h.2 λ_ _ e=>k _ _ e⟩
theorem ee.keep (h:ee H a ps rows) (k:cx d H H') (b:H d=some (.lst xs)) (c:a≠d):ee H' a ps rows:=
 ⟨k _ _ h.1 c,gM h.2 λ_ _ e=>k _ _ e (cI e b nofun)⟩
theorem dP.same (h:dP H a rows) (k:ao H H'):dP H' a rows:=let ⟨b,r⟩:=h;⟨b,r.same k⟩
theorem dP.keep (h:dP H a rows) (k:cx d H H') (b:H d=some (.lst xs)) (c:a≠d):dP H' a rows:=let ⟨e,r⟩:=h;⟨e,r.keep k b c⟩
theorem ee.len (h:ee H a ps rows):ps.length=rows.length:=h.2.length
theorem ee.push (h:ee H a ps rows) (b:H p=some (.tup (r.map V.int))):ee (upd H a (.lst (ps.map V.ref++[.ref p]))) a (ps++[p]) (rows++[r]):=by
 have c:∀q d,H q=some (.tup d)->q≠a:=λq d e=>cI e h.1 nofun;refine ⟨by rw [ah,d_];rfl,Cz (gM h.2 λq r e=>?_) ?_⟩
 ·rw [ag (c q _ e)];exact e
 ·rw [ag (c p _ b)];exact b
theorem mf (k:cx d H0 H) (h:H0 l=none):cx d H0 (upd H l o):=λb u e n=>by rw [ag (a7 e h)];exact k b u e n
theorem cx.free (k:cx d H0 H) (h:H l=none) (b:∃o,H d=some o):H0 l=none:=by
 cases q:H0 l with
 | none=>rfl
 | some o=>
  by_cases e:l=d
  ·subst e;obtain ⟨c,a⟩:=b;rw [h] at a;cases a
  ·rw [k l o q e] at h;cases h
end L2
namespace Y0
open PySem L2
seal L2.kT L2.il L2.iu L2.fV L2.gS L2.hQ L2.ir L2.iq L2.gf Y0.aB
theorem eb.there (x:eb K sa H d):∃o,H d=some o:=let ⟨p,e⟩:=x.at_;⟨_,e⟩
theorem eb.upd (x:eb K sa H d) (c:H l=some (.lst xs)) (a:l≠d):eb K sa (upd H l o) d:=by obtain ⟨⟨p,h⟩,⟨f,r⟩⟩:=x;exact ⟨⟨p,by rw [ag (a6 a)];exact h⟩,⟨f,r.keep (λb u e n=>by rw [ag n];exact e) c⟩⟩
theorem eb.new (x:eb K sa H d) (a:H l=none):eb K sa (L2.upd H l o) d:=x.same (a8 a)
def fG (m n t:Int):Int:=if m=0 then 0 else 1+(m-1+t) % (n-1)
def Ly:Sp:=λa H Q _=>∃m n t,a=[.int m,.int n,.int t]/\2<=n/\Q (.int (fG m n t)) H
section
theorem Xp:cb ā ā (aJ iY):=c9
theorem om (F:Fn K mg "_law_named" iY ā f fd):af P w K mg base aq 1 f fd ā Ly:=by
 refine F.F.cJ Xp λ_ A _ s H _ Q E c h=>?_;obtain ⟨m,n,t,rfl,b,k⟩:=h;refine ⟨_,aO (dG (dF gC (pv 0) a0) (ax (b_ a0)) dH)
  (ax (b_ (cv ik a0 (cv Dq (cv ik (cv i9 (pv 0) a0) (pv 2)) (cv i9 (pv 1) a0))))),?_⟩
 refine (aa U ⟨U,ct ?_⟩);refine iG (λa=>?_) (λa=>?_)
 ·have e:m=0:=by simpa using a
  have q:fG m n t=0:=by unfold fG;rw [if_pos e]
  rw [q] at k;exact k
 ·have e:¬m=0:=by simpa using a
  have q:fG m n t=1+(m-1+t) % (n-1):=by unfold fG;rw [if_neg e]
  rw [q] at k;exact (aa U (ri (aa U (ri (aa U (ri ⟨_,_,U,U,(by show (0:Int)<n-1;exact B9 b),ri k⟩))))))
end
def uc (n:Int) (c:Nat) (rows:List (List Int)):Prop:=∀(k:Nat) r,rows[k]?=some r->∃a l m:Int,r=[a,n-1-k,l,m]/\0<=a/\a<n-c/\1<=l/\l<=m/\m<=60
theorem uc.snoc (h:uc n c rows) (d:0<=a) (f:a<n-c) (g:1<=l) (i:l<=m) (j:m<=60):uc n c (rows++[[a,n-1-rows.length,l,m]]):=by
 intro k r e
 by_cases b:k<rows.length
 ·rw [ic b] at e;exact h k r e
 ·rw [iD (by exact jt b)] at e;have o:k-rows.length=0:=by
   cases q:k-rows.length with
   | zero=>rfl
   | succ z=>rw [q] at e;simp at e
  rw [o] at e;cases e;have:k=rows.length:=by lia
  subst this;exact ⟨a,l,m,U,d,f,g,i,j⟩
def A3 (wd:Int) (rows:List (List Int)):Prop:=wd≠8->rows.length<=3/\∀r∈rows,r.getD 3 0-r.getD 2 0<wd
def Ls (K:aY):Sp:=λg H Q _=>∃d f n e,g=[.ref d,.int n,.int e]/\eb K f H d/\2<=n/\n<=8/\1<=e/\e<=8/\
 ∀(l:Addr) (c:Nat) b a,(c:Int)<=n-1->b.length=c->uc n c b->dP a l b->H l=none->eb K f a d->cx d H a->A3 e b->Q (.ref l) a
section
abbrev nF:List Str:=["_law_d","_law_many","_law_wide","_law_count","_law_falls_here","_law_k","_law_least","_law_most"]
theorem qG:cb nF Ą (aJ iZ):=c9
theorem ow (F:Fn K mg "_law_falls" iZ Ą f fd) (j:Fn K mg "_law_next" iL Ā fN pK)
 (k:af P w K mg base aq 1 fN pK Ā (aB K)) (min:mg "min"=none) (range:mg "range"=none):af P w K mg base aq 2 f fd Ą (Ls K):=by
 refine F.F.cJ qG λ_ x7 _ kJ H _ x9 x8 g x6=>?_;obtain ⟨d,Y,n,h,rfl,x5,zg,hn2,wF,HF,x2⟩:=x6;refine ⟨_,aO (cg 3 qG.nd (bM k g j (bp (pv 0) (cv ik (iB (uo U) (by rfl) min (by decide+kernel) (bp a0 (cv i9 (pv 1) a0))) a0))))
  (aO (vK (dG (PW.pt (vM (dF gC (pv 2) a0) (vV (dF gC (bM k g j (bp (pv 0) a0)) a0))))
   (ax (cg 3 qG.nd (bM k g j (bp (pv 0) (pv 1))))) dH))
  (aO (cg 4 qG.nd (iJ n7))
  (aO (fJ ft U (qC U range (aU (pv 3))) (bH 5 qG.nd)
   (aO (cg 6 qG.nd (cv ik a0 (bM k g j (bp (pv 0) (pv 2)))))
   (aO (cg 7 qG.nd (cv ik (pv 6) (bM k g j (bp (pv 0) (pv 2)))))
   (aO (vK (dG (PW.pt (vM (dF gC (pv 2) a0) (vV (dF gC (bM k g j (bp (pv 0) a0)) a0))))
    (aO (cg 6 qG.nd (cv ik a0 (bM k g j (bp (pv 0) a0))))
    (ax (cg 7 qG.nd (cv ik (pv 6) (bM k g j (bp (pv 0) (cv i9 a0 (pv 6)))))))) dH))
   (ax (eg (kE kY kf kX jT (pv 4)
    (aU (eN (jV (bM k g j (bp (pv 0) (cv i9 (pv 1) (pv 3)))) (cv i9 (cv i9 (pv 1) a0) (pv 5)) (pv 6) (pv 7)))))))))))
  (ax (b_ (pv 4)))))),?_⟩
 refine (aa U (aa U (ri ⟨_,_,U,ri (iw x5 (by split<;>lia) (λJ H1 zz L D1 W=>?_))⟩)));have hc2:J<=n-1:=by
  revert L
  split<;>intro L<;>lia
 have hc3:J<=3:=by
  revert L
  split<;>intro L<;>lia
 refine ⟨λq m=>∃c:Nat,(c:Int)<=n-1/\(h≠8->c<=3)/\q=[some (.ref d),some (.int n),some (.int h),some (.int (c:Int)),none,none,none,none]/\eb K Y m d/\cx d H m,?_,?_⟩
 ·
  refine (aa U ⟨U,ct ?_⟩);refine iG (λp=>?_) (λ_=>?_)
  ·have p:h=8:=by simpa using p
   refine (aa U (iw D1 (by decide) (λr H2 _ _ t B=>⟨U,ct ?_⟩)));refine iG (λ_=>?_) (λ_=>?_)
   ·refine (aa U (aa U (iw t (by exact gk zg) (λc y h0 h1 u v=>⟨c.toNat,by lia,λz=>absurd p z,?_,u,(W.trans B).trans v⟩))));rw [kZ h0];rfl
   ·exact ⟨J.toNat,by lia,λz=>absurd p z,by rw [kZ zz];rfl,t,W.trans B⟩
  ·refine gJ ?_;exact ⟨J.toNat,by lia,λ_=>by lia,by rw [kZ zz];rfl,D1,W⟩
 ·rintro q H2 ⟨c,hc,hcw,rfl,t,B⟩;refine ⟨dV _,λl S=>?_⟩;have T:H l=none:=B.free S t.there;have ld:l≠d:=λe=>by
   subst e;obtain ⟨o,x4⟩:=t.there;rw [S] at x4;cases x4
  refine (aa U ⟨_,U,by exact gW (c+Nat.succ 4611686018427387903),by lia,yo (n:=c) (λi q m=>∃Z v2 v3 x rows,q=[some (.ref d),some (.int n),some (.int h),some (.int (c:Int)),some (.ref l),Z,v2,v3]/\ee m l x rows/\rows.length=i/\uc n c rows/\eb K Y m d/\cx d H m/\(h≠8->∀r∈rows,r.getD 3 0-r.getD 2 0<h))
   ⟨none,none,none,[],[],U,⟨ah,.nil⟩,U,(λx2 r e=>by simp at e),t.new S,mf B T,λ_ r g=>nomatch g⟩ ?_ ?_⟩)
  ·rintro i q y hi ⟨Z,v2,v3,x,rows,rfl,O,A,R,u,v,Q⟩;have kl:∀{N:Hp},cx d y N->ee N l x rows:=λC=>by
    obtain ⟨x3,e⟩:=u.at_;exact O.keep C e ld
   refine (aa U (aa U (iw u wF (λM N zG IU D4 C=>(ri ?_)))));refine (aa U (aa U (aa U (iw D4 wF (λr2 H5 wQ Rc D5 X=>(ri ?_))))));refine ⟨λq m=>∃a b:Int,1<=a/\a<=b/\b<=60/\(h≠8->b-a<h)/\q=[some (.ref d),some (.int n),some (.int h),some (.int (c:Int)),some (.ref l),some (.int (0+(i:Int))),some (.int a),some (.int b)]/\eb K Y m d/\cx d y m,?_,?_⟩
   ·refine (aa U ⟨U,ct ?_⟩);refine iG (λp=>?_) (λ_=>?_)
    ·have p:h=8:=by simpa using p
     refine (aa U (iw D5 (by decide) (λr H6 _ _ E s=>⟨U,ct ?_⟩)));refine iG (λ_=>?_) (λ_=>?_)
     ·refine (aa U (iw E (by decide) (λr3 H7 Rb h3b G D=>(ri ?_))));refine (aa U (aa U (aa U (ri (iw G (by lia) (λr4 H8 h4a h4b D8 k8=>(ri ?_)))))));exact ⟨1+r3,1+r3+r4,lC Rb,lC h4a,by lia,λz=>absurd p z,U,D8,(((C.trans X).trans s).trans D).trans k8⟩
     ·exact ⟨1+M,1+M+r2,lC zG,lC wQ,by lia,λz=>absurd p z,U,E,(C.trans X).trans s⟩
    ·refine gJ ?_;exact ⟨1+M,1+M+r2,lC zG,lC wQ,by lia,λ_=>by lia,U,D5,C.trans X⟩
   ·rintro q H6 ⟨a,b,ha,hab,hb,hba,rfl,E,s⟩;have R6:=kl s;refine (aa U ⟨.inl ⟨U,_,ai.of R6.1⟩,?_⟩);refine (aa U (aa U (aa U (ri (iw E (by lia) (λr5 H7 h5a h5b G D=>?_))))));have R7:=kl (s.trans D);refine (aa U (ri (aa U (ri (aa U (aa U ⟨dj U,λx3 V=>?_⟩))))));have I:=R7.same (a8 (o:=.tup [.int r5,.int (n-1-(0+(i:Int))),.int a,.int b]) V);refine (kK I.1 ?_ ?_)
    ·rw [ak,I.len];exact fe (by lia)
    ·have e0:(0:Int)+(i:Int)=(rows.length:Int):=by rw [A];lia
     refine ⟨_,_,_,x++[x3],rows++[[r5,n-1-(0+(i:Int)),a,b]],U,I.push ah,by rw [dw,A];rfl,?_,?_,?_,λz r g=>?_⟩
     ·rw [e0];exact R.snoc h5a h5b ha hab hb
     ·exact (G.new V).upd I.1 ld
     ·exact mf (mf ((v.trans s).trans D) (((v.trans s).trans D).free V G.there)) T
     ·rcases gH.mp g with x1 | x1
      ·exact Q z r x1
      ·rw [g_.mp x1];exact hba z
  ·rintro q y ⟨Z,v2,v3,x,rows,rfl,O,A,R,u,v,Q⟩;exact (aa U (x2 l c rows y hc A R ⟨x,O⟩ T u v λz=>⟨by rw [A];exact hcw z,Q z⟩))
end
theorem DX {x n:Int} (c:0<=x) (d:x<2*n) (f:0<n):x % n=if x<n then x else x-n:=by
 by_cases h:x<n
 ·rw [if_pos h,Int.emod_eq_of_lt c h]
 ·rw [if_neg h];have e:x % n=(x-n) % n:=by
   first
    | exact (Int.sub_emod_right x n).symm
    | (have:=Int.pN (a:=x-n) (b:=n);rw [Int.sub_add_cancel] at this;exact this)
  rw [e,Int.emod_eq_of_lt (by lia) (by lia)]
theorem KS {xs:List Int} {i:Int} (b:0<=i) (c:i<xs.length):∃v,v∈xs/\gP (xs.map V.int) i=some (.int v):=by
 obtain ⟨j,rfl⟩:∃j:Nat,i=j:=⟨i.toNat,by lia⟩;have a:j<xs.length:=by lia
 exact ⟨xs[j],vv a,iH (by rw [cW,df a];rfl)⟩
def rV (n:Int) (r:List Int):Prop:=∃a b l m:Int,r=[a,b,l,m]/\0<=a/\a<n/\0<=b/\b<n/\a≠b/\-60<=l/\l<=m/\m<=60
def KA (K:aY):Sp:=λg H Q _=>∃d f n b e,g=[.ref d,.int n,.int b,.int e]/\eb K f H d/\2<=n/\n<=8/\1<=b/\b<=60/\1<=e/\e<=8/\
 ∀(l:Addr) c a,c.length<=12->(∀r∈c,rV n r)->dP a l c->H l=none->eb K f a d->cx d H a->Q (.ref l) a
section
abbrev nT:List Str:=["_law_d","_law_many","_law_last","_law_wide","_law_ties_here","_law_k","_law_times","_law_count","_law_one","_law_other","_law_near","_law_least"]
theorem nV:cb nT xv (aJ jC):=c9
theorem coT:hV (aJ jC) nT (jY [(".0",.local),("_law_k",.local),("_law_next",.globalImplicit),("_law_d",.free),("_law_last",.free)]) ġ [none,some 0,some 2]:=jZ
theorem â:(ġ:List Str).Nodup:=by decide+kernel
theorem qN (F:Fn K mg "_law_ties" jC xv f fd) (u:Fn K mg "_law_next" iL Ā fN pK)
 (v:af P w K mg base aq 1 fN pK Ā (aB K)) (min:mg "min"=none) (max:mg "max"=none) (range:mg "range"=none):af P w K mg base aq 2 f fd xv (KA K):=by
 refine F.F.cJ nV λ_ x6 _ x9 H _ x8 x7 g x4=>?_;obtain ⟨d,sa,n,la,wd,rfl,x1,zg,hn2,vd,wL,wF,_,x5⟩:=x4;refine ⟨_,cf (cg 4 nV.nd (iJ n7))
  (cf (cg 6 nV.nd (cv xK (iJ (aU a0)) (me U (qC U range (aU (cv i9 (pv 1) a0))) coT
   (λcl ex s0 H0=>⟨bH 0 â,nI,bM v g u (bp (pv 1) (cv ik (pv 2) a0))⟩))))
  (cf (cg 7 nV.nd (bM v g u (bp (pv 0) a0)))
  (cf (vK (dG (PW.pt (vM (dF gC (pv 3) a0) (vV (dF gC (bM v g u (bp (pv 0) a0)) a0))))
   (ax (cg 7 nV.nd (bM v g u (bp (pv 0) a0)))) dH))
  (cf (fJ ft U (qC U range (aU (pv 7))) (bH 5 nV.nd)
   (cf (cg 8 nV.nd (bM v g u (bp (pv 0) (pv 1))))
   (cf (cg 9 nV.nd (cv Dq (cv ik (cv ik (pv 8) a0) (bM v g u (bp (pv 0) (cv i9 (pv 1) a0)))) (pv 1)))
   (cf (cg 10 nV.nd (cv i9 (cu cR (pv 6) (pv 9)) (cu cR (pv 6) (pv 8))))
   (cf (vK (dG (dF gC (bM v g u (bp (pv 0) a0)) a0)
    (ax (cg 10 nV.nd (cv i9 (bM v g u (bp (pv 0) (cv ik (cv Y2 a0 (pv 2)) a0))) (pv 2)))) dH))
   (cf (cg 11 nV.nd (iB (MP U) (by rfl) max (by decide+kernel) (bp (nt nG a0) (cv i9 (pv 10) (bM v g u (bp (pv 0) (cv ik (pv 3) a0)))))))
   (ax (eg (kE kY kf kX jT (pv 4)
    (aU (eN (jV (pv 8) (pv 9) (pv 11) (iB (uo U) (by rfl) min (by decide+kernel) (bp a0 (iB (MP U) (by rfl) max (by decide+kernel)
     (bp (pv 11) (cv ik (pv 10) (bM v g u (bp (pv 0) (cv ik (pv 3) a0))))))))))))))))))))
  (ax (b_ (pv 4))))))),?_⟩
 refine λQ y=>⟨dV _,λl hl=>y _ _ ?_⟩;clear y Q;have R:l≠d:=λe=>by subst e;obtain ⟨o,q⟩:=x1.there;rw [hl] at q;cases q
 refine λQ y=>⟨dj U,λz hz=>?_⟩;refine (aa U (ri ⟨_,U,by lia,by lia,λW Z=>?_⟩));have zl:z≠l:=a6 (a7 (ah (H:=H) (a:=l) (o:=.lst [])) hz);have Q2:H z=none:=by rw [ag zl] at hz;exact hz
 have Kj:W≠l:=a6 (a7 (show upd (upd H l (.lst [])) z (.lst [.int 0]) l=some (.lst []) by rw [ag (a6 zl),ah]) Z);have Ki:W≠z:=a6 (a7 (ah (H:=upd H l (.lst [])) (a:=z) (o:=.lst [.int 0])) Z);have rC:H W=none:=by rw [ag Ki,ag Kj] at Z;exact Z
 have B:∀{a:Addr},H a=none->a≠d:=λ{a} e q=>by subst q;obtain ⟨o,q⟩:=x1.there;rw [e] at q;cases q
 refine yq (n:=(n-1).toNat) (λi j b=>∃x2,∃G:List Int,j=[x2,some (.ref d),some (.int la)]/\G.length=i/\(∀t∈G,0<=t/\t<=la)/\b W=some (.lst (G.map V.int))/\b l=some (.lst [])/\b z=some (.lst [.int 0])/\eb K sa b d/\cx d H b) ?_ ?_ ?_
 ·exact ⟨none,[],U,U,(λt ht=>nomatch ht),ah,by rw [ag (a6 Kj),ag (a6 zl),ah],by rw [ag (a6 Ki),ah],((x1.new hl).new hz).new Z,mf (mf (mf (cx.refl d H) hl) Q2) rC⟩
 ·rintro i j X hi ⟨x2,G,rfl,hlen,HJ,e1,e2,e3,D3,k3⟩;refine (aa U (aa U (ri (iw D3 (by lia) (λr H4 h0 h1 D4 D=>?_)))));have f1:=D _ _ e1 (B rC);refine ⟨_,f1,?_,_,G++[r],U,by rw [dw,hlen];rfl,λt ht=>?_,?_,?_,?_,D4.upd f1 (B rC),mf (k3.trans D) rC⟩
  ·rw [ak];exact fe (by omega)
  ·rcases gH.mp ht with q | q
   ·exact HJ t q
   ·rw [g_.mp q];lia
  ·rw [ah,d_];rfl
  ·rw [ag (a6 Kj)];exact D _ _ e2 R
  ·rw [ag (a6 Ki)];exact D _ _ e3 (B Q2)
 ·rintro j X ⟨x2,G,rfl,hlen,HJ,e1,e2,e3,D3,k3⟩;refine ⟨z,W,_,_,U,U,e3,e1,?_,λk wG=>y _ _ ?_⟩
  ·rw [ak];exact aR (fe (by simp;omega))
  clear y Q;have J:H k=none:=k3.free wG D3.there;have PV:k≠l:=a6 (a7 e2 wG);obtain ⟨h,Ϫ,sW,rA⟩:∃h:List Int,[V.int 0]++G.map V.int=h.map V.int/\(h.length:Int)=n/\∀t∈h,0<=t/\t<=la:=by
   refine ⟨0::G,U,by rw [gw,hlen];omega,λt ht=>?_⟩;rcases eR.mp ht with q | q
   ·rw [q];lia
   ·exact HJ t q
  rw [Ϫ];have g1:upd X k (.lst (h.map V.int)) k=some (.lst (h.map V.int)):=ah;have g2:upd X k (.lst (h.map V.int)) l=some (.lst []):=by rw [ag (a6 PV)];exact e2
  have D4:eb K sa (upd X k (.lst (h.map V.int))) d:=D3.new wG;have D:cx d H (upd X k (.lst (h.map V.int))):=mf k3 J;refine λQ y=>(aa U (iw D4 (by decide) (λc0 H5 zz hc1 D5 k5=>y _ _ ?_)));clear y Q;have l5:=k5 _ _ g2 R;have t5:=k5 _ _ g1 (B J);refine λQ y=>⟨λj b=>∃c:Nat,c<=12/\j=[some (.ref d),some (.int n),some (.int la),some (.int wd),some (.ref l),none,some (.ref k),some (.int (c:Int)),none,none,none,none]/\eb K sa b d/\cx d H b/\b l=some (.lst [])/\b k=some (.lst (h.map V.int)),?_,?_⟩
  ·refine (aa U ⟨U,ct ?_⟩);refine iG (λ_=>?_) (λ_=>?_)
   ·refine (aa U (iw D5 (by decide) (λr H6 _ _ D6 E=>⟨U,ct ?_⟩)));refine iG (λ_=>?_) (λ_=>?_)
    ·refine (aa U (iw D6 (by decide) (λc Y h0 h1 O M=>⟨c.toNat,by lia,?_,O,((D.trans k5).trans E).trans M,(E.trans M) _ _ l5 R,(E.trans M) _ _ t5 (B J)⟩)));rw [kZ h0];rfl
    ·exact ⟨c0.toNat,by lia,by rw [kZ zz];rfl,D6,(D.trans k5).trans E,E _ _ l5 R,E _ _ t5 (B J)⟩
   ·refine gJ ?_;exact ⟨c0.toNat,by lia,by rw [kZ zz];rfl,D5,D.trans k5,l5,t5⟩
  ·rintro j H6 ⟨c,hc,rfl,D6,E,l6,t6⟩;refine y _ _ λM1 m1=>(aa U ⟨_,U,by exact gW (c+Nat.succ 4611686018427387903),by lia,yo (n:=c) (λi j b=>∃v1 v2 v3 v4 v5 T rows,j=[some (.ref d),some (.int n),some (.int la),some (.int wd),some (.ref l),v1,some (.ref k),some (.int (c:Int)),v2,v3,v4,v5]/\ee b l T rows/\rows.length=i/\(∀r∈rows,rV n r)/\
    b k=some (.lst (h.map V.int))/\eb K sa b d/\cx d H b) ⟨none,none,none,none,none,[],[],U,⟨l6,.nil⟩,U,(λr g=>nomatch g),t6,D6,E⟩ ?_ ?_⟩)
   ·rintro i j Y hi ⟨v1,v2,v3,v4,v5,T,rows,rfl,R7,oE,a4,t7,O,M⟩;have kl:∀{H8:Hp},cx d Y H8->ee H8 l T rows:=λk8=>by
     obtain ⟨x3,e⟩:=O.at_;exact R7.keep k8 e R
    refine λI p=>(aa U (aa U (iw O (by exact gk zg) (λs H8 zG IU D8 k8=>p _ _ ?_))));clear p I;refine λI p=>(aa U (ri (aa U (aa U (ri (iw D8 (by lia) (λN H9 wQ Rc D9 k9=>(ri (aa U ⟨_,_,U,U,(by show (0:Int)<n;exact gk zg),p _ _ ?_⟩)))))))));clear p I;have hw:=DX (x:=s+1+N) (n:=n) (by lia) (by lia) (by exact gk zg);have ho:0<=(s+1+N) % n/\(s+1+N) % n<n/\s≠(s+1+N) % n:=by rw [hw];split<;>lia
    obtain ⟨QM,ϻ,Ϻ⟩:=ho;have t9:=(k8.trans k9) _ _ t7 (B J);obtain ⟨w1,HG,IJ⟩:=KS (xs:=h) QM (by lia);obtain ⟨w2,HE,II⟩:=KS (xs:=h) zG (by lia);have b1:=rA w1 HG;have b2:=rA w2 HE;refine λI p=>(aa U (ij U t9 IJ (aa U (ij U t9 II (ri (p _ _ ?_))))));clear p I;refine λI p=>⟨λj b=>∃A:Int,-60<=A/\A<=60/\j=[some (.ref d),some (.int n),some (.int la),some (.int wd),some (.ref l),some (.int (0+(i:Int))),some (.ref k),some (.int (c:Int)),some (.int s),some (.int ((s+1+N) % n)),some (.int A),v5]/\eb K sa b d/\cx d Y b,?_,?_⟩
    ·refine (aa U (iw D9 (by decide) (λr xp _ _ Dg C=>⟨U,ct ?_⟩)));refine iG (λ_=>?_) (λ_=>?_)
     ·refine (aa U (aa U ⟨_,_,U,U,.inl ⟨by decide,by decide⟩,ri (iw Dg (by lia) (λr' De g0 IZ Kl L=>(aa U (ri ⟨r'-la,by lia,by lia,U,Kl,((k8.trans k9).trans C).trans L⟩))))⟩))
     ·exact ⟨w1-w2,by lia,by lia,U,Dg,(k8.trans k9).trans C⟩
    ·rintro j xp ⟨A,_,hnr2,rfl,Dg,C⟩;refine p _ _ λM3 m3=>⟨_,U,aa U (aa U (aa U (ri (iw Dg (by lia) (λr1 De Rb _ Kl L=>(ri ⟨_,_,U,m3 _ _ ?_⟩))))))⟩;clear m3 M3 p I;obtain ⟨m,Ro,ý,le2⟩:∃m,(if A-r1> -60 then A-r1 else-60)=m/\-60<=m/\m<=60:=⟨_,U,by split<;>lia,by split<;>lia⟩;rw [Ro];clear Ro;have Kc:=kl (C.trans L);refine (aa U ⟨.inl ⟨U,_,ai.of Kc.1⟩,?_⟩);refine (aa U (aa U (aa U (aa U (aa U (aa U (aa U (ri (iw Kl (by lia) (λr2 H12 _ _ So Ce=>(ri ⟨_,_,U,_,_,U,dj U,λx3 hp=>?_⟩)))))))))));obtain ⟨S,Rm,ô,ó⟩:∃S,(if (if A+r2>m then A+r2 else m)<60 then (if A+r2>m then A+r2 else m) else 60)=S/\m<=S/\S<=60:=⟨_,U,by repeat' split<;>lia,by split<;>lia⟩;rw [Rm];clear Rm;have R12:=kl ((C.trans L).trans Ce);have Dc:=R12.same (a8 (o:=.tup [.int s,.int ((s+1+N) % n),.int m,.int S]) hp);have kA:=((M.trans C).trans L).trans Ce;refine (kK Dc.1 ?_ ?_)
     ·rw [ak,Dc.len];exact fe (by lia)
     ·refine ⟨_,_,_,_,_,T++[x3],rows++[[s,(s+1+N) % n,m,S]],U,Dc.push ah,by rw [dw,oE];rfl,λr g=>?_,?_,?_,?_⟩
      ·rcases gH.mp g with q | q
       ·exact a4 r q
       ·rw [g_.mp q];exact ⟨_,_,_,_,U,zG,IU,QM,ϻ,Ϻ,ý,ô,ó⟩
      ·rw [ag PV,ag (a6 (a7 ((((C.trans L).trans Ce)) _ _ t7 (B J)) hp).symm)];exact ((C.trans L).trans Ce) _ _ t7 (B J)
      ·exact (So.new hp).upd Dc.1 R
      ·exact mf (mf kA (kA.free hp So.there)) hl
   ·rintro j Y ⟨v1,v2,v3,v4,v5,T,rows,rfl,R7,oE,a4,_,O,M⟩;exact m1 _ _ (aa U (x5 l rows Y (wg oE hc) a4 ⟨T,R7⟩ hl O M))
end
theorem aF {l:List α} {m:List β} {i:Nat} {a:α} (h:Paired F l m) (e:l[i]?=some a):∃b,m[i]?=some b/\F a b:=by
 induction h generalizing i with
 | nil=>simp at e
 | cons r t f=>
  cases i with
  | zero=>simp at e;subst e;exact ⟨_,U,r⟩
  | succ i=>
   obtain ⟨b,c,d⟩:=f (i:=i) (by simpa using e);exact ⟨b,by simpa using c,d⟩
theorem eb.o7 (x:eb K sa H d) (k:cx l H H1) (b:H l=some (.lst xs)) (a:l≠d):eb K sa H1 d:=by obtain ⟨⟨p,h⟩,⟨c,r⟩⟩:=x;exact ⟨⟨p,k _ _ h (a6 a)⟩,⟨c,r.keep k b⟩⟩
theorem LW (a:cx d H H1) (b:cx l H1 H2) (f:H l=none):cx d H H2:=λc o e n=>b c o (a c o e n) (a7 e f)
theorem Bz (a:2<=n) (b:0<=m):0<=fG m n t/\fG m n t<n:=by
 unfold fG;split
 ·lia
 ·have c:=JL (m-1+t) (show n-1≠0 by lia);have d:=Int.emod_lt_of_pos (m-1+t) (show 0<n-1 by exact B9 a);omega
theorem E_ (c:2<=n) (a:m≠0):0<fG m n t:=by unfold fG;rw [if_neg a];have b:=JL (m-1+t) (show n-1≠0 by lia);omega
theorem BH (d:2<=n) (g:0<=a) (h:a<n) (i:0<=b) (j:b<n) (k:0<=t) (l:t<n) (e:fG a n t=fG b n t):a=b:=by
 by_cases f:a=0
 ·by_cases c:b=0
  ·lia
  ·have:=E_ (t:=t) d c;have z:fG a n t=0:=by unfold fG;rw [if_pos f]
   lia
 ·by_cases c:b=0
  ·have:=E_ (t:=t) d f;have z:fG b n t=0:=by unfold fG;rw [if_pos c]
   lia
  ·unfold fG at e;rw [if_neg f,if_neg c,DX (x:=a-1+t) (n:=n-1) (by lia) (by lia) (B9 d),DX (x:=b-1+t) (n:=n-1) (by lia) (by lia) (B9 d)] at e
   revert e
   split<;>split<;>intro e<;>lia
def jQ (n t:Int):List Int->List Int
 | [a,b,l,m]=>[fG a n t,fG b n t,l,m]
 | r=>r
def Y9 (n:Int) (r:List Int):Prop:=∃a b l m:Int,r=[a,b,l,m]/\0<=a/\a<n/\0<b/\b<n/\a≠b/\1<=l/\l<=m/\m<=60
structure c_ (n la:Int) (T F:List (List Int)):Prop where
 n1:1<=n
 n2:n<=8
 l1:1<=la
 l2:la<=60
 tl:T.length<=24
 fl:F.length<=7
 t:∀r∈T,rV n r
 f:∀r∈F,Y9 n r
 one:∀(i j:Nat) r r',F[i]?=some r->F[j]?=some r'->r[1]?=r'[1]?->i=j
 own:∀r∈F,∀r'∈F,r[0]?≠r'[1]?
theorem rV.GV (c:2<=n) (u:0<=t) (v:t<n) (h:rV n r):rV n (jQ n t r):=by obtain ⟨a,b,l,m,rfl,d,j,f,k,o,p,q,s⟩:=h;have g:=Bz (t:=t) c d;have i:=Bz (t:=t) c f;exact ⟨_,_,l,m,U,g.1,g.2,i.1,i.2,λe=>o (BH c d j f k u v e),p,q,s⟩
theorem UD {n la t:Int} {c:Nat} {T F:List (List Int)} (b:2<=n) (O:n<=8) (L:1<=la) (M:la<=60) (k:0<=t) (o:t<n) (H:∀r∈T,rV n r) (W:T.length<=12) (X:(c:Int)<=n-1) (N:F.length=c) (G:uc n c F):
 c_ n la (T.map (jQ n t)) (F.map (jQ n t)):=by
 have f:∀(i:Nat) r,(F.map (jQ n t))[i]?=some r->∃a l m:Int,r=[fG a n t,fG (n-1-i) n t,l,m]/\i<c/\0<=a/\a<n-c/\1<=l/\l<=m/\m<=60:=λi r e=>by
  rw [cW] at e
  cases q:F[i]? with
  | none=>rw [q] at e;cases e
  | some v=>
   rw [q] at e;have h:i<c:=by rw [<-N];exact (cO.mp q).1
   obtain ⟨a,l,m,rfl,V⟩:=G i v q;cases e;exact ⟨a,l,m,U,h,V⟩
 have u:∀r,r∈F.map (jQ n t)->∃i:Nat,(F.map (jQ n t))[i]?=some r:=λr d=>rM.mp d;refine ⟨by exact gk b,O,L,M,by rw [ak];lia,by rw [ak];lia,λr d=>?_,λr d=>?_,λi j r p e s q=>?_,λr d p Q=>?_⟩
 ·obtain ⟨v,A,rfl⟩:=eQ.mp d;exact (H v A).GV b k o
 ·obtain ⟨i,e⟩:=u r d;obtain ⟨a,l,m,rfl,h,g,B,C,D,E⟩:=f i r e;have x:=Bz (t:=t) b g;have I:=Bz (m:=n-1-i) (t:=t) b (by lia);exact ⟨_,_,l,m,U,x.1,x.2,E_ b (by lia),I.2,λz=>by
   have:=BH b g (by lia) (by lia) (by lia) k o z;lia,C,D,E⟩
 ·obtain ⟨a,l,m,rfl,h,_⟩:=f i r e;obtain ⟨y,R,S,rfl,J,_⟩:=f j p s;have z:fG (n-1-i) n t=fG (n-1-j) n t:=by simpa using q
  have:=BH b (by lia) (by lia) (by lia) (by lia) k o z;lia
 ·obtain ⟨i,e⟩:=u r d;obtain ⟨j,s⟩:=u p Q;obtain ⟨a,l,m,rfl,h,g,B,_⟩:=f i r e;obtain ⟨y,R,S,rfl,J,_⟩:=f j p s;intro q;have z:fG a n t=fG (n-1-j) n t:=by simpa using q
  have:=BH b g (by lia) (by lia) (by lia) k o z;lia
theorem A3.GV (h:A3 wd rows) (k:uc C c rows):A3 wd (rows.map (jQ n t)):=λz=>by obtain ⟨g,j⟩:=h z;refine ⟨by rw [ak];exact g,λr o=>?_⟩;obtain ⟨d,b,rfl⟩:=eQ.mp o;obtain ⟨i,e⟩:=rM.mp b;obtain ⟨a,l,m,f,_⟩:=k i d e;have:=j d b;subst f;exact this
def P8 (K:aY):Sp:=λi H Q _=>∃d h c b e,i=[.ref d,.int c,.int b,.int e]/\eb K h H d/\2<=c/\c<=8/\1<=b/\b<=60/\1<=e/\e<=8/\
 ∀(p g f:Addr) n l T F a,a p=some (.tup [.int n,.int l,.ref g,.ref f])->dP a g T->dP a f F->c_ n l T F->2<=n->n<=c->l<=b->eb K h a d->cx d H a->g≠d->f≠d->A3 e F/\T.length<=12->Q (.ref p) a
section
abbrev nW:List Str:=["_law_d","_law_most","_law_last","_law_wide","_law_many","_law_falls_here","_law_ties_here","_law_turn","_law_found","_law_rows"]
theorem sR:cb nW Q0 (aJ nY):=c9
abbrev Qp:List Str:=["_law_r","_law_many","_law_turn"]
theorem coW:hV (aJ nY) nW (jY [(".0",.local),("_law_r",.local),("_law_named",.globalImplicit),("_law_many",.free),("_law_turn",.free)]) Qp [none,some 4,some 7]:=jZ
theorem Xa:Qp.Nodup:=by decide+kernel
theorem uL (F:Fn K mg "_law_web" nY Q0 f fd)
 (FN:Fn K mg "_law_next" iL Ā fN pK) (GN:af P w K mg base aq 1 fN pK Ā (aB K))
 (FM:Fn K mg "_law_named" iY ā fM pL) (GM:af P w K mg base aq 1 fM pL ā Ly)
 (FF:Fn K mg "_law_falls" iZ Ą fF tu) (GF:af P w K mg base aq 2 fF tu Ą (Ls K))
 (FT:Fn K mg "_law_ties" jC xv fT iP) (GT:af P w K mg base aq 2 fT iP xv (KA K)):
 af P w K mg base aq 3 f fd Q0 (P8 K):=by
 refine F.F.cJ sR λ_ x7 _ nP H _ x9 x8 h x5=>?_;obtain ⟨d,sa,mo,la,wd,rfl,x4,hm1,hm2,vd,wL,wF,HF,x6⟩:=x5;have S:cA 1 _:=h.mono (by decide);refine ⟨_,aO (n9 (i:=4) sR.nd U (Or.inr U) (cv ik a0 (bM GN S FN (bp (pv 0) (cv i9 (pv 1) a0)))))
  (aO (cg 2 sR.nd (cv ik a0 (bM GN S FN (bp (pv 0) (pv 2)))))
  (aO (cg 5 sR.nd (bM GF h FF (gv (pv 0) (pv 4) (pv 3))))
  (aO (cg 6 sR.nd (bM GT h FT (jV (pv 0) (pv 4) (pv 2) (pv 3))))
  (aO (n9 (i:=7) sR.nd U (Or.inr U) (bM GN S FN (bp (pv 0) (pv 4))))
  (aO (cg 8 sR.nd (iJ n7))
  (aO (fJ ft U (f9 (iJ (bp (pv 6) (pv 5)))) (bH 9 sR.nd)
   (ax (eg (kE kY kf kX jT (pv 8)
    (aU (me U (f9 (pv 9)) coW (λcl ex s0 H0=>⟨bH 0 Xa,nI,
     eN (qp (bM GM S FM (gv (aN (pv 0)) (pv 1) (pv 2)))
      (qp (bM GM S FM (gv (aN (pv 0)) (pv 1) (pv 2)))
      (bp (aN (pv 0)) (aN (pv 0)))))⟩)))))))
  (ax (b_ (eN (jV (pv 4) (pv 2) (cu cR (pv 8) a0) (cu cR (pv 8) a0))))))))))),?_⟩
 refine (aa U (aa U (ri (iw x4 (by lia) (λc H1 J IU D1 k1=>(ri ?_))))));refine (aa U (aa U (iw D1 (MI vd) (λr2 H2 wQ Rc D2 k2=>(ri ?_)))));refine (aa U (aa U (aa U ⟨d,sa,_,_,U,D2,lC J,by lia,wF,HF,λk kJ F0 H3 hc IE IL RF QT D3 k3 m_=>?_⟩)));refine (aa U (aa U (aa U (aa U ⟨d,sa,_,_,_,U,D3,lC J,by lia,lC wQ,by lia,wF,HF,λs T0 H4 zE QZ RT wG D4 k4=>?_⟩))));refine (aa U (aa U (iw D4 (by lia) (λt H5 y_ QD W k5=>?_))));have fld:k≠d:=λe=>by subst e;obtain ⟨o,q⟩:=D2.there;rw [QT] at q;cases q
 have ZV:s≠d:=λe=>by subst e;obtain ⟨o,q⟩:=D3.there;rw [wG] at q;cases q
 have R_:dP H5 k F0:=by obtain ⟨p,e⟩:=D3.at_;exact RF.keep (k4.trans k5) e fld
 have RZ:dP H5 s T0:=by obtain ⟨p,e⟩:=D4.at_;exact RT.keep k5 e ZV
 have kA:cx d H H5:=(((k1.trans k2).trans k3).trans k4).trans k5;refine ⟨dV _,λfo z=>?_⟩;have I':fo≠d:=λe=>by subst e;obtain ⟨o,q⟩:=W.there;rw [z] at q;cases q
 have vg:H fo=none:=kA.free z W.there;have RF6:=R_.same (a8 (o:=.lst []) z);have RT6:=RZ.same (a8 (o:=.lst []) z);have yG:s≠fo:=by obtain ⟨y,e,_⟩:=RZ;exact a7 e z
 have zH:k≠fo:=by obtain ⟨y,e,_⟩:=R_;exact a7 e z
 refine (aa U (aa U ⟨dj U,λB M=>⟨B,U,⟨_,ai.of ah⟩,?_⟩⟩));have uV:B≠fo:=a6 (a7 (ah (H:=H5) (a:=fo) (o:=.lst [])) M);have Ij:H5 B=none:=by rw [ag uV] at M;exact M
 have Ik:H B=none:=kA.free Ij W.there;generalize L:upd (upd H5 fo (.lst [])) B (.lst [V.ref s,V.ref k])=H7;have G:H7 fo=some (.lst []):=by rw [<-L,ag (a6 uV),ah]
 have e7l:H7 B=some (.lst [V.ref s,V.ref k]):=by rw [<-L,ah]
 have RF7:dP H7 k F0:=by rw [<-L];exact RF6.same (a8 M)
 have RT7:dP H7 s T0:=by rw [<-L];exact RT6.same (a8 M)
 have D7:eb K sa H7 d:=by rw [<-L];exact (W.new z).new M
 have k7:cx d H H7:=by rw [<-L];exact mf (mf kA vg) Ik
 refine iA (K:=K) (a:=B) (xs:=[V.ref s,V.ref k]) (λi u D=>∃v x,u=[some (.ref d),some (.int mo),some (.int (1+r2)),some (.int wd),some (.int (2+c)),some (.ref k),some (.ref s),some (.int t),some (.ref fo),v]/\
  D fo=some (.lst (x.map V.ref))/\Paired (λa rs=>dP D a rs/\a≠fo/\a≠d) x (([T0,F0].take i).map λR=>R.map (jQ (2+c) t))/\cx fo H7 D) ⟨none,[],U,G,.nil,cx.refl fo H7⟩ ?_ ?_ ?_
 ·rintro i u E _ ⟨v,x,rfl,_,_,g⟩;exact ai.of (g _ _ e7l uV)
 ·rintro i x3 u E A ⟨v,x,rfl,I,N,g⟩;obtain ⟨O,R0,rfl,RA,_,QC,ϰ,QN⟩:∃O R0,x3=.ref O/\dP E O R0/\O≠fo/\(([T0,F0].take (i+1)).map λR=>R.map (jQ (2+c) t))=(([T0,F0].take i).map λR=>R.map (jQ (2+c) t))++[R0.map (jQ (2+c) t)]/\
   (∀r∈R0,∃a b l m:Int,r=[a,b,l,m])/\R0.length<=12:=by
   match i,A with
   | 0,A=>
    cases A;exact ⟨s,T0,U,RT7.keep g G yG,yG,U,λr h=>by
     obtain ⟨a,b,l,m,e,_⟩:=QZ r h;exact ⟨a,b,l,m,e⟩,zE⟩
   | 1,A=>
    cases A;exact ⟨k,F0,U,RF7.keep g G zH,zH,U,λr h=>by
     obtain ⟨i,e⟩:=rM.mp h;obtain ⟨a,l,m,e,_⟩:=IL i r e;exact ⟨a,_,l,m,e⟩,by lia⟩
   | i+2,A=>cases A
  obtain ⟨GY,Z⟩:=RA;refine (aa U ⟨.inl ⟨U,_,ai.of I⟩,?_⟩);refine (aa U ⟨O,U,⟨_,ai.of Z.1⟩,λC jb=>?_⟩);refine sG (xs:=GY.map V.ref) (λj u D=>∃v y,u=[v,some (.int (2+c)),some (.int t)]/\ee D C y ((R0.take j).map (jQ (2+c) t))/\ao E D) ?_ ?_ ?_ ?_
  ·exact ⟨none,[],U,⟨ah,.nil⟩,a8 jb⟩
  ·rintro j u X _ ⟨v,y,rfl,_,n⟩;exact ai.of (n _ _ Z.1)
  ·rintro j x3 u X T ⟨v,y,rfl,Y,n⟩;rw [cW] at T
   cases hq:GY[j]? with
   | none=>rw [hq] at T;cases T
   | some q=>
    rw [hq] at T;cases T;obtain ⟨r,h,jX⟩:=aF Z.2 hq;obtain ⟨a,b,l,m,rfl⟩:=ϰ r (fY h);have rq:=n _ _ jX;refine (aa U (aL rq U (aa U (aa U ⟨_,_,_,U,lC J,?_⟩))));refine (aa U (aL rq U (aa U (aa U ⟨_,_,_,U,lC J,?_⟩))));refine (aa U (aL rq U (aa U (aL rq U ⟨dj U,λp Q=>?_⟩))));have Kd:=Y.same (a8 (o:=.tup [.int (fG a (2+c) t),.int (fG b (2+c) t),.int l,.int m]) Q);have IP:E C=none:=jb;refine ⟨_,Kd.1,?_,_,y++[p],U,?_,λb o e=>?_⟩
    ·rw [ak,Kd.len,ak,iC];exact fe (by lia)
    ·have hj:(R0.take (j+1)).map (jQ (2+c) t)=(R0.take j).map (jQ (2+c) t)++[[fG a (2+c) t,fG b (2+c) t,l,m]]:=by
      rw [jo,h,d_];rfl
     rw [hj];exact Kd.push ah
    ·rw [ag (a7 e IP),ag (a7 (n _ _ e) Q)];exact n _ _ e
  ·rintro u X ⟨v,y,rfl,Y,n⟩;have e9:=n _ _ I;refine (kK e9 ?_ ?_)
   ·rw [ak,N.length,ak,iC];exact fe (by simp;lia)
   ·have tf:C≠fo:=a6 (a7 I jb);have IM:C≠d:=λe=>by
     subst e;obtain ⟨p,q⟩:=(D7.o7 g G I').at_;rw [jb] at q;cases q
    have ku:cx fo X (upd X fo (.lst (x.map V.ref++[.ref C]))):=λb o e x1=>by rw [ag x1];exact e
    refine ⟨_,x++[C],U,by rw [ah,d_];rfl,?_,λb o e x1=>by rw [ag x1];exact n _ _ (g b o e x1)⟩;rw [QC];refine Cz (gM N λa rs x2=>⟨(x2.1.same n).keep ku e9 x2.2.1,x2.2⟩) ⟨?_,tf,IM⟩;have hl:R0.take (GY.map V.ref).length=R0:=by rw [ak,Z.len];exact i5
    rw [hl] at Y;exact dP.keep ⟨y,Y⟩ ku e9 tf
 ·rintro u E ⟨v,x,rfl,I,N,g⟩;have N:Paired (λa rs=>dP E a rs/\a≠fo/\a≠d) x [T0.map (jQ (2+c) t),F0.map (jQ (2+c) t)]:=N
  cases N with
  | @cons lt _ ls1 _ q1 Ü=>
   cases Ü with
   | @cons lf _ ls2 _ q2 Ha=>
    cases Ha;refine (aa U (aa U (aa U (jD I U (aa U (jD I U ⟨dj U,λp Q=>?_⟩))))));have sm:=a8 (o:=.tup [.int (2+c),.int (1+r2),.ref lt,.ref lf]) Q;exact x6 p lt lf _ _ _ _ _ ah (q1.1.same sm) (q2.1.same sm) (UD (lC J) (by lia) (lC wQ) (by lia) y_ QD QZ zE hc IE IL) (lC J) (by lia) (by lia) ((D7.o7 g G I').same sm) (mf (LW k7 g vg) ((LW k7 g vg).free Q (D7.o7 g G I').there)) q1.2.2 q2.2.2 ⟨m_.GV IL,by rw [ak];exact zE⟩
end
end Y0
namespace L2
open PySem PySem.Spec PyProof.Rows
section
variable {K:aY}
theorem gb.Þ {x d:Str} {st:Stmt} {f:Addr} {e:FuncData} {N c:List Str} {k:Nat} {sp:Sp} (F:gb K x d st f e) (S:cb N c (aJ st)) (m:∀vs H Q E,sp vs H Q E->vs.length=c.length)
 (h:∀(a:Value) (A:Around) (b:List Env) (s:Shared) (H:Hp) (vs:List V) (Q:VK) (E:XK),cA k (A.deeper (envOfC d (aJ st) s.heap.objs.size f a))->sp vs H Q E->
  ∃t,f7 (lh (cX P w) P w K mg base N d (aJ st) f a A b s H E) (l9 st) t/\t { nx:=λ_ g=>Q .a9 g,rt:=Q } (i8 N vs) H):af P w K mg base (cX P w) (k+1) f e c sp:=by
 obtain ⟨r,u,q,p,y,n,a,o,v,rfl,lk,i⟩:=F.ex;exact Pp lk i S m λA b s H vs Q E j l=>h a A b s H vs Q E j l
theorem gb.mz {x b:Str} {st:Stmt} {f:Addr} {d:FuncData} {N a:List Str} {k:Nat} {sp:Sp} (F:gb K x b st f d) (S:cb N a (aJ st)) (g:∀(c:Value) (A:Around) (j:List Env) (s:Shared) (H:Hp) (vs:List V) (Q:VK) (E:XK),cA k (A.deeper (envOfC b (aJ st) s.heap.objs.size f c))->sp vs H Q E->
  ∃t,f7 (lh (cX P w) P w K mg base N b (aJ st) f c A j s H E) (l9 st) t/\t { nx:=λ_ e=>Q .a9 e,rt:=Q } (i8 N vs) H) (i:∀vs H Q E,sp vs H Q E->vs.length=a.length:=by intro _ _ _ _ h;repeat (first|(obtain ⟨rfl,_⟩:=h;rfl)|obtain ⟨_,h⟩:=h)):af P w K mg base (cX P w) (k+1) f d a sp:=F.Þ S i g
end
theorem ig {c A B:Prop} [Decidable c] (a:c) (h:A):if decide c=true then A else B:=by rw [jr a];exact km h
theorem j4 {c A B:Prop} [Decidable c] (a:¬c) (h:B):if decide c=true then A else B:=by rw [fz a];exact gJ h
theorem AB {Q:VK} {H:Hp} {b a:Bool} (k:Q (.bl b) H) (e:b=a):Q (.bl a) H:=e▸k
theorem xX:∀{ns:List Int},rm (.int a) (ns.map V.int)=decide (a∈ns)
 | []=>by simp [rm]
 | n::r=>by
  have b:=xX (a:=a) (ns:=r);unfold rm at b ⊢;rw [eG,wW,b];show ((n==a) || decide (a∈r))=decide (a∈n::r)
  by_cases e:n=a
  ·subst e;simp
  ·have:¬a=n:=λz=>e z.symm;simp [e,this]
theorem yn:∀{ns:List Int},(ns.map V.int).all gh=true
 | []=>rfl
 | n::r=>by rw [eG,Ac,yn (ns:=r)];rfl
theorem DQ {a:Type} {xs:List a} {i:Nat} (h:i<=xs.length):(xs.drop (bR xs.length 0 none)).take (bR xs.length xs.length (some (i:Int))-bR xs.length 0 none)=xs.take i:=by rw [eo,dC,List.drop_zero,Nat.sub_zero,Nat.min_eq_left h]
end L2
namespace Y0
open PySem L2
seal L2.kT L2.il L2.iu L2.fV L2.gS L2.hQ L2.ir L2.iq L2.gf Y0.aB
structure jP (mg:Str->Option Value):Prop where
 mm:∃t,mg "MOST_MOMENTS"=some (.int 8 t)
 ll:∃t,mg "LATEST_LAST"=some (.int 60 t)
 ws:∃t,mg "WIDEST_SPAN"=some (.int 60 t)
 lf:∃t,mg "LONGEST_FALL"=some (.int 60 t)
 list:mg "list"=none
def F9:Sp:=λc H Q _=>∃n a b,c=[.int n,.int a,.int b]/\Q (.bl (decide (0<=a/\a<n/\0<=b/\b<n/\a≠b))) H
def K6:Sp:=λb H Q _=>∃n a,b=[.int n,.int a]/\1<=n/\n<=8/\1<=a/\a<=60/\Q .a9 H
def Lx:Sp:=λb H Q _=>∃n a T,b=[.int n,.ref a]/\dP H a T/\(∀r∈T,rV n r)/\Q .a9 H
def Mj:Sp:=λd H Q _=>∃n a c T F,d=[.int n,.ref a]/\dP H a F/\c_ n c T F/\∀b,ao H b->Q .a9 b
section
theorem Ë:cb Ć Ć (aJ aE):=c9
theorem uM {f:Addr} {c:FuncData} (F:Fn K mg "are_two_moments" aE Ć f c):af P w K mg base aq 1 f c Ć F9:=by
 refine F.F.cJ Ë λ_ A _ s H _ Q E l h=>?_;obtain ⟨n,a,b,rfl,k⟩:=h;refine ⟨_,ax (b_ (xG (DY jS rZ a0 (pv 1) (pv 0)) (xG (DY jS rZ a0 (pv 2) (pv 0)) (Dt (oX AH (pv 1) (pv 2)))))),?_⟩;refine (aa U (ri ⟨_,U,iG (λd=>(aa U (ri ⟨_,U,iG (λg=>(aa U (ri ⟨_,U,iG (λi=>(aa U (ri ⟨_,U,iG (λj=>(aa U (aa U ⟨U,?_⟩))) (λj=>?_)⟩))) (λi=>⟨false,U,gJ ?_⟩)⟩))) (λg=>?_)⟩))) (λd=>⟨false,U,gJ ?_⟩)⟩))
 all_goals simp only [vu] at*
 ·refine AB (Q:=Q) k ?_
  by_cases e:a=b
  ·subst e;simp
  ·simp [e];lia
 all_goals (refine AB (Q:=Q) k (fz λz=>?_);omega)
theorem È:cb ĕ ĕ (aJ bu):=c9
theorem qS (F:Fn K mg "look_over_size" bu ĕ f fd) (T:jP mg):af P w K mg base aq 1 f fd ĕ K6:=by obtain ⟨l,c⟩:=T.mm;obtain ⟨m,d⟩:=T.ll;refine F.F.cJ È λ_ A _ s H _ Q E i h=>?_;obtain ⟨n,j,rfl,e,g,a,b,k⟩:=h;refine ⟨_,aO (dG (vL (M6 jS jS a0 (pv 0) (nH (v:=.int 8) U c ⟨_,U⟩))) sC dH) (ax (dG (vL (M6 jS jS a0 (pv 1) (nH (v:=.int 60) U d ⟨_,U⟩))) sC dH)),?_⟩;refine (aa U (ri ⟨_,U,ig e (ri (ct (rW g ?_)))⟩));exact (aa U (ri ⟨_,U,ig a (ri (ct (rW b k)))⟩))
abbrev ç:List Str:=["many","ties","at","one","other","least","most"]
theorem u6:cb ç ě (aJ br):=c9
theorem oq (F:Fn K mg "look_over_ties" br ě f fd) (T:jP mg) (t:Fn K mg "are_two_moments" aE Ć f2 I)
 (u:af P w K mg base aq 1 f2 I Ć F9):af P w K mg base aq 2 f fd ě Lx:=by
 obtain ⟨t1,p⟩:=T.ws;refine F.F.cJ u6 λ_ A _ x1 H _ Q E X h=>?_;obtain ⟨n,a,Z,rfl,⟨s,R⟩,S,k⟩:=h;refine ⟨_,aO (cg 2 u6.nd a0) (ax (fJ ft U (f9 (pv 1))
  (ql U (e_ (bH 3 u6.nd) (e_ (bH 4 u6.nd) (e_ (bH 5 u6.nd) (e_ (bH 6 u6.nd) qr)))))
  (aO (dG (vL (sg (bM u X t (gv (pv 0) (pv 3) (pv 4))))) sC dH)
  (aO (dG (vL (Nk jS jS jS (nt nG (nH (v:=.int 60) U p ⟨_,U⟩)) (pv 5) (pv 6) (nH (v:=.int 60) U p ⟨_,U⟩))) sC dH)
  (ax (DD (i:=2) u6.nd U (Or.inl U) a0 Dl)))))),?_⟩
 refine (aa U ⟨a,U,⟨_,ai.of R.1⟩,iA (K:=K) (a:=a) (xs:=s.map V.ref) (λ_ o c=>∃z d e g j,o=[some (.int n),some (.ref a),some (.int z),d,e,g,j]/\c=H) ⟨0,none,none,none,none,U,U⟩ ?_ ?_ ?_⟩)
 ·rintro i o c _ ⟨z,d,e,g,j,rfl,rfl⟩;exact ai.of R.1
 ·rintro i x2 o c b ⟨z,d,e,g,j,rfl,rfl⟩;rw [cW] at b
  cases C:s[i]? with
  | none=>rw [C] at b;cases b
  | some q=>
   rw [C] at b;cases b;obtain ⟨r,Y,W⟩:=aF R.2 C;obtain ⟨x,y,l,m,rfl,B,D,G,J,L,M,N,O⟩:=S r (fY Y);refine ⟨q,_,U,cK.of W,U,_,_,U,_,_,U,_,_,U,_,_,U,U,?_⟩;refine (aa U (aa U (aa U ⟨n,x,y,U,_,U,rW ⟨B,D,G,J,L⟩ ?_⟩)));refine ⟨_,U,aa U (ri ⟨_,U,ig (MI M) (aa U (ri ⟨_,U,ig N (ri (ct (rW O ?_)))⟩))⟩)⟩;exact ⟨_,U,_,_,U,U,_,_,_,_,_,U,U⟩
 ·rintro o c ⟨z,d,e,g,j,rfl,rfl⟩;exact k
end
end Y0
namespace L2
open PySem PySem.Spec PyProof.Rows
theorem i7 {b:Bool} {A B:Prop} (e:b=false) (h:B):if b=true then A else B:=by rw [e];exact gJ h
theorem qg {b:Bool} {A B:Prop} (e:b=true) (h:A):if b=true then A else B:=by rw [e];exact km h
theorem Bg (f:Str) (v:V):∀a:List (Str×V),(aA f v a).length<=a.length+1
 | []=>ar _
 | (g,x)::r=>by
  unfold aA;split
  ·exact kg _
  ·exact Nat.succ_le_succ (Bg f v r)
theorem ee.get {rows:List (List Int)} (R:ee H a ps rows) {i:Nat} (b:(ps.map V.ref)[i]?=some x):∃q r,x=.ref q/\ps[i]?=some q/\rows[i]?=some r/\H q=some (.tup (r.map V.int)):=by
 rw [cW] at b
 cases C:ps[i]? with
 | none=>rw [C] at b;cases b
 | some q=>
  rw [C] at b;cases b;obtain ⟨r,d,c⟩:=Y0.aF R.2 C;exact ⟨q,r,U,U,d,c⟩
end L2
namespace Y0
open PySem L2
seal L2.kT L2.il L2.iu L2.fV L2.gS L2.hQ L2.ir L2.iq L2.gf Y0.aB
def oW (r:List Int):Int:=r.getD 1 0
structure iS (K:aY) (mg:Str->Option Value) (C:Addr):Prop where
 cl:lU K C
 nM:j5 K C "many"
 nL:j5 K C "last"
 nT:j5 K C "told_ties"
 nF:j5 K C "told_falls"
 yS:mg "Web"=some (.ref C)
def lY (n la:Int) (b a:Addr):List (Str×V):=aA "told_falls" (.ref a) (aA "told_ties" (.ref b) (aA "last" (.int la) (aA "many" (.int n) [])))
theorem k1:¬(("many":Str)="told_falls"):=by decide+kernel
theorem k2:¬(("many":Str)="told_ties"):=by decide+kernel
theorem k3:¬(("many":Str)="last"):=by decide+kernel
theorem k4:¬(("last":Str)="told_falls"):=by decide+kernel
theorem k5:¬(("last":Str)="told_ties"):=by decide+kernel
theorem k6:¬(("told_ties":Str)="told_falls"):=by decide+kernel
theorem l_ (n la:Int) (b a:Addr):(lY n la b a).lookup ("many":Str)=some (.int n):=by unfold lY;rw [jU,if_neg k1,jU,if_neg k2,jU,if_neg k3,jU,if_pos rfl]
theorem KH (n la:Int) (b a:Addr):(lY n la b a).lookup ("last":Str)=some (.int la):=by unfold lY;rw [jU,if_neg k4,jU,if_neg k5,jU,if_pos rfl]
theorem YK (n la:Int) (a b:Addr):(lY n la a b).lookup ("told_ties":Str)=some (.ref a):=by unfold lY;rw [jU,if_neg k6,jU,if_pos rfl]
theorem LG (n la:Int) (b a:Addr):(lY n la b a).lookup ("told_falls":Str)=some (.ref a):=by unfold lY;rw [jU,if_pos rfl]
theorem wA (n la:Int) (f a:Addr) {m:Str} (b:¬m="told_falls") (c:¬m="told_ties") (d:¬m="last") (e:¬m="many"):(lY n la f a).lookup m=none:=by
 unfold lY;rw [jU,if_neg b,jU,if_neg c,jU,if_neg d,jU,if_neg e]
 all_goals rfl
def gA (C:Addr) (H:Hp) (p:Addr) (n la:Int) (T F:List (List Int)):Prop:=∃c b a,H p=some (.ins C c (lY n la b a))/\dP H b T/\dP H a F
theorem gA.same (h:gA C H p n la T F) (k:ao H H'):gA C H' p n la T F:=by obtain ⟨a,f,b,e,c,d⟩:=h;exact ⟨a,f,b,k _ _ e,c.same k,d.same k⟩
def Ky (C:Addr):Sp:=λf H Q _=>∃p e n d a b T F,f=[.ref p,.int n,.int d,.ref a,.ref b]/\H p=some (.ins C e [])/\dP H a T/\dP H b F/\c_ n d T F/\
 ∀c,gA C c p n d T F->cx p H c->Q .a9 c
def nz (C:Addr) (g:List (List Int)->List (List Int)->List (List Int)):Sp:=λc H Q _=>∃p n b T F,c=[.ref p]/\gA C H p n b T F/\∀l a,H l=none->ao H a->dP a l (g T F)->Q (.ref l) a
section
abbrev Qt:List Str:=["many","falls","ends","at","one","other","least","most"]
theorem rO:cb Qt Ě (aJ aD):=c9
theorem Xi:hV (aJ aD) Qt (jY [(".0",.local),("fall",.local)]) ["fall"] [none]:=jZ
theorem Qo:([x]:List Str).Nodup:=by simp
theorem mv (F:Fn K mg "look_over_falls" aD Ě f fd) (T:jP mg) (Q:Fn K mg "are_two_moments" aE Ć f2 JF)
 (S:af P w K mg base aq 1 f2 JF Ć F9):af P w K mg base aq 2 f fd Ě Mj:=by
 obtain ⟨t1,m1⟩:=T.lf;refine F.F.cJ rO λ_ x6 _ nP H _ x8 x7 hr h=>?_;obtain ⟨n,a,la,TT,rows,rfl,⟨L,R⟩,c,x1⟩:=h;refine ⟨_,aO (DK (i:=2) rO.nd U U U (f9 (pv 1)) Xi (λcl ex s0 H0=>⟨bH 0 Qo,nI,aN (pv 0)⟩))
  (aO (cg 3 rO.nd a0) (ax (fJ ft U (f9 (pv 1))
  (ql U (e_ (bH 4 rO.nd) (e_ (bH 5 rO.nd) (e_ (bH 6 rO.nd) (e_ (bH 7 rO.nd) qr)))))
  (aO (dG (PW.pt (rY (vL (sg (bM S hr Q (gv (pv 0) (pv 4) (pv 5))))) (vN (xR EO (pv 4) (pv 2) (by with_unfolding_all rfl))))) sC dH)
  (aO (dG (PW.pt (rY (dF gC (pv 5) a0) (vN (xR EO (pv 5) (qx xS (pv 2) qt (qu (pv 3))) (by with_unfolding_all rfl))))) sC dH)
  (aO (dG (vL (Nk jS jS jS a0 (pv 6) (pv 7) (nH (v:=.int 60) U m1 ⟨_,U⟩))) sC dH)
  (ax (DD (i:=3) rO.nd U (Or.inl U) a0 Dl)))))))),?_⟩
 refine (aa U ⟨a,U,⟨_,ai.of R.1⟩,λs N=>?_⟩);refine sG (xs:=L.map V.ref) (λj b m=>∃v,b=[v]/\m s=some (.lst (((rows.take j).map oW).map V.int))/\ao H m) ?_ ?_ ?_ ?_
 ·exact ⟨none,U,ah,a8 N⟩
 ·rintro j b C _ ⟨v,rfl,_,k⟩;exact ai.of (k _ _ R.1)
 ·rintro j x5 b C J ⟨v,rfl,t,k⟩;obtain ⟨q,r,rfl,_,d,I⟩:=R.get J;obtain ⟨a',b',x2,x3,rfl,_⟩:=c.f r (fY d);refine (aa U (aL (k _ _ I) U ⟨_,t,?_,_,U,?_,λx9 kJ e=>?_⟩))
  ·rw [ak,ak,iC];have:=c.fl;exact fe (by lia)
  ·rw [ah,jo,d,d_,d_];rfl
  ·rw [ag (a7 e N)];exact k _ _ e
 ·rintro b C ⟨v,rfl,t,k⟩;have hl:rows.take (L.map V.ref).length=rows:=by
   rw [ak,R.len];exact i5
  rw [hl] at t;have D:=R.same k;refine (aa U ⟨a,U,⟨_,ai.of D.1⟩,iA (K:=K) (a:=a) (xs:=L.map V.ref) (λi b m=>∃z x y A B,z=(i:Int)/\b=[some (.int n),some (.ref a),some (.ref s),some (.int z),x,y,A,B]/\ao C m) ⟨0,none,none,none,none,U,U,ao.refl _⟩ ?_ ?_ ?_⟩)
  ·rintro i b m _ ⟨z,x,y,A,B,_,rfl,l⟩;exact ai.of (l _ _ D.1)
  ·rintro i x5 b H2 J ⟨z,x,y,A,B,rfl,rfl,l⟩;have W:=D.same l;obtain ⟨q,r,rfl,_,d,I⟩:=W.get J;have O:=fY d;obtain ⟨a',b',x2,x3,Y,h1,h2,h3,h4,h5,h6,h7,h8⟩:=c.f r O;subst Y;have M:=l _ _ t;refine ⟨q,_,U,cK.of I,U,_,_,U,_,_,U,_,_,U,_,_,U,U,?_⟩;refine (aa U (aa U (aa U ⟨n,a',b',U,_,U,rW ⟨h1,h2,by exact gk h3,h4,h5⟩ ?_⟩)));refine (aa U (aa U ⟨s,_,U,.inl (ai.of M),U,yn,ct (i7 ?_ ?_)⟩))
   ·show rm _ _=false;rw [xX];refine fz λz=>?_;obtain ⟨u,g,e⟩:=eQ.mp z;obtain ⟨X,p,l2,m2,E,_⟩:=c.f u g;subst E;refine c.own _ O _ g ?_;have G:p=a':=e;show some a'=some p;rw [G]
   ·refine (aa U ⟨U,ct (j4 (by intro z;have:=V.int.inj z;lia) ?_)⟩);refine (aa U (aa U (aa U ⟨_,U,s,_,U,ai.of M,λx4 hp=>⟨x4,_,U,.inl (ai.of ah),U,?_,ct (i7 ?_ ?_)⟩⟩)))
    ·unfold iR;rw [DQ (by rw [ak,ak];exact aR (cO.mp d).1),<-List.map_take];exact yn
    ·show rm _ _=false;unfold iR;rw [DQ (by rw [ak,ak];exact aR (cO.mp d).1),<-List.map_take,xX];refine fz λz=>?_;obtain ⟨j,o⟩:=rM.mp z;have hji:j<i:=by
      have:=(cO.mp o).1;rw [iC] at this;exact EE this
     rw [CV hji,cW] at o
     cases g:rows[j]? with
     | none=>rw [g] at o;cases o
     | some u=>
      rw [g] at o;have e:oW u=b':=ff o;obtain ⟨X,p,l2,m2,E,_⟩:=c.f u (fY g);subst E;have G:p=b':=e;have:=c.one j i _ _ g d (by show some p=some b';rw [G]);lia
    ·refine (aa U (ri ⟨_,U,ig h6 (aa U (ri ⟨_,U,ig h7 (ri (ct (rW h8 ?_)))⟩))⟩));exact ⟨_,U,_,_,U,U,_,_,_,_,_,(by show (i:Int)+1=_;lia),U,l.trans (a8 hp)⟩
  ·rintro b m ⟨z,x,y,A,B,_,rfl,l⟩;exact x1 _ (k.trans l)
theorem Ê:cb ă ă (aJ eC):=c9
theorem q_ (F:gb K "__init__" "Web.__init__" eC f fd) (T:jP mg) (d:iS K mg C)
 (W:Fn K mg "look_over_size" bu ĕ fS JA) (Z:af P w K mg base aq 1 fS JA ĕ K6)
 (X:Fn K mg "look_over_ties" br ě fT iP) (GT:af P w K mg base aq 2 fT iP ě Lx)
 (S:Fn K mg "look_over_falls" aD Ě fF tu) (Y:af P w K mg base aq 2 fF tu Ě Mj):
 af P w K mg base aq 3 f fd ă (Ky C):=by
 refine F.cJ Ê λ_ x4 _ x8 x6 _ x7 x5 B x1=>?_;obtain ⟨p,k,n,j,a,b,Q,rF,rfl,hp,J,I,i,x2⟩:=x1;have gO:cA 1 _:=B.mono (by decide);refine ⟨_,aO (eg (bM Z gO W (bp (pv 1) (pv 2))))
  (aO (eg (bM GT B X (bp (pv 1) (pv 3))))
  (aO (eg (bM Y B S (bp (pv 1) (pv 4))))
  (aO (pj (pv 0) (pv 1) U) (aO (pj (pv 0) (pv 2) U)
  (aO (pj (pv 0) (qB uu (by rfl) T.list (by decide+kernel) (aU (pv 3))) U)
  (ax (pj (pv 0) (qB uu (by rfl) T.list (by decide+kernel) (aU (pv 4))) U))))))),?_⟩
 refine (aa U (aa U ⟨n,j,U,i.n1,i.n2,i.l1,i.l2,?_⟩));refine (aa U (aa U ⟨n,a,Q,U,J,i.t,?_⟩));refine (aa U (aa U ⟨n,b,j,Q,rF,U,I,i,λc t=>?_⟩));have A:=t _ _ hp;have RT1:=J.same t;have RF1:=I.same t;obtain ⟨H,u⟩:=RT1;obtain ⟨O,v⟩:=RF1;refine (aa U (aa U (pG A d.cl d.nM (by show 0<1000;decide) ?_)));refine (aa U (aa U (pG ah d.cl d.nL (by show 1<1000;decide) ?_)));rw [LD];have M:∀{x:Addr} {l:List V},c x=some (.lst l)->x≠p:=λ{x l} e=>cI e A nofun;refine (aa U ⟨a,_,U,.inl (ai.of (by rw [ag (M u.1)];exact u.1)),λl1 z=>?_⟩);have s:l1≠p:=a6 (a7 ah z);have Ip:c l1=none:=by rw [ag s] at z;exact z
 refine (aa U (pG (by rw [ag (a6 s),ah]) d.cl d.nT (tL (Bg _ _ _) (by show 2<1000;decide)) ?_));generalize y:upd (upd (upd c p (.ins C k (aA "last" (.int j) (aA "many" (.int n) [])))) l1 (.lst (H.map V.ref))) p (.ins C k (aA "told_ties" (.ref l1) (aA "last" (.int j) (aA "many" (.int n) []))))=H2;have D:cx p c H2:=λx o e h=>by rw [<-y,ag h,ag (a7 e Ip),ag h];exact e
 have N:H2 p=some (.ins C k (aA "told_ties" (.ref l1) (aA "last" (.int j) (aA "many" (.int n) [])))):=by rw [<-y,ah]
 have L:H2 l1=some (.lst (H.map V.ref)):=by rw [<-y,ag s,ah]
 refine (aa U ⟨b,_,U,.inl (ai.of (D _ _ v.1 (M v.1))),λg r=>?_⟩);have G:g≠p:=a6 (a7 N r);have þ:g≠l1:=a6 (a7 L r);have Io:c g=none:=by
  cases q:c g with
  | none=>rfl
  | some o=>rw [D _ _ q G] at r;cases r
 refine (aa U (pG (by rw [ag (a6 G)];exact N) d.cl d.nF (tL (Bg _ _ _) (tL (Nat.succ_le_succ (Bg _ _ _)) (by show 3<1000;decide))) ?_));generalize m:upd (upd H2 g (.lst (O.map V.ref))) p (.ins C k (aA "told_falls" (.ref g) (aA "told_ties" (.ref l1) (aA "last" (.int j) (aA "many" (.int n) [])))))=H4;have E:cx p c H4:=λx o e h=>by rw [<-m,ag h,ag (a7 e Io)];exact D _ _ e h
 have R:∀{x:Addr} {l:List V},c x=some (.tup l)->x≠p:=λ{x l} e=>cI e A nofun;refine x2 H4 ⟨k,l1,g,by rw [<-m,ah];rfl,⟨H,?_,gM u.2 λx x3 e=>E _ _ e (R e)⟩,⟨O,?_,gM v.2 λx x3 e=>E _ _ e (R e)⟩⟩ (λx o e h=>E _ _ (t _ _ e) h)
 ·rw [<-m,ag s,ag (a6 þ)];exact L
 ·rw [<-m,ag G,ah]
theorem XA:cb qq qq (aJ eB):=c9
theorem XB:cb qq qq (aJ dD):=c9
theorem og (F:gb K "ties" "Web.ties" eB f fd) (T:jP mg) (b:iS K mg C):af P w K mg base aq 1 f fd qq (nz C λT _=>T):=by refine F.cJ XA λ_ A _ s H _ Q E j h=>?_;obtain ⟨p,n,m,q,o,rfl,⟨g,e,i,c,⟨d,R⟩,_⟩,k⟩:=h;refine ⟨_,ax (b_ (qB uu (by rfl) T.list (by decide+kernel) (aU (dY (pv 0) U)))),?_⟩;refine (aa U (cS c b.cl b.nT (YK _ _ _ _) ⟨e,_,U,.inl (ai.of R.1),λl a=>?_⟩));exact k l _ a (a8 a) ⟨d,ah,(R.same (a8 a)).2⟩
theorem my (F:gb K "falls" "Web.falls" dD f fd) (T:jP mg) (b:iS K mg C):af P w K mg base aq 1 f fd qq (nz C λ_ F=>F):=by refine F.cJ XB λ_ A _ s H _ Q E i h=>?_;obtain ⟨p,n,j,o,m,rfl,⟨g,q,c,d,_,⟨e,R⟩⟩,k⟩:=h;refine ⟨_,ax (b_ (qB uu (by rfl) T.list (by decide+kernel) (aU (dY (pv 0) U)))),?_⟩;refine (aa U (cS d b.cl b.nF (LG _ _ _ _) ⟨c,_,U,.inl (ai.of R.1),λl a=>?_⟩));exact k l _ a (a8 a) ⟨e,ah,(R.same (a8 a)).2⟩
end
end Y0
namespace L2
open PySem PySem.Spec PyProof.Rows
def dc:Nat->Type
 | 0=>V
 | d+1=>V ⊕ (Bool×List (dc d))
def OV:Hp:=λ_=>some (.lst [])
def c7:(d:Nat)->Hp->Hp->V->dc d->Prop
 | 0,_,_,x,v=>x=(v:V)/\gh x=true
 | _+1,_,_,x,.inl v=>x=v/\gh x=true
 | d+1,e,H,x,.inr (true,c)=>∃(p:Addr) (b:List V),x=.ref p/\H p=some (.lst b)/\e p=none/\(b.length=c.length/\c.length<=16500000)/\∀(j:Nat) (a:V) (t:dc d),b[j]?=some a->c[j]?=some t->c7 d e H a t
 | d+1,_,H,x,.inr (false,c)=>∃(p:Addr) (b:List V),x=.ref p/\H p=some (.tup b)/\b.length=c.length/\∀(j:Nat) (a:V) (t:dc d),b[j]?=some a->c[j]?=some t->c7 d OV H a t
theorem c7.wk (h:∀p,H0 p=none->H1 p=none):∀{d:Nat} {x:V} {t:dc d},c7 d H0 H x t->c7 d H1 H x t
 | 0,_,_,q=>q
 | _+1,_,.inl _,q=>q
 | d+1,_,.inr (true,l),⟨p,m,e,f,g,i,k⟩=>⟨p,m,e,f,h _ g,i,λj a t b c=>c7.wk h (k j a t b c)⟩
 | d+1,_,.inr (false,l),q=>q
theorem c7.keep (h:∀b u,H b=some u->H0 b=none\/(∃xs,u=.tup xs)->H' b=some u):∀{d:Nat} {x:V} {t:dc d},c7 d H0 H x t->c7 d H0 H' x t
 | 0,_,_,q=>q
 | _+1,_,.inl _,q=>q
 | d+1,_,.inr (true,m),⟨p,xs,e,g,l,i,k⟩=>⟨p,xs,e,h _ _ g (.inl l),l,i,λj a t c f=>c7.keep h (k j a t c f)⟩
 | d+1,_,.inr (false,m),⟨p,xs,e,g,i,k⟩=>⟨p,xs,e,h _ _ g (.inr ⟨_,U⟩),i,λj a t c f=>c7.keep (H0:=OV) (λb u e z=>h b u e (z.elim nofun .inr)) (k j a t c f)⟩
theorem c7.same (s:ao H H') (q:c7 d H0 H x t):c7 d H0 H' x t:=c7.keep (λb u e _=>s b u e) q
theorem c7.alike:∀{d:Nat} {x y:V} {t:dc d},c7 d H0 H x t->c7 d H1 H y t->vC H d x y
 | 0,_,_,_,⟨k,m⟩,⟨l,_⟩=>⟨k.trans l.symm,.inl m⟩
 | d+1,_,_,.inl _,⟨k,m⟩,⟨l,_⟩=>.inl (by
  have:∀(d:Nat) (x:V),gh x=true->vC H d x x:=λd=>by
   induction d with
   | zero=>exact λx f=>⟨U,.inl f⟩
   | succ d C=>exact λx f=>.inl (C x f)
  rw [l,<-k];exact this d _ m)
 | d+1,_,_,.inr (true,z),⟨p,A,e,s,_,c,u⟩,⟨q,B,i,n,_,o,r⟩=>.inr ⟨p,q,A,B,e,i,.inl ⟨s,n⟩,c.1.trans o.1.symm,λj a b h v=>by
  have g:j<z.length:=by rw [<-c.1];exact (cO.mp h).1
  exact c7.alike (u j a _ h (df g)) (r j b _ v (df g))⟩
 | d+1,_,_,.inr (false,z),⟨p,A,e,s,c,u⟩,⟨q,B,i,n,o,r⟩=>.inr ⟨p,q,A,B,e,i,.inr ⟨s,n⟩,c.trans o.symm,λj a b h v=>by
  have g:j<z.length:=by rw [<-c];exact (cO.mp h).1
  exact c7.alike (u j a _ h (df g)) (r j b _ v (df g))⟩
end L2
namespace Y0
open PySem L2
seal L2.kT L2.il L2.iu L2.fV L2.gS L2.hQ L2.ir L2.iq L2.gf Y0.aB
structure rN (K:aY) (mg:Str->Option Value):Prop where
 Q1:mg "isinstance"=none
 list:mg "list"=none
 kn:PySem.W.kitOne K (.type "NoneType") (.type "list")=some false
 kb:PySem.W.kitOne K (.type "bool") (.type "list")=some false
 ki:PySem.W.kitOne K (.type "int") (.type "list")=some false
 ks:PySem.W.kitOne K (.type "str") (.type "list")=some false
 kt:PySem.W.kitOne K (.type "tuple") (.type "list")=some false
theorem Yx:PySem.W.kitOne K (.type "list") (.type "list")=some true:=by unfold PySem.W.kitOne;rw [if_pos (by decide+kernel)]
theorem rN.flat (T:rN K mg) (h:gh x=true):∃t,k_ K H x t/\PySem.W.kitOne K t (.type "list")=some false:=by
 cases x with
 | a9=>exact ⟨_,.a9,T.kn⟩
 | bl b=>exact ⟨_,.bl b,T.kb⟩
 | int i=>exact ⟨_,.int i,T.ki⟩
 | str x=>exact ⟨_,.str x,T.ks⟩
 | lR _=>cases h
 | oJ _=>cases h
 | ref _=>cases h
 | ty _=>cases h
def Kx (d:Nat):Sp:=λb H Q _=>∃(x:V) (t:dc d),b=[x]/\c7 d (λ_=>none) H x t/\∀y a,ao H a->c7 d H a y t->Q y a
theorem Pg:cb ē ē (aJ dr):=c9
theorem WD:hV (aJ dr) ē (jY [(".0",.local),("_law_one",.local),("_law_copied",.globalImplicit)]) ["_law_one"] [none]:=jZ
theorem WT:(["_law_one"]:List Str).Nodup:=by decide+kernel
theorem iM (F:Fn K mg "_law_copied" dr ē f fd) (T:rN K mg):∀d,af P w K mg base aq (d+1) f fd ē (Kx d)
 | 0=>by refine F.F.cJ Pg λ_ x2 _ x6 H _ x5 x3 X h=>?_;obtain ⟨x7,t,rfl,⟨e,x⟩,k⟩:=h;refine ⟨_,aO (dG (sg (iB OC (by rfl) T.Q1 (by decide+kernel) (bp (pv 0) (Lh (v:=.ty "list") U T.list (by decide+kernel) U)))) sC dH) (ax (b_ (pv 0))),?_⟩;obtain ⟨tt,R,N⟩:=T.flat (H:=H) x;exact (aa U ⟨_,_,_,_,U,R,N,_,U,gJ (aa U (k _ _ (ao.refl _) ⟨e,x⟩))⟩)
 | d+1=>by
  have x4:=iM F T d;refine F.F.cJ Pg λ_ x2 _ x6 H _ x5 x3 X h=>?_;obtain ⟨x7,t,rfl,L,k⟩:=h;refine ⟨_,aO (dG (sg (iB OC (by rfl) T.Q1 (by decide+kernel) (bp (pv 0) (Lh (v:=.ty "list") U T.list (by decide+kernel) U))))
   (ax (b_ (me U (f9 (pv 0)) WD (λcl ex O H0=>⟨bH 0 WT,nI,bM x4 X F (aU (pv 0))⟩)))) dH) (ax (b_ (pv 0))),?_⟩
  rcases t with v | ⟨b,Q⟩
  ·obtain ⟨e,x⟩:=L;obtain ⟨tt,R,N⟩:=T.flat (H:=H) x;exact (aa U ⟨_,_,_,_,U,R,N,_,U,gJ (aa U (k _ _ (ao.refl _) ⟨e,x⟩))⟩)
  cases b with
  | false=>
   obtain ⟨p,xs,rfl,n,q,I⟩:=L;exact (aa U ⟨_,_,_,_,U,.tup n,T.kt,_,U,gJ (aa U (k _ _ (ao.refl _) ⟨p,xs,U,n,q,I⟩))⟩)
  | true=>
   obtain ⟨p,xs,rfl,n,_,q,I⟩:=L;refine (aa U ⟨_,_,_,_,U,.lst n,Yx,_,U,km (aa U ⟨p,U,⟨_,ai.of n⟩,λD J=>?_⟩)⟩);have O:=a8 (o:=.lst []) J;have fr:∀{l:Hp},ao (upd H D (.lst [])) l->∀p,l p=none->upd H D (.lst []) p=none:=λ{l} ss p e=>ss.free e;refine sG (xs:=xs) (λi E l=>∃v g,E=[v]/\l D=some (.lst g)/\g.length=i/\(∀(j:Nat) (a:V) (t:dc d),g[j]?=some a->Q[j]?=some t->c7 d (upd H D (.lst [])) l a t)/\ao H l/\∀p,l p=none->upd H D (.lst []) p=none) ⟨none,[],U,ah,U,(λj a t h=>by rw [List.getElem?_nil] at h;cases h),O,λ_ z=>z⟩ ?_ ?_ ?_
   ·rintro i E S _ ⟨v,g,rfl,_,_,_,r,_⟩;exact ai.of (r _ _ n)
   ·rintro i z E S Z ⟨v,g,rfl,A,B,M,r,G⟩;have hi:i<xs.length:=(cO.mp Z).1;have pI:i<Q.length:=by rw [<-q.1];exact hi
    have Y:=df pI;refine (aa U ⟨z,Q[i],U,(I i z _ Z Y).same r,λx1 W y hy=>⟨_,y _ _ A,gZ (show g.length<16500000+1 by have:=q.2;lia) (by decide),_,g++[x1],U,ah,by rw [dw,B];rfl,λj a t m s=>?_,λb u e=>?_,λp C=>?_⟩⟩)
    ·have kp:∀(b:Addr) u,W b=some u->upd H D (.lst []) b=none\/(∃xs,u=.tup xs)->upd W D (.lst (g++[x1])) b=some u:=λb u e z=>by
      have:b≠D:=λw=>by
       rcases z with z | ⟨xs,z⟩
       ·rw [w,ah] at z;cases z
       ·rw [w,y _ _ A,z] at e;cases e
      rw [ag this];exact e
     by_cases cj:j<g.length
     ·rw [ic cj] at m;exact ((M j a t m s).same y).keep kp
     ·have ej:j=i:=by
       have:=(cO.mp m).1;rw [dw] at this;have:j<g.length+1:=this;lia
      subst ej;rw [iD (by lia),B,Aa] at m;cases m;rw [Y] at s;cases s;exact (hy.wk G).keep kp
    ·rw [ag (a7 e J)];exact y _ _ (r _ _ e)
    ·by_cases c:p=D
     ·rw [c,ah] at C;cases C
     ·rw [ag c] at C;exact G p (y.free C)
   ·rintro E S ⟨v,g,rfl,A,B,M,r,G⟩;refine k _ _ r ⟨D,g,U,A,J,⟨B.trans q.1,q.2⟩,λj a t m s=>(M j a t m s).wk λp z=>?_⟩;exact O.free z
end Y0
namespace L2
open PySem PySem.Spec PyProof.Rows
section
theorem Inv.unset (I:Inv X pins σ H s) (L:X.N.Nodup) (G:X.N[i]?=some n) (N:∀(j:Nat) (x:Str) (v:V),X.N[j]?=some x->σ[j]?=some (some v)->vz X.env.scope x->∃u,bz v u/\OS X.env s.heap m x u) (O:h'.Ns X.env.locals λx=>if x=n then v0 else m x) (f:Heap.SameBut X.env.locals s.heap h'):Inv X pins (σ.set i none) H { s with heap:=h',toks:=tk }:=by
 have B:∀b o,X.bQ.heap.get? b=some o->b≠X.env.locals:=λb o e=>fy (gZ (cV e) I.ok.above);have D:∀x c,X.env.cells.lookup x=some c->c≠X.env.locals:=λx c e=>I.zQ x c e;refine ⟨I.ok,I.os,I.bare,⟨λb o e n C h=>?_,λb o e n C h=>?_,I.base.free,λb o e h=>?_,I.base.eh,I.base.eX,I.base.fq⟩,⟨_,O,λj x v g A J=>?_⟩,λy c e=>?_,I.free,I.bS,λp Q=>?_,λb u e=>?_,by rw [List.length_set];exact I.len⟩
 ·exact (f.2 b (B b o e)).trans (I.base.keep b o e n C h)
 ·obtain ⟨T,g⟩:=I.base.slot b o e n C h;exact ⟨T,(f.2 b (B b o e)).trans g⟩
 ·obtain ⟨S,g⟩:=I.base.there b o e h;exact ⟨S,(f.2 b (B b o e)).trans g⟩
 ·have t:j≠i:=λz=>by
   subst z;have M:=(cO.mp G).1;rw [J' (by rw [I.len];exact M)] at A;cases A
  rw [JR (a6 t)] at A;obtain ⟨u,r,l⟩:=N j x v g A J;refine ⟨u,r,?_⟩;have Y:x≠n:=λz=>t (by
   have E:=cO.mp g;have F:=cO.mp G;exact (List.getElem_inj (h₀:=E.1) (h₁:=F.1) L).mp (by rw [E.2,F.2,z]))
  rcases l with ⟨k,l⟩ | ⟨k,c,a,l⟩
  ·exact .inl ⟨k,by show (if x=n then v0 else m x)=some u;rw [if_neg Y];exact l⟩
  ·exact .inr ⟨k,c,a,l.sameBut f (D x c a)⟩
 ·obtain ⟨W,z⟩:=I.cell y c e;exact ⟨W,z.sameBut f (D y c e)⟩
 ·obtain ⟨e,n,t,R,d⟩:=I.pin p Q;exact ⟨(f.2 p.1 t).trans e,n,t,R,d⟩
 ·refine (I.a4 b u e).ei (λc v a q=>(f.2 c ?_).trans q) (λ_ q=>q) λ_ _ q=>q;rintro rfl;rcases a with rfl | a
  ·rw [I.free] at e;cases e
  ·rw [I.free] at a;cases a
end
def Yi (K:aY) (Cn:Addr) (i:Nat) (c:(Addr->Option Addr->St->Hp->Prop)->TS) (h:Addr->TS):TS:=λD j H=>∃d:Addr->Option Addr->St->Hp->Prop,c d D j H/\
 ∀C e f b,d C e f b->PySem.W.exmOne K (.ref C) (.ref Cn)=some true/\∀a t c,b a=none->h a { nx:=λk g=>D.nx (k.set i none) g,rt:=D.rt } (f.set i (some (.ref a))) (upd b a (yw a C e t c))
theorem Zs (zb:X.stack=X.env::X.outer) (QS:X.env.frame=some X.env.locals) (hN:X.N.Nodup) (hi:X.N[i]?=some n) (y:X.env.scope.names.lookup n=some .local) (hg:Gl X cn) (hm:X.mg cn=some (.ref Cn))
 (M:∀g m,f7 (tP X g m) body (tb m)) (hs:∀a,f7 (vW X (.ref a)) (b0::yI) (ts a)) (hex:X.ex=[]:=by rfl) (hdb:(cn==("__debug__":Str))=false:=by decide):
 PS X (.Try body [.ExceptHandler (some (.Name cn np)) (some n) (b0::yI) ϵ] [] [] pos) (Yi X.K Cn i tb ts):=by
 intro g s σ x2 x1 I x3;obtain ⟨m,h1,h2⟩:=x3;refine wpAny_Try_except (gY (M g m [] s σ x2 x1 I.yF h1) (λf k q=>?_) λe k he=>?_)
 ·have F:=SP.gE q
  cases f with
  | next=>exact Ag F
  | ret v=>exact F
  | brk=>exact F
  | cont=>exact F
 ·obtain ⟨a,C,V,T,H',σ1,H1,j,rfl,r,H,th,fl,hx⟩:=he;obtain ⟨Ih,hq⟩:=h2 C V T H' hx;have zu:jd (X.env::X.outer)=X.env.locals::X.fs:=by
   unfold Cx.fs jd;rw [vt,QS]
  have A:∀b o,X.bQ.heap.get? b=some o->j.heap.get? b≠none:=λb o e=>by obtain ⟨o',q⟩:=r.base.there b o e (by rw [hex];simp);rw [q];simp
  have D:j.heap.get? X.env.locals≠none:=by obtain ⟨x5,⟨o,_,_,Q,_⟩,_⟩:=r.loc;rw [Q];simp
  have B:∀x c,X.env.cells.lookup x=some c->j.heap.get? c≠none:=λx c e=>by obtain ⟨v,o,Q,_⟩:=r.cell x c e;rw [Q];simp
  have E:∀p∈X.pn++g,j.heap.get? p.1≠none:=λp R=>by rw [(r.pin p R).1];simp
  have IB:X.A.frames=some (X.env::X.outer):=by rw [<-zb];exact I.ok.frames
  refine Mw (L:=X.env.locals) IB (by rw [<-zb];exact H.stack) QS fl th (λb M=>H.a4.fresh M) λRf n2 Hs=>?_;rw [zu] at Hs;have I2:=H.oK Hs A D B E;refine Ma (s:={ k with heap:=Rf }) n2 λh W Qx=>?_;have Hr:l7 (X.env.locals::X.fs) j.heap Rf h H':=⟨λb o z _ e=>Qx.1 b o z (by simp) e,Qx.2⟩;have J:=I2.oK Hr A D B E;have I3':Inv (vW X (.ref a)) g T H' { k with heap:=h }:=J.sN;refine wpAny_handleBy_cons (codeAny_handlers_test (vR I3' hg hm ?_ hdb)) (by intro z;cases z);obtain ⟨_,_,x6,tb',IA,_⟩:=id W;have LT:PySem.W.Looks (model X.prog X.w) h (typeOf (.ref a)) (.ref C):=(PySem.W.Looks.ld IA).andThen .now;refine (PySem.W.exm_one J.de LT Ih).here (s:={ k with heap:=h }) ?_;refine codeAny_handlers_suite_as ?_;refine Tg (s:={ k with heap:=h }) W λh4 f4 Qw=>?_;have Hq:l7 (X.env.locals::X.fs) j.heap h h4 H':=⟨λb o z _ e=>Qw.1 b o z (by simp) e,Qw.2⟩;have I4:=J.oK Hq A D B E;obtain ⟨t,Y,t4,PX,zq,_⟩:=id f4;have I5:=I4.yE zq Y (by
   cases q:X.bQ.heap.get? a with
   | none=>rfl
   | some o=>exact absurd t (A a o q)) (λz=>D (z▸t)) (λx c e z=>B x c e (z▸t)) (λp R z=>E p R (z▸t))
  have Kg:Inv (vW X (.ref a)) g T (upd H' a (yw a C V t4 PX)) { k with heap:=h4 }:=I5.sN;refine Bi (X:=vW X (.ref a)) (v:=.ref a) (u:=.ref a) Kg hN hi (.inl y) U (λs6 I6=>?_) (.inr y);refine gY (hs a g s6 _ _ _ I6 (hq a t4 PX Y)) (λf s7 d=>?_) λ_ _ z=>z.elim
  cases f with
  | next=>
   obtain ⟨Sr,G,l,d⟩:=d;obtain ⟨m7,O,hm7⟩:=l.loc;refine wpAny_nameGoes_keeps y O (by rw [I.ok.kind];rfl) λh' v0 N S=>⟨_,G,(l.sM I.ok.hd).unset hN hi hm7 N S,d⟩
  | brk=>obtain ⟨_,_,_,z⟩:=d;exact z.elim
  | cont=>obtain ⟨_,_,_,z⟩:=d;exact z.elim
  | ret v=>
   obtain ⟨x4,Sr,G,l,r7,d⟩:=d;obtain ⟨m7,O,_⟩:=l.loc;exact wpAny_nameGoes y O (by rw [I.ok.kind];rfl) λh' m' N S=>⟨x4,_,G,(l.sM I.ok.hd).blank N S,r7,d⟩
section
variable {env:Env}
end
section
variable {K:aY} {s:Shared}
end
open PySem PySem.Spec PyProof.Rows Builtin Builtin.ObjectAttr
section
variable {X:Cx} {lJ:List (Addr×Obj)} {Ex:Addr->Option Addr->St->Hp->Prop} {k:Nat} {f C:Addr} {fd:FuncData} {ps:List Str} {sp:Sp} {x:Str} {p pos:Pos} {e:Expr} {es:List Expr} {t:TA}
end
section
theorem Y4 {T id:String} (a:X.K=K) (l:PlainAttrs T) (m:Slot T name id) (k:typeOf (.builtin id)=pure (.type "method_descriptor")) (g:Se X id r) (h:PE X o to) (b:PA X (e::C) t)
 (c:attributeBase o name X.env (eval o X.env)=eval o X.env:=by rfl)
 (d:((backTo dU (starEach (e::C) X.env)).all (λx=> !x.1) && (backToKw dU (keywordEach [] X.env)).all (λx=>x.1.isSome)
  && decide ((e::C).length+([]:List Keyword).length+(if ([]:List Keyword).isEmpty then 0 else 1)<30))=true:=by rfl)
 (f:(apos.endLine==dU.line)=true:=by rfl) (j:starEach (e::C) X.env=(false,eval e X.env)::starEach C X.env:=by rfl) (i:(backTo dU (starEach C X.env)).any (·.1)=false:=by rfl):
 PE X (.Call (.Attribute o name apos) (e::C) [] dU) (PZ K T r to t):=by subst a;exact kE l m k g h b c d f j i
end
section
variable {X:Cx} {lJ:List (Addr×Obj)} {Ex:Addr->Option Addr->St->Hp->Prop}
def YQ (X:Cx) (Ex:Addr->Option Addr->St->Hp->Prop) (i j:Nat):TE:=λa H Q=>∃(k:Nat) (f:Addr) (b:FuncData) (y:Str) (d:Sp) (v:V),a[i]?=some (some (.ref f))/\a[j]?=some (some v)/\cA k X.A/\af X.prog X.w X.K X.mg X.base (cX X.prog X.w) k f b [y] d/\PySem.W.keepIn X.K (.ref f)=true/\cY X.K b [y] []/\
 d [v] H Q (λC g e=>∃c,C=.ref c/\Ex c g a e)
theorem Tx (L:X.N[i]?=some x) (hv:vz X.env.scope x) (M:X.N[j]?=some z) (Ϧ:vz X.env.scope z)
 (T:(x==("__debug__":Str))=false:=by decide) (R:(x==("__classdict__":Str))=false:=by decide) (V:(z==("__debug__":Str))=false:=by decide) (S:(z==("__classdict__":Str))=false:=by decide):
 PE (tP X lJ Ex) (.Call (.Name x p) [.Name z p'] [] pos) (YQ X Ex i j):=by
 intro t x3 k H Q I q;obtain ⟨x5,f,fd,x6,sp,v,Ϟ,Hz,Z,F,W,N,x2⟩:=q;refine xc (ay (Du (X:=tP X lJ Ex) (i:=i) (pos:=p) L hv T R t x3 k H (λv g=>v=.ref f/\g=H) I ⟨_,Ϟ,U,U⟩) λuf s1 q=>?_);obtain ⟨vf,g,s,r1,l,m⟩:=q;subst l m;obtain rfl:uf=Value.ref f:=r1;refine Av (h₀:=X.base) s.ok.mod.uX W (ay (qp (X:=tP X lJ Ex) (Du (i:=j) (pos:=p') M Ϧ V S) n7 U pos t s1 k g (λA h=>A=[v]/\h=g) s ⟨_,Hz,U,U⟩) λus o ⟨A,h,c,r2,l,m⟩=>⟨c.de,?_⟩) U U;subst l m;obtain ⟨u,rfl,r⟩:=aX.one r2;refine tJ (wV (F.run X.A X.stack o h ⟨[u],[]⟩ [u] [v] Q _ Z c.rE (N o [u] c.de U) (.cons r .nil) x2) λr s' d=>?_)
 cases r with
 | error e=>
  obtain ⟨a,C,G,B,rfl,os,E,y,Y,n,x4,O,J⟩:=d;cases O;have D:=c.oN (s':=s') (ch:=[]) os y Y E (λb z=>absurd z (by simp));exact ⟨a,C,G,k,B,k,h,o,U,c.gE,D.gE,λb x1 e=>y.there b x1 e (by simp),n,J⟩
 | ok n=>
  cases n with
  | ret u=>exact c.after d
  | next=>exact gX d
  | brk=>exact gX d
  | cont=>exact gX d
end
theorem wu {l a:List α} {m b:List β} (h:Paired F l m) (h':Paired F a b):Paired F (l++a) (m++b):=by
 induction h with
 | nil=>exact h'
 | cons r t c=>exact .cons r c
theorem ee.cat (d:ee H a ps r) (e:ee H b qs s) (c:H p=none):ee (upd H p (.lst (ps.map V.ref++qs.map V.ref))) p (ps++qs) (r++s):=
 ⟨by rw [ah,d_],wu (d.same (a8 c)).2 (e.same (a8 c)).2⟩
theorem ee.more (h:ee H l ps rows) (s:ao H0 H) (c:H0 l=none) (a:H p=none):
 ee (upd (upd H p (.tup (r.map V.int))) l (.lst (ps.map V.ref++[.ref p]))) l (ps++[p]) (rows++[r])/\ao H0 (upd (upd H p (.tup (r.map V.int))) l (.lst (ps.map V.ref++[.ref p])))/\upd H p (.tup (r.map V.int)) l=some (.lst (ps.map V.ref)):=by
 have R:=h.same (a8 (o:=.tup (r.map V.int)) a);refine ⟨R.push ah,λb o e=>?_,R.1⟩;rw [ag (a7 e c),ag (a7 (s _ _ e) a)];exact s _ _ e
end L2
namespace Y0
open PySem L2
seal L2.kT L2.il L2.iu L2.fV L2.gS L2.hQ L2.ir L2.iq L2.gf Y0.aB
def jj (la:Int):Nat->List (List Int)
 | 0=>[]
 | k+1=>jj la k++[[0,(k:Int)+1,la],[(k:Int)+1,0,0]]
theorem wo (la:Int):∀k,(jj la k).length=2*k
 | 0=>rfl
 | k+1=>by unfold jj;rw [dw,wo la k];rfl
def XY:List Int->List (List Int)
 | [a,b,l,m]=>[[a,b,m],[b,a,-l]]
 | _=>[]
def jx (rows:List (List Int)):List (List Int):=(rows.map XY).flatten
def wy (rows:List (List Int)):Prop:=∀r∈rows,∃a b l m:Int,r=[a,b,l,m]
theorem sD:∀{rows:List (List Int)},wy rows->(jx rows).length=2*rows.length
 | [],_=>rfl
 | r::t,h=>by obtain ⟨a,b,l,m,rfl⟩:=h _ fh;have c:=sD (rows:=t) λr d=>h r (gI _ d);unfold jx at c ⊢;rw [eG,wY,dw,c,gw];show 2+2*t.length=2*(t.length+1);lia
theorem c_.lP (h:c_ n la T F):wy T:=λr c=>by obtain ⟨a,b,l,m,e,_⟩:=h.t r c;exact ⟨a,b,l,m,e⟩
theorem c_.lQ (h:c_ n la T F):wy F:=λr c=>by obtain ⟨a,b,l,m,e,_⟩:=h.f r c;exact ⟨a,b,l,m,e⟩
def bG (n la:Int) (T F:List (List Int)):List (List Int):=jj la (n-1).toNat++jx T++jx F
structure W7 (mg:Str->Option Value):Prop where
 range:mg "range"=none
def K4 (C:Addr):Sp:=λc H Q _=>∃p n b T F,c=[.ref p]/\gA C H p n b T F/\1<=n/\n<=8/\∀l a,H l=none->ao H a->dP a l (jj b (n-1).toNat)->Q (.ref l) a
def K8:Sp:=λd H Q _=>∃a b,d=[.ref a]/\dP H a b/\wy b/\b.length<=100/\∀l c,H l=none->ao H c->dP c l (jx b)->Q (.ref l) c
def DB (C:Addr):Sp:=λe H Q _=>∃p a n d T F b,e=[.ref p,.ref a]/\gA C H p n d T F/\c_ n d T F/\dP H a b/\wy b/\b.length<=100/\∀l c,H l=none->ao H c->dP c l (bG n d b F)->Q (.ref l) c
def vO (C:Addr):Sp:=λc H Q _=>∃p n b T F,c=[.ref p]/\gA C H p n b T F/\c_ n b T F/\∀l a,H l=none->ao H a->dP a l (bG n b T F)->Q (.ref l) a
section
theorem Fs:cb ["web","bounds","moment"] iv (aJ cp):=c9
theorem qT (F:Fn K mg "room_bounds" cp iv f fd) (T:W7 mg) (d:iS K mg C):af P w K mg base aq 1 f fd iv (K4 C):=by
 refine F.F.cJ Fs λ_ A _ x1 H _ Q E X h=>?_;obtain ⟨p,n,b,rT,rF,rfl,⟨R,ta,S,u,_,_⟩,Y,Z,k⟩:=h;refine ⟨_,aO (cg 1 Fs.nd (iJ n7))
  (aO (fJ ft U (Vh U T.range (bp a0 (dY (pv 0) U))) (bH 2 Fs.nd)
   (aO (eg (kE kY kf kX jT (pv 1) (aU (eN (gv a0 (pv 2) (dY (pv 0) U))))))
   (ax (eg (kE kY kf kX jT (pv 1) (aU (eN (gv (pv 2) a0 a0))))))))
  (ax (b_ (pv 1)))),?_⟩
 refine ⟨dV _,λl g=>?_⟩;have x:=a8 (o:=.lst []) g;refine (aa U (cS (x _ _ u) d.cl d.nM (l_ _ _ _ _) ⟨1,n,U,⟨by decide,by decide,by lia,by lia⟩,?_⟩));refine yo (n:=(n-1).toNat) (λi s t=>∃v c,s=[some (.ref p),some (.ref l),v]/\ee t l c (jj b i)/\ao H t) ⟨none,[],U,⟨ah,.nil⟩,x⟩ ?_ ?_
 ·rintro i s z V ⟨v,c,rfl,a,m⟩;have y:∀j:Nat,j<=20->j<sizeLine:=λj W=>fe (by lia);refine (aa U ⟨.inl ⟨U,_,ai.of a.1⟩,aa U (aa U (cS (m _ _ u) d.cl d.nL (KH _ _ _ _) ⟨dj U,λL I=>?_⟩))⟩);obtain ⟨q,N,D⟩:=a.more (r:=[0,1+(i:Int),b]) m g I;refine (kK D ?_ ?_)
  ·rw [ak,a.len,wo];exact y _ (by omega)
  refine (aa U ⟨.inl ⟨U,_,ai.of q.1⟩,aa U ⟨dj U,λM J=>?_⟩⟩);obtain ⟨B,O,G⟩:=q.more (r:=[1+(i:Int),0,0]) N g J;refine (kK G ?_ ?_)
  ·rw [ak,q.len,dw,wo];exact y _ (by simp;omega)
  refine ⟨_,c++[L]++[M],U,?_,O⟩;have e:jj b (i+1)=jj b i++[[0,1+(i:Int),b]]++[[1+(i:Int),0,0]]:=by rw [pR,Int.add_comm 1 (i:Int)];rfl
  rw [e];exact B
 ·rintro s z ⟨v,c,rfl,a,m⟩;exact (aa U (k l _ g m ⟨c,a⟩))
abbrev ä:List Str:=["spans","bounds","one","other","least","most"]
theorem w8:cb ä ģ (aJ cm):=c9
theorem qQ (F:Fn K mg "span_bounds" cm ģ f fd):af P w K mg base aq 1 f fd ģ K8:=by
 refine F.F.cJ w8 λ_ x1 _ x4 H _ x3 x2 B h=>?_;obtain ⟨a,rows,rfl,⟨E,R⟩,A,hlen,k⟩:=h;refine ⟨_,aO (cg 1 w8.nd (iJ n7))
  (aO (fJ ft U (f9 (pv 0))
   (ql U (e_ (bH 2 w8.nd) (e_ (bH 3 w8.nd) (e_ (bH 4 w8.nd) (e_ (bH 5 w8.nd) qr)))))
   (aO (eg (kE kY kf kX jT (pv 1) (aU (eN (gv (pv 2) (pv 3) (pv 5))))))
   (ax (eg (kE kY kf kX jT (pv 1) (aU (eN (gv (pv 3) (pv 2) (nt nG (pv 4))))))))))
  (ax (b_ (pv 1)))),?_⟩
 refine ⟨dV _,λl m=>?_⟩;have G:=a8 (o:=.lst []) m;refine (aa U ⟨a,U,⟨_,ai.of (G _ _ R.1)⟩,iA (K:=K) (a:=a) (xs:=E.map V.ref) (λi u y=>∃n p s t c,u=[some (.ref a),some (.ref l),n,p,s,t]/\ee y l c (jx (rows.take i))/\ao H y) ⟨none,none,none,none,[],U,⟨ah,.nil⟩,G⟩ ?_ ?_ ?_⟩)
 ·rintro i u z _ ⟨n,p,s,t,c,rfl,_,d⟩;exact ai.of (d _ _ R.1)
 ·rintro i x5 u z W ⟨n,p,s,t,c,rfl,b,d⟩;obtain ⟨q,r,rfl,_,x,T⟩:=R.get W;obtain ⟨g,j,C,D,M⟩:=A r (fY x);subst M;have hi:i<rows.length:=(cO.mp x).1;have N:wy (rows.take i):=λr B=>A r (CL B);have vd:(jx (rows.take i)).length<=200:=by rw [sD N,iC];lia
  refine ⟨q,_,U,cK.of (d _ _ T),U,_,_,U,_,_,U,_,_,U,_,_,U,U,?_⟩;refine (aa U ⟨.inl ⟨U,_,ai.of b.1⟩,aa U (aa U (aa U ⟨dj U,λX Q=>?_⟩))⟩);obtain ⟨v,Z,J⟩:=b.more (r:=[g,j,D]) d m Q;refine (kK J ?_ ?_)
  ·rw [ak,b.len];exact fe (by lia)
  refine (aa U ⟨.inl ⟨U,_,ai.of v.1⟩,aa U (aa U (aa U ⟨_,U,dj U,λY S=>?_⟩))⟩);obtain ⟨I,s3,L⟩:=v.more (r:=[j,g,-C]) Z m S;refine (kK L ?_ ?_)
  ·rw [ak,v.len,dw];exact fe (by simp;lia)
  refine ⟨_,_,_,_,c++[X]++[Y],U,?_,s3⟩;have e:jx (rows.take (i+1))=jx (rows.take i)++[[g,j,D]]++[[j,g,-C]]:=by unfold jx;rw [jo,x,d_,List.flatten_append,pR];rfl
  rw [e];exact I
 ·rintro u z ⟨n,p,s,t,c,rfl,b,d⟩;have O:rows.take (E.map V.ref).length=rows:=by
   rw [ak,R.len];exact i5
  rw [O] at b;exact (aa U (k l _ m d ⟨c,b⟩))
theorem X8:cb Đ Đ (aJ bx):=c9
theorem qL (F:Fn K mg "bounds_with" bx Đ f fd) (M:iS K mg C)
 (B:Fn K mg "room_bounds" cp iv fR JB) (E:af P w K mg base aq 1 fR JB iv (K4 C))
 (l:Fn K mg "span_bounds" cm ģ fS JA) (m:af P w K mg base aq 1 fS JA ģ K8)
 (mF:gc K C "falls" fM) (N:cY K pL qq []) (D:af P w K mg base aq 1 fM pL qq (nz C λ_ F=>F)):af P w K mg base aq 2 f fd Đ (DB C):=by
 refine F.F.cJ X8 λ_ x3 _ x7 x5 _ x6 x4 e x1=>?_;obtain ⟨p,a,n,t,u,j,L,rfl,h,b,J,r,zE,x2⟩:=x1;refine ⟨_,ax (b_ (cv xK (cv xK (bM E e B (aU (pv 0))) (bM m e l (aU (pv 1))))
  (bM m e l (aU (pB (pv 0) M.cl mF D e N .nil eK))))),?_⟩
 refine (aa U ⟨p,n,t,u,j,U,h,b.n1,b.n2,λl1 H1 _ v G=>?_⟩);refine (aa U ⟨a,L,U,J.same v,r,zE,λl2 H2 _ x c=>?_⟩);obtain ⟨Û,g⟩:=G.same x;obtain ⟨Ú,c⟩:=c;have O:=g.len;have Q:=c.len;rw [wo] at O;rw [sD r] at Q;have n2:=b.n2;refine ⟨l1,l2,_,_,U,U,g.1,c.1,?_,λl3 s=>?_⟩
 ·rw [ak,ak];exact aR (fe (by lia))
 have H:=g.cat c s;have s3:=a8 (o:=.lst (Û.map V.ref++Ú.map V.ref)) s;have k:=(v.trans x).trans s3;obtain ⟨dx,ta,fa,hp,_,_⟩:=id (h.same k);refine (aa U (ip hp (wA _ _ _ _ (by decide+kernel) (by decide+kernel) (by decide+kernel) (by decide+kernel)) ⟨p,n,t,u,j,U,h.same k,λl4 H4 _ y I=>?_⟩));refine ⟨l4,j,U,I,b.lQ,by have:=b.fl;lia,λl5 H5 _ z d=>?_⟩;have q:=(H.same y).same z;obtain ⟨ps5,d⟩:=d;have R:=d.len;rw [sD b.lQ] at R;have fl:=b.fl;refine ⟨l3,l5,_,_,U,U,q.1,d.1,?_,λl6 i=>?_⟩
 ·rw [ak,ak,dw];exact aR (fe (by lia))
 have A:=(k.trans y).trans z;exact x2 l6 _ (A.free i) (A.trans (a8 i)) ⟨_,q.cat d i⟩
theorem Xr:cb iv iv (aJ a5):=c9
theorem qM (F:Fn K mg "told_bounds" a5 iv f fd) (t:iS K mg C)
 (j:Fn K mg "bounds_with" bx Đ I jJ) (m:af P w K mg base aq 2 I jJ Đ (DB C))
 (B:gc K C "ties" J) (u:cY K pL qq []) (o:af P w K mg base aq 1 J pL qq (nz C λT _=>T)):af P w K mg base aq 3 f fd iv (vO C):=by
 refine F.F.cJ Xr λ_ A _ s H _ Q E e h=>?_;obtain ⟨p,n,g,c,i,rfl,a,b,k⟩:=h;have y:cA 1 _:=e.mono (by decide);refine ⟨_,ax (b_ (bM m e j (bp (pv 0) (pB (pv 0) t.cl B o y u .nil eK)))),?_⟩;obtain ⟨L,N,M,x,_,_⟩:=id a;refine (aa U (aa U (ip x (wA _ _ _ _ (by decide+kernel) (by decide+kernel) (by decide+kernel) (by decide+kernel)) ⟨p,n,g,c,i,U,a,λz G _ d r=>?_⟩)));exact ⟨p,z,n,g,c,i,c,U,a.same d,b,r,b.lP,by have:=b.tl;lia,λl q v D R=>k l q (d.free v) (d.trans D) R⟩
end
end Y0
namespace L2
open PySem PySem.Spec PyProof.Rows
section
variable [DecidableEq κ]
def eT (kvs:List (κ×V)) (k:κ):Option V:=(kvs.find? λa=>decide (a.1=k)).map (·.2)
def dN (kvs:List (κ×V)) (k:κ) (v:V):List (κ×V):=
 if (kvs.any λa=>decide (a.1=k))=true then kvs.map (λa=>if a.1=k then (a.1,v) else a) else kvs++[(k,v)]
theorem nK {p:κ×V} {r:List (κ×V)} {k:κ} (e:p.1=k):eT (p::r) k=some p.2:=by simp [eT,List.find?_cons,e]
theorem nJ {p:κ×V} {r:List (κ×V)} {k:κ} (e:¬p.1=k):eT (p::r) k=eT r k:=by simp [eT,List.find?_cons,e]
theorem ue (k:κ):∀kvs:List (κ×V),(kvs.any λa=>decide (a.1=k))=(eT kvs k).isSome
 | []=>rfl
 | p::r=>by
  rw [wW]
  by_cases e:p.1=k
  ·simp only [nK e,jr e,Bool.true_or,Option.isSome_some]
  ·rw [nJ e,fz e,Bool.false_or];exact ue k r
theorem Ms (k j:κ) (y:V):∀kvs:List (κ×V),eT (kvs.map λa=>if a.1=k then (a.1,y) else a) j=(eT kvs j).map λx=>if j=k then y else x
 | []=>rfl
 | p::r=>by
  have b:=Ms k j y r;rw [eG]
  by_cases h:p.1=k
  ·rw [if_pos h]
   by_cases e:p.1=j
   ·rw [nK (p:=(p.1,y)) e,nK e,CB,if_pos (e.symm.trans h)]
   ·rw [nJ (p:=(p.1,y)) e,nJ e,b]
  ·rw [if_neg h]
   by_cases e:p.1=j
   ·rw [nK (p:=p) e,nK e,CB,if_neg (λz=>h (e.trans z))]
   ·rw [nJ (p:=p) e,nJ e,b]
theorem N0 (k j:κ) (y:V):∀kvs:List (κ×V),eT kvs k=none->eT (kvs++[(k,y)]) j=if j=k then some y else eT kvs j
 | [],_=>by
  by_cases e:k=j
  ·rw [if_pos e.symm];exact nK (p:=(k,y)) e
  ·rw [if_neg (λz=>e z.symm)];exact nJ (p:=(k,y)) e
 | p::r,a=>by
  rw [List.cons_append];have b:¬p.1=k:=λz=>by rw [nK z] at a;cases a
  rw [nJ b] at a;have c:=N0 k j y r a
  by_cases e:p.1=j
  ·rw [nK e,nK e,if_neg (λz=>b (e.trans z))]
  ·rw [nJ e,nJ e,c]
theorem ye (kvs:List (κ×V)) (k j:κ) (y:V):eT (dN kvs k y) j=if j=k then some y else eT kvs j:=by
 unfold dN
 by_cases a:(kvs.any λc=>decide (c.1=k))=true
 ·rw [if_pos a,Ms];rw [ue] at a
  by_cases e:j=k
  ·obtain ⟨x,b⟩:=Option.isSome_iff_exists.mp a;rw [if_pos e,e,b,CB,if_pos rfl]
  ·rw [if_neg e]
   cases eT kvs j with
   | none=>rfl
   | some x=>rw [CB,if_neg e]
 ·rw [if_neg a];refine N0 k j y kvs ?_;rw [ue] at a
  cases q:eT kvs k with
  | none=>rfl
  | some x=>rw [q] at a;exact (a U).elim
theorem wq (kvs:List (κ×V)) (k:κ) (v:V):(dN kvs k v).length<=kvs.length+1:=by
 unfold dN;split
 ·rw [ak];exact iK
 ·rw [dw,gw,Ka];omega
theorem ie.dv (r:ie o u):o.isSome=u.isSome:=by
 cases o with
 | none=>cases u with
  | none=>rfl
  | some _=>exact (show False from r).elim
 | some _=>cases u with
  | none=>exact (show False from r).elim
  | some _=>rfl
theorem KV.val {kvs:List (κ×V)} {vs:List (κ×Value)} (r:KV kvs vs) (k:κ):ie (eT kvs k) (valueAt vs k):=by
 unfold KV at r
 induction r with
 | nil=>exact True.intro
 | @cons p q i c h t g=>
  obtain ⟨d,f⟩:=h
  by_cases e:p.1=k
  ·have a:q.1=k:=d.symm.trans e;have b:valueAt (q::c) k=some q.2:=by simp [valueAt,List.find?_cons,a]
   rw [nK e,b];exact f
  ·have a:¬q.1=k:=λz=>e (d.trans z);have b:valueAt (q::c) k=valueAt c k:=by simp [valueAt,List.find?_cons,a]
   rw [nJ e,b];exact g
theorem KV.any (r:KV kvs vs) (k:κ):(kvs.any λa=>decide (a.1=k))=vs.any λa=>decide (a.1=k):=by
 unfold KV at r
 induction r with
 | nil=>rfl
 | cons h t b=>rw [wW,wW,b,h.1]
theorem KV.uK (r:KV kvs vs) (k:κ) (f:bz y u):
 KV (kvs.map λa=>if a.1=k then (a.1,y) else a) (vs.map λa=>if a.1=k then (a.1,u) else a):=by
 unfold KV at r ⊢
 induction r with
 | nil=>exact .nil
 | @cons p q g i h t d=>
  rw [eG,eG];refine .cons ?_ d;obtain ⟨b,c⟩:=h
  by_cases e:p.1=k
  ·rw [if_pos e,if_pos (b.symm.trans e)];exact ⟨b,f⟩
  ·rw [if_neg e,if_neg (λz=>e (b.trans z))];exact ⟨b,c⟩
theorem KV.put (r:KV kvs vs) (k:κ) (a:bz y u):KV (dN kvs k y) (stored vs k u):=by
 unfold dN stored;rw [r.any k]
 by_cases e:(vs.any λb=>decide (b.1=k))=true
 ·rw [if_pos e,if_pos e];exact r.uK k a
 ·rw [if_neg e,if_neg e];exact Cz r ⟨U,a⟩
theorem KV.length (r:KV kvs vs):kvs.length=vs.length:=kd r
end
theorem vG (r:bz (kV k) u):(kH P w).is k u=true:=by
 cases k with
 | inl i=>obtain ⟨t,e⟩:=(show ∃t,u=Value.int i t from r);subst e;exact VU P w i t
 | inr x=>obtain ⟨t,e⟩:=(show ∃t,u=Value.str x t from r);subst e;exact VW P w x t
theorem MY:∀{a:List Key} {us:List Value},aX (a.map kV) us->ItemsAre (kH P w) a us
 | [],_,r=>by rw [rH] at r;cases r;exact .nil
 | k::a,_,r=>by
  rw [eG] at r
  cases r with
  | cons h t=>exact .cons (vG h) (MY t)
abbrev KT (H:Hp):List (List Key×V)->List (List Key×Addr×Value)->Prop:=Paired λp q=>p.1=q.1/\H q.2.1=some (.tup (p.1.map kV))/\bz p.2 q.2.2
theorem KT.val {H:Hp} {kvs:List (List Key×V)} {xs:List (List Key×Addr×Value)} (r:KT H kvs xs) (k:List Key):ie (eT kvs k) ((atKey xs k).map (·.2)):=by
 induction r with
 | nil=>exact True.intro
 | @cons p q i c h t g=>
  obtain ⟨d,_,f⟩:=h
  by_cases e:p.1=k
  ·have a:q.1=k:=d.symm.trans e;have b:atKey (q::c) k=some q.2:=by simp [atKey,List.find?_cons,a]
   rw [nK e,b];exact f
  ·have a:¬q.1=k:=λz=>e (d.trans z);have b:atKey (q::c) k=atKey c k:=by simp [atKey,List.find?_cons,a]
   rw [nJ e,b];exact g
theorem KT.uK (r:KT H kvs xs) (k:List Key) (g:bz y u):
 KT H (kvs.map λb=>if b.1=k then (b.1,y) else b) (xs.map (putAt k u)):=by
 induction r with
 | nil=>exact .nil
 | @cons p q i j h t f=>
  rw [eG,eG];refine .cons ?_ f;obtain ⟨a,c,d⟩:=h;unfold putAt
  by_cases e:p.1=k
  ·rw [if_pos e,if_pos (a.symm.trans e)];exact ⟨a,c,g⟩
  ·rw [if_neg e,if_neg (λz=>e (a.trans z))];exact ⟨a,c,d⟩
theorem KT.put (r:KT H kvs xs) (k:List Key) (c:H b=some (.tup (k.map kV))) (a:bz y u):
 KT H (dN kvs k y) (storedH xs k b u):=by
 have e:(kvs.any λd=>decide (d.1=k))=(atKey xs k).isSome:=by rw [ue,(r.val k).dv,JY]
 unfold dN storedH;rw [e]
 by_cases q:(atKey xs k).isSome=true
 ·rw [if_pos q,if_pos q];exact r.uK k a
 ·rw [if_neg q,if_neg q];exact Cz r ⟨U,c,a⟩
theorem KT.keeps (r:KT H kvs xs) (a:∀b ys,H b=some (.tup ys)->H' b=some (.tup ys)):KT H' kvs xs:=
 Paired.uS r λ_ _ z=>⟨z.1,a _ _ z.2.1,z.2.2⟩
section
theorem Pw (ok:dJ P w H h) (e:Rd H a u):cZ P w H h a u:=e.ok ok
theorem xu (ok:dJ P w H h) (e:Rd H a (.dK kvs)):kvs.length<=sizeLine/\(a==sysModules)=false/\∃vs,KV kvs vs/\h.DictOf (kH P w) a vs:=
 show cZ P w H h a (.dK kvs) from Pw ok e
theorem Po (ok:dJ P w H h) (e:H a=some (.dK kvs)):kvs.length<=sizeLine/\(a==sysModules)=false/\∃vs,KV kvs vs/\h.DictOf (kH P w) a vs:=xu ok (.inl e)
theorem xE (ok:dJ P w H h) (e:H a=some (.tup (ks.map kV))):(tupleKind (kH P w)).is h ks a:=by obtain ⟨_,f,r,o,b,c,n,d⟩:=(show cZ P w H h a (.tup (ks.map kV)) from ok a _ e);exact ⟨o,f.toArray,n,b,c,d,by simpa using MY r⟩
theorem xw (ok:dJ P w H h) (e:Rd H a (.dT kvs)):kvs.length<=sizeLine/\(a==sysModules)=false/\
 ∃xs,KT H kvs xs/\h.DictOfH (tupleKind (kH P w)) a xs:=by
 obtain ⟨z,y,xs,r,o,g,f,i,j,k,n,s⟩:=(show cZ P w H h a (.dT kvs) from Pw ok e);refine ⟨z,y,xs,r,o,g,f,i,j,k,n,λx b=>?_,s⟩;have d:∀{l:List (List Key×V)} {m:List (List Key×Addr×Value)},KT H l m->∀x∈m,(tupleKind (kH P w)).is h x.1 x.2.1:=by
  intro l m q
  induction q with
  | nil=>intro x b;exact nomatch b
  | @cons p q v A c t u=>
   intro x b;rcases eR.mp b with e | b
   ·subst e;exact xE ok (by rw [<-c.1];exact c.2.1)
   ·exact u x b
 exact d r x b
theorem XM (ok:dJ P w H h) (e:H a=some (.dT kvs)):kvs.length<=sizeLine/\(a==sysModules)=false/\
 ∃xs,KT H kvs xs/\h.DictOfH (tupleKind (kH P w)) a xs:=xw ok (.inl e)
end
def eS (H:Hp) (a:Addr) (y:V) (r:Option V):Prop:=
 (∃c k,Rd H a (.dK c)/\y=kV k/\r=eT c k)\/∃c k b,Rd H a (.dT c)/\y=.ref b/\H b=some (.tup (k.map kV))/\r=eT c k
def oU (H:Hp) (a:Addr) (y v:V) (d:Hp):Prop:=
 (∃c k,H a=some (.dK c)/\y=kV k/\c.length<sizeLine/\d=upd H a (.dK (dN c k v)))\/
 ∃c k b,H a=some (.dT c)/\y=.ref b/\H b=some (.tup (k.map kV))/\c.length<sizeLine/\d=upd H a (.dT (dN c k v))
theorem eS.k {H:Hp} {a:Addr} {kvs:List (Key×V)} {k:Key} (e:H a=some (.dK kvs)):eS H a (kV k) (eT kvs k):=.inl ⟨kvs,k,.inl e,U,U⟩
theorem eS.t {H:Hp} {a b:Addr} {kvs:List (List Key×V)} {k:List Key} (e:H a=some (.dT kvs)) (c:H b=some (.tup (k.map kV))):eS H a (.ref b) (eT kvs k):=.inr ⟨kvs,k,b,.inl e,U,c,U⟩
theorem oU.k {H:Hp} {a:Addr} {kvs:List (Key×V)} {k:Key} {v:V} (e:H a=some (.dK kvs)) (b:kvs.length<sizeLine):oU H a (kV k) v (upd H a (.dK (dN kvs k v))):=.inl ⟨kvs,k,e,U,b,U⟩
theorem oU.t {H:Hp} {a b:Addr} {kvs:List (List Key×V)} {k:List Key} {v:V} (e:H a=some (.dT kvs)) (c:H b=some (.tup (k.map kV))) (d:kvs.length<sizeLine):
 oU H a (.ref b) v (upd H a (.dT (dN kvs k v))):=.inr ⟨kvs,k,b,e,U,c,d,U⟩
section
theorem Inv.big (I:Inv X pins σ H s):sysModules<s.heap.objs.size:=by have h:mainGlobals<s.heap.objs.size:=(I.mod.glob.keeps I.bk).lt;exact Nat.lt_trans (by decide) h
theorem UM (B:A.units+1<cLine) (I:Inv X pins σ H s) (g:eS H a y (some v)) (n:bz y u) (h:∀c s',Inv X pins σ H s'->bz v c->Q c s'):
 wpAny (model X.prog X.w) A (getItem (.ref a) u) Q E s:=by
 rcases g with ⟨C,k,e,f,l⟩ | ⟨C,k,b,e,f,q,l⟩
 ·subst f;obtain ⟨z,r,D,j,d⟩:=xu I.a4 e;obtain ⟨c,i,m⟩:=ie.some_of (v:=v) (o:=valueAt D k) (by rw [l];exact j.val k);exact wpAny_getItem_of (vG n) d.mapOf i (h c _ (I.tok _) m)
 ·subst f;cases (show u=Value.ref b from n);obtain ⟨z,r,F,j,d⟩:=xw I.a4 e;obtain ⟨c,i,m⟩:=ie.some_of (v:=v) (o:=(atKey F k).map (·.2)) (by rw [l];exact j.val k);obtain ⟨p,t,x⟩:=Option.map_eq_some_iff.mp i;refine wpAny_getItem_heap (CJ B) (xE I.a4 q) d t ?_;rw [x];exact h c _ (I.tok _) m
theorem WG (n:A.units+1<cLine) (I:Inv X pins σ H s) (g:eS H a y o) (j:bz y u) (h:∀s',Inv X pins σ H s'->Q (.bool o.isSome) s'):
 wpAny (model X.prog X.w) A (compareOp .In u (.ref a)) Q E s:=by
 rcases g with ⟨p,k,e,d,l⟩ | ⟨p,k,b,e,d,m,l⟩
 ·subst d;obtain ⟨z,f,r,i,c⟩:=xu I.a4 e;refine wpAny_in_of (vG j) f c.mapOf ?_;rw [<-(i.val k).dv,<-l];exact h _ (I.tok _)
 ·subst d;cases (show u=Value.ref b from j);obtain ⟨z,f,t,i,c⟩:=xw I.a4 e;refine wpAny_in_heap (CJ n) (xE I.a4 m) f c ?_;have q:=(i.val k).dv;rw [JY] at q;rw [<-q,<-l];exact h _ (I.tok _)
theorem Zo (n:A.units+1<cLine) (I:Inv X pins σ H s) (g:eS H a y o) (j:bz y u) (h:∀s',Inv X pins σ H s'->Q (.bool (!o.isSome)) s'):
 wpAny (model X.prog X.w) A (compareOp .NotIn u (.ref a)) Q E s:=by
 rcases g with ⟨p,k,e,d,l⟩ | ⟨p,k,b,e,d,m,l⟩
 ·subst d;obtain ⟨z,f,r,i,c⟩:=xu I.a4 e;refine wpAny_notIn_of (vG j) f c.mapOf ?_;rw [<-(i.val k).dv,<-l];exact h _ (I.tok _)
 ·subst d;cases (show u=Value.ref b from j);obtain ⟨z,f,t,i,c⟩:=xw I.a4 e;refine wpAny_notIn_heap (CJ n) (xE I.a4 m) f c ?_;have q:=(i.val k).dv;rw [JY] at q;rw [<-q,<-l];exact h _ (I.tok _)
theorem DG (I:Inv X pins σ H s) (g:xl (H a)) (f:Heap.SameBut a s.heap h') (d:∃q,h'.get? a=some q) (h:cZ X.prog X.w (upd H a ob) h' a ob):
 Inv X pins σ (upd H a ob) { s with heap:=h',toks:=t' }:=
 I.write (x:=a) (e:=a) g (.inl U) (λb q c z=>(f.2 b c).trans z) d h
theorem KN (z:kvs.length<=sizeLine) (c:(a==sysModules)=false) (d:KV kvs vs) (b:h'.DictOf (kH P w) a vs):
 cZ P w H' h' a (.dK kvs):=⟨z,c,vs,d,b⟩
theorem UN (V:A.units+1<cLine) (I:Inv X pins σ H s) (g:oU H a y v H') (J:bz y u) (G:bz v r) (h:∀s',Inv X pins σ H' s'->Q () s'):
 wpAny (model X.prog X.w) A (setItem (.ref a) u r) Q E s:=by
 rcases g with ⟨d,k,e,o,l,n⟩ | ⟨d,k,b,e,o,C,l,n⟩
 ·subst o n;obtain ⟨z,p,W,f,m⟩:=Po I.a4 e;have B:W.length<=sizeLine:=by rw [<-f.length];exact z
  have t:(dN d k v).length<=sizeLine:=by have:=wq d k v;exact ET l this
  refine wpAny_setItem_pairs (hsz:=B) (vG J) m λF i x=>h _ ?_;have T:∃q,F.get? a=some q:=let ⟨q,_,_,j,_⟩:=i;⟨q,j⟩;exact DG I (by rw [e];exact True.intro) x T (KN t p (f.put k G) i)
 ·subst o n;cases (show u=Value.ref b from J);obtain ⟨z,p,Y,f,m⟩:=XM I.a4 e;have B:Y.length<=sizeLine:=by rw [<-kd f];exact z
  have t:(dN d k v).length<=sizeLine:=by have:=wq d k v;exact ET l this
  refine wpAny_setItem_heap (hsz:=B) (CJ V) (xE I.a4 C) m λF i x=>h _ ?_;obtain ⟨q,M,L,j,N,O,R,_,S⟩:=i;refine DG I (by rw [e];exact True.intro) x ⟨q,j⟩ ⟨t,p,_,(f.put k C G).keeps λc Z D=>?_,q,M,L,j,N,O,R,S⟩;rw [ag (cI D e nofun)];exact D
end
section
end
def OT (i:Expr):Prop:=∀b a,subscripted i false b a=operate [b,a] (getItem b a)
theorem Z1 {prog:Program} {A:Around} {E:Value->Shared->Prop} {s:Shared} {env:Env} {d a:Expr} {pos:Pos} {T id:String} {Q:Value->Shared->Prop}
 (j:typeLookup (.type T) "__getitem__"=pure (some (.builtin id))) (k:OT a)
 (h:wpAny (model prog w) A (eval d env) (λo f=>wpAny (model prog w) A (eval a env) (λi mi=>mi.TypeIs o T/\wpAny (model prog w) A (getItem o i) Q E mi) E f) E s):
 wpAny (model prog w) A (eval (.Subscript d a pos) env) Q E s:=by
 refine Subscript_ (gY h (λo f l=>gY l (λi mi c=>?_) λ_ _ x=>x) λ_ _ x=>x);obtain ⟨e,c⟩:=c;unfold subscriptTail;refine ae ?_;rw [getitemInPython_of_ne e.not_modules];refine ae (wpAny_specialOf e j ?_);have b:wpAny (model prog w) A (subscripted a false o i) (λr g=>wpAny (model prog w) A (letTemporaryGo d o r>>=λ_=>pure r) Q E g) E mi:=by rw [k o i];exact wpAny_operating (gY c (λr g m=>ae (wpAny_letTemporaryGo (aI m))) λ_ _ x=>x)
 first
  | exact aI (ae b)
  | exact ae (aI (ae b))
  | exact ae b
theorem V' (I:Inv X pins σ H s) (g:eS H a y o):s.TypeIs (.ref a) "dict":=by
 rcases g with ⟨d,k,e,_,_⟩ | ⟨d,k,b,e,_,_,_⟩
 ·obtain ⟨_,_,f,_,c⟩:=xu I.a4 e;exact c.typeIs
 ·obtain ⟨_,_,h,_,c⟩:=xw I.a4 e;exact c.typeIs
def X_ (e f:TE):TE:=λc H Q=>e c H λx d=>f c d λy b=>∃a v,x=.ref a/\eS b a y (some v)/\Q v b
def Xz (f e:TE):TE:=λc H Q=>f c H λy d=>e c d λx b=>∃a o,x=.ref a/\eS b a y o/\Q (.bl o.isSome) b
def Z4 (f e:TE):TE:=λc H Q=>f c H λy d=>e c d λx b=>∃a o,x=.ref a/\eS b a y o/\Q (.bl (!o.isSome)) b
def Yn (g i h:TE):TS:=λD b H=>h b H λv d=>g b d λx e=>i b e λy f=>∃a c,x=.ref a/\oU f a y v c/\D.nx b c
section
theorem lA (r:X.A.units+1<cLine) (p:PE X o J) (n:PE X i ty) (q:OT i):PE X (.Subscript o i pos) (X_ J ty):=by intro d s e H Q I h;refine Z1 PySem.F.slot_dict_getitem.lookup q (ay (p d s e H _ I h) λu D b=>L2.eF b λx f k B t=>ay (n d D e f _ k t) λE F b=>?_);obtain ⟨y,j,c,C,a,v,m,g,z⟩:=b;subst m;obtain rfl:u=Value.ref a:=B;exact ⟨V' c g,UM r c g C λL G l A=>⟨v,j,l,A,z⟩⟩
theorem Ds (q:X.A.units+1<cLine) (n:PE X i ty) (p:PE X o C):PC X .In i o (Xz ty C):=by intro c s d H Q I h;refine ay (n c s d H _ I h) λD B b=>L2.eF b λy e j A t=>ay (p c B d e _ j t) λu E b=>?_;obtain ⟨x,f,k,z,a,r,m,g,v⟩:=b;subst m;obtain rfl:u=Value.ref a:=z;exact WG q k g A λF l=>⟨.bl r.isSome,f,l,U,v⟩
theorem B0 (q:X.A.units+1<cLine) (n:PE X i ty) (p:PE X o C):PC X .NotIn i o (Z4 ty C):=by intro c s d H Q I h;refine ay (n c s d H _ I h) λD B b=>L2.eF b λy e j A t=>ay (p c B d e _ j t) λu E b=>?_;obtain ⟨x,f,k,z,a,r,m,g,v⟩:=b;subst m;obtain rfl:u=Value.ref a:=z;exact Zo q k g A λF l=>⟨.bl (!r.isSome),f,l,U,v⟩
theorem AS (A:X.A.units+1<cLine) (t:PE X o td) (q:PE X i ty) (B:PE X value tv) (z:swapsWith value (some (.Subscript o i pos')) pos.line X.env=pure false):
 PS X (.Assign [.Subscript o i pos'] value pos) (Yn td ty tv):=by
 intro d s c H D I h;refine wpAny_Assign_Subscript (ay (B d s c H _ I h) λr M b=>L2.eF b λv e k G C=>ay (t d M c e _ k C) λu N b=>L2.eF b λx f l J E=>ay (q d N c f _ l E) λQ R b=>?_) z;obtain ⟨y,O,m,L,a,j,p,g,F⟩:=b;subst p;obtain rfl:u=Value.ref a:=J;exact UN A m g L G λS n=>⟨c,j,n,F⟩
end
theorem LN (h:Heap) (a:sysModules<h.objs.size):cZ P w H (h.push { cls:=.type "dict",data:=.dict #[] }) h.objs.size (.dK []):=
 ⟨dV _,beq_eq_false_iff_ne.mpr (a6 (fy a)),[],.nil,Heap.DictOf.new h⟩
theorem Sw (h:Heap) (a:sysModules<h.objs.size):cZ P w H (h.push { cls:=.type "dict",data:=.dict #[] }) h.objs.size (.dT []):=
 ⟨dV _,beq_eq_false_iff_ne.mpr (a6 (fy a)),[],.nil,_,#[],0,jh _ U,⟨U,U,U⟩,U,U,As⟩
def YC:TE:=λ_ H Q=>∀p,H p=none->Q (.ref p) (upd H p (.dK []))
def YD:TE:=λ_ H Q=>∀p,H p=none->Q (.ref p) (upd H p (.dT []))
section
theorem M0:PE X (.Dict [] [] pos) YC:=λb s c H Q I h=>
 wpAny_Dict_empty ⟨.ref s.heap.objs.size,_,I.laid (a:=s.heap.objs.size) (o:=.dK []) (t':=s.toks) (λ_ _ q=>cL _ q) (ar _) (LN s.heap I.big),U,h _ (I.a4.fresh (ar _))⟩
theorem SS:PE X (.Dict [] [] pos) YD:=λb s c H Q I h=>
 wpAny_Dict_empty ⟨.ref s.heap.objs.size,_,I.laid (a:=s.heap.objs.size) (o:=.dT []) (t':=s.toks) (λ_ _ q=>cL _ q) (ar _) (Sw s.heap I.big),U,h _ (I.a4.fresh (ar _))⟩
end
def DC:List (TE×TE)->St->Hp->(List (V×V)->Hp->Prop)->Prop
 | [],_,H,Q=>Q [] H
 | (f,g)::r,a,H,Q=>f a H λx b=>g a b λy c=>DC r a c λe d=>Q ((x,y)::e) d
abbrev VV:List (V×V)->List (Value×Value)->Prop:=Paired λp q=>bz p.1 q.1/\bz p.2 q.2
def Dd (X:Cx) (pos:Pos) (e:List (Option Expr)) (h:List Expr) (g:List (TE×TE)):Prop:=
 ∀(c:List (Addr×Obj)) (s:Shared) (a:St) (H:Hp) (Q:List (V×V)->Hp->Prop),Inv X c a H s->DC g a H Q->
  wpAny (model X.prog X.w) X.A (evalPairs (pairTrees e h X.env pos)) (λi f=>∃d b,Inv X c a b f/\VV d i/\Q d b) X.xe s
theorem ZL:Dd X pos [] [] []:=λa s b H Q I h=>pairTrees_nil_walk ⟨[],H,I,.nil,h⟩
theorem SW (l:PE X k tk) (n:PE X v tv) (m:Dd X pos ks vs J):
 Dd X pos (some k::ks) (v::vs) ((tk,tv)::J):=λb s c H Q I h=>
 pairTrees_cons_walk (ay (l b s c H _ I h) λu B a=>L2.eF a λx d g z p=>ay (n b B c d _ g p) λE C a=>L2.eF a λy e i A q=>
  ay (m b C c e _ i q) λF D a=>L2.eF a λo f j t r=>⟨(x,y)::o,f,j,.cons ⟨z,A⟩ t,r⟩)
def se (kvs c:List (Key×V)):List (Key×V):=c.foldl (λb a=>dN b a.1 a.2) kvs
theorem KV.merge:∀{a:List (Key×V)} {b:List (Key×Value)} {kvs:List (Key×V)} {vs:List (Key×Value)},KV a b->KV kvs vs->KV (se kvs a) (merged vs b):=by
 intro a b kvs vs r;unfold KV at r
 induction r generalizing kvs vs with
 | nil=>intro q;exact q
 | @cons p q f g h t c=>
  intro d;have e:KV (dN kvs p.1 p.2) (stored vs q.1 q.2):=by have:=d.put p.1 h.2;rw [<-h.1];exact this
  exact c e
theorem OO:∀(a kvs:List (Key×V)),(se kvs a).length<=kvs.length+a.length
 | [],kvs=>by show kvs.length<=kvs.length+0;exact iK
 | p::r,kvs=>by have b:=OO r (dN kvs p.1 p.2);have c:=wq kvs p.1 p.2;show (se (dN kvs p.1 p.2) r).length<=_;rw [gw];exact EI b c
theorem OA {P:Program} {w:World}:∀{kvs:List (Key×V)} {f:List (Value×Value)},VV (kvs.map λe=>(kV e.1,e.2)) f->∃d,Carries (kH P w) f d/\KV kvs d
 | [],_,r=>by rw [rH] at r;cases r;exact ⟨[],True.intro,.nil⟩
 | p::kvs,_,r=>by
  rw [eG] at r
  cases r with
  | @cons a b i k h t=>
   obtain ⟨d,c,q⟩:=OA (P:=P) (w:=w) t;obtain ⟨j,g⟩:=b;exact ⟨(p.1,g)::d,⟨vG h.1,U,c⟩,.cons ⟨U,h.2⟩ q⟩
def Ya (e:List (TE×TE)):TE:=λf H Q=>∀p,H p=none->DC e f (upd H p (.dK [])) λd b=>b p=some (.dK [])/\∃a:List (Key×V),d=a.map (λc=>(kV c.1,c.2))/\a.length<=15/\Q (.ref p) (upd b p (.dK (se [] a)))
theorem Zl (h:Dd X pos keys values J) (n:keys.all (·.isSome)=true) (t:keys.length=values.length) (k:keys≠[])
 (m:keys.length<=15):PE X (.Dict keys values pos) (Ya J):=by
 intro A s L H Q I q;have u:=I.a4.fresh (ar s.heap.objs.size);have g:=I.laid (a:=s.heap.objs.size) (o:=.dK []) (h':=s.heap.push { cls:=.type "dict",data:=.dict #[] }) (t':=s.toks) (λ_ _ q=>cL _ q) (ar _) (LN s.heap I.big);refine wpAny_Dict_walk (knd:=kH X.prog X.w) n t k m (ay (h A _ L _ _ g (q _ u)) λS O G=>?_);obtain ⟨N,M,b,D,e,f,j,lk,B⟩:=G;subst j;obtain ⟨F,c,E⟩:=OA (P:=X.prog) (w:=X.w) D;obtain ⟨z,p,R,C,i⟩:=Po b.a4 e;cases C;refine ⟨F,c,i,λh' d x=>⟨.ref s.heap.objs.size,_,?_,U,B⟩⟩;have y:(se [] f).length<=sizeLine:=by have l:=OO f [];rw [Ka] at l;rw [zY];omega
 have r:∃q,h'.get? s.heap.objs.size=some q:=let ⟨q,_,_,v,_⟩:=d;⟨q,v⟩;exact DG b (by rw [e];exact True.intro) x r (KN y p (E.merge .nil) d)
structure M1 (X:Cx) (o:Expr) (m:Str) (apos:Pos) (e:Expr) (dU:Pos):Prop where
 base:attributeBase o m X.env (eval o X.env)=eval o X.env
 m_:((backTo dU (starEach [e] X.env)).all (λx=> !x.1) && (backToKw dU (keywordEach [] X.env)).all (λx=>x.1.isSome)
  && decide (([e]:List Expr).length+([]:List Keyword).length+(if ([]:List Keyword).isEmpty then 0 else 1)<30))=true
 line:(apos.endLine==dU.line)=true
 trees:backTo dU (starEach [e] X.env)=[(false,eval e X.env)]
section
end
section
end
section
end
section
end
end L2
namespace MT
end MT
namespace MU
structure au where
 tie:Bool
 a:Nat
 b:Nat
 v:Int
inductive Wd where
 | told | sum | bE | cz | sure | back | aG
structure Row where
 fm:au
 word:Wd
 used:List Nat
abbrev Key:=Bool×Nat×Nat
def au.key (w:au):Key:=(w.tie,w.a,w.b)
structure St where
 rows:List Row
 best:Key->Option Nat
 bar:Option Nat
abbrev dO:=Nat->Option (Nat×Int×Int)
def aj (st:St) (i:Nat):Option au:=(st.rows[i]?).map (·.fm)
def val (st:St) (k:Key):Option Int:=(st.best k).bind λi=>(aj st i).map (·.v)
def eY (tie:Bool) (v u:Int):Prop:=if tie=true then v<u else u<v
theorem Wb (a:eY b x y) (c:eY b y z):eY b x z:=by unfold eY at*;cases b<;>simp_all<;>lia
theorem OP (a:¬eY b x y) (c:¬eY b y z):¬eY b x z:=by unfold eY at*;cases b<;>simp_all<;>lia
theorem Vy (h:eY b x y):¬eY b y x:=by unfold eY at*;cases b<;>simp_all<;>exact gk h
def gm (st:St) (w:au):Prop:=if w.tie=true/\w.a=w.b then w.v<0 else ∀u,val st w.key=some u->eY w.tie w.v u
def h9 (w:au):Prop:=w.tie=true/\w.a=w.b/\w.v<0
instance (w:au):Decidable (h9 w):=by unfold h9;infer_instance
open Classical in
instance (st:St) (w:au):Decidable (gm st w):=propDecidable _
def take (st:St) (w:au) (word:Wd) (used:List Nat):St:=
 if gm st w then { rows:=st.rows++[⟨w,word,used⟩],best:=λk=>if k=w.key then some st.rows.length else st.best k,bar:=if st.bar=none/\h9 w then some st.rows.length else st.bar } else st
def aP (p q:au):Option au:=if p.tie=true/\q.tie=true/\p.b=q.a then some ⟨true,p.a,q.b,p.v+q.v⟩ else none
def dQ (F:dO) (p:au):Option au:=if p.tie=true/\p.a≠p.b then (F p.b).map λf=>⟨false,p.a,p.b,f.2.2-p.v⟩ else none
def eM (F:dO) (p:au):Option au:=if p.tie=true/\p.a≠p.b/\p.v<0 then (F p.a).map λf=>⟨true,f.1,p.b,f.2.1+p.v⟩ else none
def dR (F:dO) (p:au):Option au:=if p.tie=false then (F p.b).map λf=>⟨true,p.a,f.1,-min p.v f.2.1⟩ else none
def bJ (F:dO) (p q:au):Option au:=if p.tie=false/\q.tie=true/\q.b=p.a/\q.a≠p.b then (F p.b).map λf=>⟨false,q.a,p.b,min p.v f.2.2-q.v⟩ else none
def di (F:dO) (p:au):Option au:=if p.tie=false/\p.a≠p.b/\0<p.v then (F p.a).bind λo=>(F p.b).map λf=>⟨false,o.1,p.b,min p.v f.2.2-o.2.1⟩ else none
def put (st:St) (o:Option au) (word:Wd) (used:List Nat):St:=match o with
 | some w=>take st w word used
 | none=>st
def bh (f:au->Option au) (word:Wd) (i:Nat) (st:St):St:=put st ((aj st i).bind f) word [i]
def av (f:au->au->Option au) (word:Wd) (i j:Nat) (st:St):St:=put st ((aj st i).bind λp=>(aj st j).bind λq=>f p q) word [i,j]
def dz (n:Nat) (st:St) (tie:Bool) (a:Nat):List Nat:=(List.range n).filterMap λb=>st.best (tie,a,b)
def ef (n:Nat) (st:St) (b:Nat):List Nat:=(List.range n).filterMap λa=>st.best (true,a,b)
def hX (n:Nat) (F:dO) (at_ a b:Nat) (g:St):St:=
 let h:=bh (dQ F) .bE at_ g
 let d:=bh (eM F) .cz at_ h
 let e:=(dz n d true b).foldl (λc j=>av aP .sum at_ j c) d
 let f:=(ef n e a).foldl (λc j=>av aP .sum j at_ c) e
 (dz n f false b).foldl (λc j=>av (bJ F) .back j at_ c) f
def gD (n:Nat) (F:dO) (at_ a:Nat) (d:St):St:=
 let e:=bh (dR F) .sure at_ d
 let b:=bh (di F) .aG at_ e
 (ef n b a).foldl (λc j=>av (bJ F) .back at_ j c) b
def look (n:Nat) (F:dO) (at_:Nat) (st:St):St:=match aj st at_ with
 | some w=>if st.best w.key=some at_ then (if w.tie=true then hX n F at_ w.a w.b st else gD n F at_ w.a st) else st
 | none=>st
def run (n:Nat) (F:dO) (st:St):Nat->St
 | 0=>st
 | t+1=>look n F t (run n F st t)
structure Ext (s s':St):Prop where
 rows:∃more,s'.rows=s.rows++more
 best:∀k,s'.best k=s.best k\/∃j,s'.best k=some j/\s.rows.length<=j
 bar:s.bar≠none->s'.bar≠none
structure bP (n:Nat) (s:St):Prop where
 at_:∀k i,s.best k=some i->∃w,aj s i=some w/\w.key=k
 top:∀i w,aj s i=some w->∃j,i<=j/\s.best w.key=some j
 lt:∀i w,aj s i=some w->w.a<n/\w.b<n
 ne:s.bar=none->∀i w,aj s i=some w->w.a≠w.b
 drop:s.bar=none->∀i j w w',aj s i=some w->aj s j=some w'->w.key=w'.key->i<j->eY w.tie w'.v w.v
theorem ma {w:au} (h:aj s i=some w):i<s.rows.length:=by
 unfold aj at h
 cases q:s.rows[i]? with
 | none=>rw [q] at h;cases h
 | some r=>exact (cO.mp q).1
theorem cD {w:au} (e:Ext s s') (h:aj s i=some w):aj s' i=some w:=by obtain ⟨c,b⟩:=e.rows;have a:=ma h;unfold aj at h ⊢;rw [b,ic a];exact h
theorem Ext.refl (s:St):Ext s s:=⟨⟨[],by simp⟩,λ_=>.inl U,λh=>h⟩
theorem Ext.len (e:Ext s s'):s.rows.length<=s'.rows.length:=by obtain ⟨b,a⟩:=e.rows;rw [a,dw];exact iK
theorem Ext.trans (x:Ext a b) (y:Ext b c):Ext a c:=by
 refine ⟨?_,λk=>?_,λh=>y.bar (x.bar h)⟩
 ·obtain ⟨i,f⟩:=x.rows;obtain ⟨l,g⟩:=y.rows;exact ⟨i++l,by rw [g,f,pR]⟩
 ·rcases y.best k with h | ⟨j,h,e⟩
  ·rcases x.best k with d | ⟨j,d,e⟩
   ·exact .inl (h.trans d)
   ·exact .inr ⟨j,h.trans d,e⟩
  ·exact .inr ⟨j,h,cQ x.len e⟩
theorem Bk (st:St) (w:au) (word:Wd) (used:List Nat):Ext st (take st w word used):=by
 unfold take;split
 ·refine ⟨⟨_,U⟩,λk=>?_,λh=>?_⟩
  ·show (if k=w.key then some st.rows.length else st.best k)=_\/∃j,(if k=w.key then some st.rows.length else st.best k)=some j/\_
   by_cases e:k=w.key
   ·rw [if_pos e];exact .inr ⟨_,U,ar _⟩
   ·rw [if_neg e];exact .inl U
  ·show (if st.bar=none/\h9 w then some st.rows.length else st.bar)≠none;rw [if_neg λz=>h z.1];exact h
 ·exact Ext.refl st
theorem v_ {w:au} (h:aj ⟨rows++[r],best,bar⟩ i=some w):(i<rows.length/\(rows[i]?).map (·.fm)=some w)\/(i=rows.length/\w=r.fm):=by
 unfold aj at h
 by_cases c:i<rows.length
 ·left;refine ⟨c,?_⟩;have h:((rows++[r])[i]?).map (·.fm)=some w:=h
  rwa [ic c] at h
 ·right;have h:((rows++[r])[i]?).map (·.fm)=some w:=h;rw [iD (by exact jt c)] at h
  cases q:i-rows.length with
  | zero=>rw [q] at h;exact ⟨by lia,by cases h;rfl⟩
  | succ z=>rw [q] at h;cases h
theorem Nw {w:au} (g:bP n st) (F:w.a<n) (s:w.b<n) (hw:w.tie=false->w.a≠w.b):bP n (take st w word used):=by
 unfold take;split
 next f=>
  have O:∀{i u},aj st i=some u->aj { rows:=st.rows++[⟨w,word,used⟩],best:=λk=>if k=w.key then some st.rows.length else st.best k,bar:=if st.bar=none/\h9 w then some st.rows.length else st.bar } i=some u:=λ{i u} h=>by have b:=ma h;unfold aj at h ⊢;rw [ic b];exact h
  have N:aj { rows:=st.rows++[⟨w,word,used⟩],best:=λk=>if k=w.key then some st.rows.length else st.best k,bar:=if st.bar=none/\h9 w then some st.rows.length else st.bar } st.rows.length=some w:=by unfold aj;rw [iD (ar _),Aa];rfl
  have A:(if st.bar=none/\h9 w then some st.rows.length else st.bar)=none->st.bar=none/\¬h9 w:=λh=>by
   by_cases c:st.bar=none/\h9 w
   ·rw [if_pos c] at h;cases h
   ·rw [if_neg c] at h;exact ⟨h,λz=>c ⟨h,z⟩⟩
  have D:¬h9 w->w.a≠w.b:=λs e=>by
   cases l:w.tie with
   | false=>exact hw l e
   | true=>
    unfold gm at f;rw [if_pos ⟨l,e⟩] at f;exact s ⟨l,e,f⟩
  refine ⟨λk i h=>?_,λi u h=>?_,λi u h=>?_,λr i u h=>?_,λr i j u B h E d G=>?_⟩
  ·have h:(if k=w.key then some st.rows.length else st.best k)=some i:=h
   by_cases c:k=w.key
   ·rw [if_pos c] at h;cases h;exact ⟨w,N,c.symm⟩
   ·rw [if_neg c] at h;obtain ⟨u,a,d⟩:=g.at_ k i h;exact ⟨u,O a,d⟩
  ·show ∃j,i<=j/\(if u.key=w.key then some st.rows.length else st.best u.key)=some j;rcases v_ h with ⟨b,a⟩ | ⟨b,rfl⟩
   ·by_cases c:u.key=w.key
    ·rw [if_pos c];exact ⟨_,aR b,U⟩
    ·rw [if_neg c];exact g.top i u a
   ·rw [if_pos rfl];exact ⟨_,tG b,U⟩
  ·rcases v_ h with ⟨_,a⟩ | ⟨_,rfl⟩
   ·exact g.lt i u a
   ·exact ⟨F,s⟩
  ·obtain ⟨m,p⟩:=A r;rcases v_ h with ⟨_,a⟩ | ⟨_,rfl⟩
   ·exact g.ne m i u a
   ·exact D p
  ·obtain ⟨m,p⟩:=A r;rcases v_ E with ⟨I,L⟩ | ⟨I,q⟩
   ·rcases v_ h with ⟨_,a⟩ | ⟨b,_⟩
    ·exact g.drop m i j u B a L d G
    ·lia
   ·have q:B=w:=q;rw [q] at d ⊢;rcases v_ h with ⟨b,a⟩ | ⟨b,_⟩
    ·
     have a:aj st i=some u:=a;obtain ⟨t,H,y⟩:=g.top i u a;obtain ⟨C,o,J⟩:=g.at_ _ _ y;have M:val st w.key=some C.v:=by unfold val;have d:u.key=w.key:=d;rw [<-d,y];show (aj st t).map (·.v)=_;rw [o];rfl
     unfold gm at f;rw [if_neg λz=>D p z.2] at f;have v:=f _ M;have l:u.tie=w.tie:=congrArg Prod.fst d;rw [l]
     by_cases c:i=t
     ·subst c;rw [a] at o;cases o;exact v
     ·have x:=g.drop m i t u C a o J.symm (BB H c);rw [l] at x;exact Wb v x
    ·lia
 next=>exact g
theorem qw (st:St) (o:Option au) (word:Wd) (used:List Nat):Ext st (put st o word used):=by
 cases o with
 | none=>exact Ext.refl st
 | some w=>exact Bk st w word used
def Imp (s s':St):Prop:=Ext s s'/\∀k u,k.2.1≠k.2.2->val s k=some u->∃a,val s' k=some a/\¬eY k.1 u a
theorem yu (b:Bool) (u:Int):¬eY b u u:=by unfold eY;split<;>exact Int.not_lt.mpr (jn u)
theorem Imp.refl (s:St):Imp s s:=⟨Ext.refl s,λk u _ h=>⟨u,h,yu _ _⟩⟩
theorem Imp.trans (x:Imp a b) (y:Imp b c):Imp a c:=by refine ⟨x.1.trans y.1,λk u d h=>?_⟩;obtain ⟨j,e,g⟩:=x.2 k u d h;obtain ⟨l,f,i⟩:=y.2 k j d e;exact ⟨l,f,OP g i⟩
theorem nO {w:au} (h:s.best k=some i) (hw:aj s i=some w):val s k=some w.v:=by unfold val;rw [h];show (aj s i).map (·.v)=_;rw [hw];rfl
theorem Bl {w:au} (h:gm st w):val (take st w word used) w.key=some w.v/\aj (take st w word used) st.rows.length=some w/\(take st w word used).rows.length=st.rows.length+1:=by
 have e:take st w word used={ rows:=st.rows++[⟨w,word,used⟩],best:=λk=>if k=w.key then some st.rows.length else st.best k,bar:=if st.bar=none/\h9 w then some st.rows.length else st.bar }:=by unfold take;rw [if_pos h]
 have a:aj (take st w word used) st.rows.length=some w:=by rw [e];unfold aj;rw [iD (ar _),Aa];rfl
 refine ⟨nO (i:=st.rows.length) (by rw [e];show (if w.key=w.key then some st.rows.length else st.best w.key)=_;rw [if_pos rfl]) a,a,?_⟩;rw [e];show (st.rows++[_]).length=_;rw [dw];rfl
theorem ud {w:au} (h:¬gm st w):take st w word used=st:=by unfold take;rw [if_neg h]
theorem VE {w:au} (b:k≠w.key) (h:val st k=some u):val (take st w word used) k=some u:=by
 by_cases c:gm st w
 ·have e:=Bk st w word used;unfold val at h ⊢;have a:(take st w word used).best k=st.best k:=by
   unfold take;rw [if_pos c];show (if k=w.key then some st.rows.length else st.best k)=_;rw [if_neg b]
  rw [a]
  cases q:st.best k with
  | none=>rw [q] at h;cases h
  | some i=>
   rw [q] at h;have h:(aj st i).map (·.v)=some u:=h;show (aj (take st w word used) i).map (·.v)=some u
   cases C:aj st i with
   | none=>rw [C] at h;cases h
   | some r=>rw [cD e C];rw [C] at h;exact h
 ·rw [ud c];exact h
theorem Mr (st:St) (w:au) (word:Wd) (used:List Nat):Imp st (take st w word used):=by
 refine ⟨Bk st w word used,λk u e h=>?_⟩
 by_cases c:k=w.key
 ·by_cases b:gm st w
  ·have a:=b;unfold gm at a;have:¬(w.tie=true/\w.a=w.b):=λz=>e (by rw [c];exact z.2);rw [if_neg this] at a;have d:=a u (by rw [<-c];exact h);refine ⟨w.v,by rw [c];exact (Bl b).1,λz=>?_⟩;rw [c] at z;exact Vy d z
  ·rw [ud b];exact ⟨u,h,yu _ _⟩
 ·exact ⟨u,VE c h,yu _ _⟩
theorem Fc {w:au} (h:w.a≠w.b):∃u,val (take st w word used) w.key=some u/\¬eY w.tie w.v u:=by
 by_cases c:gm st w
 ·exact ⟨w.v,(Bl c).1,yu _ _⟩
 ·rw [ud c];unfold gm at c;rw [if_neg λz=>h z.2] at c;have c:=Classical.not_forall.mp c;obtain ⟨u,a⟩:=c;have a:=Classical.not_imp.mp a;exact ⟨u,a.1,a.2⟩
theorem Vo {w:au} (h:h9 w):(take st w word used).bar≠none:=by
 have a:gm st w:=by unfold gm;rw [if_pos ⟨h.1,h.2.1⟩];exact h.2.2
 unfold take;rw [if_pos a];show (if st.bar=none/\h9 w then some st.rows.length else st.bar)≠none
 by_cases c:st.bar=none
 ·rw [if_pos ⟨c,h⟩];simp
 ·rw [if_neg λz=>c z.1];exact c
theorem L5 (st:St) (o:Option au) (word:Wd) (used:List Nat):Imp st (put st o word used):=by
 cases o with
 | none=>exact Imp.refl st
 | some w=>exact Mr st w word used
theorem hY (a:∀s j,Imp s (f s j)):∀(l:List Nat) (s:St),Imp s (l.foldl f s)
 | [],s=>Imp.refl s
 | j::l,s=>(a s j).trans (hY a l (f s j))
theorem iT (f:au->Option au) (word:Wd) (i:Nat) (s:St):Imp s (bh f word i s):=L5 ..
theorem fx (f:au->au->Option au) (word:Wd) (i j:Nat) (s:St):Imp s (av f word i j s):=L5 ..
theorem Wa (n:Nat) (F:dO) (at_ a b:Nat) (s:St):Imp s (hX n F at_ a b s):=
 ((((iT _ _ _ _).trans (iT _ _ _ _)).trans (hY (λ_ _=>fx ..) _ _)).trans (hY (λ_ _=>fx ..) _ _)).trans (hY (λ_ _=>fx ..) _ _)
theorem Wj (n:Nat) (F:dO) (at_ a:Nat) (s:St):Imp s (gD n F at_ a s):=
 ((iT _ _ _ _).trans (iT _ _ _ _)).trans (hY (λ_ _=>fx ..) _ _)
theorem sr (n:Nat) (F:dO) (at_:Nat) (s:St):Imp s (look n F at_ s):=by
 unfold look;split
 ·split
  ·split
   ·exact Wa ..
   ·exact Wj ..
  ·exact Imp.refl s
 ·exact Imp.refl s
structure iQ (n:Nat) (F:dO) (most:Int):Prop where
 lt:∀e f,F e=some f->f.1<n/\e<n
 own:∀e f,F e=some f->F f.1=none
 num:∀e f,F e=some f->1<=f.2.1/\f.2.1<=f.2.2/\f.2.2<=most
def pY (n:Nat) (w:au):Prop:=w.a<n/\w.b<n/\(w.tie=false->w.a≠w.b)
theorem DZ (g:bP n st) (h:∀w,o=some w->pY n w):bP n (put st o word used):=by
 cases o with
 | none=>exact g
 | some w=>exact Nw g (h w U).1 (h w U).2.1 (h w U).2.2
theorem l8 (g:bP n s) (a:∀p w,p.a<n->p.b<n->f p=some w->pY n w):bP n (bh f word i s):=by
 refine DZ g λw h=>?_
 cases q:aj s i with
 | none=>rw [q] at h;cases h
 | some p=>
  rw [q] at h;have:=g.lt i p q;exact a p w this.1 this.2 h
theorem tZ (g:bP n s) (c:∀p q w,p.a<n->p.b<n->q.a<n->q.b<n->f p q=some w->pY n w):bP n (av f word i j s):=by
 refine DZ g λw h=>?_
 cases C:aj s i with
 | none=>rw [C] at h;cases h
 | some p=>
  rw [C] at h;have h:(aj s j).bind (λq=>f p q)=some w:=h
  cases I:aj s j with
  | none=>rw [I] at h;cases h
  | some q=>
   rw [I] at h;have a:=g.lt i p C;have b:=g.lt j q I;exact c p q w a.1 a.2 b.1 b.2 h
theorem sI (a:∀s j,bP n s->bP n (f s j)):∀(l:List Nat) (s:St),bP n s->bP n (l.foldl f s)
 | [],_,g=>g
 | j::l,s,g=>sI a l (f s j) (a s j g)
theorem xU (p q w:au) (a:p.a<n) (_:p.b<n) (_:q.a<n) (b:q.b<n) (h:aP p q=some w):pY n w:=by
 unfold aP at h;split at h
 ·cases h;exact ⟨a,b,λz=>nomatch z⟩
 ·cases h
theorem xZ (p w:au) (a:p.a<n) (b:p.b<n) (h:dQ F p=some w):pY n w:=by
 unfold dQ at h;split at h
 next c=>
  cases q:F p.b with
  | none=>rw [q] at h;cases h
  | some f=>rw [q] at h;cases h;exact ⟨a,b,λ_=>c.2⟩
 ·cases h
theorem yd (b:iQ n F most) (p w:au) (_:p.a<n) (a:p.b<n) (h:eM F p=some w):pY n w:=by
 unfold eM at h;split at h
 ·cases q:F p.a with
  | none=>rw [q] at h;cases h
  | some f=>rw [q] at h;cases h;exact ⟨(b.lt _ _ q).1,a,λz=>nomatch z⟩
 ·cases h
theorem Bj (b:iQ n F most) (p w:au) (a:p.a<n) (_:p.b<n) (h:dR F p=some w):pY n w:=by
 unfold dR at h;split at h
 ·cases q:F p.b with
  | none=>rw [q] at h;cases h
  | some f=>rw [q] at h;cases h;exact ⟨a,(b.lt _ _ q).1,λz=>nomatch z⟩
 ·cases h
theorem EB (p q w:au) (_:p.a<n) (a:p.b<n) (b:q.a<n) (_:q.b<n) (h:bJ F p q=some w):pY n w:=by
 unfold bJ at h;split at h
 next c=>
  cases e:F p.b with
  | none=>rw [e] at h;cases h
  | some f=>rw [e] at h;cases h;exact ⟨b,a,λ_=>c.2.2.2⟩
 ·cases h
theorem Bt (a:iQ n F most) (p w:au) (_:p.a<n) (b:p.b<n) (h:di F p=some w):pY n w:=by
 unfold di at h;split at h
 ·cases e:F p.a with
  | none=>rw [e] at h;cases h
  | some o=>
   rw [e] at h;have h:(F p.b).map (λf=>(⟨false,o.1,p.b,min p.v f.2.2-o.2.1⟩:au))=some w:=h
   cases C:F p.b with
   | none=>rw [C] at h;cases h
   | some f=>
    rw [C] at h;cases h;refine ⟨(a.lt _ _ e).1,b,λ_ z=>?_⟩;have z:o.1=p.b:=z;have:=a.own _ _ e;rw [z,C] at this;cases this
 ·cases h
theorem Vc (a:iQ n F most) (g:bP n s):bP n (look n F at_ s):=by
 unfold look;split
 ·split
  ·split
   ·refine sI (λ_ _ g=>tZ g EB) _ _ (sI (λ_ _ g=>tZ g xU) _ _ (sI (λ_ _ g=>tZ g xU) _ _ (l8 (l8 g xZ) (yd a))))
   ·exact sI (λ_ _ g=>tZ g EB) _ _ (l8 (l8 g (Bj a)) (Bt a))
  ·exact g
 ·exact g
theorem yc (a:iQ n F most) (g:bP n s):∀t,bP n (run n F s t)
 | 0=>g
 | t+1=>Vc a (yc a g t)
def Add (C:au->Prop) (s s':St):Prop:=∀i w,s.rows.length<=i->aj s' i=some w->C w
theorem Add.refl (s:St):Add C s s:=λi w h e=>absurd (ma e) (by exact CO h)
theorem Add.trans (x:Add C a b) (e:Ext b c) (y:Add C b c):Add C a c:=λi w h f=>by
 by_cases d:i<b.rows.length
 ·have:∃w',aj b i=some w':=⟨_,by unfold aj;rw [df d];rfl⟩;obtain ⟨w',g⟩:=this;have:=cD e g;rw [f] at this;cases this;exact x i w h g
 ·exact y i w (by exact jt d) f
theorem Mq {w:au} (h:C w):Add C s (take s w word used):=λi u d a=>by
 by_cases c:gm s w
 ·obtain ⟨_,b,f⟩:=Bl (word:=word) (used:=used) c;have:=ma a;have e:i=s.rows.length:=by lia
  rw [e,b] at a;cases a;exact h
 ·rw [ud c] at a;exact absurd (ma a) (by exact CO d)
theorem qv (h:∀w,o=some w->C w):Add C s (put s o word used):=by
 cases o with
 | none=>exact Add.refl s
 | some w=>exact Mq (h w U)
theorem tU (a:aj s i=some p) (h:∀w,f p=some w->C w):Add C s (bh f word i s):=qv λw e=>by rw [a] at e;exact h w e
theorem Dj (a:aj s i=some p) (b:aj s j=some q) (h:∀w,f p q=some w->C w):Add C s (av f word i j s):=qv λw e=>by rw [a] at e;have e:(aj s j).bind (λq=>f p q)=some w:=e;rw [b] at e;exact h w e
theorem uq (a:∀s j,Imp s (f s j)):∀(l:List Nat) (s0 s:St),Imp s0 s->(∀j∈l,∀s1,Imp s0 s1->Add C s1 (f s1 j))->Add C s (l.foldl f s)
 | [],_,s,_,_=>Add.refl s
 | j::l,s0,s,b,h=>(h j fh s b).trans (hY a l (f s j)).1 (uq a l s0 (f s j) (b.trans (a s j)) λk c=>h k (gI _ c))
theorem MS (a:∀s j,Imp s (f s j)):∀(l:List Nat) (s:St) (j:Nat),j∈l->∃s1,Imp s s1/\Imp (f s1 j) (l.foldl f s)
 | [],_,_,h=>nomatch h
 | k::l,s,j,h=>by
  rcases eR.mp h with e | h
  ·subst e;exact ⟨s,Imp.refl s,hY a l (f s j)⟩
  ·obtain ⟨s1,b,c⟩:=MS a l (f s k) j h;exact ⟨s1,(a s k).trans b,c⟩
theorem EN (h:j∈dz n st tie a):∃b,b<n/\st.best (tie,a,b)=some j:=by obtain ⟨b,c,e⟩:=xh.mp h;exact ⟨b,pP.mp c,e⟩
theorem BK (h:j∈ef n st b):∃a,a<n/\st.best (true,a,b)=some j:=by obtain ⟨a,c,e⟩:=xh.mp h;exact ⟨a,pP.mp c,e⟩
theorem A_ (g:bP n s) (h:val s k=some u):∃i w,s.best k=some i/\aj s i=some w/\w.key=k/\w.v=u:=by
 unfold val at h
 cases q:s.best k with
 | none=>rw [q] at h;cases h
 | some i=>
  obtain ⟨w,a,b⟩:=g.at_ k i q;rw [q] at h;have h:(aj s i).map (·.v)=some u:=h;rw [a] at h;exact ⟨i,w,U,a,b,ff h⟩
theorem gT {w:au} {t:Bool} {a b:Nat} (h:w.key=(t,a,b)):w.tie=t/\w.a=a/\w.b=b:=by unfold au.key at h;exact ⟨congrArg Prod.fst h,congrArg (λz=>z.2.1) h,congrArg (λz=>z.2.2) h⟩
theorem qo (g:bP n s) (k:s.bar=none) (h:val s (t,a,b)=some u):a≠b/\a<n/\b<n:=by obtain ⟨i,w,_,j,l,_⟩:=A_ g h;obtain ⟨_,c,d⟩:=gT l;have e:=g.ne k i w j;have f:=g.lt i w j;rw [c,d] at e;rw [c,d] at f;exact ⟨e,f⟩
theorem L4 {n:Nat} {F:dO} {S:Int} (y:iQ n F S) {s:St} (g:bP n s) {at_ a b c:Nat} {p:au} {u:Int} (E:aj s at_=some p) (W:p.tie=true) (T:p.a=a) (V:p.b=b) (M:val s (true,b,c)=some u) (z:b≠c) (A:c<n):
 (a≠c->∃x,x<=p.v+u/\val (hX n F at_ a b s) (true,a,c)=some x)/\(a=c->p.v+u<0->(hX n F at_ a b s).bar≠none):=by
 have k:Imp s (bh (eM F) .cz at_ (bh (dQ F) .bE at_ s)):=(iT _ _ _ _).trans (iT _ _ _ _);have v:bP n (bh (eM F) .cz at_ (bh (dQ F) .bE at_ s)):=l8 (l8 g xZ) (yd y);unfold hX;dsimp only;generalize bh (eM F) .cz at_ (bh (dQ F) .bE at_ s)=s2 at*;obtain ⟨e,N,i⟩:=k.2 (true,b,c) u z M;have hle:e<=u:=by unfold eY at i;simp at i;exact i
 obtain ⟨j,q,C,H,J,L⟩:=A_ v N;obtain ⟨Z,X,Y⟩:=gT J;have D:j∈dz n s2 true b:=xh.mpr ⟨c,pP.mpr A,C⟩;obtain ⟨d,l,m⟩:=MS (f:=λst j=>av aP .sum at_ j st) (λ_ _=>fx ..) _ s2 j D;have G:=cD (k.1.trans l.1) E;have I:=cD l.1 H;have O:aP p q=some ⟨true,a,c,p.v+e⟩:=by unfold aP;rw [if_pos ⟨W,Z,by rw [V,X]⟩,T,Y,L]
 have B:av aP .sum at_ j d=take d ⟨true,a,c,p.v+e⟩ .sum [at_,j]:=by unfold av;rw [G];show put d ((aj d j).bind λq=>aP p q) .sum [at_,j]=_;rw [I];show put d (aP p q) .sum [at_,j]=_;rw [O];rfl
 rw [B] at m;have o:=m.trans ((hY (f:=λst j=>av aP .sum j at_ st) (λ_ _=>fx ..) (ef n ((dz n s2 true b).foldl (λst j=>av aP .sum at_ j st) s2) a) _).trans (hY (f:=λst j=>av (bJ F) .back j at_ st) (λ_ _=>fx ..) (dz n ((ef n ((dz n s2 true b).foldl (λst j=>av aP .sum at_ j st) s2) a).foldl (λst j=>av aP .sum j at_ st) ((dz n s2 true b).foldl (λst j=>av aP .sum at_ j st) s2)) false b) _));refine ⟨λh=>?_,λh sW=>?_⟩
 ·obtain ⟨x,Q,r⟩:=Fc (st:=d) (word:=.sum) (used:=[at_,j]) (w:=⟨true,a,c,p.v+e⟩) h;obtain ⟨x1,R,t⟩:=o.2 (true,a,c) x h Q;refine ⟨x1,?_,R⟩;unfold eY at r t;simp at r t;lia
 ·exact o.1.bar (Vo ⟨U,h,by show p.v+e<0;lia⟩)
theorem Mt (b:iQ n F most) (g:bP n s) (t:aj s at_=some p) (T:p.tie=false) (pa:p.a=a)
 (h:∀x v,val (gD n F at_ a s) (true,x,a)=some v->-B<=v) (Z:0<=B) (i:(gD n F at_ a s).bar=none):
 Add (λw=>(w.tie=true->-most<=w.v)/\(w.tie=false->w.v<=most+B)) s (gD n F at_ a s):=by
 unfold gD at h i ⊢;dsimp only at h i ⊢;have L:bP n (bh (dR F) .sure at_ s):=l8 g (Bj b);have S:Imp s (bh (dR F) .sure at_ s):=iT _ _ _ _;have G:Add (λw=>(w.tie=true->-most<=w.v)/\(w.tie=false->w.v<=most+B)) s (bh (dR F) .sure at_ s):=tU t λw e=>by
  unfold dR at e;rw [if_pos T] at e
  cases q:F p.b with
  | none=>rw [q] at e;cases e
  | some f=>
   rw [q] at e;cases e;have:=b.num _ _ q;refine ⟨λ_=>?_,nofun⟩
   show-most<=-min p.v f.2.1
   lia
 generalize bh (dR F) .sure at_ s=s1 at*;have u:=cD S.1 t;have m:bP n (bh (di F) .aG at_ s1):=l8 L (Bt b);have A:Imp s1 (bh (di F) .aG at_ s1):=iT _ _ _ _;have H:Add (λw=>(w.tie=true->-most<=w.v)/\(w.tie=false->w.v<=most+B)) s1 (bh (di F) .aG at_ s1):=tU u λw e=>by
  unfold di at e;split at e
  ·cases q:F p.a with
   | none=>rw [q] at e;cases e
   | some o=>
    rw [q] at e;have e:(F p.b).map (λf=>(⟨false,o.1,p.b,min p.v f.2.2-o.2.1⟩:au))=some w:=e
    cases C:F p.b with
    | none=>rw [C] at e;cases e
    | some f=>
     rw [C] at e;cases e;have Y:=b.num _ _ q;have M:=b.num _ _ C;refine ⟨nofun,λ_=>?_⟩;show min p.v f.2.2-o.2.1<=most+B;omega
  ·cases e
 generalize bh (di F) .aG at_ s1=s2 at*;have Q:=cD A.1 u;have l:Imp s2 ((ef n s2 a).foldl (λd j=>av (bJ F) .back at_ j d) s2):=hY (λ_ _=>fx ..) _ _;have J:=fu λz=>l.1.bar z i;have I:Add (λw=>(w.tie=true->-most<=w.v)/\(w.tie=false->w.v<=most+B)) s2 ((ef n s2 a).foldl (λd j=>av (bJ F) .back at_ j d) s2):=uq (f:=λd j=>av (bJ F) .back at_ j d) (λ_ _=>fx ..) _ s2 s2 (Imp.refl _) λj N sx y=>by
  obtain ⟨c,_,r⟩:=BK N;obtain ⟨q,k,O⟩:=m.at_ _ _ r;obtain ⟨_,V,W⟩:=gT O;have E:=m.ne J j q k;rw [V,W] at E;obtain ⟨X,R,D⟩:=l.2 (true,c,a) q.v E (nO r k);have Ck:=h c X R;unfold eY at D;simp at D;refine Dj (cD y.1 Q) (cD y.1 k) λw e=>?_;unfold bJ at e;split at e
  ·cases z:F p.b with
   | none=>rw [z] at e;cases e
   | some f=>
    rw [z] at e;cases e;have M:=b.num _ _ z;refine ⟨nofun,λ_=>?_⟩;show min p.v f.2.2-q.v<=most+B;lia
  ·cases e
 exact (G.trans A.1 H).trans l.1 I
theorem L7 (t:Nat):∀d,Imp (run n F s t) (run n F s (t+d))
 | 0=>Imp.refl _
 | d+1=>(L7 t d).trans (sr n F (t+d) _)
theorem vZ (h:t<=t'):Imp (run n F s t) (run n F s t'):=by
 have:=L7 (n:=n) (F:=F) (s:=s) t (t'-t)
 rwa [show t+(t'-t)=t' by exact kI h] at this
section
def pt (n:Nat) (F:dO) (s0:St) (t a b:Nat):Prop:=∃w,aj (run n F s0 t) t=some w/\w.tie=true/\w.a=a/\w.b=b/\(run n F s0 t).best (true,a,b)=some t
theorem DV {w:au} (hw:aj s t=some w) (e:w.tie=true) (c:w.a=a) (d:w.b=b) (f:s.best (true,a,b)=some t):look n F t s=hX n F t a b s:=by
 unfold look;rw [hw];have g:w.key=(true,a,b):=by unfold au.key;rw [e,c,d]
 dsimp only;rw [g,if_pos f,if_pos e,c,d]
theorem DI (g:bP n s) (g':bP n s') (e:Ext s s') (h:val s' k≠val s k):∃j w,s.rows.length<=j/\aj s' j=some w/\w.key=k/\val s' k=some w.v:=by
 rcases e.best k with c | ⟨j,b,f⟩
 ·exfalso;apply h;unfold val;rw [c]
  cases q:s.best k with
  | none=>rfl
  | some i=>
   show (aj s' i).map (·.v)=(aj s i).map (·.v);obtain ⟨w,a,_⟩:=g.at_ k i q;rw [a,cD e a]
 ·obtain ⟨w,a,d⟩:=g'.at_ k j b;exact ⟨j,w,f,a,d,nO b a⟩
theorem MK (h:t<=t') (g:bP n (run n F s0 t)) (b:(run n F s0 t).best k=some i) (a:(run n F s0 t').best k=some j):i<=j:=by
 rcases (vZ (n:=n) (F:=F) (s:=s0) h).1.best k with e | ⟨f,e,c⟩
 ·rw [e,b] at a;cases a;exact ar _
 ·rw [e] at a;cases a;obtain ⟨w,d,_⟩:=g.at_ k i b;exact cQ (aR (ma d)) c
theorem VR (h:t<=t') (g:bP n (run n F s0 t)) (g':bP n (run n F s0 t')) (l:(run n F s0 t').bar=none) (a:(run n F s0 t).best k=some i) (b:(run n F s0 t').best k=some j) (q:i≠j):val (run n F s0 t') k≠val (run n F s0 t) k:=by obtain ⟨w,c,m⟩:=g.at_ k i a;obtain ⟨f,d,o⟩:=g'.at_ k j b;have p:=MK h g a b;have:=g'.drop l i j w f (cD (vZ h).1 c) d (m.trans o.symm) (BB p q);rw [nO a c,nO b d];intro e;have e:f.v=w.v:=ff e;rw [e] at this;exact yu _ _ this
end
theorem NC (b:aj s t=some p) (c:p.tie=false) (a:s.best p.key=some t):look n F t s=gD n F t p.a s:=by unfold look;rw [b];dsimp only;rw [if_pos a,if_neg (by rw [c];decide)]
theorem NB (b:aj s t=some p) (a:s.best p.key≠some t):look n F t s=s:=by unfold look;rw [b];dsimp only;rw [if_neg a]
end MU
open MU (au dO dQ eM aP dR bJ di h9 iQ Row bP gm val eY take aj dz ef hX gD bh cD qw av BK gT Ext EN yc)
namespace MH
theorem Dx:∀(M N:Nat) (f:Nat->Nat),(∀i,i<N->f i<M)->(∀i j,i<j->j<N->f i≠f j)->N<=M
 | 0,N,f,h,_=>by
  cases N with
  | zero=>exact ar _
  | succ N=>exact absurd (h 0 (Nat.succ_pos _)) (mG _)
 | M+1,N,f,h,a=>by
  by_cases c:∃p,p<N/\f p=M
  ·obtain ⟨p,m,g⟩:=c;have k:=Dx M (N-1) (λi=>f (if i<p then i else i+1)) (λi e=>by
    have b:(if i<p then i else i+1)<N:=by split<;>lia
    have d:=h _ b;have l:f (if i<p then i else i+1)≠M:=λz=>by
     by_cases c:i<p
     ·rw [if_pos c] at z;exact a i p c m (z.trans g.symm)
     ·rw [if_neg c] at z;exact a p (i+1) (by lia) (by lia) (g.trans z.symm)
    show f (if i<p then i else i+1)<M;exact pE d l) (λi j n o=>by
    show f (if i<p then i else i+1)≠f (if j<p then j else j+1);refine a _ _ ?_ ?_
    ·split<;>split<;>lia
    ·split<;>lia)
   exact ME k
  ·have k:=Dx M N f (λi e=>by
    have b:=h i e;have d:f i≠M:=λz=>c ⟨i,e,z⟩;exact pE b d) a
   exact gQ k
open Classical in
def cnt (P:Nat->Prop):Nat->Nat
 | 0=>0
 | N+1=>cnt P N+if P N then 1 else 0
theorem mQ {P:Nat->Prop} (h:P N):cnt P (N+1)=cnt P N+1:=by rw [cnt,if_pos h]
theorem qj {P:Nat->Prop} (h:¬P N):cnt P (N+1)=cnt P N:=by rw [cnt,if_neg h,Nat.add_zero]
theorem LK (P:Nat->Prop):∀N,∃e:Nat->Nat,(∀i,i<cnt P N->P (e i)/\e i<N)/\∀i j,i<j->j<cnt P N->e i<e j
 | 0=>⟨λi=>i,λi h=>absurd h (mG _),λi j _ h=>absurd h (mG _)⟩
 | N+1=>by
  obtain ⟨e,a,f⟩:=LK P N
  by_cases c:P N
  ·have b:cnt P (N+1)=cnt P N+1:=mQ c;refine ⟨λi=>if i<cnt P N then e i else N,λi _=>?_,λi j k l=>?_⟩
   ·by_cases d:i<cnt P N
    ·show P (if i<cnt P N then e i else N)/\(if i<cnt P N then e i else N)<N+1;rw [if_pos d];have:=a i d;exact ⟨this.1,EJ this.2⟩
    ·show P (if i<cnt P N then e i else N)/\(if i<cnt P N then e i else N)<N+1;rw [if_neg d];exact ⟨c,by exact gj⟩
   ·show (if i<cnt P N then e i else N)<(if j<cnt P N then e j else N);rw [if_pos (show i<cnt P N by lia)]
    by_cases d:j<cnt P N
    ·rw [if_pos d];exact f i j k d
    ·rw [if_neg d];exact (a i (by lia)).2
  ·have b:cnt P (N+1)=cnt P N:=qj c;rw [b];exact ⟨e,λi g=>⟨(a i g).1,by have:=(a i g).2;exact gQ this⟩,f⟩
theorem YB {P:Nat->Prop} (b:Nat->Nat) (h:∀i,i<N->P i->b i<M) (g:∀i j,i<j->j<N->P i->P j->b i≠b j):cnt P N<=M:=by obtain ⟨e,a,f⟩:=LK P N;exact Dx M (cnt P N) (λi=>b (e i)) (λi z=>h _ (a i z).2 (a i z).1) λi j d c=>g _ _ (f i j d c) (a j c).2 (a i (B5 d c)).1 (a j c).1
theorem Di {P Q R:Nat->Prop} (h:∀i,P i->Q i\/R i):∀N,cnt P N<=cnt Q N+cnt R N
 | 0=>ar _
 | N+1=>by
  have d:=Di h N;have a:cnt Q N<=cnt Q (N+1):=by
   by_cases c:Q N
   ·rw [mQ c];exact gQ gj
   ·rw [qj c];exact gj
  have b:cnt R N<=cnt R (N+1):=by
   by_cases c:R N
   ·rw [mQ c];exact gQ gj
   ·rw [qj c];exact gj
  by_cases c:P N
  ·rw [mQ c];rcases h N c with q | q
   ·rw [mQ q];lia
   ·rw [mQ q];lia
  ·rw [qj c];lia
theorem su:∀(N:Nat) (l:List Nat),l.Nodup->(∀z∈l,z<N)->l.length<=N
 | 0,l,_,h=>by
  cases l with
  | nil=>exact ar _
  | cons x t=>exact absurd (h x fh) (mG _)
 | N+1,l,f,h=>by
  by_cases c:N∈l
  ·have k:=su N (l.erase N) (f.erase N) (λz a=>by
    have b:=h z (List.mem_of_mem_erase a);have d:z≠N:=λe=>by rw [e] at a;exact (f.mem_erase_iff.mp a).1 U
    exact pE b d)
   rw [List.length_erase_of_mem c] at k;exact ME k
  ·have k:=su N l f (λz a=>by
    have b:=h z a;have d:z≠N:=λe=>c (e▸a);exact pE b d)
   exact gQ k
end MH
open MH (su)
set_option linter.unusedVariables false
namespace MH
structure Bd (n:Nat) (L most:Int) (T:Nat) (len:Nat->Nat) (m wt:Nat->Nat->Nat->Option Int) (pt pw:Nat->Nat->Nat->Prop):Prop where
 n8:n<=8
 L0:0<=L
 yR:0<=most
 go:∀t,t<T->t<len t
 uW:∀t,t<T->len t<=len (t+1)
 lt:∀t a b v,t<=T->m t a b=some v->a<n/\b<n/\a≠b
 known:∀t a b,t<T->pt t a b->∃v,m t a b=some v
 hZ:∀t a b,t<T->pw t a b->a<n/\b<n/\a≠b/\∃v,wt t a b=some v
 mono:∀t a b v,t<T->m t a b=some v->∃v',v'<=v/\m (t+1) a b=some v'
 yB:∀t a b v,t<T->wt t a b=some v->∃v',v<=v'/\wt (t+1) a b=some v'
 told:∀i,0<i->i<n->(∃v,v<=L/\m 0 0 i=some v)/\∃v,v<=0/\m 0 i 0=some v
 sJ:∀a b,wt 0 a b=none
 sum:∀t a b c v u,t<T->pt t a b->m t a b=some v->m t b c=some u->a≠c->∃x,x<=v+u/\m (t+1) a c=some x
 bar:∀t a b v u,t<T->pt t a b->m t a b=some v->m t b a=some u->0<=v+u
 one:∀t a b a' b',t<T->pt t a b->pt t a' b'->a=a'/\b=b'
 He:∀t a b a' b',t<T->pw t a b->pw t a' b'->a=a'/\b=b'
 apart:∀t a b a' b',t<T->pt t a b->¬pw t a' b'
 cause:∀t a b,t<T->m (t+1) a b≠m t a b->(∃c v q y,pt t a c/\c≠b/\m t a c=some v/\m t c b=some q/\m (t+1) a b=some y/\v+q<=y)\/(∃c,pt t c b/\c≠a)\/∃e y,pw t a e/\m (t+1) a b=some y/\-most<=y
 bE:∀t a b e v v',t<T->pt t a b->m t a b=some v->t<=e->e<T->pw e a b->wt e a b=some v'->1-v<=v'
 nQ:∀t a b B,t<T->0<=B->(∀x y v,m (t+1) x y=some v->-B<=v)->wt (t+1) a b≠wt t a b->∃y,wt (t+1) a b=some y/\y<=most+B
 grow:∀t,t<T->len (t+1)<=len t+20
 ti:∀t,t<T->(∀a b,¬pt t a b)->len (t+1)<=len t+8
 tj:∀t,t<T->(∀a b,¬pt t a b)->(∀a b,¬pw t a b)->len (t+1)=len t
 ei:∀t0 t a b v,t<=T->len t0<=t->t0<=t->m t0 a b=some v->m t a b=some v->∃s,s<t/\pt s a b/\m s a b=some v
 drop:∀t t' a b v v',t<t'->t'<T->pt t a b->pt t' a b->m t a b=some v->m t' a b=some v'->v'<v
 sL:∀t t' a b v v',t<t'->t'<T->pw t a b->pw t' a b->wt t a b=some v->wt t' a b=some v'->v<v'
 once:∀t t' a b,t<t'->t'<T->pt t a b->pt t' a b->len t<=t'
 lE:∀t t' a b,t<t'->t'<T->pw t a b->pw t' a b->len t<=t'
section
def Kn (m:Nat->Nat->Nat->Option Int) (t a b:Nat) (x:Int):Prop:=∃v,v<=x/\m t a b=some v
theorem Kn.le (h:Kn m t a b x) (e:x<=y):Kn m t a b y:=by obtain ⟨v,c,d⟩:=h;exact ⟨v,uh c e,d⟩
theorem Bd.lM (R:Bd n L most T len m wt pt pw) (h:m t a b=some v):∀d,t+d<=T->∃e,e<=v/\m (t+d) a b=some e
 | 0,_=>⟨v,jn _,h⟩
 | d+1,c=>by obtain ⟨l,i,f⟩:=R.lM h d (by exact aR c);obtain ⟨k,j,g⟩:=R.mono _ _ _ _ (by exact c) f;exact ⟨k,uh j i,g⟩
theorem Bd.jG (R:Bd n L most T len m wt pt pw) (h:m t a b=some v) (d:t<=t') (f:t'<=T):∃v',v'<=v/\m t' a b=some v':=by obtain ⟨v',e,c⟩:=R.lM h (t'-t) (B6 d f);rw [show t+(t'-t)=t' by exact kI d] at c;exact ⟨v',e,c⟩
theorem Bd.kn (R:Bd n L most T len m wt pt pw) (h:Kn m t a b x) (i:t<=t') (g:t'<=T):Kn m t' a b x:=by obtain ⟨v,c,d⟩:=h;obtain ⟨j,e,f⟩:=R.jG d i g;exact ⟨j,uh e c,f⟩
theorem Bd.same (R:Bd n L most T len m wt pt pw) (h:m t a b=some v) (h':m t' a b=some v) (g:t<=s) (e:s<=t') (f:t'<=T):m s a b=some v:=by obtain ⟨i,j,c⟩:=R.jG h g (qz e f);obtain ⟨l,k,d⟩:=R.jG c e f;rw [h'] at d;cases d;rw [c,show i=v by lia]
def gu (m:Nat->Nat->Nat->Option Int) (t x:Nat):Int:=(m t x 0).getD 0
theorem Bd.cH (R:Bd n L most T len m wt pt pw) (g:0<x) (e:x<n) (f:t<=T):m t x 0=some (gu m t x)/\gu m t x<=0:=by obtain ⟨v,a,b⟩:=(R.told x g e).2;obtain ⟨h,c,d⟩:=R.jG b (dV t) f;unfold gu;rw [d];exact ⟨U,by show h<=0;exact uh c a⟩
theorem Bd.dt (R:Bd n L most T len m wt pt pw) (c:0<x) (b:x<n) (a:t<T):gu m (t+1) x<=gu m t x:=by obtain ⟨v,e,d⟩:=R.mono _ _ _ _ a (R.cH c b (aR a)).1;have:=(R.cH (t:=t+1) c b a).1;rw [d] at this;have:=ff this;lia
theorem Bd.lK (R:Bd n L most T len m wt pt pw) (e:0<x) (c:x<n) (d:t<=T):Kn m t 0 x L:=by obtain ⟨v,a,b⟩:=(R.told x e c).1;exact R.kn ⟨v,a,b⟩ (dV t) d
def kj (n:Nat) (L:Int) (m:Nat->Nat->Nat->Option Int) (t x:Nat):Prop:= -L<=gu m t x/\∀z,0<z->z<n->z≠x->Kn m t x z (gu m t x+max L (-gu m t z))
def vD (n:Nat) (m:Nat->Nat->Nat->Option Int) (t x:Nat) (l:List Nat):Prop:=l.Nodup/\x∈l/\(∀z∈l,0<z/\z<n)/\∀z∈l,z≠x->Kn m t x z (gu m t x-gu m t z)
theorem kj.next (R:Bd n L most T len m wt pt pw) (i:0<x) (g:x<n) (d:t<T) (h:kj n L m t x) (e:m (t+1) x 0=m t x 0):kj n L m (t+1) x:=by
 have a:gu m (t+1) x=gu m t x:=by unfold gu;rw [e]
 refine ⟨by rw [a];exact h.1,λz b c f=>?_⟩;have j:=R.dt b c d;rw [a];exact (R.kn (h.2 z b c f) (kg t) d).le (by omega)
theorem vD.next (R:Bd n L most T len m wt pt pw) (c:t<T) (h:vD n m t x l) (e:m (t+1) x 0=m t x 0):vD n m (t+1) x l:=by
 have d:gu m (t+1) x=gu m t x:=by unfold gu;rw [e]
 obtain ⟨f,g,a,i⟩:=h;refine ⟨f,g,a,λz b j=>?_⟩;have:=R.dt (a z b).1 (a z b).2 c;rw [d];exact (R.kn (i z b j) (kg t) c).le (by lia)
theorem kj.yC (R:Bd n L most T len m wt pt pw) (f:0<x) (c:x<n) (h:kj n L m s x):∀d,s+d<=T->m (s+d) x 0=m s x 0->kj n L m (s+d) x
 | 0,_,_=>h
 | d+1,b,e=>by have a:=(R.cH (t:=s) f c (by lia)).1;have g:m (s+(d+1)) x 0=some (gu m s x):=e.trans a;have i:=R.same a g (s:=s+d) iK (by exact gQ gj) b;exact kj.next R (t:=s+d) f c (by exact b) (kj.yC R f c h d (by exact aR b) (i.trans a.symm)) (g.trans i.symm)
theorem Bd.looked (R:Bd n L most T len m wt pt pw) (a:s<T) (h:pt s x 0) (f:0<x) (d:x<n) (e:m (s+1) x 0=m s x 0):kj n L m (s+1) x:=by
 obtain ⟨c,_⟩:=R.cH (t:=s) f d (aR a);have b:gu m (s+1) x=gu m s x:=by unfold gu;rw [e]
 obtain ⟨p,u,i⟩:=R.lK f d (aR a);have r:=R.bar _ _ _ _ _ a h c i;refine ⟨by rw [b];lia,λz k l o=>?_⟩;obtain ⟨q,v,j⟩:=R.lK k l (aR a);obtain ⟨y,A,g⟩:=R.sum _ _ _ _ _ _ a h c j (a6 o);refine ⟨y,?_,g⟩;rw [b];lia
theorem Bd.uF (R:Bd n L most T len m wt pt pw) (d:0<x) (c:x<n) (b:t<=T) (i:len t0<=t) (j:t0<=t) (e:m t x 0=m t0 x 0):kj n L m t x:=by have a:=(R.cH (t:=t) d c b).1;obtain ⟨s,g,l,h⟩:=R.ei t0 t x 0 _ b i j (e.symm.trans a) a;have f:=R.same h a (s:=s+1) (by exact gQ gj) (by exact g) b;have k:=R.looked (fL g b) l d c (f.trans h.symm);have:=kj.yC R d c k (t-(s+1)) (by lia);rw [show s+1+(t-(s+1))=t by omega] at this;exact this (a.trans f.symm)
theorem Bd.over (R:Bd n L most T len m wt pt pw) (a:t<T) (b:0<x) (d:x<n) (g:c≠0) (s:pt t x c) (j:m t x c=some v) (h:m t c 0=some q) (e:m (t+1) x 0=some y) (C:v+q<=y) (r:m (t+1) x 0≠m t x 0):
 c<n/\c≠x/\gu m t c=q/\gu m (t+1) x=v+q/\gu m (t+1) x<gu m t x/\gu m (t+1) c<=q:=by
 obtain ⟨_,f,A⟩:=R.lt _ _ _ _ (aR a) j;have i:=(R.cH (t:=t) (x:=c) (pD g) f (aR a)).1;rw [h] at i;have l:=ff i;obtain ⟨z,E,p⟩:=R.sum _ _ _ _ _ _ a s j h (show x≠0 by exact tD b);rw [e] at p;have k:=(R.cH (t:=t+1) b d a).1;rw [e] at k;have o:=ff k;have u:=(R.cH (t:=t) b d (aR a)).1;have D:=R.dt b d a;have B:=R.dt (x:=c) (pD g) f a;refine ⟨f,a6 A,l.symm,by lia,?_,by lia⟩;have:gu m (t+1) x≠gu m t x:=λz=>r (by rw [u,e,<-z,o]);lia
theorem Bd.n_ (R:Bd n L most T len m wt pt pw) (a:t<T) (l:0<x) (k:x<n) (B:c≠0) (d:pt t x c) (b:m t x c=some v) (F:m t c 0=some q) (I:m (t+1) x 0=some y) (D:v+q<=y) (E:m (t+1) x 0≠m t x 0) (h:kj n L m t c):kj n L m (t+1) x:=by
 obtain ⟨V,C,f,N,W,S⟩:=R.over a l k B d b F I D E;obtain ⟨O,g⟩:=h;obtain ⟨u,G,o⟩:=g x l k (a6 C);have Q:=R.bar _ _ _ _ _ a d b o;rw [f] at G;refine ⟨by lia,λz i j A=>?_⟩;have Z:=R.dt i j a
 by_cases e:z=c
 ·subst e;obtain ⟨J,X,r⟩:=R.mono _ _ _ _ a b;exact ⟨J,by omega,r⟩
 ·obtain ⟨u',H,p⟩:=g z i j e;obtain ⟨M,Y,s⟩:=R.sum _ _ _ _ _ _ a d b p (a6 A);rw [f] at H;exact ⟨M,by omega,s⟩
theorem Bd.mj (R:Bd n L most T len m wt pt pw) (b:t<T) (p:0<x) (k:x<n) (C:c≠0) (g:pt t x c) (d:m t x c=some v) (G:m t c 0=some q) (M:m (t+1) x 0=some y) (E:v+q<=y) (F:m (t+1) x 0≠m t x 0) (h:vD n m t c l):vD n m (t+1) x (x::l):=by
 obtain ⟨X,D,i,Q,Y,W⟩:=R.over b p k C g d G M E F;obtain ⟨B,S,f,j⟩:=h;have J:x∉l:=λz=>by obtain ⟨x1,H,r⟩:=j x z (a6 D);have V:=R.bar _ _ _ _ _ b g d r;rw [i] at H;lia
 refine ⟨List.nodup_cons.mpr ⟨J,B⟩,fh,λz a=>?_,λz a o=>?_⟩
 ·rcases eR.mp a with rfl | a
  ·exact ⟨p,k⟩
  ·exact f z a
 ·rcases eR.mp a with e | a
  ·exact absurd e o
  ·have hzr:=R.dt (f z a).1 (f z a).2 b
   by_cases e:z=c
   ·subst e;obtain ⟨N,Z,u⟩:=R.mono _ _ _ _ b d;exact ⟨N,by lia,u⟩
   ·obtain ⟨u',I,s⟩:=j z a e;obtain ⟨O,Q7,A⟩:=R.sum _ _ _ _ _ _ b g d s (a6 o);rw [i] at I;exact ⟨O,by lia,A⟩
def gen (a:Nat->Nat):Nat->Nat
 | 0=>0
 | g+1=>a (gen a g)
def uz (n:Nat) (a:Int) (m:Nat->Nat->Nat->Option Int) (b:Nat->Nat->Nat->Prop) (t:Nat):Prop:=(∃c,b t c 0)\/∃x y,0<x/\x<n/\m (t+1) x 0=some y/\m (t+1) x 0≠m t x 0/\-a<=y
def uv (n:Nat) (L:Int) (m:Nat->Nat->Nat->Option Int) (k t0 t:Nat):Prop:=∀x,0<x->x<n->kj n L m t x\/∃l,vD n m t x l/\(k+1<=l.length\/(k<=l.length/\m t x 0=m t0 x 0))
theorem Bd.m5 (R:Bd n L most T len m wt pt pw) (d:t<T) (u:¬uz n most m pt t) (h:uv n L m k t0 t):uv n L m k t0 (t+1):=λx g b=>by
 by_cases e:m (t+1) x 0=m t x 0
 ·rcases h x g b with f | ⟨l,c,a⟩
  ·exact .inl (f.next R g b d e)
  ·refine .inr ⟨l,c.next R d e,?_⟩;rcases a with a | ⟨a,A⟩
   ·exact .inl a
   ·exact .inr ⟨a,e.trans A⟩
 ·rcases R.cause t x 0 d e with ⟨c,v,q,y,i,o,s,r,j,p⟩ | ⟨c,i,_⟩ | ⟨D,y,_,j,C⟩
  ·obtain ⟨B,_⟩:=R.over d g b o i s r j p e;rcases h c (pD o) B with f | ⟨l,z,a⟩
   ·exact .inl (R.n_ d g b o i s r j p e f)
   ·refine .inr ⟨x::l,R.mj d g b o i s r j p e z,.inl ?_⟩;rw [gw];rcases a with a | ⟨a,_⟩<;>lia
  ·exact absurd (.inl ⟨c,i⟩) u
  ·exact absurd (.inr ⟨x,y,g,b,j,e,C⟩) u
theorem Bd.jL (R:Bd n L most T len m wt pt pw) (c:∀t,t0<=t->t<len t0->¬uz n most m pt t) (h:uv n L m k t0 t0):∀d,t0+d<=T->t0+d<=len t0->uv n L m k t0 (t0+d)
 | 0,_,_=>h
 | d+1,a,b=>R.m5 (t:=t0+d) (by exact a) (c (t0+d) iK (by exact b)) (R.jL c h d (by exact aR a) (by exact aR b))
theorem Bd.m6 (R:Bd n L most T len m wt pt pw) (a:t0<=len t0) (d:len t0<=T) (j:∀t,t0<=t->t<len t0->¬uz n most m pt t) (h:uv n L m k t0 t0):uv n L m (k+1) (len t0) (len t0):=λx i g=>by
 have:=R.jL j h (len t0-t0) (B6 a d) (yh a);rw [show t0+(len t0-t0)=len t0 by exact kI a] at this;rcases this x i g with f | ⟨l,c,b⟩
 ·exact .inl f
 ·rcases b with b | ⟨_,e⟩
  ·exact .inr ⟨l,c,.inr ⟨b,U⟩⟩
  ·exact .inl (R.uF i g d (ar _) a e)
theorem Bd.jc (R:Bd n L most T len m wt pt pw) (h:gen len g<=T) (b:gen len (g+1)<=T):gen len g<=gen len (g+1):=by
 by_cases c:gen len g=T
 ·rw [c];show T<=len (gen len g);rw [c];have:gen len (g+1)=len T:=by show len (gen len g)=_;rw [c]
  by_cases z:T=0
  ·lia
  ·have d:=R.go (T-1) (MC z);have a:=R.uW (T-1) (MC z);rw [show T-1+1=T by lia] at a;omega
 ·exact aR (R.go _ (BB h c))
theorem Bd.jM (R:Bd n L most T len m wt pt pw):∀k,gen len (g+k)<=T->(∀i,i<=k->gen len (g+i)<=T)->(∀t,gen len g<=t->t<gen len (g+k)->¬uz n most m pt t)->(∀i,i<=k->gen len g<=gen len (g+i))->(∀i,i<k->gen len (g+i)<=gen len (g+k))->uv n L m (k+1) (gen len (g+k)) (gen len (g+k))
 | 0,_,_,_,_,_=>λx y s=>.inr ⟨[x],⟨List.nodup_cons.mpr ⟨by simp,As⟩,fh,λz e=>by rw [g_.mp e];exact ⟨y,s⟩,λz e u=>absurd (g_.mp e) u⟩,.inr ⟨ar _,U⟩⟩
 | k+1,q,d,o,l,v=>by
  have h:gen len (g+k)<=gen len (g+(k+1)):=v k (by exact gj);have f:=R.jM (g:=g) k (d k (by exact gQ gj)) (λi c=>d i (by exact gQ c)) (λt a b=>o t a (fL b h)) (λi c=>l i (by exact gQ c)) (λi c=>by
   have p:∀j,j<=k-i->gen len (g+i)<=gen len (g+(i+j)):=λj=>by
    induction j with
    | zero=>intro _;exact ar _
    | succ j f=>
     intro r;exact cQ (f (by exact aR r)) (R.jc (g:=g+(i+j)) (d (i+j) (by lia)) (d (i+j+1) (by lia)))
   have:=p (k-i) (ar _)
   rwa [show i+(k-i)=k by exact TF c] at this)
  exact R.m6 (t0:=gen len (g+k)) h q (λt a b=>o t (by have:=l k (by exact gQ gj);exact qz this a) b) f
end
end MH
set_option maxRecDepth 4000
namespace MH
theorem tY {P:Nat->Prop} (a:Nat->Nat->Prop) (h:∀i,i<N->P i->∃c,c<M/\a i c) (o:∀i j c,i<j->j<N->P i->P j->a i c->a j c->False):cnt P N<=M:=by
 classical
 refine YB (λi=>if z:∃c,c<M/\a i c then Classical.choose z else 0) (λi b d=>?_) (λi j k b d g e=>?_)
 ·have z:=h i b d;show (if z:∃c,c<M/\a i c then Classical.choose z else 0)<M;rw [dif_pos z];exact (JT z).1
 ·have l:=h i (B5 k b) d;have m:=h j b g;have e:(if z:∃c,c<M/\a i c then Classical.choose z else 0)=(if z:∃c,c<M/\a j c then Classical.choose z else 0):=e;rw [dif_pos l,dif_pos m] at e;have n:=(JT l).2;have f:=(JT m).2;rw [<-e] at f;exact o i j _ k b d g n f
theorem K_ {P:Nat->Prop}:∀{N:Nat},(∀i,i<N->P i)->cnt P N=N
 | 0,_=>rfl
 | N+1,h=>by rw [mQ (h N (by exact gj)),K_ λi a=>h i (by exact gQ a)]
theorem dec {k a r a' r':Nat} (d:r<k) (f:r'<k) (h:a*k+r=a'*k+r'):a=a'/\r=r':=by
 have c:0<k:=ES d;have b:(a*k+r) / k=a:=by rw [Nat.add_comm,Nat.add_mul_div_right _ _ c,Nat.div_eq_of_lt d,zZ]
 have e:(a'*k+r') / k=a':=by rw [Nat.add_comm,Nat.add_mul_div_right _ _ c,Nat.div_eq_of_lt f,zZ]
 rw [h,e] at b;subst b;exact ⟨U,by lia⟩
theorem enc {k a r N:Nat} (c:a<N) (d:r<k):a*k+r<N*k:=by have b:(a+1)*k<=N*k:=Nat.mul_le_mul_right _ c;rw [Nat.add_mul,Nat.one_mul] at b;exact mR b d
def kc (a b:Nat):Nat:=a*7+if b<a then b else b-1
def N8 (a b:Nat):Prop:=a<8/\b<8/\a≠b
theorem mP (h:N8 a b):kc a b<56:=by obtain ⟨c,d,e⟩:=h;unfold kc;split<;>lia
theorem rX {a b c b':Nat} (h:N8 a b) (h':N8 c b') (e:kc a b=kc c b'):a=c/\b=b':=by obtain ⟨g,i,j⟩:=h;obtain ⟨k,l,m⟩:=h';unfold kc at e;obtain ⟨f,d⟩:=dec (show (if b<a then b else b-1)<7 by split<;>omega) (show (if b'<c then b' else b'-1)<7 by split<;>omega) e;subst f;refine ⟨U,?_⟩;split at d<;>split at d<;>lia
section
variable {n l mo T:Nat}
theorem Bd.kS (R:Bd n L most T len m wt pt pw):∀d,t0+d<=T->len (t0+d)<=len t0+20*cnt (λi=>∃a b,pt (t0+i) a b) d+8*cnt (λi=>∃a b,pw (t0+i) a b) d
 | 0,_=>by show len t0<=_;exact gj
 | d+1,h=>by
  have g:=R.kS (t0:=t0) d (by exact aR h);have e:t0+d<T:=by exact h
  show len (t0+d+1)<=_
  by_cases c:∃a b,pt (t0+d) a b
  ·rw [mQ c];have j:=R.grow (t0+d) e;have k:cnt (λi=>∃a b,pw (t0+i) a b) d<=cnt (λi=>∃a b,pw (t0+i) a b) (d+1):=by
    by_cases z:∃a b,pw (t0+d) a b
    ·rw [mQ z];exact gQ gj
    ·rw [qj z];exact gj
   lia
  ·rw [qj c];have f:∀a b,¬pt (t0+d) a b:=λa b z=>c ⟨a,b,z⟩
   by_cases z:∃a b,pw (t0+d) a b
   ·rw [mQ z];have:=R.ti (t0+d) e f;lia
   ·rw [qj z];have:=R.tj (t0+d) e f λa b q=>z ⟨a,b,q⟩;exact wg this g
theorem Bd.o6 (R:Bd n L most T len m wt pt pw):∀d,t+d<=T->len t<=len (t+d)
 | 0,_=>ar _
 | d+1,h=>cQ (R.o6 d (by exact aR h)) (R.uW (t+d) (by exact h))
theorem Bd.eD (R:Bd n L most T len m wt pt pw) (h:t<=t') (a:t'<=T):len t<=len t':=by
 have:=R.o6 (t:=t) (t'-t) (B6 h a)
 rwa [show t+(t'-t)=t' by exact kI h] at this
theorem Bd.lL (R:Bd n L most T len m wt pt pw) (f:t0+d<=T) (J:t0+d<=len t0):len (t0+d)<=len t0+1568:=by
 have h:=R.kS d f;have g:=R.n8;have H:cnt (λi=>∃a b,pt (t0+i) a b) d<=56:=by
  refine tY (λi c=>∃a b,pt (t0+i) a b/\N8 a b/\c=kc a b) (λi x s=>?_) (λi j c y z _ _ p r=>?_)
  ·obtain ⟨a,b,e⟩:=s;obtain ⟨v,G⟩:=R.known _ _ _ (show t0+i<T by exact mR f x) e;obtain ⟨B,C,D⟩:=R.lt _ _ _ _ (show t0+i<=T by lia) G;have q:N8 a b:=⟨fL B g,fL C g,D⟩;exact ⟨_,mP q,a,b,e,q,U⟩
  ·obtain ⟨a,b,e,t,k⟩:=p;obtain ⟨E,F,A,u,o⟩:=r;obtain ⟨rfl,rfl⟩:=rX t u (k.symm.trans o);have:=R.once _ _ _ _ (show t0+i<t0+j by exact pC y) (mR f z) e A;have:=R.eD (show t0<=t0+i by exact iK) (by lia);lia
 have I:cnt (λi=>∃a b,pw (t0+i) a b) d<=56:=by
  refine tY (λi c=>∃a b,pw (t0+i) a b/\N8 a b/\c=kc a b) (λi x s=>?_) (λi j c y z _ _ p r=>?_)
  ·obtain ⟨a,b,e⟩:=s;obtain ⟨B,C,D,_⟩:=R.hZ _ _ _ (show t0+i<T by exact mR f x) e;have q:N8 a b:=⟨fL B g,fL C g,D⟩;exact ⟨_,mP q,a,b,e,q,U⟩
  ·obtain ⟨a,b,e,t,k⟩:=p;obtain ⟨E,F,A,u,o⟩:=r;obtain ⟨rfl,rfl⟩:=rX t u (k.symm.trans o);have:=R.lE _ _ _ _ (show t0+i<t0+j by exact pC y) (mR f z) e A;have:=R.eD (show t0<=t0+i by exact iK) (by lia);lia
 lia
theorem Bd.gens (R:Bd n L most T len m wt pt pw):∀N,((∀i,i<=N->gen len i<=T)/\len (gen len N)<=len 0+1568*N)\/len T<=len 0+1568*N
 | 0=>.inl ⟨λi g=>by rw [show i=0 by lia];exact dV _,ar _⟩
 | N+1=>by
  rcases R.gens N with ⟨h,f⟩ | h
  ·have a:=h N (ar _)
   by_cases c:gen len (N+1)<=T
   ·refine .inl ⟨λi g=>?_,?_⟩
    ·by_cases e:i=N+1
     ·rw [e];exact c
     ·exact h i (by lia)
    ·have b:=R.jc a c;have:=R.lL (t0:=gen len N) (d:=gen len (N+1)-gen len N) (by lia) (by show _<=gen len (N+1);exact yh b);rw [show gen len N+(gen len (N+1)-gen len N)=gen len (N+1) by exact kI b] at this;rw [Nat.mul_succ,<-Aj];exact cQ this (w_ f _)
   ·right;have:=R.lL (t0:=gen len N) (d:=T-gen len N) (yh a) (by show _<=gen len (N+1);lia);rw [show gen len N+(T-gen len N)=T by exact kI a] at this;rw [Nat.mul_succ,<-Aj];exact cQ this (w_ f _)
  ·right;rw [Nat.mul_succ,<-Aj];exact cQ h (mC _ _)
theorem Bd.cC (R:Bd n L most T len m wt pt pw) (h:∀i,i<=N->gen len i<=T):∀j,i+j<=N->gen len i<=gen len (i+j)
 | 0,_=>ar _
 | j+1,a=>cQ (R.cC h j (by exact aR a)) (R.jc (g:=i+j) (h (i+j) (by exact aR a)) (h (i+j+1) (by omega)))
theorem Bd.narrow (R:Bd n (l:Int) (mo:Int) T len m wt pt pw) (h:∀i,i<=g+7->gen len i<=T) (D:∀t,gen len g<=t->t<gen len (g+7)->¬uz n (mo:Int) m pt t):∀a b,a<n->b<n->a≠b->Kn m (gen len (g+7)) a b (l:Int):=by
 have d:=h (g+7) (ar _);have c:=R.jM (g:=g) 7 d (λi j=>h _ (uk j)) D (λi j=>R.cC h i (uk j)) (λi j=>by
  have:=R.cC h (i:=g+i) (7-i) (by lia)
  rwa [show g+i+(7-i)=g+7 by lia] at this)
 have A:=R.n8;have u:∀x,0<x->x<n->kj n (l:Int) m (gen len (g+7)) x:=λx E C=>by
  rcases c x E C with f | ⟨F,⟨v,_,s,_⟩,H⟩
  ·exact f
  ·exfalso;have:=su 8 (0::F) (List.nodup_cons.mpr ⟨λz=>by have:=(s 0 z).1;exact gX (ji 0 this),v⟩) (λz r=>by
    rcases eR.mp r with e | r
    ·lia
    ·have:=(s z r).2;exact fL this A)
   rw [gw] at this;lia
 intro a b p q B
 by_cases e:a=0
 ·subst e;exact R.lK (by lia) q d
 ·by_cases k:b=0
  ·subst k;obtain ⟨o,y⟩:=R.cH (t:=gen len (g+7)) (pD e) p d;exact ⟨_,by lia,o⟩
  ·have o:=(u a (pD e) p).2 b (pD k) q (a6 B);have y:=(u b (pD k) q).1;have G:=(R.cH (t:=gen len (g+7)) (x:=a) (pD e) p d).2;exact o.le (by lia)
theorem Bd.quiet (R:Bd n (l:Int) (mo:Int) T len m wt pt pw) {N:Nat} (hN:N=7*(l+1)+7*(mo+1)+1) (O:∀i,i<=7*N->gen len i<=T):∃b,b<N/\∀t,gen len (7*b)<=t->t<gen len (7*b+7)->¬uz n (mo:Int) m pt t:=by
 refine fu λZ=>?_;have hs:∀b,b<N->∃t,gen len (7*b)<=t/\t<gen len (7*b+7)/\uz n (mo:Int) m pt t:=λb p=>by refine fu λh=>Z ⟨b,p,λt j e G=>h ⟨t,j,e,G⟩⟩
 have B:=R.n8;have W:∀{b t},b<N->t<gen len (7*b+7)->t<T:=λ{b t} p k=>by have:=O (7*b+7) (by lia);exact fL k this
 have key:=tY (P:=λ_=>True) (N:=N) (M:=7*(l+1)+7*(mo+1)) (λb c=>∃t,gen len (7*b)<=t/\t<gen len (7*b+7)/\((∃x r,pt t (x+1) 0/\x<7/\r<l+1/\m t (x+1) 0=some (-(r:Int))/\c=x*(l+1)+r)\/
  ∃x r,x<7/\r<mo+1/\m (t+1) (x+1) 0=some (-(r:Int))/\m (t+1) (x+1) 0≠m t (x+1) 0/\c=7*(l+1)+(x*(mo+1)+r))) (λb p _=>by
  obtain ⟨t,j,e,G⟩:=hs b p;have k:=W p e;rcases G with ⟨x,q⟩ | ⟨x,y,H,J,S,kQ,Ck⟩
  ·obtain ⟨v,o⟩:=R.known _ _ _ k q;obtain ⟨D,_,V⟩:=R.lt _ _ _ _ (aR k) o;obtain ⟨d,g⟩:=R.cH (t:=t) (x:=x) (pD V) D (aR k);rw [o] at d;have d:=ff d;obtain ⟨x1,hp1,lO⟩:=R.lK (t:=t) (x:=x) (pD V) D (aR k);have p:=R.bar _ _ _ _ _ k q o lO;have f:(-v).toNat<l+1:=by lia
   obtain ⟨x,rfl⟩:∃z,x=z+1:=⟨x-1,by lia⟩;exact ⟨x*(l+1)+(-v).toNat,by have:=enc (a:=x) (N:=7) (show x<7 by exact B7 D B) f;exact EJ this,t,j,e,.inl ⟨x,(-v).toNat,q,B7 D B,f,by rw [o];congr 1;lia,U⟩⟩
  ·obtain ⟨d,g⟩:=R.cH (t:=t+1) H J (show t+1<=T by exact k);rw [S] at d;have d:=ff d;have f:(-y).toNat<mo+1:=by lia
   obtain ⟨x,rfl⟩:∃z,x=z+1:=⟨x-1,by lia⟩;exact ⟨7*(l+1)+(x*(mo+1)+(-y).toNat),by have:=enc (a:=x) (N:=7) (show x<7 by exact B7 J B) f;exact pC this,t,j,e,.inr ⟨x,(-y).toNat,B7 J B,f,by rw [S];congr 1;lia,kQ,U⟩⟩)
  (λb F c Y X _ _ j e=>by
   obtain ⟨t,_,t2,j⟩:=j;obtain ⟨t',Â,FV,e⟩:=e;have Q:t<t':=by have:=R.cC O (i:=7*b+7) (7*F-(7*b+7)) (by omega);rw [show 7*b+7+(7*F-(7*b+7))=7*F by exact Na Y] at this;lia
   have L:=W X FV;rcases j with ⟨x,r,q,H,f,o,d⟩ | ⟨x,r,_,f,o,_,d⟩
   ·rcases e with ⟨A,E,϶,I,u,C,g⟩ | ⟨A,E,_,_,_,_,g⟩
    ·obtain ⟨rfl,rfl⟩:=dec f u (d.symm.trans g);have:=R.drop _ _ _ _ _ _ Q L q ϶ o C;lia
    ·have:=enc (a:=x) (N:=7) H f;exact MZ this g d
   ·rcases e with ⟨A,E,_,I,u,_,g⟩ | ⟨A,E,I,u,C,Ie,g⟩
    ·have:=enc (a:=A) (N:=7) I u;exact MZ this d g
    ·obtain ⟨rfl,rfl⟩:=dec f u (show x*(mo+1)+r=A*(mo+1)+E by exact M9 d g);have:=R.same o C (s:=t') (by exact Q) (by exact gQ gj) (by exact L);exact Ie (C.trans this.symm))
 rw [K_ λi _=>trivial] at key;lia
end
section
variable {n l mo T:Nat}
theorem Bd.vk (R:Bd n L most T len m wt pt pw) (k:t<T):∃g,(∀i,i<=g->gen len i<=t)/\t<gen len (g+1):=by
 have d:∀N,(∀i,i<=N->gen len i<=t/\i<=gen len i)\/∃g,(∀i,i<=g->gen len i<=t)/\t<gen len (g+1):=by
  intro N
  induction N with
  | zero=>exact .inl λi a=>by rw [show i=0 by lia];exact ⟨dV _,dV _⟩
  | succ N b=>
   rcases b with h | h
   ·by_cases c:gen len (N+1)<=t
    ·refine .inl λi a=>?_
     by_cases e:i=N+1
     ·rw [e];have f:=h N (ar _);have j:gen len N<gen len (N+1):=R.go (gen len N) (by lia);exact ⟨c,by lia⟩
     ·exact h i (by lia)
    ·exact .inr ⟨N,λi a=>(h i a).1,um c⟩
   ·exact .inr h
 rcases d (t+1) with h | h
 ·have:=h (t+1) (ar _);omega
 ·exact h
theorem Bd.kU (R:Bd n L most T len m wt pt pw) (h:∀i,i<=g'->gen len i<=t) (c:t<=T) (a:g<=g'):gen len g<=gen len g':=by
 have:=R.cC (N:=g') (λi b=>cQ (h i b) c) (i:=g) (g'-g) (yh a)
 rwa [show g+(g'-g)=g' by exact kI a] at this
theorem Bd.j9 (R:Bd n L most T len m wt pt pw) (f:0<=B) (g:t<=T) (h:∀x y v,m t x y=some v->-B<=v):∀s,s<=t->∀a b v,wt s a b=some v->v<=most+B
 | 0,_,a,b,v,e=>by rw [R.sJ] at e;cases e
 | s+1,i,a,b,v,e=>by
  by_cases c:wt (s+1) a b=wt s a b
  ·exact R.j9 f g h s (by exact aR i) a b v (c▸e)
  ·obtain ⟨y,d,o⟩:=R.nQ s a b B (by lia) f (λx y r j=>by
    obtain ⟨q,p,k⟩:=R.jG j i g;have:=h x y q k;exact uh this p) c
   rw [e] at d;cases d;exact o
theorem Bd.yJ (R:Bd n (l:Int) (mo:Int) T len m wt pt pw) (D:∀i,i<=g+1->gen len i<=T) (N:∀a b,a<n->b<n->a≠b->Kn m (gen len g) a b (l:Int))
 (F:∀k,gen len g<=k->k<gen len (g+1)->(∀a b,¬pt k a b)/\∀a b,m (k+1) a b=m k a b) (h1:gen len g<=t) (z:t<gen len (g+1)) (j:pw t a b) (p:wt t a b=some v):1-(l:Int)<=v/\v<=(mo:Int)+l:=by
 have f:=D (g+1) (ar _);have E:=R.jc (D g (by exact gQ gj)) f;have same:∀x y d,gen len g+d<=gen len (g+1)->m (gen len g+d) x y=m (gen len g) x y:=λx y d=>by
  induction d with
  | zero=>intro _;rfl
  | succ d W=>exact λC=>((F (gen len g+d) iK (by exact C)).2 x y).trans (W (by exact aR C))
 have M:∀x y,m (gen len (g+1)) x y=m (gen len g) x y:=λx y=>by
  have:=same x y (gen len (g+1)-gen len g) (by lia)
  rwa [show gen len g+(gen len (g+1)-gen len g)=gen len (g+1) by lia] at this
 have B:∀x y q,m (gen len (g+1)) x y=some q->∃s,s<gen len g/\pt s x y/\m s x y=some q:=λx y q h=>by obtain ⟨s,A,j,p⟩:=R.ei (gen len g) (gen len (g+1)) x y q f (ar _) E ((M x y).symm.trans h) h;refine ⟨s,?_,j,p⟩;refine fu λc=>?_;exact (F s (by exact jt c) A).1 x y j
 have G:∀x y,x<n->y<n->x≠y->Kn m (gen len (g+1)) x y (l:Int):=λx y Q V S=>R.kn (N x y Q V S) E f;have low:∀x y q,m (gen len (g+1)) x y=some q->-(l:Int)<=q:=λx y q h=>by
  obtain ⟨x1,x2,L⟩:=R.lt _ _ _ _ f h;obtain ⟨q',O,o⟩:=G y x x2 x1 (a6 L);obtain ⟨s,A,r,u⟩:=B x y q h;obtain ⟨I,hs',H,J⟩:=B y x q' o;rcases wX s I with c | c | c
  ·have:=R.same u h (s:=I) (by exact aR c) (by lia) f;have:=R.bar _ _ _ _ _ (by lia) H J this;lia
  ·subst c;have:=(R.one _ _ _ _ _ (by lia) r H).1;exact gX (L this)
  ·have:=R.same J o (s:=s) (by exact aR c) (by lia) f;have:=R.bar _ _ _ _ _ (by lia) r u this;lia
 refine ⟨?_,R.j9 (An l) f (λx y v e=>low x y v e) t (by exact aR z) a b v p⟩;obtain ⟨X,Y,Z,_⟩:=R.hZ _ _ _ (fL z f) j;obtain ⟨q,O,o⟩:=G a b X Y Z;obtain ⟨s,A,r,u⟩:=B a b q o;have:=R.bE _ _ _ _ _ _ (by lia) r u (show s<=t by lia) (fL z f) j p;lia
theorem Bd.after (R:Bd n (l:Int) (mo:Int) T len m wt pt pw) (QR:∀i,i<=g1->gen len i<=T) (hk:∀a b,a<n->b<n->a≠b->Kn m (gen len g1) a b (l:Int)):
 len T<=len (gen len g1)+20*(56*(2*l+1))+8*((56*(2*l+1)+56*(mo+l+1))*56+(56*(mo+2*l+1)+56)):=by
 have h1:=QR g1 (ar _);have A:=R.n8;have g:=R.kS (t0:=gen len g1) (T-gen len g1) (yh h1);rw [show gen len g1+(T-gen len g1)=T by exact kI h1] at g;have kn:∀t x y,gen len g1<=t->t<=T->x<n->y<n->x≠y->Kn m t x y (l:Int):=λt x y ht q hx Y HA=>R.kn (hk x y hx Y HA) ht q;have tie:∀t a b,gen len g1<=t->t<T->pt t a b->∃r,a<8/\N8 a b/\r<2*l+1/\m t a b=some ((r:Int)-l):=λt a b x6 h' e=>by obtain ⟨x7,X⟩:=R.known _ _ _ h' e;obtain ⟨G,Z,l3⟩:=R.lt _ _ _ _ (aR h') X;obtain ⟨v1,hle,z⟩:=kn t a b x6 (aR h') G Z l3;rw [X] at z;cases z;obtain ⟨nP,hu,eu⟩:=kn t b a x6 (aR h') Z G (a6 l3);have:=R.bar _ _ _ _ _ h' e X eu;exact ⟨(x7+l).toNat,fL G A,⟨fL G A,fL Z A,l3⟩,by lia,by rw [X];congr 1;lia⟩
 have c1:cnt (λi=>∃a b,pt (gen len g1+i) a b) (T-gen len g1)<=56*(2*l+1):=by
  refine tY (λi c=>∃a b r,pt (gen len g1+i) a b/\a<8/\N8 a b/\r<2*l+1/\m (gen len g1+i) a b=some ((r:Int)-l)/\c=kc a b*(2*l+1)+r) (λi hi p=>?_) (λi j c W hj _ _ h u=>?_)
  ·obtain ⟨a,b,e⟩:=p;obtain ⟨r,B,f,L,x4⟩:=tie _ a b (mC _ _) (uj hi) e;exact ⟨_,enc (mP f) L,a,b,r,e,B,f,L,x4,U⟩
  ·obtain ⟨a,b,r,e,_,f,L,x4,z⟩:=h;obtain ⟨a',b',r',F,y1,C,y3,y4,V⟩:=u;obtain ⟨E,rfl⟩:=dec L y3 (z.symm.trans V);obtain ⟨rfl,rfl⟩:=rX f C E;have:=R.drop _ _ _ _ _ _ (show gen len g1+i<gen len g1+j by exact pC W) (uj hj) e F x4 y4;lia
 have c2:cnt (λi=>∃a b,pw (gen len g1+i) a b) (T-gen len g1)<=(56*(2*l+1)+56*(mo+l+1))*56+(56*(mo+2*l+1)+56):=by
  let O:Nat->Nat->Prop:=λt g=>(∀i,i<=g->gen len i<=t)/\t<gen len (g+1)/\gen len (g+1)<=T
  let S:Nat->Prop:=λd=>(∃a b,pt d a b)\/∃a b,m (d+1) a b≠m d a b
  have up:∀{t g},gen len g1<=t->t<T->(∀i,i<=g->gen len i<=t)->t<gen len (g+1)->g1<=g:=λ{t g} x6 _ _ u=>by refine fu λc=>?_;have:=R.cC QR (i:=g+1) (g1-(g+1)) (by lia);rw [show g+1+(g1-(g+1))=g1 by omega] at this;lia
  have s1:=Di (P:=λi=>∃a b,pw (gen len g1+i) a b/\gen len g1+i<T) (Q:=λi=>(∃a b,pw (gen len g1+i) a b)/\∃g,O (gen len g1+i) g/\∃d,gen len g<=d/\d<gen len (g+1)/\S d)
   (R:=λi=>(∃a b,pw (gen len g1+i) a b)/\((∃g,O (gen len g1+i) g/\∀d,gen len g<=d->d<gen len (g+1)->¬S d)\/∃g,gen len g<=gen len g1+i/\T<gen len (g+1))) (λi p=>by
    obtain ⟨a,b,e,q⟩:=p;obtain ⟨g,h,u⟩:=R.vk q
    by_cases c:gen len (g+1)<=T
    ·by_cases x5:∃d,gen len g<=d/\d<gen len (g+1)/\S d
     ·exact .inl ⟨⟨a,b,e⟩,g,⟨h,u,c⟩,x5⟩
     ·exact .inr ⟨⟨a,b,e⟩,.inl ⟨g,⟨h,u,c⟩,λd y1 C y3=>x5 ⟨d,y1,C,y3⟩⟩⟩
    ·exact .inr ⟨⟨a,b,e⟩,.inr ⟨g,h g (ar _),um c⟩⟩) (T-gen len g1)
  have s0:cnt (λi=>∃a b,pw (gen len g1+i) a b) (T-gen len g1)=cnt (λi=>∃a b,pw (gen len g1+i) a b/\gen len g1+i<T) (T-gen len g1):=by
   have:∀N,N<=T-gen len g1->cnt (λi=>∃a b,pw (gen len g1+i) a b) N=cnt (λi=>∃a b,pw (gen len g1+i) a b/\gen len g1+i<T) N:=λN=>by
    induction N with
    | zero=>intro _;rfl
    | succ N ih=>
     intro hN
     by_cases c:∃a b,pw (gen len g1+N) a b
     ·obtain ⟨a,b,e⟩:=c;rw [mQ ⟨a,b,e⟩,mQ (P:=λi=>∃a b,pw (gen len g1+i) a b/\gen len g1+i<T) ⟨a,b,e,UY hN⟩,ih (by exact aR hN)]
     ·rw [qj c,qj (P:=λi=>∃a b,pw (gen len g1+i) a b/\gen len g1+i<T) λ⟨a,b,e,_⟩=>c ⟨a,b,e⟩,ih (by exact aR hN)]
   exact this _ (ar _)
  have s2:=Di (P:=λi=>(∃a b,pw (gen len g1+i) a b)/\((∃g,O (gen len g1+i) g/\∀d,gen len g<=d->d<gen len (g+1)->¬S d)\/∃g,gen len g<=gen len g1+i/\T<gen len (g+1)))
   (Q:=λi=>(∃a b,pw (gen len g1+i) a b)/\∃g,O (gen len g1+i) g/\∀d,gen len g<=d->d<gen len (g+1)->¬S d) (R:=λi=>(∃a b,pw (gen len g1+i) a b)/\∃g,gen len g<=gen len g1+i/\T<gen len (g+1)) (λi p=>p.2.elim (λx9=>.inl ⟨p.1,x9⟩) λx9=>.inr ⟨p.1,x9⟩) (T-gen len g1)
  have uY:∀{t a b},t<T->pw t a b->a<8/\N8 a b:=λ{t a b} x6 e=>by obtain ⟨B,f,L,_⟩:=R.hZ _ _ _ x6 e;exact ⟨fL B A,fL B A,fL f A,L⟩
  have d3:cnt (λi=>(∃a b,pw (gen len g1+i) a b)/\∃g,gen len g<=gen len g1+i/\T<gen len (g+1)) (T-gen len g1)<=56:=by
   refine tY (λi c=>∃a b,pw (gen len g1+i) a b/\a<8/\N8 a b/\c=kc a b) (λi hi p=>?_) (λi j c W hj p _ h u=>?_)
   ·obtain ⟨⟨a,b,e⟩,_⟩:=p;obtain ⟨B,f⟩:=uY (show gen len g1+i<T by exact uj hi) e;exact ⟨_,mP f,a,b,e,B,f,U⟩
   ·obtain ⟨_,g,z3,z4⟩:=p;obtain ⟨a,b,e,_,f,z⟩:=h;obtain ⟨a',b',F,y1,C,V⟩:=u;obtain ⟨rfl,rfl⟩:=rX f C (z.symm.trans V);have H:=R.lE _ _ _ _ (show gen len g1+i<gen len g1+j by exact pC W) (uj hj) e F;have I:gen len (g+1)<=len (gen len g1+i):=R.eD z3 (by omega);omega
  have d2:cnt (λi=>(∃a b,pw (gen len g1+i) a b)/\∃g,O (gen len g1+i) g/\∀d,gen len g<=d->d<gen len (g+1)->¬S d) (T-gen len g1)<=56*(mo+2*l+1):=by
   refine tY (λi c=>∃a b r,pw (gen len g1+i) a b/\a<8/\N8 a b/\r<mo+2*l+1/\wt (gen len g1+i) a b=some ((r:Int)+1-l)/\c=kc a b*(mo+2*l+1)+r) (λi _ p=>?_) (λi j c W _ _ _ h u=>?_)
   ·obtain ⟨⟨a,b,e⟩,g,⟨h,u,z3⟩,z4⟩:=p;have q:gen len g1+i<T:=fL u z3;obtain ⟨B,f⟩:=uY q e;obtain ⟨_,_,_,x7,X⟩:=R.hZ _ _ _ q e;have I0:=up (mC _ _) q h u;have QQ:∀i,i<=g+1->gen len i<=T:=λk wM=>by
     by_cases x8:k=g+1
     ·rw [x8];exact z3
     ·have:=h k (by lia);lia
    have hle:gen len g1<=gen len g:=R.kU h (aR q) I0;obtain ⟨y1,C⟩:=R.yJ QQ (λx y hx Y HA=>kn _ x y hle (QQ g (by exact gQ gj)) hx Y HA) (λd H I=>⟨λx y F=>z4 d H I (.inl ⟨x,y,F⟩),λx y=>fu λhc=>z4 d H I (.inr ⟨x,y,hc⟩)⟩) (h g (ar _)) u e X;have hr:(x7-1+l).toNat<mo+2*l+1:=by lia
    exact ⟨_,enc (mP f) hr,a,b,_,e,B,f,hr,by rw [X];congr 1;lia,U⟩
   ·obtain ⟨a,b,r,e,_,f,L,x4,z⟩:=h;obtain ⟨a',b',r',F,y1,C,y3,y4,V⟩:=u;obtain ⟨E,rfl⟩:=dec L y3 (z.symm.trans V);obtain ⟨rfl,rfl⟩:=rX f C E;have:=R.sL _ _ _ _ _ _ (show gen len g1+i<gen len g1+j by exact pC W) (by omega) e F x4 y4;lia
  have d1:cnt (λi=>(∃a b,pw (gen len g1+i) a b)/\∃g,O (gen len g1+i) g/\∃d,gen len g<=d/\d<gen len (g+1)/\S d) (T-gen len g1)<=(56*(2*l+1)+56*(mo+l+1))*56:=by
   refine tY (λi c=>∃g d a b v,O (gen len g1+i) g/\gen len g<=d/\d<gen len (g+1)/\pw (gen len g1+i) a b/\a<8/\N8 a b/\c=v*56+kc a b/\
    ((∃x y r,pt d x y/\x<8/\N8 x y/\r<2*l+1/\m d x y=some ((r:Int)-l)/\v=kc x y*(2*l+1)+r)\/
     ∃x y r,x<8/\N8 x y/\r<mo+l+1/\m (d+1) x y=some ((r:Int)-mo)/\m (d+1) x y≠m d x y/\v=56*(2*l+1)+(kc x y*(mo+l+1)+r))) (λi _ p=>?_) (λi j c W _ _ _ h u=>?_)
   ·obtain ⟨⟨a,b,e⟩,g,o,d,t1,t2,HL⟩:=p;have q:gen len g1+i<T:=fL o.2.1 o.2.2;obtain ⟨B,f⟩:=uY q e;have I0:=up (mC _ _) q o.1 o.2.1;have hle:gen len g1<=gen len g:=R.kU o.1 (aR q) I0;have Cf:d<T:=by have:=o.2.2;exact fL t2 o.2.2
    have tc:∀x y,pt d x y->∃v,v<56*(2*l+1)+56*(mo+l+1)/\∃x y r,pt d x y/\x<8/\N8 x y/\r<2*l+1/\m d x y=some ((r:Int)-l)/\v=kc x y*(2*l+1)+r:=λx y D=>by obtain ⟨r,H,I,J,q4⟩:=tie d x y (qz hle t1) Cf D;refine ⟨_,?_,x,y,r,D,H,I,J,q4,U⟩;have:=enc (mP I) J;exact EJ this
    have fin:∀v,v<56*(2*l+1)+56*(mo+l+1)->v*56+kc a b<(56*(2*l+1)+56*(mo+l+1))*56:=λv hc=>enc hc (mP f)
    by_cases c:∃x y,pt d x y
    ·obtain ⟨x,y,D⟩:=c;obtain ⟨v,hc,rest⟩:=tc x y D;exact ⟨_,fin v hc,g,d,a,b,v,o,t1,t2,e,B,f,U,.inl rest⟩
    ·rcases HL with ⟨x,y,D⟩ | ⟨x,y,kQ⟩
     ·exact absurd ⟨x,y,D⟩ c
     ·rcases R.cause d x y Cf kQ with ⟨c',x7,kJ,M,D,_⟩ | ⟨c',D,_⟩ | ⟨e',M,_,Y,Ck⟩
      ·exact absurd ⟨x,c',D⟩ c
      ·exact absurd ⟨c',y,D⟩ c
      ·obtain ⟨G,Z,l3⟩:=R.lt _ _ _ _ (show d+1<=T by exact Cf) Y;obtain ⟨v1,hle1,z⟩:=kn (d+1) x y (by lia) (by exact Cf) G Z l3;rw [Y] at z;cases z;have hr:(M+mo).toNat<mo+l+1:=by lia
       refine ⟨_,fin (56*(2*l+1)+(kc x y*(mo+l+1)+(M+mo).toNat)) ?_,g,d,a,b,_,o,t1,t2,e,B,f,U,.inr ⟨x,y,_,fL G A,⟨fL G A,fL Z A,l3⟩,hr,by rw [Y];congr 1;lia,kQ,U⟩⟩;have:=enc (mP ⟨fL G A,fL Z A,l3⟩) hr;exact pC this
   ·obtain ⟨g,d,a,b,v,o,_,t2,e,_,f,z,hcg⟩:=h;obtain ⟨g',xr,a',b',cg',wO,Â,FV,F,y1,C,V,zy⟩:=u;obtain ⟨ec,E⟩:=dec (mP f) (mP C) (z.symm.trans V);obtain ⟨rfl,rfl⟩:=rX f C E;subst ec;have q:gen len g1+j<T:=fL wO.2.1 wO.2.2;have Km:d<T:=by have:=o.2.2;exact fL t2 o.2.2
    have xq:xr<T:=by have:=wO.2.2;exact fL FV wO.2.2
    have eτ:d=xr:=by
     rcases hcg with ⟨x,y,r,p1,_,p3,p4,p5,p6⟩ | ⟨x,y,r,_,p3,p4,p5,pn,p6⟩
     ·rcases zy with ⟨x',M,r',H,I,J,q4,q5,q6⟩ | ⟨x',M,r',_,_,_,_,_,q6⟩
      ·obtain ⟨E,rfl⟩:=dec p4 q4 (p6.symm.trans q6);obtain ⟨rfl,rfl⟩:=rX p3 J E;rcases wX d xr with c | c | c
       ·have:=R.drop _ _ _ _ _ _ c xq p1 H p5 q5;lia
       ·exact c
       ·have:=R.drop _ _ _ _ _ _ c Km H p1 q5 p5;lia
      ·have:=enc (mP p3) p4;exact MD this q6 p6
     ·rcases zy with ⟨x',M,r',_,_,J,q4,_,q6⟩ | ⟨x',M,r',I,J,q4,q5,qn,q6⟩
      ·have:=enc (mP J) q4;exact MD this p6 q6
      ·obtain ⟨E,rfl⟩:=dec p4 q4 (show kc x y*(mo+l+1)+r=kc x' M*(mo+l+1)+r' by exact M9 p6 q6);obtain ⟨rfl,rfl⟩:=rX p3 J E;rcases wX d xr with c | c | c
       ·have:=R.same p5 q5 (s:=xr) (by exact c) (by exact gQ gj) (by exact xq);exact absurd (q5.trans this.symm) qn
       ·exact c
       ·have:=R.same q5 p5 (s:=d) (by exact c) (by exact gQ gj) (by exact Km);exact absurd (p5.trans this.symm) pn
    subst eτ;have H:=R.lE _ _ _ _ (show gen len g1+i<gen len g1+j by exact pC W) q e F;have I:gen len (g+1)<=len (gen len g1+i):=R.eD (o.1 g (ar _)) (by lia);have J:gen len (g'+1)<=gen len (g+1):=by
     refine fu λc=>?_;have hgg:g<g':=by
      refine fu λx5=>?_;have e0:∀k,k<=g+1->gen len k<=T:=λk wM=>by
       by_cases x8:k=g+1
       ·rw [x8];exact o.2.2
       ·have:=o.1 k (by lia);lia
      have:=R.cC e0 (i:=g'+1) (g+1-(g'+1)) (TB x5);rw [show g'+1+(g+1-(g'+1))=g+1 by exact T1 x5] at this;exact c this
     have:=R.kU (g:=g+1) wO.1 (aR q) (by exact hgg);lia
    have:=wO.2.1;lia
  rw [s0];exact cQ s1 (JK d1 (cQ s2 (JK d2 d3)))
 have m1:=Nat.mul_le_mul_left 20 c1;have m2:=Nat.mul_le_mul_left 8 c2;exact cQ g (JK (JP m1 _) m2)
theorem Bd.rows (R:Bd n (l:Int) (mo:Int) T len m wt pt pw):len T<=len 0+1568*(7*(7*(l+1)+7*(mo+1)+1))+20*(56*(2*l+1))+8*((56*(2*l+1)+56*(mo+l+1))*56+(56*(mo+2*l+1)+56)):=by
 rcases R.gens (7*(7*(l+1)+7*(mo+1)+1)) with ⟨a,d⟩ | h
 ·obtain ⟨b,f,g⟩:=R.quiet U a;have c:∀i,i<=7*b+7->gen len i<=T:=λi o=>a i (by lia);have k:=R.after (g1:=7*b+7) c (R.narrow c g);have e:=R.cC a (i:=7*b+7) (7*(7*(l+1)+7*(mo+1)+1)-(7*b+7)) (by omega);rw [show 7*b+7+(7*(7*(l+1)+7*(mo+1)+1)-(7*b+7))=7*(7*(l+1)+7*(mo+1)+1) by exact Na f] at e;have j:=R.eD e (a _ (ar _));exact cQ k (w_ (w_ (cQ j d) _) _)
 ·exact cQ h (cQ (mC _ _) (mC _ _))
end
end MH
namespace MU
theorem ED (r:iQ n F most) (g:bP n s) (B:aj s at_=some p) (R:p.a=a) (H:p.b=b) (A:(hX n F at_ a b s).bar=none):
 Add (λw=>(w.tie=true->(w.a=a/\w.b≠b/\∃q,val s (true,b,w.b)=some q/\w.v=p.v+q)\/(w.b=b/\w.a≠a))/\(w.tie=false->w.v<=most-p.v/\∃f,F w.b=some f)) s (hX n F at_ a b s):=by
 unfold hX at A ⊢;dsimp only at A ⊢;generalize k:(λw:au=>(w.tie=true->(w.a=a/\w.b≠b/\∃q,val s (true,b,w.b)=some q/\w.v=p.v+q)\/(w.b=b/\w.a≠a))/\(w.tie=false->w.v<=most-p.v/\∃f,F w.b=some f))=C;have g1:bP n (bh (dQ F) .bE at_ s):=l8 g xZ;have O:Imp s (bh (dQ F) .bE at_ s):=iT _ _ _ _;have Z:Add (λw=>w.tie=true->w.b=b) s (bh (dQ F) .bE at_ s):=tU B λw e ht=>by
  unfold dQ at e;split at e
  ·cases q:F p.b with
   | none=>rw [q] at e;cases e
   | some f=>rw [q] at e;cases e;cases ht
  ·cases e
 have T:Add C s (bh (dQ F) .bE at_ s):=tU B λw e=>by
  subst k;unfold dQ at e;split at e
  ·cases q:F p.b with
   | none=>rw [q] at e;cases e
   | some f=>
    rw [q] at e;cases e;have:=r.num _ _ q;exact ⟨nofun,λ_=>⟨by show f.2.2-p.v<=_;lia,f,q⟩⟩
  ·cases e
 generalize bh (dQ F) .bE at_ s=s1 at*;have D:=cD O.1 B;have o:bP n (bh (eM F) .cz at_ s1):=l8 g1 (yd r);have u:Imp s1 (bh (eM F) .cz at_ s1):=iT _ _ _ _;have T2:Add (λw=>w.tie=true->w.b=b) s1 (bh (eM F) .cz at_ s1):=tU D λw e _=>by
  unfold eM at e;split at e
  ·cases q:F p.a with
   | none=>rw [q] at e;cases e
   | some f=>rw [q] at e;cases e;exact H
  ·cases e
 have V:Add C s1 (bh (eM F) .cz at_ s1):=tU D λw e=>by
  subst k;unfold eM at e;split at e
  ·cases q:F p.a with
   | none=>rw [q] at e;cases e
   | some f=>
    rw [q] at e;cases e;refine ⟨λ_=>.inr ⟨H,λz=>?_⟩,nofun⟩;have z:f.1=a:=z;have:=r.own _ _ q;rw [z,<-R,q] at this;cases this
  ·cases e
 generalize bh (eM F) .cz at_ s1=s2 at*;have M:=cD u.1 D;have T12:=Z.trans u.1 T2;have yT:∀z,z≠b->val s2 (true,b,z)=val s (true,b,z):=λz hz=>fu λhc=>by obtain ⟨j,w,l,hw,m,_⟩:=DI g o (O.1.trans u.1) hc;obtain ⟨kt,_,kb⟩:=gT m;have:=T12 j w l hw kt;exact hz (kb.symm.trans this)
 have E:Imp s2 ((dz n s2 true b).foldl (λd j=>av aP .sum at_ j d) s2):=hY (λ_ _=>fx ..) _ _;have L:bP n ((dz n s2 true b).foldl (λd j=>av aP .sum at_ j d) s2):=sI (λ_ _ g=>tZ g xU) _ _ o;have G:=hY (f:=λd j=>av aP .sum j at_ d) (λ_ _=>fx ..) (ef n ((dz n s2 true b).foldl (λd j=>av aP .sum at_ j d) s2) a) ((dz n s2 true b).foldl (λd j=>av aP .sum at_ j d) s2);have Q:=hY (f:=λd j=>av (bJ F) .back j at_ d) (λ_ _=>fx ..) (dz n ((ef n ((dz n s2 true b).foldl (λd j=>av aP .sum at_ j d) s2) a).foldl (λd j=>av aP .sum j at_ d) ((dz n s2 true b).foldl (λd j=>av aP .sum at_ j d) s2)) false b) ((ef n ((dz n s2 true b).foldl (λd j=>av aP .sum at_ j d) s2) a).foldl (λd j=>av aP .sum j at_ d) ((dz n s2 true b).foldl (λd j=>av aP .sum at_ j d) s2));have b4:=fu λz=>Q.1.bar z A;have I:=fu λz=>G.1.bar z b4;have b2:=fu λz=>E.1.bar z I;have W:Add C s2 ((dz n s2 true b).foldl (λd j=>av aP .sum at_ j d) s2):=uq (f:=λd j=>av aP .sum at_ j d) (λ_ _=>fx ..) _ s2 s2 (Imp.refl _) λj l y h=>by
  subst k;obtain ⟨c,_,t⟩:=EN l;obtain ⟨q,i,m⟩:=o.at_ _ _ t;obtain ⟨_,S,v⟩:=gT m;have x:=o.ne b2 j q i;refine Dj (cD h.1 M) (cD h.1 i) λw e=>?_;unfold aP at e;split at e
  ·cases e;have hcb:c≠b:=λz=>x (by rw [S,v,z]);refine ⟨λ_=>.inl ⟨R,λz=>x (by rw [S];exact z.symm),q.v,?_,U⟩,nofun⟩;show val s (true,b,q.b)=_;rw [v,<-yT c hcb];exact nO t i
  ·cases e
 generalize (dz n s2 true b).foldl (λd j=>av aP .sum at_ j d) s2=s3 at*;have N:=cD E.1 M;have X:Add C s3 ((ef n s3 a).foldl (λd j=>av aP .sum j at_ d) s3):=uq (f:=λd j=>av aP .sum j at_ d) (λ_ _=>fx ..) _ s3 s3 (Imp.refl _) λj l y h=>by
  subst k;obtain ⟨c,_,t⟩:=BK l;obtain ⟨q,i,m⟩:=L.at_ _ _ t;obtain ⟨_,_,v⟩:=gT m;have x:=L.ne I j q i;refine Dj (cD h.1 i) (cD h.1 N) λw e=>?_;unfold aP at e;split at e
  ·cases e;exact ⟨λ_=>.inr ⟨H,λz=>x (by rw [v];exact z)⟩,nofun⟩
  ·cases e
 generalize (ef n s3 a).foldl (λd j=>av aP .sum j at_ d) s3=s4 at*;have Cj:=cD G.1 N;have Y:Add C s4 ((dz n s4 false b).foldl (λd j=>av (bJ F) .back j at_ d) s4):=uq (f:=λd j=>av (bJ F) .back j at_ d) (λ_ _=>fx ..) _ s4 s4 (Imp.refl _) λj _ y h=>qv λw e=>by
  subst k
  cases J:aj y j with
  | none=>rw [J] at e;cases e
  | some q=>
   rw [J] at e;have e:(aj y at_).bind (λp=>bJ F q p)=some w:=e;rw [cD h.1 Cj] at e;have e:bJ F q p=some w:=e;unfold bJ at e;split at e
   ·cases z:F q.b with
    | none=>rw [z] at e;cases e
    | some f=>
     rw [z] at e;cases e;have:=r.num _ _ z;exact ⟨nofun,λ_=>⟨by show min q.v f.2.2-p.v<=_;lia,f,z⟩⟩
   ·cases e
 exact (((T.trans u.1 V).trans E.1 W).trans G.1 X).trans Q.1 Y
theorem VF:Add (λw=>w.tie=false->∃f,F w.b=some f) s (gD n F at_ a s):=by
 unfold gD;dsimp only;have g:Add (λw:au=>w.tie=false->∃f,F w.b=some f) s (bh (dR F) .sure at_ s):=qv λw e c=>by
  cases q:aj s at_ with
  | none=>rw [q] at e;cases e
  | some p=>
   rw [q] at e;have e:dR F p=some w:=e;unfold dR at e;split at e
   ·cases z:F p.b with
    | none=>rw [z] at e;cases e
    | some f=>rw [z] at e;cases e;cases c
   ·cases e
 have m:Imp s (bh (dR F) .sure at_ s):=iT _ _ _ _;generalize bh (dR F) .sure at_ s=s1 at*;have h:Add (λw:au=>w.tie=false->∃f,F w.b=some f) s1 (bh (di F) .aG at_ s1):=qv λw e c=>by
  cases q:aj s1 at_ with
  | none=>rw [q] at e;cases e
  | some p=>
   rw [q] at e;have e:di F p=some w:=e;unfold di at e;split at e
   ·cases z:F p.a with
    | none=>rw [z] at e;cases e
    | some o=>
     rw [z] at e;have e:(F p.b).map (λf=>(⟨false,o.1,p.b,min p.v f.2.2-o.2.1⟩:au))=some w:=e
     cases C:F p.b with
     | none=>rw [C] at e;cases e
     | some f=>rw [C] at e;cases e;exact ⟨f,C⟩
   ·cases e
 have k:Imp s1 (bh (di F) .aG at_ s1):=iT _ _ _ _;generalize bh (di F) .aG at_ s1=s2 at*;have i:Add (λw:au=>w.tie=false->∃f,F w.b=some f) s2 ((ef n s2 a).foldl (λb j=>av (bJ F) .back at_ j b) s2):=uq (f:=λb j=>av (bJ F) .back at_ j b) (λ_ _=>fx ..) _ s2 s2 (Imp.refl _) λj _ d _=>qv λw e c=>by
  cases I:aj d at_ with
  | none=>rw [I] at e;cases e
  | some p=>
   rw [I] at e;have e:(aj d j).bind (λq=>bJ F p q)=some w:=e
   cases J:aj d j with
   | none=>rw [J] at e;cases e
   | some q=>
    rw [J] at e;have e:bJ F p q=some w:=e;unfold bJ at e;split at e
    ·cases z:F p.b with
     | none=>rw [z] at e;cases e
     | some f=>rw [z] at e;cases e;exact ⟨f,z⟩
    ·cases e
 have l:Imp s2 ((ef n s2 a).foldl (λb j=>av (bJ F) .back at_ j b) s2):=hY (λ_ _=>fx ..) _ _;exact (g.trans k.1 h).trans l.1 i
theorem gp (st:St) (o:Option au) (word:Wd) (used:List Nat):(put st o word used).rows.length<=st.rows.length+1:=by
 cases o with
 | none=>exact kg _
 | some w=>
  show (take st w word used).rows.length<=_
  by_cases c:gm st w
  ·rw [(Bl c).2.2];exact ar _
  ·rw [ud c];exact kg _
theorem nN (a:∀s j,(f s j).rows.length<=s.rows.length+1):∀(l:List Nat) (s:St),(l.foldl f s).rows.length<=s.rows.length+l.length
 | [],s=>ar _
 | j::l,s=>by have b:=nN a l (f s j);have c:=a s j;rw [gw];show (l.foldl f (f s j)).rows.length<=_;exact EI b c
theorem Bx:(dz n st tie a).length<=n:=by have:=Aq (λb=>st.best (tie,a,b)) (List.range n);rw [i4] at this;exact this
theorem BJ:(ef n st b).length<=n:=by have:=Aq (λa=>st.best (true,a,b)) (List.range n);rw [i4] at this;exact this
theorem Z7:(hX n F at_ a b s).rows.length<=s.rows.length+(2+3*n):=by unfold hX;dsimp only;have c:(bh (dQ F) .bE at_ s).rows.length<=s.rows.length+1:=gp _ _ _ _;generalize bh (dQ F) .bE at_ s=s1 at*;have d:(bh (eM F) .cz at_ s1).rows.length<=s1.rows.length+1:=gp _ _ _ _;generalize bh (eM F) .cz at_ s1=s2 at*;have e:=nN (f:=λst j=>av aP .sum at_ j st) (λ_ _=>gp _ _ _ _) (dz n s2 true b) s2;have i:=Bx (n:=n) (tie:=true) (st:=s2) (a:=b);generalize (dz n s2 true b).foldl (λst j=>av aP .sum at_ j st) s2=s3 at*;have g:=nN (f:=λst j=>av aP .sum j at_ st) (λ_ _=>gp _ _ _ _) (ef n s3 a) s3;have k:=BJ (n:=n) (st:=s3) (b:=a);generalize (ef n s3 a).foldl (λst j=>av aP .sum j at_ st) s3=s4 at*;have h:=nN (f:=λst j=>av (bJ F) .back j at_ st) (λ_ _=>gp _ _ _ _) (dz n s4 false b) s4;have l:=Bx (n:=n) (tie:=false) (st:=s4) (a:=b);lia
theorem UA:(gD n F at_ a s).rows.length<=s.rows.length+(2+n):=by unfold gD;dsimp only;have c:(bh (dR F) .sure at_ s).rows.length<=s.rows.length+1:=gp _ _ _ _;generalize bh (dR F) .sure at_ s=s1 at*;have d:(bh (di F) .aG at_ s1).rows.length<=s1.rows.length+1:=gp _ _ _ _;generalize bh (di F) .aG at_ s1=s2 at*;have e:=nN (f:=λst j=>av (bJ F) .back at_ j st) (λ_ _=>gp _ _ _ _) (ef n s2 a) s2;have g:=BJ (n:=n) (st:=s2) (b:=a);lia
theorem SA (a:n<=8):(look n F at_ s).rows.length<=s.rows.length+26:=by
 unfold look;split
 ·split
  ·split
   ·exact cQ Z7 (by lia)
   ·exact cQ UA (by lia)
  ·exact iK
 ·exact iK
theorem Zb (e:x≠y):(if x<k+1 then 1 else 0)+(if y<k+1 then 1 else 0)<=(if x<k then 1 else 0)+(if y<k then 1 else 0)+1/\(¬(k=x\/k=y)->(if x<k+1 then 1 else 0)+(if y<k+1 then 1 else 0)=(if x<k then 1 else 0)+(if y<k then 1 else 0)):=by
 have d:∀z,k≠z->(if z<k+1 then 1 else 0)=(if z<k then 1 else 0):=λz h=>by
  by_cases c:z<k
  ·rw [if_pos c,if_pos (Ae c)]
  ·rw [if_neg c,if_neg (by lia)]
 by_cases a:k=x
 ·subst a;rw [d y e,if_pos (Ad k),if_neg (ji k)];exact ⟨by lia,λh=>absurd (.inl U) h⟩
 ·rw [d x a]
  by_cases b:k=y
  ·subst b;rw [if_pos (Ad k),if_neg (ji k)];exact ⟨ar _,λh=>absurd (.inr U) h⟩
  ·rw [d y b];exact ⟨kg _,λ_=>rfl⟩
theorem yr {f:St->Nat->St} {g:Nat->Option Nat} {s0:St} {x y:Nat} (e:x≠y) (a:∀s j,Imp s (f s j)) (b:∀s j,(f s j).rows.length<=s.rows.length+1) (d:∀c j s,c=x\/c=y->g c=some j->Imp s0 s->(f s j).bar=none->(f s j).rows.length<=s.rows.length):
 ∀k,(((List.range k).filterMap g).foldl f s0).bar=none->(((List.range k).filterMap g).foldl f s0).rows.length+((if x<k then 1 else 0)+(if y<k then 1 else 0))<=s0.rows.length+k
 | 0,_=>ar _
 | k+1,h=>by
  rw [t8,Al,tK] at h ⊢;have l:Imp s0 (((List.range k).filterMap g).foldl f s0):=hY a _ _;have i:=yr e a b d k;obtain ⟨p,m⟩:=Zb (k:=k) e;generalize (if x<k then 1 else 0)+(if y<k then 1 else 0)=A at*;generalize (if x<k+1 then 1 else 0)+(if y<k+1 then 1 else 0)=B at*;generalize ((List.range k).filterMap g).foldl f s0=s at*
  cases C:g k with
  | none=>
   rw [show [k].filterMap g=[] by rw [vt,C];rfl] at h ⊢;have i:=i h;show s.rows.length+_<=_;lia
  | some j=>
   rw [show [k].filterMap g=[j] by rw [vt,C];rfl] at h ⊢;have h:(f s j).bar=none:=h;have o:s.bar=none:=fu λc=>(a s j).1.bar c h;have n:=b s j;show (f s j).rows.length+_<=_
   by_cases c:k=x\/k=y
   ·have:=d k j s c C l h;lia
   ·have:=m c;lia
theorem B1 (g:bP n st) (f:st.bar=none) (h:st.best (t,a,a)=some j):False:=by obtain ⟨w,d,e⟩:=g.at_ _ _ h;obtain ⟨_,b,c⟩:=gT e;exact g.ne f j w d (b.trans c.symm)
theorem ND {w:au} (b:w.tie=true) (e:w.a=w.b) (h:(take st w word used).bar=none):(take st w word used).rows.length<=st.rows.length:=by
 by_cases c:gm st w
 ·refine absurd h ?_;unfold take;rw [if_pos c];have a:=c;unfold gm at a;rw [if_pos ⟨b,e⟩] at a;show (if st.bar=none/\h9 w then some st.rows.length else st.bar)≠none
  by_cases z:st.bar=none
  ·rw [if_pos ⟨z,b,e,a⟩];exact λh=>nomatch h
  ·rw [if_neg λq=>z q.1];exact z
 ·rw [ud c];exact ar _
theorem Ba (a:aj s i=some p) (b:aj s j=some q):av f word i j s=put s (f p q) word [i,j]:=by unfold av;rw [a,b];rfl
theorem To (g:bP n s) (d:aj s at_=some p) (z:p.tie=true) (l:s.bar=none) (u:((dz n s true p.b).foldl (λst j=>av aP .sum at_ j st) s).bar=none):((dz n s true p.b).foldl (λst j=>av aP .sum at_ j st) s).rows.length+2<=s.rows.length+n:=by
 have k:=g.lt _ _ d;have h:=yr (f:=λst j=>av aP .sum at_ j st) (g:=λc=>s.best (true,p.b,c)) (s0:=s) (x:=p.a) (y:=p.b) (g.ne l _ _ d) (λ_ _=>fx ..) (λ_ _=>gp _ _ _ _) (λc j m v b i a=>by
  have b:s.best (true,p.b,c)=some j:=b;rcases v with rfl | rfl
  ·obtain ⟨q,r,t⟩:=g.at_ _ _ b;obtain ⟨A,B,C⟩:=gT t;have e:=Ba (f:=aP) (word:=.sum) (cD i.1 d) (cD i.1 r);have o:aP p q=some ⟨true,p.a,q.b,p.v+q.v⟩:=if_pos ⟨z,A,B.symm⟩;rw [o] at e;have a:(av aP .sum at_ j m).bar=none:=a;show (av aP .sum at_ j m).rows.length<=_;rw [e] at a ⊢;exact ND (w:=⟨true,p.a,q.b,p.v+q.v⟩) U C.symm a
  ·exact (B1 g l b).elim) n u
 rw [if_pos k.1,if_pos k.2] at h;exact h
theorem Tp (g:bP n s) (d:aj s at_=some p) (z:p.tie=true) (l:s.bar=none) (u:((ef n s p.a).foldl (λst j=>av aP .sum j at_ st) s).bar=none):((ef n s p.a).foldl (λst j=>av aP .sum j at_ st) s).rows.length+2<=s.rows.length+n:=by
 have k:=g.lt _ _ d;have h:=yr (f:=λst j=>av aP .sum j at_ st) (g:=λc=>s.best (true,c,p.a)) (s0:=s) (x:=p.a) (y:=p.b) (g.ne l _ _ d) (λ_ _=>fx ..) (λ_ _=>gp _ _ _ _) (λc j m v b i a=>by
  have b:s.best (true,c,p.a)=some j:=b;rcases v with rfl | rfl
  ·exact (B1 g l b).elim
  ·obtain ⟨q,r,t⟩:=g.at_ _ _ b;obtain ⟨A,B,C⟩:=gT t;have e:=Ba (f:=aP) (word:=.sum) (cD i.1 r) (cD i.1 d);have o:aP q p=some ⟨true,q.a,p.b,q.v+p.v⟩:=if_pos ⟨A,z,C⟩;rw [o] at e;have a:(av aP .sum j at_ m).bar=none:=a;show (av aP .sum j at_ m).rows.length<=_;rw [e] at a ⊢;exact ND (w:=⟨true,q.a,p.b,q.v+p.v⟩) U B a) n u
 rw [if_pos k.1,if_pos k.2] at h;exact h
theorem UI (g:bP n s) (b:aj s at_=some p) (k:s.bar=none) (r:((dz n s false p.b).foldl (λst j=>av (bJ F) .back j at_ st) s).bar=none):((dz n s false p.b).foldl (λst j=>av (bJ F) .back j at_ st) s).rows.length+2<=s.rows.length+n:=by
 have d:=g.lt _ _ b;have h:=yr (f:=λst j=>av (bJ F) .back j at_ st) (g:=λc=>s.best (false,p.b,c)) (s0:=s) (x:=p.a) (y:=p.b) (g.ne k _ _ b) (λ_ _=>fx ..) (λ_ _=>gp _ _ _ _) (λc j v t a i _=>by
  have a:s.best (false,p.b,c)=some j:=a;rcases t with rfl | rfl
  ·obtain ⟨q,m,o⟩:=g.at_ _ _ a;obtain ⟨_,_,u⟩:=gT o;have e:=Ba (f:=bJ F) (word:=.back) (cD i.1 m) (cD i.1 b);have l:bJ F q p=none:=if_neg λz=>z.2.2.2 u.symm;rw [l] at e;show (av (bJ F) .back j at_ v).rows.length<=_;rw [e];exact ar _
  ·exact (B1 g k a).elim) n r
 rw [if_pos d.1,if_pos d.2] at h;exact h
theorem UJ (g:bP n s) (b:aj s at_=some p) (k:s.bar=none) (r:((ef n s p.a).foldl (λst j=>av (bJ F) .back at_ j st) s).bar=none):((ef n s p.a).foldl (λst j=>av (bJ F) .back at_ j st) s).rows.length+2<=s.rows.length+n:=by
 have d:=g.lt _ _ b;have h:=yr (f:=λst j=>av (bJ F) .back at_ j st) (g:=λc=>s.best (true,c,p.a)) (s0:=s) (x:=p.a) (y:=p.b) (g.ne k _ _ b) (λ_ _=>fx ..) (λ_ _=>gp _ _ _ _) (λc j v t a i _=>by
  have a:s.best (true,c,p.a)=some j:=a;rcases t with rfl | rfl
  ·exact (B1 g k a).elim
  ·obtain ⟨q,m,o⟩:=g.at_ _ _ a;obtain ⟨_,u,_⟩:=gT o;have e:=Ba (f:=bJ F) (word:=.back) (cD i.1 b) (cD i.1 m);have l:bJ F p q=none:=if_neg λz=>z.2.2.2 u;rw [l] at e;show (av (bJ F) .back at_ j v).rows.length<=_;rw [e];exact ar _) n r
 rw [if_pos d.1,if_pos d.2] at h;exact h
theorem TY (t:iQ n F most) (g:bP n s) (u:aj s at_=some p) (m:p.tie=true) (b:(hX n F at_ p.a p.b s).bar=none):(hX n F at_ p.a p.b s).rows.length+4<=s.rows.length+3*n:=by unfold hX at b ⊢;dsimp only at b ⊢;have A:(bh (dQ F) .bE at_ s).rows.length<=s.rows.length+1:=gp _ _ _ _;have q:bP n (bh (dQ F) .bE at_ s):=l8 g xZ;have x:=cD (iT (dQ F) .bE at_ s).1 u;generalize bh (dQ F) .bE at_ s=s1 at*;have B:(bh (eM F) .cz at_ s1).rows.length<=s1.rows.length+1:=gp _ _ _ _;have e:bP n (bh (eM F) .cz at_ s1):=l8 q (yd t);have k:=cD (iT (eM F) .cz at_ s1).1 x;generalize bh (eM F) .cz at_ s1=s2 at*;have C:=To e k m;have h:Imp s2 ((dz n s2 true p.b).foldl (λa j=>av aP .sum at_ j a) s2):=hY (λ_ _=>fx ..) _ _;have f:bP n ((dz n s2 true p.b).foldl (λa j=>av aP .sum at_ j a) s2):=sI (λ_ _ g=>tZ g xU) _ _ e;generalize (dz n s2 true p.b).foldl (λa j=>av aP .sum at_ j a) s2=s3 at*;have l:=cD h.1 k;have D:=Tp f l m;have i:Imp s3 ((ef n s3 p.a).foldl (λa j=>av aP .sum j at_ a) s3):=hY (λ_ _=>fx ..) _ _;have r:bP n ((ef n s3 p.a).foldl (λa j=>av aP .sum j at_ a) s3):=sI (λ_ _ g=>tZ g xU) _ _ f;generalize (ef n s3 p.a).foldl (λa j=>av aP .sum j at_ a) s3=s4 at*;have y:=cD i.1 l;have v:Imp s4 ((dz n s4 false p.b).foldl (λa j=>av (bJ F) .back j at_ a) s4):=hY (λ_ _=>fx ..) _ _;have d:s4.bar=none:=fu λc=>v.1.bar c b;have o:s3.bar=none:=fu λc=>i.1.bar c d;have z:s2.bar=none:=fu λc=>h.1.bar c o;have E:=UI r y d b;lia
theorem NJ (b:iQ n F most) (g:bP n s) (h:aj s at_=some p) (a:(gD n F at_ p.a s).bar=none):(gD n F at_ p.a s).rows.length<=s.rows.length+n:=by unfold gD at a ⊢;dsimp only at a ⊢;have o:(bh (dR F) .sure at_ s).rows.length<=s.rows.length+1:=gp _ _ _ _;have e:bP n (bh (dR F) .sure at_ s):=l8 g (Bj b);have k:=cD (iT (dR F) .sure at_ s).1 h;generalize bh (dR F) .sure at_ s=s1 at*;have q:(bh (di F) .aG at_ s1).rows.length<=s1.rows.length+1:=gp _ _ _ _;have f:bP n (bh (di F) .aG at_ s1):=l8 e (Bt b);have l:=cD (iT (di F) .aG at_ s1).1 k;generalize bh (di F) .aG at_ s1=s2 at*;have i:Imp s2 ((ef n s2 p.a).foldl (λm j=>av (bJ F) .back at_ j m) s2):=hY (λ_ _=>fx ..) _ _;have d:s2.bar=none:=fu λc=>i.1.bar c a;have r:=UJ f l d a;lia
def pw (n:Nat) (F:dO) (s0:St) (t a b:Nat):Prop:=∃w,aj (run n F s0 t) t=some w/\w.tie=false/\w.a=a/\w.b=b/\(run n F s0 t).best (false,a,b)=some t
theorem step (n:Nat) (F:dO) (s0:St) (f:t<(run n F s0 t).rows.length):
 (∃p,aj (run n F s0 t) t=some p/\p.tie=true/\pt n F s0 t p.a p.b/\run n F s0 (t+1)=hX n F t p.a p.b (run n F s0 t))\/
 (∃p,aj (run n F s0 t) t=some p/\p.tie=false/\pw n F s0 t p.a p.b/\run n F s0 (t+1)=gD n F t p.a (run n F s0 t))\/
 ((∀a b,¬pt n F s0 t a b)/\(∀a b,¬pw n F s0 t a b)/\run n F s0 (t+1)=run n F s0 t):=by
 obtain ⟨p,c⟩:∃p,aj (run n F s0 t) t=some p:=⟨_,by unfold aj;rw [df f];rfl⟩;have f:run n F s0 (t+1)=look n F t (run n F s0 t):=U
 by_cases d:(run n F s0 t).best p.key=some t
 ·cases C:p.tie with
  | true=>
   have g:(run n F s0 t).best (true,p.a,p.b)=some t:=by rw [<-d];unfold au.key;rw [C]
   exact .inl ⟨p,c,C,⟨p,c,C,U,U,g⟩,f.trans (DV c C U U g)⟩
  | false=>
   have g:(run n F s0 t).best (false,p.a,p.b)=some t:=by rw [<-d];unfold au.key;rw [C]
   exact .inr (.inl ⟨p,c,C,⟨p,c,C,U,U,g⟩,f.trans (NC c C d)⟩)
 ·refine .inr (.inr ⟨λa b h=>?_,λa b h=>?_,f.trans (NB c d)⟩)
  ·obtain ⟨w,e,i,j,k,l⟩:=h;rw [c] at e;cases e;exact d (by unfold au.key;rw [i,j,k];exact l)
  ·obtain ⟨w,e,i,j,k,l⟩:=h;rw [c] at e;cases e;exact d (by unfold au.key;rw [i,j,k];exact l)
theorem Bn (e:Ext s s') {w:au} (b:i<s.rows.length) (h:aj s' i=some w):aj s i=some w:=by obtain ⟨p,a⟩:∃p,aj s i=some p:=⟨_,by unfold aj;rw [df b];rfl⟩;rw [cD e a] at h;cases h;exact a
theorem Mf (g:iQ n F most) (d:bP n s0) (v:∀a b,val s0 (false,a,b)=none) (r:∀t,t<T->t<(run n F s0 t).rows.length) (m:∀t,t<=T->(run n F s0 t).bar=none):∀t,t<=T->∀i w,aj (run n F s0 t) i=some w->w.tie=false->∃f,F w.b=some f
 | 0,_,i,w,h,c=>by
  obtain ⟨j,_,q⟩:=d.top i w h;obtain ⟨u,z,_⟩:=d.at_ _ _ q;have:=nO q z;have y:w.key=(false,w.a,w.b):=by unfold au.key;rw [c]
  rw [y,v] at this;cases this
 | t+1,k,i,w,h,c=>by
  have A:=Mf g d v r m t (by exact aR k);have x:=yc g d t
  by_cases l:i<(run n F s0 t).rows.length
  ·exact A i w (Bn (sr n F t (run n F s0 t)).1 l h) c
  ·rcases step n F s0 (r t (by exact k)) with ⟨p,s,_,_,e⟩ | ⟨p,s,_,_,e⟩ | ⟨_,_,e⟩
   ·have o:=m (t+1) k;rw [e] at o h;exact ((ED g x s U U o i w (by exact jt l) h).2 c).2
   ·rw [e] at h;exact VF i w (by exact jt l) h c
   ·rw [e] at h;exact absurd (ma h) (by omega)
theorem UB (i:aj s at_=some p):Add (λw=>w.tie=true->w.a=p.a) s (gD n F at_ p.a s):=by
 unfold gD;dsimp only;have d:Add (λw:au=>w.tie=true->w.a=p.a) s (bh (dR F) .sure at_ s):=tU i λw e b=>by
  unfold dR at e;split at e
  ·cases z:F p.b with
   | none=>rw [z] at e;cases e
   | some f=>rw [z] at e;cases e;rfl
  ·cases e
 have m:Imp s (bh (dR F) .sure at_ s):=iT _ _ _ _;generalize bh (dR F) .sure at_ s=s1 at*;have g:Add (λw:au=>w.tie=true->w.a=p.a) s1 (bh (di F) .aG at_ s1):=qv λw e b=>by
  cases q:aj s1 at_ with
  | none=>rw [q] at e;cases e
  | some p=>
   rw [q] at e;have e:di F p=some w:=e;unfold di at e;split at e
   ·cases z:F p.a with
    | none=>rw [z] at e;cases e
    | some o=>
     rw [z] at e;have e:(F p.b).map (λf=>(⟨false,o.1,p.b,min p.v f.2.2-o.2.1⟩:au))=some w:=e
     cases J:F p.b with
     | none=>rw [J] at e;cases e
     | some f=>rw [J] at e;cases e;cases b
   ·cases e
 have k:Imp s1 (bh (di F) .aG at_ s1):=iT _ _ _ _;generalize bh (di F) .aG at_ s1=s2 at*;have h:Add (λw:au=>w.tie=true->w.a=p.a) s2 ((ef n s2 p.a).foldl (λa j=>av (bJ F) .back at_ j a) s2):=uq (f:=λa j=>av (bJ F) .back at_ j a) (λ_ _=>fx ..) _ s2 s2 (Imp.refl _) λj _ c _=>qv λw e b=>by
  cases C:aj c at_ with
  | none=>rw [C] at e;cases e
  | some p=>
   rw [C] at e;have e:(aj c j).bind (λq=>bJ F p q)=some w:=e
   cases I:aj c j with
   | none=>rw [I] at e;cases e
   | some q=>
    rw [I] at e;have e:bJ F p q=some w:=e;unfold bJ at e;split at e
    ·cases z:F p.b with
     | none=>rw [z] at e;cases e
     | some f=>rw [z] at e;cases e;cases b
    ·cases e
 have l:Imp s2 ((ef n s2 p.a).foldl (λa j=>av (bJ F) .back at_ j a) s2):=hY (λ_ _=>fx ..) _ _;exact (d.trans k.1 g).trans l.1 h
theorem Y5 {l mo:Nat} (h8:n<=8) (H:iQ n F (mo:Int)) (g0:bP n s0) (told:∀i,0<i->i<n->(∃v,v<=(l:Int)/\val s0 (true,0,i)=some v)/\∃v,v<=0/\val s0 (true,i,0)=some v) (w0:∀a b,val s0 (false,a,b)=none)
 {T:Nat} (X:∀t,t<T->t<(run n F s0 t).rows.length) (z:∀t,t<=T->(run n F s0 t).bar=none):
 MH.Bd n (l:Int) (mo:Int) T (λt=>(run n F s0 t).rows.length) (λt a b=>val (run n F s0 t) (true,a,b)) (λt a b=>val (run n F s0 t) (false,a,b)) (pt n F s0) (pw n F s0):=by
 have g:=yc H g0;have E:∀t a b,pt n F s0 t a b->∃w,aj (run n F s0 t) t=some w/\w.tie=true/\w.a=a/\w.b=b/\val (run n F s0 t) (true,a,b)=some w.v/\run n F s0 (t+1)=hX n F t a b (run n F s0 t):=λt a b ⟨w,c,f,u,y,o⟩=>⟨w,c,f,u,y,nO o c,DV c f u y o⟩;have Q:∀t a b,pw n F s0 t a b->∃w,aj (run n F s0 t) t=some w/\w.tie=false/\w.a=a/\w.b=b/\val (run n F s0 t) (false,a,b)=some w.v/\(run n F s0 t).best (false,a,b)=some t:=λt a b ⟨w,c,f,u,y,o⟩=>⟨w,c,f,u,y,nO o c,o⟩;have ends:=Mf H g0 w0 X z;have wm:∀t a b v,t<T->val (run n F s0 t) (false,a,b)=some v->∃v',v<=v'/\val (run n F s0 (t+1)) (false,a,b)=some v':=λt a b v m h=>by have R:=(qo (g t) (z t (by exact aR m)) h).1;obtain ⟨u',c,f⟩:=(sr n F t (run n F s0 t)).2 (false,a,b) v R h;refine ⟨u',?_,c⟩;unfold eY at f;simp at f;exact f
 have ZP:∀t a b v,val (run n F s0 t) (false,a,b)=some v->∀x4,t+x4<=T->∃v',v<=v'/\val (run n F s0 (t+x4)) (false,a,b)=some v':=λt a b v h x4=>by
  induction x4 with
  | zero=>exact λ_=>⟨v,jn _,h⟩
  | succ x4 ih=>
   intro hd;obtain ⟨v1,c,e1⟩:=ih (by exact aR hd);obtain ⟨v2,f,e2⟩:=wm (t+x4) a b v1 (by exact hd) e1;exact ⟨v2,uh c f,e2⟩
 have once:∀(k:Key) (t t':Nat) (x x':au),t<t'->aj (run n F s0 t) t=some x->aj (run n F s0 t') t'=some x'->x'.key=k->(run n F s0 t).best k=some t->(run n F s0 t).rows.length<=t':=λk t t' x x' J _ Q7 Y zA=>by refine fu λx6=>?_;have c:=Bn (vZ (n:=n) (F:=F) (s:=s0) (aR J)).1 (um x6) Q7;obtain ⟨j,I,z8⟩:=(g t).top t' x' c;rw [Y,zA] at z8;cases z8;exact B2 J I
 exact
 { n8:=h8
   L0:=An _
   yR:=An _
   go:=X
   uW:=λt _=>(sr n F t (run n F s0 t)).1.len
   lt:=λt a b v m h=>by obtain ⟨x1,x2,x3⟩:=qo (g t) (z t m) h;exact ⟨x2,x3,x1⟩
   known:=λt a b _ h=>by obtain ⟨w,_,_,_,_,o,_⟩:=E t a b h;exact ⟨w.v,o⟩
   hZ:=λt a b m h=>by obtain ⟨w,_,_,_,_,o,_⟩:=Q t a b h;obtain ⟨x1,x2,x3⟩:=qo (g t) (z t (by exact aR m)) o;exact ⟨x2,x3,x1,w.v,o⟩
   mono:=λt a b v m h=>by have R:=(qo (g t) (z t (by exact aR m)) h).1;obtain ⟨u',c,f⟩:=(sr n F t (run n F s0 t)).2 (true,a,b) v R h;refine ⟨u',?_,c⟩;unfold eY at f;simp at f;exact f
   yB:=wm
   told:=told
   sJ:=w0
   sum:=λt a b x6 v x5 m h d Z hac=>by obtain ⟨w,c,f,u,y,o,h6⟩:=E t a b h;have d:val (run n F s0 t) (true,a,b)=some v:=d;rw [d] at o;cases o;have zB:=qo (g t) (z t (by exact aR m)) Z;obtain ⟨x,O,ex⟩:=(L4 H (g t) c f u y Z zB.1 zB.2.2).1 hac;refine ⟨x,O,?_⟩;show val (run n F s0 (t+1)) _=_;rw [h6];exact ex
   bar:=λt a b v x5 m h d Z=>by obtain ⟨w,c,f,u,y,o,h6⟩:=E t a b h;have d:val (run n F s0 t) (true,a,b)=some v:=d;rw [d] at o;cases o;have zB:=qo (g t) (z t (by exact aR m)) Z;refine fu λhc=>?_;have:=(L4 H (g t) c f u y Z zB.1 zB.2.2).2 U (wh hc);rw [<-h6] at this;exact this (z (t+1) m)
   one:=λt a b a' b' _ h G=>by obtain ⟨w,c,_,u,y,_⟩:=E t a b h;obtain ⟨D,A,_,L,M,_⟩:=E t a' b' G;rw [c] at A;cases A;exact ⟨u.symm.trans L,y.symm.trans M⟩
   He:=λt a b a' b' _ h G=>by obtain ⟨w,c,_,u,y,_⟩:=Q t a b h;obtain ⟨D,A,_,L,M,_⟩:=Q t a' b' G;rw [c] at A;cases A;exact ⟨u.symm.trans L,y.symm.trans M⟩
   apart:=λt a b a' b' _ h G=>by obtain ⟨w,c,f,_⟩:=E t a b h;obtain ⟨D,A,N,_⟩:=Q t a' b' G;rw [c] at A;cases A;rw [f] at N;cases N
   cause:=λt a b m h=>by
    have h:val (run n F s0 (t+1)) (true,a,b)≠val (run n F s0 t) (true,a,b):=h;obtain ⟨j,w,I,q,Y,d⟩:=DI (g t) (g (t+1)) (sr n F t (run n F s0 t)).1 (k:=(true,a,b)) h;obtain ⟨kt,ka,kb⟩:=gT Y;have d:val (run n F s0 (t+1)) (true,a,b)=some w.v:=d;have W:=z (t+1) m;rcases step n F s0 (X t m) with ⟨p,r,kL,S,e⟩ | ⟨p,r,kL,wJ,e⟩ | ⟨_,_,e⟩
    ·have q:aj (run n F s0 (t+1)) j=some w:=q;rw [e] at q W;rcases (ED H (g t) r rfl rfl W j w I q).1 kt with ⟨c,f,x7,hq,hwv⟩ | ⟨c,f⟩
     ·rw [ka] at c;rw [kb] at f hq;subst c;obtain ⟨D,V,_,_,_,k5,_⟩:=E t _ _ S;rw [r] at V;cases V;exact .inl ⟨p.b,p.v,x7,w.v,S,a6 f,k5,hq,d,by lia⟩
     ·rw [kb] at c;rw [ka] at f;subst c;exact .inr (.inl ⟨p.a,S,a6 f⟩)
    ·
     have q:aj (run n F s0 (t+1)) j=some w:=q;have g':bP n (gD n F t p.a (run n F s0 t)):=by rw [<-e];exact g (t+1)
     have oH:=W;rw [e] at q oH;obtain ⟨B,IT,hB⟩:∃B:Int,0<=B/\∀x v,val (gD n F t p.a (run n F s0 t)) (true,x,p.a)=some v->-B<=v:=by
      have:∀k,∃B:Int,0<=B/\∀x v,x<k->val (gD n F t p.a (run n F s0 t)) (true,x,p.a)=some v->-B<=v:=by
       intro k
       induction k with
       | zero=>exact ⟨0,jn _,λx v O=>absurd O (mG _)⟩
       | succ k ih=>
        obtain ⟨B,h0,c⟩:=ih
        cases x7:val (gD n F t p.a (run n F s0 t)) (true,k,p.a) with
        | none=>
         refine ⟨B,h0,λx v O d=>?_⟩
         by_cases e:x=k
         ·rw [e,x7] at d;cases d
         ·exact c x v (pE O e) d
        | some x5=>
         refine ⟨max B (-x5),T5 h0,λx v O d=>?_⟩
         by_cases e:x=k
         ·rw [e,x7] at d;cases d;exact TH
         ·have:=c x v (pE O e) d;exact UH this
      obtain ⟨B,h0,c⟩:=this n;exact ⟨B,h0,λx v d=>c x v (qo g' oH d).2.1 d⟩
     have Ck:=(Mt H (g t) r kL U hB IT oH j w I q).1 kt;have own:w.a=p.a:=by have:=UB (F:=F) (n:=n) r j w I q kt;exact this
     rw [ka] at own;subst own;exact .inr (.inr ⟨p.b,w.v,wJ,d,Ck⟩)
    ·have q:aj (run n F s0 (t+1)) j=some w:=q;rw [e] at q;exact absurd (ma q) (by exact CO I)
   bE:=λt a b e v v' m h d hte heT wJ C=>by
    obtain ⟨w,c,f,u,y,o,h6⟩:=E t a b h;have d:val (run n F s0 t) (true,a,b)=some v:=d;rw [d] at o;cases o;obtain ⟨x,V,k2,k3,k4,_⟩:=Q e a b wJ;obtain ⟨x8,hf⟩:=ends e (by exact aR heT) e x V k2;rw [k4] at hf;have R:=(qo (g t) (z t (by exact aR m)) d).1;have HZ:=H.num _ _ hf;have hd:bh (dQ F) .bE t (run n F s0 t)=take (run n F s0 t) ⟨false,a,b,x8.2.2-w.v⟩ .bE [t]:=by unfold bh;rw [c];show put _ (dQ F w) _ _=_;unfold dQ;rw [if_pos ⟨f,by rw [u,y];exact R⟩,y,hf,u];rfl
    obtain ⟨x5,Z,nu⟩:=Fc (st:=run n F s0 t) (word:=.bE) (used:=[t]) (w:=⟨false,a,b,x8.2.2-w.v⟩) R;have iz:Imp (bh (dQ F) .bE t (run n F s0 t)) (hX n F t a b (run n F s0 t)):=by unfold hX;dsimp only;exact (((iT _ _ _ _).trans (hY (λ_ _=>fx ..) _ _)).trans (hY (λ_ _=>fx ..) _ _)).trans (hY (λ_ _=>fx ..) _ _)
    rw [hd] at iz;obtain ⟨u2,yY,Qk⟩:=iz.2 (false,a,b) x5 R Z;rw [<-h6] at yY;have o9:t+1<=e\/t=e:=by lia
    rcases o9 with o9 | o9
    ·obtain ⟨u3,l3,e3⟩:=ZP (t+1) a b u2 yY (e-(t+1)) (by lia);rw [show t+1+(e-(t+1))=e by exact kI o9] at e3;have C:val (run n F s0 e) (false,a,b)=some v':=C;rw [C] at e3;cases e3;unfold eY at nu Qk;simp at nu Qk;lia
    ·subst o9;rw [c] at V;cases V;rw [f] at k2;cases k2
   nQ:=λt a b B m IT hB h=>by
    have h:val (run n F s0 (t+1)) (false,a,b)≠val (run n F s0 t) (false,a,b):=h;obtain ⟨j,w,I,q,Y,d⟩:=DI (g t) (g (t+1)) (sr n F t (run n F s0 t)).1 (k:=(false,a,b)) h;obtain ⟨kt,_⟩:=gT Y;have d:val (run n F s0 (t+1)) (false,a,b)=some w.v:=d;have q:aj (run n F s0 (t+1)) j=some w:=q;have W:=z (t+1) m;refine ⟨w.v,d,?_⟩;rcases step n F s0 (X t m) with ⟨p,r,kL,S,e⟩ | ⟨p,r,kL,wJ,e⟩ | ⟨_,_,e⟩
    ·have hpv: -B<=p.v:=by
      obtain ⟨D,V,_,_,_,k5,_⟩:=E t _ _ S;rw [r] at V;cases V;have R:=(qo (g t) (z t (by exact aR m)) k5).1;obtain ⟨u',q1,q2⟩:=(sr n F t (run n F s0 t)).2 (true,p.a,p.b) p.v R k5;have:=hB p.a p.b u' q1;unfold eY at q2;simp at q2;exact uh this q2
     rw [e] at q W;have:=((ED H (g t) r U U W j w I q).2 kt).1;lia
    ·have hB':∀x v,val (gD n F t p.a (run n F s0 t)) (true,x,p.a)=some v->-B<=v:=λx v O=>by
      rw [<-e] at O;exact hB x p.a v O
     rw [e] at q W;exact (Mt H (g t) r kL U hB' IT W j w I q).2 kt
    ·rw [e] at q;exact absurd (ma q) (by exact CO I)
   grow:=λt m=>by
    have mX:=z (t+1) m;rcases step n F s0 (X t m) with ⟨p,r,kL,_,e⟩ | ⟨p,r,_,_,e⟩ | ⟨_,_,e⟩
    ·have:=TY H (g t) r kL (by rw [<-e];exact mX);show (run n F s0 (t+1)).rows.length<=(run n F s0 t).rows.length+20;rw [e];lia
    ·have:=NJ H (g t) r (by rw [<-e];exact mX);show (run n F s0 (t+1)).rows.length<=(run n F s0 t).rows.length+20;rw [e];lia
    ·show (run n F s0 (t+1)).rows.length<=_;rw [e];exact mC _ _
   ti:=λt m rx=>by
    rcases step n F s0 (X t m) with ⟨p,_,_,S,_⟩ | ⟨p,r,_,_,e⟩ | ⟨_,_,e⟩
    ·exact absurd S (rx _ _)
    ·have:=NJ H (g t) r (by rw [<-e];exact z (t+1) m);show (run n F s0 (t+1)).rows.length<=(run n F s0 t).rows.length+8;rw [e];lia
    ·show (run n F s0 (t+1)).rows.length<=_;rw [e];exact mC _ _
   tj:=λt m rx hnw=>by
    rcases step n F s0 (X t m) with ⟨p,_,_,S,_⟩ | ⟨p,_,_,wJ,_⟩ | ⟨_,_,e⟩
    ·exact absurd S (rx _ _)
    ·exact absurd wJ (hnw _ _)
    ·show (run n F s0 (t+1)).rows.length=_;rw [e]
   ei:=λt0 t a b v m h0 c d C=>by
    have d:val (run n F s0 t0) (true,a,b)=some v:=d;have C:val (run n F s0 t) (true,a,b)=some v:=C;obtain ⟨j,w,I,q,Y,_⟩:=A_ (g t0) d;obtain ⟨j',D,ve,Ϥ,wM,HC⟩:=A_ (g t) C;have ejj:j=j':=fu λx6=>VR c (g t0) (g t) (z t m) I ve x6 (C.trans d.symm);subst ejj;obtain ⟨_,_⟩:=gT Y;have Iz:=ma q;have Iy:j<t:=by exact fL Iz h0
    obtain ⟨p,r⟩:∃p,aj (run n F s0 j) j=some p:=⟨_,by unfold aj;rw [df (X j (by lia))];rfl⟩;have lO:=cD (vZ (n:=n) (F:=F) (s:=s0) (aR Iy)).1 r;rw [Ϥ] at lO;cases lO;obtain ⟨ϊ,ϖ,ϕ⟩:=gT wM;obtain ⟨i,hi,zD⟩:=(g j).top j D r;rw [wM] at zD;have:=MK (aR Iy) (g j) zD ve;have e:i=j:=by lia
    rw [e] at zD;exact ⟨j,Iy,⟨D,r,ϊ,ϖ,ϕ,zD⟩,by show val (run n F s0 j) (true,a,b)=some v;rw [nO zD r,HC]⟩
   drop:=λt t' a b v v' J hT h G d C=>by obtain ⟨w,c,f,u,y,o,_⟩:=E t a b h;obtain ⟨D,A,N,L,M,zF,_⟩:=E t' a b G;have d:val (run n F s0 t) (true,a,b)=some v:=d;have C:val (run n F s0 t') (true,a,b)=some v':=C;rw [d] at o;rw [C] at zF;cases o;cases zF;have:=(g t').drop (z t' (by exact aR hT)) t t' w D (cD (vZ (aR J)).1 c) A (by unfold au.key;rw [f,u,y,N,L,M]) J;unfold eY at this;rw [f] at this;simp at this;exact this
   sL:=λt t' a b v v' J hT h G d C=>by obtain ⟨w,c,f,u,y,o,_⟩:=Q t a b h;obtain ⟨D,A,N,L,M,zF,_⟩:=Q t' a b G;have d:val (run n F s0 t) (false,a,b)=some v:=d;have C:val (run n F s0 t') (false,a,b)=some v':=C;rw [d] at o;rw [C] at zF;cases o;cases zF;have:=(g t').drop (z t' (by exact aR hT)) t t' w D (cD (vZ (aR J)).1 c) A (by unfold au.key;rw [f,u,y,N,L,M]) J;unfold eY at this;rw [f] at this;simp at this;exact this
   once:=λt t' a b J _ h G=>by obtain ⟨w,c,_⟩:=E t a b h;obtain ⟨D,A,N,L,M,_,_⟩:=E t' a b G;obtain ⟨_,_,_,_,_,o⟩:=h;exact once (true,a,b) t t' w D J c A (by unfold au.key;rw [N,L,M]) o
   lE:=λt t' a b J _ h G=>by obtain ⟨w,c,_,_,_,_,o⟩:=Q t a b h;obtain ⟨D,A,N,L,M,_,_⟩:=Q t' a b G;exact once (false,a,b) t t' w D J c A (by unfold au.key;rw [N,L,M]) o }
theorem V_ (o:n<=8) (y:iQ n F ((60:Nat):Int)) (u:bP n s0) (G:∀i,0<i->i<n->(∃v,v<=((60:Nat):Int)/\val s0 (true,0,i)=some v)/\∃v,v<=0/\val s0 (true,i,0)=some v) (H:∀a b,val s0 (false,a,b)=none) (x:s0.rows.length<=1000):
 ∃T,((run n F s0 T).rows.length<=T\/(run n F s0 T).bar≠none)/\(∀t,t<T->t<(run n F s0 t).rows.length/\(run n F s0 t).bar=none)/\∀t,t<=T->(run n F s0 t).rows.length<=16000000:=by
 have q:∀T,(∀t,t<T->t<(run n F s0 t).rows.length/\(run n F s0 t).bar=none)->(run n F s0 T).rows.length<=15900000+26:=λT h=>by
  cases T with
  | zero=>exact cQ x (by decide)
  | succ T=>
   have b:=(Y5 (l:=60) (mo:=60) o y u G H (T:=T) (λt d=>(h t (by exact gQ d)).1) (λt d=>(h t (ER d)).2)).rows;have b:(run n F s0 T).rows.length<=(run n F s0 0).rows.length+1568*(7*(7*(60+1)+7*(60+1)+1))+20*(56*(2*60+1))+8*((56*(2*60+1)+56*(60+60+1))*56+(56*(60+2*60+1)+56)):=b;have r:(run n F s0 0).rows.length=s0.rows.length:=U;have l:=SA (n:=n) (F:=F) (at_:=T) (s:=run n F s0 T) o;have l:(run n F s0 (T+1)).rows.length<=(run n F s0 T).rows.length+26:=l;rw [r] at b;lia
 have B:∃T,(run n F s0 T).rows.length<=T\/(run n F s0 T).bar≠none:=fu λp=>by have k:∀t,t<(run n F s0 t).rows.length/\(run n F s0 t).bar=none:=λt=>⟨fu λc=>p ⟨t,.inl (by exact jt c)⟩,fu λc=>p ⟨t,.inr c⟩⟩;have m:=q 16000000 λt _=>k t;have f:=(k 16000000).1;lia
 have E:∀N,(∃T,T<=N/\((run n F s0 T).rows.length<=T\/(run n F s0 T).bar≠none)/\∀t,t<T->t<(run n F s0 t).rows.length/\(run n F s0 t).bar=none)\/∀t,t<=N->t<(run n F s0 t).rows.length/\(run n F s0 t).bar=none:=λN=>by
  induction N with
  | zero=>
   by_cases c:(run n F s0 0).rows.length<=0\/(run n F s0 0).bar≠none
   ·exact .inl ⟨0,ar _,c,λt d=>absurd d (mG _)⟩
   ·refine .inr λt d=>?_;rw [show t=0 by lia];exact ⟨fu λz=>c (.inl (by exact jt z)),fu λz=>c (.inr z)⟩
  | succ N D=>
   rcases D with ⟨T,m,f,g⟩ | h
   ·exact .inl ⟨T,by exact gQ m,f,g⟩
   ·by_cases c:(run n F s0 (N+1)).rows.length<=N+1\/(run n F s0 (N+1)).bar≠none
    ·exact .inl ⟨N+1,ar _,c,λt d=>h t (by exact rJ d)⟩
    ·refine .inr λt d=>?_
     by_cases e:t=N+1
     ·rw [e];exact ⟨fu λz=>c (.inl (j8 z)),fu λz=>c (.inr z)⟩
     ·exact h t (by lia)
 obtain ⟨j,A⟩:=B;rcases E j with ⟨T,_,f,g⟩ | h
 ·exact ⟨T,f,g,λt d=>cQ (q t λs C=>g s (fL C d)) (by lia)⟩
 ·have:=h j (ar _);rcases A with z | z
  ·exact (B2 this.1 z).elim
  ·exact absurd this.2 z
end MU
open MU (gp BJ nN Bx)
set_option maxRecDepth 100000
namespace L2
theorem Pt {c A B:Prop} [Decidable c] (a:¬c) (h:A):if (!decide c)=true then A else B:=by rw [fz a];exact km h
end L2
namespace Y0
open PySem L2
seal L2.kT L2.il L2.iu L2.fV L2.gS L2.hQ L2.ir L2.iq L2.gf Y0.aB
def kD (tie:Bool):Str:=if tie=true then "tie" else "wait"
def jz (x:au):List V:=[.str (kD x.tie),.int (x.a:Int),.int (x.b:Int),.int x.v]
def gL (H:Hp) (q:Addr) (x:au):Prop:=H q=some (.tup (jz x))
theorem gL.same (h:gL H q x) (s:ao H H'):gL H' q x:=s _ _ h
structure lz (H:Hp) (d:Addr) (F:dO):Prop where
 at_:∃kvs:List (Key×V),H d=some (.dK kvs)/\(kvs.length<=100/\∀kv∈kvs,∃e:Nat,kv.1=Sum.inl (e:Int))/\(∀e:Nat,F e=none->eT kvs (.inl (e:Int))=none)/\∀(e:Nat) f,F e=some f->∃p,eT kvs (.inl (e:Int))=some (.ref p)/\H p=some (.tup [.int (f.1:Int),.int f.2.1,.int f.2.2])
theorem lz.same (h:lz H d F) (s:ao H H'):lz H' d F:=by obtain ⟨j,a,b,c,g⟩:=h.at_;refine ⟨j,s _ _ a,b,c,λe f i=>?_⟩;obtain ⟨p,k,l⟩:=g e f i;exact ⟨p,k,s _ _ l⟩
def lj (H:Hp) (Q:VK) (o:Option au):Prop:=(o=none->∀a,ao H a->Q .a9 a)/\∀x,o=some x->∀r a,H r=none->ao H a->gL a r x->Q (.ref r) a
theorem lj.no (h:lj H Q o) (e:o=none):Q .a9 H:=h.1 e H (ao.refl _)
theorem lj.yes (h:lj H Q o) (e:o=some x) (a:H r=none):Q (.ref r) (upd H r (.tup (jz x))):=h.2 x e r _ a (a8 a) ah
theorem qf {a b:Nat}:decide (V.int (a:Int)=V.int (b:Int))=decide (a=b):=decide_eq_decide.mpr ⟨λq=>Ai (V.int.inj q),λq=>by rw [q]⟩
structure Fl (mg:Str->Option Value):Prop where
 min:mg "min"=none
def Kz:Sp:=λa H Q _=>∃d q F x,a=[.ref d,.ref q]/\lz H d F/\gL H q x/\x.tie=true/\lj H Q (dQ F x)
def K7:Sp:=λa H Q _=>∃d q F x,a=[.ref d,.ref q]/\lz H d F/\gL H q x/\x.tie=true/\lj H Q (eM F x)
def P7:Sp:=λa H Q _=>∃p q x y,a=[.ref p,.ref q]/\gL H p x/\gL H q y/\x.tie=true/\y.tie=true/\lj H Q (aP x y)
def K9:Sp:=λb H Q _=>∃d q F x a,b=[.ref d,.ref q]/\lz H d F/\gL H q x/\x.tie=false/\F x.b=some a/\lj H Q (dR F x)
def Ku:Sp:=λb H Q _=>∃d p q F x y a,b=[.ref d,.ref p,.ref q]/\lz H d F/\gL H p x/\gL H q y/\x.tie=false/\y.tie=true/\F x.b=some a/\lj H Q (bJ F x y)
def Lr:Sp:=λb H Q _=>∃d q F x a,b=[.ref d,.ref q]/\lz H d F/\gL H q x/\x.tie=false/\F x.b=some a/\lj H Q (di F x)
def Kv:Sp:=λa H Q _=>∃q x,a=[.ref q]/\gL H q x/\Q (.bl (decide (h9 x))) H
section
theorem Pl:cb ["falls","tie","end"] ĉ (aJ dA):=c9
theorem qY (F:Fn K mg "by_late" dA ĉ f fd):af P w K mg base aq 1 f fd ĉ Kz:=by
 refine F.F.cJ Pl λ_ A _ s H _ Q E u h=>?_;obtain ⟨d,q,b,x,rfl,j,a,y,G⟩:=h;have i:=kr u;refine ⟨_,aO (cg 2 Pl.nd (aN (pv 1)))
  (aO (dG (PW.pt (rY (tW (B0 i (pv 2) (pv 0)) (by with_unfolding_all rfl)) (vN (dF gC (aN (pv 1)) (pv 2))))) (ax (b_ zev)) dH)
  (ax (b_ (eN (jV eV (aN (pv 1)) (pv 2) (cv i9 (aN (lA i (pv 0) (pv 2) (λ_ _=>rfl))) (aN (pv 1)))))))),?_⟩
 obtain ⟨B,g,_,m,n⟩:=j.at_;refine (aa U (aL a U (aa U (aa U ⟨d,_,U,eS.k (k:=Sum.inl (x.b:Int)) g,_,U,?_⟩))))
 cases hf:b x.b with
 | none=>
  rw [m _ hf];refine km (G.no ?_);unfold dQ;rw [hf];split<;>rfl
 | some o=>
  obtain ⟨p,e,l⟩:=n _ _ hf;rw [e];refine gJ (aa U (aL a U (aa U ⟨U,ct ?_⟩)));rw [qf]
  by_cases c:x.a=x.b
  ·refine ig c (G.no ?_);unfold dQ;rw [if_neg λz=>z.2 c]
  ·refine j4 c ?_;have t:dQ b x=some ⟨false,x.a,x.b,o.2.2-x.v⟩:=by
    unfold dQ;rw [if_pos ⟨y,c⟩,hf];rfl
   refine (aa U (aL a U (aa U (aa U (aa U ⟨d,_,U,e▸eS.k (k:=Sum.inl (x.b:Int)) g,?_⟩)))));refine aL l U (aa U (aL a U (ri ⟨dj U,λr v=>G.yes t v⟩)))
theorem P4:cb ["falls","tie","end"] ĉ (aJ d9):=c9
theorem qR (F:Fn K mg "by_soon" d9 ĉ f fd):af P w K mg base aq 1 f fd ĉ K7:=by
 refine F.F.cJ P4 λ_ A _ s H _ Q E v h=>?_;obtain ⟨d,q,j,x,rfl,n,a,B,G⟩:=h;have i:=kr v;refine ⟨_,aO (cg 2 P4.nd (aN (pv 1)))
  (aO (dG (PW.pt (rY (tW (B0 i (pv 2) (pv 0)) (by with_unfolding_all rfl)) (rY (dF gC (aN (pv 1)) (pv 2)) (vN (dF XW (aN (pv 1)) a0))))) (ax (b_ zev)) dH)
  (ax (b_ (eN (jV eV (aN (lA i (pv 0) (pv 2) (λ_ _=>rfl))) (aN (pv 1)) (cv ik (aN (lA i (pv 0) (pv 2) (λ_ _=>rfl))) (aN (pv 1)))))))),?_⟩
 obtain ⟨C,g,_,o,t⟩:=n.at_;refine (aa U (aL a U (aa U (aa U ⟨d,_,U,eS.k (k:=Sum.inl (x.a:Int)) g,_,U,?_⟩))))
 cases hf:j x.a with
 | none=>
  rw [o _ hf];refine km (G.no ?_);unfold eM;rw [hf];split<;>rfl
 | some m=>
  obtain ⟨p,e,l⟩:=t _ _ hf;rw [e];refine gJ (aa U (aL a U (aa U ⟨U,ct ?_⟩)));rw [qf]
  by_cases c:x.b=x.a
  ·refine ig c (G.no ?_);unfold eM;rw [if_neg λz=>z.2.1 c.symm]
  ·refine j4 c (aa U (aL a U (ri (ct ?_))))
   by_cases b:x.v<0
   ·refine j4 (by exact Int.not_le.mpr b) ?_;have u:eM j x=some ⟨true,m.1,x.b,m.2.1+x.v⟩:=by
     unfold eM;rw [if_pos ⟨B,λz=>c z.symm,b⟩,hf];rfl
    refine (aa U (aa U ⟨d,_,U,e▸eS.k (k:=Sum.inl (x.a:Int)) g,?_⟩));refine aL l U (aa U (aL a U (aa U (aa U ⟨d,_,U,e▸eS.k (k:=Sum.inl (x.a:Int)) g,?_⟩))));refine aL l U (aa U (aL a U (ri ⟨dj U,λr y=>G.yes u y⟩)))
   ·refine ig (B4 b) (G.no ?_);unfold eM;rw [if_neg λz=>b z.2.2]
theorem YP:cb đ đ (aJ eP):=c9
theorem uN (F:Fn K mg "by_sum" eP đ f fd):af P w K mg base aq 1 f fd đ P7:=by
 refine F.F.cJ YP λ_ A _ s H _ Q E j h=>?_;obtain ⟨p,q,x,y,rfl,a,b,g,i,G⟩:=h;refine ⟨_,aO (dG (dF AH (aN (pv 0)) (aN (pv 1))) (ax (b_ zev)) dH)
  (ax (b_ (eN (jV eV (aN (pv 0)) (aN (pv 1)) (cv ik (aN (pv 0)) (aN (pv 1))))))),?_⟩
 refine (aa U (aL a U (aa U (aL b U ⟨U,ct ?_⟩))));rw [qf]
 by_cases c:x.b=y.a
 ·refine rW c ?_;have d:aP x y=some ⟨true,x.a,y.b,x.v+y.v⟩:=if_pos ⟨g,i,c⟩;exact (aa U (aL a U (aa U (aL b U (aa U (aL a U (aa U (aL b U (ri ⟨dj U,λr e=>G.yes d e⟩)))))))))
 ·exact Pt c (G.no (if_neg λz=>c z.2.2))
theorem xJ {a b:Int}:(if b<a then b else a)=min a b:=by
 rw [Int.min_def]
 by_cases c:b<a
 ·rw [if_pos c,if_neg (by exact Int.not_le.mpr c)]
 ·rw [if_neg c,if_pos (B4 c)]
theorem Ln:cb ["falls","wait","fall"] ć (aJ d8):=c9
theorem qP (F:Fn K mg "by_sure" d8 ć f fd) (T:Fl mg):af P w K mg base aq 1 f fd ć K9:=by
 refine F.F.cJ Ln λ_ A _ s H _ Q E o h=>?_;obtain ⟨d,q,i,x,c,rfl,g,a,u,e,G⟩:=h;have v:=kr o;refine ⟨_,aO (cg 2 Ln.nd (lA v (pv 0) (aN (pv 1)) (λ_ _=>rfl)))
  (ax (b_ (eN (jV eV (aN (pv 1)) (aN (pv 2)) (nt nG (iB (uo U) (by rfl) T.min (by decide+kernel) (bp (aN (pv 1)) (aN (pv 2))))))))),?_⟩
 obtain ⟨y,m,_,_,l⟩:=g.at_;obtain ⟨p,j,b⟩:=l _ _ e;have n:dR i x=some ⟨true,x.a,c.1,-min x.v c.2.1⟩:=by unfold dR;rw [if_pos u,e];rfl
 refine (aa U (aa U (aL a U ⟨d,_,U,j▸eS.k (k:=Sum.inl (x.b:Int)) m,?_⟩)));refine (aa U (aL a U (aa U (aL b U (aa U (aL a U (aa U (aL b U ⟨_,_,U,_,U,dj U,λr t=>?_⟩))))))));have:=G.yes n t;rw [xJ];exact this
theorem L8:cb ["falls","wait","tie","end"] ď (aJ dB):=c9
theorem rh (F:Fn K mg "by_back" dB ď f fd) (T:Fl mg):af P w K mg base aq 1 f fd ď Ku:=by
 refine F.F.cJ L8 λ_ A _ s H _ Q E v h=>?_;obtain ⟨d,p,q,j,x,y,o,rfl,i,e,b,D,I,g,G⟩:=h;have C:=kr v;refine ⟨_,aO (cg 3 L8.nd (aN (pv 1)))
  (aO (dG (PW.pt (rY (dF AH (aN (pv 2)) (aN (pv 1))) (vN (dF gC (aN (pv 2)) (pv 3))))) (ax (b_ zev)) dH)
  (ax (b_ (eN (jV eV (aN (pv 2)) (pv 3) (cv i9 (iB (uo U) (by rfl) T.min (by decide+kernel) (bp (aN (pv 1)) (aN (lA C (pv 0) (pv 3) (λ_ _=>rfl))))) (aN (pv 2)))))))),?_⟩
 obtain ⟨J,t,_,_,n⟩:=i.at_;obtain ⟨L,l,m⟩:=n _ _ g;refine (aa U (aL e U (aa U (aL b U (aa U (aL e U ⟨U,ct ?_⟩))))));rw [qf]
 by_cases c:y.b=x.a
 ·refine rW c (aa U (aL b U (aa U ⟨U,ct ?_⟩)));rw [qf]
  by_cases a:y.a=x.b
  ·exact ig a (G.no (if_neg λz=>z.2.2.2 a))
  ·refine j4 a ?_;have u:bJ j x y=some ⟨false,y.a,x.b,min x.v o.2.2-y.v⟩:=by
    unfold bJ;rw [if_pos ⟨D,I,c,a⟩,g];rfl
   refine (aa U (aL b U (aa U (aa U (aL e U (aa U (aa U ⟨d,_,U,l▸eS.k (k:=Sum.inl (x.b:Int)) t,?_⟩)))))));refine aL m U ⟨_,_,U,aa U (aL b U (ri ⟨dj U,λr B=>?_⟩))⟩;have:=G.yes u B;rw [xJ];exact this
 ·exact Pt c (G.no (if_neg λz=>c z.2.2.1))
theorem D':cb ["falls","wait","end","other"] ć (aJ cT):=c9
theorem o1 (F:Fn K mg "by_cross" cT ć f fd) (T:Fl mg):af P w K mg base aq 1 f fd ć Lr:=by
 refine F.F.cJ D' λ_ A _ s H _ Q E D h=>?_;obtain ⟨d,q,i,x,y,rfl,p,a,J,l,G⟩:=h;have g:=kr D;refine ⟨_,aO (cg 2 D'.nd (aN (pv 1)))
  (aO (dG (PW.pt (rY (tW (B0 g (aN (pv 1)) (pv 0)) (by with_unfolding_all rfl)) (rY (dF gC (aN (pv 1)) (pv 2)) (vN (dF jS (aN (pv 1)) a0))))) (ax (b_ zev)) dH)
  (aO (cg 3 D'.nd (lA g (pv 0) (aN (pv 1)) (λ_ _=>rfl)))
  (ax (b_ (eN (jV eV (aN (pv 3)) (pv 2) (cv i9 (iB (uo U) (by rfl) T.min (by decide+kernel) (bp (aN (pv 1)) (aN (lA g (pv 0) (pv 2) (λ_ _=>rfl))))) (aN (pv 3))))))))),?_⟩
 obtain ⟨L,e,_,v,j⟩:=p.at_;obtain ⟨N,t,u⟩:=j _ _ l;refine (aa U (aL a U (aa U (aL a U (aa U ⟨d,_,U,eS.k (k:=Sum.inl (x.a:Int)) e,_,U,?_⟩)))))
 cases C:i x.a with
 | none=>
  rw [v _ C];refine km (G.no ?_);unfold di;rw [C];split<;>rfl
 | some o=>
  obtain ⟨M,m,n⟩:=j _ _ C;rw [m];refine gJ (aa U (aL a U (aa U ⟨U,ct ?_⟩)));rw [qf]
  by_cases c:x.a=x.b
  ·refine ig c (G.no ?_);unfold di;rw [if_neg λz=>z.2.1 c]
  ·refine j4 c (aa U (aL a U (ri (ct ?_))))
   by_cases b:0<x.v
   ·refine j4 (by exact Int.not_le.mpr b) ?_;have B:di i x=some ⟨false,o.1,x.b,min x.v y.2.2-o.2.1⟩:=by
     unfold di;rw [if_pos ⟨J,c,b⟩,C,l];rfl
    refine (aa U (aa U (aL a U ⟨d,_,U,m▸eS.k (k:=Sum.inl (x.a:Int)) e,?_⟩)));refine (aa U (aL n U (aa U (aa U (aL a U (aa U (aa U ⟨d,_,U,t▸eS.k (k:=Sum.inl (x.b:Int)) e,?_⟩)))))));refine aL u U ⟨_,_,U,aa U (aL n U (ri ⟨dj U,λr I=>?_⟩))⟩;have:=G.yes B I;rw [xJ];exact this
   ·refine ig (B4 b) (G.no ?_);unfold di;rw [if_neg λz=>b z.2.2]
theorem Y7:cb ğ ğ (aJ bf):=c9
theorem Be:decide (V.str (kD t)=V.str "tie")=t:=by
 cases t
 ·exact fz λq=>absurd (V.str.inj q) (by decide+kernel)
 ·exact jr U
theorem rg (F:Fn K mg "bars_every_hand" bf ğ f fd):af P w K mg base aq 1 f fd ğ Kv:=by
 refine F.F.cJ Y7 λ_ A _ s H _ Q E g h=>?_;obtain ⟨q,x,rfl,a,k⟩:=h;refine ⟨_,ax (b_ (xG (oX gC (aN (pv 0)) eV) (xG (oX gC (aN (pv 0)) (aN (pv 0))) (Dt (oX rZ (aN (pv 0)) a0))))),?_⟩;have d:∀b:Bool,b=decide (h9 x)->Q (.bl b) H:=λb e=>by rw [e];exact k
 refine (aa U (aL a U ⟨U,_,U,?_⟩));rw [Be]
 cases C:x.tie with
 | false=>exact gJ (d _ (fz λz=>by have:=z.1;rw [C] at this;cases this).symm)
 | true=>
  refine km (aa U (aL a U (aa U (aL a U ⟨U,_,U,?_⟩))));rw [qf]
  by_cases c:x.a=x.b
  ·refine ig c (aa U (aL a U (ri (d _ ?_))));exact decide_eq_decide.mpr ⟨λz=>⟨C,c,z⟩,λz=>z.2.2⟩
  ·exact j4 c (d _ (fz λz=>c z.2.1).symm)
end
def KP:List Int->Option (Nat×Int×Int)
 | [a,_,l,m]=>some (a.toNat,l,m)
 | _=>none
def fj (F:List (List Int)):dO:=λe=>(F.find? λr=>decide (r[1]?=some (e:Int))).bind KP
theorem Wh {F:List (List Int)} {e:Nat} (h:∀r∈F,r[1]?≠some (e:Int)):fj F e=none:=by
 unfold fj;have:(F.find? λr=>decide (r[1]?=some (e:Int)))=none:=List.find?_eq_none.mpr λr a=>by simpa using h r a
 rw [this];rfl
theorem c_.find {n la:Int} {T F:List (List Int)} (h:c_ n la T F) {e:Nat} {f:Nat×Int×Int} (c:fj F e=some f):∃a l m:Int,[a,(e:Int),l,m]∈F/\f=(a.toNat,l,m)/\0<=a/\a<n/\0<(e:Int)/\(e:Int)<n/\a≠(e:Int)/\1<=l/\l<=m/\m<=60:=by
 unfold fj at c
 cases q:F.find? λr=>decide (r[1]?=some (e:Int)) with
 | none=>rw [q] at c;cases c
 | some r=>
  rw [q] at c;have c:KP r=some f:=c;have d:=RV q;have i:=List.find?_some q;obtain ⟨a,b,l,m,rfl,j,k,o,p,s,t,u,v⟩:=h.f r d;have g:some b=some (e:Int):=of_decide_eq_true i;cases g;cases c;exact ⟨a,l,m,d,U,j,k,o,p,s,t,u,v⟩
theorem c_.jK {n la:Int} {T F:List (List Int)} (h:c_ n la T F) {a l m:Int} {e:Nat} (d:[a,(e:Int),l,m]∈F):fj F e=some (a.toNat,l,m):=by
 obtain ⟨i,c⟩:=rM.mp d;unfold fj
 cases q:F.find? λr=>decide (r[1]?=some (e:Int)) with
 | none=>
  have:=List.find?_eq_none.mp q _ d;simp at this
 | some r=>
  have f:=RV q;obtain ⟨j,b⟩:=rM.mp f;have g:r[1]?=some (e:Int):=of_decide_eq_true (List.find?_some (p:=λr=>decide (r[1]?=some (e:Int))) q);have k:=h.one i j _ _ c b (by rw [g];rfl);subst k;rw [c] at b;cases b;rfl
theorem c_.Cu {n:Nat} {la:Int} {T F:List (List Int)} (h:c_ (n:Int) la T F):iQ n (fj F) ((60:Nat):Int):=by
 refine ⟨λe f b=>?_,λe f b=>?_,λe f b=>?_⟩
 ·obtain ⟨a,l,m,_,rfl,_,o,p,q,_⟩:=h.find b;exact ⟨by show a.toNat<n;lia,by lia⟩
 ·obtain ⟨a,l,m,c,rfl,g,_⟩:=h.find b;refine Wh λr d=>?_;have:=h.own _ c r d;show r[1]?≠some ((a.toNat:Nat):Int);rw [show ((a.toNat:Nat):Int)=a by exact BA g];exact λz=>this z.symm
 ·obtain ⟨a,l,m,_,rfl,_,_,_,_,_,i,j,k⟩:=h.find b;exact ⟨i,j,k⟩
theorem SF {kvs:List (Key×V)} {k:Key} {v:V} {a:Key×V} (h:a∈dN kvs k v):a.1=k\/∃b∈kvs,a.1=b.1:=by
 unfold dN at h;split at h
 ·obtain ⟨b,c,rfl⟩:=eQ.mp h;refine .inr ⟨b,c,?_⟩;split<;>rfl
 ·rcases gH.mp h with h | h
  ·exact .inr ⟨a,h,U⟩
  ·rw [g_.mp h];exact .inl U
def Lp (C:Addr):Sp:=λc H Q _=>∃p n b T F,c=[.ref p]/\gA C H p n b T F/\c_ n b T F/\∀d a,H d=none->ao H a->lz a d (fj F)->Q (.ref d) a
section
abbrev ì:List Str:=["web","found","one","other","least","most"]
theorem w6:cb ì iv (aJ bU):=c9
theorem o4 {f C fF:Addr} {fd tu:FuncData} (F:Fn K mg "falls_by_end" bU iv f fd) (TC:iS K mg C) (mF:gc K C "falls" fF) (bF:cY K tu qq []) (GF:af P w K mg base aq 1 fF tu qq (nz C λ_ F=>F)):
 af P w K mg base aq 2 f fd iv (Lp C):=by
 refine F.F.cJ w6 λ_ x6 _ x9 H _ x8 x7 m h=>?_;obtain ⟨x4,x2,la,rT,rF,rfl,W0,u,k⟩:=h;have hu:=kr m;refine ⟨_,cf (cg 1 w6.nd M0)
  (cf (fJ ft U (f9 (pB (pv 0) TC.cl mF GF m bF .nil eK))
   (ql U (e_ (bH 2 w6.nd) (e_ (bH 3 w6.nd) (e_ (bH 4 w6.nd) (e_ (bH 5 w6.nd) qr)))))
   (ax (AS hu (pv 1) (pv 3) (eN (gv (pv 2) (pv 4) (pv 5))) U)))
  (ax (b_ (pv 1)))),?_⟩
 refine λN1 c1 d S=>c1 _ _ ?_;have s1:=a8 (o:=.dK []) S;have e1:upd H d (.dK []) d=some (.dK []):=ah;generalize upd H d (.dK [])=H1 at*;obtain ⟨dx,ta,fa,ep,_,_⟩:=id W0;have nf:(lY x2 la ta fa).lookup ("falls":Str)=none:=wA _ _ _ _ (by decide+kernel) (by decide+kernel) (by decide+kernel) (by decide+kernel);refine λN2 c2=>(aa U (ip (s1 _ _ ep) nf ⟨x4,x2,la,rT,rF,U,W0.same s1,λl N _ s2 R2=>?_⟩));obtain ⟨qs,R⟩:=R2;have R:ee N l qs rF:=R;refine ⟨l,U,⟨_,ai.of R.1⟩,?_⟩;have fl:=u.fl;have T:N d=some (.dK []):=s2 _ _ e1;have hdH:H d=none:=S;refine iA (K:=K) (a:=l) (xs:=qs.map V.ref) (λi L M=>∃E G I J g,L=[some (.ref x4),some (.ref d),E,G,I,J]/\M d=some (.dK g)/\(g.length<=i/\∀Z∈g,∃e:Nat,Z.1=Sum.inl (e:Int))/\(∀e:Nat,(∀r∈rF.take i,r[1]?≠some (e:Int))->eT g (.inl (e:Int))=none)/\
  (∀a b p s:Int,[a,b,p,s]∈rF.take i->∃q,eT g (.inl b)=some (.ref q)/\M q=some (.tup [.int a,.int p,.int s]))/\∀b o,N b=some o->b≠d->M b=some o)
  ⟨none,none,none,none,[],U,T,⟨ar _,λZ h=>nomatch h⟩,(λe _=>rfl),(λa b p s h=>by simp at h),λb o e _=>e⟩ ?_ ?_ ?_
 ·rintro i L O _ ⟨E,G,I,J,g,rfl,_,_,_,_,n⟩;exact ai.of (n _ _ R.1 (cI R.1 T nofun))
 ·rintro i kJ L O hx ⟨E,G,I,J,g,rfl,v,⟨W,Iw⟩,y,A,n⟩;obtain ⟨q,r,rfl,_,D,jX⟩:=R.get hx;obtain ⟨Q,b',p,s,rfl,_,_,x3,_⟩:=u.f r (fY D);have hi:i<rF.length:=(cO.mp D).1;refine ⟨q,_,U,cK.of (n _ _ jX (cI jX T nofun)),U,_,_,U,_,_,U,_,_,U,_,_,U,U,?_⟩;refine (aa U (aa U (aa U ⟨dj U,λx5 Y=>?_⟩)));have td:x5≠d:=a6 (a7 v Y);refine (aa U (aa U ⟨d,_,U,oU.k (k:=Sum.inl b') (by rw [ag (a6 td)];exact v) (fe (by lia)),?_⟩));have tk:rF.take (i+1)=rF.take i++[[Q,b',p,s]]:=by rw [jo,D];rfl
  refine ⟨_,_,_,_,_,U,ah,⟨cQ (wq _ _ _) (ug W),λZ m4=>?_⟩,λe t=>?_,λa b l2 m2 c=>?_,λb o e ne=>?_⟩
  ·rcases SF m4 with z | ⟨Hn,z0,z⟩
   ·exact ⟨b'.toNat,by rw [z,kZ (by exact gk x3)]⟩
   ·rw [z];exact Iw Hn z0
  ·rw [tk] at t;have kQ:b'≠(e:Int):=λz=>t [Q,b',p,s] (jq _ fh) (by rw [<-z];rfl);rw [ye,if_neg (λz=>kQ (vp z).symm)];exact y e λr m=>t r (iE _ m)
  ·rw [tk] at c;rcases gH.mp c with c | c
   ·have vj:b≠b':=λz=>by
     obtain ⟨j,B⟩:=rM.mp c;have Iz:j<i:=by have:=(cO.mp B).1;rw [iC] at this;exact EE this
     have ve:rF[j]?=some [a,b,l2,m2]:=by rw [List.getElem?_take] at B;rw [if_pos Iz] at B;exact B
     have:=u.one j i _ _ ve D (by rw [z];rfl);lia
    obtain ⟨q',X,x⟩:=A a b l2 m2 c;refine ⟨q',by rw [ye,if_neg (λz=>vj (vp z))];exact X,?_⟩;rw [ag (cI x v nofun),ag (a7 x Y)];exact x
   ·have c:=g_.mp c;cases c;refine ⟨x5,by rw [ye,if_pos rfl],?_⟩;rw [ag td,ah]
  ·rw [ag ne,ag (a7 (n _ _ e ne) Y)];exact n _ _ e ne
 ·rintro L O ⟨E,G,I,J,g,rfl,v,W,y,A,n⟩;have hle:rF.take (qs.map V.ref).length=rF:=by rw [ak,R.len];exact i5
  rw [hle] at y A;rw [ak,R.len] at W;refine c2 _ _ (aa U (k d O S (λb o e=>n _ _ (s2 _ _ (s1 _ _ e)) (a7 e hdH)) ⟨g,v,by lia,λe t=>y e λr m z=>?_,λe f hf=>?_⟩))
  ·obtain ⟨Q,b',p,s,rfl,_⟩:=u.f r m;have z:some b'=some (e:Int):=z;cases z;rw [u.jK m] at t;cases t
  ·obtain ⟨a,l',m',c,rfl,x1,_⟩:=u.find hf;obtain ⟨q,X,x⟩:=A _ _ _ _ c;refine ⟨q,X,?_⟩;rw [x];show some (HO.tup [.int a,.int l',.int m'])=some (HO.tup [.int ((a.toNat:Nat):Int),.int l',.int m']);rw [show ((a.toNat:Nat):Int)=a by exact BA x1]
end
end Y0
namespace L2
open PySem PySem.Spec PyProof.Rows
def tO:List Value->List Str->Bool
 | [],[]=>true
 | .str x _::b,s::a=>decide (x=s) && tO b a
 | _,_=>false
theorem NU:∀{vs:List Value} {ss:List Str},tO vs ss=true->aX (ss.map V.str) vs
 | [],[],_=>.nil
 | .str x t::vs,s::ss,h=>by have h:(decide (x=s) && tO vs ss)=true:=h;rw [pS,vu] at h;obtain ⟨e,a⟩:=h;subst e;exact .cons ⟨t,U⟩ (NU a)
 | [],_::_,h=>by cases h
 | .none::_,_,h=>nomatch (show false=true from h)
 | .bool _::_,_,h=>nomatch (show false=true from h)
 | .int _ _::_,_,h=>nomatch (show false=true from h)
 | .float _ _::_,_,h=>nomatch (show false=true from h)
 | .str _ _::_,[],h=>nomatch (show false=true from h)
 | .bytes _ _::_,_,h=>nomatch (show false=true from h)
 | .ref _::_,_,h=>nomatch (show false=true from h)
 | .builtin _::_,_,h=>nomatch (show false=true from h)
 | .type _::_,_,h=>nomatch (show false=true from h)
 | .ellipsis::_,_,h=>nomatch (show false=true from h)
 | .notImplemented::_,_,h=>nomatch (show false=true from h)
def LC (K:aY) (ss:List Str):Value->Bool
 | .ref b=>match K.lookup b with
  | some o=>(o.cls==.type "tuple") && (match o.data with
   | .seq a _=>decide (a.size<=sizeLine) && tO a.toList ss
   | _=>false)
  | none=>false
 | _=>false
theorem NW {ss:List Str} {v:Value} (h:LC K ss v=true):∃b,v=.ref b/\∀H,cK K H b (ss.map V.str):=by
 cases v with
 | ref b=>
  refine ⟨b,U,λH=>.inr ?_⟩
  have h:(match K.lookup b with
   | some o=>(o.cls==.type "tuple") && (match o.data with
    | .seq a _=>decide (a.size<=sizeLine) && tO a.toList ss
    | _=>false)
   | none=>false)=true:=h
  cases q:K.lookup b with
  | none=>rw [q] at h;cases h
  | some o=>
   rw [q] at h
   have h:((o.cls==.type "tuple") && (match o.data with
    | .seq a _=>decide (a.size<=sizeLine) && tO a.toList ss
    | _=>false))=true:=h
   rw [pS] at h;obtain ⟨e,c⟩:=h
   cases d:o.data with
   | seq a n=>
    rw [d] at c;have c:(decide (a.size<=sizeLine) && tO a.toList ss)=true:=c;rw [pS,vu] at c;exact ⟨o,a,n,U,beq_iff_eq.mp e,d,c.1,NU c.2⟩
   | _=>rw [d] at c;cases c
 | _=>cases h
abbrev Fj (K:aY) (a:Addr) (D:List (Str×List Str)):Prop:=KTD.tabLook (λd v=>LC K d v) (λb=>List.lookup b K) a D=true
section
theorem VZ (T:KTD.TabOf R s.heap a D) (j:∀d v,KTD.datumAt k D=some d->R d v->Q (some v) { s with toks:=s.toks+1 }) (m:KTD.datumAt k D=none->Q none { s with toks:=s.toks+1 }):
 wpAny (model prog w) A (dictGet a (.str k tk)) Q E s:=by
 obtain ⟨_,o,b,r,h,_,g,f⟩:=T;unfold dictGet
 try with_reducible refine lS ?_
 refine ae (wpAny_pyHash_str (ae (KTD.kt_dictFind_strs (s:={ s with toks:=s.toks+1 }) h g (by obtain ⟨l⟩:=b;simpa using f.exact) ?_)));have c:Q (findBy (λk v=>v.isStr k) b k) { s with toks:=s.toks+1 }:=by
  have n:findBy (λk v=>v.isStr k) b k=(b.toList.find? λe=>e.key.isStr k).map (·.val):=by obtain ⟨l⟩:=b;simp [findBy]
  rw [n]
  cases C:KTD.datumAt k D with
  | some d=>obtain ⟨v,q,p⟩:=f.find_some C;rw [q];exact j d v C p
  | none=>rw [f.find_none C];exact m C
 rw [findBy_of_findIdx?] at c
 cases hi:b.findIdx? λe=>e.key.isStr k with
 | none=>rw [hi] at c;exact aI c
 | some i=>rw [hi] at c;exact ae (CG (s:={ s with toks:=s.toks+1 }) h g (aI c))
theorem V4:MeetsIn prog w (Builtin.«dict.get» ⟨[.ref a,.str k tk],[]⟩) (λ_ b s=>KTD.TabOf R s.heap a D/\(∀d v,KTD.datumAt k D=some d->R d v->b (.ok (.ret v)) { s with toks:=s.toks+1 })/\(KTD.datumAt k D=none->b (.ok (.ret .none)) { s with toks:=s.toks+1 })):=
 .of_wp λA b s ⟨T,c,e⟩=>by show wpAny _ _ (dictGet a (.str k tk)>>=_) _ _ s;refine ae (VZ T (λd v f h=>aI ⟨v,U,c d v f h⟩) λg=>?_);show wpAny _ _ (Builtin.Dict.missed a (.str k tk)>>=_) _ _ _;exact ae (wpAny_missed_other T.1 (aI ⟨.none,U,e g⟩))
end
def Z6 (K:aY) (D:List (Str×List Str)) (h i:TE):TE:=λe H Q=>h e H λx g=>∃a,x=.ref a/\Fj K a D/\i e g λy c=>∃z,y=.str z/\(∀d,KTD.datumAt z D=some d->∀b,(∀f,cK K f b (d.map V.str))->Q (.ref b) c)/\(KTD.datumAt z D=none->Q .a9 c)
theorem Vg (N:PE X o td) (L:PE X e ty) (m:M1 X o "get" apos e dU):PE X (.Call (.Attribute o "get" apos) [e] [] dU) (Z6 X.K D td ty):=by
 intro q s x H x1 I h;refine wpAny_Call_method m.base m.m_ m.line PySem.F.plainAttrs_dict PySem.F.slot_dict_get PySem.F.type_dict_get (ay (N q s x H _ I h) λu r g=>?_);obtain ⟨x3,y,j,W,a,A,d,S⟩:=g;subst A;obtain rfl:u=Value.ref a:=W;have T:KTD.TabOf (λ(c:List Str) v=>∃b,v=Value.ref b/\∀H,cK X.K H b (c.map V.str)) r.heap a D:=KTD.tab_of_look (λd v z=>NW z) j.de d;obtain ⟨_,p,es,ep,n,l,_⟩:=id T;refine ⟨⟨p,n,l.1⟩,λb e=>?_,?_⟩
 ·injection e with e
  subst e;exact ⟨p,n,l.2.1⟩
 rw [m.trees];refine Calls.callWith_builtin U (Calls.evalArgs_plain (Calls.spliced_cons (ay (L q r x y _ j S) λiv t g=>Calls.spliced_nil ?_)));obtain ⟨x4,i,f,Y,z,B,C,E⟩:=g;subst B;obtain ⟨x2,rfl⟩:=Y;have k:KTD.TabOf (λ(c:List Str) v=>∃b,v=Value.ref b/\∀H,cK X.K H b (c.map V.str)) t.heap a D:=KTD.tab_of_look (λd v z=>NW z) f.de d;refine call_meetsIn PySem.F.slot_dict_get (show t.TypeIs (.ref a) "dict" from ?_) PySem.F.entry_dict_get (PySem.F.args_dict_get_2 _ _) (V4 (D:=D)) ⟨k,λc v F Q=>?_,λM=>?_⟩
 ·obtain ⟨_,R,_,_,O,J,_⟩:=id k;exact ⟨R,O,J.1⟩
 ·obtain ⟨b,rfl,G⟩:=Q;exact ⟨.ref b,i,f.tok _,U,C c F b G⟩
 ·exact ⟨.a9,i,f.tok _,U,E M⟩
section
variable {K:aY}
end
def vJ:V->Bool
 | .int _=>true
 | .str _=>true
 | _=>false
theorem V8:∀{xs:List V},xs.all vJ=true->xs.all gh=true:=λ{xs} h=>lT.mpr λx a=>by have:=lT.mp h x a;cases x<;>first | rfl | cases this
theorem Zq (h:vJ x=true) (h':vJ y=true):nc x y=true↔x=y:=by
 cases x with
 | int i=>cases y with
  | int j=>show (i==j)=true↔_;rw [beq_iff_eq,V.int.injEq]
  | str s=>exact ⟨nofun,nofun⟩
  | _=>cases h'
 | str s=>cases y with
  | int j=>exact ⟨nofun,nofun⟩
  | str a=>show (s==a)=true↔_;rw [beq_iff_eq,V.str.injEq]
  | _=>cases h'
 | _=>cases h
theorem Vi (h:xs.all vJ=true) (h':ys.all vJ=true):vF xs ys=true↔xs=ys:=by refine ⟨λe=>?_,λe=>by rw [e];exact NM (V8 h')⟩;unfold vF at e;rw [pS,lT,beq_iff_eq] at e;obtain ⟨c,d⟩:=e;refine List.ext_getElem d λi a b=>?_;have:=c i (pP.mpr (by lia));rw [vw,vw,df a,df b] at this;exact (Zq (lT.mp h _ (vv a)) (lT.mp h' _ (vv b))).mp this
section
variable {K:aY}
def Yj (K:aY):R2:=λx y H Q=>∃p q a b,x=.ref p/\y=.ref q/\cK K H p a/\cK K H q b/\a.all gh=true/\b.all gh=true/\Q (.bl (!vF a b)) H
theorem Zh (g:X.K=K) (j:X.A.units+64<cLine):eI X (compareOp .NotEq) (Yj K):=by subst g;intro t s D H x y v u Q I o r h;obtain ⟨p,q,B,C,rfl,rfl,e,f,c,d,i⟩:=h;cases o;cases r;obtain ⟨z,a,m,_⟩:=I.tuple e;obtain ⟨A,b,n,_⟩:=I.tuple f;have k:=a.length;have l:=b.length;refine SeqAt.RcNeAt.tuples m n (T4 j) (Zp a b c d) _ _ _ _ ⟨.bl _,H,I,U,?_⟩;rw [dW,dW,<-k,<-l];exact i
end
open PySem
theorem Bu:∀{ss:List Str},(ss.map V.str).all gh=true
 | []=>rfl
 | s::r=>by rw [eG,Ac,Bu (ss:=r)];rfl
end L2
namespace Y0
open PySem L2
seal L2.PE L2.PA L2.PT L2.PS L2.f7 L2.PG L2.mH L2.PI L2.PO
seal L2.kT L2.il L2.iu L2.fV L2.gS L2.hQ L2.ir L2.iq L2.gf Y0.aB
abbrev vI:List (Str×List Str):=[("sum",["tie","tie"]),("late",["tie"]),("soon",["tie"]),("sure",["wait"]),("back",["wait","tie"]),("cross",["wait"])]
structure v8 (K:aY) (mg:Str->Option Value):Prop where
 at_:∃u,mg "USED_KINDS"=some (.ref u)/\Fj K u vI
 tuple:mg "tuple"=none
def jl (xs:List au):List Str:=xs.map λx=>kD x.tie
inductive mI (F:dO):Str->List au->Option au->Prop
 | sum (x y:au) (hx:x.tie=true) (hy:y.tie=true):mI F "sum" [x,y] (aP x y)
 | bE (x:au) (hx:x.tie=true):mI F "late" [x] (dQ F x)
 | cz (x:au) (hx:x.tie=true):mI F "soon" [x] (eM F x)
 | sure (x:au) (fa:Nat×Int×Int) (hx:x.tie=false) (hf:F x.b=some fa):mI F "sure" [x] (dR F x)
 | back (x y:au) (fa:Nat×Int×Int) (hx:x.tie=false) (hy:y.tie=true) (hf:F x.b=some fa):mI F "back" [x,y] (bJ F x y)
 | aG (x:au) (fa:Nat×Int×Int) (hx:x.tie=false) (hf:F x.b=some fa):mI F "cross" [x] (di F x)
theorem mI.kinds (h:mI F word xs o):PyProof.Rows.KTD.datumAt word vI=some (jl xs)/\xs.length<=2:=by
 cases h with
 | sum x y a b=>refine ⟨?_,ar _⟩;unfold jl;rw [eG,eG,rH,a,b];decide+kernel
 | bE x a=>refine ⟨?_,kg 1⟩;unfold jl;rw [eG,rH,a];decide+kernel
 | cz x a=>refine ⟨?_,kg 1⟩;unfold jl;rw [eG,rH,a];decide+kernel
 | sure x c a d=>refine ⟨?_,kg 1⟩;unfold jl;rw [eG,rH,a];decide+kernel
 | back x y c a b d=>refine ⟨?_,ar _⟩;unfold jl;rw [eG,eG,rH,a,b];decide+kernel
 | aG x c a d=>refine ⟨?_,kg 1⟩;unfold jl;rw [eG,rH,a];decide+kernel
def Zn (H:Hp) (l:Addr) (a:List Addr) (xs:List au):Prop:=H l=some (.lst (a.map V.ref))/\Paired (gL H) a xs
def Mis (word:Str) (xs:List au):Prop:=xs.length<=2/\∃a,PyProof.Rows.KTD.datumAt word vI=some a/\a≠jl xs
def Nq:Sp:=λf H Q _=>∃d a c e F b o,f=[.ref d,.str a,.ref c]/\lz H d F/\Zn H c e b/\(mI F a b o\/o=none/\Mis a b)/\lj H Q o
theorem Mm:∀{xs ys:List Str},xs.map V.str=ys.map V.str->xs=ys
 | [],[],_=>rfl
 | x::xs,y::ys,h=>by rw [eG,eG,List.cons.injEq,V.str.injEq] at h;rw [h.1,Mm h.2]
 | [],_::_,h=>by cases h
 | _::_,[],h=>by cases h
theorem NQ {ss:List Str}:(ss.map V.str).all vJ=true:=by rw [Ab];exact lT.mpr λ_ _=>rfl
theorem lj.same (g:lj H Q o) (s:ao H H1):lj H1 Q o:=⟨λe a b=>g.1 e a (s.trans b),λx e r a c b h=>g.2 x e r a (s.free c) (s.trans b) h⟩
section
theorem Xt:cb Ĉ Ĉ (aJ bo):=c9
theorem Xn:hV (aJ bo) Ĉ (jY [(".0",.local),("what",.local)]) ğ [none]:=jZ
theorem WR:(ğ:List Str).Nodup:=by decide+kernel
theorem kO (F:Fn K mg "what_follows" bo Ĉ f fd) (T:v8 K mg)
 (F1:Fn K mg "by_sum" eP đ f1 d1) (G1:af P w K mg base aq 1 f1 d1 đ P7)
 (F2:Fn K mg "by_late" dA ĉ f2 d2) (G2:af P w K mg base aq 1 f2 d2 ĉ Kz)
 (F3:Fn K mg "by_soon" d9 ĉ f3 d3) (G3:af P w K mg base aq 1 f3 d3 ĉ K7)
 (F4:Fn K mg "by_sure" d8 ć f4 d4) (G4:af P w K mg base aq 1 f4 d4 ć K9)
 (F5:Fn K mg "by_back" dB ď f5 d5) (G5:af P w K mg base aq 1 f5 d5 ď Ku)
 (F6:Fn K mg "by_cross" cT ć f6 d6) (G6:af P w K mg base aq 1 f6 d6 ć Lr):
 af P w K mg base aq 2 f fd Ĉ Nq:=by
 obtain ⟨x1,mU,FU⟩:=T.at_;refine F.F.cJ Xt λ_ x6 _ x9 x2 _ x8 x7 l x3=>?_;obtain ⟨d,R,ul,E,n,xs,o,rfl,FA,⟨N,M⟩,A,G⟩:=x3;refine ⟨_,cf (dG (dF (Zh (K:=K) U l.units) (qB ON (by rfl) T.tuple (by decide+kernel) (aU (me U (f9 (pv 2)) Xn (λcl ex s0 H0=>⟨bH 0 WR,nI,aN (pv 0)⟩))))
  (Vg (D:=vI) (nH (v:=.ref x1) U mU U) (pv 1) ⟨U,U,U,U⟩)) (ax (b_ zev)) dH)
  (cf (dG (dF gC (pv 1) eV) (ax (b_ (bM G1 l F1 (bp (cu cR (pv 2) a0) (cu cR (pv 2) a0))))) dH)
  (cf (dG (dF gC (pv 1) eV) (ax (b_ (bM G2 l F2 (bp (pv 0) (cu cR (pv 2) a0))))) dH)
  (cf (dG (dF gC (pv 1) eV) (ax (b_ (bM G3 l F3 (bp (pv 0) (cu cR (pv 2) a0))))) dH)
  (cf (dG (dF gC (pv 1) eV) (ax (b_ (bM G4 l F4 (bp (pv 0) (cu cR (pv 2) a0))))) dH)
  (cf (dG (dF gC (pv 1) eV) (ax (b_ (bM G5 l F5 (gv (pv 0) (cu cR (pv 2) a0) (cu cR (pv 2) a0))))) dH)
  (ax (b_ (bM G6 l F6 (bp (pv 0) (cu cR (pv 2) a0)))))))))),?_⟩
 obtain ⟨m,Y,wL,A⟩:∃m,PyProof.Rows.KTD.datumAt R vI=some m/\xs.length<=2/\(m=jl xs/\mI n R xs o\/m≠jl xs/\o=none):=by
  rcases A with a | ⟨rfl,h1,m,h2,h3⟩
  ·exact ⟨_,a.kinds.1,a.kinds.2,.inl ⟨U,a⟩⟩
  ·exact ⟨m,h2,h1,.inr ⟨h3,U⟩⟩
 have hlen:E.length=xs.length:=kd M;refine λg c=>(aa U ⟨ul,U,⟨_,ai.of N⟩,λS X=>?_⟩);refine sG (xs:=E.map V.ref) (λj L W=>∃v,L=[v]/\W S=some (.lst ((jl (xs.take j)).map V.str))/\ao x2 W) ⟨none,U,ah,a8 X⟩ ?_ ?_ ?_
 ·rintro j L I _ ⟨v,rfl,_,u⟩;exact ai.of (u _ _ N)
 ·rintro j x L I h ⟨v,rfl,J,u⟩;rw [cW] at h
  cases q:E[j]? with
  | none=>rw [q] at h;cases h
  | some x4=>
   rw [q] at h;cases h;obtain ⟨x,Q4,hw⟩:=aF M q;have hj:j<xs.length:=(cO.mp Q4).1;refine (aa U (aL (u _ _ hw) U ⟨_,J,?_,_,U,?_,λb o e=>?_⟩))
   ·unfold jl;rw [ak,ak,iC];exact fe (EH wL)
   ·unfold jl;rw [ah,jo,Q4,d_,d_];rfl
   ·rw [ag (a7 e X)];exact u _ _ e
 rintro L I ⟨v,rfl,J,u⟩;have dE:xs.take (E.map V.ref).length=xs:=by rw [ak,hlen];exact i5
 rw [dE] at J;refine ⟨S,_,U,.inl ⟨ai.of J,λt ht=>?_⟩⟩;have H:=u.trans (a8 (o:=.tup ((jl xs).map V.str)) ht);have e3:upd I t (.tup ((jl xs).map V.str)) t=some (.tup ((jl xs).map V.str)):=ah;generalize upd I t (.tup ((jl xs).map V.str))=H3 at*;refine ⟨x1,U,FU,aa U ⟨R,U,λss QE b hb=>?_,λhn=>by rw [Y] at hn;cases hn⟩⟩;rw [Y] at QE;cases QE;refine ⟨t,b,_,_,U,U,cK.of e3,hb H3,Bu,Bu,ct ?_⟩;rcases A with ⟨rfl,A⟩ | ⟨ne,rfl⟩
 case inr=>
  refine qg ?_ ((G.same H).1 U _ (ao.refl _));show (!vF ((jl xs).map V.str) (m.map V.str))=true;rw [Bool.not_eq_true'];exact Bool.eq_false_iff.mpr λx5=>ne (Mm ((Vi NQ NQ).mp x5)).symm
 refine i7 (by rw [NM Bu];rfl) (c _ _ ?_);clear c g;have z:=FA.same H;have p:=G.same H;have k:=H _ _ N;have s:Paired (gL H3) E xs:=gM M λx4 x e=>e.same H
 cases A with
 | sum x y h O=>
  cases s with
  | cons i r=>cases r with
   | cons Q r=>cases r
               refine λg _=>(aa U ⟨U,ct (qg (by decide+kernel) ?_)⟩);exact (aa U (jD k (iH (j:=0) U) (aa U (jD k (iH (j:=1) U) ⟨_,_,x,y,U,i,Q,h,O,p⟩))))
 | bE x h=>
  cases s with
  | cons i r=>cases r
              refine λg c=>(aa U ⟨U,ct (i7 (by decide+kernel) (c _ _ ?_))⟩);refine λg _=>(aa U ⟨U,ct (qg (by decide+kernel) ?_)⟩);exact (aa U (aa U (jD k (iH (j:=0) U) ⟨d,_,n,x,U,z,i,h,p⟩)))
 | cz x h=>
  cases s with
  | cons i r=>cases r
              refine λg c=>(aa U ⟨U,ct (i7 (by decide+kernel) (c _ _ ?_))⟩);refine λg c=>(aa U ⟨U,ct (i7 (by decide+kernel) (c _ _ ?_))⟩);refine λg _=>(aa U ⟨U,ct (qg (by decide+kernel) ?_)⟩);exact (aa U (aa U (jD k (iH (j:=0) U) ⟨d,_,n,x,U,z,i,h,p⟩)))
 | sure x B h C=>
  cases s with
  | cons i r=>cases r
              refine λg c=>(aa U ⟨U,ct (i7 (by decide+kernel) (c _ _ ?_))⟩);refine λg c=>(aa U ⟨U,ct (i7 (by decide+kernel) (c _ _ ?_))⟩);refine λg c=>(aa U ⟨U,ct (i7 (by decide+kernel) (c _ _ ?_))⟩);refine λg _=>(aa U ⟨U,ct (qg (by decide+kernel) ?_)⟩);exact (aa U (aa U (jD k (iH (j:=0) U) ⟨d,_,n,x,B,U,z,i,h,C,p⟩)))
 | back x y B h O C=>
  cases s with
  | cons i r=>cases r with
   | cons Q r=>cases r
               refine λg c=>(aa U ⟨U,ct (i7 (by decide+kernel) (c _ _ ?_))⟩);refine λg c=>(aa U ⟨U,ct (i7 (by decide+kernel) (c _ _ ?_))⟩);refine λg c=>(aa U ⟨U,ct (i7 (by decide+kernel) (c _ _ ?_))⟩);refine λg c=>(aa U ⟨U,ct (i7 (by decide+kernel) (c _ _ ?_))⟩);refine λg _=>(aa U ⟨U,ct (qg (by decide+kernel) ?_)⟩);exact (aa U (aa U (jD k (iH (j:=0) U) (aa U (jD k (iH (j:=1) U) ⟨d,_,_,n,x,y,B,U,z,i,Q,h,O,C,p⟩)))))
 | aG x B h C=>
  cases s with
  | cons i r=>cases r
              refine λg c=>(aa U ⟨U,ct (i7 (by decide+kernel) (c _ _ ?_))⟩);refine λg c=>(aa U ⟨U,ct (i7 (by decide+kernel) (c _ _ ?_))⟩);refine λg c=>(aa U ⟨U,ct (i7 (by decide+kernel) (c _ _ ?_))⟩);refine λg c=>(aa U ⟨U,ct (i7 (by decide+kernel) (c _ _ ?_))⟩);refine λg c=>(aa U ⟨U,ct (i7 (by decide+kernel) (c _ _ ?_))⟩);exact (aa U (aa U (jD k (iH (j:=0) U) ⟨d,_,n,x,B,U,z,i,h,C,p⟩)))
end
end Y0
namespace L2
open PySem
theorem lD (h:¬g=f):aA f v ((g,x)::r)=(g,x)::aA f v r:=if_neg h
theorem S':aA f v ((f,x)::r)=(f,v)::r:=if_pos U
end L2
namespace Y0
open PySem L2
seal L2.PE L2.PA L2.PT L2.PS L2.f7 L2.PG L2.mH L2.PI L2.PO
seal L2.kT L2.il L2.iu L2.fV L2.gS L2.hQ L2.ir L2.iq L2.gf Y0.aB
structure mM (K:aY) (mg:Str->Option Value) (C:Addr):Prop where
 cl:lU K C
 nM:j5 K C "many"
 nB:j5 K C "by_end"
 nR:j5 K C "rows"
 nE:j5 K C "best"
 nX:j5 K C "bar"
 len:mg "len"=none
 range:mg "range"=none
def hH (n:Nat) (c d b:Addr) (a:V):List (Str×V):=[("many",.int (n:Int)),("by_end",.ref c),("rows",.ref d),("best",.ref b),("bar",a)]
theorem cl1:(("by_end":Str)=="many")=false:=by decide+kernel
theorem cl2:(("rows":Str)=="many")=false:=by decide+kernel
theorem cl3:(("rows":Str)=="by_end")=false:=by decide+kernel
theorem cl4:(("best":Str)=="many")=false:=by decide+kernel
theorem cl5:(("best":Str)=="by_end")=false:=by decide+kernel
theorem cl6:(("best":Str)=="rows")=false:=by decide+kernel
theorem cl7:(("bar":Str)=="many")=false:=by decide+kernel
theorem cl8:(("bar":Str)=="by_end")=false:=by decide+kernel
theorem cl9:(("bar":Str)=="rows")=false:=by decide+kernel
theorem WB:(("bar":Str)=="best")=false:=by decide+kernel
section
theorem KJ:(hH n be rl bd bar).lookup ("many":Str)=some (.int (n:Int)):=by unfold hH;rw [fv,mE]
theorem P1:(hH n be rl bd bar).lookup ("by_end":Str)=some (.ref be):=by unfold hH;rw [fv,cl1,fv,mE]
theorem qi:(hH n be rl bd bar).lookup ("rows":Str)=some (.ref rl):=by unfold hH;rw [fv,cl2,fv,cl3,fv,mE]
theorem ph:(hH n be rl bd bar).lookup ("best":Str)=some (.ref bd):=by unfold hH;rw [fv,cl4,fv,cl5,fv,cl6,fv,mE]
theorem AD:(hH n be rl bd bar).lookup ("bar":Str)=some bar:=by unfold hH;rw [fv,cl7,fv,cl8,fv,cl9,fv,WB,fv,mE]
theorem lV {m:Str} (a:(m=="many")=false:=by decide+kernel) (b:(m=="by_end")=false:=by decide+kernel) (c:(m=="rows")=false:=by decide+kernel) (d:(m=="best")=false:=by decide+kernel) (e:(m=="bar")=false:=by decide+kernel):(hH n be rl bd bar).lookup m=none:=by unfold hH;rw [fv,a,fv,b,fv,c,fv,d,fv,e];rfl
theorem XH:aA "bar" v (hH n be rl bd bar)=hH n be rl bd v:=by unfold hH;rw [lD (by decide+kernel),lD (by decide+kernel),lD (by decide+kernel),lD (by decide+kernel),S']
end
def Fm:Option Nat->V
 | none=>.a9
 | some i=>.int (i:Int)
def j0:MU.Wd->Str
 | .told=>"told"
 | .sum=>"sum"
 | .bE=>"late"
 | .cz=>"soon"
 | .sure=>"sure"
 | .back=>"back"
 | .aG=>"cross"
def ck (k:MU.Key):List Key:=[.inr (kD k.1),.inl (k.2.1:Int),.inl (k.2.2:Int)]
theorem N9 (h:kD a=kD b):a=b:=by
 revert h
 cases a<;>cases b<;>decide+kernel
theorem L_ (h:ck k=ck k'):k=k':=by
 obtain ⟨t,a,b⟩:=k;obtain ⟨t',a',b'⟩:=k';unfold ck at h
 injection h with f h
 injection h with g h
 injection h with i _
 have c:=N9 (Sum.inr.inj f);have d:=Ai (vp g);have e:=Ai (vp i);have c:t=t':=c;have d:a=a':=d;have e:b=b':=e;rw [c,d,e]
def mL (H:Hp) (q:Addr) (r:Row):Prop:=∃b a,H q=some (.tup [.ref b,.str (j0 r.word),.ref a])/\gL H b r.fm/\H a=some (.tup (r.used.map λi:Nat=>V.int (i:Int)))
theorem mL.same (h:mL H q r) (s:ao H H'):mL H' q r:=by obtain ⟨e,d,a,b,c⟩:=h;exact ⟨e,d,s _ _ a,s _ _ b,s _ _ c⟩
structure fi (C:Addr) (H:Hp) (p be rl bd:Addr) (n:Nat) (F:dO) (st:MU.St):Prop where
 ins:∃dx,H p=some (.ins C dx (hH n be rl bd (Fm st.bar)))
 jK:lz H be F
 rows:∃qs,H rl=some (.lst (qs.map V.ref))/\Paired (mL H) qs st.rows
 best:∃kvs,H bd=some (.dT kvs)/\(kvs.length<=st.rows.length/\∀kv∈kvs,∃k:MU.Key,kv.1=ck k)/\∀k:MU.Key,eT kvs (ck k)=(st.best k).map λi:Nat=>V.int (i:Int)
theorem fi.same (h:fi C H p be rl bd n F st) (s:ao H H'):fi C H' p be rl bd n F st:=by obtain ⟨⟨a,b⟩,c,⟨l,d,f⟩,⟨k,g,i,j⟩⟩:=h;exact ⟨⟨a,s _ _ b⟩,c.same s,⟨l,s _ _ d,gM f λq r e=>e.same s⟩,⟨k,s _ _ g,i,j⟩⟩
def dh (p d c:Addr) (H a:Hp):Prop:=∀b o,H b=some o->b≠p->b≠d->b≠c->a b=some o
theorem dh.of (s:ao H H'):dh p rl bd H H':=λb o e _ _ _=>s _ _ e
theorem dh.trans (a:dh p rl bd H H1) (b:dh p rl bd H1 H2):dh p rl bd H H2:=λc o e d f g=>b c o (a c o e d f g) d f g
open Classical in
def K1 (C:Addr):Sp:=λf H Q _=>∃p d e c q n F a x,f=[.ref p,.ref q]/\fi C H p d e c n F a/\bP n a/\gL H q x/\∀b,ao H b->Q (.bl (decide (gm a x))) b
theorem AV (h:Paired (mL H) qs rows) {i:Nat} (a:(rows[i]?).map (·.fm)=some x):∃q r c b,qs[i]?=some q/\rows[i]?=some r/\r.fm=x/\H q=some (.tup [.ref c,.str (j0 r.word),.ref b])/\gL H c x/\H b=some (.tup (r.used.map λi:Nat=>V.int (i:Int))):=by
 cases C:rows[i]? with
 | none=>rw [C] at a;cases a
 | some r=>
  rw [C] at a;have a:some r.fm=some x:=a;cases a;have l:=kd h;have k:=(cO.mp C).1;obtain ⟨q,d⟩:∃q,qs[i]?=some q:=⟨_,df (ym k l)⟩;obtain ⟨m,e,⟨c,b,f,g,j⟩⟩:=aF h d;rw [C] at e;cases e;exact ⟨q,r,c,b,d,U,U,f,g,j⟩
theorem Fp:iR (jz x) none (some 3)=(ck x.key).map kV:=by unfold iR jz;rw [eo,show (some (3:Int))=some ((3:Nat):Int) from rfl,dC];rfl
theorem Dn:¬(bR (jz x).length 0 none=0/\bR (jz x).length (jz x).length (some 3)=(jz x).length):=λz=>by have h:=z.2;rw [show (some (3:Int))=some ((3:Nat):Int) from rfl,dC] at h;have e:(jz x).length=4:=U;rw [e] at h;cases h
section
theorem Fy:cb ["self","what","key","known"] Ğ (aJ bX):=c9
theorem qX (F:gb K "is_news" "Closing.is_news" bX f fd) (T:mM K mg C):af P w K mg base aq 1 f fd Ğ (K1 C):=by
 refine F.cJ Fy λ_ x3 _ x7 H _ Q x4 hr h=>?_;obtain ⟨x2,be,rl,r,q,x5,Fa,i,x,rfl,c,g,d,k⟩:=h;have t:=kr hr;refine ⟨_,cf (dG (PW.pt (vM (dF gC (aN (pv 1)) eV) (vV (dF gC (aN (pv 1)) (aN (pv 1))))))
  (ax (b_ (oX rZ (aN (pv 1)) a0))) dH)
  (cf (cg 2 Fy.nd (qx AK (pv 1) qt (qu a0)))
  (cf (dG (tW (B0 t (pv 2) (dY (pv 0) U)) (by with_unfolding_all rfl)) (ax (b_ F8)) dH)
  (cf (cg 3 Fy.nd (aN (cu cR (dY (pv 0) U) (lA t (dY (pv 0) U) (pv 2) (λ_ _=>rfl)))))
  (ax (b_ (M4 (dF gC (aN (pv 1)) eV) (oX rZ (aN (pv 1)) (aN (pv 3))) (oX Pu (aN (pv 1)) (aN (pv 3))))))))),?_⟩
 obtain ⟨dx,n⟩:=c.ins;obtain ⟨qs,jW,bY⟩:=c.rows;obtain ⟨kvs,Y,_,m4⟩:=c.best;have m:∀(H':Hp) (b:Bool),ao H H'->(b=true↔gm i x)->Q (.bl b) H':=λH' b s' e=>by
  have:=k H' s';have R:b=decide (gm i x):=by
   by_cases z:gm i x
   ·rw [e.mpr z];simp [z]
   ·cases b with
    | true=>exact absurd (e.mp U) z
    | false=>simp [z]
  rw [R];exact this
 refine λE G=>(aa U (aL d U ⟨U,ct ?_⟩));rw [Be];have D:¬(x.tie=true/\x.a=x.b)->E (L2.i8 ["self","what","key","known"] [.ref x2,.ref q]) H:=λrx=>by
  refine G _ _ ?_;refine λN2 L=>(aa U ⟨_,U,q,_,U,cK.of d,Dn,λp Z=>L _ _ ?_⟩);rw [Fp];have a:=a8 (o:=.tup ((ck x.key).map kV)) Z;have O:upd H p (.tup ((ck x.key).map kV)) p=some (.tup ((ck x.key).map kV)):=ah;generalize upd H p (.tup ((ck x.key).map kV))=H1 at*;have l:=eS.t (k:=ck x.key) (a _ _ Y) O;rw [m4] at l;refine λN3 M=>(aa U (aa U (cS (a _ _ n) T.cl T.nE ph ⟨r,_,U,l,_,U,?_⟩)));have A:gm i x↔∀u,val i x.key=some u->eY x.tie x.v u:=by unfold gm;rw [if_neg rx]
  cases J:i.best x.key with
  | none=>
   refine km (m H1 true a ⟨λ_=>A.mpr λu j=>?_,λ_=>rfl⟩);unfold val at j;rw [J] at j;cases j
  | some x1=>
   rw [J] at l;refine gJ (M _ _ ?_);obtain ⟨u,v,_⟩:=g.at_ _ _ J;obtain ⟨q',x6,pw,pu,S,_,_,W,s,_⟩:=AV bY v;have X:gP (qs.map V.ref) (x1:Int)=some (.ref q'):=iH (by rw [cW,S];rfl);refine λN4 N=>(aa U (cS (a _ _ n) T.cl T.nR qi (aa U (cS (a _ _ n) T.cl T.nE ph (aa U ⟨r,_,U,l,?_⟩)))));refine (wB (a _ _ jW) X (aL (a _ _ W) U (N _ _ ?_)));have y:=MU.nO J v;refine (aa U (aL (a _ _ d) U ⟨U,ct ?_⟩));rw [Be];have B:gm i x↔eY x.tie x.v u.v:=A.trans ⟨λz=>z _ y,λz u' j=>by rw [y] at j;cases j;exact z⟩
   cases I:x.tie with
   | true=>
    refine km (aa U (aL (a _ _ d) U (aa U (aL (a _ _ s) U (ri (m _ _ a ?_))))));rw [B,I,vu];unfold eY;rw [if_pos rfl]
   | false=>
    refine gJ (aa U (aL (a _ _ d) U (aa U (aL (a _ _ s) U (ri (m _ _ a ?_))))));rw [B,I,vu];unfold eY;rw [if_neg (by decide)]
 cases I:x.tie with
 | false=>exact gJ (gJ (D λz=>by rw [I] at z;cases z.1))
 | true=>
  refine km (aa U (aL d U (aa U (aL d U ⟨U,ct ?_⟩))));rw [qf]
  by_cases e:x.a=x.b
  ·refine ig e (aa U (aL d U (ri (m H _ (ao.refl _) ?_))));rw [vu];unfold gm;rw [if_pos ⟨I,e⟩]
  ·exact j4 e (D λz=>e z.2)
end
def DA (C:Addr):Sp:=λj H Q _=>∃p e d c q f n F a x h g,j=[.ref p,.ref q,.str (j0 h),.ref f]/\fi C H p e d c n F a/\bP n a/\gL H q x/\H f=some (.tup (g.map λi:Nat=>V.int (i:Int)))/\a.rows.length<=16500000/\
 ∀b,fi C b p e d c n F (take a x h g)->dh p d c H b->Q .a9 b
theorem KY:decide (Fm o=V.a9)=decide (o=none):=by
 cases o with
 | none=>rfl
 | some i=>exact (fz λz=>nomatch z).trans (fz λz=>nomatch z).symm
theorem TX (h:gm st x):take st x wd us={ rows:=st.rows++[⟨x,wd,us⟩],best:=λk=>if k=x.key then some st.rows.length else st.best k,bar:=if st.bar=none/\h9 x then some st.rows.length else st.bar }:=by unfold take;rw [if_pos h]
theorem SE {kvs:List (List Key×V)} {k:List Key} {v:V} {a:List Key×V} (h:a∈dN kvs k v):a.1=k\/∃b∈kvs,a.1=b.1:=by
 unfold dN at h;split at h
 ·obtain ⟨b,c,rfl⟩:=eQ.mp h;refine .inr ⟨b,c,?_⟩;split<;>rfl
 ·rcases gH.mp h with h | h
  ·exact .inr ⟨a,h,U⟩
  ·rw [g_.mp h];exact .inl U
theorem xI (h:n<=16500000):n<sizeLine:=tL h (by decide)
section
theorem Xq:cb Ă Ă (aJ cF):=c9
theorem qO {f C fN fB:Addr} {fd pK jJ:FuncData} (F:gb K "take" "Closing.take" cF f fd) (T:mM K mg C)
 (mN:gc K C "is_news" fN) (bN:cY K pK Ğ []) (GN:af P w K mg base aq 1 fN pK Ğ (K1 C))
 (FB:Fn K mg "bars_every_hand" bf ğ fB jJ) (GB:af P w K mg base aq 1 fB jJ ğ Kv):af P w K mg base aq 2 f fd Ă (DA C):=by
 refine F.cJ Xq λ_ x4 _ x9 x6 _ x7 x5 W x3=>?_;obtain ⟨p,be,rl,bd,q,m,x1,Fa,a,x,A,us,rfl,c,x2,hw,ϴ,hlen,k⟩:=x3;have hu:=kr W;refine ⟨_,ax (dG (sg (iU (pv 0) T.cl mN GN W bN .nil eK (aU (pv 1))))
  (cf (AS hu (dY (pv 0) U) (qx AK (pv 1) qt (qu a0)) (iB ur (by rfl) T.len vy (aU (dY (pv 0) U))) U)
  (cf (vK (dG (PW.pt (vM (dF Dp (dY (pv 0) U) zev) (vV (sg (bM GB W FB (aU (pv 1))))))) (ax (pj (pv 0) (iB ur (by rfl) T.len vy (aU (dY (pv 0) U))) U)) dH))
  (ax (eg (kE kY kf kX jT (dY (pv 0) U) (aU (eN (gv (pv 1) (pv 2) (pv 3))))))))) dH),?_⟩
 obtain ⟨dx,hp⟩:=c.ins;refine (aa U (ip hp (lV) (aa U ⟨p,be,rl,bd,q,x1,Fa,a,x,U,c,x2,hw,λi r=>⟨_,U,?_⟩⟩)))
 by_cases L:gm a x
 ·refine qg (by simp [L]) ?_;have B:=c.same r;have M:=r _ _ hw;have HQ:=r _ _ ϴ;obtain ⟨R,g⟩:=B.ins;obtain ⟨n,l,bY⟩:=B.rows;obtain ⟨h,j,J,m4⟩:=B.best;have S:n.length=a.rows.length:=kd bY;refine λN2 c2=>(aa U (cS g T.cl T.nR qi ⟨rl,_,U,.inl (ai.of l),aa U (cS g T.cl T.nE ph (aa U ⟨_,U,q,_,U,cK.of M,Dn,λkt Iu=>?_⟩))⟩));rw [Fp,ak,S];have s2:=a8 (o:=.tup ((ck x.key).map kV)) Iu;have e2:upd i kt (.tup ((ck x.key).map kV)) kt=some (.tup ((ck x.key).map kV)):=ah;generalize upd i kt (.tup ((ck x.key).map kV))=H2 at*;refine ⟨bd,_,U,oU.t (k:=ck x.key) (s2 _ _ j) e2 (xI (by have:=J.1;exact qz J.1 hlen)),c2 _ _ ?_⟩;have N:∀b o,i b=some o->b≠bd->upd H2 bd (.dT (dN h (ck x.key) (.int (a.rows.length:Int)))) b=some o:=λb o e v=>by
   rw [ag v];exact s2 _ _ e
  have e3:upd H2 bd (.dT (dN h (ck x.key) (.int (a.rows.length:Int)))) bd=some (.dT (dN h (ck x.key) (.int (a.rows.length:Int)))):=ah;generalize upd H2 bd (.dT (dN h (ck x.key) (.int (a.rows.length:Int))))=H3 at*;clear c2 N2;have wC:p≠bd:=cI g j nofun;have Qa:rl≠bd:=cI l j nofun;have Qf:p≠rl:=cI g l nofun;have t:=N _ _ g wC;have rp:=N _ _ l Qa;have Ϣ:=N _ _ M (cI M j nofun);refine λN4 c4=>⟨λgy H'=>gy=L2.i8 Ă [.ref p,.ref q,.str (j0 A),.ref m]/\(∃zO,H' p=some (.ins C zO (hH x1 be rl bd (Fm (if a.bar=none/\h9 x then some a.rows.length else a.bar)))))/\∀b o,H3 b=some o->b≠p->H' b=some o,?_,?_⟩
  ·refine (aa U (cS t T.cl T.nX AD ⟨U,ct ?_⟩));rw [KY]
   by_cases H:a.bar=none
   ·refine ig H (aa U ⟨q,x,U,Ϣ,_,U,?_⟩)
    by_cases G:h9 x
    ·refine ig G ?_;refine (aa U (cS t T.cl T.nR qi ⟨rl,_,U,.inl (ai.of rp),aa U (pG t T.cl T.nX (by show 5<1000;decide) ⟨U,⟨R,?_⟩,λb o e v=>?_⟩)⟩))
     ·rw [ah,XH,if_pos ⟨H,G⟩,ak,S];rfl
     ·rw [ag v];exact e
    ·refine j4 G ⟨U,⟨R,?_⟩,λb o e _=>e⟩;rw [if_neg λz=>G z.2];exact t
   ·refine j4 H (gJ ⟨U,⟨R,?_⟩,λb o e _=>e⟩);rw [if_neg λz=>H z.1];exact t
  ·rintro gy H4 ⟨rfl,⟨dx4,Cj⟩,k4⟩;refine c4 _ _ ?_;have X:=k4 _ _ rp (a6 Qf);refine (aa U (cS Cj T.cl T.nR qi ⟨.inl ⟨U,_,ai.of X⟩,aa U (aa U (aa U ⟨dj U,λd HN=>?_⟩))⟩));have y:=a8 (o:=.tup [.ref q,.str (j0 A),.ref m]) HN;have e5:upd H4 d (.tup [.ref q,.str (j0 A),.ref m]) d=some (.tup [.ref q,.str (j0 A),.ref m]):=ah;generalize upd H4 d (.tup [.ref q,.str (j0 A),.ref m])=I at*;refine (kK (y _ _ X) (by rw [ak,S];exact xI (by omega)) ?_);have O:∀b o,I b=some o->b≠rl->upd I rl (.lst (n.map V.ref++[.ref d])) b=some o:=λb o e v=>by rw [ag v];exact e
   have e6:upd I rl (.lst (n.map V.ref++[.ref d])) rl=some (.lst ((n++[d]).map V.ref)):=by rw [ah,d_];rfl
   generalize upd I rl (.lst (n.map V.ref++[.ref d]))=H6 at*;have Q:∀b o,i b=some o->b≠p->b≠rl->b≠bd->H6 b=some o:=λb o e n1 n2 n3=>O _ _ (y _ _ (k4 _ _ (N _ _ e n3) n1)) n2;have s:∀b xs,i b=some (.tup xs)->H6 b=some (.tup xs):=λb xs e=>Q _ _ e (cI e g nofun) (cI e l nofun) (cI e j nofun);refine k H6 ?_ λb o e n1 n2 n3=>Q _ _ (r _ _ e) n1 n2 n3;rw [TX L];refine ⟨⟨dx4,O _ _ (y _ _ Cj) Qf⟩,?_,⟨n++[d],e6,?_⟩,⟨_,O _ _ (y _ _ (k4 _ _ e3 (a6 wC))) (a6 Qa),?_,λu=>?_⟩⟩
   ·obtain ⟨zI,E,f2,f3,f4⟩:=B.jK.at_;refine ⟨zI,Q _ _ E (cI E g nofun) (cI E l nofun) (cI E j nofun),f2,f3,λe f hf=>?_⟩;obtain ⟨pp,q1,q2⟩:=f4 e f hf;exact ⟨pp,q1,s _ _ q2⟩
   ·refine wu (gM bY λqq x8 e=>?_) (.cons ?_ .nil)
    ·obtain ⟨pw,Cc,r1,r2,r3⟩:=e;exact ⟨pw,Cc,s _ _ r1,s _ _ r2,s _ _ r3⟩
    ·exact ⟨q,m,O _ _ e5 (cI e5 (y _ _ X) nofun),s _ _ M,s _ _ HQ⟩
   ·refine ⟨?_,λkv Ir=>?_⟩
    ·show (dN h (ck x.key) _).length<=(a.rows++[_]).length;have:=wq h (ck x.key) (.int (a.rows.length:Int));have:=J.1;rw [dw];show _<=a.rows.length+1;lia
    ·rcases SE Ir with z | z
     ·exact ⟨x.key,z⟩
     ·obtain ⟨Hn,h0,e0⟩:=z;obtain ⟨k0,e1⟩:=J.2 Hn h0;exact ⟨k0,e0.trans e1⟩
   ·show eT (dN h (ck x.key) _) (ck u)=(if u=x.key then some a.rows.length else a.best u).map _;rw [ye]
    by_cases D:u=x.key
    ·rw [if_pos (by rw [D]),if_pos D];rfl
    ·rw [if_neg λz=>D (L_ z),if_neg D];exact m4 u
 ·refine i7 (by simp [L]) (k i ?_ (dh.of r));rw [MU.ud L];exact c.same r
end
end Y0
namespace L2
open PySem PySem.Spec PyProof.Rows
theorem LM {q:List (Option Nat)} {g:TG} {r:TT} {s:TE} {j:St} {H:Hp} {D:Addr} {Q:VK} {a:Addr} {xs:List V} (d:Nat->St->Hp->Prop) (v:d 0 (pk q j) (upd H D (.lst []))) (l:∀i c b,i<=xs.length->d i c b->cK K b a xs)
 (A:∀i x c b,xs[i]?=some x->d i c b->g x c b λk u=>r k u λok n=>if ok=true then s k n λy o=>∃ys,o D=some (.lst ys)/\ys.length<sizeLine/\d (i+1) k (upd o D (.lst (ys++[y]))) else d (i+1) k n)
 (z:∀c b,d xs.length c b->Q (.ref D) b):
 vQ q g r s j Q (xn K a) H D:=by
 refine ⟨λi m j H=>m=xs.length-i/\i<=xs.length/\d i j H,⟨xs.length,by simp,dV _,v⟩,?_⟩;rintro i m c b ⟨rfl,f,p⟩
 by_cases h:i<xs.length
 ·refine .inr ⟨⟨xs,_,l i c b f p,df h⟩,d (i+1),λC t B=>⟨xs.length-(i+1),sE h,U,h,B⟩,λx t y=>?_⟩;obtain ⟨e,y⟩:=y;subst e;exact A i x c _ (y xs (l i c _ f p)) p
 ·have e:i=xs.length:=sF f h;subst e;exact .inl ⟨⟨xs,l _ c b f p,ar _⟩,z c b p⟩
theorem px {Y:Cx} {e:Expr} {f:Str} {pos:Pos} {a:TE} (b:Y.K=K) (d:PE Y e a) (c:attributeBase e f Y.env (eval e Y.env)=eval e Y.env):PE Y (.Attribute e f pos) (Pa K a f):=by subst b;exact dY d c
end L2
namespace Y0
open PySem L2
seal L2.PE L2.PA L2.PT L2.PS L2.f7 L2.PG L2.mH L2.PI L2.PO
seal L2.kT L2.il L2.iu L2.fV L2.gS L2.hQ L2.ir L2.iq L2.gf Y0.aB
def AL (C:Addr):Sp:=λk H Q _=>∃p g d c h n F a f e j o,k=[.ref p,.str (j0 f),.ref h]/\fi C H p g d c n F a/\bP n a/\H h=some (.tup (e.map λi:Nat=>V.int (i:Int)))/\Paired (λi x=>aj a i=some x) e j/\mI F (j0 f) j o/\a.rows.length<=16500000/\
 ∀b,fi C b p g d c n F (MU.put a o f e)->dh p d c H b->Q .a9 b
section
theorem Ph:cb ["self","word","used","what"] ċ (aJ bV):=c9
theorem WE:hV (aJ bV) ["self","word","used","what"] (jY [(".0",.local),("number",.local),("self",.free)]) ["number","self"] [none,some 0]:=jZ
theorem WU:(["number","self"]:List Str).Nodup:=by decide+kernel
theorem ra {f C L M:Addr} {N O Q:FuncData} (F:gb K "draw" "Closing.draw" bV f N) (T:mM K mg C)
 (mT:gc K C "take" L) (bT:cY K O Ă []) (GT:af P w K mg base aq 2 L O Ă (DA C))
 (FW:Fn K mg "what_follows" bo Ĉ M Q) (GW:af P w K mg base aq 2 M Q Ĉ Nq):af P w K mg base aq 3 f N ċ (AL C):=by
 refine F.cJ Ph λ_ x7 _ kJ x2 _ x9 x8 S x4=>?_;obtain ⟨p,I,rl,bd,Z,x5,E,st,wd,m,xs,o,rfl,c,x3,B,W,H,hlen,k⟩:=x4;refine ⟨_,cf (cg 3 Ph.nd (bM GW S FW (gv (dY (pv 0) U) (pv 1) (me U (Dv (pv 2)) WE (λcl ex s0 H0=>⟨bH 0 WU,nI,aN (cu cR (px (K:=K) U (pv 1) U) (pv 0))⟩)))))
  (ax (dG (dF Lg (pv 3) zev) (ax (eg (iU (pv 0) T.cl mT GT S bT .nil eK (gv (pv 3) (pv 1) (pv 2))))) dH)),?_⟩
 obtain ⟨dx,A⟩:=c.ins;obtain ⟨qs,jW,bY⟩:=c.rows;obtain ⟨_,sV⟩:=H.kinds;have QA:m.length=xs.length:=kd W;refine λN1 J=>(aa U (cS A T.cl T.nB P1 (aa U (aa U ⟨Z,U,⟨_,cK.of B⟩,λt R=>?_⟩))));refine LM (xs:=m.map λi:Nat=>V.int (i:Int)) (λj s u=>∃v d,s=[v,some (.ref p)]/\u t=some (.lst (d.map V.ref))/\Paired (gL u) d (xs.take j)/\ao x2 u) ⟨none,[],U,ah,.nil,a8 R⟩ ?_ ?_ ?_
 ·rintro j s n _ ⟨v,d,rfl,_,_,a⟩;exact cK.of (a _ _ B)
 ·rintro j x s n h ⟨v,d,rfl,r,g,a⟩;rw [cW] at h
  cases q:m[j]? with
  | none=>rw [q] at h;cases h
  | some i=>
   rw [q] at h;cases h;obtain ⟨x6,X,hy⟩:=aF W q;obtain ⟨q',x1,pw,Cc,g1,_,_,g4,g5,_⟩:=AV bY hy;have pJ:gP (qs.map V.ref) (i:Int)=some (.ref q'):=iH (by rw [cW,g1];rfl);have hj:j<xs.length:=(cO.mp X).1;have vc:d.length=min j xs.length:=by rw [kd g,iC]
   refine (aa U (cS (a _ _ A) T.cl T.nR qi (ij U (a _ _ jW) pJ (aL (a _ _ g4) U ⟨_,r,?_,_,d++[pw],U,?_,?_,λb o e=>?_⟩))))
   ·rw [ak,vc];exact fe (EH sV)
   ·rw [ah,d_];rfl
   ·have et:xs.take (j+1)=xs.take j++[x6]:=by rw [jo,X];rfl
    rw [et];have Y:∀b x,gL n b x->gL (upd n t (.lst (d.map V.ref++[.ref pw]))) b x:=λb x e=>by unfold gL;rw [ag (cI e r nofun)];exact e
    exact wu (gM g λb x e=>Y b x e) (.cons (Y _ _ (a _ _ g5)) .nil)
   ·rw [ag (a7 e R)];exact a _ _ e
 rintro s n ⟨v,d,rfl,r,g,a⟩;have dE:xs.take (m.map λi:Nat=>V.int (i:Int)).length=xs:=by rw [ak,QA];exact i5
 rw [dE] at g;have y:=c.same a;refine ⟨I,_,t,d,E,xs,o,U,y.jK,⟨r,g⟩,.inl H,λz G l=>J _ _ ?_,λx z x1 G _ l hw=>J _ _ ?_⟩
 ·refine (aa U ⟨U,ct (i7 U ?_)⟩);refine k G ?_ (dh.of (a.trans l));rw [z];exact y.same l
 ·refine (aa U ⟨U,ct (qg U ?_)⟩);have c3:=y.same l;have D:=a.trans l;refine (aa U (ip (D _ _ A) (lV) (aa U (aa U (aa U ⟨p,I,rl,bd,x1,Z,x5,E,st,x,wd,m,U,c3,x3,hw,D _ _ B,hlen,λH4 c4 k4=>?_⟩)))));refine k H4 ?_ ((dh.of D).trans k4);rw [z];exact c4
def eU (l:List Nat):List V:=l.map λi:Nat=>V.int (i:Int)
def Lw (C:Addr):Sp:=λg H Q _=>∃(p e f d:Addr) (n:Nat) (F:dO) (c:MU.St) (t:Bool) (a:Nat),g=[.ref p,.str (kD t),.int (a:Int)]/\fi C H p e f d n F c/\n<=8/\∀l b,H l=none->ao H b->b l=some (.lst (eU (dz n c t a)))->Q (.ref l) b
def Ft (C:Addr):Sp:=λg H Q _=>∃(p e f d:Addr) (n:Nat) (F:dO) (c:MU.St) (b:Nat),g=[.ref p,.int (b:Int)]/\fi C H p e f d n F c/\n<=8/\∀l a,H l=none->ao H a->a l=some (.lst (eU (ef n c b)))->Q (.ref l) a
theorem BM:(List.range (n+1)).filterMap f=(List.range n).filterMap f++(f n).toList:=by
 rw [t8,Al]
 cases h:f n with
 | none=>simp [h]
 | some x=>simp [h]
theorem XD:cb Ď Ď (aJ aT):=c9
theorem Xh:hV (aJ aT) Ď (jY [(".0",.local),("b",.local),("a",.free),("kind",.free),("self",.free)]) ["b","a","kind","self"] [none,some 2,some 1,some 0]:=jZ
theorem WX:(["b","a","kind","self"]:List Str).Nodup:=by decide+kernel
theorem ot {f C:Addr} {G:FuncData} (F:gb K "known_of" "Closing.known_of" aT f G) (T:mM K mg C):af P w K mg base aq 1 f G Ď (Lw C):=by
 refine F.cJ XD λ_ x2 _ x6 H _ x4 x3 hr h=>?_;obtain ⟨x1,be,rl,B,n,Fa,l,t,a,rfl,c,h8,k⟩:=h;have N:=kr hr;refine ⟨_,ax (b_ (me U (qC U T.range (aU (dY (pv 0) U))) Xh (λcl ex s0 H0=>⟨bH 0 WX,xQ (tW (Ds N (eN (gv (pv 2) (pv 1) (pv 0))) (px (K:=K) U (pv 3) U)) (by with_unfolding_all rfl)),lA N (px (K:=K) U (pv 3) U) (eN (gv (pv 2) (pv 1) (pv 0))) (λ_ _=>rfl)⟩))),?_⟩;obtain ⟨dx,r⟩:=c.ins;obtain ⟨kvs,L,_,M⟩:=c.best;refine (aa U (cS r T.cl T.nM KJ ⟨_,U,by exact gW (n+Nat.succ 4611686018427387903),by lia,λm q=>?_⟩));refine yq (n:=((n:Int)).toNat) (λi z A=>∃v,z=[v,some (.int (a:Int)),some (.str (kD t)),some (.ref x1)]/\A m=some (.lst (eU ((List.range i).filterMap λb=>l.best (t,a,b))))/\ao H A) ⟨none,U,ah,a8 q⟩ ?_ ?_
 ·rintro i z g X ⟨v,rfl,j,x⟩;have rA:i<n:=by exact X
  have W:((0:Int)+(i:Int))=(i:Int):=by lia
  refine (aa U (aa U (aa U ⟨dj U,λs Y=>?_⟩)));rw [W];have y:=a8 (o:=.tup ((ck (t,a,i)).map kV)) Y;have R:upd g s (.tup ((ck (t,a,i)).map kV)) s=some (.tup ((ck (t,a,i)).map kV)):=ah;have E:(HO.tup [V.str (kD t),V.int (a:Int),V.int (i:Int)])=.tup ((ck (t,a,i)).map kV):=U;rw [E];generalize upd g s (.tup ((ck (t,a,i)).map kV))=J at*;have d:=x.trans y;have p:=eS.t (k:=ck (t,a,i)) (d _ _ L) R;rw [M] at p;refine (aa U (cS (d _ _ r) T.cl T.nE ph ⟨B,_,U,p,_,U,?_⟩));have fl:((List.range i).filterMap λb=>l.best (t,a,b)).length<=i:=by have:=Aq (λb=>l.best (t,a,b)) (List.range i);rw [i4] at this;exact this
  cases I:l.best (t,a,i) with
  | none=>
   refine gJ ⟨_,U,?_,d⟩;rw [BM,I];show J m=some (.lst (eU (_++[])));rw [rL];exact y _ _ j
  | some x5=>
   rw [I] at p;refine km ?_;refine (aa U (cS (d _ _ r) T.cl T.nE ph (aa U (aa U (aa U ⟨dj U,λu Z=>?_⟩)))));have Q:=a8 (o:=.tup ((ck (t,a,i)).map kV)) Z;have S:upd J u (.tup ((ck (t,a,i)).map kV)) u=some (.tup ((ck (t,a,i)).map kV)):=ah;rw [E];generalize upd J u (.tup ((ck (t,a,i)).map kV))=H4 at*;have O:=d.trans Q;have D:=eS.t (k:=ck (t,a,i)) (O _ _ L) S;rw [M,I] at D;refine ⟨B,_,U,D,_,Q _ _ (y _ _ j),?_,_,U,?_,λb o e=>?_⟩
   ·unfold eU;rw [ak];exact fe (by lia)
   ·rw [ah,BM,I];unfold eU;rw [d_];rfl
   ·rw [ag (a7 e q)];exact O _ _ e
 ·rintro z g ⟨v,rfl,j,x⟩;exact k m g q x j
theorem Xs:cb Ĕ Ĕ (aJ bg):=c9
theorem Xl:hV (aJ bg) Ĕ (jY [(".0",.local),("a",.local),("b",.free),("self",.free)]) ["a","b","self"] [none,some 1,some 0]:=jZ
theorem W_:(["a","b","self"]:List Str).Nodup:=by decide+kernel
theorem mr {f C:Addr} {E:FuncData} (F:gb K "ties_to" "Closing.ties_to" bg f E) (T:mM K mg C):af P w K mg base aq 1 f E Ĕ (Ft C):=by
 refine F.cJ Xs λ_ x2 _ x7 H _ x4 x3 Z h=>?_;obtain ⟨x1,be,rl,A,n,Fa,l,b,rfl,c,h8,k⟩:=h;have M:=kr Z;refine ⟨_,ax (b_ (me U (qC U T.range (aU (dY (pv 0) U))) Xl (λcl ex s0 H0=>⟨bH 0 W_,xQ (tW (Ds M (eN (gv eV (pv 0) (pv 1))) (px (K:=K) U (pv 2) U)) (by with_unfolding_all rfl)),lA M (px (K:=K) U (pv 2) U) (eN (gv eV (pv 0) (pv 1))) (λ_ _=>rfl)⟩))),?_⟩;obtain ⟨dx,r⟩:=c.ins;obtain ⟨kvs,G,_,L⟩:=c.best;refine (aa U (cS r T.cl T.nM KJ ⟨_,U,by exact gW (n+Nat.succ 4611686018427387903),by lia,λm q=>?_⟩));refine yq (n:=((n:Int)).toNat) (λi y z=>∃v,y=[v,some (.int (b:Int)),some (.ref x1)]/\z m=some (.lst (eU ((List.range i).filterMap λa=>l.best (true,a,b))))/\ao H z) ⟨none,U,ah,a8 q⟩ ?_ ?_
 ·rintro i y g W ⟨v,rfl,j,u⟩;have rA:i<n:=by exact W
  have S:((0:Int)+(i:Int))=(i:Int):=by lia
  refine (aa U (aa U ⟨dj U,λs X=>?_⟩));rw [S];have x:=a8 (o:=.tup ((ck (true,i,b)).map kV)) X;have Q:upd g s (.tup ((ck (true,i,b)).map kV)) s=some (.tup ((ck (true,i,b)).map kV)):=ah;have D:(HO.tup [V.str "tie",V.int (i:Int),V.int (b:Int)])=.tup ((ck (true,i,b)).map kV):=U;rw [D];generalize upd g s (.tup ((ck (true,i,b)).map kV))=J at*;have d:=u.trans x;have p:=eS.t (k:=ck (true,i,b)) (d _ _ G) Q;rw [L] at p;refine (aa U (cS (d _ _ r) T.cl T.nE ph ⟨A,_,U,p,_,U,?_⟩));have fl:((List.range i).filterMap λa=>l.best (true,a,b)).length<=i:=by have:=Aq (λa=>l.best (true,a,b)) (List.range i);rw [i4] at this;exact this
  cases I:l.best (true,i,b) with
  | none=>
   refine gJ ⟨_,U,?_,d⟩;rw [BM,I];show J m=some (.lst (eU (_++[])));rw [rL];exact x _ _ j
  | some x6=>
   rw [I] at p;refine km ?_;refine (aa U (cS (d _ _ r) T.cl T.nE ph (aa U (aa U ⟨dj U,λt Y=>?_⟩))));have O:=a8 (o:=.tup ((ck (true,i,b)).map kV)) Y;have R:upd J t (.tup ((ck (true,i,b)).map kV)) t=some (.tup ((ck (true,i,b)).map kV)):=ah;rw [D];generalize upd J t (.tup ((ck (true,i,b)).map kV))=H4 at*;have N:=d.trans O;have B:=eS.t (k:=ck (true,i,b)) (N _ _ G) R;rw [L,I] at B;refine ⟨A,_,U,B,_,O _ _ (x _ _ j),?_,_,U,?_,λx5 o e=>?_⟩
   ·unfold eU;rw [ak];exact fe (by lia)
   ·rw [ah,BM,I];unfold eU;rw [d_];rfl
   ·rw [ag (a7 e q)];exact N _ _ e
 ·rintro y g ⟨v,rfl,j,u⟩;exact k m g q u j
end
end Y0
namespace MU
def Y8 (F:dO) (st:St):Prop:=∀i w,aj st i=some w->w.tie=false->∃f,F w.b=some f
structure i6 (n:Nat) (F:dO) (st:St):Prop where
 good:bP n st
 ends:Y8 F st
def ux (n:Nat) (F:dO) (w:au):Prop:=pY n w/\(w.tie=false->∃f,F w.b=some f)
theorem i6.put (h:i6 n F st) (b:∀w,o=some w->ux n F w):i6 n F (put st o wd us):=by
 refine ⟨DZ h.good λw e=>(b w e).1,λi w d c=>?_⟩
 by_cases a:i<st.rows.length
 ·exact h.ends i w (Bn (qw _ _ _ _) a d) c
 ·exact (qv (C:=λw=>w.tie=false->∃f,F w.b=some f) (λw e=>(b w e).2) i w (by exact jt a) d) c
theorem KC {p q w:au} (a:p.a<n) (b:q.b<n) (h:aP p q=some w):ux n F w:=by
 unfold aP at h;split at h
 ·cases h;exact ⟨⟨a,b,λz=>nomatch z⟩,λz=>nomatch z⟩
 ·cases h
theorem Y_ {p w:au} (a:p.a<n) (b:p.b<n) (h:dQ F p=some w):ux n F w:=by
 refine ⟨xZ p w a b h,λ_=>?_⟩;unfold dQ at h;split at h
 ·cases q:F p.b with
  | none=>rw [q] at h;cases h
  | some f=>rw [q] at h;cases h;exact ⟨f,q⟩
 ·cases h
theorem Zz (c:iQ n F most) {p w:au} (a:p.a<n) (b:p.b<n) (h:eM F p=some w):ux n F w:=by
 refine ⟨yd c p w a b h,λd=>?_⟩;unfold eM at h;split at h
 ·cases q:F p.a with
  | none=>rw [q] at h;cases h
  | some f=>rw [q] at h;cases h;cases d
 ·cases h
theorem Z2 (c:iQ n F most) {p w:au} (a:p.a<n) (b:p.b<n) (h:dR F p=some w):ux n F w:=by
 refine ⟨Bj c p w a b h,λd=>?_⟩;unfold dR at h;split at h
 ·cases q:F p.b with
  | none=>rw [q] at h;cases h
  | some f=>rw [q] at h;cases h;cases d
 ·cases h
theorem KW {p q w:au} (a:p.a<n) (b:p.b<n) (c:q.a<n) (d:q.b<n) (h:bJ F p q=some w):ux n F w:=by
 refine ⟨EB p q w a b c d h,λ_=>?_⟩;unfold bJ at h;split at h
 ·cases e:F p.b with
  | none=>rw [e] at h;cases h
  | some f=>rw [e] at h;cases h;exact ⟨f,e⟩
 ·cases h
theorem Su (c:iQ n F most) {p w:au} (a:p.a<n) (b:p.b<n) (h:di F p=some w):ux n F w:=by
 refine ⟨Bt c p w a b h,λ_=>?_⟩;unfold di at h;split at h
 ·cases e:F p.a with
  | none=>rw [e] at h;cases h
  | some o=>
   rw [e] at h;have h:(F p.b).map (λf=>(⟨false,o.1,p.b,min p.v f.2.2-o.2.1⟩:au))=some w:=h
   cases C:F p.b with
   | none=>rw [C] at h;cases h
   | some f=>rw [C] at h;cases h;exact ⟨f,C⟩
 ·cases h
theorem A5 (h:aj st i=some x):bh f wd i st=put st (f x) wd [i]:=by unfold bh;rw [h];rfl
theorem A6 (h:aj st i=some x) (h':aj st j=some y):av f wd i j st=put st (f x y) wd [i,j]:=by unfold av;rw [h];show put st ((aj st j).bind λq=>f x q) wd [i,j]=_;rw [h'];rfl
theorem BF {l:List Nat} {i j:Nat} (h:l[i]?=some j):(l.take (i+1)).foldl f st=f ((l.take i).foldl f st) j:=by rw [jo,h,tK];rfl
end MU
open MU (i6 A5 BF A6 KW KC)
namespace Y0
open PySem L2
seal L2.PE L2.PA L2.PT L2.PS L2.f7 L2.PG L2.mH L2.PI L2.PO
seal L2.kT L2.il L2.iu L2.fV L2.gS L2.hQ L2.ir L2.iq L2.gf Y0.aB
section
theorem BV {at_:Nat} {i:Nat} (a:σ[i]?=some (some (.int (at_:Int)))) (k:∀t,H t=none->R [.ref t] (upd H t (.tup ([at_].map λi:Nat=>V.int (i:Int))))):jy (Fu (jy (gf i) oZ)) oZ σ H R:=
 (aa a ⟨dj U,λt b=>k t b⟩)
theorem BW {a b:Nat} {i j:Nat} (c:σ[i]?=some (some (.int (a:Int)))) (d:σ[j]?=some (some (.int (b:Int)))) (k:∀t,H t=none->R [.ref t] (upd H t (.tup ([a,b].map λi:Nat=>V.int (i:Int))))):jy (Fu (jy (gf i) (jy (gf j) oZ))) oZ σ H R:=
 (aa c (aa d ⟨dj U,λt e=>k t e⟩))
theorem so (hw:word=j0 wd) (f:σ[0]?=some (some (.ref p))) (c:fi C H p be rl bd n F st) (g:bP n st)
 (m:∀R:List V->Hp->Prop,(∀t,H t=none->R [.ref t] (upd H t (.tup (us.map λi:Nat=>V.int (i:Int)))))->I σ H R) (q:Paired (λi x=>aj st i=some x) us xs) (d:mI F (j0 wd) xs o) (h:st.rows.length<=16500000)
 (k:∀a,fi C a p be rl bd n F (MU.put st o wd us)->dh p rl bd H a->Q .a9 a):FD C "draw" (AL C) [] E (gf 0) (jy (tC (.str word)) I) σ H Q:=by
 subst hw;obtain ⟨s,j⟩:=c.ins;refine (aa f (ip j (lV) ?_));refine m _ λt l=>?_;have b:=a8 (o:=.tup (us.map λi:Nat=>V.int (i:Int))) l;exact ⟨p,be,rl,bd,t,n,F,st,wd,us,xs,o,U,c.same b,g,ah,q,d,h,λa e r=>k a e ((dh.of b).trans r)⟩
end
theorem fi.apart (c:fi C H p be rl bd n F st) (h:H la=none):la≠p/\la≠rl/\la≠bd:=by obtain ⟨e,b⟩:=c.ins;obtain ⟨g,d,_⟩:=c.rows;obtain ⟨f,a,_⟩:=c.best;exact ⟨a6 (a7 b h),a6 (a7 d h),a6 (a7 a h)⟩
def Nr (C:Addr):Sp:=λg H Q _=>∃(p f e d:Addr) (n:Nat) (F:dO) (a:MU.St) (b:Nat) (x:au),g=[.ref p,.int (b:Int),.int (x.a:Int),.int (x.b:Int)]/\fi C H p f e d n F a/\i6 n F a/\iQ n F ((60:Nat):Int)/\aj a b=some x/\x.tie=true/\n<=8/\a.rows.length<=16000000/\
 ∀c,fi C c p f e d n F (hX n F b x.a x.b a)->i6 n F (hX n F b x.a x.b a)->dh p e d H c->Q .a9 c
def NT (C:Addr):Sp:=λg H Q _=>∃(p f e d:Addr) (n:Nat) (F:dO) (a:MU.St) (b:Nat) (x:au),g=[.ref p,.int (b:Int),.int (x.a:Int)]/\fi C H p f e d n F a/\i6 n F a/\iQ n F ((60:Nat):Int)/\aj a b=some x/\x.tie=false/\n<=8/\a.rows.length<=16000000/\
 ∀c,fi C c p f e d n F (gD n F b x.a a)->i6 n F (gD n F b x.a a)->dh p e d H c->Q .a9 c
section
abbrev é:List Str:=["self","at","a","b","number"]
theorem BR:cb é Ė (aJ aQ):=c9
abbrev è:List Str:=["self","at","a","number"]
theorem Pj:cb è ĝ (aJ aK):=c9
theorem jE (F:gb K "draw_from_wait" "Closing.draw_from_wait" aK f fd) (T:mM K mg C)
 (O:gc K C "draw" fD) (E:cY K JE ċ []) (A:af P w K mg base aq 3 fD JE ċ (AL C))
 (mZ:gc K C "ties_to" fZ) (bZ:cY K I_ Ĕ []) (GZ:af P w K mg base aq 1 fZ I_ Ĕ (Ft C)):af P w K mg base aq 4 f fd ĝ (NT C):=by
 refine F.cJ Pj λ_ x5 _ x9 x7 _ x8 x6 r x2=>?_;obtain ⟨p,Z,Q,G,n,c,st,d,x,rfl,x1,S,hF,k,s,h8,hlen,x3⟩:=x2;have gO:cA 1 _:=r.mono (by decide);refine ⟨_,cf (eg (iU (pv 0) T.cl O A r E .nil eK (bp eV (eN (aU (pv 1))))))
  (cf (eg (iU (pv 0) T.cl O A r E .nil eK (bp eV (eN (aU (pv 1))))))
  (ax (fJ ft U (f9 (iU (pv 0) T.cl mZ GZ gO bZ .nil eK (aU (pv 2)))) (bH 3 Pj.nd)
   (ax (eg (iU (pv 0) T.cl O A r E .nil eK (bp eV (eN (bp (pv 1) (pv 3)))))))))),?_⟩
 obtain ⟨V,W⟩:=S.good.lt _ _ k;obtain ⟨H,M⟩:=S.ends _ _ k s;have d1:bh (dR c) .sure d st=MU.put st (dR c x) .sure [d]:=A5 k;have Y:i6 n c (MU.put st (dR c x) .sure [d]):=S.put λw e=>MU.Z2 hF V W e;have N:aj (MU.put st (dR c x) .sure [d]) d=some x:=cD (qw _ _ _ _) k;have l1:=gp st (dR c x) .sure [d];have goal:gD n c d x.a st=(ef n (bh (di c) .aG d (bh (dR c) .sure d st)) x.a).foldl (λst j=>av (bJ c) .back d j st) (bh (di c) .aG d (bh (dR c) .sure d st)):=U;rw [d1] at goal;refine λN1 c1=>so (wd:=.sure) U U x1 S.good (λR z=>BV U z) (.cons k .nil) (.sure x H s M) (by lia) λH1 C1 k1=>c1 _ _ ?_;generalize MU.put st (dR c x) .sure [d]=J at*;clear c1 N1;have d2:bh (di c) .aG d J=MU.put J (di c x) .aG [d]:=A5 N;have D:i6 n c (MU.put J (di c x) .aG [d]):=Y.put λw e=>MU.Su hF V W e;have sV:aj (MU.put J (di c x) .aG [d]) d=some x:=cD (qw _ _ _ _) N;have l2:=gp J (di c x) .aG [d];rw [d2] at goal;refine λN2 c2=>so (wd:=.aG) U U C1 Y.good (λR z=>BV U z) (.cons N .nil) (.aG x H s M) (by lia) λH2 m k2=>c2 _ _ ?_;generalize MU.put J (di c x) .aG [d]=I at*;clear c2 N2;have ϙ:=k1.trans k2;obtain ⟨dx,hp⟩:=m.ins;refine (aa U (ip hp (lV) (aa U ⟨p,Z,Q,G,n,c,I,x.a,U,m,h8,λla H3 hla s3 e3=>?_⟩)));obtain ⟨n1,n2,n3⟩:=m.apart hla;have C3:=m.same s3;refine ⟨la,U,⟨_,ai.of e3⟩,?_⟩;have kR:∀j∈ef n I x.a,∃y,aj I j=some y/\y.tie=true/\y.a<n/\y.b<n:=λj hj=>by obtain ⟨cc,_,hb⟩:=BK hj;obtain ⟨y,g,hk⟩:=D.good.at_ _ _ hb;obtain ⟨q1,_⟩:=gT hk;exact ⟨y,g,q1,D.good.lt _ _ g⟩
 have tl:=BJ (n:=n) (st:=I) (b:=x.a);generalize ef n I x.a=L at*;refine iA (K:=K) (a:=la) (xs:=eU L) (λi u X=>∃v,u=[some (.ref p),some (.int (d:Int)),some (.int (x.a:Int)),v]/\fi C X p Z Q G n c ((L.take i).foldl (λst j=>av (bJ c) .back d j st) I)/\i6 n c ((L.take i).foldl (λst j=>av (bJ c) .back d j st) I)/\Ext I ((L.take i).foldl (λst j=>av (bJ c) .back d j st) I)/\dh p Q G H3 X) ⟨none,U,C3,D,Ext.refl _,dh.of (ao.refl _)⟩ ?_ ?_ ?_
 ·rintro i u B _ ⟨v,rfl,_,_,_,l⟩;exact ai.of (l _ _ e3 n1 n2 n3)
 ·rintro i y u B g ⟨v,rfl,o,h,t,l⟩;unfold eU at g;rw [cW] at g
  cases q:L[i]? with
  | none=>rw [q] at g;cases g
  | some j=>
   rw [q] at g;cases g;obtain ⟨y,u_,yt,ya,yb⟩:=kR j (fY q);have fl:=nN (f:=λst j=>av (bJ c) .back d j st) (λ_ _=>gp _ _ _ _) (L.take i) I;rw [iC] at fl;rw [BF q];have Q5:=cD t sV;have Q3:=cD t u_;have e4:av (bJ c) .back d j ((L.take i).foldl (λst j=>av (bJ c) .back d j st) I)=MU.put ((L.take i).foldl (λst j=>av (bJ c) .back d j st) I) (bJ c x y) .back [d,j]:=A6 Q5 Q3;rw [e4];generalize (L.take i).foldl (λst j=>av (bJ c) .back d j st) I=cw at*;refine so (wd:=.back) U U o h.good (λR z=>BW U U z) (.cons Q5 (.cons Q3 .nil)) (.back x y H s yt M) (by lia) λH5 C5 k5=>⟨_,U,C5,h.put λw e=>KW V W ya yb e,t.trans (qw _ _ _ _),l.trans k5⟩
 ·rintro u B ⟨v,rfl,o,h,t,l⟩;have dE:L.take (eU L).length=L:=by unfold eU;rw [ak];exact i5
  rw [dE,<-goal] at o h;exact x3 B o h ((ϙ.trans (dh.of s3)).trans l)
end
section
theorem kN (F:gb K "draw_from_tie" "Closing.draw_from_tie" aQ f fd) (T:mM K mg C)
 (mD:gc K C "draw" fD) (bD:cY K JE ċ []) (GD:af P w K mg base aq 3 fD JE ċ (AL C))
 (mZ:gc K C "ties_to" fZ) (bZ:cY K I_ Ĕ []) (GZ:af P w K mg base aq 1 fZ I_ Ĕ (Ft C))
 (mK:gc K C "known_of" fK) (bK:cY K JD Ď []) (GK:af P w K mg base aq 1 fK JD Ď (Lw C)):af P w K mg base aq 4 f fd Ė (Nr C):=by
 refine F.cJ BR λ_ x9 _ PB nP _ BX kJ hr x7=>?_;obtain ⟨p,Y,B,u,n,d,b,c,x,rfl,x6,x5,hF,hx,ht,h8,hlen,x8⟩:=x7;have gO:cA 1 _:=hr.mono (by decide);refine ⟨_,cf (eg (iU (pv 0) T.cl mD GD hr bD .nil eK (bp eV (eN (aU (pv 1))))))
  (cf (eg (iU (pv 0) T.cl mD GD hr bD .nil eK (bp eV (eN (aU (pv 1))))))
  (cf (fJ ft U (f9 (iU (pv 0) T.cl mK GK gO bK .nil eK (bp eV (pv 3)))) (bH 4 BR.nd)
   (ax (eg (iU (pv 0) T.cl mD GD hr bD .nil eK (bp eV (eN (bp (pv 1) (pv 4))))))))
  (cf (fJ ft U (f9 (iU (pv 0) T.cl mZ GZ gO bZ .nil eK (aU (pv 2)))) (bH 4 BR.nd)
   (ax (eg (iU (pv 0) T.cl mD GD hr bD .nil eK (bp eV (eN (bp (pv 4) (pv 1))))))))
  (ax (fJ ft U (f9 (iU (pv 0) T.cl mK GK gO bK .nil eK (bp eV (pv 3)))) (bH 4 BR.nd)
   (ax (eg (iU (pv 0) T.cl mD GD hr bD .nil eK (bp eV (eN (bp (pv 4) (pv 1)))))))))))),?_⟩
 obtain ⟨xa,xb⟩:=x5.good.lt _ _ hx;have d1:bh (dQ d) .bE c b=MU.put b (dQ d x) .bE [c]:=A5 hx;have S1:i6 n d (MU.put b (dQ d x) .bE [c]):=x5.put λw e=>MU.Y_ xa xb e;have yX:aj (MU.put b (dQ d x) .bE [c]) c=some x:=cD (qw _ _ _ _) hx;have l1:=gp b (dQ d x) .bE [c];generalize jI:hX n d c x.a x.b b=fin at*;unfold hX at jI;dsimp only at jI;rw [d1] at jI;refine λN1 c1=>so (wd:=.bE) U U x6 x5.good (λx3 z=>BV U z) (.cons hx .nil) (.bE x ht) (by lia) λH1 C1 k1=>c1 _ _ ?_;generalize MU.put b (dQ d x) .bE [c]=iX at*;clear c1 N1;have d2:bh (eM d) .cz c iX=MU.put iX (eM d x) .cz [c]:=A5 yX;have S2:i6 n d (MU.put iX (eM d x) .cz [c]):=S1.put λw e=>MU.Zz hF xa xb e;have sV:aj (MU.put iX (eM d x) .cz [c]) c=some x:=cD (qw _ _ _ _) yX;have l2:=gp iX (eM d x) .cz [c];rw [d2] at jI;refine λN2 c2=>so (wd:=.cz) U U C1 S1.good (λx3 z=>BV U z) (.cons yX .nil) (.cz x ht) (by lia) λH2 C2 k2=>c2 _ _ ?_;generalize MU.put iX (eM d x) .cz [c]=I at*;clear c2 N2;have kA:=k1.trans k2;clear k1 k2;have v4:∃v:Option V,(none:Option V)=v:=⟨_,U⟩;obtain ⟨_,_⟩:=v4;refine λN3 c3=>?_;obtain ⟨dx,R⟩:=C2.ins;refine (aa U (ip R (lV) (aa U ⟨p,Y,B,u,n,d,I,true,x.b,U,C2,h8,λH H3 O s r=>?_⟩)));obtain ⟨S,W,X⟩:=C2.apart O;have M:=C2.same s;refine ⟨H,U,⟨_,ai.of r⟩,?_⟩;have Q:∀j∈dz n I true x.b,∃y,aj I j=some y/\y.tie=true/\y.a<n/\y.b<n:=λj hj=>by obtain ⟨cc,_,hb⟩:=EN hj;obtain ⟨y,g,hk⟩:=S2.good.at_ _ _ hb;obtain ⟨q1,_⟩:=gT hk;exact ⟨y,g,q1,S2.good.lt _ _ g⟩
 have tl:(dz n I true x.b).length<=n:=Bx;generalize dz n I true x.b=L at*;refine iA (K:=K) (a:=H) (xs:=eU L) (λi k E=>∃v,k=[some (.ref p),some (.int (c:Int)),some (.int (x.a:Int)),some (.int (x.b:Int)),v]/\fi C E p Y B u n d ((L.take i).foldl (λb j=>av aP .sum c j b) I)/\i6 n d ((L.take i).foldl (λb j=>av aP .sum c j b) I)/\Ext I ((L.take i).foldl (λb j=>av aP .sum c j b) I)/\dh p B u H3 E) ⟨_,U,M,S2,Ext.refl _,dh.of (ao.refl _)⟩ ?_ ?_ ?_
 ·rintro i k t _ ⟨v,rfl,_,_,_,h⟩;exact ai.of (h _ _ r S W X)
 ·rintro i y k t g ⟨v,rfl,D,l,m,h⟩;unfold eU at g;rw [cW] at g
  cases q:L[i]? with
  | none=>rw [q] at g;cases g
  | some j=>
   rw [q] at g;cases g;obtain ⟨y,u_,yt,_,yb⟩:=Q j (fY q);have fl:=nN (f:=λb j=>av aP .sum c j b) (λ_ _=>gp _ _ _ _) (L.take i) I;rw [iC] at fl;rw [BF q];have G:=cD m sV;have A:=cD m u_;have e4:av aP .sum c j ((L.take i).foldl (λb j=>av aP .sum c j b) I)=MU.put ((L.take i).foldl (λb j=>av aP .sum c j b) I) (aP x y) .sum [c,j]:=A6 G A;rw [e4];generalize (L.take i).foldl (λb j=>av aP .sum c j b) I=cw at*;refine so (wd:=.sum) U U D l.good (λx3 z=>BW U U z) (.cons G (.cons A .nil)) (.sum x y ht yt) (by lia) λH5 o k5=>⟨_,U,o,l.put λw e=>KC xa yb e,m.trans (qw _ _ _ _),h.trans k5⟩
 rintro k t ⟨v1,rfl,o,S5,x1,h⟩;have N:L.take (eU L).length=L:=by unfold eU;rw [ak];exact i5
 rw [N] at o S5 x1;refine c3 _ _ ?_;have kB:=(kA.trans (dh.of s)).trans h;have Q6:=cD x1 sV;have û:(L.foldl (λb j=>av aP .sum c j b) I).rows.length<=b.rows.length+(2+1*n):=by have:=nN (f:=λb j=>av aP .sum c j b) (λ_ _=>gp _ _ _ _) L I;lia
 generalize L.foldl (λb j=>av aP .sum c j b) I=J at*;clear Q tl r S W X M O s h N x1 R c3 N3;refine λN4 c4=>?_;obtain ⟨dx,R⟩:=o.ins;refine (aa U (ip R (lV) (aa U ⟨p,Y,B,u,n,d,J,x.a,U,o,h8,λH H3 O s r=>?_⟩)));obtain ⟨S,W,X⟩:=o.apart O;have M:=o.same s;refine ⟨H,U,⟨_,ai.of r⟩,?_⟩;have Q:∀j∈ef n J x.a,∃y,aj J j=some y/\y.tie=true/\y.a<n/\y.b<n:=λj hj=>by obtain ⟨cc,_,hb⟩:=BK hj;obtain ⟨y,g,hk⟩:=S5.good.at_ _ _ hb;obtain ⟨q1,_⟩:=gT hk;exact ⟨y,g,q1,S5.good.lt _ _ g⟩
 have tl:(ef n J x.a).length<=n:=BJ;generalize ef n J x.a=L at*;refine iA (K:=K) (a:=H) (xs:=eU L) (λi k E=>∃v,k=[some (.ref p),some (.int (c:Int)),some (.int (x.a:Int)),some (.int (x.b:Int)),v]/\fi C E p Y B u n d ((L.take i).foldl (λb j=>av aP .sum j c b) J)/\i6 n d ((L.take i).foldl (λb j=>av aP .sum j c b) J)/\Ext J ((L.take i).foldl (λb j=>av aP .sum j c b) J)/\dh p B u H3 E) ⟨_,U,M,S5,Ext.refl _,dh.of (ao.refl _)⟩ ?_ ?_ ?_
 ·rintro i k t _ ⟨v,rfl,_,_,_,h⟩;exact ai.of (h _ _ r S W X)
 ·rintro i y k t g ⟨v,rfl,D,l,m,h⟩;unfold eU at g;rw [cW] at g
  cases q:L[i]? with
  | none=>rw [q] at g;cases g
  | some j=>
   rw [q] at g;cases g;obtain ⟨y,u_,yt,ya,_⟩:=Q j (fY q);have fl:=nN (f:=λb j=>av aP .sum j c b) (λ_ _=>gp _ _ _ _) (L.take i) J;rw [iC] at fl;rw [BF q];have G:=cD m Q6;have A:=cD m u_;have e4:av aP .sum j c ((L.take i).foldl (λb j=>av aP .sum j c b) J)=MU.put ((L.take i).foldl (λb j=>av aP .sum j c b) J) (aP y x) .sum [j,c]:=A6 A G;rw [e4];generalize (L.take i).foldl (λb j=>av aP .sum j c b) J=cw at*;refine so (wd:=.sum) U U D l.good (λx3 z=>BW U U z) (.cons A (.cons G .nil)) (.sum y x yt ht) (by lia) λH5 o k5=>⟨_,U,o,l.put λw e=>KC ya xb e,m.trans (qw _ _ _ _),h.trans k5⟩
 rintro k t ⟨v2,rfl,C6,S6,x2,h⟩;have N:L.take (eU L).length=L:=by unfold eU;rw [ak];exact i5
 rw [N] at C6 S6 x2;refine c4 _ _ ?_;have kC:=(kB.trans (dh.of s)).trans h;have HB:=cD x2 Q6;have ú:(L.foldl (λb j=>av aP .sum j c b) J).rows.length<=b.rows.length+(2+2*n):=by have:=nN (f:=λb j=>av aP .sum j c b) (λ_ _=>gp _ _ _ _) L J;lia
 generalize L.foldl (λb j=>av aP .sum j c b) J=gr at*;clear Q tl r S W X M O s h N x2 R c4 N4;obtain ⟨dx,R⟩:=C6.ins;refine (aa U (ip R (lV) (aa U ⟨p,Y,B,u,n,d,gr,false,x.b,U,C6,h8,λH H3 O s r=>?_⟩)));obtain ⟨S,W,X⟩:=C6.apart O;have M:=C6.same s;refine ⟨H,U,⟨_,ai.of r⟩,?_⟩;have Q:∀j∈dz n gr false x.b,∃y,aj gr j=some y/\y.tie=false/\y.a<n/\y.b<n:=λj hj=>by obtain ⟨cc,_,hb⟩:=EN hj;obtain ⟨y,g,hk⟩:=S6.good.at_ _ _ hb;obtain ⟨q1,_⟩:=gT hk;exact ⟨y,g,q1,S6.good.lt _ _ g⟩
 have tl:(dz n gr false x.b).length<=n:=Bx;generalize dz n gr false x.b=L at*;refine iA (K:=K) (a:=H) (xs:=eU L) (λi k E=>∃v,k=[some (.ref p),some (.int (c:Int)),some (.int (x.a:Int)),some (.int (x.b:Int)),v]/\fi C E p Y B u n d ((L.take i).foldl (λb j=>av (bJ d) .back j c b) gr)/\i6 n d ((L.take i).foldl (λb j=>av (bJ d) .back j c b) gr)/\Ext gr ((L.take i).foldl (λb j=>av (bJ d) .back j c b) gr)/\dh p B u H3 E) ⟨_,U,M,S6,Ext.refl _,dh.of (ao.refl _)⟩ ?_ ?_ ?_
 ·rintro i k t _ ⟨v,rfl,_,_,_,h⟩;exact ai.of (h _ _ r S W X)
 ·rintro i y k t g ⟨v,rfl,D,l,m,h⟩;unfold eU at g;rw [cW] at g
  cases q:L[i]? with
  | none=>rw [q] at g;cases g
  | some j=>
   rw [q] at g;cases g;obtain ⟨y,u_,yt,ya,yb⟩:=Q j (fY q);have fl:=nN (f:=λb j=>av (bJ d) .back j c b) (λ_ _=>gp _ _ _ _) (L.take i) gr;rw [iC] at fl;rw [BF q];have G:=cD m HB;have A:=cD m u_;have e4:av (bJ d) .back j c ((L.take i).foldl (λb j=>av (bJ d) .back j c b) gr)=MU.put ((L.take i).foldl (λb j=>av (bJ d) .back j c b) gr) ((bJ d) y x) .back [j,c]:=A6 A G;rw [e4];obtain ⟨yf,ϟ⟩:=l.ends _ _ A yt;generalize (L.take i).foldl (λb j=>av (bJ d) .back j c b) gr=cw at*;refine so (wd:=.back) U U D l.good (λx3 z=>BW U U z) (.cons A (.cons G .nil)) (.back y x yf yt ht ϟ) (by lia) λH5 o k5=>⟨_,U,o,l.put λw e=>KW ya yb xa xb e,m.trans (qw _ _ _ _),h.trans k5⟩
 ·rintro k t ⟨v,rfl,D,l,m,h⟩;have N:L.take (eU L).length=L:=by unfold eU;rw [ak];exact i5
  rw [N,jI] at D l;exact x8 t D l ((kC.trans (dh.of s)).trans h)
end
structure vE (n:Nat) (F:dO) (s0:MU.St) (T:Nat):Prop where
 end_:(MU.run n F s0 T).rows.length<=T\/(MU.run n F s0 T).bar≠none
 first:∀t,t<T->t<(MU.run n F s0 t).rows.length/\(MU.run n F s0 t).bar=none
 m_:∀t,t<=T->(MU.run n F s0 t).rows.length<=16000000
def P5 (C:Addr):Sp:=λf H Q _=>∃(p e d c:Addr) (n:Nat) (F:dO) (a:MU.St) (T:Nat),f=[.ref p]/\fi C H p e d c n F a/\i6 n F a/\iQ n F ((60:Nat):Int)/\n<=8/\vE n F a T/\
 ∀b,fi C b p e d c n F (MU.run n F a T)->i6 n F (MU.run n F a T)->dh p d c H b->Q .a9 b
section
theorem BP:cb ["self","at","what"] qq (aJ bL):=c9
theorem kP (F:gb K "draw_all" "Closing.draw_all" bL f fd) (T:mM K mg C)
 (mT:gc K C "draw_from_tie" fT) (bT:cY K iP Ė []) (GT:af P w K mg base aq 4 fT iP Ė (Nr C))
 (mW:gc K C "draw_from_wait" fW) (bW:cY K tq ĝ []) (GW:af P w K mg base aq 4 fW tq ĝ (NT C)):af P w K mg base aq 5 f fd qq (P5 C):=by
 refine F.cJ BP λ_ x7 _ kJ H _ x2 x8 W x5=>?_;obtain ⟨p,u,h,g,n,a,c,Te,rfl,x4,x3,hF,h8,R,k⟩:=x5;have hu:=kr W;refine ⟨_,cf (cg 1 BP.nd a0)
  (ax (M5 ft (PW.pt (vM (dF rZ (pv 1) (iB ur (by rfl) T.len vy (aU (dY (pv 0) U)))) (vV (dF Dp (dY (pv 0) U) zev))))
   (cf (cg 2 BP.nd (aN (cu cR (dY (pv 0) U) (pv 1))))
   (cf (vK (dG (dF gC (lA hu (dY (pv 0) U) (qx AK (pv 2) qt (qu a0)) (λ_ _=>rfl)) (pv 1))
    (ax (dG (dF gC (aN (pv 2)) eV)
     (ax (eg (iU (pv 0) T.cl mT GT W bT .nil eK (gv (pv 1) (aN (pv 2)) (aN (pv 2))))))
     (ax (eg (iU (pv 0) T.cl mW GW W bW .nil eK (bp (pv 1) (aN (pv 2)))))))) dH))
   (ax (DD (i:=1) BP.nd U (Or.inl U) a0 Dl)))))),?_⟩
 refine λN1 c1=>c1 _ _ ?_;refine ⟨λm l d=>∃t v,t+m=Te/\l=[some (.ref p),some (.int (t:Int)),v]/\fi C d p u h g n a (MU.run n a c t)/\i6 n a (MU.run n a c t)/\dh p h g H d,⟨Te,0,none,by lia,U,x4,x3,dh.of (ao.refl _)⟩,?_⟩;rintro m l H1 ⟨t,v,htm,rfl,r,s,k1⟩;obtain ⟨dx,B⟩:=r.ins;obtain ⟨qs,jW,bY⟩:=r.rows;obtain ⟨kvs,IG,zi,m4⟩:=r.best;have HP:qs.length=(MU.run n a c t).rows.length:=kd bY;refine (aa U (aa U (cS B T.cl T.nR qi ⟨h,_,U,.inl (ai.of jW),ri (ct ?_)⟩)));rw [ak,HP];have oM:∀b,(MU.run n a c t).rows.length<=t\/(MU.run n a c t).bar≠none->b=false->if b=true then (∃x1:L2.St->Hp->Prop,(∀l d,x1 l d->∃M,M<m/\∃t v,t+M=Te/\l=[some (.ref p),some (.int (t:Int)),v]/\fi C d p u h g n a (MU.run n a c t)/\i6 n a (MU.run n a c t)/\dh p h g H d)/\False) else x2 .a9 H1:=λb HL A=>by
  have e:t=Te:=fu λz=>by
   have:=R.first t (by lia);rcases HL with y | y
   ·exact B2 this.1 y
   ·exact y this.2
  rw [if_neg (by rw [A];decide)];rw [e] at r s;exact k H1 r s k1
 by_cases O:t<(MU.run n a c t).rows.length
 ·refine ig (yj O) (aa U (cS B T.cl T.nX AD ⟨U,ct ?_⟩));rw [KY]
  by_cases A:(MU.run n a c t).bar=none
  ·refine ig A ?_;have Ϭ:t<Te:=fu λz=>by
    have e:t=Te:=by lia
    rcases R.end_ with y | y
    ·rw [<-e] at y;exact B2 O y
    ·rw [<-e] at y;exact y A
   refine ⟨λl d=>∃M,M<m/\∃t v,t+M=Te/\l=[some (.ref p),some (.int (t:Int)),v]/\fi C d p u h g n a (MU.run n a c t)/\i6 n a (MU.run n a c t)/\dh p h g H d,λl d z=>z,?_⟩;obtain ⟨x,q⟩:∃x,aj (MU.run n a c t) t=some x:=⟨_,by unfold aj;rw [df O];rfl⟩;obtain ⟨q',x9,N,pu,g1,_,_,g4,I,_⟩:=AV bY q;have pJ:gP (qs.map V.ref) (t:Int)=some (.ref q'):=iH (by rw [cW,g1];rfl);refine λN2 c2=>(aa U (cS B T.cl T.nR qi (ij U jW pJ (aL g4 U (c2 _ _ ?_)))));clear c2 N2;refine λN3 c3=>⟨λl d=>l=[some (.ref p),some (.int (t:Int)),some (.ref N)]/\fi C d p u h g n a (MU.run n a c (t+1))/\i6 n a (MU.run n a c (t+1))/\dh p h g H1 d,?_,?_⟩
   ·refine (aa U (cS B T.cl T.nE ph (aa U ⟨_,U,N,_,U,cK.of I,Dn,λX Iu=>?_⟩)));rw [Fp];have j:=a8 (o:=.tup ((ck x.key).map kV)) Iu;have e3:upd H1 X (.tup ((ck x.key).map kV)) X=some (.tup ((ck x.key).map kV)):=ah;generalize upd H1 X (.tup ((ck x.key).map kV))=H3 at*;obtain ⟨x6,_,J⟩:=s.good.top t x q;have dg:=eS.t (k:=ck x.key) (j _ _ IG) e3;rw [m4,J] at dg;have Q:=r.same j;have m_:=R.m_ t (by exact aR Ϭ);have S:MU.run n a c (t+1)=MU.look n a t (MU.run n a c t):=U;refine ⟨g,_,U,dg,aa U ⟨U,ct ?_⟩⟩;rw [qf]
    by_cases e:x6=t
    ·rw [e] at J;refine ig e (aa U (aL (j _ _ I) U ⟨U,ct ?_⟩));rw [Be]
     cases ht:x.tie with
     | true=>
      have G:=MU.DV (n:=n) (F:=a) q ht U U (by rw [<-J];unfold au.key;rw [ht]);rw [S,G];refine km (aa U (ip (j _ _ B) (lV) (aa U (aa U (aL (j _ _ I) U (aa U (aL (j _ _ I) U ?_)))))));exact ⟨p,u,h,g,n,a,_,t,x,U,Q,s,hF,q,ht,h8,m_,λY D E L=>⟨U,D,E,(dh.of j).trans L⟩⟩
     | false=>
      have G:=MU.NC (n:=n) (F:=a) q ht J;rw [S,G];refine gJ (aa U (ip (j _ _ B) (lV) (aa U (aa U (aL (j _ _ I) U ?_)))));exact ⟨p,u,h,g,n,a,_,t,x,U,Q,s,hF,q,ht,h8,m_,λY D E L=>⟨U,D,E,(dh.of j).trans L⟩⟩
    ·have G:=MU.NB (n:=n) (F:=a) q (by rw [J];exact λz=>e (ff z));rw [S,G];exact j4 e ⟨U,Q,s,dh.of j⟩
   ·rintro l Y ⟨rfl,D,E,L⟩;refine c3 _ _ ⟨_,U,_,_,U,U,m-1,by lia,t+1,some (.ref N),by lia,?_,D,E,k1.trans L⟩;show [some (V.ref p),some (V.int ((t:Int)+1)),some (V.ref N)]=[some (V.ref p),some (V.int ((t+1:Nat):Int)),some (V.ref N)];rfl
  ·have:=oM false (.inr A) U;exact j4 A this
 ·have:=oM false (.inl (j8 O)) U;exact j4 (by lia) (gJ this)
end
end Y0
namespace MU
def empty:St:=⟨[],λ_=>none,none⟩
def lu (rows:List au) (st:St):St:=rows.foldl (λst w=>take st w .told []) st
theorem EZ:bP n empty:=by
 have a:∀i w,aj empty i≠some w:=λi w h=>by unfold aj empty at h;simp at h
 exact ⟨λk i h=>(nomatch h),λi w h=>absurd h (a i w),λi w h=>absurd h (a i w),λ_ i w h=>absurd h (a i w),λ_ i j w b h=>absurd h (a i w)⟩
def rR (n:Nat) (w:au):Prop:=w.a<n/\w.b<n/\w.tie=true
theorem BI:∀(rows:List au) (st:St),bP n st->(∀w∈rows,rR n w)->bP n (lu rows st)
 | [],_,g,_=>g
 | w::r,st,g,h=>BI r _ (Nw g (h w fh).1 (h w fh).2.1 λz=>by rw [(h w fh).2.2] at z;cases z) λb a=>h b (gI _ a)
theorem Nz:∀(rows:List au) (st:St),Imp st (lu rows st)
 | [],st=>Imp.refl st
 | w::r,st=>(Mr st w _ _).trans (Nz r _)
theorem EX:∀(rows:List au) (st:St),(lu rows st).rows.length<=st.rows.length+rows.length
 | [],st=>ar _
 | w::r,st=>by have b:=EX r (take st w .told []);have a:=gp st (some w) .told [];have a:(take st w .told []).rows.length<=st.rows.length+1:=a;rw [gw];show (lu r (take st w .told [])).rows.length<=_;exact EI b a
theorem Fd:∀(rows:List au) (st:St),(∀i w,aj st i=some w->w.tie=true)->(∀w∈rows,rR n w)->∀i w,aj (lu rows st) i=some w->w.tie=true
 | [],_,h,_=>h
 | w::r,st,h,c=>Fd r _ (λi u b=>by
  by_cases a:i<st.rows.length
  ·exact h i u (Bn (Bk _ _ _ _) a b)
  ·exact Mq (C:=λu=>u.tie=true) (c w fh).2.2 i u (by exact jt a) b) λe d=>c e (gI _ d)
theorem Ff:∀(rows:List au) (st:St) (w:au),w∈rows->w.a≠w.b->∃u,val (lu rows st) w.key=some u/\¬eY w.tie w.v u
 | [],_,w,h,_=>nomatch h
 | x::r,st,w,h,a=>by
  rcases eR.mp h with e | h
  ·subst e;obtain ⟨u,b,d⟩:=Fc (st:=st) (w:=w) (word:=.told) (used:=[]) a;obtain ⟨g,c,f⟩:=(Nz r (take st w .told [])).2 w.key u a b;exact ⟨g,c,OP d f⟩
  ·exact Ff r _ w h a
theorem NL:∀i w,aj empty i=some w->w.tie=true:=λi w h=>by unfold aj empty at h;simp at h
theorem Zf (g:bP n st) (h:∀i w,aj st i=some w->w.tie=true) (a b:Nat):val st (false,a,b)=none:=by
 unfold val
 cases q:st.best (false,a,b) with
 | none=>rfl
 | some i=>
  obtain ⟨w,d,c⟩:=g.at_ _ _ q;have:=h i w d;have e:=(gT c).1;rw [this] at e;cases e
end MU
open MU (lu empty BI EZ Fd NL EX Ff)
namespace Y0
open PySem L2
seal L2.PE L2.PA L2.PT L2.PS L2.f7 L2.PG L2.mH L2.PI L2.PO
seal L2.kT L2.il L2.iu L2.fV L2.gS L2.hQ L2.ir L2.iq L2.gf Y0.aB
def jw:List Int->au
 | [a,b,v]=>⟨true,a.toNat,b.toNat,v⟩
 | _=>⟨true,0,0,0⟩
def BN (n:Int) (rows:List (List Int)):Prop:=∀r∈rows,∃a b v:Int,r=[a,b,v]/\0<=a/\a<n/\0<=b/\b<n/\a≠b
theorem Nl:∀{k:Nat} {n:Int},(k:Int)+1<=n->BN n (jj la k)
 | 0,_,_=>λr a=>nomatch a
 | k+1,n,h=>λr a=>by
  unfold jj at a;rcases gH.mp a with a | a
  ·exact Nl (k:=k) (by exact gk h) r a
  ·rcases eR.mp a with rfl | a
   ·exact ⟨0,(k:Int)+1,la,U,by exact gW (0+0),by lia,by exact gW (k+1+0),by exact h,by lia⟩
   ·rw [g_.mp a];exact ⟨(k:Int)+1,0,0,U,by exact gW (k+1+0),by exact h,by exact gW (0+0),by lia,by lia⟩
theorem Nt (h:∀r∈rows,∃a b l m:Int,r=[a,b,l,m]/\0<=a/\a<n/\0<=b/\b<n/\a≠b):BN n (jx rows):=λr j=>by
 unfold jx at j;obtain ⟨x,k,c⟩:=List.mem_flatten.mp j;obtain ⟨y,o,rfl⟩:=eQ.mp k;obtain ⟨a,b,l,m,rfl,d,e,f,g,i⟩:=h y o;rcases eR.mp c with rfl | c
 ·exact ⟨a,b,m,U,d,e,f,g,i⟩
 ·rw [g_.mp c];exact ⟨b,a,-l,U,f,g,d,e,a6 i⟩
theorem c_.o8 (h:c_ n la T F):BN n (bG n la T F):=λr c=>by
 unfold bG at c;have k:=h.n1;rcases gH.mp c with c | c
 ·rcases gH.mp c with c | c
  ·exact Nl (by omega) r c
  ·exact Nt (λr c=>by obtain ⟨a,b,l,m,e,d,f,g,i,j,_⟩:=h.t r c;exact ⟨a,b,l,m,e,d,f,g,i,j⟩) r c
 ·exact Nt (λr c=>by obtain ⟨a,b,l,m,e,d,f,g,i,j,_⟩:=h.f r c;exact ⟨a,b,l,m,e,d,f,by exact gk g,i,j⟩) r c
theorem NZ (h:c_ n la T F):(bG n la T F).length<=100:=by unfold bG;rw [dw,dw,wo,sD h.lP,sD h.lQ];have:=h.tl;have:=h.fl;have:=h.n2;lia
def lr (n la:Int) (T F:List (List Int)):MU.St:=lu ((bG n la T F).map jw) empty
theorem xC {n:Nat} {rows:List (List Int)} (h:BN (n:Int) rows):∀w∈rows.map jw,MU.rR n w:=λw f=>by obtain ⟨r,e,rfl⟩:=eQ.mp f;obtain ⟨a,b,v,rfl,c,d,_,g,_⟩:=h r e;exact ⟨by show a.toNat<n;exact yl c d,by show b.toNat<n;lia,U⟩
theorem EL {n:Nat} {la:Int} {T F:List (List Int)} (h:c_ (n:Int) la T F):i6 n (fj F) (lr n la T F):=by have g:=BI ((bG (n:Int) la T F).map jw) empty EZ (xC h.o8);refine ⟨g,λi w b a=>?_⟩;have:=Fd (n:=n) _ _ NL (xC h.o8) i w b;rw [a] at this;cases this
theorem Me:∀{k:Nat},i<k->[0,(i:Int)+1,la]∈jj la k/\[(i:Int)+1,0,0]∈jj la k
 | 0,h=>absurd h (mG _)
 | k+1,h=>by
  unfold jj
  by_cases e:i=k
  ·subst e;exact ⟨jq _ fh,jq _ (gI _ fh)⟩
  ·obtain ⟨a,b⟩:=Me (la:=la) (i:=i) (k:=k) (pE h e);exact ⟨iE _ a,iE _ b⟩
theorem N_ {n:Nat} {la:Int} {T F:List (List Int)} (h:c_ (n:Int) la T F) (B:la<=60):∃Te,vE n (fj F) (lr n la T F) Te:=by
 have g:=BI ((bG (n:Int) la T F).map jw) empty EZ (xC h.o8);have s:=Fd (n:=n) _ _ NL (xC h.o8);have D:=h.n1;have r:=h.n2;have a:=EX ((bG (n:Int) la T F).map jw) empty;have C:=NZ h;rw [ak] at a;have a:(lr n la T F).rows.length<=0+(bG (n:Int) la T F).length:=a;have t:∀i,0<i->i<n->(∃v,v<=((60:Nat):Int)/\val (lr n la T F) (true,0,i)=some v)/\∃v,v<=0/\val (lr n la T F) (true,i,0)=some v:=λi m A=>by
  have o:i-1<((n:Int)-1).toNat:=by lia
  obtain ⟨c,d⟩:=Me (la:=la) o;have l:((i-1:Nat):Int)+1=(i:Int):=by lia
  rw [l] at c d;have p:(⟨true,0,i,la⟩:au)∈(bG (n:Int) la T F).map jw:=eQ.mpr ⟨_,iE _ (iE _ c),U⟩;have q:(⟨true,i,0,0⟩:au)∈(bG (n:Int) la T F).map jw:=eQ.mpr ⟨_,iE _ (iE _ d),U⟩;obtain ⟨u,y,e⟩:=Ff _ empty _ p (by show 0≠i;lia);obtain ⟨x,z,b⟩:=Ff _ empty _ q (by show i≠0;exact tD m);unfold eY at e b;simp at e b;exact ⟨⟨u,by lia,y⟩,⟨x,b,z⟩⟩
 obtain ⟨Te,f,j,k⟩:=MU.V_ (n:=n) (F:=fj F) (s0:=lr n la T F) (ui r) h.Cu g t (MU.Zf g s) (by lia);exact ⟨Te,f,j,k⟩
def Lq (C g:Addr):Sp:=λi H Q _=>∃(p f h:Addr) (n:Nat) (b:Int) (T F:List (List Int)),i=[.ref p,.ref f]/\H p=some (.ins C h [])/\gA g H f (n:Int) b T F/\c_ (n:Int) b T F/\
 ∀a d e c,fi C a p d e c n (fj F) (lr n b T F)->H d=none->H e=none->H c=none->cx p H a->Q .a9 a
section
abbrev ë:List Str:=["self","web","a","b","most"]
theorem BQ:cb ë Ġ (aJ cG):=c9
theorem ϓ:¬(("many":Str)="by_end"):=by decide+kernel
theorem ϒ:¬(("many":Str)="rows"):=by decide+kernel
theorem ϑ:¬(("by_end":Str)="rows"):=by decide+kernel
theorem ϐ:¬(("many":Str)="best"):=by decide+kernel
theorem Ϗ:¬(("by_end":Str)="best"):=by decide+kernel
theorem ώ:¬(("rows":Str)="best"):=by decide+kernel
theorem ύ:¬(("many":Str)="bar"):=by decide+kernel
theorem ό:¬(("by_end":Str)="bar"):=by decide+kernel
theorem ϋ:¬(("rows":Str)="bar"):=by decide+kernel
theorem ϔ:¬(("best":Str)="bar"):=by decide+kernel
theorem XG {n:Nat}:aA "bar" v (aA "best" (.ref bd) (aA "rows" (.ref rl) (aA "by_end" (.ref be) (aA "many" (.int (n:Int)) []))))=hH n be rl bd v:=by
 have a:aA "by_end" (V.ref be) [(("many":Str),V.int (n:Int))]=[(("many":Str),V.int (n:Int)),("by_end",.ref be)]:=by rw [lD ϓ];rfl
 have b:aA "rows" (V.ref rl) [(("many":Str),V.int (n:Int)),("by_end",.ref be)]=[(("many":Str),V.int (n:Int)),("by_end",.ref be),("rows",.ref rl)]:=by rw [lD ϒ,lD ϑ];rfl
 have c:aA "best" (V.ref bd) [(("many":Str),V.int (n:Int)),("by_end",.ref be),("rows",.ref rl)]=[(("many":Str),V.int (n:Int)),("by_end",.ref be),("rows",.ref rl),("best",.ref bd)]:=by rw [lD ϐ,lD Ϗ,lD ώ];rfl
 have d:aA "bar" v [(("many":Str),V.int (n:Int)),("by_end",.ref be),("rows",.ref rl),("best",.ref bd)]=hH n be rl bd v:=by rw [lD ύ,lD ό,lD ϋ,lD ϔ];rfl
 show aA "bar" v (aA "best" (.ref bd) (aA "rows" (.ref rl) (aA "by_end" (.ref be) [(("many":Str),V.int (n:Int))])))=_;rw [a,b,c,d]
theorem o3 (F:gb K "__init__" "Closing.__init__" cG f fd) (T:mM K mg C) (TC:iS K mg I)
 (mT:gc K C "take" fT) (bT:cY K iP Ă []) (GT:af P w K mg base aq 2 fT iP Ă (DA C))
 (FE:Fn K mg "falls_by_end" bU iv fE pM) (GE:af P w K mg base aq 2 fE pM iv (Lp I))
 (FB:Fn K mg "told_bounds" a5 iv fB jJ) (GB:af P w K mg base aq 3 fB jJ iv (vO I)):af P w K mg base aq 4 f fd Ġ (Lq C I):=by
 refine F.cJ BQ λ_ kJ _ PB H _ BX nP O x8=>?_;obtain ⟨p,wb,d,n,y,D,rF,rfl,h,W0,N,x7⟩:=x8;have wI:cA 2 _:=O.mono (by decide);have wH:cA 3 _:=O;refine ⟨_,cf (pj (pv 0) (dY (pv 1) U) U)
  (cf (pj (pv 0) (bM GE wI FE (aU (pv 1))) U)
  (cf (pj (pv 0) (iJ n7) U)
  (cf (pj (pv 0) SS U)
  (cf (pj (pv 0) zev U)
  (ax (fJ ft U (f9 (bM GB wH FB (aU (pv 1))))
   (ql U (e_ (bH 2 BQ.nd) (e_ (bH 3 BQ.nd) (e_ (bH 4 BQ.nd) qr))))
   (ax (eg (iU (pv 0) T.cl mT GT wI bT .nil eK (gv (eN (jV eV (pv 2) (pv 3) (pv 4))) eV (eN n7))))))))))),?_⟩
 obtain ⟨PL,PD,PK,S,PH,PF⟩:=id W0;have pw:p≠wb:=λz=>by rw [z,S] at h;have:=HO.ins.inj (ff h);exact absurd this.2.2 (λz=>by unfold lY aA at z;cases z)
 refine λN1 c1=>(aa U (cS S TC.cl TC.nM (l_ _ _ _ _) (aa U (pG h T.cl T.nM (by show 0<1000;decide) (c1 _ _ ?_)))));have x:∀{l:Hp} {fs:List (Str×V)} {o:HO},l p=some (.ins C d fs)->cx p l (upd l p o):=λ{l fs o} _ b o' e' g=>by rw [ag g];exact e'
 have m:cx p H (upd H p (.ins C d (aA "many" (.int (n:Int)) []))):=x h;have W:upd H p (.ins C d (aA "many" (.int (n:Int)) [])) p=some (.ins C d (aA "many" (.int (n:Int)) [])):=ah;generalize upd H p (.ins C d (aA "many" (.int (n:Int)) []))=H1 at*;clear c1 N1;have W1:gA I H1 wb (n:Int) y D rF:=⟨PL,PD,PK,m _ _ S (a6 pw),by
  obtain ⟨q,R⟩:=PH;exact ⟨q,m _ _ R.1 (cI R.1 h nofun),gM R.2 λ_ _ e=>m _ _ e (cI e h nofun)⟩,by
  obtain ⟨q,R⟩:=PF;exact ⟨q,m _ _ R.1 (cI R.1 h nofun),gM R.2 λ_ _ e=>m _ _ e (cI e h nofun)⟩⟩
 refine λN2 c2=>(aa U ⟨wb,(n:Int),y,D,rF,U,W1,N,λc t QY s2 FA2=>(aa U (pG (s2 _ _ W) T.cl T.nB (by show 1<1000;decide) (c2 _ _ ?_)))⟩);have k2:cx p t (upd t p (.ins C d (aA "by_end" (.ref c) (aA "many" (.int (n:Int)) [])))):=x (s2 _ _ W);have p2:upd t p (.ins C d (aA "by_end" (.ref c) (aA "many" (.int (n:Int)) []))) p=some (.ins C d (aA "by_end" (.ref c) (aA "many" (.int (n:Int)) []))):=ah;have Qh:=s2 _ _ W;have FA3:lz (upd t p (.ins C d (aA "by_end" (.ref c) (aA "many" (.int (n:Int)) [])))) c (fj rF):=by obtain ⟨zI,u,f2,f3,f4⟩:=FA2.at_;refine ⟨zI,k2 _ _ u (cI u Qh nofun),f2,f3,λe f hf=>?_⟩;obtain ⟨pp,q1,A⟩:=f4 e f hf;exact ⟨pp,q1,k2 _ _ A (cI A Qh nofun)⟩
 generalize upd t p (.ins C d (aA "by_end" (.ref c) (aA "many" (.int (n:Int)) [])))=H3 at*;clear c2 N2;have K3:cx p H H3:=λb o e g=>k2 _ _ (s2 _ _ (m _ _ e g)) g;have free:∀{l:Hp} {b:Addr},cx p H l->l b=none->b≠p->H b=none:=λ{l b} j e g=>by
  cases x5:H b with
  | none=>rfl
  | some o=>rw [j _ _ x5 g] at e;cases e
 have beH:H c=none:=free m QY (a6 (a7 W QY));refine λN3 c3=>⟨dV _,λrl Q=>(aa U (pG (a8 Q _ _ p2) T.cl T.nR (by show 2<1000;decide) (c3 _ _ ?_)))⟩;have s4:=a8 (o:=.lst []) Q;have r4:upd H3 rl (.lst []) rl=some (.lst []):=ah;have FA4:=FA3.same s4;have p4:=s4 _ _ p2;generalize upd H3 rl (.lst [])=J at*;have X:p≠rl:=a7 p2 Q;have Ca:H rl=none:=free K3 Q (a6 X);have k5:cx p J (upd J p (.ins C d (aA "rows" (.ref rl) (aA "by_end" (.ref c) (aA "many" (.int (n:Int)) []))))):=x p4;have p5:upd J p (.ins C d (aA "rows" (.ref rl) (aA "by_end" (.ref c) (aA "many" (.int (n:Int)) [])))) p=some (.ins C d (aA "rows" (.ref rl) (aA "by_end" (.ref c) (aA "many" (.int (n:Int)) [])))):=ah;have r5:=k5 _ _ r4 (a6 X);generalize upd J p (.ins C d (aA "rows" (.ref rl) (aA "by_end" (.ref c) (aA "many" (.int (n:Int)) []))))=H5 at*;clear c3 N3;have K5:cx p H H5:=λb o e g=>k5 _ _ (s4 _ _ (K3 _ _ e g)) g;refine λN4 c4 bd M=>(aa U (pG (a8 M _ _ p5) T.cl T.nE (by show 3<1000;decide) (c4 _ _ ?_)));have s6:=a8 (o:=.dT []) M;have b6:upd H5 bd (.dT []) bd=some (.dT []):=ah;have p6:=s6 _ _ p5;have r6:=s6 _ _ r5;generalize upd H5 bd (.dT [])=H6 at*;have wC:p≠bd:=a7 p5 M;have Cw:H bd=none:=free K5 M (a6 wC);have k7:cx p H6 (upd H6 p (.ins C d (aA "best" (.ref bd) (aA "rows" (.ref rl) (aA "by_end" (.ref c) (aA "many" (.int (n:Int)) [])))))):=x p6;have p7:upd H6 p (.ins C d (aA "best" (.ref bd) (aA "rows" (.ref rl) (aA "by_end" (.ref c) (aA "many" (.int (n:Int)) []))))) p=some (.ins C d (aA "best" (.ref bd) (aA "rows" (.ref rl) (aA "by_end" (.ref c) (aA "many" (.int (n:Int)) []))))):=ah;have r7:=k7 _ _ r6 (a6 X);have b7:=k7 _ _ b6 (a6 wC);generalize upd H6 p (.ins C d (aA "best" (.ref bd) (aA "rows" (.ref rl) (aA "by_end" (.ref c) (aA "many" (.int (n:Int)) [])))))=H7 at*;clear c4 N4;refine λN5 c5=>(aa U (pG p7 T.cl T.nX (by show 4<1000;decide) (c5 _ _ ?_)));rw [XG];have k8:cx p H7 (upd H7 p (.ins C d (hH n c rl bd .a9))):=x p7;have p8:upd H7 p (.ins C d (hH n c rl bd .a9)) p=some (.ins C d (hH n c rl bd .a9)):=ah;have r8:=k8 _ _ r7 (a6 X);have b8:=k8 _ _ b7 (a6 wC);generalize upd H7 p (.ins C d (hH n c rl bd .a9))=H8 at*;clear c5 N5;have Hu:cx p J H8:=λb o e g=>k8 _ _ (k7 _ _ (s6 _ _ (k5 _ _ e g)) g) g;have r:cx p H H8:=λb o e g=>Hu _ _ (s4 _ _ (K3 _ _ e g)) g;have FA8:lz H8 c (fj rF):=by obtain ⟨zI,u,f2,f3,f4⟩:=FA4.at_;refine ⟨zI,Hu _ _ u (cI u p4 nofun),f2,f3,λe f hf=>?_⟩;obtain ⟨pp,q1,A⟩:=f4 e f hf;exact ⟨pp,q1,Hu _ _ A (cI A p4 nofun)⟩
 have C8:fi C H8 p c rl bd n (fj rF) empty:=⟨⟨d,p8⟩,FA8,⟨[],r8,.nil⟩,⟨[],b8,⟨ar _,λ_ z=>nomatch z⟩,λx7=>rfl⟩⟩;have W8:gA I H8 wb (n:Int) y D rF:=⟨PL,PD,PK,r _ _ S (a6 pw),by
  obtain ⟨q,R⟩:=PH;exact ⟨q,r _ _ R.1 (cI R.1 h nofun),gM R.2 λ_ _ e=>r _ _ e (cI e h nofun)⟩,by
  obtain ⟨q,R⟩:=PF;exact ⟨q,r _ _ R.1 (cI R.1 h nofun),gM R.2 λ_ _ e=>r _ _ e (cI e h nofun)⟩⟩
 refine (aa U ⟨wb,(n:Int),y,D,rF,U,W8,N,λx4 L hl s9 R9=>?_⟩);obtain ⟨qs,R⟩:=R9;have E:=C8.same s9;obtain ⟨n1,n2,n3⟩:=C8.apart hl;have idx:=N.o8;have sh:=NZ N;refine ⟨x4,U,⟨_,ai.of R.1⟩,?_⟩;have stays:∀{k:Hp},dh p rl bd L k->k x4=some (.lst (qs.map V.ref)):=λj=>j _ _ R.1 n1 n2 n3;obtain ⟨dx9,p9⟩:=E.ins;obtain ⟨q9,r9,_⟩:=E.rows;obtain ⟨kv9,b9,_⟩:=E.best;have eh:∀{k:Hp} {b:Addr} {xs:List V},dh p rl bd L k->L b=some (.tup xs)->k b=some (.tup xs):=λj e=>j _ _ e (cI e p9 nofun) (cI e r9 nofun) (cI e b9 nofun);generalize hB:bG (n:Int) y D rF=B at*;refine iA (K:=K) (a:=x4) (xs:=qs.map V.ref) (λi gy k=>∃v2 v3 v4,gy=[some (.ref p),some (.ref wb),v2,v3,v4]/\fi C k p c rl bd n (fj rF) (lu ((B.take i).map jw) empty)/\dh p rl bd L k) ⟨none,none,none,U,E,dh.of (ao.refl _)⟩ ?_ ?_ ?_
 ·rintro i gy k _ ⟨v2,v3,v4,rfl,_,j⟩;exact ai.of (stays j)
 ·rintro i x14 gy G hy ⟨v2,v3,v4,rfl,s,j⟩;obtain ⟨x5,x6,rfl,_,lN,jX⟩:=R.get hy;obtain ⟨a,b,v,rfl,x1,_,x3,_⟩:=idx x6 (fY lN);have hi:i<B.length:=(cO.mp lN).1;refine ⟨x5,_,U,cK.of (eh j jX),U,_,_,U,_,_,U,_,_,U,U,?_⟩;obtain ⟨dx10,Ý⟩:=s.ins;have gi:=BI ((B.take i).map jw) empty (EZ (n:=n)) (xC λx6 O=>idx x6 (CL O));have li:=EX ((B.take i).map jw) empty;rw [ak,iC] at li;have li:(lu ((B.take i).map jw) empty).rows.length<=0+min i B.length:=li;have et:lu ((B.take (i+1)).map jw) empty=take (lu ((B.take i).map jw) empty) (jw [a,b,v]) .told []:=by
   unfold lu;rw [jo,lN,d_,tK];rfl
  rw [et];generalize lu ((B.take i).map jw) empty=sti at*;refine (aa U (ip Ý (lV) (aa U (aa U (aa U ⟨dj U,λx2 ht=>⟨dV _,λx9 Ϩ=>?_⟩⟩)))));have yM:=a8 (o:=.tup [V.str "tie",V.int a,V.int b,V.int v]) ht;have ZQ:gL (upd G x2 (.tup [V.str "tie",V.int a,V.int b,V.int v])) x2 (jw [a,b,v]):=by unfold gL;rw [ah];show some (HO.tup [V.str "tie",V.int a,V.int b,V.int v])=some (HO.tup [V.str "tie",V.int ((a.toNat:Nat):Int),V.int ((b.toNat:Nat):Int),V.int v]);rw [show ((a.toNat:Nat):Int)=a by exact BA x1,show ((b.toNat:Nat):Int)=b by exact BA x3]
  generalize upd G x2 (.tup [V.str "tie",V.int a,V.int b,V.int v])=De at*;have qI:=a8 (o:=.tup []) Ϩ;refine ⟨p,c,rl,bd,x2,x9,n,_,_,jw [a,b,v],.told,[],U,(s.same yM).same qI,gi,ZQ.same qI,ah,by lia,λH13 C13 ϗ=>⟨_,_,_,U,C13,?_⟩⟩;exact (j.trans (dh.of (yM.trans qI))).trans ϗ
 ·rintro gy G ⟨v2,v3,v4,rfl,s,j⟩;have dE:B.take (qs.map V.ref).length=B:=by rw [ak,R.len];exact i5
  rw [dE] at s;refine x7 G c rl bd ?_ beH Ca Cw λb o e g=>j _ _ (s9 _ _ (r _ _ e g)) g (a7 e Ca) (a7 e Cw);unfold lr;rw [hB];exact s
end
end Y0
namespace L2
open PySem PySem.Spec PyProof.Rows
section
theorem Ta (g:(d==sysModules)=false) (b:s.heap.get? d=some o) (f:o.ExactDict) (c:o.data=.dict I C)
 (e:Q (.ref s.heap.objs.size) { s with heap:=s.heap.push { cls:=.type "dict_keyiterator",data:=.fields #[.ref d,.int 0 0,.int I.size 0,.int C 0] } }):
 wpAny (model prog w) A (pyIter (.ref d)) Q E s:=by
 have a:s.TypeIs (.ref d) "dict":=⟨o,b,f.1⟩;refine wpAny_pyIter_slot a F.slot_dict_iter (tI F.slot_dict_iter a F.entry_dict_iter ?_ (F.args_dict_iter_1 _));unfold Builtin.«dict.__iter__» Builtin.Dict.dictSlotNone;refine ae (ae (wpAny_notOrdered_dict a (show wpAny _ _ (pure (Value.ref d)) _ _ s from aI ?_)));refine (show wpAny _ _ (Builtin.Dict.showsAll d>>=_) _ _ s from ?_);unfold Builtin.Dict.showsAll;rw [if_neg (by rw [g];exact fg)];refine ae (aI (ae (CG b c (ae (JN b c (ae (pU (aI ⟨_,U,"dict_keyiterator",_,⟨_,jh _ U,U⟩,Am.lookup,?_⟩))))))));simpa [rawInt] using e
theorem Tb (a:s.heap.IsKeyIter it d i C.size ep) (h:s.heap.get? d=some od) (f:od.data=.dict C ep) (l:C[i]?=some e)
 (j:∀h',h'.IsKeyIter it d (i+1) C.size ep->Heap.SameBut it s.heap h'->Q (some e.key) { s with heap:=h' }):wpAny (model prog w) A (pyNext (.ref it)) Q E s:=by
 obtain ⟨o,c,k,b⟩:=id a;unfold pyNext;refine ae (tF (xf (name:=Str.ofString "__next__") a.typeIs Am (tI Am a.typeIs RO ?_ (RP _))));refine ae (aI (ae (ae ?_)))
 first | refine ae (CU a.typeIs (aI (ae (C9 c b ?_)))) | refine ae (CY a.typeIs (aI (ae (C9 c b ?_))))
 rw [show Builtin.Dict_items.ownsTuple "dict_keyiterator"=false by decide,if_neg fg];refine (show wpAny _ _ (if (Value.ref d==Value.none)=true then _ else _) _ _ s from ?_);rw [if_neg (show ¬((Value.ref d==Value.none)=true) from fg)];refine ae (aI (ae (CG h f ?_)));rw [if_neg (by simp)];refine ae (aI (ae (JN h f ?_)));rw [if_neg (by simp)];refine aI ?_;dsimp only;rw [if_neg (show ¬((i:Int)<0) from Int.not_lt.mpr (An i)),gG,l];dsimp only;refine ae ?_
 first | refine ae (CU a.typeIs (aI (ae (JV a.typeIs ?_)))) | refine ae (CY a.typeIs (aI (ae (JV a.typeIs ?_))))
 refine (show wpAny _ _ (setField (.ref it) 1 (rawInt ((i:Int)+1))>>=_) _ _ s from ae (rK c b (by simp) ?_));have g:(s.heap.update it (Obj.mapFields (·.setIfInBounds 1 (rawInt ((i:Int)+1))))).IsKeyIter it d (i+1) C.size ep:=
  ⟨_,pT _ c (CT (vr b _)),(Obj.cls_mapFields ..).trans k,by rw [vr b];simp [rawInt]⟩
 refine ae (lS (ae (JV (s:={ s with heap:=s.heap.update it (Obj.mapFields (·.setIfInBounds 1 (rawInt ((i:Int)+1)))) }) g.typeIs (show wpAny _ _ (pure e.key) _ _ _ from aI (aI ⟨_,U,aI (j _ g (Heap.SameBut.update ..))⟩)))))
theorem Zt (q:Hd A s.heap) (a:s.heap.IsKeyIter it d i I.size J) (j:s.heap.get? d=some od) (h:od.data=.dict I J) (n:I.size<=i)
 (l:∀h',Heap.ExtBut it s.heap h'->Q none { s with heap:=h' }):wpAny (model prog w) A (pyNext (.ref it)) Q E s:=by
 obtain ⟨o,c,m,g⟩:=id a;unfold pyNext;refine ae (tF (xf (name:=Str.ofString "__next__") a.typeIs Am (tI Am a.typeIs RO ?_ (RP _))));refine ae (aI (ae (ae ?_)))
 first | refine ae (CU a.typeIs (aI (ae (C9 c g ?_)))) | refine ae (CY a.typeIs (aI (ae (C9 c g ?_))))
 rw [show Builtin.Dict_items.ownsTuple "dict_keyiterator"=false by decide,if_neg fg];refine (show wpAny _ _ (if (Value.ref d==Value.none)=true then _ else _) _ _ s from ?_);rw [if_neg (show ¬((Value.ref d==Value.none)=true) from fg)];refine ae (aI (ae (CG j h ?_)));rw [if_neg (by simp)];refine ae (aI (ae (JN j h ?_)));rw [if_neg (by simp)];refine aI ?_;dsimp only;rw [if_neg (show ¬((i:Int)<0) from Int.not_lt.mpr (An i)),gG,Array.getElem?_eq_none n];dsimp only;refine ae ?_
 first | refine ae (CU a.typeIs (aI ?_)) | refine ae (CY a.typeIs (aI ?_))
 refine (show wpAny _ _ (setField (.ref it) 0 .none>>=_) _ _ s from ae (rK c g (by simp) ?_));have k:∀b o,b≠it->s.heap.get? b=some o->(s.heap.update it (Obj.mapFields (·.setIfInBounds 0 Value.none))).get? b=some o:=λb o f e=>(jg _ _ (a6 f)).trans e;refine AZ (A:=A.in1) (s:={ s with heap:=s.heap.update it (Obj.mapFields (·.setIfInBounds 0 Value.none)) }) (Hd.keep (A:=A.in1) q λb C u t x e=>k b _ (λz=>?_) e) λe h' p r=>?_
 ·rw [z,c] at e;cases e;cases m
 ·refine ae (gY (AO (s0:=s) (λb o f z=>p b o (k b o f z)) r l) (λb v z=>?_) λ_ _ z=>z);obtain ⟨rfl,z⟩:=z;exact aI z
end
section
theorem Inv.freeze (I:Inv X pins σ H s) (c:H a=some u) (f:xl (some u)) (g:s.heap.get? a=some o):Inv X pins σ (upd H a (.dZ o u)) s:=by
 have i:∀b d,H b=some (.tup d)->b≠a:=λb d r z=>by subst z;rw [c] at r;cases r;exact f
 have h:∀b y,H b=some (.own y)->b≠a:=λb y r z=>by subst z;rw [c] at r;cases r;exact f
 exact I.write (h':=s.heap) (t':=s.toks) (x:=a) (e:=a) (by rw [c];exact f) (.inl U) (λb v _ e=>e) ⟨o,g⟩
  ⟨g,(I.a4 a u c).ei (λb v _ e=>e) (λb e=>by rw [ag (h b a e)];exact e) λb d e=>by rw [ag (i b d e)];exact e⟩
theorem Inv.FQ (I:Inv X pins σ H s) (h:H a=some (.dZ o u)) (m:∀o u,X.gx a≠some (.dZ o u)):Inv X pins σ (upd H a u) s:=by
 have d:∀{b:Addr} {x:Option HO},H b=x->(∀o u,x≠some (.dZ o u))->b≠a:=λ{b x} e f z=>by subst z;rw [h] at e;exact f _ _ e.symm
 have k:∀b v,cZ X.prog X.w H s.heap b v->cZ X.prog X.w (upd H a u) s.heap b v:=λb v x=>
  x.ei (λc v _ e=>e) (λc e=>by rw [ag (d e λ_ _ z=>nomatch z)];exact e) λc l e=>by rw [ag (d e λ_ _ z=>nomatch z)];exact e
 refine ⟨I.ok,I.os,I.bare,⟨I.base.keep,I.base.slot,λb v q n f=>?_,I.base.there,λb l q=>?_,λb i v q=>?_,λb B q=>?_⟩,I.loc,I.cell,?_,λx c e=>?_,λp r=>?_,λb v q=>?_,I.len⟩
 ·have e:=I.base.free b v q n f;rw [ag (d e λ_ _ z=>nomatch z)];exact e
 ·have e:=I.base.eh b l q;rw [ag (d e λ_ _ z=>nomatch z)];exact e
 ·have e:=I.base.eX b i v q;rw [ag (λz=>by subst z;exact m i v q)];exact e
 ·obtain ⟨t,e⟩:=I.base.fq b B q;exact ⟨t,by rw [ag (d e λ_ _ z=>nomatch z)];exact e⟩
 ·rw [ag (d I.free λ_ _ z=>nomatch z)];exact I.free
 ·rw [ag (d (I.bS x c e) λ_ _ z=>nomatch z)];exact I.bS x c e
 ·obtain ⟨y,j,A⟩:=I.pin p r;exact ⟨y,by rw [ag (d j λ_ _ z=>nomatch z)];exact j,A⟩
 ·by_cases g:b=a
  ·subst g;rw [ah] at q;cases q;exact k b u (I.a4 b _ h).2
  ·rw [ag g] at q;exact k b v (I.a4 b v q)
end
def Yh (c:Hp) (t:TE):TE:=λd H Q=>t d H λx b=>∃a o u,b a=some (.dZ o u)/\(∀o u,c a≠some (.dZ o u))/\Q x (upd b a u)
theorem ZG (f:PE X e t):PE X e (Yh X.gx t):=by intro g s l H Q I h;refine ay (f g s l H _ I h) λv n k=>?_;obtain ⟨x,m,b,j,i⟩:=k;obtain ⟨a,o,u,c,d,q⟩:=i;exact ⟨x,_,b.FQ c d,j,q⟩
def Ke (a:Addr) (o:Obj) (kvs:List (List Key×V)):It:=
 ⟨λi H=>H a=some (.dZ o (.dT kvs))/\i<kvs.length,λi H x b=>b=H/\∃q k v,x=.ref q/\kvs[i]?=some (k,v)/\H q=some (.tup (k.map kV)),λi H=>H a=some (.dZ o (.dT kvs))/\kvs.length<=i⟩
theorem Ni {b c:Type} {F:b->c->Prop} {l:List b} {m:List c} (h:Paired F l m) {i:Nat} {x:b} (a:l[i]?=some x):∃y,m[i]?=some y/\F x y:=by
 induction h generalizing i with
 | nil=>simp at a
 | cons r _ d=>
  cases i with
  | zero=>simp at a;subst a;exact ⟨_,U,r⟩
  | succ i=>simpa using d (by simpa using a)
theorem VX {a b c:Type} {F:a×b->a×c->Prop} {l:List (a×b)} {m:List (a×c)} (k:Paired F l m) (h:∀p q,F p q->p.1=q.1):l.map (·.1)=m.map (·.1):=by
 induction k with
 | nil=>rfl
 | cons r t d=>rw [eG,eG,d,h _ _ r]
theorem LS {X:Cx} {r:List (Addr×Obj)} {u:St} {H:Hp} {s:Shared} {a:Addr} {o:Obj} {kvs:List (List Key×V)} {b:Array DictEntry} {l:Nat} (I:Inv X r u H s) (h:H a=some (.dZ o (.dT kvs))) (m:o.data=.dict b l):
 s.heap.get? a=some o/\b.size=kvs.length/\∀(i:Nat) (k:List Key) (v:V),kvs[i]?=some (k,v)->∃(e:DictEntry) (q:Addr),b[i]?=some e/\e.key=Value.ref q/\H q=some (.tup (k.map kV)):=by
 obtain ⟨f,_,_,D,j,C,z,y,g,A,c,d,B⟩:=(show cZ X.prog X.w H s.heap a (.dZ o (.dT kvs)) from I.a4 a _ h);rw [f] at g;cases g;rw [m] at c;cases c;refine ⟨f,?_,λi k v n=>?_⟩
 ·rw [<-oS,d,ak,kd j]
 ·obtain ⟨x,p,_,t,_⟩:=Ni j n;refine ⟨_,x.2.1,by rw [<-CS,d,cW,p];rfl,U,?_⟩;exact t
theorem VC {tg:Expr} (a it:Addr) (o:Obj) (kvs:List (List Key×V)) {J:Array DictEntry} {G:Nat} (j:o.data=.dict J G):
 u4 P w K tg (Ke a o kvs) [it] it (λi h=>h.IsKeyIter it a i J.size G) where
 mem:=by simp
 obj:=λi h c b f=>by
  have e:b=it:=by simpa using f
  subst e;obtain ⟨o,e,_,d⟩:=c;exact ⟨o,e,λv z=>by rw [d] at z;cases z⟩
 keep:=λi h g c k=>c.at λo e=>k it (by simp) o e
 item:=by intro X y F x _ i M s O H E I l c B;subst y F x;obtain ⟨A,C⟩:=B;obtain ⟨D,_,S⟩:=LS I A j;obtain ⟨⟨k,v⟩,L⟩:∃p,kvs[i]?=some p:=⟨kvs[i],by simp [C]⟩;obtain ⟨e,q,W,Y,Z⟩:=S i k v L;obtain ⟨m,n,_,r,t,u⟩:=l it (by simp);refine Tb c D j W λg N sb=>?_;have Q:Inv X M O H { s with heap:=g }:=I.turned (t':=s.toks) (λb o f e=>(sb.2 b f).trans e) m n r t u;rw [Y];exact ⟨_,U,letGo_keyiter (s':={ s with heap:=g }) N ⟨.ref q,H,Q,U,⟨U,q,k,v,U,L,Z⟩,N,λb f=>(l b f).1⟩⟩
 done:=by intro X y F x T i M s O H E I l c B;subst y F x;obtain ⟨A,C⟩:=B;obtain ⟨D,hsz,_⟩:=LS I A j;obtain ⟨m,n,_,r,t,u⟩:=l it (by simp);exact Zt (xB T I) c D j (wg hsz C) λg R=>⟨U,I.turned (t':=s.toks) (λb o f e=>R b o f e) m n r t u⟩
 self:=λ_ _ _ _ _ c h=>wpAny_pyIter_keyiter c h
section
def XO (d:TE):TI:=λe H R=>d e H λx c=>∃a b,x=.ref a/\c a=some (.dT b)/\((b.map (·.1)).Nodup->∀o,R (Ke a o b) (upd c a (.dZ o (.dT b))))
theorem ZJ {d:Expr} {m:TE} (t:PE X d m):PI X tg d (XO m):=by
 intro C s G H R I h;refine ay (t C s G H _ I h) λv c F=>?_;obtain ⟨x,n,i,E,D⟩:=F;obtain ⟨a,g,e,l,q⟩:=D;subst e;cases E;obtain ⟨_,B,M,A,o,L,J,k,r,j,_,u⟩:=(show cZ X.prog X.w n c.heap a (.dT g) from i.a4 a _ l);have y:(g.map (·.1)).Nodup:=by rw [VX A λ_ _ z=>z.1];exact u
 refine Ta B k r j ?_;have f:=i.freeze l trivial k;refine ⟨c.heap.objs.size,[c.heap.objs.size],_,_,_,U,f.kept (t':=c.toks) λb o e=>cL _ e,VC a _ o g j,⟨_,jh _ U,U,U⟩,λb p=>?_,q y o⟩;have e:b=c.heap.objs.size:=by simpa using p
 subst e;exact f.oI (ar _) (f.a4.fresh (ar _))
end
theorem UL (d:Nat->St->Hp->Prop) (z:d 0 (pk js l) (upd H D (.lst [])))
 (s:∀i c b,i<=kvs.length->d i c b->b a=some (.dZ o (.dT kvs)))
 (C:∀i k v q c b,kvs[i]?=some (k,v)->b q=some (.tup (k.map kV))->d i c b->g (.ref q) c b λh u=>tc h u λok n=>if ok=true then I h n λy r=>∃ys,r D=some (.lst ys)/\ys.length<sizeLine/\d (i+1) h (upd r D (.lst (ys++[y]))) else d (i+1) h n)
 (A:∀c b,d kvs.length c b->Q (.ref D) b):
 vQ js g tc I l Q (Ke a o kvs) H D:=by
 refine ⟨λi m l H=>m=kvs.length-i/\i<=kvs.length/\d i l H,⟨kvs.length,by simp,dV _,z⟩,?_⟩;rintro i m c b ⟨rfl,j,p⟩
 by_cases f:i<kvs.length
 ·refine .inr ⟨⟨s i c b j p,f⟩,d (i+1),λG t F=>⟨kvs.length-(i+1),sE f,U,f,F⟩,λx t y=>?_⟩;obtain ⟨e,q,k,v,rfl,E,B⟩:=y;subst e;exact C i k v q c _ E B p
 ·have e:i=kvs.length:=sF j f;subst e;exact .inl ⟨⟨s _ c b j p,ar _⟩,A c b p⟩
end L2
namespace TS
open PySem PyProof PyProof.Rows
def IV:Bool->Keyed->Array Keyed->Nat->Nat->Nat->StateT SortSt Sem (Option Nat):=sortPriv% PySem.Builtin.gallop
class SK where
 num:Keyed->Int
 ok:Keyed->Prop
 kind:SortKind
def N [SK] (p:Keyed):Int:=SK.num p
def dS [SK] (p:Keyed):Prop:=SK.ok p
def Kk [SK] (xs:Array Keyed) (i:Nat):Int:=match xs[i]? with
 | some p=>N p
 | none=>0
class f_ [SK] (prog:Program) (w:World) (A:Around) (E:Value->Shared->Prop) (s:Shared):Prop where
 lt:∀{st:SortSt} {p q:Keyed} {Q:Option Bool->SortSt->Prop},kindOf st=SK.kind->dS p->dS q->Q (some (decide (N p<N q))) st->wpS (model prog w) A E s (lt' p q) Q st
section
variable [SK]
theorem tX (h:xs[i]?=ys[j]?):Kk xs i=Kk ys j:=by unfold Kk;rw [h]
theorem SI (f:src<xs.size) (c:d<=src) (k:Nat):
 Kk (bubble xs src d) k=if k=src-d then Kk xs src else if src-d<k/\k<=src then Kk xs (k-1) else Kk xs k:=by
 have e:=getElem?_bubble f d c k
 by_cases a:k=src-d
 ·rw [if_pos a] at*;exact tX e
 rw [if_neg a] at*
 by_cases b:src-d<k/\k<=src
 ·rw [if_pos b] at*;exact tX e
 ·rw [if_neg b] at*;exact tX e
theorem A' (b:j<=xs.size) (k:Nat):Kk (mirror xs i j ((j-i) / 2)) k=if i<=k/\k<j then Kk xs (i+j-1-k) else Kk xs k:=by
 have e:=getElem?_mirror_all (i:=i) b k
 by_cases a:i<=k/\k<j
 ·rw [if_pos a] at*;exact tX e
 ·rw [if_neg a] at*;exact tX e
theorem Fg (b:j<=xs.size) (a:∀k,i<=k->k<j->Kk xs k=Kk xs (j-1)) (k:Nat):Kk (mirror xs i j ((j-i) / 2)) k=Kk xs k:=by
 rw [A' b];split
 ·rename_i h;rw [a k h.1 h.2,a (i+j-1-k) (MJ h.2) (by omega)]
 ·rfl
end
def dM (left:Bool) (a x:Int):Bool:=if left then decide (x<a) else !decide (a<x)
theorem xW (h:x<=y) (a:dM l kv y=true):dM l kv x=true:=by unfold dM at*;cases l<;>simp_all<;>lia
theorem KZ (h:x<=y) (a:dM l kv x=false):dM l kv y=false:=by
 cases e:dM l kv y with
 | false=>rfl
 | true=>rw [xW h e] at a;exact a
section
variable [SK] [f_ prog w A E s] {st:SortSt}
theorem lB (b:a[i]?=some p) (h:Q p st):
 wpS (model prog w) A E s (elem' a i) Q st:=by
 rw [elem'_eq,b];exact aS h
theorem AI (a:kindOf st=SK.kind) (b:dS p) (c:dS q)
 (h:Q (some (decide (N p<N q))) st):wpS (model prog w) A E s (lt' p q) Q st:=f_.lt a b c h
theorem xM (b:kindOf st=SK.kind)
 (e:a[i]?=some p) (c:dS p) (d:dS key) (h:Q (some (dM l (N key) (N p))) st):
 wpS (model prog w) A E s (do
  let x <-elem' a i
  if l=true then lt' x key else do
   let r <-lt' key x
   pure (Option.map (λx=> !x) r)) Q st:=by
 refine aV (lB e ?_);cases l
 ·exact aV (AI b d c (aS h))
 ·exact AI b c d h
theorem o_ (c:∀p,p∈a.toList->dS p) (b:i<a.size):∃p,a[i]?=some p/\dS p/\Kk a i=N p:=
 ⟨a[i],oP _ i b,c _ (by simp),by unfold Kk;rw [oP a i b]⟩
abbrev Dh:=Option (Option Nat)×Nat×Nat
theorem NY {P:Nat->Bool} {n a hi:Nat} {f:Nat->Dh->StateT SortSt Sem (ForInStep Dh)}
 (p:∀i j,i<=j->j<n->P j=true->P i=true)
 (u:∀x a hi,hi<=n->∀Q:ForInStep Dh->SortSt->Prop,(hi<=a->Q (.done (none,a,hi)) st)->
  (a<hi->P (a+(hi-a) / 2)=true->Q (.yield (none,a+(hi-a) / 2+1,hi)) st)->
  (a<hi->P (a+(hi-a) / 2)=false->Q (.yield (none,a,a+(hi-a) / 2)) st)->
  wpS (model prog w) A E s (f x (none,a,hi)) Q st)
 (z:a<=hi) (v:hi<=n) (r:∀i,i<a->P i=true) (t:∀i,hi<=i->i<n->P i=false):
 wpS (model prog w) A E s (forIn [:n] ((none,a,hi):Dh) f)
  (λc d=>d=st/\∃k,c=(none,k,k)/\k<=n/\(∀i,i<k->P i=true)/\(∀i,k<=i->i<n->P i=false)) st:=by
 refine Ah
  (I:=λx c d=>d=st/\∃a hi,c=(none,a,hi)/\a<=hi/\hi<=n/\hi-a<=n-x/\
   (∀i,i<a->P i=true)/\(∀i,hi<=i->i<n->P i=false))
  ?_ ?_ ⟨U,a,hi,U,z,v,by lia,r,t⟩
 ·rintro x c d _ D ⟨rfl,a,hi,rfl,q,b,o,g,h⟩;refine u x a hi b _ (λC=>?_) (λB l=>?_) (λB l=>?_)
  ·obtain rfl:a=hi:=by lia
   exact ⟨U,a,U,b,g,h⟩
  ·exact ⟨U,_,hi,U,by lia,b,by omega,λi m=>p i _ (Nd m) (by lia) l,h⟩
  ·refine ⟨U,a,_,U,iK,by lia,by omega,g,λi m y=>?_⟩
   cases e:P i with
   | false=>rfl
   | true=>rw [p _ i m y e] at l;exact l
 ·rintro c d ⟨rfl,a,hi,rfl,q,b,o,g,h⟩;obtain rfl:a=hi:=by simp at o;lia
  exact ⟨U,a,U,b,g,h⟩
theorem AM (F:kindOf st=SK.kind)
 (D:∀p,p∈a.toList->dS p) (G:dS key) (Y:b+n<=a.size) (z:∀i j,i<=j->j<n->Kk a (b+i)<=Kk a (b+j)) (Z:hint<n)
 (h:∀k,k<=n->(∀i,i<k->dM l (N key) (Kk a (b+i))=true)->(∀i,k<=i->i<n->dM l (N key) (Kk a (b+i))=false)->Q (some k) st):
 wpS (model prog w) A E s (IV l key a b n hint) Q st:=by
 refine aV ?_;obtain ⟨p,u,v,y⟩:=o_ D (i:=b+hint) (mR Y Z);refine xM F u v G ?_;rw [<-y]
 cases e:dM l (N key) (Kk a (b+hint)) with
 | true=>
  dsimp only;rw [if_pos rfl];refine aV (j_ (Ah
   (I:=λx c m=>m=st/\∃d f,c=(none,d,f)/\d<f/\x<f/\hint+d<n/\dM l (N key) (Kk a (b+(hint+d)))=true)
   (Q:=λc m=>m=st/\∃d f,c=(none,d,f)/\d<f/\hint+d<n/\dM l (N key) (Kk a (b+(hint+d)))=true/\
    (hint+f<n->dM l (N key) (Kk a (b+(hint+f)))=false))
   ?_ ?_ ⟨U,0,1,U,by exact gj,by exact gj,by omega,e⟩) ?_)
  ·rintro x c m _ _ ⟨rfl,d,f,rfl,t,B,q,o⟩;dsimp only
   by_cases g:f>=n-hint
   ·rw [if_pos g];exact aS ⟨U,d,f,U,t,q,o,λh=>absurd h (by lia)⟩
   ·rw [if_neg g];obtain ⟨p,u,v,y⟩:=o_ D (i:=b+(hint+f)) (by lia);refine aV (xM F u v G ?_);rw [<-y]
    cases C:dM l (N key) (Kk a (b+(hint+f))) with
    | true=>exact aS ⟨U,f,2*f+1,U,by lia,by lia,by lia,C⟩
    | false=>exact aS ⟨U,d,f,U,t,q,o,λ_=>C⟩
  ·rintro c m ⟨rfl,d,f,rfl,t,B,q,o⟩;exact ⟨U,d,f,U,t,q,o,λh=>absurd h (by simp at B;lia)⟩
  ·rintro c m ⟨rfl,d,f,rfl,t,q,o,H⟩;dsimp only;refine aV (j_ (NY (P:=λi=>dM l (N key) (Kk a (b+i))) (λi j V X e=>xW (z i j V X) e)
    ?_ (by omega) (by omega) (λi r=>?_) (λi r W=>?_)) ?_)
   ·intro _ d r T Q' O R S;dsimp only
    by_cases g:d>=r
    ·rw [if_pos g];exact aS (O g)
    ·rw [if_neg g];obtain ⟨p,u,v,y⟩:=o_ D (i:=b+(d+(r-d) / 2)) (MF Y T g);refine aV (xM F u v G ?_);rw [<-y]
     cases C:dM l (N key) (Kk a (b+(d+(r-d) / 2))) with
     | true=>exact aS (R (um g) C)
     | false=>exact aS (S (um g) C)
   ·exact xW (z i (hint+d) (Nd r) (BC q)) o
   ·exact KZ (z (hint+f) i (by omega) (BC W)) (H (by lia))
   ·rintro c m ⟨rfl,k,rfl,J,L,M⟩;exact aS (h k J L M)
 | false=>
  dsimp only;rw [if_neg (by decide)];refine aV (j_ (Ah
   (I:=λx c m=>m=st/\∃d f,c=(none,d,f)/\d<f/\x<f/\d<=hint/\dM l (N key) (Kk a (b+(hint-d)))=false)
   (Q:=λc m=>m=st/\∃d f,c=(none,d,f)/\d<f/\d<=hint/\dM l (N key) (Kk a (b+(hint-d)))=false/\
    (f<=hint->dM l (N key) (Kk a (b+(hint-f)))=true))
   ?_ ?_ ⟨U,0,1,U,by exact gj,by exact gj,by lia,e⟩) ?_)
  ·rintro x c m _ _ ⟨rfl,d,f,rfl,t,B,q,o⟩;dsimp only
   by_cases g:f>=hint+1
   ·rw [if_pos g];exact aS ⟨U,d,f,U,t,q,o,λh=>absurd h (by exact Nat.not_le_of_lt g)⟩
   ·rw [if_neg g];obtain ⟨p,u,v,y⟩:=o_ D (i:=b+(hint-f)) (by lia);refine aV (xM F u v G ?_);rw [<-y]
    cases C:dM l (N key) (Kk a (b+(hint-f))) with
    | true=>exact aS ⟨U,d,f,U,t,q,o,λ_=>C⟩
    | false=>exact aS ⟨U,f,2*f+1,U,by lia,by lia,by lia,C⟩
  ·rintro c m ⟨rfl,d,f,rfl,t,B,q,o⟩;exact ⟨U,d,f,U,t,q,o,λh=>absurd h (by simp at B;lia)⟩
  ·rintro c m ⟨rfl,d,f,rfl,t,q,o,H⟩;dsimp only;refine aV (j_ (NY (P:=λi=>dM l (N key) (Kk a (b+i))) (λi j V X e=>xW (z i j V X) e)
    ?_ (by omega) (by lia) (λi r=>?_) (λi r W=>?_)) ?_)
   ·intro _ d r T Q' O R S;dsimp only
    by_cases g:d>=r
    ·rw [if_pos g];exact aS (O g)
    ·rw [if_neg g];obtain ⟨p,u,v,y⟩:=o_ D (i:=b+(d+(r-d) / 2)) (MF Y T g);refine aV (xM F u v G ?_);rw [<-y]
     cases C:dM l (N key) (Kk a (b+(d+(r-d) / 2))) with
     | true=>exact aS (R (um g) C)
     | false=>exact aS (S (um g) C)
   ·exact xW (z i (hint-f) (by omega) (TN Z)) (H (by omega))
   ·exact KZ (z (hint-d) i (by omega) (BC W)) o
   ·rintro c m ⟨rfl,k,rfl,J,L,M⟩;exact aS (h k J L M)
end
structure Iv (r:Keyed->Keyed->Prop) (W O X Y:List Keyed):Prop where
 perm:(O++(X++Y)).Perm W
 Ga:O.Pairwise r
 sx:X.Pairwise r
 sy:Y.Pairwise r
 lx:∀p∈O,∀q∈X,r p q
 ly:∀p∈O,∀q∈Y,r p q
def Out (r:Keyed->Keyed->Prop) (W R:List Keyed):Prop:=R.Perm W/\R.Pairwise r
theorem Iv.symm {r W O X Y} (h:Iv r W O X Y):Iv r W O Y X:=
 ⟨((JU (l₁:=Y) (l₂:=X)).append_left O).trans h.perm,h.Ga,h.sy,h.sx,h.ly,h.lx⟩
theorem Iv.jB {r W O u v Y} (h:Iv r W O (u++v) Y) (e:∀p∈u,∀q∈Y,r p q):Iv r W (O++u) v Y:=by
 have d:=List.pairwise_append.mp h.sx;refine ⟨by simpa [pR] using h.perm,?_,d.2.1,h.sy,?_,?_⟩
 ·exact List.pairwise_append.mpr ⟨h.Ga,d.1,λp c q b=>h.lx p c q (iE _ b)⟩
 ·intro p c q b;rcases gH.mp c with a | a
  ·exact h.lx p a q (jq _ b)
  ·exact d.2.2 p a q b
 ·intro p c q b;rcases gH.mp c with a | a
  ·exact h.ly p a q b
  ·exact e p a q b
theorem Iv.lF {r W O X u v} (h:Iv r W O X (u++v)) (a:∀p∈u,∀q∈X,r p q):Iv r W (O++u) X v:=(h.symm.jB a).symm
theorem Iv.fin {r W O X Y R} (h:Iv r W O X Y) (b:R.Perm (X++Y)) (e:R.Pairwise r):Out r W (O++R):=by
 refine ⟨(b.append_left O).trans h.perm,List.pairwise_append.mpr ⟨h.Ga,e,λp c q d=>?_⟩⟩;rcases gH.mp (b.mem_iff.mp d) with a | a
 ·exact h.lx p c q a
 ·exact h.ly p c q a
section
variable [SK]
def le (p q:Keyed):Prop:=N p<=N q
def ge (p q:Keyed):Prop:=N q<=N p
theorem we {a:Array Keyed} {i k:Nat} (h:i+k<=a.size):a.toList.drop i=(a.extract i (i+k)).toList++a.toList.drop (i+k):=by rw [wZ,xi,Nat.add_sub_cancel_left,<-List.drop_drop,CM]
theorem MQ {a:Array Keyed} {i:Nat} {p:Keyed} (h:a[i]?=some p):a.toList.drop i=[p]++a.toList.drop (i+1):=by obtain ⟨b,rfl⟩:=Au.mp h;rw [JZ (by simpa using b)];simp
theorem DH (h:p∈(a.extract i j).toList):∃m,i<=m/\m<j/\m<a.size/\Kk a m=N p:=by
 obtain ⟨m,b,e⟩:=pW h;simp only [oS,Array.size_extract] at b;refine ⟨i+m,iK,Nh b,Bq b,?_⟩;have:a[i+m]?=some p:=by rw [oP a (i+m) (Bq b)];simp only [Array.getElem_toList,Array.getElem_extract] at e;rw [e]
 unfold Kk;rw [this]
theorem qh (h:a[i]?=some p):Kk a i=N p:=by unfold Kk;rw [h]
theorem wz (f:a.toList.Pairwise le) (e:i<=j) (b:j<a.size):Kk a i<=Kk a j:=by
 rcases CH e with h | rfl
 ·have c:=oP a i (B5 h b);have d:=oP a j b;rw [qh c,qh d];have:=Ax.mp f i j (by simp;exact B5 h b) (by simp;exact BC b) h;exact (by simpa using this:le a[i] a[j])
 ·exact jn _
theorem Mb (h:p∈a.toList.drop i):∃m,i<=m/\m<a.size/\Kk a m=N p:=by obtain ⟨m,b,e⟩:=pW h;simp only [Ay,oS] at b;refine ⟨i+m,iK,uj b,qh ?_⟩;rw [oP a (i+m) (uj b)];simpa using e
theorem DW (h:p∈a.toList.take i):∃m,m<i/\m<a.size/\Kk a m=N p:=by obtain ⟨m,b,e⟩:=pW h;simp only [iC,oS] at b;refine ⟨m,EE b,by lia,qh ?_⟩;rw [oP a m (by lia)];simpa using e
section lo
abbrev Fv (W:List Keyed) (a b e:Array Keyed) (c d:Nat):Prop:=Iv le W e.toList (a.toList.drop c) (b.toList.drop d)
theorem Fv.uJ (h:Fv W a b out C ib) {k:Nat} (d:C+k<=a.size) (c:∀p∈(a.extract C (C+k)).toList,∀q∈b.toList.drop ib,le p q):
 Fv W a b (out++a.extract C (C+k)) (C+k) ib:=by
 unfold Fv at*;rw [we d] at h;rw [ng];exact h.jB c
theorem Fv.uI (h:Fv W a b out I C) {k:Nat} (d:C+k<=b.size) (c:∀p∈(b.extract C (C+k)).toList,∀q∈a.toList.drop I,le p q):
 Fv W a b (out++b.extract C (C+k)) I (C+k):=by
 unfold Fv at*;rw [we d] at h;rw [ng];exact h.lF c
theorem Fv.mn (h:Fv W a b out C ib) {p:Keyed} (e:a[C]?=some p) (c:∀q∈b.toList.drop ib,le p q):Fv W a b (out.push p) (C+1) ib:=by unfold Fv at*;rw [MQ e] at h;rw [CF];exact h.jB (by simpa using c)
theorem Fv.ml (h:Fv W a b out C I) {p:Keyed} (e:b[I]?=some p) (c:∀q∈a.toList.drop C,le p q):Fv W a b (out.push p) C (I+1):=by unfold Fv at*;rw [MQ e] at h;rw [CF];exact h.lF (by simpa using c)
theorem AU (a:Array Keyed) (i:Nat):(a.extract i a.size).toList=a.toList.drop i:=by rw [wZ,xi];exact CC (by simp)
theorem Fv.ia (h:Fv W a b out C I) (c:C=a.size\/I=b.size):Out le W (out++a.extract C a.size++b.extract I b.size).toList:=by
 rw [ng,ng,AU,AU,pR];refine h.fin (List.Perm.refl _) ?_;rcases c with rfl | rfl
 ·rw [List.drop_of_length_le (by simp)];exact h.sy
 ·rw [show b.toList.drop b.size=[] from List.drop_of_length_le (by simp),rL];exact h.sx
theorem Fv.jf (h:Fv W a b out C I) (c:∀p∈b.toList.drop I,∀q∈a.toList.drop C,le p q):Out le W (out++b.extract I b.size++a.extract C a.size).toList:=by rw [ng,ng,AU,AU,pR];exact h.fin JU (List.pairwise_append.mpr ⟨h.sy,h.sx,c⟩)
end lo
section hi
abbrev Bv (W:List Keyed) (a b e:Array Keyed) (c d:Nat):Prop:=Iv ge W e.toList (a.toList.take c).reverse (b.toList.take d).reverse
theorem NV {a:Array Keyed} {i n:Nat} (h:i<=n):(a.toList.take n).reverse=(a.extract i n).reverse.toList++(a.toList.take i).reverse:=by
 rw [JQ,wZ,xi,<-List.reverse_append];congr 1;rw [<-List.drop_take,]
 conv=>lhs;rw [<-CM i (a.toList.take n)]
 rw [List.take_take,Nat.min_eq_left h]
theorem Nv {a:Array Keyed} {i:Nat} {p:Keyed} (h:a[i]?=some p):(a.toList.take (i+1)).reverse=[p]++(a.toList.take i).reverse:=by obtain ⟨b,rfl⟩:=Au.mp h;rw [RU (by simpa using b),List.reverse_append];simp
theorem Bv.uJ (h:Bv W a b out na nb) {i:Nat} (d:i<=na) (c:∀p∈(a.extract i na).toList,∀q∈b.toList.take nb,ge p q):
 Bv W a b (out++(a.extract i na).reverse) i nb:=by
 unfold Bv at*;rw [NV d] at h;rw [ng];exact h.jB (by simpa using c)
theorem Bv.uI (h:Bv W a b out na nb) {i:Nat} (d:i<=nb) (c:∀p∈(b.extract i nb).toList,∀q∈a.toList.take na,ge p q):
 Bv W a b (out++(b.extract i nb).reverse) na i:=by
 unfold Bv at*;rw [NV d] at h;rw [ng];exact h.lF (by simpa using c)
theorem Bv.mn (h:Bv W a b out (na+1) nb) {p:Keyed} (e:a[na]?=some p) (c:∀q∈b.toList.take nb,ge p q):Bv W a b (out.push p) na nb:=by unfold Bv at*;rw [Nv e] at h;rw [CF];exact h.jB (by simpa using c)
theorem Bv.ml (h:Bv W a b out na (nb+1)) {p:Keyed} (e:b[nb]?=some p) (c:∀q∈a.toList.take na,ge p q):Bv W a b (out.push p) na nb:=by unfold Bv at*;rw [Nv e] at h;rw [CF];exact h.lF (by simpa using c)
theorem Bb (a:Array Keyed) (i:Nat):(a.extract 0 i).toList=a.toList.take i:=by rw [wZ,xi];simp
theorem Out.rev (h:Out ge W R):Out le W R.reverse:=⟨(CD R).trans h.1,List.pairwise_reverse.mpr h.2⟩
theorem Bv.ia (h:Bv W a b out na nb) (c:na=0\/nb=0):Out le W (a.extract 0 na++b.extract 0 nb++out.reverse).toList:=by
 have:(a.extract 0 na++b.extract 0 nb++out.reverse).toList=(out.toList++((b.toList.take nb).reverse++(a.toList.take na).reverse)).reverse:=by rw [ng,ng,Bb,Bb,JQ];simp
 rw [this];refine (h.fin JU ?_).rev;rcases c with rfl | rfl
 ·simpa using h.sy
 ·simpa using h.sx
theorem Bv.jf (h:Bv W a b out na nb) (c:∀p∈a.toList.take na,∀q∈b.toList.take nb,ge p q):Out le W (b.extract 0 nb++a.extract 0 na++out.reverse).toList:=by
 have:(b.extract 0 nb++a.extract 0 na++out.reverse).toList=(out.toList++((a.toList.take na).reverse++(b.toList.take nb).reverse)).reverse:=by rw [ng,ng,Bb,Bb,JQ];simp
 rw [this];exact (h.fin (List.Perm.refl _) (List.pairwise_append.mpr ⟨h.sx,h.sy,by simpa using c⟩)).rev
end hi
end
def õ:Array Keyed->Array Keyed->StateT SortSt Sem (Array Keyed):=sortPriv% PySem.Builtin.mergeLo
def ö:Array Keyed->Array Keyed->StateT SortSt Sem (Array Keyed):=sortPriv% PySem.Builtin.mergeHi
structure Sm (st c8:SortSt):Prop where
 kind:kindOf c8=kindOf st
 arr:arrOf c8=arrOf st
 pend:pendingOf c8=pendingOf st
 fail:failedOf c8=failedOf st
theorem Sm.refl (st:SortSt):Sm st st:=⟨U,U,U,U⟩
def Æ:Nat->StateT SortSt Sem Unit:=sortPriv% PySem.Builtin.setMinGallop
section
variable [SK] [f_ prog w A E s] {st nS:SortSt}
theorem tV (a:c) (h:wpS (model prog w) A E s m Q st):
 wpS (model prog w) A E s (@ite _ c inst m n) Q st:=by rw [if_pos a];exact h
theorem tR (a:¬c) (h:wpS (model prog w) A E s n Q st):
 wpS (model prog w) A E s (@ite _ c inst m n) Q st:=by rw [if_neg a];exact h
theorem AN (a:Sm nS st) (h:∀b,Sm nS b->Q () b):wpS (model prog w) A E s (Æ g) Q st:=
 z_ (h _ ⟨a.kind,a.arr,a.pend,a.fail⟩)
theorem OX (j:kindOf st=SK.kind)
 (f:∀p,p∈a.toList->dS p) (o:a.toList.Pairwise le) (n:dS key) (g:i<a.size)
 (h:∀k,i+k<=a.size->(∀m,i<=m->m<i+k->dM l (N key) (Kk a m)=true)->(∀m,i+k<=m->m<a.size->dM l (N key) (Kk a m)=false)->Q (some k) st):
 wpS (model prog w) A E s (IV l key a i (a.size-i) 0) Q st:=by
 refine AM j f n (by lia) (λx y q r=>wz o (uk q) (uj r)) (UO g) λk t d e=>?_;refine h k (by lia) (λm b c=>?_) (λm b c=>?_)
 ·have:=d (m-i) (EK c b);rwa [show i+(m-i)=m by exact kI b] at this
 ·have:=e (m-i) (Br b) (by omega);rwa [show i+(m-i)=m by exact EU b] at this
def SQ {a:Type} (Q I:a->SortSt->Prop):ForInStep a->SortSt->Prop
 | .done c,st=>Q c st
 | .yield c,st=>I c st
theorem xV (I:Nat->β->SortSt->Prop)
 (g:∀i c st,i<n->I i c st->wpS (model prog w) A E s (f i c) (SQ Q (I (i+1))) st)
 (d:∀c st,I n c st->Q c st) (h:I 0 c st):wpS (model prog w) A E s (forIn [:n] c f) Q st:=
 Ah I (λi c st _ e b=>j_ (g i c st e b) λr j a=>by cases r<;>exact a)
  (λc st a=>d c st (by rwa [Nat.max_eq_right (dV _)] at a)) h
theorem RG (h:dM true k x=true):x<k:=by simpa [dM] using h
theorem JJ (h:dM true k x=false):k<=x:=by simpa [dM] using h
theorem RE (h:dM false k x=true):x<=k:=by simpa [dM] using h
theorem by4 (h:dM false k x=false):k<x:=by simpa [dM] using h
theorem lZ (a:c->wpS (model prog w) A E s m Q st)
 (b:¬c->wpS (model prog w) A E s n Q st):wpS (model prog w) A E s (@ite _ c inst m n) Q st:=by
 by_cases h:c
 ·exact tV h (a h)
 ·exact tR h (b h)
theorem jk {a:Type} {x y:Nat} {d:Decidable ((x==y)=true)} {m n:StateT SortSt Sem a} {Q:a->SortSt->Prop} (b:x=y->wpS (model prog w) A E s m Q st)
 (c:¬x=y->wpS (model prog w) A E s n Q st):wpS (model prog w) A E s (@ite _ ((x==y)=true) d m n) Q st:=
 lZ (λh=>b (beq_iff_eq.mp h)) λh=>c λe=>h (beq_iff_eq.mpr e)
theorem pd (d:∀p,p∈a.toList->dS p) (g:i<a.size)
 (h:∀p,a[i]?=some p->dS p->Kk a i=N p->wpS (model prog w) A E s (f p) Q st):wpS (model prog w) A E s (elem' a i>>=f) Q st:=by
 obtain ⟨p,e,b,c⟩:=o_ d g;exact aV (lB e (h p e b c))
theorem L9 (c:kindOf st=SK.kind) (d:dS y) (e:dS z)
 (a:N y<=N z->wpS (model prog w) A E s (f (some true)) Q st) (b:N z<=N y->wpS (model prog w) A E s (f (some false)) Q st):
 wpS (model prog w) A E s (lt' y z>>=f) Q st:=by
 refine aV (AI c d e ?_)
 by_cases h:N y<N z
 ·rw [jr h];exact a (gk h)
 ·rw [fz h];exact b (Int.not_lt.mp h)
theorem ub (f:b.toList.Pairwise le) (h:N p<=Kk b j) (q:Keyed) (a:q∈b.toList.drop j):le p q:=by obtain ⟨m,c,d,e⟩:=Mb a;unfold le;rw [<-e];exact kh h (wz f c d)
theorem Mg (n:b.toList.Pairwise le) (e:Kk b j=N y) (h:∀m,i<=m->m<i+k->Kk a m<=N y)
 (p:Keyed) (c:p∈(a.extract i (i+k)).toList) (q:Keyed) (d:q∈b.toList.drop j):le p q:=by
 obtain ⟨m,f,g,_,l⟩:=DH c;exact ub n (by rw [e,<-l];exact h m f g) q d
section
def LQ (F:R->SortSt->Prop) (L I:C->J->T3->SortSt->Prop) (c:ForInStep (Option R×C×J×T3×γ)) (st:SortSt):Prop:=
 ForInStep.casesOn (motive:=λ_=>Prop) c (λc=>(∃r,c.1=some r/\F r st)\/∃x y z e,c=(none,x,y,z,e)/\L x y z st)
  λc=>∃x y z e,c=(none,x,y,z,e)/\I x y z st
theorem LQ.ret (h:F r st):LQ F L I (.done (some r,g)) st:=.inl ⟨r,U,h⟩
theorem LQ.brk {x y z} (h:L x y z st):LQ F L I (.done (none,x,y,z,e)) st:=.inr ⟨x,y,z,e,U,h⟩
theorem LQ.go {x y z} (h:I x y z st):LQ F L I (.yield (none,x,y,z,e)) st:=⟨x,y,z,e,U,h⟩
theorem wa {n:Nat} {f:Nat->Option R×C×J×T3×γ->StateT SortSt Sem (ForInStep (Option R×C×J×T3×γ))}
 {k:Option R×C×J×T3×γ->StateT SortSt Sem α} {Q:α->SortSt->Prop} (I:Nat->C->J->T3->SortSt->Prop) (L:C->J->T3->SortSt->Prop)
 (o:∀i x y z e st,I i x y z st->wpS (model prog w) A E s (f i (none,x,y,z,e)) (LQ F L (I (i+1))) st)
 (m:∀x y z st,I n x y z st->L x y z st) {x y z e} (b:I 0 x y z st) (j:∀r g a,F r a->wpS (model prog w) A E s (k (some r,g)) Q a)
 (l:∀x y z e a,L x y z a->wpS (model prog w) A E s (k (none,x,y,z,e)) Q a):wpS (model prog w) A E s (forIn [:n] (none,x,y,z,e) f>>=k) Q st:=by
 refine aV (j_ (xV (Q:=λc st=>LQ F L L (.done c) st) (λi c st=>∃x y z e,c=(none,x,y,z,e)/\I i x y z st) ?_ ?_ ⟨x,y,z,e,U,b⟩) ?_)
 ·rintro i c st _ ⟨x,y,z,e,rfl,h⟩;exact j_ (o i x y z e st h) λc a h=>by cases c<;>exact h
 ·rintro c st ⟨x,y,z,e,rfl,h⟩;exact .inr ⟨x,y,z,e,U,m x y z st h⟩
 ·rintro ⟨c,d⟩ st (⟨r,rfl,h⟩ | ⟨x,y,z,e,q,h⟩)
  ·exact j r d st h
  ·exact q▸l x y z e st h
end
theorem YN {Q:Array Keyed->SortSt->Prop} {W:List Keyed} (hW:W=a.toList++b.toList) (S:kindOf st=SK.kind)
 (R:∀p,p∈a.toList->dS p) (G:∀p,p∈b.toList->dS p) (sa:a.toList.Pairwise le) (t:b.toList.Pairwise le)
 (na:0<a.size) (nb:0<b.size) (h0:Kk b 0<=Kk a 0) (hl:Kk b (b.size-1)<=Kk a (a.size-1))
 (h:∀r c8,Sm st c8->Out le W r.toList->Q r c8):wpS (model prog w) A E s (õ a b) Q st:=by
 have H:∀{i j:Nat},i+1=a.size->∀p∈b.toList.drop j,∀q∈a.toList.drop i,le p q:=by intro i j hi p hp;obtain ⟨x,_,x2,x3⟩:=Mb hp;refine ub sa ?_;rw [<-x3,show i=a.size-1 by lia];exact kh (wz t (EG x2) (M_ nb)) hl
 let J:Array Keyed->Nat->Nat->SortSt->Prop:=λf d c c8=>Fv W a b f d c/\d+1<a.size/\c<b.size/\Sm st c8
 let F:Array Keyed->SortSt->Prop:=λr c8=>Out le W r.toList/\Sm st c8
 refine aV (tE (pO ⟨U,pd G nb λy0 e0 _ k0=>?_⟩));have i8:Fv W a b #[y0] 0 1:=by have:Fv W a b #[] 0 0:=⟨by simp [hW],List.Pairwise.nil,sa,t,by simp,by simp⟩;exact this.ml e0 (ub sa (k0▸h0))
 refine jk (λc1=>aS (h _ _ (Sm.refl st) (i8.ia (.inr c1)))) λc1=>jk (λM=>aS (h _ _ (Sm.refl st) (i8.jf (H M)))) λM=>aV (oO
  (wa (F:=F) (λx f d c c8=>J f d c c8/\x<=d+c) (λ_ _ _ _=>False) ?outer
   (λd c f c8 q=>by obtain ⟨⟨_,j2,j3,_⟩,hx⟩:=q;lia) ⟨⟨i8,wc na M,by lia,Sm.refl st⟩,dV _⟩ (λr _ c8 o=>aS (h r c8 o.2 o.1)) λ_ _ _ _ _ z=>z.elim))
 intro x _ p0 q0 mg c8 hJ;have hx:=hJ.2
 let L:Array Keyed->Nat->Nat->SortSt->Prop:=λf d c c8=>J f d c c8/\x+1<=d+c
 refine wa (F:=F) (λx f d c c8=>J f d c c8/\p0+q0+x<=d+c) L ?one
  (λd c f c8 q=>⟨q.1,by have:=q.2;omega⟩) ⟨hJ.1,ar _⟩ (λr _ c8 o=>aS (LQ.ret o)) ?two
 case one=>
  intro x' f d c e c8 q;refine pd G q.1.2.2.1 λx4 y X Z=>pd R (aR q.1.2.1) λz B Y kz=>L9 (q.1.2.2.2.kind.trans S) X Y
   (λT=>aV (lB y ?_)) (λT=>aV (lB B ?_))
  ·have D:=q.1.1.ml y (ub sa (kz.symm▸T));refine jk (λg=>aS (LQ.ret ⟨D.ia (.inr g),q.1.2.2.2⟩)) λg=>?_;have m:J (f.push x4) d (c+1) c8:=⟨D,q.1.2.1,by have:=q.1.2.2.1;exact wc q.1.2.2.1 g,q.1.2.2.2⟩;have:=q.2;exact lZ (λ_=>aS (LQ.brk ⟨m,by lia⟩)) λ_=>aS (LQ.go ⟨m,by lia⟩)
  ·have D:=q.1.1.mn B (ub t (Z.symm▸T));refine jk (λg=>aS (LQ.ret ⟨D.jf (H g),q.1.2.2.2⟩)) λg=>?_;have m:J (f.push z) (d+1) c c8:=⟨D,by have:=q.1.2.1;exact wc q.1.2.1 g,q.1.2.2.1,q.1.2.2.2⟩;have:=q.2;exact lZ (λ_=>aS (LQ.brk ⟨m,by lia⟩)) λ_=>aS (LQ.go ⟨m,by lia⟩)
 case two=>
  intro f d c e eW q;refine aV (tE (pO ⟨U,wa (F:=F) (λ_=>L) L ?_
   (λ_ _ _ _ q=>q) q (λr _ c8 o=>aS (LQ.ret o)) λf d c e lG q=>aV (AN q.1.2.2.2 λcw l=>aS (LQ.go ⟨⟨q.1.1,q.1.2.1,q.1.2.2.1,l⟩,q.2⟩))⟩))
  intro x' f d c e lG q
  extract_lets-underBinder+onlyGivenNames _ qK _ ia1 _ ib1 _ ø _ ac1 bc1 jp
  have oG:∀(u:Unit) (x5:Nat),wpS (model prog w) A E s (jp u x5) (LQ F L L) lG:=by
   intro _ x5;refine aV (AN q.1.2.2.2 λcw l=>pd G q.1.2.2.1 λx4 y X Z=>aV (OX (l.kind.trans S) R sa X (i:=d) (aR q.1.2.1) λk g1 g2 g3=>?_));dsimp-zeta only
   extract_lets-underBinder+onlyGivenNames ac2 uZ
   have V:=q.1.1.uJ g1 (Mg t Z λx1 m1 m2=>RE (g2 x1 m1 m2));have jH:∀(u:Unit) (f:Array Keyed) (i:Nat),Fv W a b f i c->i+1<a.size->d<=i->N x4<=Kk a i->wpS (model prog w) A E s (uZ u f i) (LQ F L L) cw:=by
    intro _ f i f1 f2 f3 f4;refine aV (lB y ?_);have O:=f1.ml y (ub sa f4);refine jk (λg=>aS (LQ.ret ⟨O.ia (.inr g),l⟩)) λg=>pd R (aR f2) λz B Y kz=>
     aV (OX (l.kind.trans S) G t Y (i:=c+1) (by have:=q.1.2.2.1;exact wc q.1.2.2.1 g) λI IZ IX IW=>?_)
    dsimp-zeta only
    extract_lets-underBinder+onlyGivenNames bc2 Hv
    have iN:=O.uI IZ (Mg sa kz λx1 m1 m2=>gk (RG (IX x1 m1 m2)));have oF:∀(u:Unit) (f:Array Keyed) (j:Nat),Fv W a b f i j->j<b.size->c+1<=j->N z<=Kk b j->wpS (model prog w) A E s (Hv u f j) (LQ F L L) cw:=by intro _ f j d1 d2 d3 d4;refine aV (lB B ?_);have d5:=d1.mn B (ub t d4);refine jk (λg=>aS (LQ.ret ⟨d5.jf (H g),l⟩)) λg=>?_;have m:L (f.push z) (i+1) j cw:=⟨⟨d5,wc f2 g,d2,l⟩,by have:=q.2;lia⟩;exact lZ (λ_=>aS (LQ.brk m)) λ_=>aS (LQ.go m)
    have C:=IW (c+1+I) (ar _);refine lZ (λv=>jk (λn=>aS (LQ.ret ⟨iN.ia (.inr n),l⟩)) λn=>?_) λv=>?_
    ·have:c+1+I<b.size:=BB IZ n;exact oF () _ (c+1+I) iN this (mC ..) (JJ (C this))
    ·obtain rfl:I=0:=Nat.eq_zero_of_not_pos v;have:c+1<b.size:=by have:=q.1.2.2.1;exact wc q.1.2.2.1 g
     exact oF () _ (c+1) O this (ar _) (JJ (C this))
   have C:=g3 (d+k) (ar _);refine lZ (λv=>jk (λn=>aS (LQ.ret ⟨V.jf (H n),l⟩)) λn=>jk (λc6=>aS (LQ.ret ⟨V.ia (.inl c6),l⟩)) λc6=>?_) λv=>?_
   ·have:d+k+1<a.size:=by lia
    exact jH () _ (d+k) V this (mC ..) (gk (by4 (C (Nat.lt_of_succ_lt this))))
   ·obtain rfl:k=0:=Nat.eq_zero_of_not_pos v;exact jH () _ d q.1.1 q.1.2.1 (ar _) (gk (by4 (C (Nat.lt_of_succ_lt q.1.2.1))))
  exact lZ (λ_=>oG () _) λ_=>oG () _
end
section
variable [SK] [f_ prog w A E s] {st nS:SortSt}
theorem OY (i:kindOf st=SK.kind)
 (g:∀p,p∈a.toList->dS p) (o:a.toList.Pairwise le) (j:dS key) (t:n<=a.size) (c:0<n)
 (h:∀k,k<=n->(∀m,m<k->dM l (N key) (Kk a m)=true)->(∀m,k<=m->m<n->dM l (N key) (Kk a m)=false)->Q (some k) st):
 wpS (model prog w) A E s (IV l key a 0 n (n-1)) Q st:=by
 refine AM i g j (by lia) (λx y q u=>wz o (uk q) (by lia)) (M_ c) λk d e f=>?_;refine h k d (λm b=>?_) (λm b r=>?_)
 ·have:=e m b;rwa [zZ] at this
 ·have:=f m b r;rwa [zZ] at this
theorem xN (f:b.toList.Pairwise le) (a:j<b.size) (h:Kk b j<=N p) (q:Keyed) (c:q∈b.toList.take (j+1)):ge p q:=by obtain ⟨m,d,_,e⟩:=DW c;unfold ge;rw [<-e];exact kh (wz f (rJ d) a) h
theorem Mh (o:b.toList.Pairwise le) (c:j<b.size) (e:Kk b j=N y) (h:∀m,i<=m->m<k->N y<=Kk a m)
 (p:Keyed) (d:p∈(a.extract i k).toList) (q:Keyed) (f:q∈b.toList.take (j+1)):ge p q:=by
 obtain ⟨m,g,l,_,n⟩:=DH d;exact xN o c (by rw [e,<-n];exact h m g l) q f
theorem LU (h:∀m,m<j->Kk b m<=N p) (q:Keyed) (a:q∈b.toList.take j):ge p q:=by obtain ⟨m,c,_,d⟩:=DW a;unfold ge;rw [<-d];exact h m c
theorem YM (hW:W=a.toList++b.toList) (hk:kindOf st=SK.kind)
 (M:∀p,p∈a.toList->dS p) (hb:∀p,p∈b.toList->dS p) (sa:a.toList.Pairwise le) (C:b.toList.Pairwise le)
 (pa:0<a.size) (R:0<b.size) (h0:Kk b 0<=Kk a 0) (hl:Kk b (b.size-1)<=Kk a (a.size-1))
 (h:∀r c8,Sm st c8->Out le W r.toList->Q r c8):wpS (model prog w) A E s (ö a b) Q st:=by
 have O:∀{i j:Nat},j=1->∀p∈a.toList.take i,∀q∈b.toList.take j,ge p q:=by rintro i _ rfl p hp;obtain ⟨x,_,x2,x3⟩:=DW hp;exact xN C R (x3▸kh h0 (wz sa (dV _) x2))
 let J:Array Keyed->Nat->Nat->SortSt->Prop:=λc na nb c8=>Bv W a b c na nb/\(0<na/\na<=a.size)/\(1<nb/\nb<=b.size)/\Sm st c8
 let F:Array Keyed->SortSt->Prop:=λr c8=>Out le W r.toList/\Sm st c8
 refine aV (tE (pO ⟨U,pd M (Nat.sub_lt pa Nat.zero_lt_one) λy0 e0 _ k0=>?_⟩));have i8:Bv W a b #[y0] (a.size-1) b.size:=by
  have:Bv W a b #[] (a.size-1+1) (b.size-1+1):=by rw [tH pa,tH R];unfold Bv;rw [CC (by simp),CC (by simp)];refine ⟨?_,List.Pairwise.nil,List.pairwise_reverse.mpr sa,List.pairwise_reverse.mpr C,by simp,by simp⟩;rw [hW];exact (CD _).append (CD _)
  exact tH R▸this.mn e0 (xN C (Nat.sub_lt R Nat.zero_lt_one) (k0▸hl))
 refine jk (λS=>aS (h _ _ (Sm.refl st) (i8.ia (.inl S)))) λS=>jk (λc2=>aS (h _ _ (Sm.refl st) (i8.jf (O c2)))) λc2=>aV (oO
  (wa (F:=F) (λx na nb c c8=>J c na nb c8/\na+nb+x<=a.size+b.size) (λ_ _ _ _=>False) ?outer
   (λna nb c c8 q=>by have:=q.1.2.1.1;have:=q.2;lia) ⟨⟨i8,⟨CI S,ZGo ..⟩,⟨by lia,ar _⟩,Sm.refl st⟩,w_ (ZGo ..) _⟩
   (λr _ c8 B=>aS (h r c8 B.2 B.1)) λ_ _ _ _ _ z=>z.elim))
 intro x p0 q0 _ mg c8 hJ;have hx:=hJ.2
 let L:Nat->Nat->Array Keyed->SortSt->Prop:=λna nb c c8=>J c na nb c8/\na+nb+(x+1)<=a.size+b.size
 refine wa (F:=F) (λx' na nb c c8=>J c na nb c8/\na+nb+x'<=p0+q0) L ?one
  (λna nb c c8 q=>⟨q.1,by have:=q.2;lia⟩) ⟨hJ.1,ar _⟩ (λr _ c8 B=>aS (LQ.ret B)) ?two
 case one=>
  intro x' na nb c e c8 q;have T:na-1+1=na:=tH q.1.2.1.1;have o:=tH (aR q.1.2.2.1.1);have la:na-1<a.size:=cQ (tG T) q.1.2.1.2;have l:nb-1<b.size:=cQ (tG o) q.1.2.2.1.2;have q2:=q.2;refine pd hb l λy G iy ky=>pd M la λz H iz kz=>L9 (q.1.2.2.2.kind.trans hk) iy iz
   (λsW=>aV (lB H ?_)) (λsW=>aV (lB G ?_))
  ·have I:Bv W a b (c.push z) (na-1) nb:=Bv.mn (T.symm▸q.1.1) H (o▸xN C l (ky.symm▸sW));refine jk (λd=>aS (LQ.ret ⟨I.ia (.inl d),q.1.2.2.2⟩)) λd=>?_;have g:J (c.push z) (na-1) nb c8:=⟨I,⟨CI d,aR la⟩,q.1.2.2⟩;exact lZ (λ_=>aS (LQ.brk ⟨g,by lia⟩)) λ_=>aS (LQ.go ⟨g,by lia⟩)
  ·have I:Bv W a b (c.push y) na (nb-1):=Bv.ml (o.symm▸q.1.1) G (T▸xN sa la (kz.symm▸sW));refine jk (λd=>aS (LQ.ret ⟨I.jf (O d),q.1.2.2.2⟩)) λd=>?_;have g:J (c.push y) na (nb-1) c8:=⟨I,q.1.2.1,⟨by have:=q.1.2.2.1.1;exact M' q.1.2.2.1.1 d,aR l⟩,q.1.2.2.2⟩;exact lZ (λ_=>aS (LQ.brk ⟨g,by lia⟩)) λ_=>aS (LQ.go ⟨g,by lia⟩)
 case two=>
  intro na nb c e eW q;refine aV (tE (pO ⟨U,wa (F:=F) (λ_=>L) L ?_
   (λ_ _ _ _ q=>q) q (λr _ c8 B=>aS (LQ.ret B)) λna nb c e lG q=>aV (AN q.1.2.2.2 λcw f=>aS (LQ.go ⟨⟨q.1.1,q.1.2.1,q.1.2.2.1,f⟩,q.2⟩))⟩))
  intro x' na nb c e lG q;have o:=tH (aR q.1.2.2.1.1);have l:nb-1<b.size:=cQ (tG o) q.1.2.2.1.2;have hb1:=q.1.2.2.1.1;have q2:=q.2
  extract_lets-underBinder+onlyGivenNames _ na1 _ nb1 _ qK _ ø _ ac1 bc1 jp
  have oG:∀(u:Unit) (x1:Nat),wpS (model prog w) A E s (jp u x1) (LQ F L L) lG:=by
   intro _ x1;refine aV (AN q.1.2.2.2 λcw f=>pd hb l λy G iy ky=>aV (OY (f.kind.trans hk) M sa iy (n:=na) q.1.2.1.2 q.1.2.1.1 λk Y g2 g3=>?_));dsimp-zeta only
   extract_lets-underBinder+onlyGivenNames kk ac2 uZ
   have zc:=q.1.1.uJ Y (o▸Mh C l ky λm t m2=>gk (by4 (g3 m t m2)));have jH:∀(u:Unit) (i:Nat) (c:Array Keyed),Bv W a b c i nb->0<i->i<=na->(∀m,m<i->Kk a m<=N y)->wpS (model prog w) A E s (uZ u i c) (LQ F L L) cw:=by
    intro _ i c f1 f2 f3 f4;have V:i-1+1=i:=tH f2;have li:i-1<a.size:=cQ (tG V) (cQ f3 q.1.2.1.2);refine aV (lB G ?_);have X:Bv W a b (c.push y) i (nb-1):=Bv.ml (o.symm▸f1) G (LU f4);refine jk (λd=>aS (LQ.ret ⟨X.jf (O d),f⟩)) λd=>pd M li λz H iz kz=>
     aV (OY (f.kind.trans hk) hb C iz (n:=nb-1) (aR l) (Nat.sub_pos_of_lt hb1) λk' Z IX IW=>?_)
    dsimp-zeta only
    extract_lets-underBinder+onlyGivenNames Hs bc2 Hv
    have iN:=X.uI Z (V▸Mh sa li kz λm t m2=>JJ (IW m t m2));have oF:∀(u:Unit) (j:Nat) (c:Array Keyed),Bv W a b c i j->1<j->j<=nb-1->(∀m,m<j->Kk b m<=N z)->wpS (model prog w) A E s (Hv u j c) (LQ F L L) cw:=by intro _ j c d1 d2 d3 d4;refine aV (lB H ?_);have d5:Bv W a b (c.push z) (i-1) j:=Bv.mn (V.symm▸d1) H (LU d4);refine jk (λd=>aS (LQ.ret ⟨d5.ia (.inl d),f⟩)) λd=>?_;have g:L (i-1) j (c.push z) cw:=⟨⟨d5,⟨CI d,aR li⟩,⟨d2,cQ d3 (aR l)⟩,f⟩,by lia⟩;exact lZ (λ_=>aS (LQ.brk g)) λ_=>aS (LQ.go g)
    have hz:∀m,m<k'->Kk b m<=N z:=λm t=>gk (RG (IX m t));refine lZ (λD=>jk (λv=>aS (LQ.ret ⟨iN.jf (O v),f⟩)) λv=>jk (λc6=>aS (LQ.ret ⟨iN.ia (.inr c6),f⟩)) λc6=>?_) λD=>?_
    ·exact oF () k' _ iN (by lia) Z hz
    ·obtain rfl:k'=nb-1:=Nc Z D;exact oF () (nb-1) _ X (M' q.1.2.2.1.1 d) (ar _) hz
   have hy:∀m,m<k->Kk a m<=N y:=λm t=>RE (g2 m t);refine lZ (λD=>jk (λv=>aS (LQ.ret ⟨zc.ia (.inl v),f⟩)) λv=>?_) λD=>?_
   ·exact jH () k _ zc (CI v) Y hy
   ·obtain rfl:k=na:=Nc Y D;exact jH () k _ q.1.1 q.1.2.1.1 (ar _) hy
  exact lZ (λ_=>oG () _) λ_=>oG () _
end
section
variable [SK]
def eH (xs:Array Keyed) (a b:Nat):Prop:=∀i j,a<=i->i<=j->j<b->Kk xs i<=Kk xs j
theorem NK (sa:Nat):∀(l:List Keyed) (n:Nat) (xs:Array Keyed),sa+n+l.length<=xs.size->
 ((l.zipIdx n).foldl (λa (b:Keyed×Nat)=>a.setIfInBounds (sa+b.2) b.1) xs).toList
   =xs.toList.take (sa+n)++(l++xs.toList.drop (sa+n+l.length))
 | [],n,xs,_=>by simp
 | p::t,n,xs,h=>by
  simp only [gw] at h;rw [List.zipIdx_cons,vq,NK sa t (n+1) _ (by simp;lia)];simp only [Array.toList_setIfInBounds];rw [show sa+(n+1)=sa+n+1 by exact Eq.refl (sa+(n+1)),List.drop_set_of_lt (by lia),gw,
   show sa+n+1+t.length=sa+n+(t.length+1) by lia]
  have:(xs.toList.set (sa+n) p).take (sa+n+1)=xs.toList.take (sa+n)++[p]:=by rw [RU (by simp;lia),List.take_set_of_le (ar _)];simp
  rw [this];simp
section seg
variable {xs ys:Array Keyed}
theorem XX (h:ys.toList=xs.toList.take a++(M++xs.toList.drop (a+M.length))) (d:a+M.length<=xs.size):
 (∀m,m<a\/a+M.length<=m->Kk ys m=Kk xs m)/\∀m,(b:m<M.length)->Kk ys (a+m)=N M[m]:=by
 have c:(xs.toList.take a).length=a:=by simp;lia
 refine ⟨λm b=>?_,λm b=>?_⟩
 ·refine tX ?_;rw [<-CS,<-CS,h];rcases b with b | b
  ·rw [ic (ym b c),CV b]
  ·rw [iD (by lia),c,iD (Br b),List.getElem?_drop];congr 1;lia
 ·refine qh ?_;rw [<-CS,h,iD (by lia),c,Nat.add_sub_cancel_left,ic b,df b]
theorem Ti (h:ys.toList=xs.toList.take a++(M++xs.toList.drop (a+M.length))) (c:M.Perm (xs.extract a b).toList) (f:b<=xs.size) (d:a<=b):ys.Perm xs:=by
 have g:M.length=b-a:=by rw [c.length_eq];simp;lia
 refine Array.perm_iff_toList_perm.mpr ?_;rw [h];have e:xs.toList=xs.toList.take a++((xs.extract a b).toList++xs.toList.drop (a+M.length)):=by
  conv=>lhs;rw [<-CM a xs.toList]
  congr 1;have:=we (a:=xs) (i:=a) (k:=b-a) (B6 d f);rw [show a+(b-a)=b by exact kI d] at this;rw [this,show a+M.length=b by lia]
 conv=>rhs;rw [e]
 exact (c.append_right _).append_left _
end seg
structure Bs (a₀:Array Keyed) (st:SortSt):Prop where
 perm:(arrOf st).Perm a₀
 kind:kindOf st=SK.kind
 fail:failedOf st=none
theorem Bs.size {a₀:Array Keyed} {st:SortSt} (h:Bs a₀ st):(arrOf st).size=a₀.size:=h.perm.size_eq
theorem Bs.nums {a₀:Array Keyed} {st:SortSt} (h:Bs a₀ st) (a:∀p,p∈a₀.toList->dS p):∀p,p∈(arrOf st).toList->dS p:=
 λp b=>a p ((Array.perm_iff_toList_perm.mp h.perm).mem_iff.mp b)
theorem Mx (e:eH xs a b) (f:b<=xs.size):(xs.extract a b).toList.Pairwise le:=by rw [Ax];intro i j d c g;simp only [oS,Array.size_extract] at d c;simp only [Array.getElem_toList,Array.getElem_extract];have:=e (a+i) (a+j) iK (by lia) (Nh c);rw [qh (oP xs (a+i) (Bq d)),qh (oP xs (a+j) (Bq c))] at this;exact this
theorem AA (c:a+m<b) (_hb:b<=xs.size):Kk (xs.extract a b) m=Kk xs (a+m):=by refine tX ?_;rw [Array.getElem?_extract,if_pos (by lia)]
end
section
variable [SK] [f_ prog w A E s] {st:SortSt}
theorem ZC (h:Q ⟨⟩ a):wpS (model prog w) A E s (set a:StateT SortSt Sem PUnit) Q st:=by unfold wpS;rw [StateT.run_set];exact aI ⟨U,h⟩
theorem YL (h0:∀p,p∈a₀.toList->dS p) (H:Bs a₀ st)
 (hp:pendingOf st=(L++(sa,na,p)::(sb,nb,p')::T).toArray) (N:i=L.length) (X:sb=sa+na) (Ig:1<=na) (hnb:1<=nb)
 (hsz:sb+nb<=a₀.size) (s1:eH (arrOf st) sa sb) (B:eH (arrOf st) sb (sb+nb))
 (h:∀R,Bs a₀ R->pendingOf R=(L++(sa,na+nb,p)::T).toArray->eH (arrOf R) sa (sb+nb)->
  (∀m,m<sa\/sb+nb<=m->Kk (arrOf R) m=Kk (arrOf st) m)->Q true R):
 wpS (model prog w) A E s (mergeAt' i) Q st:=by
 subst N;have I:=H.nums h0;have y:=H.size;refine aV (oO ?_);have g1:(pendingOf st)[L.length]?=some (sa,na,p):=by rw [hp];simp
 have g2:(pendingOf st)[L.length+1]?=some (sb,nb,p'):=by rw [hp];simp
 have g3:((pendingOf st).setIfInBounds L.length (sa,na+nb,p)).eraseIdxIfInBounds (L.length+1)=(L++(sa,na+nb,p)::T).toArray:=by rw [hp];apply Array.toList_inj.mp;simp [List.eraseIdx_append_of_length_le]
 refine (show ((pendingOf st)[L.length]?,(pendingOf st)[L.length+1]?)=(some (sa,na,p),some (sb,nb,p')) by rw [g1,g2]).symm▸?_;refine aV (ZC (g3.symm▸?_));refine (λ(x3:∀iX:SortSt,iX=SortSt.mk' (kindOf st) (arrOf st) ((L++(sa,na+nb,p)::T).toArray) (gallopOf st) (failedOf st)->
  wpS (model prog w) A E s _ Q iX)=>x3 _ U) ?_
 intro iX f;have v:Bs a₀ iX:=by rw [f];exact ⟨H.perm,H.kind,H.fail⟩
 have S:arrOf iX=arrOf st:=by rw [f]
 have p1:pendingOf iX=(L++(sa,na+nb,p)::T).toArray:=by rw [f]
 have keep:eH (arrOf st) sa (sb+nb)->Q true iX:=λhs=>h iX v p1 (by rw [S];exact hs) (λm _=>by rw [S]);clear f;obtain ⟨x4,ey,iy,ky⟩:=o_ I (i:=sb) (by lia);refine aV (lB ey (aV (AM (a:=arrOf st) v.kind I iy (n:=na) (by lia) (λi j Co F=>s1 _ _ iK (uk Co) (by lia)) (by exact Ig)
  λk k1 k2 k3=>?_)))
 have Qz:∀m,sa<=m->m<sa+k->Kk (arrOf st) m<=Kk (arrOf st) sb:=λm d G=>by have:=k2 (m-sa) (EK G d);rw [show sa+(m-sa)=m by exact kI d] at this;rw [ky];simpa [dM] using this
 have Qy:∀m,sa+k<=m->m<sb->Kk (arrOf st) sb<Kk (arrOf st) m:=λm d G=>by have:=k3 (m-sa) (Br d) (by lia);rw [show sa+(m-sa)=m by exact EU d] at this;rw [ky];simpa [dM] using this
 dsimp-zeta only
 by_cases M:na-k=0
 ·refine tV (c:=(na-k==0)=true) (by simpa using M) ?_;refine aS (keep λi j o e g=>?_)
  by_cases F:j<sb
  ·exact s1 i j o e F
  by_cases N:sb<=i
  ·exact B i j N e g
  exact kh (Qz i o (by lia)) (B sb j (ar _) (j8 F) g)
 refine tR (c:=(na-k==0)=true) (by simpa using M) ?_;obtain ⟨x5,ez,iz,kz⟩:=o_ I (i:=sa+k+(na-k)-1) (by lia);have Rj:sa+k+(na-k)-1=sb-1:=by lia
 refine aV (lB ez (aV (AM (a:=arrOf st) v.kind I iz (b:=sb) (n:=nb) (by lia) (λi j Co F=>B _ _ iK (uk Co) (pC F)) (Ng hnb)
  λix O q2 q3=>?_)))
 rw [Rj] at kz;have yP:∀m,sb<=m->m<sb+ix->Kk (arrOf st) m<Kk (arrOf st) (sb-1):=λm d G=>by have:=q2 (m-sb) (EK G d);rw [show sb+(m-sb)=m by exact kI d] at this;rw [kz];simpa [dM] using this
 have Qd:∀m,sb+ix<=m->m<sb+nb->Kk (arrOf st) (sb-1)<=Kk (arrOf st) m:=λm d G=>by have:=q3 (m-sb) (Br d) (by lia);rw [show sb+(m-sb)=m by exact EU d] at this;rw [kz];simpa [dM] using this
 dsimp-zeta only
 by_cases c2:ix=0
 ·refine tV (c:=(ix==0)=true) (by simpa using c2) ?_;refine aS (keep λi j o e g=>?_)
  by_cases F:j<sb
  ·exact s1 i j o e F
  by_cases N:sb<=i
  ·exact B i j N e g
  exact kh (s1 i (sb-1) o (by lia) (M8 Ig X)) (Qd j (by lia) g)
 refine tR (c:=(ix==0)=true) (by simpa using c2) ?_
 extract_lets-underBinder+onlyGivenNames x C jp
 have Ä:x.size=na-k:=by show ((arrOf st).extract (sa+k) sb).size=_;rw [Array.size_extract];lia
 have Ã:C.size=ix:=by show ((arrOf st).extract sb (sb+ix)).size=_;rw [Array.size_extract];lia
 have hx:∀q,q∈x.toList->dS q:=λq hq=>I q (by
  have:q∈((arrOf st).extract (sa+k) sb).toList:=hq;rw [wZ,xi] at this;exact List.mem_of_mem_drop (CL this))
 have hy:∀q,q∈C.toList->dS q:=λq hq=>I q (by
  have:q∈((arrOf st).extract sb (sb+ix)).toList:=hq;rw [wZ,xi] at this;exact List.mem_of_mem_drop (CL this))
 have ox:x.toList.Pairwise le:=Mx (xs:=arrOf st) (λi j o e g=>s1 i j (by lia) e g) (EF hsz y);have oy:C.toList.Pairwise le:=Mx (xs:=arrOf st) (λi j o e g=>B i j o e (by lia)) (yk hsz y O);have hf:Kk C 0<=Kk x 0:=by show Kk ((arrOf st).extract sb (sb+ix)) 0<=Kk ((arrOf st).extract (sa+k) sb) 0;rw [AA (by lia) (yk hsz y O),AA (by lia) (EF hsz y)];exact gk (Qy _ (by exact gj) (by lia))
 have hl:Kk C (C.size-1)<=Kk x (x.size-1):=by rw [Ä,Ã];show Kk ((arrOf st).extract sb (sb+ix)) _<=Kk ((arrOf st).extract (sa+k) sb) _;rw [AA (by lia) (yk hsz y O),AA (by lia) (EF hsz y),show sa+k+(na-k-1)=sb-1 by exact UG Rj M];exact gk (yP _ iK (by lia))
 have hW:x.toList++C.toList=((arrOf st).extract (sa+k) (sb+ix)).toList:=by have f:=we (a:=(arrOf st)) (i:=sa+k) (k:=na-k) (by omega);have V:=we (a:=(arrOf st)) (i:=sb) (k:=ix) (yk hsz y O);have e3:=we (a:=(arrOf st)) (i:=sa+k) (k:=na-k+ix) (by omega);rw [show sa+k+(na-k)=sb by omega] at f;rw [show sa+k+(na-k+ix)=sb+ix by omega] at e3;rw [V] at f;rw [e3,<-pR] at f;exact (List.append_cancel_right f).symm
 have oG:∀r eW,Sm iX eW->Out le (x.toList++C.toList) r.toList->wpS (model prog w) A E s (jp r) Q eW:=by
  intro r eW t u;rw [hW] at u;have rl:r.toList.length=na-k+ix:=by rw [u.1.length_eq];simp;lia
  refine aV (z_ (aV (oO (aS ?_))));have W:=NK (sa+k) r.toList 0 (arrOf eW) (by rw [t.arr,S];omega);rw [t.arr,S,Nat.add_zero] at W;have D:=XX W (by omega);have hP:=Ti W u.1 (yk hsz y O) (by lia);have kR:∀m,sa+k<=m->m<sb+ix->∀x2,x2=Kk (List.foldl (λa (z:Keyed×Nat)=>a.setIfInBounds (sa+k+z.2) z.1) (arrOf st) (r.toList.zipIdx 0)) m->Kk (arrOf st) sb<=x2/\x2<=Kk (arrOf st) (sb-1):=by
   rintro m d G x2 rfl;have:=D.2 (m-(sa+k)) (by omega);rw [show sa+k+(m-(sa+k))=m by exact kI d] at this;rw [this];obtain ⟨m',n1,n2,_,n4⟩:=DH (u.1.mem_iff.mp (vv (l:=r.toList) (n:=m-(sa+k)) (Nb G X rl M)));rw [<-n4]
   by_cases Z:m'<sb
   ·exact ⟨gk (Qy m' n1 Z),s1 _ _ (by lia) (EG Z) (M8 Ig X)⟩
   ·exact ⟨B _ _ (by exact gj) (j8 Z) (by lia),gk (yP m' (j8 Z) n2)⟩
  have zw:(failedOf eW).isNone=true:=by rw [t.fail,v.fail];rfl
  have s_:List.foldl (λa x=>match x with | (p,j)=>a.setIfInBounds (sa+k+j) p) (arrOf eW) r.toList.zipIdx
   =List.foldl (λa (z:Keyed×Nat)=>a.setIfInBounds (sa+k+z.2) z.1) (arrOf st) (r.toList.zipIdx 0):=by rw [t.arr,S]
  generalize List.foldl (λa (z:Keyed×Nat)=>a.setIfInBounds (sa+k+z.2) z.1) (arrOf st) (r.toList.zipIdx 0)=Y at s_ W D hP kR;refine (show Q (failedOf eW).isNone (SortSt.mk' (kindOf eW) (List.foldl (λa x=>match x with | (p,j)=>a.setIfInBounds (sa+k+j) p) (arrOf eW) r.toList.zipIdx) (pendingOf eW) (gallopOf eW) (failedOf eW)) from ?_);rw [s_,zw];refine h _ ⟨hP.trans H.perm,t.kind.trans v.kind,t.fail.trans v.fail⟩ (t.pend.trans p1) ?_ ?_
  ·show eH Y sa (sb+nb);have qK:∀m,m<sa+k->Kk Y m=Kk (arrOf st) m:=λm d=>D.1 m (.inl d);have qJ:∀m,sb+ix<=m->Kk Y m=Kk (arrOf st) m:=λm d=>D.1 m (.inr (by omega));intro i j o e g
   by_cases i1:i<sa+k
   ·rw [qK i i1]
    by_cases j1:j<sa+k
    ·rw [qK j j1];exact s1 i j o e (by lia)
    have:=Qz i o i1
    by_cases J:j<sb+ix
    ·exact kh this (kR j (j8 j1) J _ U).1
    ·rw [qJ j (j8 J)];exact kh this (B _ _ (ar _) (by lia) g)
   by_cases i2:i<sb+ix
   ·by_cases J:j<sb+ix
    ·rcases CH e with Co | rfl
     ·have f:=D.2 (i-(sa+k)) (by omega);have V:=D.2 (j-(sa+k)) (Nb J X rl M);rw [show sa+k+(i-(sa+k))=i by exact Tz i1] at f;rw [show sa+k+(j-(sa+k))=j by lia] at V;rw [f,V];exact Ax.mp u.2 _ _ _ _ (by lia)
     ·exact jn _
    ·rw [qJ j (j8 J)];exact kh (kR i (j8 i1) i2 _ U).2 (Qd j (j8 J) g)
   ·rw [qJ i (j8 i2),qJ j (by lia)];exact B i j (by lia) e g
  ·intro m hm';exact D.1 m (by omega)
 by_cases c3:na-k<=ix
 ·refine tV c3 ?_;exact aV (YN U v.kind hx hy ox oy (by lia) (by lia) hf hl λr eW t u=>oG r eW t u)
 ·refine tR c3 ?_;exact aV (YM U v.kind hx hy ox oy (by lia) (by lia) hf hl λr eW t u=>oG r eW t u)
end
section
variable [SK]
def Dec (xs:Array Keyed) (a b:Nat):Prop:=∀i j,a<=i->i<=j->j<b->Kk xs j<=Kk xs i
structure Go (a₀:Array Keyed) (lo:Nat) (st c8:SortSt):Prop where
 base:Bs a₀ c8
 pend:pendingOf c8=pendingOf st
 low:∀m,m<lo->Kk (arrOf c8) m=Kk (arrOf st) m
theorem Go.refl {a₀:Array Keyed} {a:Nat} {st:SortSt} (h:Bs a₀ st):Go a₀ a st st:=⟨h,U,λ_ _=>rfl⟩
theorem Go.put {a₀:Array Keyed} {b:Nat} {st a:SortSt} (h:Go a₀ b st a) {xs:Array Keyed} (e:xs.Perm (arrOf a)) (d:∀m,m<b->Kk xs m=Kk (arrOf a) m):
 Go a₀ b st (setArr a xs):=⟨⟨e.trans h.base.perm,h.base.kind,h.base.fail⟩,h.pend,λm c=>(d m c).trans (h.low m c)⟩
theorem eH.snoc (h:eH xs a b) (g:a<b->Kk xs (b-1)<=Kk xs b):eH xs a (b+1):=by
 intro i j c d k
 by_cases f:j<b
 ·exact h i j c d f
 obtain rfl:j=b:=by lia
 by_cases e:i=j
 ·rw [e];exact jn _
 ·exact kh (h i (j-1) c (by lia) (by lia)) (g (by lia))
theorem Dec.snoc (h:Dec xs a b) (g:a<b->Kk xs b<=Kk xs (b-1)):Dec xs a (b+1):=by
 intro i j c d k
 by_cases f:j<b
 ·exact h i j c d f
 obtain rfl:j=b:=by lia
 by_cases e:i=j
 ·rw [e];exact jn _
 ·exact kh (g (by lia)) (h i (j-1) c (by lia) (by lia))
theorem eH.one (xs:Array Keyed) (a:Nat):eH xs a (a+1):=λi j b c d=>by
 obtain rfl:i=j:=by lia
 exact jn _
theorem Dec.rev (h:Dec xs a b) (f:b<=xs.size):eH (mirror xs a b ((b-a) / 2)) a b:=by intro i j c d e;rw [A' f,A' f,if_pos ⟨c,by lia⟩,if_pos ⟨qz c d,e⟩];exact h _ _ (MJ e) (T6 d) (by omega)
end
section
variable [SK] [f_ prog w A E s] {st:SortSt}
theorem Bp (I:Nat->β->SortSt->Prop) (g:a<=n)
 (l:∀i c st,a<=i->i<n->I i c st->wpS (model prog w) A E s (f i c) (SQ Q (I (i+1))) st)
 (j:∀c st,I n c st->Q c st) (h:I a c st):wpS (model prog w) A E s (forIn [a:n] c f) Q st:=
 Ah I (λi c st e k d=>j_ (l i c st e k d) λr m b=>by cases r<;>exact b)
  (λc st b=>j c st (by rwa [Nat.max_eq_right g] at b)) h
theorem vH (e:∀p,p∈a₀.toList->dS p) (a:Bs a₀ st) (f:i<a₀.size) (g:j<a₀.size)
 (h:Q (some (decide (Kk (arrOf st) i<Kk (arrOf st) j))) st):wpS (model prog w) A E s (ltAt' i j) Q st:=by
 have b:=a.nums e;obtain ⟨p,c,k,m⟩:=o_ b (i:=i) (by rw [a.size];exact f);obtain ⟨q,d,l,n⟩:=o_ b (i:=j) (by rw [a.size];exact g);rw [ltAt'_eq];refine aV (oO (aV (lB c (aV (lB d (AI a.kind k l ?_))))))
 rwa [m,n] at h
theorem UE {a q:Nat} {Q:Option Nat->SortSt->Prop} (L:∀p,p∈a₀.toList->dS p) (D:Bs a₀ st) (v:a+q<=a₀.size) (T:1<=q)
 (h:∀m b,1<=m->m<=q->Go a₀ a st b->eH (arrOf b) a (a+m)->Q (some m) b):
 wpS (model prog w) A E s (countRun' a q) Q st:=by
 refine aV (j_ (Bp
  (I:=λx c b=>b=st/\c=(none,x)/\eH (arrOf st) a (a+x))
  (Q:=λc b=>b=st/\∃n,c=(none,n)/\1<=n/\n<=q/\eH (arrOf st) a (a+n)/\(n=q\/Kk (arrOf st) (a+n)<Kk (arrOf st) (a+n-1)))
  T ?_ ?_ ⟨U,U,eH.one _ _⟩) ?_)
 ·rintro x c b yX Y ⟨rfl,rfl,o⟩;refine aV (vH L D (by show a+x<_;exact mR v Y) (by show a+x-1<_;exact B8 v Y) ?_)
  by_cases l:Kk (arrOf b) (a+x)<Kk (arrOf b) (a+x-1)
  ·rw [jr l];exact aS ⟨U,x,U,yX,by exact aR Y,o,.inr l⟩
  ·rw [fz l];exact aS ⟨U,U,o.snoc λ_=>Int.not_lt.mp l⟩
 ·rintro c b ⟨rfl,rfl,o⟩;exact ⟨U,q,U,T,ar _,o,.inl U⟩
 rintro c b ⟨rfl,n,rfl,Z,n2,o,Ϸ⟩;refine (λ(H:wpS (model prog w) A E s (ite ((n==q)=true) _ _) Q b)=>H) ?_
 by_cases S:n=q
 ·rw [if_pos (by simpa using S)];exact aS (h n _ Z n2 (Go.refl D) o)
 rw [if_neg (by simpa using S)];have l:=Ϸ.resolve_left S
 extract_lets-underBinder+onlyGivenNames jp
 have oG:∀x3 eW,Go a₀ a b eW->Dec (arrOf eW) a (a+(n+1))->wpS (model prog w) A E s (jp x3) Q eW:=by
  intro _ eW f g;refine aV (tE (pO ⟨U,?_⟩));refine aV (j_ (Bp
   (I:=λx c d=>∃e,c=(none,x,e)/\Go a₀ a b d/\Dec (arrOf d) a (a+x)/\e+1<=x/\∀i,a+x-(e+1)<=i->i<a+x->Kk (arrOf d) i=Kk (arrOf d) (a+x-1))
   (Q:=λc d=>∃x e,c=(none,x,e)/\n+1<=x/\x<=q/\Go a₀ a b d/\Dec (arrOf d) a (a+x)/\e+1<=x/\∀i,a+x-(e+1)<=i->i<a+x->Kk (arrOf d) i=Kk (arrOf d) (a+x-1))
   (show n+1<=q by lia) ?_ ?_ ⟨0,U,f,g,by exact gQ Z,λi r t=>by congr 1;lia⟩) ?_)
  ·rintro x c d x1 G ⟨e,rfl,f,g,N,F⟩;have z:a+x<=(arrOf d).size:=by rw [f.base.size];lia
   refine aV (vH L f.base (by show a+x<_;exact mR v G) (by show a+x-1<_;exact B8 v G) ?_)
   by_cases l:Kk (arrOf d) (a+x)<Kk (arrOf d) (a+x-1)
   ·rw [jr l];dsimp only;rw [if_pos rfl]
    by_cases M:e>0
    ·rw [if_pos M];have u:=Fg (i:=a+x-(e+1)) z F;refine aV (C4 (aS ⟨0,U,f.put (C0 _ _ _ _) (λm _=>u m),?_,by lia,λi r t=>by congr 1;lia⟩));intro i j r t J;show Kk (mirror (arrOf d) _ _ _) j<=Kk (mirror (arrOf d) _ _ _) i;rw [u,u];exact (g.snoc λ_=>gk l) i j r t (by omega)
    ·rw [if_neg M];exact aS ⟨0,U,f,g.snoc λ_=>gk l,by lia,λi r t=>by congr 1;lia⟩
   ·rw [fz l];dsimp only;rw [if_neg (by decide)];refine aV (vH L f.base (B8 v G) (mR v G) ?_)
    by_cases W:Kk (arrOf d) (a+x-1)<Kk (arrOf d) (a+x)
    ·rw [jr W];exact aS ⟨x,e,U,by omega,by exact aR G,f,g,N,F⟩
    ·rw [fz W];have heq:Kk (arrOf d) (a+x)=Kk (arrOf d) (a+x-1):=by lia
     refine aS ⟨e+1,U,f,g.snoc λ_=>B4 W,ug N,λi r t=>?_⟩;rw [show a+(x+1)-1=a+x by exact Eq.refl (a+(x+1)-1)]
     by_cases hi:i=a+x
     ·rw [hi]
     ·rw [heq];exact F i (by lia) (by lia)
  ·rintro c d ⟨e,rfl,f,g,N,F⟩;exact ⟨q,e,U,by lia,ar _,f,g,N,F⟩
  rintro c d ⟨x,e,rfl,_,G,f,g,N,F⟩;have z:a+x<=(arrOf d).size:=by rw [f.base.size];lia
  refine (λ(H:wpS (model prog w) A E s _ Q d)=>H) ?_
  extract_lets-underBinder+onlyGivenNames r0 _ xx nn
  dsimp-zeta only [r0]
  extract_lets-underBinder+onlyGivenNames uZ
  have jH:∀x3 cw,Go a₀ a b cw->Dec (arrOf cw) a (a+x)->wpS (model prog w) A E s (uZ x3) Q cw:=by
   intro _ cw f g;have z:a+x<=(arrOf cw).size:=by rw [f.base.size];lia
   refine aV (C4 ?_);have R:Go a₀ a b (setArr cw (mirror (arrOf cw) a (a+x) ((a+x-a) / 2))):=
    f.put (C0 _ _ _ _) (λm hm=>by rw [A' z,if_neg (by lia)])
   have X:eH (arrOf (setArr cw (mirror (arrOf cw) a (a+x) ((a+x-a) / 2)))) a (a+x):=g.rev z;refine (λ(H:∀B,Go a₀ a b B->eH (arrOf B) a (a+x)->wpS (model prog w) A E s _ Q B)=>H _ R X) ?_;intro B R X;refine aV (j_ (Bp
    (I:=λy c C=>C=B/\c=(none,y)/\eH (arrOf B) a (a+y))
    (Q:=λc C=>C=B/\∃y,c=(none,y)/\1<=y/\y<=q/\eH (arrOf B) a (a+y)) G ?_ ?_ ⟨U,U,X⟩) ?_)
   ·rintro y c C y1 O ⟨rfl,rfl,o⟩;refine aV (vH L R.base (by show a+y<_;exact mR v O) (by show a+y-1<_;exact B8 v O) ?_)
    by_cases l:Kk (arrOf C) (a+y)<Kk (arrOf C) (a+y-1)
    ·rw [jr l];exact aS ⟨U,y,U,by lia,by exact aR O,o⟩
    ·rw [fz l];exact aS ⟨U,U,o.snoc λ_=>Int.not_lt.mp l⟩
   ·rintro c C ⟨rfl,rfl,o⟩;exact ⟨U,q,U,T,ar _,o⟩
   ·rintro c C ⟨rfl,y,rfl,y1,O,o⟩;exact aS (h y _ y1 O R o)
  by_cases M:e>0
  ·refine tV (c:=e>0) M ?_;have u:=Fg (i:=a+x-(e+1)) z F;refine aV (C4 (jH () _ (f.put (C0 _ _ _ _) (λm _=>u m)) ?_));intro i j r t J;show Kk (mirror (arrOf d) _ _ _) j<=Kk (mirror (arrOf d) _ _ _) i;rw [u,u];exact g i j r t J
  ·refine tR (c:=e>0) M ?_;exact jH () _ f g
 have z:a+n<=(arrOf b).size:=by rw [D.size];lia
 by_cases c2:n>1
 ·refine tV (c:=n>1) c2 ?_;refine aV (vH L D (by lia) (by show a+n-1<_;omega) ?_)
  by_cases hr:Kk (arrOf b) a<Kk (arrOf b) (a+n-1)
  ·rw [jr hr];exact aS (h n _ Z n2 (Go.refl D) o)
  ·rw [fz hr];have V:∀k,a<=k->k<a+n->Kk (arrOf b) k=Kk (arrOf b) (a+n-1):=λk k1 k2=>by
    have a1:=o a k (ar _) k1 k2;have a2:=o k (a+n-1) k1 (EG k2) (by omega);lia
   have u:=Fg z V;refine aV (C4 (oG () _ ((Go.refl D).put (C0 _ _ _ _) (λm _=>u m)) ?_));have g:Dec (arrOf b) a (a+n):=λi j r t J=>by rw [V i r (by lia),V j (qz r t) J];exact jn _
   intro i j r t J;show Kk (mirror (arrOf b) _ _ _) j<=Kk (mirror (arrOf b) _ _ _) i;rw [u,u];exact (g.snoc λ_=>gk l) i j r t (by omega)
 ·refine tR (c:=n>1) c2 ?_;obtain rfl:n=1:=by lia
  have g:Dec (arrOf b) a (a+1):=λi j r t J=>by
   obtain rfl:i=j:=by lia
   exact jn _
  exact oG () _ (Go.refl D) (g.snoc λ_=>gk l)
end
theorem YW {f g:Nat->Int} {k a b:Nat} (t:k<=a) (s:a<=b) (h:∀m,m<a->g m=f m) (l:g a=f b) (r:∀m,a<m+1->m+1<=b->g (m+1)=f m) (low:∀m,k<=m->m<a->f m<=f b) (high:∀m,a<=m->m<b->f b<=f m)
 (n:∀i j,k<=i->i<=j->j<b->f i<=f j):∀i j,k<=i->i<=j->j<b+1->g i<=g j:=λi j o e p=>by
 rcases wX j a with c | c | c
 ·rw [h j c,h i (tL e c)];exact n i j o e (gZ c s)
 ·subst c;rw [l];rcases CH e with d | d
  ·rw [h i d];exact low i o d
  ·rw [d,l];exact jn _
 ·cases j with
  | zero=>exact absurd c (mG _)
  | succ j=>
   rw [r j c (rJ p)];have q:j<b:=Nat.lt_of_succ_lt_succ p;rcases wX i a with d | d | d
   ·rw [h i d];exact n i j o (rJ (Nat.lt_trans d c)) q
   ·rw [d,l];exact high j (rJ c) q
   ·cases i with
    | zero=>exact absurd d (mG _)
    | succ i=>
     rw [r i d (cQ e (rJ p))];exact n i j (cQ t (rJ d)) (Nat.le_of_succ_le_succ e) q
section
variable [SK] [f_ prog w A E s] {st:SortSt}
theorem ZD {e n ok:Nat} (W:∀p,p∈a₀.toList->dS p) (Y:Bs a₀ st) (N:e+n<=a₀.size) (B:1<=ok) (a4:ok<=n)
 (hs:eH (arrOf st) e (e+ok)) (h:∀f,Go a₀ e st f->eH (arrOf f) e (e+n)->Q true f):
 wpS (model prog w) A E s (binarySort' e n ok) Q st:=by
 refine aV (j_ (Bp
  (I:=λk c f=>c=(none,())/\Go a₀ e st f/\eH (arrOf f) e (e+k))
  (Q:=λc f=>c=(none,())/\Go a₀ e st f/\eH (arrOf f) e (e+n)) (show max ok 1<=n by lia) ?_ ?_
  ⟨U,Go.refl Y,by rw [Nat.max_eq_left B];exact hs⟩) ?_)
 ·rintro k c f _ R ⟨rfl,o,t⟩;have hsz:e+k<(arrOf f).size:=by rw [o.base.size];exact mR N R
  refine aV (j_ (xV
   (I:=λx c g=>g=f/\∃l r,c=(none,l,r)/\l<=r/\r<=k/\r-l<=k-x/\(∀i,i<l->Kk (arrOf f) (e+i)<=Kk (arrOf f) (e+k))/\
    ∀i,r<=i->i<k->Kk (arrOf f) (e+k)<=Kk (arrOf f) (e+i))
   (Q:=λc g=>g=f/\∃l,c=(none,l,l)/\l<=k/\(∀i,i<l->Kk (arrOf f) (e+i)<=Kk (arrOf f) (e+k))/\
    ∀i,l<=i->i<k->Kk (arrOf f) (e+k)<=Kk (arrOf f) (e+i)) ?_ ?_ ⟨U,0,k,U,by lia,by exact gj,by exact gj,λi hi=>by exact gX (mG i hi),λi J O=>by lia⟩) ?_)
  ·rintro x c g hx ⟨rfl,l,r,rfl,S,y,T,u,v⟩;dsimp only
   by_cases M:l>=r
   ·rw [if_pos M];obtain rfl:l=r:=by lia
    exact aS ⟨U,l,U,y,u,v⟩
   rw [if_neg M];generalize F:(l+r) / 2=m;refine aV (vH W o.base (i:=e+k) (j:=e+m) (mR N R) (by lia) ?_)
   by_cases D:Kk (arrOf g) (e+k)<Kk (arrOf g) (e+m)
   ·rw [jr D];refine aS ⟨U,l,m,U,by lia,by lia,by omega,u,λi J O=>?_⟩;exact kh (gk D) (t _ _ iK (uk J) (pC O))
   ·rw [fz D];refine aS ⟨U,m+1,r,U,by lia,by omega,by omega,λi J=>?_,v⟩;exact kh (t _ (e+m) iK (by lia) (by lia)) (Int.not_lt.mp D)
  ·rintro c g ⟨rfl,l,r,rfl,S,y,T,u,v⟩;obtain rfl:l=r:=by lia
   exact ⟨U,l,U,y,u,v⟩
  ·rintro c g ⟨rfl,l,rfl,y,u,v⟩;refine (λ(H:wpS (model prog w) A E s (do moveDown' (e+k) (e+l);pure (ForInStep.yield (none,()))) _ g)=>H) ?_;rw [moveDown'_eq];have V:e+k-(e+k-(e+l))=e+l:=by lia
   have C:∀m,Kk (bubble (arrOf g) (e+k) (e+k-(e+l))) m=if m=e+l then Kk (arrOf g) (e+k) else if e+l<m/\m<=e+k then Kk (arrOf g) (m-1) else Kk (arrOf g) m:=λm=>by
    have:=SI (d:=e+k-(e+l)) hsz (ZGo _ _) m
    rwa [V] at this
   refine aV (z_ (aS ⟨U,o.put (bubble_perm _ _ _) (λm F=>?_),?_⟩))
   ·rw [C,if_neg (by lia),if_neg λz=>by lia]
   ·refine YW (a:=e+l) (b:=e+k) (mC e l) (JP y e) (λm F=>?_) ?_ (λm B X=>?_) (λm G L=>?_) (λm G L=>?_) t
    ·rw [C,if_neg (fy F),if_neg λz=>Nat.lt_asymm F z.1]
    ·rw [C,if_pos rfl]
    ·rw [C,if_neg (tD B),if_pos ⟨B,X⟩,Nat.add_sub_cancel]
    ·obtain ⟨q,rfl⟩:=Nat.exists_eq_add_of_le G;exact u q (RL L)
    ·obtain ⟨q,rfl⟩:=Nat.exists_eq_add_of_le (cQ (mC e l) G);exact v q (Nat.le_of_add_le_add_left G) (RL L)
 ·rintro c f ⟨Z,o,t⟩;exact ⟨Z,o,t⟩
 ·rintro c f ⟨rfl,o,t⟩;exact aS (h f o t)
end
def Run [SK] (xs:Array Keyed):Nat->List (Nat×Nat×Nat)->Nat->Prop
 | s,[],e=>s=e
 | s,r::t,e=>r.1=s/\1<=r.2.1/\eH xs s (s+r.2.1)/\Run xs (s+r.2.1) t e
section run
variable [SK]
theorem Run.le:∀{a s e},Run X s a e->s+a.length<=e
 | [],s,e,h=>by unfold Run at h;simp;lia
 | r::t,s,e,⟨_,c,_,b⟩=>by have:=b.le;simp only [gw];lia
theorem Run.congr:∀{f s e},Run X s f e->(∀m,s<=m->m<e->Kk Y m=Kk X m)->Run Y s f e
 | [],_,_,h,_=>h
 | r::t,s,e,⟨k,l,n,d⟩,b=>by have:=d.le;refine ⟨k,l,λi j a c g=>?_,d.congr λm p o=>b m (by lia) o⟩;rw [b i a (by lia),b j (qz a c) (by lia)];exact n i j a c g
theorem Run.app:∀{l r s e},Run X s (l++r) e↔∃m,Run X s l m/\Run X m r e
 | [],r,s,e=>⟨λh=>⟨s,U,h⟩,λ⟨m,b,c⟩=>by unfold Run at b;subst b;exact c⟩
 | a::l,r,s,e=>⟨λ⟨d,b,c,f⟩=>by
  obtain ⟨m,g,i⟩:=Run.app.mp f;exact ⟨m,⟨d,b,c,g⟩,i⟩,λ⟨m,⟨d,b,c,f⟩,j⟩=>⟨d,b,c,Run.app.mpr ⟨m,f,j⟩⟩⟩
theorem Run.same:∀{f g s e},Run X s f e->f.map (λr=>(r.1,r.2.1))=g.map (λr=>(r.1,r.2.1))->Run X s g e
 | [],[],_,_,h,_=>h
 | a::t,b::o,s,e,⟨k,l,m,n⟩,c=>by simp only [eG,List.cons.injEq,Prod.mk.injEq] at c;obtain ⟨⟨i,d⟩,j⟩:=c;refine ⟨i▸k,d▸l,d▸m,?_⟩;rw [<-d];exact n.same j
 | [],_::_,_,_,_,c=>by simp at c
 | _::_,[],_,_,_,c=>by simp at c
end run
theorem OG {b c:Type} {f:b->b} {g:b->c} (h:∀x,g (f x)=g x):∀(l:List b) (i:Nat),(l.modify i f).map g=l.map g
 | [],i=>by simp
 | a::t,0=>by simp [h]
 | a::t,i+1=>by simp [OG h t i]
section
variable [SK] [f_ prog w A E s] {st:SortSt}
structure Pd (a₀:Array Keyed) (lo:Nat) (rs:List (Nat×Nat×Nat)) (st:SortSt):Prop where
 base:Bs a₀ st
 pend:pendingOf st=rs.toArray
 run:Run (arrOf st) 0 rs lo
 top:lo<=a₀.size
theorem LA {c i:Nat} (C:∀p,p∈a₀.toList->dS p) (b:Pd a₀ c rs st) (I:i+1<rs.length)
 (h:∀x a,Pd a₀ c x a->x.length+1=rs.length->(∀m,c<=m->Kk (arrOf a) m=Kk (arrOf st) m)->Q true a):
 wpS (model prog w) A E s (mergeAt' i) Q st:=by
 obtain ⟨L,l,n,T,e,D⟩:∃L l n T,rs=L++l::n::T/\i=L.length:=by refine ⟨rs.take i,rs[i],rs[i+1],rs.drop (i+2),?_,by simp;lia⟩;rw [<-JZ,<-JZ,CM]
 obtain ⟨d,j,p⟩:=l;obtain ⟨M,k,J⟩:=n;have u:=b.run;rw [e] at u;obtain ⟨m,F,rfl,o,q,rfl,r,t,g⟩:=Run.app.mp u;dsimp only at o q r t g;have N:=g.le;have H:=b.top;refine YL C b.base (e▸b.pend) D U o r (by lia) q t λa y z B f=>?_;refine h _ a ⟨y,z,Run.app.mpr ⟨d,F.congr λm _ G=>f m (.inl G),U,by show 1<=j+k;lia,?_,?_⟩,H⟩ (by rw [e];simp;exact Eq.refl (L.length+(T.length+1)+1))
  (λm v=>f m (.inr (by lia)))
 ·show eH _ d (d+(j+k));rw [<-Aj];exact B
 ·show Run _ (d+(j+k)) T c;rw [<-Aj];exact g.congr λm v _=>f m (.inr v)
theorem ZE {Q:Unit->SortSt->Prop} (B:∀p,p∈a₀.toList->dS p) (T:Bs a₀ st) (hp:pendingOf st= #[]) (h2:2<=a₀.size)
 (h:∀e,(arrOf e).Perm a₀->failedOf e=none->eH (arrOf e) 0 a₀.size->Q () e):wpS (model prog w) A E s sortRuns' Q st:=by
 refine aV (oO ?_);have QF:=T.size;refine aV (j_ (xV
  (I:=λx c e=>∃a g,c=(none,a)/\Pd a₀ a g e/\(x<=a\/a=a₀.size))
  (Q:=λc e=>∃g,c=(none,a₀.size)/\Pd a₀ a₀.size g e) ?big ?vn ⟨0,[],U,⟨T,hp,U,dV _⟩,.inl (ar _)⟩) ?after)
 case vn=>
  rintro c e ⟨a,g,rfl,k,hx⟩;have:=k.top
  change (arrOf st).size<=a\/a=a₀.size at hx
  obtain rfl:a=a₀.size:=by lia
  exact ⟨g,U,k⟩
 case big=>
  rintro x c e _ ⟨a,g,rfl,k,hxx⟩;refine (λ(H:wpS (model prog w) A E s (ite (a>=(arrOf st).size) _ _) _ e)=>H) ?_
  by_cases R:a>=(arrOf st).size
  ·rw [if_pos R];have:=k.top;obtain rfl:a=a₀.size:=by lia
   exact aS ⟨g,U,k⟩
  rw [if_neg R];refine aV (UE B k.base (by show a+((arrOf st).size-a)<=_;lia) (by show 1<=(arrOf st).size-a;lia) λm eW m1 z v N=>?_)
  change m<=(arrOf st).size-a at z
  change Go a₀ a e eW at v
  change eH (arrOf eW) a (a+m) at N
  have C:Pd a₀ a g eW:=⟨v.base,v.pend.trans k.pend,k.run.congr λm _ z=>v.low m z,k.top⟩;refine (λ(H:wpS (model prog w) A E s _ _ eW)=>H) ?_;dsimp-zeta only
  extract_lets-underBinder+onlyGivenNames n0 jp
  have W:∀(u:Unit) n lG,1<=n->a+n<=a₀.size->Pd a₀ a g lG->eH (arrOf lG) a (a+n)->
   wpS (model prog w) A E s (jp u n) (SQ (λc e=>∃g,c=(none,a₀.size)/\Pd a₀ a₀.size g e)
    (λc e=>∃a g,c=(none,a)/\Pd a₀ a g e/\(x+1<=a\/a=a₀.size))) lG:=by
   intro u n lG n1 n2 V F;refine aV (oO ?_)
   extract_lets-underBinder+onlyGivenNames uZ
   have X:∀(u:Unit) cw b,Pd a₀ a b cw->eH (arrOf cw) a (a+n)->
    wpS (model prog w) A E s (uZ u) (SQ (λc e=>∃g,c=(none,a₀.size)/\Pd a₀ a₀.size g e)
     (λc e=>∃a g,c=(none,a)/\Pd a₀ a g e/\(x+1<=a\/a=a₀.size))) cw:=by
    intro u cw b d q;refine aV (z_ (aS ⟨a+n,b++[(a,n,0)],U,⟨⟨d.base.perm,d.base.kind,d.base.fail⟩,?_,?_,n2⟩,by lia⟩))
    ·show (pendingOf cw).push (a,n,0)=_;rw [d.pend];simp
    ·exact Run.app.mpr ⟨a,d.run,U,n1,q,U⟩
   cases hb:(pendingOf lG).back? with
   | none=>
    exact X () lG g V F
   | some r=>
    obtain ⟨t,o,p1⟩:=r;refine aV (j_ (xV
     (I:=λ_ c cw=>c=(none,())/\∃b,Pd a₀ a b cw/\eH (arrOf cw) a (a+n))
     (Q:=λc cw=>c=(none,())/\∃b,Pd a₀ a b cw/\eH (arrOf cw) a (a+n)) ?_ (λc cw hh=>hh) ⟨U,g,V,F⟩) ?_)
    ·rintro x' c cw _ ⟨rfl,b,d,q⟩;refine aV (oO ?_);have Z:(pendingOf cw).size=b.length:=by rw [d.pend];simp
     dsimp only
     by_cases l:(pendingOf cw).size>1
     ·rw [if_pos l]
      cases hq:(pendingOf cw)[(pendingOf cw).size-2]? with
      | none=>exact aS ⟨U,b,d,q⟩
      | some r=>
       obtain ⟨x1,x2,Qj⟩:=r;dsimp only;split
       ·exact aS ⟨U,b,d,q⟩
       ·refine aV (LA B d (by show (pendingOf cw).size-2+1<_;lia) λO B' J _ Y=>?_);refine aS ⟨U,O,J,λi j y G i3=>?_⟩;rw [Y i y,Y j (qz y G)];exact q i j y G i3
     ·rw [if_neg l];exact aS ⟨U,b,d,q⟩
    ·rintro c cw ⟨rfl,b,d,q⟩;refine aV (z_ (X () _ (b.modify (b.length-1) λr=>(r.1,r.2.1,power' (arrOf st).size (2*t+o) (2*t+o+o+n) (arrOf st).size)) ⟨⟨d.base.perm,d.base.kind,d.base.fail⟩,?_,?_,d.top⟩ q))
     ·refine (λ(H:(pendingOf cw).modify ((pendingOf cw).size-1) (λr=>(r.1,r.2.1,power' (arrOf st).size (2*t+o) (2*t+o+o+n) (arrOf st).size))=_)=>H) ?_;rw [d.pend];apply Array.toList_inj.mp;simp
     ·exact d.run.same (OG (f:=λr=>(r.1,r.2.1,power' (arrOf st).size (2*t+o) (2*t+o+o+n) (arrOf st).size)) (λ_=>rfl) _ _).symm
  by_cases l:m<minRun' (arrOf st).size (arrOf st).size 0
  ·refine tV (c:=m<minRun' (arrOf st).size (arrOf st).size 0) l ?_;refine aV (tE (pO ⟨U,?_⟩));refine aV (ZD B v.base (n:=min ((arrOf st).size-a) (minRun' (arrOf st).size (arrOf st).size 0)) (by lia) m1 (by omega) N λlG L F=>?_);exact W () (min ((arrOf st).size-a) (minRun' (arrOf st).size (arrOf st).size 0)) lG (by omega) (by lia) ⟨L.base,L.pend.trans C.pend,C.run.congr λm _ z=>L.low m z,C.top⟩ F
  ·refine tR (c:=m<minRun' (arrOf st).size (arrOf st).size 0) l ?_;exact W () m eW m1 (by lia) C N
 case after=>
  rintro c e ⟨g,rfl,k⟩;refine (λ(H:wpS (model prog w) A E s _ Q e)=>H) ?_;dsimp only;have hlen:=k.run.le;refine aV (j_ (xV
   (I:=λx c cw=>c=(none,())/\∃b,Pd a₀ a₀.size b cw/\(b.length+x<=a₀.size\/b.length<=1))
   (Q:=λc cw=>c=(none,())/\∃b,Pd a₀ a₀.size b cw/\b.length<=1) ?_ ?_ ⟨U,g,k,.inl (by lia)⟩) ?_)
  ·rintro x' c cw _ ⟨rfl,b,d,D⟩;refine aV (oO ?_);have Z:(pendingOf cw).size=b.length:=by rw [d.pend];simp
   by_cases l:(pendingOf cw).size<=1
   ·rw [if_pos l];exact aS ⟨U,b,d,yi Z l⟩
   rw [if_neg l];refine aV (LA B d ?_ λO B' J hl5 _=>aS ⟨U,O,J,by lia⟩);have key:∀j,j<=(pendingOf cw).size-2->j+1<b.length:=by lia
   refine key _ ?_
   repeat' split
   all_goals first
    | exact ar _
    | exact ZGo _ _
  ·rintro c cw ⟨rfl,b,d,D⟩
   change b.length+(arrOf st).size<=a₀.size\/b.length<=1 at D
   exact ⟨U,b,d,by lia⟩
  ·rintro c cw ⟨rfl,b,d,D⟩;refine aS (h cw d.base.perm d.base.fail ?_);have M:=d.run
   match b,D,M with
   | [],_,M=>unfold Run at M;lia
   | [r],_,⟨_,_,e1,S⟩=>
    unfold Run at S;intro i j i0 y G;exact e1 i j i0 y (ym G S)
end
section
variable [DecidableEq k] {knd:KeyKind prog w k}
theorem Wg (X:A.handled=none) (T:(d==sysModules)=false) (u:s.heap.DictAt knd d kvs ep) (Z:kvs.length<=sizeLine)
 (G:∀s' g,(∀b o,s.heap.get? b=some o->s'.heap.get? b=some o)->s'.gens=s.gens->s'.drawn=s.drawn->s'.os=s.os->s.toks<=s'.toks->
  ItemsOf (λi v=>∃C x,kvs[i]?=some (C,x)/\knd.is C v=true) g kvs.length->Q g.toList s'):wpAny (model prog w) A (collect (.ref d)) Q E s:=by
 let L:Obj:={ cls:=.type "list",data:=.seq ([]:List Value).toArray }
 have t:=u.lt_size;have h:s.heap.objs.size≠d:=tD t;unfold collect;refine ae (wpAny_runValue (JM F.entry_proto_collect ?_));rw [Around.under_plainId F.plain_proto_collect _];refine (show wpAny _ A.in1 (newList []>>=λx1=>again (.builtin "list.__iadd__" ⟨[x1,.ref d],[]⟩)) _ _ s from ae (pU (aI ⟨plainId_quiet F.plain_list_iadd _,JM F.entry_list_iadd ?_⟩)));rw [Around.under_plainId F.plain_list_iadd _];have m:(s.heap.push L).DictAt knd d kvs ep:=u.push _;have O:({ s with heap:=s.heap.push L }:Shared).TypeIs (.ref d) "dict":=m.dictOf.typeIs (s:={ s with heap:=s.heap.push L });have J:(s.heap.push L).get? s.heap.objs.size=some L:=jh _ U;refine (show wpAny _ A.in1 (Builtin.List.listExtendWith (.ref s.heap.objs.size) (.ref d) (.ref s.heap.objs.size)) _ _ { s with heap:=s.heap.push L } from ?_);unfold Builtin.List.listExtendWith;refine ae (C7 O ?_);rw [if_neg (by rw [show Builtin.List.listSameRef (.ref s.heap.objs.size) (.ref d)=false by simp [Builtin.List.listSameRef,h]];decide)];refine ae (wpAny_pyIter_dict T m (ae (lS ?_)));unfold Builtin.List.listLengthHint
 let I:Addr:=(s.heap.push L).objs.size
 let a:Heap:=(s.heap.push L).push { cls:=.type "dict_keyiterator",data:=.fields #[.ref d,.int 0 0,.int kvs.length 0,.int ep 0] }
 have y:a.DictAt knd d kvs ep:=m.push _;have j:({ s with heap:=a }:Shared).TypeIs (.ref d) "dict":=y.dictOf.typeIs (s:={ s with heap:=a });refine ae (wpAny_specialOf (name:=Str.ofString "__len__") j F.slot_dict_len.lookup ?_);generalize l:("dict.__len__":String)=B
 (fail_if_success (clear l B))
 wp_delta
 rw [show splitId B=some ("dict","__len__") from by subst l;decide+kernel];subst l;refine ae (wpAny_isInstance (b:=true) j (by rw [isSubtype_type];kernel_rfl) ?_);rw [if_neg (by decide)];refine (λ(H:wpAny (model prog w) A.in1 (ite _ _ _) _ _ _)=>H) ?_;rw [if_pos (by decide+kernel)];refine ae (C7 j (aI ?_));rw [if_pos (by decide+kernel)]
 let S:Addr:=s.heap.objs.size
 have r:S≠I:=fy (show s.heap.objs.size<(s.heap.push L).objs.size by rw [Cy];exact Ad _);have V:d≠I:=fy (show d<(s.heap.push L).objs.size by rw [Cy];exact Ae t);have p:a.get? S=some L:=cL _ J;have q:=pT (Obj.mapSeq (·.push Value.none)) p U;have N:=pT (Obj.mapSeq (·.pop)) q U;have n:∀b o,b≠S->a.get? b=some o->((a.update S (Obj.mapSeq (·.push Value.none))).update S (Obj.mapSeq (·.pop))).get? b=some o:=
  λb o c e=>(jg _ _ (a6 c)).trans ((jg _ _ (a6 c)).trans e)
 have W:=(Walks.dictKeys (knd:=knd) (prog:=prog) (w:=w) (A:=A.in1) X I d V kvs ep).toS;have Y:a.IsKeyIter I d 0 kvs.length ep:=⟨_,jh _ U,U,U⟩;refine ae (pO (ae (show wpAny _ A.in1 (updateSeq S (·.push .none)>>=λ_=>updateSeq S (·.pop)) _ _ { s with heap:=a } from ae (wpAny_updateSeq (s:={ s with heap:=a }) p U (wpAny_updateSeq (s:={ s with heap:=a.update S (Obj.mapSeq (·.push Value.none)) }) q U ?_)))));refine aI ⟨plainId_quiet F.plain_extend_loop _,codeAny_extend_loopS W Z S (λz=>(eR.mp z).elim r λz=>h (g_.mp z)) _ kvs.length 0 _ _ _ U (dV _)
  ⟨Y.at λo e=>n _ _ (a6 r) e,y.at' λo e=>n _ _ (a6 h) e⟩ N (ItemsOf.nil _) λs' g x2 f M R=>?_⟩
 refine (show wpAny _ A (load S>>=_) _ _ s' from ae (wpAny_load M (aI (G s' g (λb o e=>?_) f.gens f.drawn f.os f.toks R))));have c:b<s.heap.objs.size:=cV e;refine f.heap b o (λz=>?_) (n b o (fy c) (cL _ (cL _ e)));rcases eR.mp z with z | z
 ·exact fy c z
 ·have z:=g_.mp z;have D:I=s.heap.objs.size+1:=Cy _ _;exact ji _ (gZ c (by rw [z,D];exact kg _))
end
theorem Mu (vs:List Value):(vs.toArray.zip vs.toArray).toList=vs.map λv=>(v,v):=by
 rw [Array.toList_zip];show vs.zip vs=_
 induction vs with
 | nil=>rfl
 | cons v r a=>simp [a]
section
variable [SK]
theorem Y3 (f:X.Perm (vs.toArray.zip vs.toArray)) (l:eH X 0 (vs.toArray.zip vs.toArray).size):
 (X.map (·.2)).toList.Perm vs/\(X.map (·.2)).toList.Pairwise λu v=>N (u,u)<=N (v,v):=by
 have a:=Array.perm_iff_toList_perm.mp f;rw [Mu] at a;have m:X.size=(vs.toArray.zip vs.toArray).size:=f.size_eq;have b:∀p∈X.toList,p=(p.2,p.2):=λp k=>by obtain ⟨v,_,rfl⟩:=eQ.mp (a.mem_iff.mp k);rfl
 rw [Array.toList_map];refine ⟨by simpa [List.map_map,Function.comp_def] using a.map (·.2),?_⟩;rw [oQ,Ax];intro i j c d h;have g:i<X.size:=by simpa using c
 have e:j<X.size:=by simpa using d
 have:=l i j (dV _) (aR h) (m▸e);rw [qh (oP X i g),qh (oP X j e)] at this;rw [<-b _ (vv c),<-b _ (vv d)];exact this
theorem Wq {P:PySem.Fin->Shared->Prop} (m:s.heap.get? a=some (seqObj "list" vs.toArray n)) (r:vs.length<=sizeLine)
 (J:2<=vs.length->∀(h':Heap) (Q:SortKind->Shared->Prop),(∀b o,b≠a->s.heap.get? b=some o->h'.get? b=some o)->Q SK.kind { s with heap:=h' }->
  wpAny (model prog w) A (keyKind' vs.toArray) Q E { s with heap:=h' })
 (L:∀h':Heap,(∀b o,b≠a->s.heap.get? b=some o->h'.get? b=some o)->f_ prog w A E { s with heap:=h' })
 (M:∀v∈vs,dS (v,v))
 (h:∀t:Array Value,t.toList.Perm vs->(t.toList.Pairwise λu v=>N (u,u)<=N (v,v))->P (.done (.ret .none)) { s with heap:=sortedHeap s.heap a vs t }):
 wpAny (model prog w) A (Builtin.«list.sort» ⟨[.ref a],[]⟩) P E s:=by
 rw [list_sort_plain];obtain ⟨g,y⟩:∃g,(s.heap.update a (Obj.mapSeq λ_=> #[])).get? a=some (seqObj "list" #[] g):=⟨_,get?_update_seq m (λ_=> #[])⟩
 let d:Heap:=((s.heap.update a (Obj.mapSeq λ_=> #[])).push (seqObj "tuple" vs.toArray 0)).push (seqObj "list" #[] 0)
 have B:∀b o,b≠a->s.heap.get? b=some o->d.get? b=some o:=λb o H e=>
  cL _ (cL _ ((jg _ _ (a6 H)).trans e))
 have z:d.get? a=some (seqObj "list" #[] g):=cL _ (cL _ y);have O:vs.toArray.size=vs.length:=by simp
 refine ae (listItems_at m U (ae (listUpdate_at m U (ae (seqEpoch_at y U (ae (wpAny_newTuple (ae (wpAny_newList (lS ?_) (dV _))) r)))) (by rw [O];exact r) (dV _))));have x:∀c:SortSt,(arrOf c).Perm (vs.toArray.zip vs.toArray)->failedOf c=none->eH (arrOf c) 0 (vs.toArray.zip vs.toArray).size->
  wpAny (model prog w) A (do
   let T:=(<-seqEpoch a) !=g
   Builtin.List.listUpdate (.ref a) λ_=>(arrOf c).map (·.2)
   if let some e:=failedOf c then rule "list.sort.comparison-raised";throw e
   if T then rule "list.sort.modified";raiseError "ValueError" "list modified during sort"
   ret .none) P E { s with heap:=d }:=by
  intro c f l q;obtain ⟨C,S⟩:=Y3 f q;refine ae (seqEpoch_at z U (ae (listUpdate_at z U ?_ (dV _) ?_)))
  ·rw [l];simp only [bne_self_eq_false,Bool.false_eq_true,if_false];exact aI (h _ C S)
  ·have:=C.length_eq;rw [oS] at this;exact Nat.le_succ_of_le (this▸r)
 refine (show wpAny (model prog w) A _ P E { s with heap:=d } from ?_)
 by_cases k:vs.toArray.size<2
 ·dsimp only;rw [if_pos k,if_pos k];refine ae (aI ?_);rw [StateT.run_pure];refine ae (aI (x (SortSt.mk' general' (vs.toArray.zip vs.toArray) #[] 7 none) (Array.Perm.refl _) U ?_));intro i j _ V I;obtain rfl:i=j:=by simp at I;lia
  exact jn _
 ·dsimp only;rw [if_neg k,if_neg k];refine ae (J (by lia) d _ B ?_);have:=L d B;refine ae (gY (ZE (s:={ s with heap:=d }) (a₀:=vs.toArray.zip vs.toArray) (st:=SortSt.mk' SK.kind (vs.toArray.zip vs.toArray) #[] 7 none)
   (Q:=λ_ c=>(arrOf c).Perm (vs.toArray.zip vs.toArray)/\failedOf c=none/\eH (arrOf c) 0 (vs.toArray.zip vs.toArray).size)
   (λp f=>?_) ⟨Array.Perm.refl _,U,U⟩ U (by simp;lia) λc D F G=>⟨D,F,G⟩) ?_ λ_ _ e=>e)
  ·rw [Mu] at f;obtain ⟨v,R,rfl⟩:=eQ.mp f;exact M v R
  ·rintro ⟨⟨⟩,c⟩ W ⟨rfl,f,l,q⟩;exact x c f l q
end
section
theorem NS {x:Value} {Q:Value->Shared->Prop} {R:Shared->List Value->Prop}
 (b:wpAny (model prog w) A.in1 (collect x) (λvs s1=>R s1 vs) E s)
 (h:∀s1 vs,R s1 vs->wpAny (model prog w) A.in1 (newList vs>>=λl=>holding [l] (call (.builtin "list.sort") [l])>>=λ_=>ret l) (λa s'=>∃r,a=.done (.ret r)/\Q r s') E s1):
 wpAny (model prog w) A (call (.builtin "sorted") [x]) Q E s:=by
 refine Calls.call_function_entry kind_sorted plain_sorted entry_sorted (args_sorted1 _) ?_;unfold Builtin.«sorted»;refine ae (m:=checkCount "sorted" 1 1 _) (aI ?_);refine ae (gY b (λvs s1 c=>h s1 vs c) λ_ _ e=>e)
end
@[reducible] noncomputable def yK:SK:=⟨λp=>numOf p.1,λp=>∃n t,p.1=.int n t,oneType'⟩
theorem ltI: @f_ yK prog w A E s:=by
 refine @f_.mk yK prog w A E s ?_;rintro f p q Q e ⟨n,t,a⟩ ⟨n',g,b⟩ h;have c: @N yK p=n:=by show numOf p.1=n;rw [a];rfl
 have d: @N yK q=n':=by show numOf q.1=n';rw [b];rfl
 rw [c,d] at h;rw [lt'_eq,a,b];refine aV (oO ?_);rw [show kindOf f=oneType' from e,keyLt'_oneType];exact aV (tE (tF (oneLt_int ⟨U,aS h⟩)))
theorem XT (a:IntsAre vs ns) (b:2<=vs.length) (h:Q oneType' s):wpAny (model prog w) A (keyKind' vs.toArray) Q E s:=by
 match vs,b,a with
 | C::c::r,_,a=>rw [keyKind_ints a];exact aI h
section
variable [sk:SK]
theorem Mi {vs:List Value} {Q:Value->Shared->Prop} (i:vs.length<=sizeLine)
 (n:2<=vs.length->∀(A:Around) (E:Value->Shared->Prop) (h':Heap) (Q:SortKind->Shared->Prop),(∀b o,s.heap.get? b=some o->h'.get? b=some o)->Q SK.kind { s with heap:=h' }->
  wpAny (model prog w) A (keyKind' vs.toArray) Q E { s with heap:=h' })
 (p:∀(A:Around) (E:Value->Shared->Prop) (h':Heap),(∀b o,s.heap.get? b=some o->h'.get? b=some o)->f_ prog w A E { s with heap:=h' })
 (q:∀v∈vs,dS (v,v))
 (h:∀(c:Array Value) (h':Heap),c.toList.Perm vs->(c.toList.Pairwise λu v=>N (u,u)<=N (v,v))->(∀b o,s.heap.get? b=some o->h'.get? b=some o)->
  (∃e,h'.get? s.heap.objs.size=some (seqObj "list" c e))->Q (.ref s.heap.objs.size) { s with heap:=h' }):
 wpAny (model prog w) A (newList vs>>=λl=>holding [l] (call (.builtin "list.sort") [l])>>=λ_=>ret l) (λk s'=>∃r,k=.done (.ret r)/\Q r s') E s:=by
 let d:Heap:=s.heap.push (seqObj "list" vs.toArray 0)
 have f:d.get? s.heap.objs.size=some (seqObj "list" vs.toArray 0):=jh _ U;have j:∀(h':Heap),(∀b o,b≠s.heap.objs.size->d.get? b=some o->h'.get? b=some o)->∀b o,s.heap.get? b=some o->h'.get? b=some o:=λh' a b o e=>
  a b o (fy (cV e)) (cL _ e)
 refine ae (wpAny_newList ?_ i);refine ae (lS (tI (s:={ s with heap:=d }) slot_list_sort ⟨_,f,U⟩ entry_list_sort (Wq f i (λm h' Q a t=>n m _ _ h' Q (j h' a) t) (λh' a=>p _ _ h' (j h' a)) q λc x y=>⟨_,U,?_⟩) (args_list_sort _)));refine aI ⟨_,U,h c _ x y (λb o e=>?_) (sortedHeap_at f)⟩;have g:b<s.heap.objs.size:=cV e;rw [sortedHeap_old (fy g) (show b<d.objs.size by show b<(s.heap.push _).objs.size;rw [Cy];exact Ae g)];exact cL _ e
end
end TS
namespace L2
open PySem PySem.Spec PyProof.Rows TS
theorem LV:∀{us:List Value} {ns:List Int},us.length=ns.length->(∀(j:Nat) v i,us[j]?=some v->ns[j]?=some i->∃t,v=.int i t)->IntsAre us ns
 | [],[],_,_=>.nil
 | u::us,n::ns,a,h=>by obtain ⟨t,rfl⟩:=h 0 u n U U;exact .cons _ _ (LV (by simpa using a) λj v i b c=>h (j+1) v i (by simpa using b) (by simpa using c))
 | [],_::_,a,_=>by simp at a
 | _::_,[],a,_=>by simp at a
theorem Bw (h:IntsAre us ns):us.map numOf=ns/\∀u∈us,∃n t,u=.int n t:=by
 induction h with
 | nil=>exact ⟨U,λ_ h=>nomatch h⟩
 | cons n t h d=>
  obtain ⟨a,b⟩:=d;refine ⟨by rw [eG,a];rfl,λu c=>?_⟩;rcases eR.mp c with rfl | c
  ·exact ⟨n,t,U⟩
  ·exact b u c
theorem NG:∀{us:List Value},(∀u∈us,∃n t,u=.int n t)->aX ((us.map numOf).map V.int) us
 | [],_=>.nil
 | u::us,h=>by obtain ⟨n,t,rfl⟩:=h u fh;exact .cons ⟨t,U⟩ (NG λv a=>h v (gI _ a))
theorem Inv.at_ (I:Inv X pins σ H s) (k:∀b o,s.heap.get? b=some o->s1.heap.get? b=some o) (c:s1.gens=s.gens) (a:s1.drawn=s.drawn) (d:s1.os=s.os):Inv X pins σ H s1:=by
 have e:s1={ s with heap:=s1.heap,toks:=s1.toks }:=by obtain ⟨h,g,f,j,i⟩:=s1;cases c;cases a;cases d;rfl
 rw [e];exact I.kept (t':=s1.toks) k
section
theorem We (hc:X.calm=true):nv X (.builtin "sorted") (λxs H Q=>∃(p:Addr) (kvs:List (Key×V)) (ns:List Int),xs=[.ref p]/\H p=some (.dK kvs)/\kvs.map (·.1)=ns.map Sum.inl/\
 ∀(l:Addr) (y:List Int),H l=none->y.Perm ns->y.Pairwise (·<=·)->Q (.ref l) (upd H l (.lst (y.map V.int)))):=by
 intro pins s σ H xs f Q I x2 h;obtain ⟨p,kvs,ns,rfl,hp,F,x1⟩:=h;obtain ⟨u,rfl,ru⟩:=tQ x2;cases ru;obtain ⟨L,hs,vs,m,Z⟩:=(show cZ X.prog X.w H s.heap p (.dK kvs) from I.a4 p _ hp);obtain ⟨ep,pJ⟩:=Z.dictAt;have hlv:kvs.length=vs.length:=kd m;have QN:kvs.length=ns.length:=by have:=congrArg List.length F;simpa using this
 refine NS (R:=λa f=>Inv X pins σ H a/\(∀b o,s.heap.get? b=some o->a.heap.get? b=some o)/\IntsAre f ns) (Wg (I.ok.hd hc) hs pJ (yi hlv L) λa acc k hg hd ho _ D=>?_) ?_
 ·refine ⟨I.at_ k hg hd ho,k,LV (by rw [oS,D.1];lia) λj v i N O=>?_⟩;obtain ⟨key,x3,T,W⟩:=D.2 j v (by simpa using N);have d:(kvs.map (·.1))[j]?=some (Sum.inl i):=by rw [F,cW,O];rfl
  rw [cW] at d
  cases C:kvs[j]? with
  | none=>rw [C] at d;cases d
  | some kv=>
   rw [C] at d;obtain ⟨x4,J,B,_⟩:=Ni m C;rw [T] at J;cases J;have e:kv.1=Sum.inl i:=ff d;rw [e] at B;subst B;rcases pF (show tT (Sum.inl i) v=true from W) with ⟨i',t,r,rfl⟩ | ⟨x',t,r,rfl⟩
   ·cases r;exact ⟨t,U⟩
   ·cases r
 ·rintro a f ⟨z,_,c⟩;have QA:f.length=ns.length:=by rw [<-(Bw c).1];simp
  refine Mi (sk:=yK) (s:=a) (vs:=f) (by lia) (λY A E g Q _ hq=>XT (s:={ a with heap:=g }) c Y hq) (λA E g _=>ltI) (λv m=>?_) λq g M o2 k2 x=>?_
  ·obtain ⟨n,t,e⟩:=(Bw c).2 v m;exact ⟨n,t,e⟩
  ·obtain ⟨e,x⟩:=x;have dE:∀u∈q.toList,∃n t,u=Value.int n t:=λu hu=>(Bw c).2 u (M.mem_iff.mp hu);have S:H a.heap.objs.size=none:=z.a4.fresh (ar _);have G:(q.toList.map numOf).Perm ns:=by rw [<-(Bw c).1];exact M.map numOf
   refine ⟨.ref a.heap.objs.size,_,z.laid (t':=a.toks) k2 (ar _) (show cZ X.prog X.w _ g _ (.lst ((q.toList.map numOf).map V.int)) from ⟨?_,q.toList,e,NG dE,by rw [x]⟩),U,x1 _ _ S G ?_⟩
   ·rw [ak,G.length_eq];exact yi QN L
   ·rw [oQ];exact o2
end
def mS (a b m:Int):HO:=.tup [.int a,.int b,.int m]
def wU (H:Hp):Value->Int
 | .ref q=>match H q with
  | some (.tup [.int a,.int b,_])=>a*64+b
  | _=>0
 | _=>0
@[reducible] noncomputable def sQ (H:Hp) (g:Int->Int->Int):SK:=
 ⟨λp=>wU H p.1,λp=>∃q a b,p.1=.ref q/\H q=some (mS a b (g a b))/\0<=a/\a<64/\0<=b/\b<64,tuples' true⟩
theorem AX (h:H q=some (mS a b m)):wU H (.ref q)=a*64+b:=by show (match H q with | some (.tup [.int a,.int b,_])=>a*64+b | _=>0)=_;rw [h];rfl
section
def u0 (H:Hp) (h:Heap):Prop:=∀q a b m,H q=some (mS a b m)->∃c d e o n,h.get? q=some o/\o.cls=.type "tuple"/\o.data=.seq #[.int a c,.int b d,.int m e] n
theorem u0.keep (x:u0 H h) (k:∀b o,h.get? b=some o->h'.get? b=some o):u0 H h':=λq a b m e=>by obtain ⟨f,g,i,o,n,c,d⟩:=x q a b m e;exact ⟨f,g,i,o,n,k _ _ c,d⟩
theorem Z8 (ok:dJ P w H h):u0 H h:=λq a b m e=>by obtain ⟨_,l,c,o,d,f,n,g⟩:=(show cZ P w H h q (mS a b m) from ok q _ e);rcases c with _ | ⟨⟨i,rfl⟩,c⟩;rcases c with _ | ⟨⟨j,rfl⟩,c⟩;rcases c with _ | ⟨⟨k,rfl⟩,c⟩;cases c;exact ⟨i,j,k,o,n,d,f,g⟩
theorem ù (j:u0 H s.heap): @f_ (sQ H g) prog w A E s:=by
 refine @f_.mk (sQ H g) prog w A E s ?_;rintro C p q Q t ⟨x,a,b,f,k,_,_,R,T⟩ ⟨y,a',b',i,l,M,O,S,V⟩ h;have m: @N (sQ H g) p=a*64+b:=by show wU H p.1=_;rw [f,AX k]
 have o: @N (sQ H g) q=a'*64+b':=by show wU H q.1=_;rw [i,AX l]
 rw [m,o] at h;obtain ⟨D,F,G,X,n,u,_,v⟩:=j x _ _ _ k;obtain ⟨I,J,L,Y,W,z,_,B⟩:=j y _ _ _ l;rw [lt'_eq,f,i];refine aV (oO ?_);rw [show kindOf C=tuples' true from t];refine aV (tE (tF (PySem.W.kat_lt u v z B ?_)));show PySem.W.KatLex prog w A true (decide (3<3)) _ [(.int a D,.int a' I),(.int b F,.int b' J),(.int (g a b) G,.int (g a' b') L)] 0 s;refine PySem.W.kat_cons (CP (PySem.W.kat_go (λe=>PySem.W.kat_yes ?_) λe=>PySem.W.kat_no ?_))
 ·have d:a=a':=by simpa using e
  subst d;refine PySem.W.kat_cons (CP (PySem.W.kat_go (λe=>PySem.W.kat_yes ?_) λe=>PySem.W.kat_no ?_))
  ·have r:b=b':=by simpa using e
   subst r;refine PySem.W.kat_cons (CP (PySem.W.kat_go (λ_=>PySem.W.kat_yes (PySem.W.kat_nil ⟨U,aS ?_⟩)) λe=>absurd e (by simp)));have:decide (a*64+b<a*64+b)=decide (3<3):=by simp
   rw [<-this];exact h
  ·have:decide (a*64+b<a*64+b')=decide (b<b'):=by
    by_cases c:b<b'
    ·rw [jr c,jr (by lia)]
    ·rw [fz c,fz (by lia)]
   rw [this] at h;exact PySem.W.kat_one _ _ (lt_int (show _ from ⟨U,aS h⟩))
 ·have d:a≠a':=by simpa using e
  have:decide (a*64+b<a'*64+b')=decide (a<a'):=by
   by_cases c:a<a'
   ·rw [jr c,jr (by lia)]
   ·rw [fz c,fz (by lia)]
  rw [this] at h;exact oneLt_int ⟨U,aS h⟩
theorem XU (C:u0 H s.heap) {vs:List Value} {Q:SortKind->Shared->Prop} (d:∀v∈vs,@dS (sQ H g) (v,v)) (G:2<=vs.length) (h:Q (tuples' true) s):wpAny (model prog w) A (keyKind' vs.toArray) Q E s:=by
 have F:∀l:List Value,(∀v∈l,@dS (sQ H g) (v,v))->∃c,PySem.W.KatTups s.heap l c/\c.length=l.length/\∀f∈c,∃n t,f=Value.int n t:=by
  intro l
  induction l with
  | nil=>exact λ_=>⟨[],PySem.W.KatTups.nil,U,λ_ h=>nomatch h⟩
  | cons v r D=>
   intro m;obtain ⟨c,j,p,k⟩:=D λv d=>m v (gI _ d);obtain ⟨q,a,b,e,B,_⟩:=m v fh;obtain rfl:v=.ref q:=e;obtain ⟨u,I,J,o,n,x,y,z⟩:=C q _ _ _ B;refine ⟨.int a u::c,PySem.W.KatTups.cons x y z U j,by simp [p],λf i=>?_⟩;rcases eR.mp i with rfl | i
   ·exact ⟨a,u,U⟩
   ·exact k f i
 obtain ⟨c,j,p,k⟩:=F vs d;exact PySem.W.kat_kind (T:=.type "int") j (by lia) (λv d=>by obtain ⟨n,t,rfl⟩:=k v d;exact PySem.W.Looks.of_pure U) (by decide) h
end
section
theorem Zu {a:List Addr} {us:List Value} (h:aX (a.map V.ref) us):us=a.map Value.ref:=by
 induction a generalizing us with
 | nil=>cases h;rfl
 | cons p a b=>
  cases h with
  | cons r t=>
   cases r;rw [eG,b t]
theorem NH:∀(a:List Addr),aX (a.map V.ref) (a.map Value.ref)
 | []=>.nil
 | p::a=>.cons U (NH a)
theorem Wf:nv X (.builtin "sorted") (λxs H Q=>∃(p:Addr) (ps:List Addr) (g:Int->Int->Int),xs=[.ref p]/\H p=some (.lst (ps.map V.ref))/\
 (∀q∈ps,∃a b,H q=some (mS a b (g a b))/\0<=a/\a<64/\0<=b/\b<64)/\
 ∀(l:Addr) (c:List Addr),H l=none->c.Perm ps->(c.Pairwise λx y=>wU H (.ref x)<=wU H (.ref y))->Q (.ref l) (upd H l (.lst (c.map V.ref)))):=by
 intro pins s σ H xs u Q I r h;obtain ⟨p,ps,g,rfl,S,T,q⟩:=h;obtain ⟨x3,rfl,ru⟩:=tQ r;cases ru;obtain ⟨i,its,x1,rv,J⟩:=(show cZ X.prog X.w H s.heap p (.lst (ps.map V.ref)) from I.a4 p _ S);rw [ak] at i;obtain rfl:=Zu rv;refine NS (R:=λs1 u=>Inv X pins σ H s1/\u=ps.map Value.ref) (collect_list (vs:=ps.map Value.ref) ⟨_,J,U,x1,U⟩ ⟨I.at_ (s1:={ s with heap:=_ }) (λb x2 e=>?_) U U U,U⟩ (by simpa using i)) ?_
 ·have O:b<s.heap.objs.size:=cV e;rw [Heap.get?_update_ne _ _ _ _ (fy O)];exact cL _ e
 ·rintro s1 u ⟨j,rfl⟩;have F:u0 H s1.heap:=Z8 j.a4;have B:∀v∈ps.map Value.ref,@dS (sQ H g) (v,v):=λv f=>by
   obtain ⟨x,Y,rfl⟩:=eQ.mp f;obtain ⟨a,b,N,k⟩:=T x Y;exact ⟨x,a,b,U,N,k⟩
  refine Mi (sk:=sQ H g) (s:=s1) (by simpa using i) (λk A E d Q n W=>XU (s:={ s1 with heap:=d }) (F.keep n) B k W) (λA E d n=>ù (s:={ s1 with heap:=d }) (F.keep n)) B λG d o t k2 m=>?_;obtain ⟨e,m⟩:=m;obtain ⟨c,D⟩:∃c:List Addr,G.toList=c.map Value.ref:=by
   have:∀l:List Value,(∀v∈l,v∈ps.map Value.ref)->∃c:List Addr,l=c.map Value.ref:=by
    intro l
    induction l with
    | nil=>exact λ_=>⟨[],U⟩
    | cons v r Z=>
     intro z;obtain ⟨c,e⟩:=Z λv f=>z v (gI _ f);obtain ⟨x,_,L⟩:=eQ.mp (z v fh);exact ⟨x::c,by rw [eG,e,L]⟩
   exact this _ λv f=>o.mem_iff.mp f
  rw [D] at o t;have rz:Function.Injective Value.ref:=λa b e=>by cases e;rfl
  have C:c.Perm ps:=by have:=o.map (λv:Value=>match v with | .ref a=>a | _=>0);simpa [List.map_map,Function.comp_def] using this
  have M:H s1.heap.objs.size=none:=j.a4.fresh (ar _);refine ⟨.ref s1.heap.objs.size,_,j.laid (t':=s1.toks) k2 (ar _) (show cZ X.prog X.w _ d _ (.lst (c.map V.ref)) from ⟨?_,G.toList,e,by rw [D];exact NH c,by rw [m]⟩),U,q _ _ M C ?_⟩
  ·rw [ak,C.length_eq];exact i
  ·rw [oQ] at t;exact t
end
open PySem PySem.Spec PyProof.Rows
def Yl:V->Option Int->Option Int->Hp->VK->Prop:=λx d c H Q=>∃a b,x=.ref a/\H a=some (.tup b)/\
 ¬(bR b.length 0 d=0/\bR b.length b.length c=b.length)/\∀p,H p=none->Q (.ref p) (upd H p (.tup (iR b d c)))
theorem Zy:C_ X Yl:=by intro i s r H x v n o g d m Q I l f j k h;obtain ⟨a,p,e,b,c,q⟩:=h;exact AK i s r H x v n o g d m Q I l f j k ⟨a,p,e,cK.of b,c,q⟩
end L2
namespace Y0
open PySem L2
seal L2.PE L2.PA L2.PT L2.PS L2.f7 L2.PG L2.mH L2.PI L2.PO
seal L2.kT L2.il L2.iu L2.fV L2.gS L2.hQ L2.ir L2.iq L2.gf Y0.aB
abbrev pX:=Nat×Nat×Int
def gR (H:Hp) (q:Addr) (x:pX):Prop:=H q=some (mS x.1 x.2.1 x.2.2)
theorem gR.same (h:gR H q x) (s:ao H H'):gR H' q x:=s _ _ h
def rS (H:Hp) (q:Addr):pX:=match H q with
 | some (.tup [.int a,.int b,.int v])=>(a.toNat,b.toNat,v)
 | _=>(0,0,0)
theorem Lb (h:gR H q x):rS H q=x:=by unfold rS;rw [h];obtain ⟨a,b,v⟩:=x;rfl
theorem T_ {a:List Addr} {L:List pX} (h:Paired (gR H) a L):L=a.map (rS H):=by
 induction h with
 | nil=>rfl
 | cons r t b=>rw [eG,<-b,Lb r]
theorem LB:∀{a:List Addr},(∀q∈a,gR H q (rS H q))->Paired (gR H) a (a.map (rS H))
 | [],_=>.nil
 | q::_,h=>.cons (h q fh) (LB λr b=>h r (gI _ b))
theorem V6 {l:List α} {m:List β} (k:Paired F l m):∀x∈l,∃y∈m,F x y:=by
 induction k with
 | nil=>intro x h;cases h
 | cons r t b=>
  intro x h;rcases eR.mp h with rfl | h
  ·exact ⟨_,fh,r⟩
  ·obtain ⟨y,a,c⟩:=b x h;exact ⟨y,gI _ a,c⟩
def u7 (st:MU.St) (t:Bool) (k:MU.Key):Option pX:=if k.1=t then (val st k).map λv=>(k.2.1,k.2.2,v) else none
structure nj (st:MU.St) (t:Bool) (L:List pX):Prop where
 up:L.Pairwise λx y=>((x.1:Int)*64+x.2.1)<=((y.1:Int)*64+y.2.1)
 has:∀a b v,(a,b,v)∈L↔val st (t,a,b)=some v
 once:(L.map λx=>(x.1,x.2.1)).Nodup
def Kw (C:Addr):Sp:=λg H Q _=>∃(p e f d:Addr) (n:Nat) (F:dO) (b:MU.St) (t:Bool),g=[.ref p,.str (kD t)]/\fi C H p e f d n F b/\bP n b/\n<=8/\b.rows.length<=16500000/\
 ∀l a c L,H l=none->ao H a->a l=some (.lst (c.map V.ref))->Paired (gR a) c L->nj b t L->Q (.ref l) a
theorem Y' {kvs:List (List Key×V)} (h:∀a∈kvs,∃k:MU.Key,a.1=ck k):∃b:List MU.Key,kvs.map (·.1)=b.map ck:=by
 induction kvs with
 | nil=>exact ⟨[],U⟩
 | cons a r f=>
  obtain ⟨b,e⟩:=f λa d=>h a (gI _ d);obtain ⟨k,c⟩:=h a fh;exact ⟨k::b,by rw [eG,eG,e,c]⟩
theorem Xo:iR (jz x) (some 1) none=[V.int (x.a:Int),V.int (x.b:Int),V.int x.v]:=by unfold iR jz;rw [eo,show (some (1:Int))=some ((1:Nat):Int) from rfl,dC];rfl
theorem Yy:¬(bR (jz x).length 0 (some 1)=0/\bR (jz x).length (jz x).length none=(jz x).length):=λz=>by have h:=z.1;rw [show (some (1:Int))=some ((1:Nat):Int) from rfl,dC] at h;have e:(jz x).length=4:=U;rw [e] at h;cases h
theorem OK:∀{l:List α},(l.map f).Nodup->l.Nodup
 | [],_=>As
 | a::l,h=>by rw [eG,List.nodup_cons] at h;exact List.nodup_cons.mpr ⟨λz=>h.1 (List.mem_map_of_mem z),OK h.2⟩
theorem XS:decide (V.str (kD a)=V.str (kD b))=decide (a=b):=decide_eq_decide.mpr ⟨λq=>N9 (V.str.inj q),λq=>by rw [q]⟩
section
theorem X7:cb ė ė (aJ aH):=c9
theorem WC:hV (aJ aH) ė (jY [(".0",.local),("key",.local),("kind",.free),("self",.free)]) ["key","kind","self"] [none,some 1,some 0]:=jZ
theorem WS:(["key","kind","self"]:List Str).Nodup:=by decide+kernel
theorem rd {f C:Addr} {fd:FuncData} (F:gb K "best_drawn" "Closing.best_drawn" aH f fd) (T:mM K mg C) (hS:mg "sorted"=none):af P w K mg base aq 1 f fd ė (Kw C):=by
 refine F.cJ X7 λ_ x6 _ nP H _ x8 x7 hr x3=>?_;obtain ⟨p,be,rl,bd,x9,Fa,d,t,rfl,x1,x2,h8,hlen,x4⟩:=x3;have hu:=kr hr;refine ⟨_,ax (b_ (iB Wf (by rfl) hS PyProof.Rows.boot_sorted (aU (ZG (me U (ZJ (dY (pv 0) U)) WC (λcl ex s0 H0=>⟨bH 0 WS,xQ (dF gC (aN (pv 0)) (pv 1)),qx Zy (aN (cu cR (px (K:=K) U (pv 2) U) (lA hu (px (K:=K) U (pv 2) U) (pv 0) (λ_ _=>rfl)))) (qu a0) qt⟩)))))),?_⟩;obtain ⟨dx,hp⟩:=x1.ins;obtain ⟨qs,jW,bY⟩:=x1.rows;obtain ⟨kvs,N,zi,m4⟩:=x1.best;obtain ⟨ks,S⟩:=Y' zi.2;have hkn:kvs.length=ks.length:=by have:=congrArg List.length S;simpa using this
 refine (aa U (cS hp T.cl T.nE ph ⟨bd,kvs,U,N,λoB o G jb=>?_⟩));rw [S] at oB;have knd:ks.Nodup:=OK oB;have known:∀kk∈ks,∃j x,d.best kk=some j/\aj d j=some x/\x.key=kk:=λkk R=>by
  have:(eT kvs (ck kk)).isSome=true:=by
   rw [<-ue];have hm:ck kk∈kvs.map (·.1):=by rw [S];exact List.mem_map_of_mem R
   obtain ⟨kv,n,r⟩:=eQ.mp hm;exact List.any_eq_true.mpr ⟨kv,n,by simpa using r⟩
  rw [m4] at this
  cases c:d.best kk with
  | none=>rw [c] at this;cases this
  | some j=>
   obtain ⟨x,n,r⟩:=x2.at_ _ _ c;exact ⟨j,x,U,n,r⟩
 have RI:bd≠p:=cI N hp nofun;have bdr:bd≠rl:=cI N jW nofun;have Sn:G≠bd:=λz=>by rw [z,ah] at jb;cases jb
 have Q_:H G=none:=by rwa [ag Sn] at jb
 refine UL (a:=bd) (o:=o) (kvs:=kvs) (λi gy Z=>∃v g L,gy=[v,some (.str (kD t)),some (.ref p)]/\Z G=some (.lst (g.map V.ref))/\Paired (gR Z) g L/\L=(ks.take i).filterMap (u7 d t)/\g.length<=i/\Z bd=some (.dZ o (.dT kvs))/\∀b x,H b=some x->b≠bd->Z b=some x)
  ⟨none,[],[],U,ah,.nil,U,dV _,by rw [ag (a6 Sn),ah],λb x e D=>by rw [ag (a7 e Q_),ag D];exact e⟩ ?_ ?_ ?_
 ·rintro i gy m _ ⟨v,g,L,rfl,_,_,_,_,e,_⟩;exact e
 ·rintro i kx vx q gy m hi k ⟨v,g,L,rfl,e2,rr,M,vc,J,A⟩;obtain ⟨kk,sY,rfl⟩:∃kk,ks[i]?=some kk/\kx=ck kk:=by
   have:=congrArg (λl=>l[i]?) S;simp only [cW,hi] at this
   cases R:ks[i]? with
   | none=>rw [R] at this;cases this
   | some kk=>rw [R] at this;exact ⟨kk,U,ff this⟩
  have hil:i<ks.length:=(cO.mp sY).1;have et:ks.take (i+1)=ks.take i++[kk]:=by rw [jo,sY];rfl
  obtain ⟨Y,a,b⟩:=kk;obtain ⟨j,x,z8,s,Ϡ⟩:=known _ (fY sY);have HH:val d (Y,a,b)=some x.v:=by unfold val;rw [z8];show (aj d j).map _=_;rw [s];rfl
  refine (aa U (aL k U (aa U ⟨U,ct ?_⟩)));refine (show if decide (V.str (kD Y)=V.str (kD t))=true then _ else _ from ?_);rw [XS]
  by_cases ht:Y=t
  ·refine ig ht ?_;obtain ⟨q',kJ,pw,pu,g1,_,_,g4,g5,_⟩:=AV bY s;have pJ:gP (qs.map V.ref) (j:Int)=some (.ref q'):=iH (by rw [cW,g1];rfl);have dg:eS m bd (.ref q) (some (.int (j:Int))):=.inr ⟨kvs,_,q,.inr ⟨o,J⟩,U,k,by rw [m4,z8];rfl⟩;have yD:∀{b:Addr} {xs:List V},H b=some (.tup xs)->m b=some (.tup xs):=λe=>A _ _ e (cI e N nofun);refine (aa U (cS (A _ _ hp (a6 RI)) T.cl T.nR qi (aa U (cS (A _ _ hp (a6 RI)) T.cl T.nE ph (aa U ⟨bd,_,U,dg,wB (A _ _ jW (a6 bdr)) pJ (aL (yD g4) U ⟨_,U,pw,_,U,yD g5,Yy,λB W=>?_⟩)⟩)))));rw [Xo];have QP:=gT Ϡ;have e3:upd m B (.tup [V.int (x.a:Int),V.int (x.b:Int),V.int x.v]) B=some (.tup [V.int (x.a:Int),V.int (x.b:Int),V.int x.v]):=ah;have E:=a8 (o:=.tup [V.int (x.a:Int),V.int (x.b:Int),V.int x.v]) W;generalize upd m B (.tup [V.int (x.a:Int),V.int (x.b:Int),V.int x.v])=I at*;have Rv:=E _ _ e2;have nD:∀{b:Addr} {o:HO},I b=some o->o≠.lst (g.map V.ref)->upd I G (.lst (g.map V.ref++[.ref B])) b=some o:=λ{b o} e D=>by rw [ag (cI e Rv D)];exact e
   have keep:∀b y,gR m b y->gR (upd I G (.lst (g.map V.ref++[.ref B]))) b y:=λb y e=>nD (E _ _ e) nofun;refine ⟨_,Rv,?_,_,g++[B],L++[(a,b,x.v)],U,?_,?_,?_,?_,?_,λb' y e D=>?_⟩
   ·rw [ak];have:=zi.1;exact tL (show g.length<=16500000 by lia) (by decide)
   ·rw [ah,d_];rfl
   ·refine wu (gM rr keep) (.cons ?_ .nil);have:gR I B (a,b,x.v):=by
     unfold gR mS;rw [e3,QP.2.1,QP.2.2]
    exact nD this nofun
   ·rw [et,Al,M];have:u7 d t (Y,a,b)=some (a,b,x.v):=by
     unfold u7;rw [if_pos ht,HH];rfl
    simp [this]
   ·rw [dw];show g.length+1<=i+1;exact ug vc
   ·exact nD (E _ _ J) nofun
   ·rw [ag (a7 e Q_)];exact E _ _ (A _ _ e D)
  ·refine j4 ht ⟨_,g,L,U,e2,rr,?_,by exact gQ vc,J,A⟩;rw [et,Al,M];have:u7 d t (Y,a,b)=none:=if_neg ht;simp [this]
 ·rintro gy m ⟨v,g,L,rfl,e2,rr,M,vc,J,A⟩;refine ⟨bd,o,_,J,λo x5 z=>?_,?_⟩
  ·have z:H bd=some (.dZ o x5):=z;rw [N] at z;cases z
  have E:ao H (upd m bd (.dT kvs)):=λb x e=>by
   by_cases c:b=bd
   ·subst c;rw [N] at e;cases e;exact ah
   ·rw [ag c];exact A _ _ e c
  have nb:∀{b:Addr} {x:HO},m b=some x->x≠.dZ o (.dT kvs)->upd m bd (.dT kvs) b=some x:=λ{b x} e D=>by rw [ag (cI e J D)];exact e
  have e3:=nb e2 nofun;have zd:Paired (gR (upd m bd (.dT kvs))) g L:=gM rr λb y e=>nb e nofun;generalize upd m bd (.dT kvs)=I at*;have dE:ks.take kvs.length=ks:=by rw [hkn];exact i5
  rw [dE] at M;have Hw:∀a b v,(a,b,v)∈L↔val d (t,a,b)=some v:=λa b v=>by
   rw [M,xh]
   constructor
   ·rintro ⟨kk,R,e⟩;unfold u7 at e
    by_cases W:kk.1=t
    ·rw [if_pos W] at e
     cases h:val d kk with
     | none=>rw [h] at e;cases e
     | some v'=>
      rw [h] at e;cases e;obtain ⟨t',Q,b'⟩:=kk;cases W;exact h
    ·rw [if_neg W] at e;cases e
   ·intro h;have c:∃j,d.best (t,a,b)=some j:=by
     unfold val at h
     cases k:d.best (t,a,b) with
     | none=>rw [k] at h;cases h
     | some j=>exact ⟨j,U⟩
    obtain ⟨j,hj⟩:=c;have:(eT kvs (ck (t,a,b))).isSome=true:=by rw [m4,hj];rfl
    rw [<-ue] at this;obtain ⟨kv,n,r⟩:=List.any_eq_true.mp this;have hm:ck (t,a,b)∈ks.map ck:=by rw [<-S];exact eQ.mpr ⟨kv,n,by simpa using r⟩
    obtain ⟨kk,h3,h4⟩:=eQ.mp hm;refine ⟨(t,a,b),L_ h4▸h3,?_⟩;unfold u7;rw [if_pos rfl,h];rfl
  have small:∀q∈g,∃x∈L,gR I q x/\x.1<8/\x.2.1<8:=λq k=>by
   obtain ⟨x,s,O⟩:=V6 zd q k;refine ⟨x,s,O,?_⟩;obtain ⟨a,b,v⟩:=x;have h:=(Hw a b v).mp s;unfold val at h
   cases k:d.best (t,a,b) with
   | none=>rw [k] at h;cases h
   | some j=>
    obtain ⟨w',n,r⟩:=x2.at_ _ _ k;have h3:=x2.lt _ _ n;have h4:=gT r;exact ⟨by show a<8;have:=h4.2.1;lia,by show b<8;have:=h4.2.2;lia⟩
  refine ⟨G,g,λa b=>(val d (t,a.toNat,b.toNat)).getD 0,U,e3,λq k=>?_,λl X hl ze HI=>?_⟩
  ·obtain ⟨⟨a,b,v⟩,s,O,ha,c⟩:=small q k;refine ⟨a,b,?_,by exact gW (a+0),by lia,by exact gW (b+0),by lia⟩;show I q=some (mS a b ((val d (t,((a:Int)).toNat,((b:Int)).toNat)).getD 0));rw [gG,gG,(Hw a b v).mp s];exact O
  ·have Im:H l=none:=by
    cases q:H l with
    | none=>rfl
    | some x=>rw [E _ _ q] at hl;cases hl
   have s4:=a8 (o:=.lst (X.map V.ref)) hl;have vi:∀q∈X,gR I q (rS I q):=λq k=>by obtain ⟨x,_,O,_⟩:=small q (ze.mem_iff.mp k);rw [Lb O];exact O
   have IK:(X.map (rS I)).Perm L:=by rw [T_ zd];exact ze.map _
   refine x4 l _ X (X.map (rS I)) Im (E.trans s4) ah (gM (LB vi) λq x e=>e.same s4) ⟨?_,λa b v=>?_,?_⟩
   ·rw [oQ];refine CQ (λ{x y} s hy e=>?_) HI;rw [AX (vi x s),AX (vi y hy)] at e;exact e
   ·rw [IK.mem_iff];exact Hw a b v
   ·refine ((IK.map _).nodup_iff).mpr ?_;rw [M];unfold List.Nodup;rw [oQ];refine List.Pairwise.filterMap _ (λa Q kQ b c b' u e=>kQ ?_) knd;unfold u7 at c u
    by_cases n:a.1=t
    ·by_cases r:Q.1=t
     ·rw [if_pos n] at c;rw [if_pos r] at u
      cases h:val d a with
      | none=>rw [h] at c;cases c
      | some v1=>
       cases Q9:val d Q with
       | none=>rw [Q9] at u;cases u
       | some v2=>
        rw [h] at c;rw [Q9] at u;cases c;cases u;have e:(a.2.1,a.2.2)=(Q.2.1,Q.2.2):=e;exact Prod.ext (n.trans r.symm) e
     ·rw [if_neg r] at u;cases u
    ·rw [if_neg n] at c;cases c
end
end Y0
namespace MU
def gz (st:St):Prop:=(∀(i:Nat) (r:Row),st.rows[i]?=some r->r.used.length<=2/\∀j∈r.used,j<i)/\∀b,st.bar=some b->∃r,st.rows[b]?=some r/\h9 r.fm
theorem Ny {w:au} (h:gz st) (f:us.length<=2/\∀j∈us,j<st.rows.length):gz (take st w word us):=by
 unfold take;split
 ·refine ⟨λi r a=>?_,λb c=>?_⟩
  ·have a:(st.rows++[⟨w,word,us⟩])[i]?=some r:=a
   by_cases e:i<st.rows.length
   ·rw [ic e] at a;exact h.1 i r a
   ·rw [iD (by exact jt e)] at a
    cases C:i-st.rows.length with
    | zero=>
     rw [C] at a;cases a;exact ⟨f.1,λj l=>by have:=f.2 j l;lia⟩
    | succ k=>rw [C] at a;cases a
  ·have c:(if st.bar=none/\h9 w then some st.rows.length else st.bar)=some b:=c;show ∃r,(st.rows++[(⟨w,word,us⟩:Row)])[b]?=some r/\h9 r.fm
   by_cases d:st.bar=none/\h9 w
   ·rw [if_pos d] at c;cases c;exact ⟨_,by rw [iD (ar _),Aa];rfl,d.2⟩
   ·rw [if_neg d] at c;obtain ⟨r,a,g⟩:=h.2 b c;exact ⟨r,by rw [ic (cO.mp a).1];exact a,g⟩
 ·exact h
theorem M7 (h:gz st) (a:∀x,o=some x->us.length<=2/\∀j∈us,j<st.rows.length):gz (put st o word us):=by
 cases o with
 | none=>exact h
 | some x=>exact Ny h (a x U)
theorem BD (h:gz st):gz (bh f word i st):=by
 refine M7 h λx a=>⟨by show 1<=2;exact gQ gj,λj b=>?_⟩
 cases hw:aj st i with
 | none=>rw [hw] at a;cases a
 | some y=>rw [g_.mp b];exact ma hw
theorem BE (h:gz st):gz (av f word i j st):=by
 refine M7 h λx a=>⟨ar 2,λk b=>?_⟩
 cases hw:aj st i with
 | none=>rw [hw] at a;cases a
 | some y=>
  rw [hw] at a
  cases C:aj st j with
  | none=>rw [show ((some y).bind λp=>(aj st j).bind λq=>f p q)=(aj st j).bind λq=>f y q from rfl,C] at a;cases a
  | some z=>
   rcases eR.mp b with rfl | b
   ·exact ma hw
   ·rw [g_.mp b];exact ma C
theorem wj {c:Type} {g:St->c->St} (b:∀st a,gz st->gz (g st a)):∀(l:List c) (st:St),gz st->gz (l.foldl g st)
 | [],_,h=>h
 | a::l,st,h=>wj b l _ (b st a h)
theorem Fe (rows:List au) (st:St) (h:gz st):gz (lu rows st):=wj (λst w h=>Ny h ⟨dV _,λj a=>absurd a (by simp)⟩) rows st h
theorem E':gz empty:=⟨λi r h=>by simp [empty] at h,λb h=>by simp [empty] at h⟩
theorem Wi {n:Nat} {F:dO} {at_ a b:Nat} {st:St} (h:gz st):gz (hX n F at_ a b st):=
 wj (λ_ _ h=>BE h) _ _ (wj (λ_ _ h=>BE h) _ _ (wj (λ_ _ h=>BE h) _ _ (BD (BD h))))
theorem Wo {n:Nat} {F:dO} {at_ a:Nat} {st:St} (h:gz st):gz (gD n F at_ a st):=
 wj (λ_ _ h=>BE h) _ _ (BD (BD h))
theorem Bh (h:gz st):∀t,gz (run n F st t)
 | 0=>h
 | t+1=>by
  have a:=Bh (n:=n) (F:=F) h t;show gz (look n F t (run n F st t));unfold look;split
  ·split
   ·split
    ·exact Wi a
    ·exact Wo a
   ·exact a
  ·exact a
end MU
open MU (gz Bh Fe E')
namespace L2
open PySem PySem.Spec PyProof.Rows
def A1 (b:Int) (n:Nat):It:=⟨λi _=>i<n,λi H x a=>a=H/\x=.int (b-i),λi _=>n<=i⟩
theorem Wr {a:Int} {i n:Nat} (l:i<n) (st:IsRangeIter s.heap it (a-(i:Nat)) ((n:Int)-(i:Nat)) (-1))
 (f:∀(t:Tok) h' k,IsRangeIter h' it (a-((i+1:Nat):Int)) ((n:Int)-((i+1:Nat):Int)) (-1)->(∀b o,b∉[it]->s.heap.get? b=some o->h'.get? b=some o)->Q (some (.int (a-(i:Nat)) t)) { s with heap:=h',toks:=k }):
 wpAny (model prog w) A (pyNext (.ref it)) Q E s:=by
 refine wpAny_pyNext_range_item st (by lia) λh' j h=>?_;refine f _ h' _ ?_ λb o g e=>h.extBut b o (λz=>g (by simp [z])) e;have c:a-((i+1:Nat):Int)=a-(i:Int)+ -1:=by lia
 have d:(n:Int)-((i+1:Nat):Int)=(n:Int)-(i:Int)-1:=by lia
 rw [c,d];exact j
theorem VB {M:Expr} (it:Addr) (y:Int) (n:Nat):u4 P w K M (A1 y n) [it] it (λi h=>IsRangeIter h it (y-(i:Nat)) ((n:Int)-(i:Nat)) (-1)) where
 mem:=by simp
 obj:=λi h a b c=>by
  have e:b=it:=by simpa using c
  subst e;exact ⟨_,a,λv z=>by
   have N:Data.fields _=Data.cell v:=z;cases N⟩
 keep:=λi h d a k=>k it (by simp) _ a
 item:=by intro X r x q _ i A s D H E I f a u;subst r x q;obtain ⟨g,j,_,l,m,p⟩:=f it (by simp);refine Wr u a λt d C B L=>?_;have F:Inv X A D H { s with heap:=d,toks:=C }:=I.turned (λb o c e=>L b o (by simpa using c) e) g j l m p;exact ⟨_,U,A7 (s:={ s with heap:=d,toks:=C }) (n:="range_iterator") B U U (by decide) ⟨.int (y-i),H,F,⟨t,U⟩,⟨U,U⟩,B,λb c=>(f b c).1⟩⟩
 done:=by intro X r x q J i A s D H E I f a u;subst r x q;obtain ⟨g,j,_,l,m,p⟩:=f it (by simp);exact OM (xB J I) a (by have:n<=i:=u;lia) λd G=>⟨U,I.turned (t':=s.toks) (λb o c e=>G b o c e) g j l m p⟩
 self:=λ_ _ _ _ _ a h=>wpAny_pyIter_rangeiter a h
theorem LR {f:Int} {n:Nat} {g:TG} {o:TS} {D:qb} {a:St} {H:Hp} (c:Nat->St->Hp->Prop) (q:c 0 a H)
 (t:∀i a H,i<n->c i a H->g (.int (f-i)) a H λk h=>o { D with nx:=c (i+1),ct:=c (i+1),bk:=D.nx } k h) (r:∀a H,c n a H->D.nx a H):
 ∃W:Nat->Nat->St->Hp->Prop,(∃m,W 0 m a H)/\∀i m a H,W i m a H->
  ((A1 f n).stop i H/\D.nx a H)\/((A1 f n).go i H/\∃N:St->Hp->Prop,(∀j b,N j b->∃l,l<m/\W (i+1) l j b)/\∀x b,(A1 f n).u9 i H x b->g x a b λk h=>o { D with nx:=N,ct:=N,bk:=D.nx } k h):=by
 refine ⟨λi m a H=>m=n-i/\i<=n/\c i a H,⟨n,by simp,dV _,q⟩,?_⟩;rintro i m a H ⟨rfl,s,p⟩
 by_cases d:i<n
 ·refine .inr ⟨d,c (i+1),λj b u=>⟨n-(i+1),sE d,U,d,u⟩,λx b y=>?_⟩;obtain ⟨e,y⟩:=y;subst e y;exact t i a _ d p
 ·have e:i=n:=sF s d;subst e;exact .inl ⟨ar _,r a H p⟩
theorem Lo (n:Nat):Builtin.Range.rangeSize ((n:Int)-1) (-1) (-1)=(n:Int):=by
 unfold Builtin.Range.rangeSize;rw [if_neg (by decide)]
 by_cases h:0<n
 ·rw [if_pos (by lia)];show ((n:Int)-1- -1-1) / 1+1=n;rw [Int.ediv_one];lia
 ·rw [if_neg (by lia)];lia
theorem Tj {n:Nat} (h:n<=20000000):Builtin.Range.small ((n:Int)-1) (-1) (-1)=true:=by unfold Builtin.Range.small;rw [Lo];simp [Builtin.Range.rangeFitsLong];lia
section
def ϝ (b:TA):TI:=λd H R=>b d H λc a=>∃n:Nat,c=[.int ((n:Int)-1),.int (-1),.int (-1)]/\n<=20000000/\R (A1 ((n:Int)-1) n) a
theorem Nj (y:Gl X "range") (z:X.mg "range"=none) (v:PA X [a,b,c] J) (B:starEach [a,b,c] X.env=[(false,eval a X.env),(false,eval b X.env),(false,eval c X.env)]:=by rfl) (k:starEach [b,c] X.env=[(false,eval b X.env),(false,eval c X.env)]:=by rfl):
 PI X tg (.Call (.Name "range" p) [a,b,c] [] pos) (ϝ J):=by
 intro l s m H R I h;refine Call_ (r_ I y z boot_range (xg (ay (v pos l s m H _ I h) λL d G=>?_) (by rw [B,k]) (by rw [k];rfl)));obtain ⟨M,j,u,F,C⟩:=G;obtain ⟨n,e,A,q⟩:=C;subst e
 cases F with
 | cons r f=>
  cases f with
  | cons D f=>
   cases f with
   | cons E f=>
    cases f;obtain ⟨t,rfl⟩:=r;obtain ⟨t',rfl⟩:=D;obtain ⟨g,rfl⟩:=E;refine call_range_3 (by decide) ?_ (Or.inl (PyProof.noPylong_small (by lia)));refine wpAny_pyIter_range (IsRange.new ..) (Tj A) ?_;have i:Inv X l m j { d with heap:=d.heap.push { cls:=.type "range",data:=.fields #[.int ((n:Int)-1) t,.int (-1) t',.int (-1) g] },toks:=d.toks }:=u.kept λb o e=>cL _ e;refine ⟨(d.heap.push { cls:=.type "range",data:=.fields #[.int ((n:Int)-1) t,.int (-1) t',.int (-1) g] }).objs.size,[(d.heap.push { cls:=.type "range",data:=.fields #[.int ((n:Int)-1) t,.int (-1) t',.int (-1) g] }).objs.size],_,_,j,U,
     i.kept (t':=d.toks) λb o e=>cL _ e,VB _ ((n:Int)-1) n,?_,λb x=>?_,q⟩
    ·show IsRangeIter _ _ (((n:Int)-1)-((0:Nat):Int)) ((n:Int)-((0:Nat):Int)) (-1);rw [show ((n:Int)-1)-((0:Nat):Int)=(n:Int)-1 by lia,show (n:Int)-((0:Nat):Int)=Builtin.Range.rangeSize ((n:Int)-1) (-1) (-1) by rw [Lo];lia];exact jh _ U
    ·have e:b=(d.heap.push { cls:=.type "range",data:=.fields #[.int ((n:Int)-1) t,.int (-1) t',.int (-1) g] }).objs.size:=by simpa using x
     subst e;exact i.oI (ar _) (i.a4.fresh (ar _))
end
end L2
namespace Y0
open PySem L2
seal L2.PE L2.PA L2.PT L2.PS L2.f7 L2.PG L2.mH L2.PI L2.PO
seal L2.kT L2.il L2.iu L2.fV L2.gS L2.hQ L2.ir L2.iq L2.gf Y0.aB
def P0 (rows:List Row):Prop:=∀(i:Nat) (r:Row),rows[i]?=some r->r.used.length<=2/\∀j∈r.used,j<i
structure rQ (rows:List Row) (last:Nat) (ns:List Nat):Prop where
 up:ns.Pairwise (·<·)
 le:∀i∈ns,i<=last
 has:last∈ns
 uses:∀i∈ns,∀r,rows[i]?=some r->∀j∈r.used,j∈ns
 why:∀i∈ns,i=last\/∃k∈ns,∃r,rows[k]?=some r/\i∈r.used
structure NI (rows:List Row) (last:Nat) (P:Nat->Prop) (ks:List Nat):Prop where
 once:ks.Nodup
 le:∀k∈ks,k<=last
 has:last∈ks
 why:∀i∈ks,i=last\/∃k∈ks,∃r,rows[k]?=some r/\i∈r.used
 fin:∀k∈ks,P k->∀r,rows[k]?=some r->∀j∈r.used,j∈ks
def u5 (a:List Nat) (j:Nat):List Nat:=if j∈a then a else a++[j]
theorem pA:k∈u5 ks j↔k∈ks\/k=j:=by
 unfold u5;split
 ·exact ⟨.inl,λh=>h.elim id λe=>e▸‹j∈ks›⟩
 ·simp
theorem NI.add {P:Nat->Prop} (h:NI rows last P ks) (g:m∈ks) (y:rows[m]?=some r) (t:j∈r.used) (v:j<=m) (p:¬P j):NI rows last P (u5 ks j):=by
 refine ⟨?_,λk c=>?_,pA.mpr (.inl h.has),λi d=>?_,λk c l f z A u=>?_⟩
 ·unfold u5;split
  ·exact h.once
  ·rename_i x
   exact List.nodup_append.mpr ⟨h.once,List.nodup_cons.mpr ⟨nofun,As⟩,λa q b s e=>x (by rw [g_.mp s] at e;rw [<-e];exact q)⟩
 ·rcases pA.mp c with c | rfl
  ·exact h.le k c
  ·have:=h.le m g;exact qz v this
 ·rcases pA.mp d with d | rfl
  ·rcases h.why i d with e | ⟨k,c,f,n,o⟩
   ·exact .inl e
   ·exact .inr ⟨k,pA.mpr (.inl c),f,n,o⟩
  ·exact .inr ⟨m,pA.mpr (.inl g),r,y,t⟩
 ·rcases pA.mp c with c | rfl
  ·exact pA.mpr (.inl (h.fin k c l f z A u))
  ·exact absurd l p
def p_ (a:List Nat):List Key:=a.map λi:Nat=>Sum.inl (i:Int)
theorem DU {ks:List Nat} {j:Nat}:(Sum.inl (j:Int):Key)∈p_ ks↔j∈ks:=by
 unfold p_;rw [eQ]
 constructor
 ·rintro ⟨k,a,e⟩;have:=Ai (vp e);exact this▸a
 ·exact λh=>⟨j,h,U⟩
theorem S8 {ks:List Nat} {j:Nat} (h:kvs.map (·.1)=p_ ks):(dN kvs (Sum.inl (j:Int)) v).map (·.1)=p_ (u5 ks j):=by
 have e:(kvs.any λa=>decide (a.1=Sum.inl (j:Int)))=true↔j∈ks:=by
  rw [List.any_eq_true,<-DU,<-h,eQ]
  constructor
  ·rintro ⟨a,c,d⟩;exact ⟨a,c,by simpa using d⟩
  ·rintro ⟨a,c,d⟩;exact ⟨a,c,by simpa using d⟩
 unfold dN u5
 by_cases b:j∈ks
 ·rw [if_pos (e.mpr b),if_pos b,<-h,List.map_map];refine CK λa _=>?_;show (if a.1=Sum.inl (j:Int) then (a.1,v) else a).1=a.1;split<;>rfl
 ·rw [if_neg (λz=>b (e.mp z)),if_neg b,d_,h];unfold p_;rw [d_];rfl
theorem VP {c:List Nat} {j:Nat} (h:kvs.map (·.1)=p_ c):(eT kvs (Sum.inl (j:Int))).isSome=decide (j∈c):=by
 rw [<-ue]
 by_cases a:j∈c
 ·rw [jr a];have:(Sum.inl (j:Int):Key)∈kvs.map (·.1):=by rw [h];exact DU.mpr a
  obtain ⟨d,b,e⟩:=eQ.mp this;exact List.any_eq_true.mpr ⟨d,b,by simpa using e⟩
 ·rw [fz a];refine List.any_eq_false.mpr λd b=>?_;intro z;have:(Sum.inl (j:Int):Key)∈kvs.map (·.1):=eQ.mpr ⟨d,b,by simpa using z⟩;rw [h] at this;exact a (DU.mp this)
def K0:Sp:=λg H Q _=>∃(f:Addr) (e:List Addr) (a:List Row) (c:Nat),g=[.ref f,.int (c:Int)]/\H f=some (.lst (e.map V.ref))/\Paired (mL H) e a/\P0 a/\c<a.length/\a.length<=16500000/\
 ∀l b d,H l=none->ao H b->b l=some (.lst (eU d))->rQ a c d->Q (.ref l) b
section
abbrev æ:List Str:=["rows","last","needed","at","number"]
theorem BS:cb æ Ċ (aJ bq):=c9
theorem mu (F:Fn K mg "numbers_needed" bq Ċ f fd) (hR:mg "range"=none) (hS:mg "sorted"=none):af P w K mg base aq 1 f fd Ċ K0:=by
 refine F.F.cJ BS λ_ x2 _ x5 H _ x4 x3 hr h=>?_;obtain ⟨rl,T,W,last,rfl,jW,bY,hU,sX,hlen,k⟩:=h;have hu:=kr hr;refine ⟨_,cf (cg 2 BS.nd (Zl (SW (pv 1) F8 ZL) U U (by simp) (by simp)))
  (cf (fJ ft U (Nj U hR (gv (pv 1) (nt nG a0) (nt nG a0))) (bH 3 BS.nd)
   (ax (dG (tW (Ds hu (pv 3) (pv 2)) (by with_unfolding_all rfl))
    (ax (fJ ft U (Dv (aN (cu cR (pv 0) (pv 3)))) (bH 4 BS.nd)
     (ax (AS hu (pv 2) (pv 4) F8 U)))) dH)))
  (ax (b_ (iB (We U) (by rfl) hS PyProof.Rows.boot_sorted (aU (pv 2)))))),?_⟩
 refine λN1 Z d hd=>(aa U ⟨ah,[(Sum.inl (last:Int),.bl true)],U,by simp,Z _ _ ?_⟩);rw [LD];have HP:T.length=W.length:=kd bY;have e1:upd H d (.dK (se [] [(Sum.inl (last:Int),.bl true)])) d=some (.dK [(Sum.inl (last:Int),.bl true)]):=ah;have s1:=a8 (o:=.dK (se [] [(Sum.inl (last:Int),.bl true)])) hd;generalize upd H d (.dK (se [] [(Sum.inl (last:Int),.bl true)]))=H1 at*;clear Z N1;have ev:[V.int (last:Int),V.int (-1),V.int (-1)]=[V.int (((last+1:Nat):Int)-1),V.int (-1),V.int (-1)]:=by rw [show ((last+1:Nat):Int)-1=(last:Int) by lia]
 refine λN2 c2=>(aa U ⟨_,U,_,U,last+1,ev,by lia,?_⟩);refine LR (λi A I=>∃X y g ks,A=[some (.ref rl),some (.int (last:Int)),some (.ref d),X,y]/\I d=some (.dK g)/\g.map (·.1)=p_ ks/\NI W last (λk=>last<k+i) ks/\∀b o,H b=some o->I b=some o)
  ⟨none,none,_,[last],U,e1,U,⟨List.nodup_cons.mpr ⟨nofun,As⟩,λk p=>by rw [g_.mp p];exact ar _,g_.mpr U,λk p=>.inl (g_.mp p),λk p hp=>by have:=g_.mp p;lia⟩,λb o e=>s1 _ _ e⟩ ?_ ?_
 ·rintro i A S E ⟨X,y,g,ks,rfl,t,s,c,u⟩;obtain ⟨at_,pJ⟩:∃at_,at_+i=last:=⟨last-i,by lia⟩;have ex:V.int ((((last+1:Nat):Int)-1)-(i:Int))=V.int (at_:Int):=by rw [show (((last+1:Nat):Int)-1)-(i:Int)=(at_:Int) by lia]
  rw [ex];have dg:eS S d (.int (at_:Int)) (eT g (Sum.inl (at_:Int))):=eS.k (k:=Sum.inl (at_:Int)) t;refine (aa U (aa U ⟨d,_,U,dg,_,U,?_⟩));rw [VP s]
  by_cases v:at_∈ks
  ·refine ig v ?_;obtain ⟨q,hq⟩:∃q,T[at_]?=some q:=⟨_,df (by lia)⟩;obtain ⟨r,J,pw,pu,g4,_,g6⟩:=aF bY hq;have IH:gP (T.map V.ref) (at_:Int)=some (.ref q):=iH (by rw [cW,hq];rfl);refine (aa U (ij U (u _ _ jW) IH (aL (u _ _ g4) U ⟨pu,U,⟨_,cK.of (u _ _ g6)⟩,?_⟩)));refine YT (K:=K) (a:=pu) (xs:=r.used.map λi:Nat=>V.int (i:Int)) (λm A I=>∃y g ks,A=[some (.ref rl),some (.int (last:Int)),some (.ref d),some (.int (at_:Int)),y]/\I d=some (.dK g)/\g.map (·.1)=p_ ks/\NI W last (λk=>last<k+i) ks/\at_∈ks/\(∀j∈r.used.take m,j∈ks)/\∀b o,H b=some o->I b=some o)
    ⟨y,g,ks,U,t,s,c,v,λj n=>by simp at n,u⟩ ?_ ?_ ?_
   ·rintro m A Y _ ⟨_,_,_,rfl,_,_,_,_,_,O⟩;exact cK.of (O _ _ g6)
   ·rintro m x1 A Y M ⟨y,g,ks,rfl,t,s,c,v,R,O⟩;rw [cW] at M
    cases n:r.used[m]? with
    | none=>rw [n] at M;cases M
    | some j=>
     rw [n] at M;cases M;have zk:=fY n;have hja:=(hU at_ r J).2 j zk;have Q:g.length<=last+1:=by
      have B:=congrArg List.length s;unfold p_ at B;rw [ak,ak] at B;have:=su (last+1) ks c.once λz N=>by have:=c.le z N;exact ER this
      exact wg B this
     refine (aa U (aa U ⟨d,_,U,oU.k (k:=Sum.inl (j:Int)) t (xI (by lia)),?_⟩));refine ⟨_,_,u5 ks j,U,ah,S8 s,c.add v J zk (aR hja) (by lia),pA.mpr (.inl v),λj' G=>?_,λb o e=>?_⟩
     ·rw [jo,n] at G;rcases gH.mp G with G | G
      ·exact pA.mpr (.inl (R j' G))
      ·exact pA.mpr (.inr (by simpa using G))
     ·rw [ag (a7 e hd)];exact O _ _ e
   ·rintro A Y ⟨y,g,ks,rfl,t,s,c,v,R,O⟩;have dE:r.used.take (r.used.map λi:Nat=>V.int (i:Int)).length=r.used:=by rw [ak];exact i5
    rw [dE] at R;refine ⟨_,_,g,ks,U,t,s,⟨c.once,c.le,c.has,c.why,λk p hp D L j n=>?_⟩,O⟩
    by_cases e:k=at_
    ·subst e;rw [J] at L;cases L;exact R j n
    ·exact c.fin k p (by lia) D L j n
  ·refine j4 v ⟨_,_,g,ks,U,t,s,⟨c.once,c.le,c.has,c.why,λk p hp D L j n=>?_⟩,u⟩;exact c.fin k p (by have:k≠at_:=λe=>v (e▸p);lia) D L j n
 ·rintro A S ⟨X,y,g,ks,rfl,t,s,c,u⟩;refine c2 _ _ (aa U ⟨d,g,ks.map λi:Nat=>(i:Int),U,t,by rw [s,List.map_map];rfl,λl x Q ze HI=>?_⟩);have Im:H l=none:=by
   cases q:H l with
   | none=>rfl
   | some x1=>rw [u _ _ q] at Q;cases Q
  have zC:∀{l:List Int},(∀z∈l,0<=z)->(l.map Int.toNat).map (λi:Nat=>(i:Int))=l:=λ{l} h=>by
   rw [List.map_map]
   conv=>rhs;rw [<-List.map_id l]
   exact CK λz N=>kZ (h z N)
  have hnn:∀z∈x,0<=z:=λz N=>by obtain ⟨k,_,rfl⟩:=eQ.mp (ze.mem_iff.mp N);exact gW (k+0)
  have C:(x.map Int.toNat).Perm ks:=by
   have:=ze.map Int.toNat;rw [List.map_map] at this;have e:ks.map (Int.toNat ∘ λi:Nat=>(i:Int))=ks:=by
    conv=>rhs;rw [<-List.map_id ks]
    exact CK λz _=>gG z
   rw [e] at this;exact this
  have s3:ao H (upd S l (.lst (x.map V.int))):=λb o e=>by rw [ag (a7 (u _ _ e) Q)];exact u _ _ e
  refine k l _ (x.map Int.toNat) Im s3 ?_ ⟨?_,λi E=>c.le i (C.mem_iff.mp E),C.mem_iff.mpr c.has,λi E D J j n=>?_,λi E=>?_⟩
  ·rw [ah];unfold eU;have e:x.map V.int=(x.map Int.toNat).map λi:Nat=>V.int (i:Int):=by
    conv=>lhs;rw [<-zC hnn]
    rw [List.map_map];rfl
   rw [e]
  ·have oB:(x.map Int.toNat).Nodup:=C.nodup_iff.mpr c.once;have B:(x.map Int.toNat).Pairwise (·<=·):=by
    rw [oQ];exact HI.imp λh=>Int.toNat_le_toNat h
   exact B.imp₂ (λa b h h'=>JO h h') oB
  ·have pI:=C.mem_iff.mp E;have:=c.le i pI;exact C.mem_iff.mpr (c.fin i pI (by lia) D J j n)
  ·rcases c.why i (C.mem_iff.mp E) with e | ⟨k',wM,D,B,h2⟩
   ·exact .inl e
   ·exact .inr ⟨k',C.mem_iff.mpr wM,D,B,h2⟩
end
def vY (rows:List Row) (ns:List Nat) (i:Nat):Option Row:=(rows[i]?).map λr=>⟨r.fm,r.word,r.used.map λj=>ns.idxOf j⟩
def xP (rows:List Row) (ns:List Nat):List Row:=ns.filterMap (vY rows ns)
theorem Ys {ns:List Nat} {m x:Nat} (b:ns.Nodup) (h:ns[m]?=some x):ns.idxOf x=m:=by obtain ⟨a,rfl⟩:=cO.mp h;exact List.Nodup.idxOf_getElem b m a
theorem Bm {ns:List Nat} (h:ns.Pairwise (·<·)):ns.Nodup:=h.imp λh=>fy h
theorem Z9 {ns:List Nat} (h:ns.Pairwise (·<·)) {m x j:Nat} (d:ns[m]?=some x) (b:j∈ns) (k:j<x):j∈ns.take m:=by
 obtain ⟨i,a,e⟩:=pW b;obtain ⟨c,f⟩:=cO.mp d;have g:i<m:=fu λz=>by
  rcases CH (jt z) with z | z
  ·have:=Ax.mp h m i c a z;lia
  ·subst z;lia
 rw [<-e];exact List.mem_take_iff_getElem.mpr ⟨i,by lia,U⟩
def Lz:Sp:=λh H Q _=>∃(g:Addr) (f:List Addr) (a:List Row) (c:Nat),h=[.ref g,.int (c:Int)]/\H g=some (.lst (f.map V.ref))/\Paired (mL H) f a/\P0 a/\c<a.length/\a.length<=16500000/\
 ∀l b d e,H l=none->ao H b->rQ a c d->b l=some (.lst (e.map V.ref))->Paired (mL b) e (xP a d)->Q (.ref l) b
section
abbrev Qs:List Str:=["rows","last","places","paper","number","row"]
theorem yy:cb Qs Ċ (aJ bw):=c9
theorem Xj:hV (aJ bw) Qs (jY [(".0",.local),("used",.local),("places",.free)]) ["used","places"] [none,some 2]:=jZ
theorem WZ:(["used","places"]:List Str).Nodup:=by decide+kernel
theorem kM (F:Fn K mg "paper_up_to" bw Ċ f fd) (hL:mg "len"=none) (hT:mg "tuple"=none)
 (FN:Fn K mg "numbers_needed" bq Ċ fN pK) (GN:af P w K mg base aq 1 fN pK Ċ K0):af P w K mg base aq 2 f fd Ċ Lz:=by
 refine F.F.cJ yy λ_ x4 _ x7 H _ x6 x5 hr h=>?_;obtain ⟨rl,qs,C,Y,rfl,jW,bY,hU,sX,hlen,k⟩:=h;have hu:=kr hr;refine ⟨_,cf (n9 (i:=2) yy.nd U (Or.inr U) M0)
  (cf (cg 3 yy.nd (iJ n7))
  (cf (fJ ft U (f9 (bM GN hr FN (bp (pv 0) (pv 1)))) (bH 4 yy.nd)
   (cf (cg 5 yy.nd (cu cR (pv 0) (pv 4)))
   (cf (AS hu (pv 2) (pv 4) (iB ur (by rfl) hL vy (aU (pv 3))) U)
   (ax (eg (kE kY kf kX jT (pv 3) (aU (eN (gv (aN (pv 5)) (aN (pv 5)) (qB ON (by rfl) hT (by decide+kernel) (aU (me U (Dv (aN (pv 5))) Xj (λcl ex s0 H0=>⟨bH 0 WZ,nI,lA hu (pv 1) (pv 0) (λ_ _=>rfl)⟩)))))))))))))
  (ax (b_ (pv 3))))),?_⟩
 refine λN1 c1 d hd=>c1 _ _ ?_;have s1:=a8 (o:=.dK []) hd;have e1:upd H d (.dK []) d=some (.dK []):=ah;generalize upd H d (.dK [])=H1 at*;clear c1 N1;refine λN2 c2=>⟨dV _,λpl T=>c2 _ _ ?_⟩;have s2:=a8 (o:=.lst []) T;have e2:upd H1 pl (.lst []) pl=some (.lst []):=ah;have Qg:H pl=none:=by
  cases q:H pl with
  | none=>rfl
  | some x2=>rw [s1 _ _ q] at T;cases T
 have Rz:d≠pl:=a7 e1 T;generalize upd H1 pl (.lst [])=H2 at*;clear c2 N2;have B_:=s1.trans s2;have HP:qs.length=C.length:=kd bY;refine λN3 c3=>(aa U (aa U ⟨rl,qs,C,Y,U,B_ _ _ jW,gM bY λq r e=>e.same B_,hU,sX,hlen,λl H3 ns S s3 el A=>?_⟩));have oB:=Bm A.up;have hnl:ns.length<=Y+1:=su (Y+1) ns oB λx3 hz=>by have:=A.le x3 hz;exact ER this
 have Ï:=B_.trans s3;have ed3:=s3 _ _ (s2 _ _ e1);have ep3:=s3 _ _ e2;have lH:H l=none:=by
  cases q:H l with
  | none=>rfl
  | some x2=>rw [B_ _ _ q] at S;cases S
 have ld:l≠d:=a6 (a7 (s2 _ _ e1) S);have lp:l≠pl:=a6 (a7 e2 S);refine ⟨l,U,⟨_,ai.of el⟩,?_⟩;refine iA (K:=K) (a:=l) (xs:=eU ns) (λm t u=>∃v4 v5 g p,t=[some (.ref rl),some (.int (Y:Int)),some (.ref d),some (.ref pl),v4,v5]/\u d=some (.dK g)/\g.length<=m/\
  (∀j:Nat,j∈ns.take m->eT g (Sum.inl (j:Int))=some (.int (ns.idxOf j:Int)))/\u pl=some (.lst (p.map V.ref))/\p.length=m/\Paired (mL u) p ((ns.take m).filterMap (vY C ns))/\u l=some (.lst (eU ns))/\ao H u)
  ⟨none,none,[],[],U,ed3,ar _,λj n=>by simp at n,ep3,U,.nil,el,Ï⟩ ?_ ?_ ?_
 ·rintro m t s _ ⟨_,_,_,_,rfl,_,_,_,_,_,_,e,_⟩;exact ai.of e
 ·rintro m x2 t s c ⟨v4,v5,g,p,rfl,M,zi,m4,N,vb,W,Cv,s4⟩;unfold eU at c;rw [cW] at c
  cases n:ns[m]? with
  | none=>rw [n] at c;cases c
  | some num=>
   rw [n] at c;cases c;have hmn:m<ns.length:=(cO.mp n).1;have HZ:=A.le num (fY n);obtain ⟨q,hq⟩:∃q,qs[num]?=some q:=⟨_,df (by lia)⟩;obtain ⟨r,lN,y,pu,g4,g5,g6⟩:=aF bY hq;have pJ:gP (qs.map V.ref) (num:Int)=some (.ref q):=iH (by rw [cW,hq];rfl);refine λN5 c5=>(aa U (ij U (s4 _ _ jW) pJ (c5 _ _ ?_)));clear c5 N5;refine λN6 c6=>(aa U ⟨pl,_,U,.inl (ai.of N),aa U (aa U ⟨d,_,U,oU.k (k:=Sum.inl (num:Int)) M (xI (by lia)),c6 _ _ ?_⟩)⟩);rw [ak,vb];clear c6 N6;have B:∀{b:Addr} {o:HO},s b=some o->b≠d->upd s d (.dK (dN g (Sum.inl (num:Int)) (.int (m:Int)))) b=some o:=λe ne=>by rw [ag ne];exact e
   have Rt:upd s d (.dK (dN g (Sum.inl (num:Int)) (.int (m:Int)))) d=some (.dK (dN g (Sum.inl (num:Int)) (.int (m:Int)))):=ah;have z:ao H (upd s d (.dK (dN g (Sum.inl (num:Int)) (.int (m:Int))))):=λb o e=>B (s4 _ _ e) (a7 e hd);have Rl:=B N (a6 Rz);have eF:=B Cv ld;have HS:Paired (mL (upd s d (.dK (dN g (Sum.inl (num:Int)) (.int (m:Int)))))) p ((ns.take m).filterMap (vY C ns)):=gM W λq r ⟨y,pu,O,Q,R⟩=>
    ⟨y,pu,B O (cI O M nofun),B Q (cI Q M nofun),B R (cI R M nofun)⟩
   generalize upd s d (.dK (dN g (Sum.inl (num:Int)) (.int (m:Int))))=H5 at*;have et:ns.take (m+1)=ns.take m++[num]:=by rw [jo,n];rfl
   have zh:∀j:Nat,j∈ns.take (m+1)->eT (dN g (Sum.inl (num:Int)) (.int (m:Int))) (Sum.inl (j:Int))=some (.int (ns.idxOf j:Int)):=λj ve=>by
    rw [ye]
    by_cases e:j=num
    ·subst e;rw [if_pos rfl,Ys oB n]
    ·rw [if_neg (show ¬((Sum.inl (j:Int):Key)=Sum.inl (num:Int)) from λx3=>e (Ai (vp x3)))];rw [et] at ve;rcases gH.mp ve with h | h
     ·exact m4 j h
     ·exact absurd (g_.mp h) e
   have yY:=hU num r lN;refine (aa U ⟨.inl ⟨U,_,ai.of Rl⟩,aa U (aL (z _ _ g4) U (aa U (aL (z _ _ g4) U (aa U (aL (z _ _ g4) U ⟨pu,U,⟨_,cK.of (z _ _ g6)⟩,λDa jb=>?_⟩)))))⟩);refine LM (xs:=r.used.map λi:Nat=>V.int (i:Int)) (λa t u=>∃x1,t=[x1,some (.ref d)]/\u Da=some (.lst (((r.used.take a).map λj=>ns.idxOf j).map λi:Nat=>V.int (i:Int)))/\ao H5 u) ⟨none,U,ah,a8 jb⟩ ?_ ?_ ?_
   ·rintro a t I _ ⟨x1,rfl,_,E⟩;exact cK.of (E _ _ (z _ _ g6))
   ·rintro a x2 t I c ⟨x1,rfl,L,E⟩;rw [cW] at c
    cases Cm:r.used[a]? with
    | none=>rw [Cm] at c;cases c
    | some j=>
     rw [Cm] at c;cases c;have zk:=fY Cm;have hjn:=A.uses num (fY n) r lN j zk;have rA:j∈ns.take (m+1):=by rw [et];exact iE _ (Z9 A.up n hjn (yY.2 j zk))
     have dg:eS I d (.int (j:Int)) (some (.int (ns.idxOf j:Int))):=by have:=eS.k (k:=Sum.inl (j:Int)) (E _ _ Rt);rw [zh j rA] at this;exact this
     refine (aa U (aa U ⟨d,_,U,dg,_,L,?_,_,U,?_,λb o e=>?_⟩))
     ·rw [ak,ak,iC];exact fe (EH yY.1)
     ·rw [ah,jo,Cm,d_,d_];rfl
     ·rw [ag (a7 e jb)];exact E _ _ e
   ·rintro t I ⟨x1,rfl,L,E⟩;have dE:r.used.take (r.used.map λi:Nat=>V.int (i:Int)).length=r.used:=by rw [ak];exact i5
    rw [dE] at L;refine ⟨Da,_,U,.inl ⟨ai.of L,λx ϩ=>⟨dj U,λD HN=>?_⟩⟩⟩;have s7:=a8 (o:=.tup ((r.used.map λj=>ns.idxOf j).map λi:Nat=>V.int (i:Int))) ϩ;have e7:upd I x (.tup ((r.used.map λj=>ns.idxOf j).map λi:Nat=>V.int (i:Int))) x=some (.tup ((r.used.map λj=>ns.idxOf j).map λi:Nat=>V.int (i:Int))):=ah;generalize upd I x (.tup ((r.used.map λj=>ns.idxOf j).map λi:Nat=>V.int (i:Int)))=H7 at*;have s8:=a8 (o:=.tup [.ref y,.str (j0 r.word),.ref x]) HN;have e8:upd H7 D (.tup [.ref y,.str (j0 r.word),.ref x]) D=some (.tup [.ref y,.str (j0 r.word),.ref x]):=ah;generalize upd H7 D (.tup [.ref y,.str (j0 r.word),.ref x])=J at*;have v:=(E.trans s7).trans s8;have Rk:=v _ _ Rl;refine (kK Rk (by rw [ak,vb];exact xI (by lia)) ?_);have X:∀{b:Addr} {o:HO},J b=some o->b≠pl->upd J pl (.lst (p.map V.ref++[.ref D])) b=some o:=λe ne=>by rw [ag ne];exact e
    have G:∀{b:Addr} {xs:List V},J b=some (.tup xs)->upd J pl (.lst (p.map V.ref++[.ref D])) b=some (.tup xs):=λe=>X e (cI e Rk nofun);refine ⟨_,_,_,p++[D],U,X (v _ _ Rt) Rz,cQ (wq _ _ _) (ug zi),zh,?_,by rw [dw,vb];rfl,?_,X (v _ _ eF) lp,λb o e=>X (v _ _ (z _ _ e)) (a7 e Qg)⟩
    ·rw [ah,d_];rfl
    ·rw [et,Al];refine wu (gM HS λq r' ⟨Ø,Cc,O,Q,R⟩=>⟨Ø,Cc,G (v _ _ O),G (v _ _ Q),G (v _ _ R)⟩) ?_;have er:vY C ns num=some ⟨r.fm,r.word,r.used.map λj=>ns.idxOf j⟩:=by unfold vY;rw [lN];rfl
     rw [show [num].filterMap (vY C ns)=[⟨r.fm,r.word,r.used.map λj=>ns.idxOf j⟩] by simp [er]];exact .cons ⟨y,x,G e8,G (v _ _ (z _ _ g5)),G (s8 _ _ e7)⟩ .nil
 ·rintro t s ⟨v4,v5,g,p,rfl,_,_,_,N,_,W,Cv,s4⟩;have dE:ns.take (eU ns).length=ns:=by unfold eU;rw [ak];exact i5
  rw [dE] at W;exact c3 _ _ (aa U (k pl s ns p Qg s4 A N W))
end
def nC (F:dO) (x:pX):Bool:=match F x.2.1 with
 | some f=>decide (f.2.1<x.2.2) && decide (x.2.2<=f.2.2)
 | none=>false
def L1:Sp:=λa H Q _=>∃(d q:Addr) (F:dO) (x:pX) (f:Nat×Int×Int),a=[.ref d,.ref q]/\lz H d F/\gR H q x/\F x.2.1=some f/\Q (.bl (nC F x)) H
section
theorem Pk:cb ["by_end","wait","fall"] ę (aJ d7):=c9
theorem mx (F:Fn K mg "is_told" d7 ę f fd):af P w K mg base aq 1 f fd ę L1:=by
 refine F.F.cJ Pk λ_ A _ s H _ Q E r h=>?_;obtain ⟨d,q,j,x,a,rfl,i,g,e,k⟩:=h;have t:=kr r;refine ⟨_,aO (cg 2 Pk.nd (lA t (pv 0) (aN (pv 1)) (λ_ _=>rfl)))
  (ax (b_ (DY rZ jS (aN (pv 2)) (aN (pv 1)) (aN (pv 2))))),?_⟩
 obtain ⟨y,o,v,u,n⟩:=i.at_;obtain ⟨p,l,b⟩:=n _ _ e;have m:nC j x=(decide (a.2.1<x.2.2) && decide (x.2.2<=a.2.2)):=by unfold nC;rw [e]
 rw [m] at k;refine (aa U (aa U (aL g U ⟨d,_,U,l▸eS.k (k:=Sum.inl (x.2.1:Int)) o,?_⟩)));refine (aa U (aL b U (aa U (aL g U (ri ⟨_,U,?_⟩)))))
 by_cases c:a.2.1<x.2.2
 ·rw [jr c] at k;refine ig c (aa U (aL b U (ri ?_)));exact k
 ·rw [fz c] at k;exact j4 c k
def YA (H0 H:Hp) (r:Addr) (st:MU.St) (F:dO):Prop:=∃a b c d L M,H r=some (.tup [.str "rule",.ref a,.ref b])/\H a=some (.lst (c.map V.ref))/\Paired (gR H) c L/\nj st true L/\
 H b=some (.lst (d.map V.ref))/\Paired (gR H) d (M.filter (nC F))/\nj st false M/\H0 a=none/\H0 b=none/\a≠b
def YO (H0 H:Hp) (r:Addr) (st:MU.St) (b:Nat):Prop:=∃l a c,H r=some (.tup [.str "paper",.ref l])/\H l=some (.lst (c.map V.ref))/\Paired (mL H) c (xP st.rows a)/\rQ st.rows b a/\H0 l=none
def j6 (n:Nat) (la:Int) (T F:List (List Int)) (a:Nat):MU.St:=MU.run n (fj F) (lr n la T F) a
def Dz (f:Addr):Sp:=λg H Q _=>∃(e:Addr) (n:Nat) (a:Int) (T F:List (List Int)) (d:Nat),g=[.ref e]/\gA f H e (n:Int) a T F/\c_ (n:Int) a T F/\vE n (fj F) (lr n a T F) d/\
 ∀r c,H r=none->ao H c->(∀b,(j6 n a T F d).bar=some b->YO H c r (j6 n a T F d) b->Q (.ref r) c)/\((j6 n a T F d).bar=none->YA H c r (j6 n a T F d) (fj F)->Q (.ref r) c)
theorem Fx:cb ["web","closing","waits"] iv (aJ eO):=c9
theorem Xg:hV (aJ eO) ["web","closing","waits"] (jY [(".0",.local),("wait",.local),("is_told",.globalImplicit),("closing",.free)]) ["wait","closing"] [none,some 1]:=jZ
theorem WW:(["wait","closing"]:List Str).Nodup:=by decide+kernel
theorem qZ (F:Fn K mg "kept" eO iv f fd) (T:mM K mg C) (M:Mk K C fI) (hC:mg "Closing"=some (.ref C))
 (bI:cY K zJ Ġ []) (GI:af P w K mg base aq 4 fI zJ Ġ (Lq C CW))
 (mA:gc K C "draw_all" fA) (bA:cY K fdA qq []) (GA:af P w K mg base aq 5 fA fdA qq (P5 C))
 (mB:gc K C "best_drawn" fB) (bB:cY K jJ ė []) (GB:af P w K mg base aq 1 fB jJ ė (Kw C))
 (FP:Fn K mg "paper_up_to" bw Ċ fP fdP) (GP:af P w K mg base aq 2 fP fdP Ċ Lz)
 (FT:Fn K mg "is_told" d7 ę fT iP) (GT:af P w K mg base aq 1 fT iP ę L1):af P w K mg base aq 6 f fd iv (Dz CW):=by
 refine F.F.cJ Fx λ_ x5 _ x8 H _ x7 x6 hr x3=>?_;obtain ⟨wb,n,s,t,rF,Te,rfl,W0,a4,hE,x2⟩:=x3;have gO:cA 1 _:=hr.mono (by decide);have wI:cA 2 _:=hr.mono (by decide);refine ⟨_,cf (n9 (i:=1) Fx.nd U (Or.inr U) (DJ M GI hr U hC bI .nil eK (aU (pv 0))))
  (cf (eg (pB (pv 1) T.cl mA GA hr bA .nil eK))
  (cf (dG (dF Lg (dY (pv 1) U) zev) (ax (b_ (eN (bp eV (bM GP wI FP (bp (dY (pv 1) U) (dY (pv 1) U))))))) dH)
  (cf (DK (i:=2) Fx.nd U U U (f9 (iU (pv 1) T.cl mB GB gO bB .nil eK (aU eV))) Xg (λcl ex s0 H0=>⟨bH 0 WW,xQ (sg (bM GT gO FT (bp (px (K:=K) U (pv 1) U) (pv 0)))),pv 0⟩))
  (ax (b_ (eN (gv eV (iU (pv 1) T.cl mB GB gO bB .nil eK (aU eV)) (pv 2)))))))),?_⟩
 have n2:=a4.n2;refine λN1 c1=>(aa U (λp m hp QV _=>?_));have W1:gA CW (upd (upd H m (.own p)) p (.ins C m [])) wb (n:Int) s t rF:=W0.same λb o e=>by rw [ag (a7 e hp),ag (a7 e QV)];exact e
 have sU:∀b o,H b=some o->upd (upd H m (.own p)) p (.ins C m []) b=some o:=λb o e=>by rw [ag (a7 e hp),ag (a7 e QV)];exact e
 refine ⟨p,wb,m,n,s,t,rF,U,ah,W1,a4,λH2 X rl bd c2 _ jW IG k2=>⟨U,c1 _ _ ?_⟩⟩;have s2:ao H H2:=λb o e=>k2 _ _ (sU _ _ e) (a7 e hp);have sT:∀{b:Addr},upd (upd H m (.own p)) p (.ins C m []) b=none->H b=none:=λ{b} e=>by
  cases q:H b with
  | none=>rfl
  | some x=>rw [sU _ _ q] at e;cases e
 have Ca:=sT jW;have Cw:=sT IG;clear c1 N1;obtain ⟨Ry,lO⟩:=c2.ins;refine λN2 RD=>(aa U (ip lO (lV) ⟨p,X,rl,bd,n,_,_,Te,U,c2,EL a4,a4.Cu,ui n2,hE,λH3 B h k3=>RD _ _ ?_⟩));clear RD;have IE:MU.run n (fj rF) (lr n s t rF) Te=j6 n s t rF Te:=U;rw [IE] at B h;have N:ao H H3:=λb o e=>k3 _ _ (s2 _ _ e) (a7 e hp) (a7 e Ca) (a7 e Cw);have hU:gz (j6 n s t rF Te):=Bh (Fe _ _ E') Te;have m_:(j6 n s t rF Te).rows.length<=16000000:=hE.m_ Te (ar _);generalize j6 n s t rF Te=st at*;obtain ⟨dx3,wK⟩:=B.ins;obtain ⟨qs,rp,bY⟩:=B.rows;refine λN3 RC=>(aa U (cS wK T.cl T.nX AD ⟨U,ct ?_⟩));have J:∀{k:Hp} {b:Addr},ao H k->k b=none->H b=none:=λ{k b} ss e=>by
  cases q:H b with
  | none=>rfl
  | some x=>rw [ss _ _ q] at e;cases e
 cases rB:st.bar with
 | some b=>
  obtain ⟨r0,va,_⟩:=hU.2 b rB;have hb:=(cO.mp va).1;refine qg U (aa U (cS wK T.cl T.nR qi (aa U (cS wK T.cl T.nX AD ⟨rl,qs,st.rows,b,by rw [rB];rfl,rp,bY,hU.1,hb,by lia,λl H4 ns z hl4 A hN Y rr=>⟨dj U,λx1 G=>?_⟩⟩))));have c:=a8 (o:=.tup [.str "paper",.ref l]) G;have O:=(N.trans A).trans c;exact (x2 x1 _ (J (N.trans A) G) O).1 b rB ⟨l,ns,z,ah,c _ _ Y,gM rr λq x1 e=>e.same c,hN,J N hl4⟩
 | none=>
  refine i7 U (RC _ _ ?_);clear RC N3;have Hx:∀{Q:Bool} {L:List pX},nj st Q L->L.length<=64/\∀x∈L,∃w',w'.tie=Q/\w'.b=x.2.1/\∃j,aj st j=some w':=λ{Q L} hB=>by
   have mem:∀x∈L,∃w',w'.tie=Q/\w'.a=x.1/\w'.b=x.2.1/\∃j,aj st j=some w':=λx d=>by
    obtain ⟨a,b,v⟩:=x;have hv:=(hB.has a b v).mp d;unfold val at hv
    cases I:st.best (Q,a,b) with
    | none=>rw [I] at hv;cases hv
    | some j=>
     obtain ⟨w',h1,h2⟩:=h.good.at_ _ _ I;have h4:=gT h2;exact ⟨w',h4.1,h4.2.1,h4.2.2,j,h1⟩
   refine ⟨?_,λx d=>?_⟩
   ·have oB:(L.map λx=>x.1*8+x.2.1).Nodup:=by
     have h0:=hB.once;unfold List.Nodup at h0 ⊢;rw [oQ] at h0 ⊢;refine CQ (λ{x y} d r e x4=>e ?_) h0;obtain ⟨R,_,_,b1,j1,e1⟩:=mem x d;obtain ⟨w2,_,_,b2,j2,e2⟩:=mem y r;have l1:=h.good.lt _ _ e1;have l2:=h.good.lt _ _ e2;exact Prod.ext (by show x.1=y.1;lia) (by show x.2.1=y.2.1;lia)
    have:=su 64 _ oB λx4 hz=>by obtain ⟨x,d,rfl⟩:=eQ.mp hz;obtain ⟨R,_,a1,b1,j1,e1⟩:=mem x d;have l1:=h.good.lt _ _ e1;show x.1*8+x.2.1<64;lia
    rwa [ak] at this
   ·obtain ⟨R,h1,_,h2,h3⟩:=mem x d;exact ⟨R,h1,h2,h3⟩
  refine λN4 c4=>(aa U (ip wK (lV) ⟨p,X,rl,bd,n,_,st,false,U,B,h.good,ui n2,by lia,λl H4 z M _ A Y rr hM=>⟨l,U,⟨_,ai.of Y⟩,λS jb=>?_⟩⟩));obtain ⟨hM64,hMw⟩:=Hx hM;have vc:z.length=M.length:=kd rr;have RB:=B.same A;refine sG (K:=K) (a:=l) (xs:=z.map V.ref) (λi gy k=>∃v g,gy=[v,some (.ref p)]/\k S=some (.lst (g.map V.ref))/\Paired (gR k) g ((M.take i).filter (nC (fj rF)))/\g.length<=i/\ao H4 k) ⟨none,[],U,ah,.nil,ar _,a8 jb⟩ ?_ ?_ ?_
  ·rintro i gy W _ ⟨v,g,rfl,_,_,_,c⟩;exact ai.of (c _ _ Y)
  ·rintro i y gy W r ⟨v,g,rfl,u,E,Iq,c⟩;rw [cW] at r
   cases I:z[i]? with
   | none=>rw [I] at r;cases r
   | some q=>
    rw [I] at r;cases r;obtain ⟨x,d,QJ⟩:=aF rr I;have hi:i<M.length:=(cO.mp d).1;obtain ⟨R,t1,b1,j1,g1⟩:=hMw x (fY d);obtain ⟨fa,QU⟩:=h.ends j1 R g1 t1;rw [b1] at QU;have D:=RB.same c;obtain ⟨dx5,HW⟩:=D.ins;have et:M.take (i+1)=M.take i++[x]:=by rw [jo,d];rfl
    refine (aa U (cS HW T.cl T.nB P1 (aa U ⟨X,q,_,x,fa,U,D.jK,QJ.same c,QU,_,U,?_⟩)))
    cases ht:nC (fj rF) x with
    | true=>
     refine km (aa U ⟨_,u,?_,_,g++[q],U,?_,?_,?_,λb o e=>?_⟩)
     ·rw [ak];exact fe (by lia)
     ·rw [ah,d_];rfl
     ·rw [et,J_];have kp:∀b y,gR W b y->gR (upd W S (.lst (g.map V.ref++[.ref q]))) b y:=λb y e=>by
       unfold gR;rw [ag (cI e u nofun)];exact e
      refine wu (gM E kp) ?_;rw [show [x].filter (nC (fj rF))=[x] by simp [ht]];exact .cons (kp _ _ (QJ.same c)) .nil
     ·rw [dw];show g.length+1<=i+1;exact ug Iq
     ·rw [ag (a7 e jb)];exact c _ _ e
    | false=>
     refine gJ ⟨_,g,U,u,?_,by exact gQ Iq,c⟩;rw [et,J_];rw [show [x].filter (nC (fj rF))=[] by simp [ht],rL];exact E
  ·rintro gy W ⟨v,g,rfl,u,E,Iq,c⟩;have dE:M.take (z.map V.ref).length=M:=by rw [ak,vc];exact i5
   rw [dE] at E;refine c4 _ _ ?_;have D:=RB.same c;obtain ⟨dx5,HW⟩:=D.ins;have O:=(N.trans A).trans c;refine (aa U (ip HW (lV) ⟨p,X,rl,bd,n,_,st,true,U,D,h.good,ui n2,by lia,λl6 H6 Ù L QO s6 el6 HR hL=>(aa U ⟨dj U,λx1 G=>?_⟩)⟩));have s7:=a8 (o:=.tup [.str "rule",.ref l6,.ref S]) G;have GG:=s6.trans s7;exact (x2 x1 _ (J (O.trans s6) G) (O.trans GG)).2 rB ⟨l6,S,Ù,g,L,M,ah,s7 _ _ el6,gM HR λq x e=>e.same s7,hL,GG _ _ u,gM E λq x e=>e.same GG,hM,J O QO,J (N.trans A) jb,(a7 u QO).symm⟩
end
end Y0
namespace L2
open PySem PySem.Spec PyProof.Rows
def bc (n:Nat) (t:Nat->Int):List V:=(List.range n).map λi=>V.int (t i)
theorem md:(bc n t).length=n:=by unfold bc;rw [ak,i4]
theorem AR (h:i<n):(bc n t)[i]?=some (.int (t i)):=by unfold bc;rw [cW,List.getElem?_range h];rfl
theorem j7 (h:i<n):gP (bc n t) (i:Int)=some (.int (t i)):=iH (AR h)
theorem YX (h:i<n):mV n (i:Int)=some i:=by unfold mV;rw [if_pos (by exact gW (i+0)),if_pos (yj h)];simp
theorem sd (h:i<n):mV (bc n t).length (i:Int)=some i:=by rw [md];exact YX h
theorem vT:(bc n t).set i (.int v)=bc n (MB.put t i v):=by
 apply List.ext_getElem?;intro j;rw [List.getElem?_set,md]
 by_cases a:j<n
 ·rw [AR a,AR a];unfold MB.put
  by_cases e:i=j
  ·subst e;simp [a]
  ·rw [if_neg e,if_neg λz=>e z.symm]
 ·have b:∀c:Nat->Int,(bc n c)[j]?=none:=λc=>List.getElem?_eq_none_iff.mpr (by rw [md];exact jt a);rw [b,b];split
  ·split
   ·lia
   ·rfl
  ·rfl
theorem xO:(List.replicate n [V.int v]).flatten=bc n (λ_=>v):=by
 induction n with
 | zero=>rfl
 | succ n a=>
  rw [List.replicate_succ',List.flatten_append,a];unfold bc;rw [t8,d_];rfl
theorem By (h:∀i,i<n->t i=u i):bc n t=bc n u:=by unfold bc;refine CK λi a=>?_;rw [h i (pP.mp a)]
theorem sv (s:ao H0 H) (h:H0 a=none):ao H0 (upd H a o):=λb u e=>by rw [ag (a7 e h)];exact s b u e
end L2
namespace Y0
open PySem L2
seal L2.kT L2.il L2.iu L2.fV L2.gS L2.hQ L2.ir L2.iq L2.gf Y0.aB
def hI (ring:List Nat):List V:=ring.map λ(i:Nat)=>V.int (i:Int)
def K2:Sp:=λc H Q _=>∃(a:Addr) (x N:Nat) (p:Nat->Nat),c=[.ref a,.int (x:Int)]/\H a=some (.lst (bc N λi=>(p i:Int)))/\1<=N/\N<=8/\(∀i,p i<N)/\x<N/\
 ∀ring l b,n6 p N x ring->H l=none->ao H b->b l=some (.lst (hI ring))->Q (.ref l) b
structure oT (K:aY) (mg:Str->Option Value) (C Mo fI:Addr):Prop where
 range:mg "range"=none
 len:mg "len"=none
 list:mg "list"=none
 ex:nk K C Mo fI
 ba:Py K Mo
 mo:mg "MomentError"=some (.ref Mo)
 nR:PySem.W.findIn K (.ref C) "ring"=some none
 yS:mg "NoTimes"=some (.ref C)
def P6 (C:Addr):Sp:=λc H Q _=>∃x r b,c=[.ref x,.ref r]/\H x=some (iF x C none)/\H r=some (.lst b)/\b.length<=1000/\
 ∀d l a,H d=none->H l=none->a x=some (iF x C (some d))->a d=some (ju d [("ring",.ref l)])->a l=some (.lst b)->cx x H a->Q .a9 a
section
theorem XE:cb Ĝ Ĝ (aJ cE):=c9
theorem uP (F:gb K "__init__" "NoTimes.__init__" cE fI fd) (T:oT K mg C Mo fI):af P w K mg base aq 1 fI fd Ĝ (P6 C):=by
 refine F.cJ XE λ_ A _ s H _ Q E y h=>?_;obtain ⟨x,r,g,rfl,l,m,_,k⟩:=h;refine ⟨_,aO (eg (Zj T.ba U T.mo (bp (pv 0) (qB uu (by rfl) T.list (by decide+kernel) (aU (pv 1))))))
  (ax (ZM (pv 0) (qB uu (by rfl) T.list (by decide+kernel) (aU (pv 1))) U)),?_⟩
 refine (aa U (aa U ⟨r,_,U,.inl (ai.of m),λq p=>?_⟩));have a:=a8 (o:=.lst g) p;refine ⟨x,_,C,Mo,fI,none,U,a _ _ l,T.ex,dj U,?_⟩;refine (aa U ⟨r,_,U,.inl (ai.of (a _ _ m)),λc j=>?_⟩);have f:=a.trans (a8 (o:=.lst g) j);refine (aa U ⟨x,C,Mo,fI,U,f _ _ l,T.ex,T.nR,λd i n=>?_⟩);have u:c≠x:=a6 (a7 l (a.free j));have t:c≠d:=a7 (H:=upd (upd H q (.lst g)) c (.lst g)) ah i;refine k d c _ (f.free i) (a.free j) ?_ ah ?_ λb o e v=>?_
 ·rw [ag (a6 n),ah]
 ·rw [ag t,ag u,ah]
 ·rw [ag (a7 (f _ _ e) i),ag v];exact f _ _ e
abbrev å:List Str:=["pushers","moment","start","step","ring"]
theorem y9:cb å Ē (aJ cq):=c9
theorem NP (r:List Nat) (x:Nat):hI (r++[x])=hI r++[V.int (x:Int)]:=by unfold hI;rw [d_];rfl
theorem qU (F:Fn K mg "ring_behind" cq Ē f fd) (T:oT K mg C Mo fI):af P w K mg base aq 1 f fd Ē K2:=by
 refine F.F.cJ y9 λ_ x1 _ x4 H _ x3 x2 hr h=>?_;obtain ⟨a,x,N,p,rfl,s,N1,N8,B,O,k⟩:=h;refine ⟨_,aO (cg 2 y9.nd (pv 1))
  (aO (fJ ft U (qC U T.range (aU (iB ur (by rfl) T.len vy (aU (pv 0))))) (bH 3 y9.nd)
   (ax (cg 2 y9.nd (cu cR (pv 0) (pv 2)))))
  (aO (cg 4 y9.nd (iJ (aU (pv 2))))
  (aO (M5 ft (dF AH (cu cR (pv 0) (cu cR (pv 4) (nt nG a0))) (pv 2))
   (ax (eg (kE kY kf kX jT (pv 4) (aU (cu cR (pv 0) (cu cR (pv 4) (nt nG a0))))))))
  (ax (b_ (pv 4)))))),?_⟩
 have Q:∀j,MA.it p j x<N:=λj=>MA.A8 (λy _=>B y) O j;have R:∀j,MA.it p j (MA.it p N x)<N:=λj=>MA.A8 (λy _=>B y) (Q N) j;refine (aa U (aa U ⟨a,_,U,.inl (ai.of s),(N:Int),(by rw [md]),by exact gW (N+Nat.succ 4611686018427387903),by lia,?_⟩));refine yo (n:=((N:Int)).toNat) (λi b c=>∃v,b=[some (.ref a),some (.int (x:Int)),some (.int (MA.it p i x:Int)),v,none]/\c=H) ⟨none,U,U⟩ ?_ ?_
 ·rintro i b c _ ⟨v,rfl,rfl⟩;exact (aa U (ij U s (j7 (Q i)) ⟨_,U,U⟩))
 ·rintro b c ⟨v,rfl,rfl⟩;rw [gG];obtain ⟨Cd,Y,lO,Z⟩:=MA.Zw (λy _=>B y) O (n:=N);refine (aa U ⟨dj U,λl A=>?_⟩);have s0:=a8 (o:=.lst [V.int (MA.it p N x:Int)]) A;refine ⟨λm b q=>∃L,1<=L/\L+m=Cd/\(∀j,0<j->j<L->MA.it p j (MA.it p N x)≠MA.it p N x)/\b=[some (.ref a),some (.int (x:Int)),some (.int (MA.it p N x:Int)),v,some (.ref l)]/\ao c q/\
   q l=some (.lst (hI ((List.range L).map λj=>MA.it p j (MA.it p N x)))),⟨Cd-1,1,ar _,kI Y,(λj E G=>by lia),U,s0,ah⟩,?_⟩
  rintro m b q ⟨L,r,Lm,J,rfl,t,d⟩;have W:(List.range L).map (λj=>MA.it p j (MA.it p N x))=(List.range (L-1)).map (λj=>MA.it p j (MA.it p N x))++[MA.it p (L-1) (MA.it p N x)]:=by have:L=(L-1)+1:=Nf r;rw [this,t8,d_];rfl
  have I:gP (hI ((List.range L).map λj=>MA.it p j (MA.it p N x))) (-1)=some (.int (MA.it p (L-1) (MA.it p N x):Int)):=by rw [W,NP];exact SM _ _
  have u:p (MA.it p (L-1) (MA.it p N x))=MA.it p L (MA.it p N x):=by have:L=(L-1)+1:=Nf r;rw [this];rfl
  refine (aa U (aa U ⟨_,U,wB d I (wB (t _ _ s) (j7 (R _)) (aa U ⟨U,ct ?_⟩))⟩));refine iG (λg=>?_) (λg=>?_)
  ·have M:MA.it p L (MA.it p N x)≠MA.it p N x:=λz=>by
    rw [u,z] at g;simp at g
   have IK:L≠Cd:=λz=>M (z▸Z);refine ⟨λb D=>∃S,S<m/\∃L,1<=L/\L+S=Cd/\(∀j,0<j->j<L->MA.it p j (MA.it p N x)≠MA.it p N x)/\b=[some (.ref a),some (.int (x:Int)),some (.int (MA.it p N x:Int)),v,some (.ref l)]/\ao c D/\
    D l=some (.lst (hI ((List.range L).map λj=>MA.it p j (MA.it p N x)))),λb c z=>z,?_⟩
   refine (aa U ⟨.inl ⟨U,_,ai.of d⟩,aa U (aa U ⟨_,U,wB d I (wB (t _ _ s) (j7 (R _)) (kK d ?_ ?_))⟩)⟩)
   ·unfold hI;rw [ak,ak,i4];exact fe (by lia)
   ·refine ⟨m-1,by lia,L+1,by exact gQ r,by lia,λj E G=>?_,U,sv t A,?_⟩
    ·by_cases e:j=L
     ·rw [e];exact M
     ·exact J j E (pE G e)
    ·rw [ah,t8,d_,u];exact congrArg (λz=>some (HO.lst z)) (NP _ _).symm
  ·have X:MA.it p L (MA.it p N x)=MA.it p N x:=by
    rw [u] at g;simp at g;lia
   exact (aa U (k _ l q ⟨L,r,by lia,U,X,J⟩ A t d))
end
def aZ:List Int->MB.B3
 | [a,b,m]=>(a.toNat,b.toNat,m)
 | _=>(0,0,0)
def Idx (N:Nat) (rows:List (List Int)):Prop:=∀r∈rows,∃(a b:Nat) (m:Int),r=[(a:Int),(b:Int),m]/\a<N/\b<N
theorem Idx.Hx (h:Idx N rows):MB.Kf N (rows.map aZ):=λx d=>by obtain ⟨r,c,rfl⟩:=eQ.mp d;obtain ⟨a,b,m,rfl,e,f⟩:=h r c;show (a:Int).toNat<N/\(b:Int).toNat<N;lia
def qV:Option Nat->V
 | none=>.a9
 | some x=>.int (x:Int)
theorem Kt:(qV q=.a9)↔q=none:=by cases q<;>simp [qV]
def xT (e:Addr):Sp:=λf H Q E=>∃(N:Nat) (a:Addr) (c:List (List Int)),f=[.int (N:Int),.ref a]/\1<=N/\N<=8/\dP H a c/\Idx N c/\
 (∀k l b,k<N->(a_ (c.map aZ) (k+1)).q=none->H l=none->ao H b->b l=some (.lst (bc N (a_ (c.map aZ) (k+1)).t))->Q (.ref l) b)/\
 ((∀k,k<N->(a_ (c.map aZ) (k+1)).q≠none)->∀x d l ring b,(a_ (c.map aZ) N).q=some x->n6 (a_ (c.map aZ) N).p N x ring->H d=none->H l=none->ao H b->
   b d=some (ju d [("ring",.ref l)])->b l=some (.lst (hI ring))->E (.ref e) (some d) b)
section
abbrev ê:List Str:=["many","bounds","times","pushers","turn","pushed","a","b","most"]
theorem qe:cb ê ą (aJ aw):=c9
theorem oz (F:Fn K mg "earliest_times" aw ą f fd) (T:oT K mg C Mo fI) (bI:cY K zJ Ĝ [])
 (GI:af P w K mg base aq 1 fI zJ Ĝ (P6 C)) (FR:Fn K mg "ring_behind" cq Ē fR JB) (GR:af P w K mg base aq 1 fR JB Ē K2):
 af P w K mg base (cX P w) 3 f fd ą (xT C):=by
 refine F.F.mz qe λ_ x8 _ BX H _ nP x9 hr x3=>?_;obtain ⟨N,a,rows,rfl,v,N8,⟨ps,R⟩,wN,kq,ke⟩:=x3;have gO:cA 1 _:=hr.mono (by decide);have hB:=wN.Hx;generalize Ra:rows.map aZ=B at*;refine ⟨_,aO (cg 2 qe.nd (cv xF (iJ (aU a0)) (pv 0)))
  (aO (cg 3 qe.nd (cv xF (iJ (aU a0)) (pv 0)))
  (aO (Ks (fJ ft U (qC U T.range (aU (pv 0))) (bH 4 qe.nd)
   (aO (cg 5 qe.nd zev)
   (aO (fJ ft U (f9 (pv 1)) (ql U (e_ (bH 6 qe.nd) (e_ (bH 7 qe.nd) (e_ (bH 8 qe.nd) qr))))
    (ax (dG (dF rZ (cu cR (pv 2) (pv 6)) (cv i9 (cu cR (pv 2) (pv 7)) (pv 8)))
     (aO (qm (cv i9 (cu cR (pv 2) (pv 7)) (pv 8)) (qk (pv 2) (pv 6) qy))
     (aO (qm (pv 7) (qk (pv 3) (pv 6) qy))
     (ax (cg 5 qe.nd (pv 6))))) dH)))
   (ax (dG (dF Dp (pv 5) zev) (ax (b_ (pv 2))) dH))))))
  (ax (SX (SU T.ex GI hr U T.yS bI eK (aU (bM GR gO FR (bp (pv 3) (pv 5))))))))),?_⟩
 refine ⟨dj U,λz1 yV=>(aa U ⟨z1,_,_,U,U,ah,by exact gW (N+Nat.succ 9223372036854775807),by lia,?_,λh y_=>?_⟩)⟩
 ·show 1*((N:Int)).toNat<=sizeLine;exact aR (fe (by lia))
 rw [gG,xO];have s1:=a8 (o:=.lst [V.int 0]) yV;have s2:=s1.trans (a8 (o:=.lst (bc N λ_=>0)) y_);have yZ:H h=none:=s1.free y_;have et:upd (upd H z1 (.lst [V.int 0])) h (.lst (bc N λ_=>0)) h=some (.lst (bc N λ_=>0)):=ah;generalize upd (upd H z1 (.lst [V.int 0])) h (.lst (bc N λ_=>0))=H2 at*;refine ⟨dj U,λz2 yU=>(aa U ⟨z2,_,_,U,U,ah,by exact gW (N+Nat.succ 9223372036854775807),by lia,?_,λpa E=>?_⟩)⟩
 ·show 1*((N:Int)).toNat<=sizeLine;exact aR (fe (by lia))
 rw [gG,xO];have I:=a8 (o:=.lst [V.int 0]) yU;have s4:=I.trans (a8 (o:=.lst (bc N λ_=>0)) E);have HV:H pa=none:=s2.free (I.free E);have ep:upd (upd H2 z2 (.lst [V.int 0])) pa (.lst (bc N λ_=>0)) pa=some (.lst (bc N λ_=>0)):=ah;have tp:h≠pa:=a7 et (I.free E);have et4:=s4 _ _ et;have sH:=s2.trans s4;clear s1 s2 I s4 yV yU y_ E;generalize upd (upd H2 z2 (.lst [V.int 0])) pa (.lst (bc N λ_=>0))=H4 at*;refine (aa U ⟨(N:Int),U,by exact gW (N+Nat.succ 4611686018427387903),by lia,?_⟩);refine yo (n:=((N:Int)).toNat) (λi l p=>∃v4 A J L M,l=[some (.int (N:Int)),some (.ref a),some (.ref h),some (.ref pa),v4,A,J,L,M]/\p h=some (.lst (bc N (a_ B i).t))/\
  p pa=some (.lst (bc N λj=>((a_ B i).p j:Int)))/\ao H p/\(∀j,j<i->(a_ B (j+1)).q≠none)/\(i=0\/A=some (qV (a_ B i).q))) ⟨none,none,none,none,none,U,et4,ep,sH,(λj hj=>absurd hj (mG _)),.inl U⟩ ?_ ?_
 ·rintro i l H5 hi ⟨v4,A,J,L,M,rfl,t5,p5,t,D,_⟩;rw [gG] at hi;have R5:=R.same t;refine (aa U ⟨a,U,⟨_,ai.of R5.1⟩,iA (K:=K) (a:=a) (xs:=ps.map V.ref) (λj l p=>∃O Q W,l=[some (.int (N:Int)),some (.ref a),some (.ref h),some (.ref pa),some (.int (0+(i:Int))),some (qV ((B.take j).foldl fw (lX (a_ B i))).q),O,Q,W]/\
   p h=some (.lst (bc N ((B.take j).foldl fw (lX (a_ B i))).t))/\p pa=some (.lst (bc N λx=>(((B.take j).foldl fw (lX (a_ B i))).p x:Int)))/\ao H p) ⟨J,L,M,U,t5,p5,t⟩ ?_ ?_ ?_⟩)
  ·rintro j l u _ ⟨O,Q,W,rfl,_,_,g⟩;exact ai.of (g _ _ R.1)
  ·rintro j x l u r ⟨O,Q,W,rfl,k,s,g⟩;obtain ⟨x6,x7,rfl,_,lN,jX⟩:=R.get r;obtain ⟨b,c,m,e4,X,mX⟩:=wN x7 (fY lN);subst e4;have IS:B[j]?=some (b,c,m):=by
    rw [<-Ra,cW,lN];show some ((b:Int).toNat,(c:Int).toNat,m)=_;rw [gG,gG]
   have zL:(B.take (j+1)).foldl fw (lX (a_ B i))=fw ((B.take j).foldl fw (lX (a_ B i))) (b,c,m):=by rw [jo,IS,tK];rfl
   generalize (B.take j).foldl fw (lX (a_ B i))=S at*;rw [zL];refine ⟨x6,_,U,cK.of (g _ _ jX),U,_,_,U,_,_,U,_,_,U,U,?_⟩;refine (aa U (ij U k (j7 X) (aa U (ij U k (j7 mX) (aa U (ri (ri (ct ?_))))))));refine iG (λq=>?_) (λq=>?_)
   ·have Y:S.t b<S.t c-m:=by simpa using q
    have y:fw S (b,c,m)=⟨MB.put S.t b (S.t c-m),MB.put S.p b c,some b⟩:=by unfold fw;exact if_pos Y
    rw [y];refine (aa U (ij U k (j7 mX) (aa U (ri (aa U (aa U ⟨h,_,_,_,U,U,k,sd X,?_⟩))))));have p7:upd u h (.lst ((bc N S.t).set b (.int (S.t c-m)))) pa=some (.lst (bc N λx=>(S.p x:Int))):=by rw [ag (a6 tp)];exact s
    refine (aa U (aa U (aa U ⟨pa,_,_,_,U,U,p7,sd X,?_⟩)));refine (aa U ⟨_,_,_,U,?_,?_,sv (sv g yZ) HV⟩)
    ·rw [ag tp,ah,vT]
    ·rw [ah,vT];refine congrArg (λx1=>some (HO.lst x1)) (By λx _=>?_);show (if x=b then (c:Int) else (S.p x:Int))=((if x=b then c else S.p x:Nat):Int);split<;>rfl
   ·have Y:¬S.t b<S.t c-m:=by simpa using q
    have y:fw S (b,c,m)=S:=by unfold fw;exact if_neg Y
    rw [y];exact ⟨_,_,_,U,k,s,g⟩
  ·rintro l u ⟨O,Q,W,rfl,k,s,g⟩;have IQ:B.take (ps.map V.ref).length=B:=by
    rw [ak,R.len,<-Ra,<-ak (f:=aZ)];exact i5
   rw [IQ] at k s ⊢;have y:B.foldl fw (lX (a_ B i))=a_ B (i+1):=U;rw [y] at k s ⊢;refine (aa U ⟨U,ct ?_⟩);refine iG (λq=>?_) (λq=>?_)
   ·have z:(a_ B (i+1)).q=none:=Kt.mp (by simpa using q);exact (aa U (kq i h u hi z yZ g k))
   ·have z:(a_ B (i+1)).q≠none:=λx1=>q (by simpa using Kt.mpr x1);refine ⟨_,_,_,_,_,U,k,s,g,λj hj=>?_,.inr U⟩
    by_cases e:j=i
    ·rw [e];exact z
    ·exact D j (pE hj e)
 ·rintro l H5 ⟨v4,A,J,L,M,rfl,t5,p5,t,D,G⟩;rw [gG] at*;have G:A=some (qV (a_ B N).q):=G.resolve_left (by exact tD v);have z:(a_ B N).q≠none:=by
   have:=D (N-1) (Ng v)
   rwa [show N-1+1=N by exact UW v] at this
  cases r:(a_ B N).q with
  | none=>exact absurd r z
  | some x=>
   rw [r] at G;subst G;have rA:=MB.Nn (n:=N) (by exact v) hB N;refine (aa U (aa U ⟨pa,x,N,_,U,p5,v,N8,rA.p,rA.q x r,λring x5 u iO _ g e6=>?_⟩));refine ⟨dj U,λea Z=>?_⟩;have s7:=a8 (o:=iF ea C none) Z;refine ⟨ea,x5,_,U,ah,s7 _ _ e6,?_,λd l2 H7 hd wL ex ed el kp=>⟨U,ea,C,Mo,fI,some d,U,ex,T.ex,t.free (g.free Z),?_⟩⟩
   ·unfold hI;obtain ⟨kJ,_,hL,e,_⟩:=iO;rw [e,ak,ak,i4];lia
   have dea:d≠ea:=a6 (a7 ah hd);have ü:l2≠ea:=a6 (a7 ah wL);have sA:=(t.trans g).trans s7;refine ke (λx4 hk=>D x4 hk) x d l2 ring _ r iO (sA.free hd) (sA.free wL) (λx2 o e=>?_) ?_ ?_
   ·have RH:x2≠ea:=a7 ((t.trans g) _ _ e) Z;rw [qA RH];exact kp _ _ (sA _ _ e) RH
   ·rw [qA dea];exact ed
   ·rw [qA ü];exact el
end
end Y0
namespace L2
open PySem PySem.Spec PyProof.Rows
structure iI (H:Hp) (l:Addr) (rs:List Addr) (N:Nat) (T:Nat->Nat->Int):Prop where
 top:H l=some (.lst (rs.map V.ref))
 len:rs.length=N
 row:∀(i:Nat) r,rs[i]?=some r->H r=some (.lst (bc N (T i)))
 inj:∀(i j:Nat) r,rs[i]?=some r->rs[j]?=some r->i=j
 ne:∀(i:Nat) r,rs[i]?=some r->r≠l
theorem iI.has (h:iI H l rs N T) (a:i<N):∃r,rs[i]?=some r:=⟨rs[i]'(by rw [h.len];exact a),by simp [h.len,a]⟩
theorem iI.at_ {N:Nat} (h:iI H l rs N T) {i:Nat} (a:rs[i]?=some r):gP (rs.map V.ref) (i:Int)=some (.ref r):=iH (by rw [cW,a];rfl)
theorem iI.set (h:iI H l rs N T) (f:rs[a]?=some r):
 iI (upd H r (.lst ((bc N (T a)).set b (.int v)))) l rs N (λi j=>if i=a/\j=b then v else T i j):=by
 refine ⟨by rw [ag (a6 (h.ne a r f))];exact h.top,h.len,λi q e=>?_,h.inj,h.ne⟩
 by_cases d:q=r
 ·subst d;have:i=a:=h.inj i a q e f;subst this;rw [ah,vT];refine congrArg (λz=>some (HO.lst z)) (By λj _=>?_);unfold MB.put
  by_cases c:j=b
  ·rw [if_pos c,if_pos ⟨U,c⟩]
  ·rw [if_neg c,if_neg λz=>c z.2]
 ·have:i≠a:=λz=>d (by rw [z,f] at e;exact (ff e).symm);rw [ag d,h.row i q e];refine congrArg (λz=>some (HO.lst z)) (By λj _=>?_);rw [if_neg λz=>this z.1]
theorem iI.congr (h:iI H l rs N T) (e:∀i j,i<N->j<N->T i j=T' i j):iI H l rs N T':=by
 refine ⟨h.top,h.len,λi r a=>?_,h.inj,h.ne⟩;have b:i<N:=by rw [<-h.len];exact (cO.mp a).1
 rw [h.row i r a,By λj c=>e i j b c]
end L2
namespace Y0
open PySem L2
seal L2.kT L2.il L2.iu L2.fV L2.gS L2.hQ L2.ir L2.iq L2.gf Y0.aB
structure W9 (mg:Str->Option Value):Prop where
 range:mg "range"=none
 list:mg "list"=none
 min:mg "min"=none
end Y0
namespace MB
theorem Zv (h:s.q≠none):(fw s x).q≠none:=by
 unfold fw;split
 ·simp
 ·exact h
theorem KQ:∀{B:List B3} {s:Rx},s.q≠none->(B.foldl fw s).q≠none
 | [],_,h=>h
 | x::B,_,h=>KQ (B:=B) (Zv h)
theorem NN:∀{B:List B3} {s:Rx},s.q=none->(B.foldl fw s).q=none->B.foldl fw s=s/\∀x∈B,s.t x.2.1-s.t x.1<=x.2.2
 | [],_,_,_=>⟨U,λx h=>nomatch h⟩
 | x::B,s,b,h=>by
  rw [vq] at h ⊢
  by_cases a:s.t x.1<s.t x.2.1-x.2.2
  ·exact absurd h (KQ (by unfold fw;rw [if_pos a];simp))
  ·have e:fw s x=s:=by unfold fw;rw [if_neg a]
   rw [e] at h ⊢;obtain ⟨c,d⟩:=NN (B:=B) b h;refine ⟨c,λy f=>?_⟩;rcases eR.mp f with q | q
   ·subst q;lia
   ·exact d y q
theorem quiet (h:(a_ B (k+1)).q=none):(a_ B (k+1)).t=(a_ B k).t/\∀x∈B,(a_ B (k+1)).t x.2.1-(a_ B (k+1)).t x.1<=x.2.2:=by obtain ⟨a,b⟩:=NN (B:=B) (s:=lX (a_ B k)) U h;have e:a_ B (k+1)=lX (a_ B k):=a;rw [e];exact ⟨U,b⟩
end MB
namespace Y0
open PySem L2
seal L2.kT L2.il L2.iu L2.fV L2.gS L2.hQ L2.ir L2.iq L2.gf Y0.aB
theorem Nm:∀{k i:Nat},1<=i->i<=k->[0,(i:Int),la]∈jj la k/\[(i:Int),0,0]∈jj la k
 | 0,i,c,d=>by lia
 | k+1,i,c,d=>by
  unfold jj
  by_cases e:i=k+1
  ·subst e;have:((k+1:Nat):Int)=(k:Int)+1:=by lia
   rw [this];exact ⟨jq _ fh,jq _ (gI _ fh)⟩
  ·obtain ⟨a,b⟩:=Nm (la:=la) (k:=k) c (by lia);exact ⟨iE _ a,iE _ b⟩
theorem Md:∀{k:Nat},k<N->Idx N (jj la k)
 | 0,_=>λr b=>nomatch b
 | k+1,a=>λr b=>by
  unfold jj at b;rcases gH.mp b with h | h
  ·exact Md (k:=k) (by exact aR a) r h
  ·have e:(k:Int)+1=((k+1:Nat):Int):=by lia
   rcases eR.mp h with h | h
   ·exact ⟨0,k+1,la,by rw [h,e];rfl,ES a,a⟩
   ·rw [g_.mp h];exact ⟨k+1,0,0,by rw [e];rfl,a,ES a⟩
theorem EC {N:Nat}:∀{rows:List (List Int)},(∀r∈rows,∃a b l m:Int,r=[a,b,l,m]/\0<=a/\a<N/\0<=b/\b<N)->Idx N (jx rows)
 | [],_=>λr e=>nomatch e
 | r::t,h=>λx f=>by
  unfold jx at f;rw [eG,wY] at f;rcases gH.mp f with z | z
  ·obtain ⟨a,b,l,m,rfl,c,g,d,i⟩:=h r fh;rcases eR.mp z with z | z
   ·exact ⟨a.toNat,b.toNat,m,by rw [z,kZ c,kZ d],yl c g,yl d i⟩
   ·rw [g_.mp z];exact ⟨b.toNat,a.toNat,-l,by rw [kZ c,kZ d],yl d i,yl c g⟩
  ·exact EC (rows:=t) (λr e=>h r (gI _ e)) x z
theorem Idx.append (c:Idx N a) (d:Idx N b):Idx N (a++b):=λr e=>(gH.mp e).elim (c r) (d r)
theorem c_.idx {N:Nat} {la:Int} {T F:List (List Int)} (h:c_ (N:Int) la T F):Idx N (bG (N:Int) la T F):=by
 unfold bG;have:=h.n1;refine ((Md (by omega)).append (EC λr i=>?_)).append (EC λr i=>?_)
 ·obtain ⟨a,b,l,m,e,c,d,f,g,_⟩:=h.t r i;exact ⟨a,b,l,m,e,c,d,f,g⟩
 ·obtain ⟨a,b,l,m,e,c,d,f,g,_⟩:=h.f r i;exact ⟨a,b,l,m,e,c,d,by exact gk f,g⟩
theorem Kr {N:Nat} {la:Int} {T F:List (List Int)} {k:Nat} (r:1<=la) (h:(a_ ((bG (N:Int) la T F).map aZ) (k+1)).q=none):xk N la ((bG (N:Int) la T F).map aZ) (a_ ((bG (N:Int) la T F).map aZ) (k+1)).t:=by
 obtain ⟨_,b⟩:=MB.quiet h;have a:∀i,1<=i->i<N->(a_ ((bG (N:Int) la T F).map aZ) (k+1)).t i-(a_ ((bG (N:Int) la T F).map aZ) (k+1)).t 0<=la/\(a_ ((bG (N:Int) la T F).map aZ) (k+1)).t 0-(a_ ((bG (N:Int) la T F).map aZ) (k+1)).t i<=0:=λi c d=>by obtain ⟨m,n⟩:=Nm (la:=la) (k:=((N:Int)-1).toNat) c (TR d);have o:=b (0,i,la) (eQ.mpr ⟨[0,(i:Int),la],iE _ (iE _ m),U⟩);have p:=b (i,0,0) (eQ.mpr ⟨[(i:Int),0,0],iE _ (iE _ n),U⟩);exact ⟨o,p⟩
 refine ⟨λi j e f q=>?_,b⟩
 by_cases g:i=0
 ·subst g;exact (a j (by lia) f).1
 ·by_cases l:j=0
  ·subst l;have:=(a i (by lia) e).2;lia
  ·have c:=a i (by lia) e;have d:=a j (by lia) f;lia
def DN (C:Addr):Sp:=λg H Q _=>∃(p d:Addr) (N:Nat) (c:Int) (T F a:List (List Int)) (f:Nat->Int),g=[.ref p,.ref d]/\gA C H p (N:Int) c T F/\1<=N/\N<=8/\dP H d a/\Idx N a/\xk N c (a.map aZ) f/\
 ∀l e b,H l=none->(∀r∈e,H r=none)->ao H b->iI b l e N (pq N c (a.map aZ))->Q (.ref l) b
section
abbrev Qr:List Str:=["web","bounds","moments","table","moment","a","b","most","via"]
theorem oY:cb Qr Č (aJ aW):=c9
theorem Xk:hV (aJ aW) Qr (jY [(".0",.local),("moment",.local),("web",.free)]) ["moment","web"] [none,some 0]:=jZ
theorem W':(["moment","web"]:List Str).Nodup:=by decide+kernel
theorem oh (F:Fn K mg "tight_table" aW Č f fd) (T:W9 mg) (Q:iS K mg C):af P w K mg base aq 1 f fd Č (DN C):=by
 refine F.F.cJ oY λ_ x7 _ nP H _ x9 x8 hr x5=>?_;obtain ⟨x1,J,N,k,rT,rF,A,pt,rfl,W0,N1,N8,⟨bs,x4⟩,wN,G_,x6⟩:=x5;refine ⟨_,aO (cg 2 oY.nd (OL U U T.list U T.range (aU (dY (pv 0) U))))
  (aO (DK (i:=3) oY.nd U U U (f9 (pv 2)) Xk (λcl ex s0 H0=>⟨bH 0 W',nI,cv xF (iJ (aU (px (K:=K) U (pv 1) U))) (px (K:=K) U (pv 1) U)⟩))
  (aO (fJ ft U (f9 (pv 2)) (bH 4 oY.nd) (ax (qm a0 (qk (cu cR (pv 3) (pv 4)) (pv 4) qy))))
  (aO (fJ ft U (f9 (pv 1)) (ql U (e_ (bH 5 oY.nd) (e_ (bH 6 oY.nd) (e_ (bH 7 oY.nd) qr))))
   (ax (qm (iB (uo U) (by rfl) T.min (by decide+kernel) (bp (cu cR (cu cR (pv 3) (pv 5)) (pv 6)) (pv 7))) (qk (cu cR (pv 3) (pv 5)) (pv 6) qy))))
  (aO (fJ ft U (f9 (pv 2)) (bH 8 oY.nd)
   (ax (fJ ft U (f9 (pv 2)) (bH 5 oY.nd)
    (ax (fJ ft U (f9 (pv 2)) (bH 6 oY.nd)
     (ax (qm (iB (uo U) (by rfl) T.min (by decide+kernel) (qp (cu cR (cu cR (pv 3) (pv 5)) (pv 6))
      (aU (cv ik (cu cR (cu cR (pv 3) (pv 5)) (pv 8)) (cu cR (cu cR (pv 3) (pv 8)) (pv 6))))))
      (qk (cu cR (pv 3) (pv 5)) (pv 6) qy))))))))
  (ax (b_ (pv 3))))))),?_⟩
 obtain ⟨dx,ta,fa,hp,_,_⟩:=id W0;refine (aa U (cS hp Q.cl Q.nM (l_ _ _ _ _) ⟨N,U,by lia,λg hmo=>?_⟩));have s1:=a8 (o:=.lst ((List.range N).map λ(i:Nat)=>V.int (i:Int))) hmo;have e1:upd H g (.lst ((List.range N).map λ(i:Nat)=>V.int (i:Int))) g=some (.lst (bc N λi=>(i:Int))):=ah;generalize upd H g (.lst ((List.range N).map λ(i:Nat)=>V.int (i:Int)))=H1 at*;have zX:∀{i:Nat} {x:V},(bc N λi=>(i:Int))[i]?=some x->i<N/\x=.int (i:Int):=λ{i x} e=>by
  have m:i<N:=by
   have:=(cO.mp e).1
   rwa [md] at this
  rw [AR m] at e;exact ⟨m,(ff e).symm⟩
 refine (aa U ⟨g,U,⟨_,ai.of e1⟩,λl hl=>?_⟩);have hl0:H l=none:=s1.free hl;refine sG (xs:=bc N λi=>(i:Int)) (λj d c=>∃v,∃b:List Addr,d=[v,some (.ref x1)]/\c l=some (.lst (b.map V.ref))/\b.length=j/\(∀(i:Nat) r,b[i]?=some r->c r=some (.lst (bc N λ_=>k)))/\
  (∀(i j:Nat) r,b[i]?=some r->b[j]?=some r->i=j)/\(∀(i:Nat) r,b[i]?=some r->r≠l)/\(∀(i:Nat) r,b[i]?=some r->H1 r=none)/\ao H1 c) ?_ ?_ ?_ ?_
 ·exact ⟨none,[],U,ah,U,(λi r e=>by simp at e),(λi j r e=>by simp at e),(λi r e=>by simp at e),(λi r e=>by simp at e),a8 hl⟩
 ·rintro j d H2 _ ⟨v,b,rfl,_,_,_,_,_,_,G⟩;exact ai.of (G _ _ e1)
 ·rintro j x d H2 s ⟨v,b,rfl,el,hlen,rn,rz,kQ,ry,G⟩;obtain ⟨hj,rfl⟩:=zX s;have lO:=G _ _ (s1 _ _ hp);refine (aa U (cS lO Q.cl Q.nL (KH _ _ _ _) ⟨dj U,λq hq=>?_⟩));have I:=a8 (o:=.lst [V.int k]) hq;refine (aa U (cS (I _ _ lO) Q.cl Q.nM (l_ _ _ _ _) ⟨q,_,_,U,U,ah,by exact gW (N+Nat.succ 9223372036854775807),by lia,?_,λr h=>?_⟩))
  ·show 1*((N:Int)).toNat<=sizeLine;exact aR (fe (by lia))
  rw [gG,xO];have u:=I.trans (a8 (o:=.lst (bc N λ_=>k)) h);have er:upd (upd H2 q (.lst [V.int k])) r (.lst (bc N λ_=>k)) r=some (.lst (bc N λ_=>k)):=ah;have M:H2 r=none:=I.free h;generalize upd (upd H2 q (.lst [V.int k])) r (.lst (bc N λ_=>k))=H4 at*;have Cv:=u _ _ el;have rl:r≠l:=a6 (a7 el M);refine ⟨_,Cv,?_,_,b++[r],U,by rw [ah,d_];rfl,by rw [dw,hlen];rfl,?_,?_,?_,?_,?_⟩
  ·rw [ak,hlen];exact fe (by lia)
  ·intro i r' e
   by_cases m:i<b.length
   ·rw [ic m] at e;rw [ag (kQ i r' e)];exact u _ _ (rn i r' e)
   ·rw [iD (j8 m)] at e;have E:r=r':=by
     cases q:i-b.length with
     | zero=>rw [q] at e;exact ff e
     | succ x3=>rw [q] at e;cases e
    rw [<-E,ag rl];exact er
  ·have out:∀i,b[i]?=some r->False:=λi e=>by
    rw [rn i r e] at M;cases M
   have last:∀i r',b.length<=i->(b++[r])[i]?=some r'->i=b.length/\r'=r:=λi r' m e=>by
    rw [iD m] at e
    cases q:i-b.length with
    | zero=>rw [q] at e;exact ⟨by lia,(ff e).symm⟩
    | succ x3=>rw [q] at e;cases e
   intro i Z r' e E
   by_cases m:i<b.length
   ·rw [ic m] at e
    by_cases pI:Z<b.length
    ·rw [ic pI] at E;exact rz i Z r' e E
    ·obtain ⟨_,rfl⟩:=last Z r' (j8 pI) E;exact (out i e).elim
   ·obtain ⟨h1,rfl⟩:=last i r' (j8 m) e
    by_cases pI:Z<b.length
    ·rw [ic pI] at E;exact (out Z E).elim
    ·obtain ⟨h2,_⟩:=last Z r' (j8 pI) E;lia
  ·intro i r' e
   by_cases m:i<b.length
   ·rw [ic m] at e;exact kQ i r' e
   ·rw [iD (j8 m)] at e
    cases q:i-b.length with
    | zero=>rw [q] at e;rw [<-ff e];exact rl
    | succ x3=>rw [q] at e;cases e
  ·intro i r' e
   by_cases m:i<b.length
   ·rw [ic m] at e;exact ry i r' e
   ·rw [iD (j8 m)] at e
    cases q:i-b.length with
    | zero=>rw [q] at e;rw [<-ff e];exact G.free M
    | succ x3=>rw [q] at e;cases e
  ·intro kJ o e;rw [ag (a7 e hl)];exact u _ _ (G _ _ e)
 ·rintro d H2 ⟨v,b,rfl,el,hlen,rn,rz,kQ,ry,G⟩;rw [md] at hlen;have TA:iI H2 l b N (λ_ _=>k):=⟨el,hlen,rn,rz,kQ⟩;have sH:ao H H2:=s1.trans G;have em:=G _ _ e1;have yO:∀{i:Nat} {r:Addr},b[i]?=some r->H r=none:=λ{i r} e=>s1.free (ry i r e);have Ñ:∀{i:Nat} {r:Addr},b[i]?=some r->g≠r:=λ{i r} e=>a7 e1 (ry i r e);have keepR:∀{c:Hp} {i:Nat} {r:Addr} {o:HO},b[i]?=some r->ao H c->c g=some (.lst (bc N λi=>(i:Int)))->ao H (upd c r o)/\upd c r o g=some (.lst (bc N λi=>(i:Int))):=λ{c i r o} e s' em'=>
   ⟨sv s' (yO e),by rw [ag (Ñ e)];exact em'⟩
  refine (aa U ⟨g,U,⟨_,ai.of em⟩,iA (K:=K) (a:=g) (xs:=bc N λi=>(i:Int)) (λi d c=>∃v,d=[some (.ref x1),some (.ref J),some (.ref g),some (.ref l),v,none,none,none,none]/\iI c l b N (λx y=>if x=y/\x<i then 0 else k)/\ao H c/\c g=some (.lst (bc N λi=>(i:Int))))
   ⟨none,U,TA.congr (λi j _ _=>by rw [if_neg (by lia)]),sH,em⟩ ?_ ?_ ?_⟩)
  ·rintro i d H3 _ ⟨v,rfl,_,_,zN⟩;exact ai.of zN
  ·rintro i x d H3 s ⟨v,rfl,B,I,zN⟩;obtain ⟨m,rfl⟩:=zX s;obtain ⟨r,h⟩:=B.has m;refine (aa U (ij U B.top (B.at_ h) (aa U ⟨r,_,_,_,U,U,B.row i r h,sd m,?_⟩)));obtain ⟨u,X⟩:=keepR (o:=.lst ((bc N λy=>if i=y/\i<i then (0:Int) else k).set i (.int 0))) h I zN;refine ⟨_,U,(B.set h).congr (λx y _ _=>?_),u,X⟩
   by_cases h1:x=i/\y=i
   ·rw [if_pos h1,if_pos (by lia)]
   ·rw [if_neg h1]
    by_cases h2:x=y/\x<i
    ·rw [if_pos h2,if_pos (by lia)]
    ·rw [if_neg h2,if_neg (by lia)]
  ·rintro d H3 ⟨v,rfl,B,I,zN⟩;rw [md] at B;have B:iI H3 l b N (MB.T0 k):=B.congr λx y s _=>by
    unfold MB.T0
    by_cases e:x=y
    ·rw [if_pos ⟨e,s⟩,if_pos e]
    ·rw [if_neg λx3=>e x3.1,if_neg e]
   have R3:=x4.same I;refine (aa U ⟨J,U,⟨_,ai.of R3.1⟩,iA (K:=K) (a:=J) (xs:=bs.map V.ref) (λi d c=>∃v5 v6 O,d=[some (.ref x1),some (.ref J),some (.ref g),some (.ref l),v,v5,v6,O,none]/\iI c l b N (lW ((A.map aZ).take i) (MB.T0 k))/\ao H c/\c g=some (.lst (bc N λi=>(i:Int))))
    ⟨none,none,none,U,B,I,zN⟩ ?_ ?_ ?_⟩)
   ·rintro i d H4 _ ⟨v5,v6,O,rfl,_,u,_⟩;exact ai.of (u _ _ x4.1)
   ·rintro i x d H4 s ⟨v5,v6,O,rfl,z,u,X⟩;obtain ⟨q,r0,rfl,_,va,jX⟩:=x4.get s;obtain ⟨R,W,x2,e4,Cr,mX⟩:=wN r0 (fY va);subst e4;have IS:(A.map aZ)[i]?=some (R,W,x2):=by
     rw [cW,va];show some ((R:Int).toNat,(W:Int).toNat,x2)=_;rw [gG,gG]
    have est:lW ((A.map aZ).take (i+1)) (MB.T0 k)=MB.xy (lW ((A.map aZ).take i) (MB.T0 k)) (R,W,x2):=by unfold lW;rw [jo,IS,tK];rfl
    rw [est];generalize lW ((A.map aZ).take i) (MB.T0 k)=TT at*;obtain ⟨r,h⟩:=z.has Cr;refine ⟨q,_,U,cK.of (u _ _ jX),U,_,_,U,_,_,U,_,_,U,U,?_⟩;refine (aa U (ij U z.top (z.at_ h) (ij U (z.row _ _ h) (j7 mX) (aa U ⟨_,_,U,?_⟩))));refine (aa U (ij U z.top (z.at_ h) (aa U ⟨r,_,_,_,U,U,z.row _ _ h,sd mX,?_⟩)));obtain ⟨s5,L⟩:=keepR (o:=.lst ((bc N (TT R)).set W (.int (if x2<TT R W then x2 else TT R W)))) h u X;refine ⟨_,_,_,U,(z.set h).congr (λx y _ _=>?_),s5,L⟩;rw [xJ];rfl
   ·rintro d H4 ⟨v5,v6,O,rfl,z,u,X⟩;have IQ:(A.map aZ).take (bs.map V.ref).length=A.map aZ:=by
     rw [ak,x4.len,<-ak (f:=aZ)];exact i5
    rw [IQ] at z;refine (aa U ⟨g,U,⟨_,ai.of X⟩,iA (K:=K) (a:=g) (xs:=bc N λi=>(i:Int)) (λi d c=>∃D p u8,d=[some (.ref x1),some (.ref J),some (.ref g),some (.ref l),v,D,p,O,u8]/\iI c l b N (tN (lW (A.map aZ) (MB.T0 k)) i)/\ao H c/\c g=some (.lst (bc N λi=>(i:Int))))
     ⟨v5,v6,none,U,z,u,X⟩ ?_ ?_ ?_⟩)
    ·rintro i d H5 _ ⟨D,p,u8,rfl,_,_,L⟩;exact ai.of L
    ·rintro t x d H5 s ⟨D,p,u8,rfl,G5,s5,L⟩;obtain ⟨sY,rfl⟩:=zX s;have tab:=MB.Mn G_ t (by exact aR sY);have dk:=tab.zP t sY;have enx:tN (lW (A.map aZ) (MB.T0 k)) (t+1)=MA.pass t (tN (lW (A.map aZ) (MB.T0 k)) t):=U;rw [enx];generalize tN (lW (A.map aZ) (MB.T0 k)) t=TT at*;refine (aa U ⟨g,U,⟨_,ai.of L⟩,iA (K:=K) (a:=g) (xs:=bc N λi=>(i:Int)) (λi d c=>∃D p,d=[some (.ref x1),some (.ref J),some (.ref g),some (.ref l),v,D,p,O,some (.int (t:Int))]/\iI c l b N (MA.mix t i 0 TT)/\ao H c/\c g=some (.lst (bc N λi=>(i:Int))))
      ⟨D,p,U,G5.congr (λx y _ _=>by rw [MA.Tr]),s5,L⟩ ?_ ?_ ?_⟩)
     ·rintro i d H6 _ ⟨D,p,rfl,_,_,Y⟩;exact ai.of Y
     ·rintro S x d H6 s ⟨D,p,rfl,G6,s6,Y⟩;obtain ⟨haa,rfl⟩:=zX s;refine (aa U ⟨g,U,⟨_,ai.of Y⟩,iA (K:=K) (a:=g) (xs:=bc N λi=>(i:Int)) (λi d c=>∃p,d=[some (.ref x1),some (.ref J),some (.ref g),some (.ref l),v,some (.int (S:Int)),p,O,some (.int (t:Int))]/\iI c l b N (MA.mix t S i TT)/\ao H c/\c g=some (.lst (bc N λi=>(i:Int))))
       ⟨p,U,G6,s6,Y⟩ ?_ ?_ ?_⟩)
      ·rintro i d H7 _ ⟨p,rfl,_,_,zM⟩;exact ai.of zM
      ·rintro bb x d H7 s ⟨p,rfl,n,s7,zM⟩;obtain ⟨vj,rfl⟩:=zX s;obtain ⟨r,h⟩:=n.has haa;obtain ⟨r2,M⟩:=n.has sY;refine (aa U (ij U n.top (n.at_ h) (ij U (n.row _ _ h) (j7 vj) ?_)));refine (aa U (ij U n.top (n.at_ h) (ij U (n.row _ _ h) (j7 sY) ?_)));refine (aa U (ij U n.top (n.at_ M) (ij U (n.row _ _ M) (j7 vj) (ri ⟨_,_,U,?_⟩))));refine (aa U (ij U n.top (n.at_ h) (aa U ⟨r,_,_,_,U,U,n.row _ _ h,sd vj,?_⟩)));rw [xJ,MA.SG,MA.Ze dk,MA.Zd dk];obtain ⟨s8,em8⟩:=keepR (o:=.lst ((bc N (MA.mix t S bb TT S)).set bb (.int (min (TT S bb) (TT S t+TT t bb))))) h s7 zM;exact ⟨_,U,(n.set h).congr (λx y _ _=>MA.Tq x y),s8,em8⟩
      ·rintro d H7 ⟨p,rfl,n,s7,zM⟩;rw [md] at n;exact ⟨_,_,U,n.congr (λx y _ hy=>MA.SH hy),s7,zM⟩
     ·rintro d H6 ⟨D,p,rfl,G6,s6,Y⟩;rw [md] at G6;exact ⟨_,_,_,U,G6.congr (λx y s _=>MA.Zc s),s6,Y⟩
    ·rintro d H5 ⟨D,p,u8,rfl,G5,s5,L⟩;rw [md] at G5;exact (aa U (x6 l b H5 hl0 (λr hr=>by obtain ⟨i,e⟩:=rM.mp hr;exact yO e) s5 G5))
end
def AY (C e:Addr):Sp:=λf H Q E=>∃(p:Addr) (N:Nat) (b:Int) (T F:List (List Int)),f=[.ref p]/\gA C H p (N:Int) b T F/\c_ (N:Int) b T F/\
 (∀k l c a,k<N->(a_ ((bG (N:Int) b T F).map aZ) (k+1)).q=none->H l=none->(∀r∈c,H r=none)->ao H a->iI a l c N (pq N b ((bG (N:Int) b T F).map aZ))->Q (.ref l) a)/\
 ((∀k,k<N->(a_ ((bG (N:Int) b T F).map aZ) (k+1)).q≠none)->∀x d l ring a,(a_ ((bG (N:Int) b T F).map aZ) N).q=some x->n6 (a_ ((bG (N:Int) b T F).map aZ) N).p N x ring->H d=none->H l=none->ao H a->
   a d=some (ju d [("ring",.ref l)])->a l=some (.lst (hI ring))->E (.ref e) (some d) a)
section
theorem Pn:cb Č iv (aJ dm):=c9
theorem oe (F:Fn K mg "tight" dm iv f fd) (n:iS K mg C)
 (v:Fn K mg "told_bounds" a5 iv J jJ) (y:af P w K mg base aq 3 J jJ iv (vO C))
 (g:Fn K mg "earliest_times" aw ą fE pM) (z:af P w K mg base (cX P w) 3 fE pM ą (xT I))
 (x:Fn K mg "tight_table" aW Č fT iP) (A:af P w K mg base aq 1 fT iP Č (DN C)):
 af P w K mg base (cX P w) 4 f fd iv (AY C I):=by
 refine F.F.mz Pn λ_ x5 _ x8 x6 _ x7 E e h=>?_;obtain ⟨p,N,r,u,t,rfl,i,c,kq,ke⟩:=h;have R:cA 1 _:=e.mono (by decide);have n1:=c.n1;have s:=c.n2;refine ⟨_,aO (cg 1 Pn.nd (bM y e v (aU (pv 0))))
  (aO (eg (vU z e U g.g g.F.kp g.b .nil (xA (E:=E) λ_ _ _ x4=>x4) (bp (dY (pv 0) U) (pv 1))))
  (ax (b_ (bM A R x (bp (pv 0) (pv 1)))))),?_⟩
 refine (aa U ⟨p,_,r,u,t,U,i,c,λo H1 _ a m=>?_⟩);obtain ⟨dx,ta,fa,Q,_,_⟩:=id (i.same a);refine (aa U (cS Q n.cl n.nM (l_ _ _ _ _) (aa U ⟨N,o,_,U,by lia,ui s,m,c.idx,λx1 tl k M q _ b _=>?_,λO x3 d l ring k hx S L j b D H=>?_⟩)))
 ·refine (aa U (aa U ⟨p,o,N,r,u,t,_,_,U,(i.same a).same b,by lia,ui s,m.same b,c.idx,Kr c.l1 q,λl rs B j T s3 G=>?_⟩));exact kq x1 l rs B M q (a.free (b.free j)) (λx2 e=>a.free (b.free (T x2 e))) ((a.trans b).trans s3) G
 ·exact ke O x3 d l ring k hx S (a.free L) (a.free j) (a.trans b) D H
end
def Dy (C c:Addr):Sp:=λe H Q E=>∃(p:Addr) (N:Nat) (b:Int) (T F:List (List Int)),e=[.ref p]/\gA C H p (N:Int) b T F/\c_ (N:Int) b T F/\
 (∀k l a,k<N->(a_ ((bG (N:Int) b T F).map aZ) (k+1)).q=none->H l=none->ao H a->a l=some (.lst (bc N (a_ ((bG (N:Int) b T F).map aZ) (k+1)).t))->Q (.ref l) a)/\
 ((∀k,k<N->(a_ ((bG (N:Int) b T F).map aZ) (k+1)).q≠none)->∀x d l ring a,(a_ ((bG (N:Int) b T F).map aZ) N).q=some x->n6 (a_ ((bG (N:Int) b T F).map aZ) N).p N x ring->H d=none->H l=none->ao H a->a d=some (ju d [("ring",.ref l)])->a l=some (.lst (hI ring))->E (.ref c) (some d) a)
def D_ (C c:Addr):Sp:=λe H Q E=>∃(p:Addr) (N:Nat) (b:Int) (T F:List (List Int)),e=[.ref p]/\gA C H p (N:Int) b T F/\c_ (N:Int) b T F/\
 (∀k l a,k<N->(a_ ((bG (N:Int) b T F).map aZ) (k+1)).q=none->H l=none->ao H a->a l=some (.lst (bc N (pq N b ((bG (N:Int) b T F).map aZ) 0)))->Q (.ref l) a)/\
 ((∀k,k<N->(a_ ((bG (N:Int) b T F).map aZ) (k+1)).q≠none)->∀x d l ring a,(a_ ((bG (N:Int) b T F).map aZ) N).q=some x->n6 (a_ ((bG (N:Int) b T F).map aZ) N).p N x ring->H d=none->H l=none->ao H a->a d=some (ju d [("ring",.ref l)])->a l=some (.lst (hI ring))->E (.ref c) (some d) a)
theorem X9:cb iv iv (aJ cB):=c9
theorem Yp:cb iv iv (aJ dn):=c9
theorem jF (F:Fn K mg "earliest" cB iv f fd) (i:iS K mg C)
 (n:Fn K mg "told_bounds" a5 iv J jJ) (o:af P w K mg base aq 3 J jJ iv (vO C))
 (c:Fn K mg "earliest_times" aw ą fE pM) (q:af P w K mg base (cX P w) 3 fE pM ą (xT I)):
 af P w K mg base (cX P w) 4 f fd iv (Dy C I):=by
 refine F.F.mz X9 λ_ x1 _ x4 x2 _ x3 E m h=>?_;obtain ⟨p,N,S,V,T,rfl,j,b,R,Q⟩:=h;have n1:=b.n1;have n2:=b.n2;refine ⟨_,ax (b_ (vU q m U c.g c.F.kp c.b .nil (xA (E:=E) λ_ _ _ z=>z) (bp (dY (pv 0) U) (bM o m n (aU (pv 0)))))),?_⟩;obtain ⟨dx,ta,fa,G,_,_⟩:=id j;refine (aa U (cS G i.cl i.nM (l_ _ _ _ _) (aa U ⟨p,_,S,V,T,U,j,b,λs H1 Cp a r=>?_⟩)));refine ⟨N,s,_,U,by omega,by omega,r,b.idx,λk W e A H M g t=>?_,λD x d l ring e O L y B g u v=>?_⟩
 ·exact R k W e A H (a.free M) (a.trans g) t
 ·exact Q D x d l ring e O L (a.free y) (a.free B) (a.trans g) u v
theorem mw (F:Fn K mg "latest" dn iv f fd) (a:Fn K mg "tight" dm iv J iP) (e:af P w K mg base (cX P w) 4 J iP iv (AY C I)):
 af P w K mg base (cX P w) 5 f fd iv (D_ C I):=by
 refine F.F.mz Yp λ_ A _ s H _ Q E o h=>?_;obtain ⟨p,N,u,x,v,rfl,j,b,t,r⟩:=h;have D:=b.n1;have L:=b.n2;refine ⟨_,ax (b_ (cu cR (vU e o U a.g a.F.kp a.b .nil (xA (E:=E) λ_ _ _ z=>z) (aU (pv 0))) a0)),?_⟩;refine (aa U ⟨p,N,u,x,v,U,j,b,λk l M g m n B q y G=>?_,r⟩);obtain ⟨d,c⟩:=G.has (i:=0) (by omega);exact jD G.top (G.at_ c) (t k d g m n (q d (fY c)) y (G.row 0 d c))
def gn (T:List (List Int)) (a:List Nat):List (List Int):=a.map λk=>T.getD k []
def Yr (G:Nat->Nat->Int):List Int->Bool
 | [a,b,l,m]=>decide (G a.toNat b.toNat<=m) && decide (G b.toNat a.toNat<=-l)
 | _=>false
def pb (N:Nat) (la:Int) (T F:List (List Int)) (J:List Nat) (at_:Nat):Bool:=Yr (pq N la ((bG (N:Int) la (gn T (List.range at_++J)) F).map aZ)) (T.getD at_ [])
def dX (N:Nat) (la:Int) (T F:List (List Int)):Nat->List Nat
 | 0=>[]
 | i+1=>if pb N la T F (dX N la T F i) (T.length-1-i)=true then dX N la T F i else (T.length-1-i)::dX N la T F i
def nq (N:Nat) (la:Int) (T F:List (List Int)):Nat->List Nat
 | 0=>[]
 | i+1=>if pb N la T F (dX N la T F i) (T.length-1-i)=true then nq N la T F i++[T.length-1-i] else nq N la T F i
def sj (N:Nat) (la:Int) (T F:List (List Int)):List Nat:=(List.range T.length).filter λk=>decide (k∉dX N la T F T.length)
section
variable {N:Nat} {la:Int} {T F:List (List Int)}
theorem Bc:∀{i:Nat},i<=T.length->∀k∈dX N la T F i,T.length-i<=k/\k<T.length
 | 0,_,k,h=>nomatch h
 | i+1,a,k,h=>by
  unfold dX at h;split at h
  ·have:=Bc (i:=i) (by omega) k h;omega
  ·rcases eR.mp h with h | h
   ·omega
   ·have:=Bc (i:=i) (by omega) k h;omega
theorem LX:∀i:Nat,(dX N la T F i).length<=i
 | 0=>ar _
 | i+1=>by
  have:=LX i;unfold dX;split
  ·omega
  ·rw [gw];omega
theorem yg (a b:List Nat):gn T (a++b)=gn T a++gn T b:=d_
theorem Np:gn T (List.range T.length)=T:=by
 unfold gn;apply List.ext_getElem?;intro i;rw [cW]
 by_cases h:i<T.length
 ·rw [List.getElem?_range h];simp [h]
 ·rw [List.getElem?_eq_none (by rw [i4];omega),List.getElem?_eq_none (by omega)];rfl
theorem Fb (i:Nat) (h:i<=T.length):gn T (List.range i)=T.take i:=by
 have e:List.range i=(List.range T.length).take i:=by rw [List.take_range,Nat.min_eq_left h]
 rw [e];unfold gn;rw [List.map_take];exact congrArg (List.take i) Np
theorem Vr (h:∀k∈js,k<T.length):∀r∈gn T js,r∈T:=λr b=>by obtain ⟨k,a,rfl⟩:=eQ.mp b;have:=h k a;rw [vw,df this];exact vv _
theorem LZ (c:pb N la T F (dX N la T F i) (T.length-1-i)=true):dX N la T F (i+1)=dX N la T F i:=if_pos c
theorem LY (c:¬pb N la T F (dX N la T F i) (T.length-1-i)=true):dX N la T F (i+1)=(T.length-1-i)::dX N la T F i:=if_neg c
theorem DT (c:pb N la T F (dX N la T F i) (T.length-1-i)=true):nq N la T F (i+1)=nq N la T F i++[T.length-1-i]:=if_pos c
theorem DS (c:¬pb N la T F (dX N la T F i) (T.length-1-i)=true):nq N la T F (i+1)=nq N la T F i:=if_neg c
theorem DR:∀i:Nat,(nq N la T F i).length<=i
 | 0=>ar _
 | i+1=>by
  have:=DR i
  by_cases c:pb N la T F (dX N la T F i) (T.length-1-i)=true
  ·rw [DT c,dw];show _+1<=_;omega
  ·rw [DS c];omega
theorem Ll:∀{i:Nat},i<=T.length->nq N la T F i=((List.range' (T.length-i) i).filter λk=>decide (k∉dX N la T F i)).reverse
 | 0,_=>rfl
 | i+1,j=>by
  have b:=Ll (i:=i) (by omega);have g:=Bc (N:=N) (la:=la) (T:=T) (F:=F) (i:=i) (by omega);have e:List.range' (T.length-(i+1)) (i+1)=(T.length-1-i)::List.range' (T.length-i) i:=by
   rw [List.range'_succ];have d:T.length-(i+1)=T.length-1-i:=by omega
   have f:T.length-(i+1)+1=T.length-i:=by omega
   rw [f,d]
  have h:(T.length-1-i)∉dX N la T F i:=λz=>by have:=g _ z;omega
  rw [e]
  by_cases c:pb N la T F (dX N la T F i) (T.length-1-i)=true
  ·rw [LZ c,DT c,RY (by simpa using h),List.reverse_cons,b]
  ·rw [LY c,DS c,RX (by simp),b];refine congrArg List.reverse (List.filter_congr λk a=>?_);have a:=List.mem_range'_1.mp a;have:k≠T.length-1-i:=by omega
   simp [this]
theorem Wl (c:ns.Perm ((nq N la T F T.length).map λ(k:Nat)=>(k:Int))) (g:ns.Pairwise (·<=·)):ns=(sj N la T F).map λ(k:Nat)=>(k:Int):=by
 have e:nq N la T F T.length=(sj N la T F).reverse:=by rw [Ll (ar _),Aa];unfold sj;rw [List.range_eq_range']
 rw [e] at c;have i:ns.Perm ((sj N la T F).map λ(k:Nat)=>(k:Int)):=c.trans ((CD _).map _);refine List.Perm.eq_of_pairwise (le:=(·<=·)) (λa b _ _ d f=>Int.le_antisymm d f) g ?_ i;rw [oQ];refine List.Pairwise.imp (R:=(·<·)) (λh=>by omega) ?_;exact List.Pairwise.filter _ List.pairwise_lt_range
theorem c_.sub (h:c_ n la T F) (c:∀r∈C,r∈T) (a:C.length<=24):c_ n la C F:=⟨h.n1,h.n2,h.l1,h.l2,a,h.fl,λr b=>h.t r (c r b),h.f,h.one,h.own⟩
theorem Tn (h:∀r∈a,r∈b):∀x∈jx a,x∈jx b:=λx c=>by unfold jx at c ⊢;obtain ⟨l,d,c⟩:=List.mem_flatten.mp c;obtain ⟨r,e,rfl⟩:=eQ.mp d;exact List.mem_flatten.mpr ⟨_,eQ.mpr ⟨r,h r e,U⟩,c⟩
theorem SJ (b:∀r∈C,r∈T):∀x∈(bG n la C F).map aZ,x∈(bG n la T F).map aZ:=λx c=>by
 obtain ⟨r,a,rfl⟩:=eQ.mp c;refine eQ.mpr ⟨r,?_,U⟩;unfold bG at a ⊢;rcases gH.mp a with h | h
 ·rcases gH.mp h with h | h
  ·exact iE _ (iE _ h)
  ·exact iE _ (jq _ (Tn b _ h))
 ·exact jq _ h
theorem ZK (h:xk N la ((bG (N:Int) la T F).map aZ) p) (a:∀r∈C,r∈T):xk N la ((bG (N:Int) la C F).map aZ) p:=⟨h.la,λx b=>h.b x (SJ a x b)⟩
end
end Y0
namespace L2
open PySem PySem.Spec PyProof.Rows
section
end
section
theorem OJ:∀{ns:List Int} {us:List Value},aX (ns.map V.int) us->IntsAre us ns
 | [],us,h=>by cases h;exact .nil
 | n::r,us,h=>by
  cases h with
  | cons q a=>
   obtain ⟨b,rfl⟩:=q;exact .cons _ _ (OJ a)
theorem MX:∀{us:List Value} {ns:List Int},IntsAre us ns->aX (ns.map V.int) us
 | _,_,.nil=>.nil
 | _,_,.cons _ _ h=>.cons ⟨_,U⟩ (MX h)
theorem VS:nv X (.builtin "sorted") (λxs H Q=>∃(p:Addr) (ns:List Int),xs=[.ref p]/\ai X.K H p (ns.map V.int)/\ns.length<64/\∀(l:Addr) (a:List Int),H l=none->a.Perm ns->a.Pairwise (·<=·)->Q (.ref l) (upd H l (.lst (a.map V.int)))):=by
 intro C s E H xs D Q I r h;obtain ⟨p,ns,rfl,x,g,q⟩:=h;obtain ⟨u,rfl,B⟩:=tQ r;cases B;obtain ⟨c,i,A,_⟩:=I.list x;have n:=OJ i;have v:=i.length;refine sorted_ints (show s.heap.IsList p c.toArray from A.isList) n (by rw [<-v,ak];exact g) λd a j f k=>?_;obtain ⟨e,t⟩:=sortedAll_at s.heap c d;have m:H (s.heap.objs.size+1)=none:=I.a4.fresh (kg _);have y:(a.map V.int).length<=sizeLine:=by rw [ak,f.length_eq];exact aR (gZ g (by decide))
 exact ⟨.ref (s.heap.objs.size+1),_,I.laid (t':=s.toks) (λb o z=>sortedAll_old z) (kg _) (show cZ X.prog X.w _ (sortedAll s.heap c d) _ (.lst (a.map V.int)) from ⟨y,d.toList,e,MX j,by rw [t]⟩),U,q _ _ m f k⟩
end
end L2
namespace Y0
open PySem L2
seal L2.kT L2.il L2.iu L2.fV L2.gS L2.hQ L2.ir L2.iq L2.gf Y0.aB
def Lu:Sp:=λe H Q _=>∃(c p:Addr) (d:List Addr) (N:Nat) (G:Nat->Nat->Int) (a b:Nat) (l m:Int),e=[.ref c,.ref p]/\iI H c d N G/\H p=some (.tup [.int (a:Int),.int (b:Int),.int l,.int m])/\a<N/\b<N/\Q (.bl (decide (G a b<=m) && decide (G b a<=-l))) H
section
variable {P:Program} {w:World} {mg:Str->Option Value} {base:Heap}
theorem XC:cb Ę Ę (aJ bC):=c9
theorem ou (F:Fn K mg "holds_already" bC Ę f fd):af P w K mg base aq 1 f fd Ę Lu:=by
 refine F.F.cJ XC λ_ A _ s H _ Q E o h=>?_;obtain ⟨u,p,t,N,G,a,b,l,m,rfl,c,d,g,i,k⟩:=h;refine ⟨_,ax (b_ (xG (oX jS (cu ua (cu ua (pv 0) (aN (pv 1))) (aN (pv 1))) (aN (pv 1)))
  (Dt (oX jS (cu ua (cu ua (pv 0) (aN (pv 1))) (aN (pv 1))) (nt nG (aN (pv 1))))))),?_⟩
 obtain ⟨q,j⟩:=c.has g;obtain ⟨r,n⟩:=c.has i;refine (aa U (aa U (aL d U ⟨_,_,_,_,U,U,ai.of c.top,c.at_ j,aa U (aL d U ⟨_,_,_,_,U,U,ai.of (c.row _ _ j),j7 i,?_⟩)⟩)));refine (aa U (aL d U (ri ⟨_,U,?_⟩)));refine iG (λe=>?_) (λe=>?_)
 ·refine (aa U (aa U (aL d U ⟨_,_,_,_,U,U,ai.of c.top,c.at_ n,aa U (aL d U ⟨_,_,_,_,U,U,ai.of (c.row _ _ n),j7 g,?_⟩)⟩)));refine (aa U (aL d U ⟨_,U,ri ?_⟩));exact AB k (by rw [e,Bool.true_and])
 ·refine AB k ?_;rw [Bool.not_eq_true] at e;rw [e,Bool.false_and]
theorem w9:cb ["web","left","gone","at","rest"] iv (aJ en):=c9
end
def DM (C c:Addr):Sp:=λe H Q E=>∃(p:Addr) (N:Nat) (b:Int) (T F:List (List Int)),e=[.ref p]/\gA C H p (N:Int) b T F/\c_ (N:Int) b T F/\
 (∀k l a,k<N->(a_ ((bG (N:Int) b T F).map aZ) (k+1)).q=none->H l=none->ao H a->a l=some (.lst (((sj N b T F).map λ(k:Nat)=>(k:Int)).map V.int))->Q (.ref l) a)/\
 ((∀k,k<N->(a_ ((bG (N:Int) b T F).map aZ) (k+1)).q≠none)->∀x d l ring a,(a_ ((bG (N:Int) b T F).map aZ) N).q=some x->n6 (a_ ((bG (N:Int) b T F).map aZ) N).p N x ring->H d=none->H l=none->ao H a->a d=some (ju d [("ring",.ref l)])->a l=some (.lst (hI ring))->E (.ref c) (some d) a)
theorem OI:∀{l:List α} {m:List β} (n:Nat),Paired F l m->Paired F (l.take n) (m.take n)
 | _,_,0,_=>by rw [List.take_zero,List.take_zero];exact .nil
 | _,_,n+1,.nil=>.nil
 | _,_,n+1,.cons r t=>.cons r (OI n t)
theorem OH:∀{l:List α} {m:List β} (n:Nat),Paired F l m->Paired F (l.drop n) (m.drop n)
 | _,_,0,h=>h
 | _,_,n+1,.nil=>.nil
 | _,_,n+1,.cons r t=>OH n t
theorem VA (a:Nat) (J:List Nat):(gn T (List.range a++J)).drop a=gn T J:=by
 have e:(gn T (List.range a)).length=a:=by unfold gn;rw [ak,i4]
 rw [yg,List.drop_append_of_le_length (by omega),List.drop_of_length_le (by omega),List.nil_append]
theorem Sv {a:Type} {xs:List a} {i:Nat} (h:i<=xs.length):(xs.drop (bR xs.length 0 (some (i:Int)))).take (bR xs.length xs.length none-bR xs.length 0 (some (i:Int)))=xs.drop i:=by rw [eo,dC,Nat.min_eq_left h];exact CC (by rw [Ay];exact ar _)
section
theorem oi {f C CN fB fE fT fH fW fM:Addr} {fd jJ pM iP Rh tq pL:FuncData} (F:Fn K mg "spare" en iv f fd) (TC:iS K mg C) (range:mg "range"=none) (len:mg "len"=none) (sorted:mg "sorted"=none)
 (FB:Fn K mg "told_bounds" a5 iv fB jJ) (GB:af P w K mg base aq 3 fB jJ iv (vO C))
 (W:Fn K mg "earliest_times" aw ą fE pM) (GE:af P w K mg base (cX P w) 3 fE pM ą (xT CN))
 (FT:Fn K mg "tight_table" aW Č fT iP) (GT:af P w K mg base aq 1 fT iP Č (DN C))
 (FH:Fn K mg "holds_already" bC Ę fH Rh) (GH:af P w K mg base aq 1 fH Rh Ę Lu)
 (FW:Fn K mg "bounds_with" bx Đ fW tq) (GW:af P w K mg base aq 2 fW tq Đ (DB C))
 (mT:gc K C "ties" fM) (bT:cY K pL qq []) (GM:af P w K mg base aq 1 fM pL qq (nz C λT _=>T)):
 af P w K mg base (cX P w) 4 f fd iv (DM C CN):=by
 refine F.F.mz w9 λ_ x5 _ x7 H _ x6 E Q h=>?_;obtain ⟨p,N,la,c,g,rfl,z,j,kq,ke⟩:=h;have gO:cA 1 _:=Q.mono (by decide);have wI:cA 2 _:=Q.mono (by decide);refine ⟨_,aO (eg (vU GE Q U W.g W.F.kp W.b .nil (xA (E:=E) λ_ _ _ x2=>x2) (bp (dY (pv 0) U) (bM GB Q FB (aU (pv 0))))))
  (aO (cg 1 w9.nd (pB (pv 0) TC.cl mT GM gO bT .nil eK))
  (aO (cg 2 w9.nd (iJ n7))
  (aO (Ks (fJ ft U (Nj U range (gv (cv i9 (iB ur (by rfl) len vy (aU (pv 1))) a0) (nt nG a0) (nt nG a0))) (bH 3 w9.nd)
   (aO (cg 4 w9.nd (cv xK (qx xS (pv 1) qt (qu (pv 3))) (qx xS (pv 1) (qu (cv ik (pv 3) a0)) qt)))
   (ax (dG (sg (bM GH gO FH (bp (bM GT gO FT (bp (pv 0) (bM GW wI FW (bp (pv 0) (pv 4))))) (cu cR (pv 1) (pv 3)))))
    (aO (cg 1 w9.nd (pv 4))
    (ax (eg (kE kY kf kX jT (pv 2) (aU (pv 3)))))) dH)))))
  (ax (b_ (iB VS (by rfl) sorted (by decide+kernel) (aU (pv 2)))))))),?_⟩
 have n1:=j.n1;have n2:=j.n2;obtain ⟨dx,ta,fa,hp,_,_⟩:=id z;refine (aa U (cS hp TC.cl TC.nM (l_ _ _ _ _) (aa U ⟨p,_,la,c,g,U,z,j,λbl H1 Cp R R1=>?_⟩)));refine ⟨N,bl,_,U,by omega,by omega,R1,j.idx,λkk tl H2 hk hq wG s2 e2=>?_,λrx x d l ring H2 hx iO hd O s2 ed el=>?_⟩
 ·have G_:=Kr j.l1 hq;have qI:=R.trans s2;have W2:=z.same qI;obtain ⟨Ry,ZY,fa2,lO,_,_⟩:=id W2;refine (aa U (ip lO (wA _ _ _ _ (by decide+kernel) (by decide+kernel) (by decide+kernel) (by decide+kernel)) ⟨p,_,la,c,g,U,W2,λl1 H3 vd s3 J=>?_⟩));refine ⟨dV _,λgl I3=>?_⟩;have yL:=qI.trans s3;have I1:H gl=none:=yL.free I3;have s4:=a8 (o:=.lst []) I3;obtain ⟨Qe,J⟩:=J;have ÿ:l1≠gl:=a7 J.1 I3;have Z:=J.same s4;have e4:upd H3 gl (.lst []) gl=some (.lst []):=ah;have Í:=yL.trans s4;generalize upd H3 gl (.lst [])=H4 at*;have tl:=j.tl;have FO:=Z.len;refine (aa U ⟨l1,_,U,.inl (ai.of Z.1),?_⟩);have eL:(Qe.map V.ref).length=c.length:=by rw [ak,FO]
  rw [eL];refine (ri ⟨_,U,_,U,c.length,U,by omega,?_⟩);refine LR (n:=c.length) (λi gy X=>∃(s:Addr) (e:List Addr) (v3 v4:Option V),gy=[some (.ref p),some (.ref s),some (.ref gl),v3,v4]/\ee X s e (gn c (List.range (c.length-i)++dX N la c g i))/\s≠gl/\X gl=some (.lst (((nq N la c g i).map λ(k:Nat)=>(k:Int)).map V.int))/\ao H X)
   ⟨l1,Qe,none,none,U,by rw [Nat.sub_zero,yg,Np];show ee _ _ _ (c++[]);rw [rL];exact Z,ÿ,e4,Í⟩ ?_ ?_
  ·rintro i gy u hi ⟨s,e,v3,v4,rfl,m,lg,M,S⟩;obtain ⟨b,eA⟩:∃b:Nat,b=c.length-1-i:=⟨_,U⟩;have eAt:((c.length:Int)-1-(i:Int))=(b:Int):=by omega
   rw [eAt];have hA:b<c.length:=by omega
   have e6:c.length-i=b+1:=by omega
   rw [e6] at m;have pl:=m.len;have kl:=LX (N:=N) (la:=la) (T:=c) (F:=g) i;have rl:(gn c (List.range (b+1)++dX N la c g i)).length=b+1+(dX N la c g i).length:=by unfold gn;rw [ak,dw,i4]
   have c1:iR (e.map V.ref) none (some (b:Int))=(e.take b).map V.ref:=by unfold iR;rw [DQ (by rw [ak];omega),<-List.map_take]
   have c2:iR (e.map V.ref) (some ((b+1:Nat):Int)) none=(e.drop (b+1)).map V.ref:=by unfold iR;rw [Sv (by rw [ak];omega),<-List.map_drop]
   refine (aa U (aa U ⟨_,U,s,_,U,ai.of m.1,λt IJ=>?_⟩));rw [c1];have G:=a8 (o:=.lst ((e.take b).map V.ref)) IJ;refine (aa U (aa U (ri ⟨_,U,s,_,U,ai.of (G _ _ m.1),λv II=>?_⟩)));rw [show (b:Int)+1=((b+1:Nat):Int) by omega,c2];have I:=a8 (o:=.lst ((e.drop (b+1)).map V.ref)) II;have q1:=I _ _ (ah (H:=u) (a:=t) (o:=.lst ((e.take b).map V.ref)));refine ⟨t,v,_,_,U,U,q1,ah,?_,λL A=>?_⟩
   ·rw [ak,ak,iC,Ay];exact aR (fe (by omega))
   have q2:=ah (H:=upd u t (.lst ((e.take b).map V.ref))) (a:=v) (o:=.lst ((e.drop (b+1)).map V.ref));have R6:ee (upd (upd u t (.lst ((e.take b).map V.ref))) v (.lst ((e.drop (b+1)).map V.ref))) t (e.take b) (gn c (List.range b)):=by refine ⟨q1,?_⟩;have:=OI b ((m.same G).same I).2;rw [yg,List.take_append_of_le_length (by unfold gn;rw [ak,i4];omega),Fb _ (by omega),List.take_take,Nat.min_eq_left (by omega),<-Fb _ (by omega)] at this;exact this
   have R7:ee (upd (upd u t (.lst ((e.take b).map V.ref))) v (.lst ((e.drop (b+1)).map V.ref))) v (e.drop (b+1)) (gn c (dX N la c g i)):=by refine ⟨q2,?_⟩;have:=OH (b+1) ((m.same G).same I).2;rw [show (gn c (List.range (b+1)++dX N la c g i)).drop (b+1)=gn c (dX N la c g i) from VA _ _] at this;exact this
   have R8:=R6.cat R7 A;rw [<-yg] at R8;have t3:=a8 (o:=.lst ((e.take b).map V.ref++(e.drop (b+1)).map V.ref)) A;have uD:=(G.trans I).trans t3;have RK:L≠gl:=λx2=>by rw [x2] at A;rw [(G.trans I) _ _ M] at A;cases A
   have R5':=m.same uD;have Ru:=uD _ _ M;have GJ:=S.trans uD;generalize upd (upd (upd u t (.lst ((e.take b).map V.ref))) v (.lst ((e.drop (b+1)).map V.ref))) L (.lst ((e.take b).map V.ref++(e.drop (b+1)).map V.ref))=H8 at*;have kR:∀k∈List.range b++dX N la c g i,k<c.length:=λk hk=>by
    rcases gH.mp hk with h | h
    ·have:=pP.mp h;omega
    ·exact (Bc (by omega) k h).2
   have za:=Vr kR;have hlen:(gn c (List.range b++dX N la c g i)).length<=24:=by unfold gn;rw [ak,dw,i4];omega
   have ja:=j.sub za hlen;have G':=ZK G_ za;refine (aa U (aa U (aa U ⟨p,L,_,la,c,g,_,U,z.same GJ,j,⟨_,R8⟩,ja.lP,by omega,λbl2 H9 hbl2 y R9=>?_⟩)));refine ⟨p,bl2,N,la,c,g,_,_,U,z.same (GJ.trans y),by omega,by omega,R9,ja.idx,G',λtb rs xp QD QH D G10=>?_⟩;have Y:=(R5'.same y).same D;obtain ⟨r,lN⟩:∃r,c[b]?=some r:=⟨_,df hA⟩;have ϱ:(gn c (List.range (b+1)++dX N la c g i))[b]?=some r:=by rw [yg,ic (by unfold gn;rw [ak,i4];omega),Fb _ (by omega),CV (by omega)];exact lN
   obtain ⟨q,QK⟩:∃q,e[b]?=some q:=⟨_,df (by omega)⟩;obtain ⟨q0,r0,eq0,hq0,va,jX⟩:=Y.get (i:=b) (x:=.ref q) (by rw [cW,QK];rfl);rw [ϱ] at va;cases va;cases eq0;obtain ⟨a,x1,l,x3,e4',h1,h2,h3,h4,_⟩:=j.t r (fY lN);subst e4';obtain ⟨a',rfl⟩:∃a':Nat,a=a':=⟨a.toNat,by omega⟩;obtain ⟨b',rfl⟩:∃b':Nat,x1=b':=⟨x1.toNat,by omega⟩;refine (aa U (ij U Y.1 (iH (by rw [cW,QK];rfl)) ?_));refine ⟨tb,q,rs,N,_,a',b',l,x3,U,G10,jX,by omega,by omega,_,U,?_⟩;have yN:=(GJ.trans y).trans D;have gB:pb N la c g (dX N la c g i) (c.length-1-i)=(decide (pq N la ((bG (N:Int) la (gn c (List.range b++dX N la c g i)) g).map aZ) a' b'<=x3) && decide (pq N la ((bG (N:Int) la (gn c (List.range b++dX N la c g i)) g).map aZ) b' a'<=-l)):=by rw [<-eA];unfold pb;rw [vw,lN];rfl
   rw [<-gB];refine iG (λB=>?_) (λB=>?_)
   ·have gl5:=DR (N:=N) (la:=la) (T:=c) (F:=g) i;have JG:=(y.trans D) _ _ Ru;have Kc:=(R8.same y).same D;refine (aa U (aa U ⟨.inl ⟨U,_,ai.of JG⟩,aa U (kK JG (by rw [ak,ak];exact fe (by omega)) ⟨L,e.take b++e.drop (b+1),_,_,U,?_,RK,?_,sv yN I1⟩)⟩))
    ·rw [LZ B,show c.length-(i+1)=b by omega];exact Kc.keep (d:=gl) (λx1 x8 x4 n=>by rw [ag n];exact x4) JG RK
    ·rw [ah,DT B,d_,d_,<-eA];rfl
   ·refine ⟨s,e,_,_,U,?_,lg,?_,yN⟩
    ·have ek:List.range (c.length-(i+1))++dX N la c g (i+1)=List.range (b+1)++dX N la c g i:=by
      rw [LY B,<-eA,show c.length-(i+1)=b by omega,t8,pR];rfl
     rw [ek];exact Y
    ·rw [DS B];exact (y.trans D) _ _ Ru
  ·rintro gy u ⟨s,e,v3,v4,rfl,m,lg,M,S⟩;have gl':=DR (N:=N) (la:=la) (T:=c) (F:=g) c.length;refine (aa U ⟨gl,_,U,ai.of M,by rw [ak];omega,λl ns O hp hs=>?_⟩);rw [Wl hp hs];exact kq kk l _ hk hq (S.free O) (S.trans (a8 O)) ah
 ·exact ke rx x d l ring H2 hx iO (R.free hd) (R.free O) (R.trans s2) ed el
end
def jv (N:Nat) (F:List (List Int)):List Int:=((List.range N).filter λ(i:Nat)=>decide (¬(i:Int)∈F.map oW)).map λ(i:Nat)=>(i:Int)
def AE (C:Addr):Sp:=λc H Q _=>∃(p:Addr) (N:Nat) (b:Int) (T F:List (List Int)),c=[.ref p]/\gA C H p (N:Int) b T F/\c_ (N:Int) b T F/\∀l a,H l=none->ao H a->a l=some (.lst ((jv N F).map V.int))->Q (.ref l) a
section
theorem Pm:cb ["self","ends"] qq (aJ cP):=c9
theorem XI:hV (aJ cP) ["self","ends"] (jY [(".0",.local),("fall",.local)]) ["fall"] [none]:=jZ
theorem XJ:hV (aJ cP) ["self","ends"] (jY [(".0",.local),("moment",.local),("ends",.free)]) ["moment","ends"] [none,some 1]:=jZ
theorem WY:(["moment","ends"]:List Str).Nodup:=by decide+kernel
theorem Tv:jv (j+1) F=jv j F++(if (j:Int)∈F.map oW then [] else [(j:Int)]):=by
 unfold jv;rw [t8,J_,d_]
 by_cases e:(j:Int)∈F.map oW
 ·rw [if_pos e,RX (by simpa using e)];rfl
 ·rw [if_neg e,RY (by simpa using e)];rfl
theorem Zi:(jv j F).length<=j:=by unfold jv;rw [ak];exact cQ (CZ _ _) (tG i4)
theorem uO (F:gb K "own" "Web.own" cP f fd) (X:mg "range"=none) (m:iS K mg C):af P w K mg base aq 1 f fd qq (AE C):=by
 refine F.cJ Pm λ_ A _ x7 H _ x2 x1 hr h=>?_;obtain ⟨x5,N,la,rT,rF,rfl,⟨dx,ta,O,D,_,⟨G,R⟩⟩,y,k⟩:=h;have n8:=y.n2;refine ⟨_,aO (n9 (i:=1) Pm.nd U (Or.inr U) (me U (f9 (dY (pv 0) U)) XI (λL M Y I=>⟨bH 0 Qo,nI,cu (YZ (K:=K) U) (pv 0) a0⟩)))
  (ax (b_ (me U (qC U X (aU (dY (pv 0) U))) XJ (λL M Y I=>⟨bH 0 WY,xQ (xR (Vf (K:=K) U) (pv 0) (pv 1) (by with_unfolding_all rfl)),pv 0⟩)))),?_⟩
 refine (aa U (cS D m.cl m.nF (LG _ _ _ _) ⟨O,U,⟨_,ai.of R.1⟩,λq B=>?_⟩));refine sG (xs:=G.map V.ref) (λj c d=>∃v,c=[v]/\d q=some (.lst (((rF.take j).map oW).map V.int))/\ao H d) ⟨none,U,ah,a8 B⟩ ?_ ?_ ?_
 ·rintro j c s _ ⟨v,rfl,_,a⟩;exact ai.of (a _ _ R.1)
 ·rintro j x8 c s W ⟨v,rfl,p,a⟩;obtain ⟨x6,r,rfl,_,E,T⟩:=R.get W;obtain ⟨a',b',x3,x4,rfl,_⟩:=y.f r (fY E);refine (aa U ⟨_,_,_,_,U,U,cK.of (a _ _ T),U,_,p,?_,_,U,?_,λb o e=>?_⟩)
  ·rw [ak,ak,iC];have:=y.fl;exact fe (by lia)
  ·rw [ah,jo,E,d_,d_];rfl
  ·rw [ag (a7 e B)];exact a _ _ e
 ·rintro c s ⟨v,rfl,p,a⟩;have S:rF.take (G.map V.ref).length=rF:=by
   rw [ak,R.len];exact i5
  rw [S] at p;refine (aa U (cS (a _ _ D) m.cl m.nM (l_ _ _ _ _) ⟨(N:Int),U,by exact gW (N+Nat.succ 4611686018427387903),by lia,λz t=>?_⟩));refine yq (n:=((N:Nat):Int).toNat) (λj c d=>∃v,c=[v,some (.ref q)]/\d z=some (.lst ((jv j rF).map V.int))/\ao s d) ⟨none,U,ah,a8 t⟩ ?_ ?_
  ·rintro j c J Q ⟨v,rfl,g,l⟩;rw [gG] at Q;have Z:(0:Int)+(j:Int)=(j:Int):=by lia
   rw [Z];refine (aa U (aa U ⟨q,_,U,.inl (ai.of (l _ _ p)),U,yn,ct ?_⟩));show if (!rm (V.int (j:Int)) ((rF.map oW).map V.int))=true then _ else _;rw [xX,Tv];refine iG (λu=>?_) (λu=>?_)
   ·have x:¬(j:Int)∈rF.map oW:=by simpa using u
    refine (aa U ⟨_,g,?_,_,U,?_,λb o e=>?_⟩)
    ·rw [ak];exact fe (by have:=Zi (j:=j) (F:=rF);lia)
    ·rw [ah,if_neg x,d_];rfl
    ·rw [ag (a7 e t)];exact l _ _ e
   ·have x:(j:Int)∈rF.map oW:=by simpa using u
    refine ⟨_,U,?_,l⟩;rw [if_pos x,rL];exact g
  ·rintro c J ⟨v,rfl,g,l⟩;rw [gG] at g;exact k z _ (a.free t) (a.trans l) g
end
def jm (F:List (List Int)):Nat->Int:=F.foldl (λg r=>MB.put g (r.getD 1 0).toNat (r.getD 0 0)) (λi=>(i:Int))
def nU (F:List (List Int)):Nat->Int:=F.foldl (λg r=>MB.put g (r.getD 1 0).toNat (r.getD 2 0)) (λ_=>0)
def pH (F:List (List Int)):Nat->Int:=F.foldl (λg r=>MB.put g (r.getD 1 0).toNat (r.getD 3 0)) (λ_=>0)
def Bo (F:List (List Int)):List Int->List Int
 | [a,b,m]=>[jm F a.toNat,jm F b.toNat,m+nU F a.toNat-pH F b.toNat]
 | r=>r
def kF (n la:Int) (T F:List (List Int)):List (List Int):=(bG n la T F).map (Bo F)
theorem LP {b:Type} {Pr:b->Prop} {f:List Int->b}:∀{F:List (List Int)} {g:Nat->b} {N:Nat},(∀r∈F,Pr (f r))->(∀i,i<N->Pr (g i))->∀i,i<N->Pr (F.foldl (λg r=>MB.put g (r.getD 1 0).toNat (f r)) g i)
 | [],_,_,_,h,i,a=>h i a
 | r::F,g,N,c,h,i,a=>by
  rw [vq];refine LP (λx e=>c x (gI _ e)) (λj d=>?_) i a;unfold MB.put;split
  ·exact c r fh
  ·exact h j d
theorem KI {N:Nat} {la:Int} {T F:List (List Int)} (h:c_ (N:Int) la T F) {i:Nat} (e:i<N):0<=jm F i/\jm F i<N:=by
 refine LP (Pr:=λv:Int=>0<=v/\v<N) (f:=λr=>r.getD 0 0) (λr k=>?_) (λj g=>?_) i e
 ·obtain ⟨a,b,l,m,rfl,c,d,_⟩:=h.f r k;exact ⟨c,d⟩
 ·exact ⟨by exact gW (j+0),yj g⟩
theorem Vw {N:Nat} {la:Int} {T F:List (List Int)} (h:c_ (N:Int) la T F):Idx N (kF (N:Int) la T F):=λr i=>by obtain ⟨j,e,rfl⟩:=eQ.mp i;obtain ⟨a,b,m,rfl,f,g⟩:=h.idx j e;have c:=KI h f;have d:=KI h g;refine ⟨(jm F a).toNat,(jm F b).toNat,m+nU F a-pH F b,?_,by lia,by lia⟩;show [jm F (a:Int).toNat,jm F (b:Int).toNat,m+nU F (a:Int).toNat-pH F (b:Int).toNat]=_;rw [gG,gG,kZ c.1,kZ d.1]
def L3 (C:Addr):Sp:=λc H Q _=>∃(p:Addr) (N:Nat) (b:Int) (T F:List (List Int)),c=[.ref p]/\gA C H p (N:Int) b T F/\c_ (N:Int) b T F/\∀l a,H l=none->ao H a->dP a l (kF (N:Int) b T F)->Q (.ref l) a
def yx (N:Nat) (F:List (List Int)) (t:Nat->Int):List V:=(List.range N).map λ(i:Nat)=>if (i:Int)∈jv N F then V.int (t i) else V.a9
def DL (C c:Addr):Sp:=λe H Q E=>∃(p:Addr) (N:Nat) (b:Int) (T F:List (List Int)),e=[.ref p]/\gA C H p (N:Int) b T F/\c_ (N:Int) b T F/\
 (∀k l a,k<N->(a_ ((kF (N:Int) b T F).map aZ) (k+1)).q=none->H l=none->ao H a->a l=some (.lst (yx N F (a_ ((kF (N:Int) b T F).map aZ) (k+1)).t))->Q (.ref l) a)/\
 ((∀k,k<N->(a_ ((kF (N:Int) b T F).map aZ) (k+1)).q≠none)->∀x d l ring a,(a_ ((kF (N:Int) b T F).map aZ) N).q=some x->n6 (a_ ((kF (N:Int) b T F).map aZ) N).p N x ring->H d=none->H l=none->ao H a->
   a d=some (ju d [("ring",.ref l)])->a l=some (.lst (hI ring))->E (.ref c) (some d) a)
section
abbrev Qq:List Str:=["web","begin","soon","late","one","other","least","most"]
theorem rP:cb Qq iv (aJ bj):=c9
abbrev O':List Str:=["a","b","most","begin","late","soon"]
theorem Xm:hV (aJ bj) Qq (jY [(".0",.local),("a",.local),("b",.local),("most",.local),("begin",.free),("late",.free),("soon",.free)]) O' [none,none,none,some 1,some 3,some 2]:=jZ
theorem Fq:O'.Nodup:=by decide+kernel
theorem oa (F:Fn K mg "worst_bounds" bj iv f fd) (range:mg "range"=none) (list:mg "list"=none) (m:iS K mg C)
 (FB:Fn K mg "told_bounds" a5 iv fB jJ) (GB:af P w K mg base aq 3 fB jJ iv (vO C))
 (mF:gc K C "falls" fM) (bF:cY K pL qq []) (GF:af P w K mg base aq 1 fM pL qq (nz C λ_ F=>F)):af P w K mg base aq 4 f fd iv (L3 C):=by
 refine F.F.cJ rP λ_ x7 _ nP H _ x9 x8 hr x5=>?_;obtain ⟨x1,N,L,M,rF,rfl,J,c,x3⟩:=x5;have gO:cA 1 _:=hr.mono (by decide);have n1:=c.n1;have n8:=c.n2;have QT:=c.fl;refine ⟨_,aO (n9 (i:=1) rP.nd U (Or.inr U) (OL U U list U range (aU (dY (pv 0) U))))
  (aO (n9 (i:=2) rP.nd U (Or.inr U) (cv xF (iJ (aU a0)) (dY (pv 0) U)))
  (aO (n9 (i:=3) rP.nd U (Or.inr U) (cv xF (iJ (aU a0)) (dY (pv 0) U)))
  (aO (fJ ft U (f9 (pB (pv 0) m.cl mF GF gO bF .nil eK))
   (ql U (e_ (bH 4 rP.nd) (e_ (bH 5 rP.nd) (e_ (bH 6 rP.nd) (e_ (bH 7 rP.nd) qr)))))
   (aO (qm (pv 4) (qk (pv 1) (pv 5) qy)) (aO (qm (pv 6) (qk (pv 2) (pv 5) qy)) (ax (qm (pv 7) (qk (pv 3) (pv 5) qy))))))
  (ax (b_ (me U (f9 (bM GB hr FB (aU (pv 0)))) Xm (λcl ex s0 H0=>⟨ZI (K:=K) (n:=3) U U (e_ (bH 0 Fq) (e_ (bH 1 Fq) (e_ (bH 2 Fq) qr))),nI,
   eN (gv (cu (xY (K:=K) U) (pv 3) (pv 0)) (cu (xY (K:=K) U) (pv 3) (pv 1)) (cv i9 (cv ik (pv 2) (cu (xY (K:=K) U) (pv 5) (pv 0))) (cu (xY (K:=K) U) (pv 4) (pv 1))))⟩))))))),?_⟩
 obtain ⟨dx,ta,fa,hp,_,_⟩:=id J;refine (aa U (cS hp m.cl m.nM (l_ _ _ _ _) ⟨N,U,by lia,λbl Cp=>?_⟩));have O:=a8 (o:=.lst ((List.range N).map λ(i:Nat)=>V.int (i:Int))) Cp;have e1:upd H bl (.lst ((List.range N).map λ(i:Nat)=>V.int (i:Int))) bl=some (.lst (bc N λi=>(i:Int))):=ah;generalize upd H bl (.lst ((List.range N).map λ(i:Nat)=>V.int (i:Int)))=H1 at*;refine ⟨dj U,λz1 yV=>?_⟩;have v:=a8 (o:=.lst [V.int 0]) yV;refine (aa U (cS ((O.trans v) _ _ hp) m.cl m.nM (l_ _ _ _ _) ⟨z1,_,_,U,U,ah,by exact gW (N+Nat.succ 9223372036854775807),by lia,?_,λsl E=>?_⟩))
 ·show 1*((N:Int)).toNat<=sizeLine;exact aR (fe (by lia))
 rw [gG,xO];have Q:=(O.trans v).trans (a8 (o:=.lst (bc N λ_=>0)) E);have JH:=a8 (o:=.lst (bc N λ_=>0)) E _ _ (v _ _ e1);have e2:upd (upd H1 z1 (.lst [V.int 0])) sl (.lst (bc N λ_=>0)) sl=some (.lst (bc N λ_=>0)):=ah;have bs:bl≠sl:=a7 (v _ _ e1) E;have HM:H sl=none:=(O.trans v).free E;generalize upd (upd H1 z1 (.lst [V.int 0])) sl (.lst (bc N λ_=>0))=H2 at*;refine ⟨dj U,λz2 yU=>?_⟩;have k:=a8 (o:=.lst [V.int 0]) yU;refine (aa U (cS ((Q.trans k) _ _ hp) m.cl m.nM (l_ _ _ _ _) ⟨z2,_,_,U,U,ah,by exact gW (N+Nat.succ 9223372036854775807),by lia,?_,λtl u=>?_⟩))
 ·show 1*((N:Int)).toNat<=sizeLine;exact aR (fe (by lia))
 rw [gG,xO];have s3:=(Q.trans k).trans (a8 (o:=.lst (bc N λ_=>0)) u);have GL:=a8 (o:=.lst (bc N λ_=>0)) u;have b3:=GL _ _ (k _ _ JH);have c3:=GL _ _ (k _ _ e2);have e3:upd (upd H2 z2 (.lst [V.int 0])) tl (.lst (bc N λ_=>0)) tl=some (.lst (bc N λ_=>0)):=ah;have bt:bl≠tl:=a7 (k _ _ JH) u;have st:sl≠tl:=a7 (k _ _ e2) u;have HK:H tl=none:=(Q.trans k).free u;generalize upd (upd H2 z2 (.lst [V.int 0])) tl (.lst (bc N λ_=>0))=H3 at*;clear O e1 v Q JH e2 k yV yU E u GL;obtain ⟨dx3,ta3,fa3,wK,_,_⟩:=id (J.same s3);refine (aa U (ip wK (wA _ _ _ _ (by decide+kernel) (by decide+kernel) (by decide+kernel) (by decide+kernel)) ⟨x1,_,L,M,rF,U,J.same s3,λs H4 vh R G=>?_⟩));obtain ⟨qs,G⟩:=G;refine ⟨s,U,⟨_,ai.of G.1⟩,iA (K:=K) (a:=s) (xs:=qs.map V.ref) (λi d g=>∃Z v5 v6 v7,d=[some (.ref x1),some (.ref bl),some (.ref sl),some (.ref tl),Z,v5,v6,v7]/\g bl=some (.lst (bc N (jm (rF.take i))))/\g sl=some (.lst (bc N (nU (rF.take i))))/\g tl=some (.lst (bc N (pH (rF.take i))))/\ao H g/\ee g s qs rF)
  ⟨none,none,none,none,U,R _ _ b3,R _ _ c3,R _ _ e3,s3.trans R,G⟩ ?_ ?_ ?_⟩
 ·rintro i d x _ ⟨Z,v5,v6,v7,rfl,_,_,_,_,l⟩;exact ai.of l.1
 ·rintro i x6 d x hx ⟨Z,v5,v6,v7,rfl,z,A,D,S,l⟩;obtain ⟨x2,r,rfl,_,t,jX⟩:=l.get hx;obtain ⟨a',p,le,mo,e4,_,_,h3,h4,_⟩:=c.f r (fY t);subst e4;obtain ⟨B,rfl⟩:∃B:Nat,p=B:=⟨p.toNat,by lia⟩;have hB:B<N:=by lia
  have flb:s≠bl:=a6 (a7 b3 vh);have fls:s≠sl:=a6 (a7 c3 vh);have oJ:s≠tl:=a6 (a7 e3 vh);refine ⟨x2,_,U,cK.of jX,U,_,_,U,_,_,U,_,_,U,_,_,U,U,?_⟩;refine (aa U (aa U (aa U ⟨bl,_,_,_,U,U,z,sd hB,?_⟩)));rw [vT];have g2:upd x bl (.lst (bc N (MB.put (jm (rF.take i)) B a'))) sl=some (.lst (bc N (nU (rF.take i)))):=by rw [ag (a6 bs)];exact A
  refine (aa U (aa U (aa U ⟨sl,_,_,_,U,U,g2,sd hB,?_⟩)));rw [vT];have g3:upd (upd x bl (.lst (bc N (MB.put (jm (rF.take i)) B a')))) sl (.lst (bc N (MB.put (nU (rF.take i)) B le))) tl=some (.lst (bc N (pH (rF.take i)))):=by rw [ag (a6 st),ag (a6 bt)];exact D
  refine (aa U (aa U (aa U ⟨tl,_,_,_,U,U,g3,sd hB,?_⟩)));rw [vT];have tk:rF.take (i+1)=rF.take i++[[a',(B:Int),le,mo]]:=by rw [jo,t];rfl
  have u1:jm (rF.take (i+1))=MB.put (jm (rF.take i)) B a':=by unfold jm;rw [tk,tK];rfl
  have u2:nU (rF.take (i+1))=MB.put (nU (rF.take i)) B le:=by unfold nU;rw [tk,tK];rfl
  have u3:pH (rF.take (i+1))=MB.put (pH (rF.take i)) B mo:=by unfold pH;rw [tk,tK];rfl
  rw [u1,u2,u3];have FL:∀{y:Addr} {xs ys:List V},x y=some (.tup xs)->y≠bl/\y≠sl/\y≠tl:=λ{y xs ys} e=>⟨cI e z nofun,cI e A nofun,cI e D nofun⟩;refine ⟨_,_,_,_,U,?_,?_,ah,?_,?_,?_⟩
  ·rw [ag bt,ag bs,ah]
  ·rw [ag st,ah]
  ·have IF:H bl=none:=Cp;exact sv (sv (sv S IF) HM) HK
  ·rw [ag oJ,ag fls,ag flb];exact l.1
  ·refine gM l.2 λy r e=>?_;obtain ⟨y1,y2,y3⟩:=FL (ys:=[]) e;rw [ag y3,ag y2,ag y1];exact e
 ·rintro d x ⟨Z,v5,v6,v7,rfl,z,A,D,S,l⟩;have hle:rF.take (qs.map V.ref).length=rF:=by
   rw [ak,l.len];exact i5
  rw [hle] at z A D;refine (aa U ⟨x1,_,L,M,rF,U,J.same S,c,λal H6 _ T h=>⟨al,U,?_,λDa jb=>?_⟩⟩)
  ·obtain ⟨q,h⟩:=h;exact ⟨_,ai.of h.1⟩
  obtain ⟨RJ,h⟩:=h;have hlen:(bG (N:Int) L M rF).length<=100:=by unfold bG;rw [dw,dw,wo,sD c.lP,sD c.lQ];have:=c.tl;lia
  have wN:=c.idx;have P_:=S.trans T;unfold kF at x3;generalize bG (N:Int) L M rF=rows at*;refine sG (xs:=RJ.map V.ref) (λj d g=>∃W X Y q,d=[W,X,Y,some (.ref bl),some (.ref tl),some (.ref sl)]/\ee g Da q ((rows.take j).map (Bo rF))/\ao H6 g) ⟨none,none,none,[],U,⟨ah,.nil⟩,a8 jb⟩ ?_ ?_ ?_
  ·rintro j d H7 _ ⟨W,X,Y,q,rfl,_,b⟩;exact ai.of (b _ _ h.1)
  ·rintro j x6 d H7 hx ⟨W,X,Y,q,rfl,I,b⟩;obtain ⟨x2,r,rfl,_,t,jX⟩:=h.get hx;obtain ⟨a',p,x4,e4,Cr,mX⟩:=wN r (fY t);subst e4;have hj:j<rows.length:=(cO.mp t).1;have Ri:=b _ _ (T _ _ z);have f2':=b _ _ (T _ _ A);have f3':=b _ _ (T _ _ D);refine ⟨x2,_,U,cK.of (b _ _ jX),U,_,_,U,_,_,U,_,_,U,U,?_⟩;refine (aa U (aa U ⟨_,_,_,_,U,U,ai.of Ri,j7 Cr,aa U (aa U ⟨_,_,_,_,U,U,ai.of Ri,j7 mX,?_⟩)⟩));refine (aa U (aa U (aa U ⟨_,_,_,_,U,U,ai.of f2',j7 Cr,ri (aa U (aa U ⟨_,_,_,_,U,U,ai.of f3',j7 mX,ri ⟨dj U,λtp QB=>?_⟩⟩))⟩)));have R8:=I.same (a8 (o:=.tup [.int (jm rF a'),.int (jm rF p),.int (x4+nU rF a'-pH rF p)]) QB);refine ⟨_,R8.1,?_,_,_,_,q++[tp],U,?_,λkJ o e=>?_⟩
   ·rw [ak,R8.len,ak,iC];exact fe (by lia)
   ·have et:(rows.take (j+1)).map (Bo rF)=(rows.take j).map (Bo rF)++[[jm rF a',jm rF p,x4+nU rF a'-pH rF p]]:=by
     rw [jo,t,d_];rfl
    rw [et];exact R8.push ah
   ·rw [ag (a7 e jb),ag (a7 (b _ _ e) QB)];exact b _ _ e
  ·rintro d H7 ⟨W,X,Y,q,rfl,I,b⟩;have hl:rows.take (RJ.map V.ref).length=rows:=by
    rw [ak,h.len];exact i5
   rw [hl] at I;exact x3 Da _ (P_.free jb) (P_.trans b) ⟨q,I⟩
theorem Fw:cb ["web","times","own"] iv (aJ dq):=c9
theorem Xf:hV (aJ dq) ["web","times","own"] (jY [(".0",.local),("moment",.local),("own",.free),("times",.free)]) ["moment","own","times"] [none,some 2,some 1]:=jZ
theorem WV:(["moment","own","times"]:List Str).Nodup:=by decide+kernel
theorem ov (F:Fn K mg "fixed" dq iv f fd) (range:mg "range"=none) (c:iS K mg C)
 (t:Fn K mg "earliest_times" aw ą fE pM) (GE:af P w K mg base (cX P w) 3 fE pM ą (xT CN))
 (FW:Fn K mg "worst_bounds" bj iv fW tq) (GW:af P w K mg base aq 4 fW tq iv (L3 C))
 (mO:gc K C "own" fO) (bO:cY K JC qq []) (GO:af P w K mg base aq 1 fO JC qq (AE C)):af P w K mg base (cX P w) 5 f fd iv (DL C CN):=by
 refine F.F.mz Fw λ_ x7 _ BX x8 _ x9 E H x3=>?_;obtain ⟨p,N,e,g,rF,rfl,l,d,kq,ke⟩:=x3;have gO:cA 1 _:=H.mono (by decide);have wH:cA 3 _:=H.mono (by decide);have n1:=d.n1;have n8:=d.n2;refine ⟨_,aO (n9 (i:=1) Fw.nd U (Or.inr U) (vU GE wH U t.g t.F.kp t.b .nil (xA (E:=E) λ_ _ _ x6=>x6) (bp (dY (pv 0) U) (bM GW H FW (aU (pv 0))))))
  (aO (n9 (i:=2) Fw.nd U (Or.inr U) (pB (pv 0) c.cl mO GO gO bO .nil eK))
  (ax (b_ (me U (qC U range (aU (dY (pv 0) U))) Xf (λcl ex s0 H0=>⟨bH 0 WV,nI,M4 (xR (Y1 (K:=K) U) (pv 0) (pv 1) (by with_unfolding_all rfl)) (cu (xY (K:=K) U) (pv 2) (pv 0)) zev⟩))))),?_⟩
 obtain ⟨dx,ta,fa,X,_,_⟩:=id l;refine (aa U (cS X c.cl c.nM (l_ _ _ _ _) (aa U ⟨p,_,e,g,rF,U,l,d,λwl H1 _ s R1=>?_⟩)));refine ⟨N,wl,_,U,by lia,ui n8,R1,Vw d,λo M R hk hq _ L e2=>?_,λrx x5 x1 x4 ring R hx iO hd hl L ed el=>ke rx x5 x1 x4 ring R hx iO (s.free hd) (s.free hl) (s.trans L) ed el⟩;have I:=s.trans L;obtain ⟨Ry,ZY,fa2,lO,_,_⟩:=id (l.same I);refine (aa U (ip lO (wA _ _ _ _ (by decide+kernel) (by decide+kernel) (by decide+kernel) (by decide+kernel)) ⟨p,_,e,g,rF,U,l.same I,d,λr S _ Y e3=>?_⟩));have J:=I.trans Y;refine (aa U (cS (J _ _ X) c.cl c.nM (l_ _ _ _ _) ⟨(N:Int),U,by exact gW (N+Nat.succ 4611686018427387903),by lia,λb B=>?_⟩));refine yq (n:=((N:Nat):Int).toNat) (λj O Q=>∃v,O=[v,some (.ref r),some (.ref M)]/\Q b=some (.lst ((List.range j).map λ(i:Nat)=>if (i:Int)∈jv N rF then V.int ((a_ ((kF (N:Int) e g rF).map aZ) (o+1)).t i) else V.a9))/\ao S Q) ⟨none,U,ah,a8 B⟩ ?_ ?_
 ·rintro j O k W ⟨v,rfl,m,h⟩;rw [gG] at W;have z0:(0:Int)+(j:Int)=(j:Int):=by lia
  rw [z0];refine (aa U (aa U ⟨r,_,U,.inl (ai.of (h _ _ e3)),U,yn,ct ?_⟩));show if rm (V.int (j:Int)) ((jv N rF).map V.int)=true then _ else _;rw [xX];have T:∀{y:V},y=(if (j:Int)∈jv N rF then V.int ((a_ ((kF (N:Int) e g rF).map aZ) (o+1)).t j) else V.a9)->∃a,k b=some (.lst a)/\a.length<sizeLine/\∃v,List.set [v,some (V.ref r),some (V.ref M)] 0 (some (V.int (j:Int)))=[v,some (V.ref r),some (V.ref M)]/\
   upd k b (.lst (a++[y])) b=some (.lst ((List.range (j+1)).map λ(i:Nat)=>if (i:Int)∈jv N rF then V.int ((a_ ((kF (N:Int) e g rF).map aZ) (o+1)).t i) else V.a9))/\ao S (upd k b (.lst (a++[y]))):=λ{y} x2=>by
   refine ⟨_,m,?_,_,U,?_,λkJ nP q=>?_⟩
   ·rw [ak,i4];exact fe (by lia)
   ·rw [ah,t8,d_,x2];rfl
   ·rw [ag (a7 q B)];exact h _ _ q
  refine iG (λD=>?_) (λD=>?_)
  ·have G:(j:Int)∈jv N rF:=by simpa using D
   refine (aa U (aa U ⟨_,_,_,_,U,U,ai.of (h _ _ (Y _ _ e2)),j7 W,?_⟩));obtain ⟨a,u,x,w,_,z,A⟩:=T (y:=V.int _) (by rw [if_pos G]);exact ⟨a,u,x,_,U,z,A⟩
  ·have G:¬(j:Int)∈jv N rF:=by simpa using D
   obtain ⟨a,u,x,w,_,z,A⟩:=T (y:=V.a9) (by rw [if_neg G]);exact ⟨a,u,x,_,U,z,A⟩
 ·rintro O k ⟨v,rfl,m,h⟩;rw [gG] at m;exact kq o b _ hk hq (J.free B) (J.trans h) m
end
theorem af.weak (F:af P w K mg base CX k f fd ps sp) (h:∀vs H Q E,Å vs H Q E->sp vs H Q E):af P w K mg base CX k f fd ps Å:=
 ⟨λvs H Q E z=>F.len vs H Q E (h _ _ _ _ z),λA g s H args i vs Q E c a b e d=>F.run A g s H args i vs Q E c a b e (h _ _ _ _ d)⟩
def qa:(d:Nat)->V->dc d
 | 0,v=>v
 | _+1,v=>.inl v
theorem vS (h:gh v=true):∀{d:Nat},c7 d H0 H v (qa d v)
 | 0=>⟨U,h⟩
 | _+1=>⟨U,h⟩
def gU {d:Nat} (a:List (dc d)):dc (d+1):=.inr (true,a)
def jR (d:Nat) (xs:List V):dc (d+1):=.inr (true,xs.map (qa d))
theorem t_ (h:H p=some (.lst xs)) (e:H0 p=none) (g:xs.length<=16500000) (f:xs.all gh=true):c7 (d+1) H0 H (.ref p) (jR d xs):=by refine ⟨p,xs,U,h,e,⟨by rw [ak],by rw [ak];exact g⟩,λj a t b c=>?_⟩;rw [cW,b] at c;cases c;exact vS (vX f b)
def nA (C c:Addr) (N:Nat) (la:Int) (T F:List (List Int)) (b:dc 4->Prop):Sp:=λe H Q E=>∃(p:Addr),e=[.ref p]/\gA C H p (N:Int) la T F/\c_ (N:Int) la T F/\
 (∀l a t,H l=none->ao H a->c7 4 H a (.ref l) t->b t->Q (.ref l) a)/\
 (∀d l ring a,H l=none->ao H a->a d=some (ju d [("ring",.ref l)])->a l=some (.lst (hI ring))->ring.length<=8->b (jR 3 (hI ring))->E (.ref c) (some d) a)
abbrev ã:List Str:=["_law_web_here","_law_found","_law_work","e"]
theorem BU:cb ã č (aJ fU):=c9
def X5 (r:List Int):dc 3:=.inr (false,r.map λi=>qa 2 (.int i))
def xD (R:List (List Int)):dc 4:=.inr (true,R.map X5)
theorem c7.fresh (h:∀p o,H p=some o->H0 p=none->H1 p=none):∀{d:Nat} {x:V} {t:dc d},c7 d H0 H x t->c7 d H1 H x t
 | 0,_,_,q=>q
 | _+1,_,.inl _,q=>q
 | d+1,_,.inr (true,l),⟨p,m,e,b,g,i,k⟩=>⟨p,m,e,b,h _ _ b g,i,λj a t c f=>c7.fresh h (k j a t c f)⟩
 | d+1,_,.inr (false,l),q=>q
theorem L6 (h:dP H l R) (e:H0 l=none) (n:R.length<=100):c7 4 H0 H (.ref l) (xD R):=by
 obtain ⟨m,f,d⟩:=h;refine ⟨l,_,U,f,e,⟨by rw [ak,ak,kd d],by rw [ak];lia⟩,λj a t b c=>?_⟩;rw [cW] at b c
 cases C:m[j]? with
 | none=>rw [C] at b;cases b
 | some q=>
  rw [C] at b;cases b;obtain ⟨r,k,g⟩:=aF d C;rw [k] at c;cases c;refine ⟨q,_,U,g,by rw [ak,ak],λj a t b c=>?_⟩;rw [cW] at b c
  cases hi:r[j]? with
  | none=>rw [hi] at b;cases b
  | some i=>
   rw [hi] at b c;cases b;cases c;exact vS U
def Lv (C:Addr) (N:Nat) (la:Int) (T F:List (List Int)) (f:dc 4->Prop):Sp:=λe H Q _=>∃p,e=[.ref p]/\gA C H p (N:Int) la T F/\c_ (N:Int) la T F/\
 ∀r d (c:List (dc 3)) b,H r=none->ao H b->b r=some (.tup d)->d.length=c.length->c.length<=3->(∀(j:Nat) (a:V) (t:dc 3),d[j]?=some a->c[j]?=some t->c7 3 H b a t)->f (gU c)->Q (.ref r) b
def vP (a b c d e:dc 4->Prop) (j:Nat) (t:dc 4):Prop:=match j with
 | 0=>a t
 | 1=>b t
 | 2=>c t
 | 3=>d t
 | _=>e t
structure Pz (N:Nat) (T F:List (List Int)) (w0 w1 w2 w3 w4 w5:dc 4->Prop) (ts:List (dc 4)):Prop where
 ex:∃t0 us,ts=t0::us++[xD T,xD F,jR 3 ((jv N F).map V.int)]/\us.length=5/\w0 t0/\∀(j:Nat) t,us[j]?=some t->vP w1 w2 w3 w4 w5 j t
def Px (H:Hp) (l:Addr):Prop:=∃a b,H l=some (.lst (.ref a::b))/\V.ref a∉b/\V.ref l∉b/\l≠a
def Z0 (C:Addr) (N:Nat) (la:Int) (T F:List (List Int)) (d e f g h i:dc 4->Prop):Sp:=λc H Q _=>∃(p:Addr),c=[.ref p]/\gA C H p (N:Int) la T F/\c_ (N:Int) la T F/\
 ∀l b a,ao H a->c7 5 H a (.ref l) (gU b)->Pz N T F d e f g h i b->Px a l->Q (.ref l) a
theorem Vp:∀{d:Nat} {t:dc d},c7 d H0 H (.ref p) t->H p≠none
 | 0,_,h=>nomatch h.2
 | _+1,.inl _,h=>nomatch h.2
 | _+1,.inr (true,_),⟨_,_,e,h,_⟩=>by cases e;rw [h];exact λz=>nomatch z
 | _+1,.inr (false,_),⟨_,_,e,h,_⟩=>by cases e;rw [h];exact λz=>nomatch z
def Df (H:Hp) (c g d:Addr) (h:List V) (us:List (dc 4)) (b:Hp):Prop:=ao H b/\(H c=none/\g≠c)/\b g=some (.lst h)/\∃e,b c=some (.lst e)/\e.length=us.length/\(∃f,e=.ref d::f/\V.ref d∉f/\b d≠none/\d≠c/\∀x∈f,∃a,x=.ref a/\b a≠none)/\∀(j:Nat) (a:V) (t:dc 4),e[j]?=some a->us[j]?=some t->c7 4 (upd H c (.lst [])) b a t
theorem Df.push (h:Df H C wl l0 fs us H') (M:H' l1=none) (N:I l1≠none) (s:ao H' I) (k:H' C=some (.lst vs)) (T:c7 4 H' I (.ref l1) t):Df H C wl l0 fs (us++[t]) (upd I C (.lst (vs++[.ref l1]))):=by
 obtain ⟨D,⟨p,r⟩,F,W,v,l,⟨R,E,Q,y,A,J⟩,G⟩:=h;rw [k] at v;cases v;have O:∀{a:V} {t:dc 4},c7 4 (upd H C (.lst [])) I a t->c7 4 (upd H C (.lst [])) (upd I C (.lst (vs++[.ref l1]))) a t:=λq=>q.keep λb u e z=>by
  by_cases o:b=C
  ·subst o;rw [s _ _ k] at e;cases e;rcases z with z | ⟨_,z⟩
   ·rw [ah] at z;cases z
   ·cases z
  ·rw [ag o];exact e
 refine ⟨λb u e=>?_,⟨p,r⟩,by rw [ag r];exact s _ _ F,vs++[.ref l1],ah,by rw [dw,dw,l];rfl,⟨R++[.ref l1],by rw [E];rfl,?_,?_,A,?_⟩,λj a S c f=>?_⟩
 ·rw [ag (a7 e p)];exact s _ _ (D _ _ e)
 ·intro z;rcases gH.mp z with z | z
  ·exact Q z
  ·cases g_.mp z;exact y M
 ·rw [ag A];exact λz=>y (s.free z)
 ·have B:∀a,I a≠none->upd I C (.lst (vs++[.ref l1])) a≠none:=λa z d=>by
   by_cases n:a=C
   ·rw [n,ah] at d;cases d
   ·rw [ag n] at d;exact z d
  intro x L;rcases gH.mp L with z | z
  ·obtain ⟨a,e,g⟩:=J x z;exact ⟨a,e,B a λz=>g (s.free z)⟩
  ·exact ⟨l1,g_.mp z,B l1 N⟩
 ·apply O
  by_cases m:j<vs.length
  ·rw [ic m] at c;rw [ic (by rw [<-l];exact m)] at f;exact (G j a S c f).same s
  ·obtain ⟨i,rfl⟩:=Nat.exists_eq_add_of_le (jt m);rw [iD (by lia)] at c;rw [iD (by lia),<-l] at f;rw [Nat.add_sub_cancel_left] at c f
   cases i with
   | zero=>
    cases c;cases f;exact c7.wk (λq z=>by rw [ag (λd=>by rw [d,k] at z;cases z)];exact D.free z) T
   | succ i=>cases c
theorem Tu (F:Fn K mg "_law_told" fU č f Y) (oC:mg "list"=none) (TC:iS K mg C) (gN:mg "NoTimes"=some (.ref I)) (zK:PySem.W.exmOne K (.ref I) (.ref I)=some true) (GX:wx K I) (nR:PySem.W.findIn K (.ref I) "ring"=some none)
 (FK:Fn K mg "kept" eO iv fK JD) (GK:af P w K mg base aq 6 fK JD iv (Lv C N la T F' w0))
 (F1:Fn K mg "tight" dm iv f1 fd1) (G1:af P w K mg base (cX P w) 4 f1 fd1 iv (nA C I N la T F' w1))
 (F2:Fn K mg "earliest" cB iv f2 JF) (G2:af P w K mg base (cX P w) 4 f2 JF iv (nA C I N la T F' w2))
 (F3:Fn K mg "latest" dn iv J fd3) (G3:af P w K mg base (cX P w) 5 J fd3 iv (nA C I N la T F' w3))
 (F4:Fn K mg "fixed" dq iv f4 fd4) (G4:af P w K mg base (cX P w) 5 f4 fd4 iv (nA C I N la T F' w4))
 (F5:Fn K mg "spare" en iv f5 fd5) (G5:af P w K mg base (cX P w) 4 f5 fd5 iv (nA C I N la T F' w5))
 (mT:gc K C "ties" fT) (bT:cY K iP qq []) (GT:af P w K mg base aq 1 fT iP qq (nz C λT _=>T))
 (mF:gc K C "falls" fF) (bF:cY K tu qq []) (GF:af P w K mg base aq 1 fF tu qq (nz C λ_ F=>F))
 (mO:gc K C "own" fO) (bO:cY K JC qq []) (GO:af P w K mg base aq 1 fO JC qq (AE C)):
 af P w K mg base aq 7 f Y č (Z0 C N la T F' w0 w1 w2 w3 w4 w5):=by
 refine F.F.cJ BU λ_ x6 _ x9 H _ x8 x7 hr x4=>?_;obtain ⟨p,rfl,D,E,x1⟩:=x4;have gO:cA 1 _:=hr.mono (by decide);refine ⟨_,cf (cg 1 BU.nd (iJ (aU (qB uu (by rfl) oC (by decide+kernel) (aU (bM GK hr FK (aU (pv 0))))))))
  (cf (fJ ft U (f9 (iJ (qp (nH (v:=.ref f1) U F1.g U) (jV (nH (v:=.ref f2) U F2.g U) (nH (v:=.ref J) U F3.g U) (nH (v:=.ref f4) U F4.g U) (nH (v:=.ref f5) U F5.g U))))) (bH 2 BU.nd)
   (aO (Zs (i:=3) (Cn:=I) U U BU.nd U U U gN
    (λpins Ex=>ax (eg (Y4 (K:=K) U kY kf kX jT (pv 1) (aU (Tx (i:=2) (j:=0) U (Or.inl U) U (Or.inl U))))))
    (λa=>ax (eg (kE kY kf kX jT (pv 1) (aU (ZF (K:=K) U (pv 3) U)))))) dH))
  (ax (b_ (cv xK (pv 1) (iJ (gv (pB (pv 0) TC.cl mT GT gO bT .nil eK) (pB (pv 0) TC.cl mF GF gO bF .nil eK) (pB (pv 0) TC.cl mO GO gO bO .nil eK))))))),?_⟩
 refine λN1 c1=>(aa U ⟨p,U,D,E,λx5 ys t0 H1 ϳ s1 er hl hl3 ϫ ϣ=>⟨x5,_,U,.inr (cK.of er),λl vd=>⟨dj U,λfo IC=>c1 _ _ ?_⟩⟩⟩);clear c1 N1;have sl:=a8 (o:=.lst ys) vd;have sf:=a8 (o:=.lst [V.ref l]) IC;have Rn:l≠fo:=a7 (ah (H:=H1) (a:=l) (o:=.lst ys)) IC;have Rg:H1 fo=none:=sl.free IC;have fo0:H fo=none:=s1.free Rg;have ZU:c7 4 (upd H fo (.lst [])) (upd (upd H1 l (.lst ys)) fo (.lst [V.ref l])) (.ref l) (gU t0):=by refine ⟨l,ys,U,sf _ _ ah,by rw [ag Rn];exact s1.free vd,⟨hl,by lia⟩,λj a t b h=>?_⟩;exact (c7.fresh (λp o e z=>by rw [ag (a7 e Rg)];exact z) (ϫ j a t b h)).same (sl.trans sf)
 have hG:∀i x,[V.ref f1,.ref f2,.ref J,.ref f4,.ref f5][i]?=some x->∃x1 f Y,x=V.ref f/\x1<=5/\af P w K mg base (cX P w) x1 f Y iv (nA C I N la T F' (vP w1 w2 w3 w4 w5 i))/\PySem.W.keepIn K (.ref f)=true/\cY K Y iv []:=λi x e=>by
  match i,e with
  | 0,e=>cases e;exact ⟨_,_,_,U,by decide,G1,F1.F.kp,F1.b⟩
  | 1,e=>cases e;exact ⟨_,_,_,U,by decide,G2,F2.F.kp,F2.b⟩
  | 2,e=>cases e;exact ⟨_,_,_,U,by decide,G3,F3.F.kp,F3.b⟩
  | 3,e=>cases e;exact ⟨_,_,_,U,by decide,G4,F4.F.kp,F4.b⟩
  | 4,e=>cases e;exact ⟨_,_,_,U,by decide,G5,F5.F.kp,F5.b⟩
  | _+5,e=>cases e
 refine λN2 c2=>⟨dj U,λwl HD=>⟨wl,U,⟨_,ai.of ah⟩,?_⟩⟩;have ewf:wl≠fo:=λz=>by rw [z,ah] at HD;cases HD
 have sw:=a8 (o:=.lst [V.ref f1,.ref f2,.ref J,.ref f4,.ref f5]) HD;refine iA (K:=K) (a:=wl) (xs:=[V.ref f1,.ref f2,.ref J,.ref f4,.ref f5]) (λi gy X=>∃v2 S m,gy=[some (.ref p),some (.ref fo),v2,S]/\m.length=i/\Df H fo wl l [V.ref f1,.ref f2,.ref J,.ref f4,.ref f5] (gU t0::m) X/\∀(j:Nat) t,m[j]?=some t->vP w1 w2 w3 w4 w5 j t) ⟨none,none,[],U,U,⟨((s1.trans sl).trans sf).trans sw,⟨fo0,ewf⟩,ah,[V.ref l],sw _ _ ah,U,⟨[],U,by simp,(λz=>by rw [(sf.trans sw) _ _ ah] at z;cases z),Rn,λx hx=>nomatch hx⟩,λj a t b h=>?_⟩,λj t g=>nomatch g⟩ ?_ ?_ ?_
 ·cases j with
  | zero=>cases b;cases h;exact ZU.same sw
  | succ j=>cases b
 ·rintro i gy X _ ⟨v2,S,m,rfl,n,q,q2⟩;exact ai.of q.2.2.1
 ·rintro i x gy Hc hx ⟨v2,S,m,rfl,n,q,q2⟩;obtain ⟨kk,g,gd,rfl,hk,FG,kp,bb⟩:=hG i x hx;have Wc:=D.same q.1;have yP:∀{t:dc 4},vP w1 w2 w3 w4 w5 i t->∀(j:Nat) t',(m++[t])[j]?=some t'->vP w1 w2 w3 w4 w5 j t':=λ{t} ϡ j t' r=>by
   by_cases sW:j<m.length
   ·rw [ic sW] at r;exact q2 j t' r
   ·obtain ⟨x2,rfl⟩:=Nat.exists_eq_add_of_le (jt sW);rw [iD (by lia),Nat.add_sub_cancel_left] at r
    cases x2 with
    | zero=>cases r;rw [Nat.add_zero,n];exact ϡ
    | succ x2=>cases r
  have q0:=q;obtain ⟨-,⟨-,-⟩,-,W,y,L,-,-⟩:=q0;have Q8:W.length<sizeLine:=by have:i<5:=(cO.mp hx).1;rw [L,gw,n];show _<16777216;lia
  refine ⟨λc dx Ko B=>c=I/\Ko=[some (.ref p),some (.ref fo),some (.ref g),S]/\∃d l ring,dx=some d/\Hc l=none/\ao Hc B/\B d=some (ju d [("ring",.ref l)])/\B l=some (.lst (hI ring))/\ring.length<=8/\vP w1 w2 w3 w4 w5 i (jR 3 (hI ring)),?_,?_⟩
  ·refine (aa U ⟨.inl ⟨U,_,ai.of y⟩,kk,g,gd,"web",_,_,U,U,hr.mono (by lia),FG,kp,bb,p,U,Wc,E,λl' B t zl s2 tr wt=>?_,λd l' ring B z1 z2 z3 z4 z5 z6=>⟨I,U,U,U,d,l',ring,U,z1,z2,z3,z4,z5,z6⟩⟩);exact (kK (s2 _ _ y) Q8 ⟨_,_,m++[t],U,by rw [dw,n];rfl,q.push zl (Vp tr) s2 y tr,yP wt⟩)
  ·rintro c dx Ko B ⟨rfl,rfl,d,l',ring,rfl,z1,z2,z3,z4,z5,z6⟩;refine ⟨zK,λa t tb ha=>?_⟩;have sx:=a8 (o:=yw a c (some d) t tb) ha;have sa:=z2.trans sx;refine (aa U ⟨.inl ⟨U,_,ai.of (sa _ _ y)⟩,aa U ⟨a,c,d,t,tb,_,_,_,U,ah,sx _ _ z3,GX,nR,U,kK (sa _ _ y) Q8 ⟨_,_,m++[jR 3 (hI ring)],U,by rw [dw,n];rfl,q.push z1 (λz=>by rw [sx _ _ z4] at z;cases z) sa y (t_ (d:=3) (sx _ _ z4) z1 ?_ ?_),yP z6⟩⟩⟩)
   ·rw [hI,ak];lia
   ·rw [hI,Ab,lT];exact λ_ _=>rfl
 ·rintro gy X ⟨v2,S,m,rfl,n,q,q2⟩;apply c2;obtain ⟨s,⟨h0,h1⟩,-,W,y,L,⟨rest,er',nr,n0,n1,QH⟩,ϥ⟩:=q;have Wc:=D.same s;obtain ⟨dx,ta,fa,ew,-,-⟩:=Wc;refine (aa U ?_);refine (aa U (ip ew U ⟨p,_,_,_,_,U,D.same s,λR Ht zt k rt=>?_⟩));refine (aa U (ip (k _ _ ew) U ⟨p,_,_,_,_,U,(D.same s).same k,λO Hf zf u rf=>?_⟩));refine (aa U (ip (u _ _ (k _ _ ew)) U ⟨p,N,_,_,_,U,((D.same s).same k).same u,E,λQ Ho zo M ro=>?_⟩));refine ⟨dj U,λx3 hb=>⟨fo,x3,W,_,U,U,a8 hb _ _ (M _ _ (u _ _ (k _ _ y))),ah,?_,λq G=>?_⟩⟩
  ·rw [L,gw,n];show 5+1+3<=16777216
   decide
  have A:=a8 (o:=.lst [V.ref R,.ref O,.ref Q]) hb;have sq:=a8 (o:=.lst (W++[V.ref R,.ref O,.ref Q])) G;have s6:=M.trans (A.trans sq);have s7:=u.trans s6;have s8:=k.trans s7;have f0:=a8 (o:=.lst []) h0;refine x1 q (gU t0::m++[xD T,xD F',jR 3 ((jv N F').map V.int)]) _ (s.trans s8) ⟨q,_,U,ah,s.free (k.free (u.free (M.free (A.free G)))),⟨by rw [dw,dw,L];rfl,?_⟩,λj a t b h=>?_⟩ ⟨gU t0,m,U,n,ϣ,q2⟩ ?_
  ·rw [dw,gw,n];show 5+1+3<=16500000
   decide
  ·by_cases r:j<W.length
   ·rw [ic r] at b;rw [ic (by rw [<-L];exact r)] at h;exact (c7.wk (λq z=>f0.free z) (ϥ j a t b h)).same s8
   ·obtain ⟨x2,rfl⟩:=Nat.exists_eq_add_of_le (jt r);rw [iD (by lia)] at b;rw [iD (by lia),<-L] at h;rw [Nat.add_sub_cancel_left] at b h
    match x2,b,h with
    | 0,b,h=>
     cases b;cases h;exact L6 (rt.same s7) (s.free zt) (by have:=E.tl;lia)
    | 1,b,h=>
     cases b;cases h;exact L6 (rf.same s6) (s.free (k.free zf)) (by have:=E.fl;lia)
    | 2,b,h=>
     cases b;cases h;refine t_ (A.trans sq _ _ ro) (s.free (k.free (u.free zo))) ?_ ?_
     ·have:=E.n2;have:=CZ (λ(i:Nat)=>decide (¬(i:Int)∈F'.map oW)) (List.range N);rw [i4] at this;rw [ak,jv,ak];lia
     ·rw [Ab,lT];exact λ_ _=>rfl
    | _+3,b,h=>cases b
  ·have hn:∀a,X a≠none->a≠R/\a≠O/\a≠Q/\a≠q:=λa z=>⟨λe=>z (e▸zt),λe=>z (k.free (e▸zf)),λe=>z (k.free (u.free (e▸zo))),λe=>z (k.free (u.free (M.free (A.free (e▸G)))))⟩;obtain ⟨ò,Qu,î,í⟩:=hn l n0;obtain ⟨pt,Ð,_⟩:=rt;obtain ⟨pf,Ò,_⟩:=rf;have k1:R≠q:=a7 (A _ _ (M _ _ (u _ _ Ð))) G;have k2:O≠q:=a7 (A _ _ (M _ _ Ò)) G;have k3:Q≠q:=a7 (A _ _ ro) G;refine ⟨l,rest++[.ref R,.ref O,.ref Q],by rw [ah,er'];rfl,λz=>?_,λz=>?_,λe=>í e.symm⟩
   ·rcases gH.mp z with z | z
    ·exact nr z
    ·simp only [eR,V.ref.injEq,List.not_mem_nil,or_false] at z;rcases z with z | z | z
     ·exact ò z
     ·exact Qu z
     ·exact î z
   ·rcases gH.mp z with z | z
    ·obtain ⟨a,e,g⟩:=QH _ z;cases e;exact (hn _ g).2.2.2 U
    ·simp only [eR,V.ref.injEq,List.not_mem_nil,or_false] at z;rcases z with z | z | z
     ·exact k1 z.symm
     ·exact k2 z.symm
     ·exact k3 z.symm
end Y0
namespace MB
open MA
theorem Tf {p:Nat->Int} (h:∀i,s.t i<=p i) (a:p x.2.1-p x.1<=x.2.2) (i:Nat):(fw s x).t i<=p i:=by
 unfold fw;split
 ·show put s.t x.1 (s.t x.2.1-x.2.2) i<=p i;unfold put;split
  ·rename_i e
   have:=h x.2.1;rw [e];lia
  ·exact h i
 ·exact h i
theorem Lk {p:Nat->Int}:∀{B:List B3} {s:Rx},(∀i,s.t i<=p i)->(∀x∈B,p x.2.1-p x.1<=x.2.2)->∀i,(B.foldl fw s).t i<=p i
 | [],_,h,_,i=>h i
 | x::B,s,h,a,i=>by rw [vq];exact Lk (B:=B) (λi=>Tf h (a x fh) i) (λy b=>a y (gI _ b)) i
theorem EW {p:Nat->Int} (a:∀i,0<=p i) (b:∀x∈B,p x.2.1-p x.1<=x.2.2):∀k i,(a_ B k).t i<=p i
 | 0,i=>a i
 | k+1,i=>Lk (B:=B) (s:=lX (a_ B k)) (λi=>EW a b k i) b i
theorem Tc (i:Nat):s.t i<=(fw s x).t i:=by
 unfold fw;split
 ·rename_i h
  show s.t i<=put s.t x.1 (s.t x.2.1-x.2.2) i;unfold put;split
  ·rename_i e
   rw [e];exact gk h
  ·exact jn _
 ·exact jn _
theorem Li:∀{B:List B3} {s:Rx} (i:Nat),s.t i<=(B.foldl fw s).t i
 | [],_,_=>jn _
 | x::B,s,i=>by rw [vq];exact kh (Tc i) (Li (B:=B) i)
theorem EV:∀k i,0<=(a_ B k).t i
 | 0,_=>jn _
 | k+1,i=>kh (EV k i) (Li (B:=B) (s:=lX (a_ B k)) i)
open Classical in
section
variable {t:Nat->Int}
end
end MB
namespace Y0
open PySem L2
seal L2.PE L2.PA L2.PT L2.PS L2.f7 L2.PG L2.mH L2.PI L2.PO
seal L2.kT L2.il L2.iu L2.fV L2.gS L2.hQ L2.ir L2.iq L2.gf Y0.aB
theorem MB.nZ (h:_root_.MB.n6 f n x r) (h':_root_.MB.n6 f n x r'):r=r':=by
 obtain ⟨L,a,_,rfl,b,c⟩:=h;obtain ⟨M,d,_,rfl,e,g⟩:=h';have:L=M:=by
  rcases wX L M with z | z | z
  ·exact absurd b (g L a z)
  ·exact z
  ·exact absurd e (c M d z)
 rw [this]
def gK (B:List _root_.MB.B3) (N:Nat) (a:Nat->dc 4) (t:dc 4):Prop:=
 (∃k,k<N/\(_root_.MB.a_ B (k+1)).q=none/\t=a k)\/
  ((∀k,k<N->(_root_.MB.a_ B (k+1)).q≠none)/\∃x ring,(_root_.MB.a_ B N).q=some x/\_root_.MB.n6 (_root_.MB.a_ B N).p N x ring/\t=jR 3 (hI ring))
theorem gK.one (d:∀k a,(_root_.MB.a_ B (k+1)).q=none->(_root_.MB.a_ B (a+1)).q=none->good k=good a) (h:gK B N good t) (h':gK B N good t'):t=t':=by
 rcases h with ⟨k,e,q,rfl⟩ | ⟨q,x,r,j,g,rfl⟩<;>rcases h' with ⟨a,f,b,rfl⟩ | ⟨b,m,l,c,i,rfl⟩
 ·exact d k a q b
 ·exact absurd q (b k e)
 ·exact absurd b (q a f)
 ·rw [j] at c;cases c;rw [MB.nZ g i]
theorem once (h:(_root_.MB.a_ B (k+1)).q=none) (h':(_root_.MB.a_ B (C+1)).q=none):(_root_.MB.a_ B (k+1)).t=(_root_.MB.a_ B (C+1)).t:=
 funext λi=>Int.le_antisymm (_root_.MB.EW (λi=>_root_.MB.EV _ i) (_root_.MB.quiet h').2 _ i) (_root_.MB.EW (λi=>_root_.MB.EV _ i) (_root_.MB.quiet h).2 _ i)
section
theorem yp (g:α->Int) (xs:List α):(xs.map λx=>V.int (g x)).all gh=true:=by rw [Ab,lT];exact λ_ _=>rfl
theorem x_ (h:_root_.MB.n6 f n x r):r.length<=n:=by obtain ⟨L,_,a,rfl,_⟩:=h;rw [ak,i4];exact a
theorem Vt (G:af P w K mg base (cX P w) k f fd ps (Dy C I)):af P w K mg base (cX P w) k f fd ps (nA C I N la T F (gK ((bG (N:Int) la T F).map aZ) N λk=>jR 3 (bc N (_root_.MB.a_ ((bG (N:Int) la T F).map aZ) (k+1)).t))):=
 af.weak G λv H Q E ⟨p,e,i,c,t,u⟩=>⟨p,N,la,T,F,e,i,c,λk l b n q a s h=>t l b _ a s (t_ h a (by rw [md];have:=c.n2;lia) (yp _ _)) (.inl ⟨k,n,q,U⟩),
  λo x d l ring b r g _ a s j m=>u d l ring b a s j m (by have:=x_ g;have:=c.n2;lia) (.inr ⟨o,x,ring,r,g,U⟩)⟩
theorem Vv (G:af P w K mg base (cX P w) k f fd ps (D_ C I)):af P w K mg base (cX P w) k f fd ps (nA C I N la T F (gK ((bG (N:Int) la T F).map aZ) N λ_=>jR 3 (bc N (_root_.MB.pq N la ((bG (N:Int) la T F).map aZ) 0)))):=
 af.weak G λv H Q E ⟨p,e,i,c,t,u⟩=>⟨p,N,la,T,F,e,i,c,λk l b n q a s h=>t l b _ a s (t_ h a (by rw [md];have:=c.n2;lia) (yp _ _)) (.inl ⟨k,n,q,U⟩),
  λo x d l ring b r g _ a s j m=>u d l ring b a s j m (by have:=x_ g;have:=c.n2;lia) (.inr ⟨o,x,ring,r,g,U⟩)⟩
theorem VQ (G:af P w K mg base (cX P w) k f fd ps (DL C I)):af P w K mg base (cX P w) k f fd ps (nA C I N la T F (gK ((kF (N:Int) la T F).map aZ) N λk=>jR 3 (yx N F (_root_.MB.a_ ((kF (N:Int) la T F).map aZ) (k+1)).t))):=
 af.weak G λy H Q E ⟨p,e,j,c,u,v⟩=>⟨p,N,la,T,F,e,j,c,λk l b o r a s h=>u l b _ a s (t_ h a (by rw [yx,ak,i4];have:=c.n2;lia) (by
  rw [yx,Ab,lT];intro i _;rw [Function.comp_apply];split<;>rfl)) (.inl ⟨k,o,r,U⟩),
  λq x d l ring b t g _ a s m n=>v d l ring b a s m n (by have:=x_ g;have:=c.n2;lia) (.inr ⟨q,x,ring,t,g,U⟩)⟩
theorem VG (G:af P w K mg base (cX P w) k f fd ps (DM C I)):af P w K mg base (cX P w) k f fd ps (nA C I N la T F (gK ((bG (N:Int) la T F).map aZ) N λ_=>jR 3 (((sj N la T F).map λ(k:Nat)=>(k:Int)).map V.int))):=
 af.weak G λv H Q E ⟨p,e,i,c,t,u⟩=>⟨p,N,la,T,F,e,i,c,λk l b n q a s h=>t l b _ a s (t_ h a (by
  rw [ak,ak];have:=CZ (λk=>decide (k∉dX N la T F T.length)) (List.range T.length);rw [i4] at this;have:=c.tl;rw [sj];lia) (yp _ _)) (.inl ⟨k,n,q,U⟩),
  λo x d l ring b r g _ a s j m=>u d l ring b a s j m (by have:=x_ g;have:=c.n2;lia) (.inr ⟨o,x,ring,r,g,U⟩)⟩
def Pq (N:Nat) (g:Nat->Nat->Int):dc 4:=gU ((List.range N).map λi=>jR 2 (bc N (g i)))
theorem VH (G:af P w K mg base (cX P w) k f fd ps (AY C J)):af P w K mg base (cX P w) k f fd ps (nA C J N la T F (gK ((bG (N:Int) la T F).map aZ) N λ_=>Pq N (_root_.MB.pq N la ((bG (N:Int) la T F).map aZ)))):=
 af.weak G λR H Q E ⟨p,e,o,m,L,M⟩=>⟨p,N,la,T,F,e,o,m,λk l O g v z c A s h=>L l g _ c s (by
  have:=m.n2;refine ⟨l,_,U,h.top,c,⟨by rw [ak,h.len,ak,i4],by rw [ak,i4];lia⟩,λj a t b i=>?_⟩;rw [cW] at b i
  cases I:O[j]? with
  | none=>rw [I] at b;cases b
  | some r=>
   rw [I] at b;cases b;have D:j<N:=by rw [<-h.len];exact (cO.mp I).1
   rw [List.getElem?_range D] at i;cases i;exact t_ (h.row j r I) (A r (fY I)) (by rw [md];lia) (yp _ _)) (.inl ⟨k,v,z,U⟩),
  λy x d l ring g B n _ c s q u=>M d l ring g c s q u (by have:=x_ n;have:=m.n2;lia) (.inr ⟨y,x,ring,B,n,U⟩)⟩
end
theorem NF (g:∀(i:Nat) (r:Row),rows[i]?=some r->∀j∈r.used,j<i) (h:rQ rows b ns) (h':rQ rows b Hg):∀d i,b-i=d->i∈ns->i∈Hg:=by
 intro d
 induction d using Nat.strongRecOn with
 | _ d m=>
  intro i e l;rcases h.why i l with rfl | ⟨k,a,r,c,f⟩
  ·exact h'.has
  ·have:=g k r c i f;have:=h.le k a;exact h'.uses k (m (b-k) (by lia) k U a) r c i f
theorem Ts (c:∀(i:Nat) (r:Row),rows[i]?=some r->∀j∈r.used,j<i) (h:rQ rows b ns) (h':rQ rows b Hg):ns=Hg:=
 List.Perm.eq_of_pairwise (le:=(·<·)) (λa b _ _ d e=>by lia) h.up h'.up ((List.perm_ext_iff_of_nodup (Bm h.up) (Bm h'.up)).mpr λi=>⟨NF c h h' _ i U,NF c h' h _ i U⟩)
theorem EY (h:nj st t L) (g:bP n st):∀x∈L,x.1<n/\x.2.1<n:=λx i=>by
 obtain ⟨a,b,v⟩:=x;have c:=(h.has a b v).mp i;unfold val at c
 cases C:st.best (t,a,b) with
 | none=>rw [C] at c;cases c
 | some j=>
  obtain ⟨o,e,f⟩:=g.at_ _ _ C;have d:=gT f;have m:=g.lt _ _ e;have k:=d.2.1;have l:=d.2.2;show a<n/\b<n;lia
theorem LI (g:bP n st) (q:n<=8) (h:nj st t L) (h':nj st t L'):L=L':=by
 have i:∀{M:List pX},nj st t M->M.Nodup:=λ{M} m=>(oQ.mp m.once).imp λh e=>h (by rw [e]);refine List.Perm.eq_of_pairwise (le:=λx y=>((x.1:Int)*64+x.2.1)<=((y.1:Int)*64+y.2.1)) (λx y d f k l=>?_) h.up h'.up ((List.perm_ext_iff_of_nodup (i h) (i h')).mpr λx=>(h.has x.1 x.2.1 x.2.2).trans (h'.has x.1 x.2.1 x.2.2).symm);obtain ⟨a,b,v⟩:=x;obtain ⟨j,b',r⟩:=y;have o:=EY h g _ d;have p:=EY h' g _ f;dsimp only at o p k l;obtain ⟨rfl,rfl⟩:a=j/\b=b':=by lia
 have c:=(h.has _ _ _).mp d;rw [(h'.has _ _ _).mp f] at c;cases c;rfl
def Cs (d:Nat) (xs:List V):dc (d+1):=.inr (false,xs.map (qa d))
theorem Fz (h:H p=some (.tup xs)) (f:xs.all gh=true):c7 (d+1) H0 H (.ref p) (Cs d xs):=by refine ⟨p,xs,U,h,by rw [ak],λj a t b c=>?_⟩;rw [cW,b] at c;cases c;exact vS (vX f b)
theorem F7 (i:∀q x,R q x->c7 d H0 H (.ref q) (g x)) (h:H l=some (.lst (ps.map V.ref))) (e:Paired R ps L) (f:H0 l=none) (k:L.length<=16500000):c7 (d+1) H0 H (.ref l) (gU (L.map g)):=by
 refine ⟨l,_,U,h,f,⟨by rw [ak,ak,kd e],by rw [ak];exact k⟩,λj a t b c=>?_⟩;rw [cW] at b c
 cases C:ps[j]? with
 | none=>rw [C] at b;cases b
 | some q=>
  rw [C] at b;cases b;obtain ⟨x,m,r⟩:=aF e C;rw [m] at c;cases c;exact i q x r
def Dr (r:Row):dc 2:=.inr (false,[Cs 0 (jz r.fm),qa 1 (.str (j0 r.word)),Cs 0 (r.used.map λi:Nat=>V.int (i:Int))])
theorem Tw (h:mL H q r):c7 2 H0 H (.ref q) (Dr r):=by
 obtain ⟨i,g,d,e,f⟩:=h;refine ⟨q,_,U,d,U,λj a t b c=>?_⟩
 match j,b,c with
 | 0,b,c=>
  cases b;cases c;exact Fz e U
 | 1,b,c=>
  cases b;cases c;exact vS U
 | 2,b,c=>
  cases b;cases c;exact Fz f (yp _ _)
 | _+3,b,c=>cases b
def y8 (x:pX):dc 2:=Cs 1 [.int (x.1:Int),.int (x.2.1:Int),.int x.2.2]
theorem KG (h:gR H q x):c7 2 H0 H (.ref q) (y8 x):=Fz h U
def A9 (st:MU.St) (F:dO) (t:dc 4):Prop:=
 (∃b a,st.bar=some b/\rQ st.rows b a/\t=gU [qa 3 (.str "paper"),gU ((xP st.rows a).map Dr)])\/
  (st.bar=none/\∃L M,nj st true L/\nj st false M/\t=gU [qa 3 (.str "rule"),gU (L.map y8),gU ((M.filter (nC F)).map y8)])
theorem S7 (g:bP n st) (c:n<=8) (p:gz st) (h:A9 st F t) (h':A9 st F t'):t=t':=by
 rcases h with ⟨b,y,e,m,rfl⟩ | ⟨e,L,M,d,f,rfl⟩<;>rcases h' with ⟨x,z,a,o,rfl⟩ | ⟨a,u,v,k,l,rfl⟩
 ·rw [e] at a;cases a;rw [Ts (λi r s j q=>(p.1 i r s).2 j q) m o]
 ·rw [e] at a;cases a
 ·rw [e] at a;cases a
 ·rw [LI g c d k,LI g c f l]
theorem LH (h:nj st t L) (g:bP n st) (k:n<=8):L.length<=64:=by
 have b:=EY h g;have d:(L.map λx=>x.1*8+x.2.1).Nodup:=by have a:=h.once;unfold List.Nodup at a ⊢;rw [oQ] at a ⊢;refine CQ (λ{x y} c f e z=>e ?_) a;have j:=b x c;have l:=b y f;exact Prod.ext (by show x.1=y.1;lia) (by show x.2.1=y.2.1;lia)
 have:=su 64 _ d λz i=>by obtain ⟨x,c,rfl⟩:=eQ.mp i;have j:=b x c;show x.1*8+x.2.1<64;lia
 rwa [ak] at this
section
variable {P:Program} {mg:Str->Option Value} {N:Nat}
theorem Vu (I:vE N (fj F) (lr N la T F) Te) (G:af P w K mg base aq k f fd y (Dz C)):af P w K mg base aq k f fd y (Lv C N la T F (A9 (j6 N la T F Te) (fj F))):=by
 refine af.weak G λvs H Q E ⟨p,e,R,m,q⟩=>⟨p,N,la,T,F,Te,e,R,m,I,λr A J s=>⟨λb l h=>?_,λl h=>?_⟩⟩
 ·obtain ⟨x1,i,y,n,o,u,g,v⟩:=h;refine q r _ [qa 3 (.str "paper"),gU ((xP (j6 N la T F Te).rows i).map Dr)] A J s n U (show 2<=3 by decide) (λj a t c d=>?_) (.inl ⟨b,i,l,g,U⟩)
  match j,c,d with
  | 0,c,d=>
   cases c;cases d;exact vS U
  | 1,c,d=>
   cases c;cases d;refine F7 (λq x z=>Tw z) o u v ?_;have X:gz (j6 N la T F Te):=Bh (Fe _ _ E') Te;obtain ⟨rb,Y,_⟩:=X.2 b l;have mX:=(cO.mp Y).1;have a1:i.length<=b+1:=su (b+1) i (Bm g.up) λz Z=>by have:=g.le z Z;lia
   have a2:(xP (j6 N la T F Te).rows i).length<=i.length:=Aq _ _;have a3:(j6 N la T F Te).rows.length<=16000000:=I.m_ Te (ar _);lia
  | _+2,c,d=>cases c
 ·obtain ⟨lt,lw,y,qs,L,M,n,o,u,g,v,S,D,V,W,_⟩:=h;have B:bP N (j6 N la T F Te):=yc m.Cu (EL m).good Te;have O:N<=8:=by have:=m.n2;lia
  refine q r _ [qa 3 (.str "rule"),gU (L.map y8),gU ((M.filter (nC (fj F))).map y8)] A J s n U (show 3<=3 by decide) (λj a t c d=>?_) (.inr ⟨l,L,M,g,D,U⟩)
  match j,c,d with
  | 0,c,d=>
   cases c;cases d;exact vS U
  | 1,c,d=>
   cases c;cases d;exact F7 (λq x z=>KG z) o u V (by have:=LH g B O;lia)
  | 2,c,d=>
   cases c;cases d;exact F7 (λq x z=>KG z) v S W (by
    have:=LH D B O;have:=CZ (nC (fj F)) M;lia)
  | _+3,c,d=>cases c
end
def rR (N:Nat) (la:Int) (T F:List (List Int)) (a:Nat) (b:List (dc 4)):Prop:=
 Pz N T F (A9 (j6 N la T F a) (fj F)) (gK ((bG (N:Int) la T F).map aZ) N λ_=>Pq N (_root_.MB.pq N la ((bG (N:Int) la T F).map aZ)))
  (gK ((bG (N:Int) la T F).map aZ) N λk=>jR 3 (bc N (_root_.MB.a_ ((bG (N:Int) la T F).map aZ) (k+1)).t))
  (gK ((bG (N:Int) la T F).map aZ) N λ_=>jR 3 (bc N (_root_.MB.pq N la ((bG (N:Int) la T F).map aZ) 0)))
  (gK ((kF (N:Int) la T F).map aZ) N λk=>jR 3 (yx N F (_root_.MB.a_ ((kF (N:Int) la T F).map aZ) (k+1)).t))
  (gK ((bG (N:Int) la T F).map aZ) N λ_=>jR 3 (((sj N la T F).map λ(k:Nat)=>(k:Int)).map V.int)) b
theorem TZ {N:Nat} {la:Int} {T F:List (List Int)} {c:Nat} (d:c_ (N:Int) la T F) (h:rR N la T F c ts) (h':rR N la T F c PQ):ts=PQ:=by
 obtain ⟨v,m,rfl,e,r,k⟩:=h;obtain ⟨A,PM,rfl,n,s,l⟩:=h';have q:bP N (j6 N la T F c):=yc d.Cu (EL d).good c;have t:gz (j6 N la T F c):=Bh (Fe _ _ E') c;have u:N<=8:=by have:=d.n2;lia
 have o:=S7 q u t r s;have p:m=PM:=by
  refine List.ext_getElem (e.trans n.symm) λj g i=>?_;have a:=k j _ (df g);have b:=l j _ (df i)
  revert a b
  generalize m[j]=x,PM[j]=y;intro a b;clear g i k l
  match j,a,b with
  | 0,a,b=>exact gK.one (λ_ _ _ _=>rfl) a b
  | 1,a,b=>exact gK.one (λ_ _ z f=>by rw [once z f]) a b
  | 2,a,b=>exact gK.one (λ_ _ _ _=>rfl) a b
  | 3,a,b=>exact gK.one (λ_ _ z f=>by rw [once z f]) a b
  | _+4,a,b=>exact gK.one (λ_ _ _ _=>rfl) a b
 rw [o,p]
theorem Yq {ι:Type} {CX:nh} {k:Nat} {f:Addr} {a:FuncData} {b:List Str} {sp:ι->Sp} (h:∀i,af P w K mg base CX k f a b (sp i)):af P w K mg base CX k f a b (λvs H Q E=>∃i,sp i vs H Q E):=
 ⟨λvs H Q E ⟨i,z⟩=>(h i).len vs H Q E z,λA l s H args m vs Q E e c d j ⟨i,g⟩=>(h i).run A l s H args m vs Q E e c d j g⟩
structure Wy where
 N:Nat
 la:Int
 T:List (List Int)
 F:List (List Int)
 Te:Nat
 ended:vE N (fj F) (lr N la T F) Te
def Ml (C:Addr):Sp:=λe H Q _=>∃(p:Addr) (N:Nat) (b:Int) (T F:List (List Int)) (c:Nat),e=[.ref p]/\gA C H p (N:Int) b T F/\c_ (N:Int) b T F/\vE N (fj F) (lr N b T F) c/\
 ∀l d a,ao H a->c7 5 H a (.ref l) (gU d)->rR N b T F c d->Px a l->Q (.ref l) a
section
theorem mq {f C a i b c d e g k h j:Addr} {l s m n o p q u r t:FuncData} (F:Fn K mg "_law_told" fU č f l) (oC:mg "list"=none) (S:iS K mg C) (gN:mg "NoTimes"=some (.ref a)) (zK:PySem.W.exmOne K (.ref a) (.ref a)=some true) (R:wx K a) (nR:PySem.W.findIn K (.ref a) "ring"=some none)
 (D:Fn K mg "kept" eO iv i s) (M:af P w K mg base aq 6 i s iv (Dz C))
 (v:Fn K mg "tight" dm iv b m) (E:af P w K mg base (cX P w) 4 b m iv (AY C a))
 (y:Fn K mg "earliest" cB iv c n) (G:af P w K mg base (cX P w) 4 c n iv (Dy C a))
 (z:Fn K mg "latest" dn iv d o) (H:af P w K mg base (cX P w) 5 d o iv (D_ C a))
 (A:Fn K mg "fixed" dq iv e p) (I:af P w K mg base (cX P w) 5 e p iv (DL C a))
 (B:Fn K mg "spare" en iv g q) (J:af P w K mg base (cX P w) 4 g q iv (DM C a))
 (mT:gc K C "ties" k) (Z:cY K u qq []) (Q:af P w K mg base aq 1 k u qq (nz C λT _=>T))
 (mF:gc K C "falls" h) (X:cY K r qq []) (L:af P w K mg base aq 1 h r qq (nz C λ_ F=>F))
 (mO:gc K C "own" j) (Y:cY K t qq []) (O:af P w K mg base aq 1 j t qq (AE C)):
 af P w K mg base aq 7 f l č (Ml C):=by
 refine af.weak (Yq (ι:=Wy) λx=>Tu (N:=x.N) (la:=x.la) (T:=x.T) (F':=x.F) F oC S gN zK R nR D (Vu x.ended M) v (VH E) y (Vt G) z (Vv H) A (VQ I) B (VG J) mT Z Q mF X L mO Y O) λvs x5 x6 x4 ⟨x2,N,la,T,F,V,x1,W,a4,hE,x3⟩=>⟨⟨N,la,T,F,V,hE⟩,x2,x1,W,a4,x3⟩
end
def qc (R:List V) (i:Nat) (H a:Hp):Prop:=(∀b u,H b=some u->V.ref b∉R->a b=some u)/\∀b c,H b=some (.lst c)->∃d,a b=some (.lst (c++d))/\d.length<=i
theorem qc.refl:qc R 0 H H:=⟨λ_ _ e _=>e,λb a e=>⟨[],by rw [rL];exact e,ar _⟩⟩
theorem qc.push (h:qc R i H H') (j:V.ref b∈R) (g:H' b=some (.lst zs)):qc R (i+1) H (upd H' b (.lst (zs++[y]))):=by
 refine ⟨λc u e n=>?_,λc k e=>?_⟩
 ·rw [ag (λz:c=b=>n (by rw [z];exact j))];exact h.1 c u e n
 ·obtain ⟨f,a,l⟩:=h.2 c k e
  by_cases d:c=b
  ·subst d;rw [g] at a;cases a;exact ⟨f++[y],by rw [ah,pR],by rw [dw];exact Nat.succ_le_succ l⟩
  ·exact ⟨f,by rw [ag d];exact a,Nat.le_succ_of_le l⟩
def rk (t:dc 4):Prop:=∃a:List (dc 3),t=gU a
theorem gK.rk (a:∀k,rk (good k)) (h:gK B N good t):rk t:=by
 rcases h with ⟨k,_,_,rfl⟩ | ⟨_,x,r,_,_,rfl⟩
 ·exact a k
 ·exact ⟨_,U⟩
theorem VL (h:rR N la T F Te ts) (b:ts[j+1]?=some t):rk t:=by
 obtain ⟨i,d,rfl,e,g,f⟩:=h
 by_cases c:j<d.length
 ·rw [List.cons_append,List.getElem?_cons_succ,ic c] at b;have a:=f j t b;clear b c
  match j,a with
  | 0,a=>exact gK.rk (λ_=>⟨_,U⟩) a
  | 1,a=>exact gK.rk (λ_=>⟨_,U⟩) a
  | 2,a=>exact gK.rk (λ_=>⟨_,U⟩) a
  | 3,a=>exact gK.rk (λ_=>⟨_,U⟩) a
  | _+4,a=>exact gK.rk (λ_=>⟨_,U⟩) a
 ·rw [List.cons_append,List.getElem?_cons_succ,iD (by lia)] at b;generalize j-d.length=m at b
  match m,b with
  | 0,b=>cases b;exact ⟨_,U⟩
  | 1,b=>cases b;exact ⟨_,U⟩
  | 2,b=>cases b;exact ⟨_,U⟩
  | _+3,b=>cases b
theorem uG (o:yz H) (h:ai K H a (ns.map V.int)):ny K H a ns:=by
 rcases h with (h | h) | h
 ·rcases o a with z | ⟨b,c,z⟩
  ·rw [z] at h;cases h
  ·rw [z] at h;cases h
 ·exact .inl h
 ·exact .inr h
def sP (K:aY):Sp:=λd H Q _=>∃a c,d=[.ref a]/\ny K H a c/\∀b,Q (.bl true) b
section
abbrev ï:List Str:=["_law_script","_law_d","_law_w","_law_other","_law_web_here","_law_told_here","_law_first","_law_row"]
theorem qd:cb ï Ģ (aJ uH):=c9
theorem La:iR (x::xs) (some 1) none=xs:=by
 unfold iR;rw [eo,show (some (1:Int))=some ((1:Nat):Int) from rfl,dC];have:min 1 (x::xs).length=1:=by rw [gw];lia
 rw [this,List.drop_succ_cons,List.drop_zero,gw,Nat.add_sub_cancel];exact i5
theorem uQ (Fn0:Fn K mg "law" uH Ģ f fd) (TC:iS K mg C)
 (FW:Fn K mg "_law_web" nY Q0 fW tq) (GW:af P w K mg base aq 3 fW tq Q0 (P8 K))
 (M:Mk K C fI) (bI:cY K zJ ă []) (GI:af P w K mg base aq 3 fI zJ ă (Ky C))
 (FT:Fn K mg "_law_told" fU č fT iP) (GT:af P w K mg base aq 7 fT iP č (Ml C))
 (FC:Fn K mg "_law_copied" dr ē fC fdC) (GC:af P w K mg base aq 6 fC fdC ē (Kx 5)):
 af P w K mg base aq 8 f fd Ģ (sP K):=by
 refine Fn0.F.cJ qd λ_ x9 _ PB x4 _ BX kJ D x5=>?_;obtain ⟨a,ns,rfl,hS0,x7⟩:=x5;have wH:cA 3 _:=D.mono (by decide);have QI:cA 4 _:=D.mono (by decide);have ϲ:cA 6 _:=D.mono (by decide);refine ⟨_,cf (cg 1 qd.nd (iJ (bp (pv 0) a0)))
  (cf (cg 2 qd.nd (bM GW wH FW (jV (pv 1) a0 a0 a0)))
  (cf (cg 3 qd.nd (bM GW wH FW (jV (pv 1) a0 a0 a0)))
  (cf (cg 4 qd.nd (DJ M GI QI U TC.yS bI .nil eK (jV (aN (pv 2)) (aN (pv 2)) (aN (pv 2)) (aN (pv 2)))))
  (cf (cg 5 qd.nd (bM GT D FT (aU (pv 4))))
  (cf (cg 6 qd.nd (bM GC ϲ FC (aU (pv 5))))
  (cf (fJ ft U (f9 (qx xS (pv 5) (qu a0) qt)) (bH 7 qd.nd)
   (ax (eg (kE kY kf kX jT (pv 7) (aU a0)))))
  (cf (fJ ft U (f9 (qx xS (cu cR (pv 5) a0) (qu a0) qt)) (bH 7 qd.nd)
   (ax (eg (kE kY kf kX jT (pv 7) (aU a0)))))
  (cf (eg (bM GT D FT (aU (DJ M GI QI U TC.yS bI .nil eK (jV (aN (pv 3)) (aN (pv 3)) (aN (pv 3)) (aN (pv 3)))))))
  (ax (b_ (oX (Yz (d:=4) ?_) (bM GT D FT (aU (pv 4))) (pv 6)))))))))))),?_⟩
 ·exact (λ(u:Nat) (x5:u+16*7+200<cLine)=>(by lia:u+4+1<cLine)) _ D.un
 refine λk c=>(aa U ⟨dj U,λd hd=>c _ _ ?_⟩);have D0:eb K a (upd x4 d (.lst [.ref a,.int 0])) d:=⟨⟨0,ah⟩,⟨ns,hS0.same (a8 hd)⟩⟩;generalize upd x4 d (.lst [.ref a,.int 0])=H0 at*;clear c k;refine λk c=>(aa U ⟨d,a,8,20,8,U,D0,by decide,by decide,by decide,by decide,by decide,by decide,λwp ta fa x6 la rT rF H1 rD RT RF R n2 nm lm D1 k1 ZX fad m_=>c _ _ ?_⟩);clear c k;refine λk c=>(aa U ⟨d,a,8,20,8,U,D1,by decide,by decide,by decide,by decide,by decide,by decide,λPJ ZZ fa' n' Qv Qb Qc H tw R' Sa ja Qu nm' lm' D2 S ZW fad' few'=>c _ _ ?_⟩);clear c k;obtain ⟨N,rfl⟩:∃N:Nat,x6=N:=⟨x6.toNat,by lia⟩;obtain ⟨N',rfl⟩:∃N:Nat,n'=N:=⟨n'.toNat,by lia⟩;obtain ⟨Te,hE⟩:=N_ R R.l2;obtain ⟨Te',hE'⟩:=N_ ja ja.l2;have y:H wp=some (.tup [.int (N:Int),.int la,.ref ta,.ref fa])/\dP H ta rT/\dP H fa rF:=by obtain ⟨x2,e⟩:=D1.at_;exact ⟨S _ _ rD (λz=>by rw [z,e] at rD;cases rD),RT.keep S e ZX,RF.keep S e fad⟩
 refine λk c=>(aa U (aL y.1 U (aa U (aL y.1 U (aa U (aL y.1 U (aa U (aL y.1 U λx dx X Hj Qn=>?_))))))));have t:ao H (upd (upd H dx (.own x)) x (.ins C dx [])):=λb o e=>by rw [ag (a7 e X),ag (a7 e Hj)];exact e
 refine ⟨x,dx,_,la,ta,fa,rT,rF,U,ah,y.2.1.same t,y.2.2.same t,R,λH4 W4 k4=>⟨U,c _ _ ?_⟩⟩;clear c k;have s4:ao H H4:=λb o e=>k4 b o (t b o e) (a7 e X);have e4:=s4 _ _ tw;have RT4:=R'.same s4;have RF4:=Sa.same s4;clear t k4 Qn D0 D1 D2 k1 S y rD tw RT RF R' Sa;refine λk c=>(aa U ⟨x,N,la,rT,rF,Te,U,W4,R,hE,λx1 ts I s5 Z BZ ap5=>c _ _ ?_⟩);clear c k;refine λk c=>(aa U ⟨.ref x1,gU ts,U,c7.wk (λ_ _=>rfl) Z,λx3 H6 r PU=>c _ _ ?_⟩);clear c k;obtain ⟨l0,rest,J,nr,nl,á⟩:=ap5;have W:∀j x,rest[j]?=some x->∃b xs,x=V.ref b/\I b=some (.lst xs)/\H4 b=none/\xs.length<=16500000:=λj x E=>by
  obtain ⟨x2,xs,e,n,g2,L,O⟩:=Z;cases e;rw [J] at n;cases n;have h:j+1<ts.length:=by rw [<-L.1,gw];exact Nat.succ_lt_succ (cO.mp E).1
  obtain ⟨us,ϧ⟩:=VL BZ (df h);have tx:=O (j+1) x _ E (df h);rw [ϧ] at tx;obtain ⟨b,xs,e,q1,q2,Y,_⟩:=tx;exact ⟨b,xs,e,q1,q2,by rw [Y.1];exact Y.2⟩
 refine λk c=>(aa U ⟨_,U,x1,_,U,ai.of (r _ _ J),λsl Ci=>⟨sl,U,⟨_,ai.of ah⟩,?_⟩⟩);rw [La];have G:=a8 (o:=.lst rest) Ci;have r8:rest.length=8:=by obtain ⟨x2,xs,e,n,g2,L,O⟩:=Z;cases e;rw [J] at n;cases n;obtain ⟨t0,us,e,e1,_⟩:=BZ;have:=L.1;rw [e,dw,gw,gw,e1] at this;exact Nat.succ.inj this
 have Qm:V.ref sl∉rest:=λz=>by obtain ⟨j,h,e⟩:=pW z;obtain ⟨b,xs,l,h5,_⟩:=W j _ (df h);rw [e] at l;cases l;rw [r _ _ h5] at Ci;cases Ci
 refine iA (K:=K) (a:=sl) (xs:=rest) (λi s A=>∃v,s=[some (.ref a),some (.ref d),some (.ref wp),some (.ref PJ),some (.ref x),some (.ref x1),some x3,v]/\qc rest i (upd H6 sl (.lst rest)) A) ⟨none,U,qc.refl⟩ ?_ ?_ ?_
 ·rintro i s A _ ⟨v,rfl,g⟩;exact ai.of (g.1 _ _ ah Qm)
 ·rintro i z s A F ⟨v,rfl,g⟩;have hi:i<rest.length:=(cO.mp F).1;obtain ⟨b,xs,rfl,B,q,ln⟩:=W i z F;obtain ⟨ys,p,lb⟩:=g.2 b xs (G _ _ (r _ _ B));refine (aa U ⟨.inl ⟨U,_,ai.of p⟩,kK p ?_ ⟨_,U,g.push (fY F) p⟩⟩);rw [dw];show _<16777216;lia
 ·rintro s H8 ⟨v,rfl,Q⟩;apply c;clear c k;have h0:∃z du,I l0=some (.lst (z::du))/\du.length<=2/\∀(j:Nat) x,du[j]?=some x->∃b xs,x=V.ref b/\I b=some (.lst xs)/\H4 b=none/\xs.length<=16500000:=by
   obtain ⟨x2,xs,e,n,g2,L,O⟩:=Z;cases e;rw [J] at n;cases n;obtain ⟨t0,us,e,e1,ϭ,_⟩:=BZ;have tx:=O 0 (.ref l0) t0 U (by rw [e];rfl);have key:∃(v:dc 3) (ws:List (List (dc 2))),t0=gU (v::ws.map gU)/\ws.length<=2:=by
    rcases ϭ with ⟨b,ns,_,_,rfl⟩ | ⟨_,nP,M,_,_,rfl⟩
    ·exact ⟨_,[_],U,(by decide:1<=2)⟩
    ·exact ⟨_,[_,_],U,(by decide:2<=2)⟩
   obtain ⟨v,ws,rfl,hw⟩:=key;obtain ⟨b,xs,e,q1,q2,Y,q4⟩:=tx;cases e
   cases xs with
   | nil=>exact absurd Y.1 (by rw [gw];exact λz=>nomatch z)
   | cons z du=>
    have hl:=Nat.succ.inj Y.1;rw [ak] at hl;refine ⟨z,du,q1,by lia,λj x E=>?_⟩;have h:j<ws.length:=by rw [<-hl];exact (cO.mp E).1
    have ty:=q4 (j+1) x (gU ws[j]) E (by rw [List.getElem?_cons_succ,cW,df h];rfl);obtain ⟨b,xs,e,p1,p2,p3,_⟩:=ty;exact ⟨b,xs,e,p1,p2,by rw [p3.1];exact p3.2⟩
  obtain ⟨z0,du,Rr,r2,oA⟩:=h0;have Rp:=Q.1 _ _ (G _ _ (r _ _ J)) nl;have Rw:=Q.1 _ _ (G _ _ (r _ _ Rr)) nr;refine λk c=>(aa U (jD Rp (iH (j:=0) U) ⟨_,U,l0,_,U,ai.of Rw,λsm Cg=>⟨sm,U,⟨_,ai.of ah⟩,?_⟩⟩));rw [La];have sS:ao H4 H8:=λb u e=>Q.1 _ _ (G _ _ (r _ _ (s5 _ _ e))) λz=>by obtain ⟨j,h,l⟩:=pW z;obtain ⟨b',xs,m,_,q,_⟩:=W j _ (df h);rw [l] at m;cases m;rw [e] at q;cases q
  have PR:c7 5 I H8 x3 (gU ts):=c7.keep (λb u e z=>Q.1 _ _ (G _ _ e) λhm=>by
   obtain ⟨j,h,l⟩:=pW hm;obtain ⟨b',xs,m,B,_⟩:=W j _ (df h);rw [l] at m;cases m;rcases z with z | ⟨ZO,rfl⟩
   ·rw [B] at z;cases z
   ·rw [r _ _ B] at e;cases e) PU
  have T:∀(j:Nat) x,du[j]?=some x->∃b xs,x=V.ref b/\H8 b=some (.lst xs)/\H4 b=none/\I b≠none/\xs.length<=16500010:=λj x E=>by obtain ⟨b,xs,e,B,q,ln⟩:=oA j x E;obtain ⟨ys,p,lb⟩:=Q.2 b xs (G _ _ (r _ _ B));refine ⟨b,_,e,p,q,(by rw [B];exact nofun),?_⟩;rw [dw];lia
  have s9:=a8 (o:=.lst du) Cg;have Ql:V.ref sm∉du:=λz=>by obtain ⟨j,h,e⟩:=pW z;obtain ⟨b,xs,l,h5,_⟩:=T j _ (df h);rw [e] at l;cases l;rw [h5] at Cg;cases Cg
  clear Q Rp Rw W oA G r PU Z Qm J Rr nr nl á r8 Ci s5;refine iA (K:=K) (a:=sm) (xs:=du) (λi s A=>∃v,s=[some (.ref a),some (.ref d),some (.ref wp),some (.ref PJ),some (.ref x),some (.ref x1),some x3,v]/\qc du i (upd H8 sm (.lst du)) A) ⟨_,U,qc.refl⟩ ?_ ?_ ?_
  ·rintro i s A _ ⟨v,rfl,g⟩;exact ai.of (g.1 _ _ ah Ql)
  ·rintro i z s A F ⟨v,rfl,g⟩;have hi:i<du.length:=(cO.mp F).1;obtain ⟨b,xs,rfl,e8,q,n5,ln⟩:=T i z F;obtain ⟨ys,p,lb⟩:=g.2 b xs (s9 _ _ e8);refine (aa U ⟨.inl ⟨U,_,ai.of p⟩,kK p ?_ ⟨_,U,g.push (fY F) p⟩⟩);rw [dw];show _<16777216;lia
  ·rintro s H9 ⟨v,rfl,g9⟩;apply c;clear c k;have qH:ao H4 H9:=λb u e=>g9.1 _ _ (s9 _ _ (sS _ _ e)) λz=>by
    obtain ⟨j,h,l⟩:=pW z;obtain ⟨b',xs,m,_,q,_⟩:=T j _ (df h);rw [l] at m;cases m;rw [e] at q;cases q
   have ZS:c7 5 I H9 x3 (gU ts):=c7.keep (λb u e z=>g9.1 _ _ (s9 _ _ e) λhm=>by
    obtain ⟨j,h,l⟩:=pW hm;obtain ⟨b',xs,m,e8,_,n5,_⟩:=T j _ (df h);rw [l] at m;cases m;rcases z with z | ⟨ZO,rfl⟩
    ·exact n5 z
    ·rw [e8] at e;cases e) PR
   clear g9 s9 T Ql Cg PR sS;have e9:=qH _ _ e4;refine λk c=>(aa U (aL e9 U (aa U (aL e9 U (aa U (aL e9 U (aa U (aL e9 U λx' zO X Hj Qn=>?_))))))));have t:ao H9 (upd (upd H9 zO (.own x')) x' (.ins C zO [])):=λb o e=>by rw [ag (a7 e X),ag (a7 e Hj)];exact e
   refine ⟨x',zO,_,Qv,ZZ,fa',Qb,Qc,U,ah,(RT4.same qH).same t,(RF4.same qH).same t,ja,λxp W10 Ϙ=>⟨U,?_⟩⟩;have GQ:ao H9 xp:=λb o e=>Ϙ b o (t b o e) (a7 e X);refine ⟨x',N',Qv,Qb,Qc,Te',U,W10,ja,hE',λl' PQ De yM _ _ _=>c _ _ ?_⟩;clear c k;have qI:=GQ.trans yM;refine (aa U ⟨x,N,la,rT,rF,Te,U,W4.same (qH.trans qI),R,hE,λl2 ts2 H12 Î ZT to2 _=>(aa U ?_)⟩);cases TZ R BZ to2;obtain ⟨x2,xs,e,h1,_,h3,h4⟩:=ZT;obtain ⟨x8,ys,l,n,_,L,O⟩:=ZS.same (qI.trans Î);cases e;refine ⟨_,x8,xs,ys,U,l,h1,n,h3.1.trans L.1.symm,λj a b k1 S=>?_,x7 _⟩;have h:j<ts.length:=by rw [<-h3.1];exact (cO.mp k1).1
   exact c7.alike (h4 j a _ k1 (df h)) (O j b _ S (df h))
end
end Y0
namespace L2
theorem ko:∀{us:List α},us.length=n+1->∃a t,us=a::t/\t.length=n
 | a::t,h=>⟨a,t,U,Nat.succ.inj h⟩
theorem WM (us:List α) (h:us.length=1):∃a,us=[a]:=by obtain ⟨a,c,rfl,b⟩:=ko h;obtain rfl:=Aw b;exact ⟨a,U⟩
theorem OZ (us:List α) (h:us.length=2):∃a b,us=[a,b]:=by obtain ⟨a,e,rfl,c⟩:=ko h;obtain ⟨b,f,rfl,d⟩:=ko c;obtain rfl:=Aw d;exact ⟨a,b,U⟩
theorem WN (us:List α) (h:us.length=3):∃a b c,us=[a,b,c]:=by obtain ⟨a,g,rfl,d⟩:=ko h;obtain ⟨b,i,rfl,e⟩:=ko d;obtain ⟨c,j,rfl,f⟩:=ko e;obtain rfl:=Aw f;exact ⟨a,b,c,U⟩
theorem WO (us:List α) (h:us.length=4):∃a b c d,us=[a,b,c,d]:=by obtain ⟨a,j,rfl,e⟩:=ko h;obtain ⟨b,k,rfl,f⟩:=ko e;obtain ⟨c,l,rfl,g⟩:=ko f;obtain ⟨d,m,rfl,i⟩:=ko g;obtain rfl:=Aw i;exact ⟨a,b,c,d,U⟩
theorem WQ (us:List α) (h:us.length=5):∃a b c d e,us=[a,b,c,d,e]:=by obtain ⟨a,l,rfl,f⟩:=ko h;obtain ⟨b,m,rfl,g⟩:=ko f;obtain ⟨c,n,rfl,i⟩:=ko g;obtain ⟨d,o,rfl,j⟩:=ko i;obtain ⟨e,p,rfl,k⟩:=ko j;obtain rfl:=Aw k;exact ⟨a,b,c,d,e,U⟩
end L2
namespace Y0
open PySem L2
section
theorem zW {A B C D E F V:Type} {p:A->B->C->D->E->F->List V->Prop} (h:∀b c d e f g a,p b c d e f g [a]):∀b c d e f g (us:List V),us.length=1->p b c d e f g us:=λ_ _ _ _ _ _ us i=>by obtain ⟨a,rfl⟩:=L2.WM us i;exact h _ _ _ _ _ _ _
theorem zV {A B C D E F V:Type} {p:A->B->C->D->E->F->List V->Prop} (h:∀c d e f g i a b,p c d e f g i [a,b]):∀c d e f g i (us:List V),us.length=2->p c d e f g i us:=λ_ _ _ _ _ _ us j=>by obtain ⟨a,b,rfl⟩:=L2.OZ us j;exact h _ _ _ _ _ _ _ _
theorem zU {A B C D E F V:Type} {p:A->B->C->D->E->F->List V->Prop} (h:∀d e f g i j a b c,p d e f g i j [a,b,c]):∀d e f g i j (us:List V),us.length=3->p d e f g i j us:=λ_ _ _ _ _ _ us k=>by obtain ⟨a,b,c,rfl⟩:=L2.WN us k;exact h _ _ _ _ _ _ _ _ _
theorem zT {A B C D E F V:Type} {p:A->B->C->D->E->F->List V->Prop} (h:∀e f g i j k a b c d,p e f g i j k [a,b,c,d]):∀e f g i j k (us:List V),us.length=4->p e f g i j k us:=λ_ _ _ _ _ _ us l=>by obtain ⟨a,b,c,d,rfl⟩:=L2.WO us l;exact h _ _ _ _ _ _ _ _ _ _
theorem zS {A B C D E F V:Type} {p:A->B->C->D->E->F->List V->Prop} (h:∀f g i j k l a b c d e,p f g i j k l [a,b,c,d,e]):∀f g i j k l (us:List V),us.length=5->p f g i j k l us:=λ_ _ _ _ _ _ us m=>by obtain ⟨a,b,c,d,e,rfl⟩:=L2.WQ us m;exact h _ _ _ _ _ _ _ _ _ _ _
theorem tm {x:Str} {st:Stmt} {m:List Str} {f:Addr} {o:Value} {p d:Option Addr} {q:Array (Option Value)} {i g j b e:Value} (X:K.In h) (G:h.Ns mainGlobals mg) (a:PySem.W.nsIn K mainGlobals x=some (some (.ref f)):=by k_is)
 (l:K.lookup f=some ⟨o,p,.func (PySem.W.fnOf x x (pz st) (l9 st) (aJ st) .none i g j d b e),q⟩:=by k_is) (c:PySem.W.codeIn K b x=true:=by k_is) (k:PySem.W.keepIn K (.ref f)=true:=by k_is)
 (n:∀(i g j:Value) (d:Option Addr) (b e:Value) (us:List Value),us.length=m.length->bindArgs (PySem.W.fnOf x x (pz st) (l9 st) (aJ st) .none i g j d b e) ⟨us,[]⟩=pure (m.zip us):=by first | exact Y0.zW λ_ _ _ _ _ _ _=>rfl | exact Y0.zV λ_ _ _ _ _ _ _ _=>rfl | exact Y0.zU λ_ _ _ _ _ _ _ _ _=>rfl | exact Y0.zT λ_ _ _ _ _ _ _ _ _ _=>rfl | exact Y0.zS λ_ _ _ _ _ _ _ _ _ _ _=>rfl):
 Fn K mg x st m f (PySem.W.fnOf x x (pz st) (l9 st) (aJ st) .none i g j d b e):=
 have F:=Dw (st:=st) l c k
 ⟨F,F.binds n,pQ X G a⟩
structure A0 (K:aY) (C:Addr) (m q:Str) (st:Stmt) (ps:List Str) (f:Addr) (fd:FuncData):Prop where
 F:gb K m q st f fd
 b:cY K fd ps []
 a:PySem.W.findIn K (.ref C) m=some (some (.ref f))
 i:PySem.W.isFn K (.ref f)=true
theorem A0.da (h:A0 K C m q st ps f fd):gc K C m f:=⟨h.a,h.i,h.F.kp⟩
theorem yQ {C:Addr} {x q:Str} {st:Stmt} {m:List Str} {f:Addr} {o:Value} {p d:Option Addr} {r:Array (Option Value)} {h g j b e:Value} (a:PySem.W.findIn K (.ref C) x=some (some (.ref f)):=by k_is) (i:PySem.W.isFn K (.ref f)=true:=by k_is)
 (l:K.lookup f=some ⟨o,p,.func (PySem.W.fnOf x q (pz st) (l9 st) (aJ st) .none h g j d b e),r⟩:=by k_is) (c:PySem.W.codeIn K b q=true:=by k_is) (k:PySem.W.keepIn K (.ref f)=true:=by k_is)
 (n:∀(h g j:Value) (d:Option Addr) (b e:Value) (us:List Value),us.length=m.length->bindArgs (PySem.W.fnOf x q (pz st) (l9 st) (aJ st) .none h g j d b e) ⟨us,[]⟩=pure (m.zip us):=by first | exact Y0.zW λ_ _ _ _ _ _ _=>rfl | exact Y0.zV λ_ _ _ _ _ _ _ _=>rfl | exact Y0.zU λ_ _ _ _ _ _ _ _ _=>rfl | exact Y0.zT λ_ _ _ _ _ _ _ _ _ _=>rfl | exact Y0.zS λ_ _ _ _ _ _ _ _ _ _ _=>rfl):
 A0 K C x q st m f (PySem.W.fnOf x q (pz st) (l9 st) (aJ st) .none h g j d b e):=
 have F:=Dw (st:=st) l c k
 ⟨F,F.binds n,a,i⟩
theorem az {h:Heap} (X:K.In h) (_G:h.Ns mainGlobals mg) (x:Str) (st:Stmt) (a:List Str) (e:∃f fd,Fn (L2.eJ X) mg x st a f fd:=by unfold L2.eJ;exact ⟨_,_,Y0.tm ‹_› ‹_›⟩):∃f fd,Fn (L2.eJ X) mg x st a f fd:=e
theorem cU (a:PySem.W.nsIn (L2.eJ X) mainGlobals I=some (some (.ref C))) (m q:Str) (st:Stmt) (c:List Str) (e:∃C f fd,PySem.W.nsIn (L2.eJ X) mainGlobals I=some (some (.ref C))/\A0 (L2.eJ X) C m q st c f fd:=by unfold L2.eJ;exact ⟨_,_,_,by k_is,Y0.yQ⟩):∃f fd,A0 (L2.eJ X) C m q st c f fd:=by obtain ⟨g,f,fd,b,d⟩:=e;rw [a] at b;cases b;exact ⟨f,fd,d⟩
structure Az (K:aY) (mg:Str->Option Value) (C:Addr):Prop where
 tc:iS K mg C
 Hk:PySem.W.makesIn K C=true
 kc:PySem.W.keepIn K (.ref C)=true
theorem uA (X:K.In h) (G:h.Ns mainGlobals mg) (aC:PySem.W.nsIn K mainGlobals "Web"=some (some (.ref C)):=by k_is) (g:PySem.W.plainGet K C Str.empty=true:=by k_is) (a:PySem.W.hasDictIn K C=true:=by k_is) (i:PySem.W.plainOver K C=true:=by k_is)
 (sa:PySem.W.findIn K (.ref C) "__setattr__"=some (some (.builtin "object.__setattr__")):=by k_is) (mk:PySem.W.makesIn K C=true:=by k_is) (b:PySem.W.keepIn K (.ref C)=true:=by k_is)
 (c:PySem.W.findIn K (.ref C) "many"=some none:=by k_is) (d:PySem.W.findIn K (.ref C) "last"=some none:=by k_is) (e:PySem.W.findIn K (.ref C) "told_ties"=some none:=by k_is) (f:PySem.W.findIn K (.ref C) "told_falls"=some none:=by k_is):Az K mg C:=
 ⟨⟨⟨g,a,i,sa⟩,c,d,e,f,pQ X G aC⟩,mk,b⟩
theorem qD (X:K.In h) (G:h.Ns mainGlobals mg) (a:PySem.W.nsIn K mainGlobals "MOST_MOMENTS"=some (some (.int 8 t1)):=by k_is) (b:PySem.W.nsIn K mainGlobals "LATEST_LAST"=some (some (.int 60 C)):=by k_is)
 (c:PySem.W.nsIn K mainGlobals "WIDEST_SPAN"=some (some (.int 60 t3)):=by k_is) (d:PySem.W.nsIn K mainGlobals "LONGEST_FALL"=some (some (.int 60 I)):=by k_is) (z:PySem.W.nsIn K mainGlobals "list"=some none:=by k_is):jP mg:=
 ⟨⟨t1,pQ X G a⟩,⟨C,pQ X G b⟩,⟨t3,pQ X G c⟩,⟨I,pQ X G d⟩,oR X G z⟩
structure A4 (K:aY) (mg:Str->Option Value) (C:Addr):Prop where
 tc:mM K mg C
 Hk:PySem.W.makesIn K C=true
 kc:PySem.W.keepIn K (.ref C)=true
 g:mg "Closing"=some (.ref C)
theorem vm (X:K.In h) (G:h.Ns mainGlobals mg) (aC:PySem.W.nsIn K mainGlobals "Closing"=some (some (.ref C)):=by k_is) (i:PySem.W.plainGet K C Str.empty=true:=by k_is) (a:PySem.W.hasDictIn K C=true:=by k_is) (j:PySem.W.plainOver K C=true:=by k_is)
 (sa:PySem.W.findIn K (.ref C) "__setattr__"=some (some (.builtin "object.__setattr__")):=by k_is) (mk:PySem.W.makesIn K C=true:=by k_is) (b:PySem.W.keepIn K (.ref C)=true:=by k_is)
 (c:PySem.W.findIn K (.ref C) "many"=some none:=by k_is) (d:PySem.W.findIn K (.ref C) "by_end"=some none:=by k_is) (e:PySem.W.findIn K (.ref C) "rows"=some none:=by k_is) (f:PySem.W.findIn K (.ref C) "best"=some none:=by k_is) (g:PySem.W.findIn K (.ref C) "bar"=some none:=by k_is)
 (z1:PySem.W.nsIn K mainGlobals "len"=some none:=by k_is) (z2:PySem.W.nsIn K mainGlobals "range"=some none:=by k_is):A4 K mg C:=
 ⟨⟨⟨i,a,j,sa⟩,c,d,e,f,g,oR X G z1,oR X G z2⟩,mk,b,pQ X G aC⟩
theorem qE (X:K.In h) (G:h.Ns mainGlobals mg) (a:PySem.W.nsIn K mainGlobals "USED_KINDS"=some (some (.ref u))) (t:Fj K u vI) (z:PySem.W.nsIn K mainGlobals "tuple"=some none):v8 K mg:=
 ⟨⟨u,pQ X G a,t⟩,oR X G z⟩
theorem vl {C M fI N:Addr} {j q:Str} {b:List Value} {k:List Str} {m:List Value} {a:Bool} {c:Option Bool} {d:Option Addr} {e f g h i:Option Value}
 (l:K.lookup C=some (excClassObj j q C N b (.ref M::m9) true k m a c d e f g h i "ValueError.__new__")) (no:PySem.W.nsOkIn K N=true) (ni:PySem.W.nsIn K N "__init__"=some (some (.ref fI)))
 (tl:PySem.W.tailIn K m9 (.ref M::m9)=true) (fn:PySem.W.isFn K (.ref fI)=true) (kp:PySem.W.keepIn K (.ref C)=true) (sa:PySem.W.findIn K (.ref C) "__setattr__"=some (some (.builtin "object.__setattr__"))):nk K C M fI:=
 ⟨⟨j,q,N,b,k,m,a,c,d,e,f,g,h,i,l,no,ni⟩,tl,fn,kp,sa⟩
theorem qF (X:K.In h) (G:h.Ns mainGlobals mg) (aC:PySem.W.nsIn K mainGlobals "NoTimes"=some (some (.ref C))) (aM:PySem.W.nsIn K mainGlobals "MomentError"=some (some (.ref M))) (ex:nk K C M fI)
 (b1:PySem.W.typeIn K (.ref M)=some (.type "type")) (b2:PySem.W.specialIn K (.ref M) "__getattribute__"=some (some (.builtin "type.__getattribute__"))) (b3:PySem.W.findIn K (.type "type") "__getattribute__"=some (some (.builtin "type.__getattribute__")))
 (b4:PySem.W.nsIn K cStatics "thirdparty.any"=some none) (b5:PySem.W.findCls K (.ref M) (.type "type") "__init__"=some (.val (.builtin "ValueError.__init__"))) (b6:PySem.W.subIn K (.type "type") (.type "type")=some true)
 (nR:PySem.W.findIn K (.ref C) "ring"=some none) (z1:PySem.W.nsIn K mainGlobals "range"=some none) (z2:PySem.W.nsIn K mainGlobals "len"=some none) (z3:PySem.W.nsIn K mainGlobals "list"=some none):oT K mg C M fI:=
 ⟨oR X G z1,oR X G z2,oR X G z3,ex,⟨b1,b2,b3,b4,b5,b6⟩,pQ X G aM,nR,pQ X G aC⟩
end
end Y0
inductive PySem.W.Fast:Prop|tw14175591850399152927|tw9425365770743869886|tw12070494335246685731|tw4072941194039786921|tw10176546072314533309|tw7237126005881251394|tw3948923681628102217|tw8334759224022209529|tw6036053387168259045|tw8317883282039243958|tw7424126875098733617|tw2027776691425115833|tw3142983792790012756|tw2807147780784458802|tw8651273757495754447|tw6593024631474002937|tw5453151890256224217|tw2220833596385991330|tw11572044016058470998|tw6814469439871742082|tw375447191683106719|tw5444705475477140552|tw6382448646653794317|tw6966626251380666209|tw7495908746859540240|tw18029571123579854560|tw10400663488970646450|tw11332223266488545351|tw425447582087062248|tw1235827310863139097|tw11831797145638917213|tw6492913606716760740|tw1133657063191501939|tw4114936381302426050|tw17675118230627148660|tw12650289924419928028|tw9291840576936112117|tw12655175472972227199|tw17428267792281663148|tw16136113878465880485|tw14615255940426183048|tw1705199143499889811|tw12198587484209459092|tw17475215064575976585|tw3097862185274748035|tw6663502061701201184|tw14726358334919193344|tw8124489956373672269|tw4938115076698576921|tw17877209696513503619|tw12083765013504212133|tw226748705354169980|tw4740859470034434336|tw11816526041382981141|tw1094531550439060969|tw16874841456051825597|tw9182184724307208258|tw3608191393765772992|tw3191140385731451446|tw9122735716769008888|tw14595590750721068801|tw2528064397099372065|tw9306113611748501645|tw11253996640210750938|tw13311015916767055817|tw7326788912660380380|tw14348346625582514016|tw8057956080618261251|tw9340313756696250008|tw7178148640623288468|tw402853998081436931|tw13580898120731383188|tw17411766127624716890|tw8388505954705014586|tw16843208930425922650|tw11253973639199270909|tw2690924501376473717|tw1827929117851919037|tw15632914533147214777|tw9960461794780297278|tw17845807423181741579|tw17915326776843266419|tw17822193306092392547|tw3987182638005098525|tw8919784670542883648|tw16030734795049795038|tw18434309450349225968|tw8293832274503696608|tw5717831583129038571|tw4559545845252668165|tw12843191377153571069|tw16601175114965464572|tw7727744817852600996|tw257423885809933476|tw15342801037919651379|tw2993923747870369797|tw5425820556290383445|tw5694165812510179079|tw17424921170559634998|tw1315297802424926400|tw10370178177689541876|tw13943783069860164714|tw6641155219459770310|tw5042171137417403808|tw15297697410834802077|tw13090519245008337886|tw5812944055855458548|tw12205549308831284598|tw14891234318088825145|tw5390791274739408394|tw10168334155791976242|tw5052844645998280699|tw15595775167939615584|tw12667946690878275642|tw8493403775843704404|tw3499946760156220116|tw17303400551787706786|tw6339313243635473775|tw3895338777041366853|tw11093750830301348004|tw7629571414077699337|tw11808215026151815139|tw12634326036127757496|tw486576545288962217|tw16790400196242743656|tw13386609901212254017|tw16149037064060357899|tw14682966939051185839|tw10578824279301674725|tw317247234804628806|tw6342077821089618261|tw4790207019683929342|tw15282645266278351684
open PySem PySem.W PyProof.Rows L2 Y0
set_option maxRecDepth 100000 in
set_option maxHeartbeats 0 in
theorem PySem.Challenge.cw_momentties_k19_asked_again_holds : PySem.Challenge.rw_momentties_k19_asked_again.Holds := by
 w_on;o_law;k_head;(case hw=>w_witness2)
 k_fill
 refine UC (l:=PySem.Challenge.rw_momentties_k19_asked_again) (n:=63) (k:=8) (x:="_law_script") (CX:=aq) (sp:=sP) U (by decide) U ⟨U,by decide,by decide⟩ (λw h Y=>PySem.W.kIn_of Y) ?F (λK H a ns hl hO hS=>⟨a,ns,U,uG hO hS,λ_=>rfl⟩) (λ_ _ _ _ z=>z)
 case F=>
  intro w mg fa h KX G hmg;obtain ⟨Og,U6,J7⟩:=az KX G "room_bounds" cp iv;obtain ⟨Oh,U7,J8⟩:=az KX G "span_bounds" cm ģ;obtain ⟨Ek,Uc,Je⟩:=az KX G "bounds_with" bx Đ;obtain ⟨Om,Eb,Gd⟩:=az KX G "told_bounds" a5 iv;obtain ⟨Of,U5,J6⟩:=az KX G "ring_behind" cq Ē;obtain ⟨Et,Uk,Jm⟩:=az KX G "earliest_times" aw ą;obtain ⟨Eu,Ul,Jn⟩:=az KX G "falls_by_end" bU iv;obtain ⟨Ep,Uh,Jj⟩:=az KX G "by_sum" eP đ;obtain ⟨En,Uf,Jh⟩:=az KX G "by_late" dA ĉ;obtain ⟨Eo,Ug,Ji⟩:=az KX G "by_soon" d9 ĉ;obtain ⟨Er,Ui,Jk⟩:=az KX G "by_sure" d8 ć;obtain ⟨El,Ud,Jf⟩:=az KX G "by_back" dB ď;obtain ⟨Em,Ue,Jg⟩:=az KX G "by_cross" cT ć;obtain ⟨On,Ec,Ge⟩:=az KX G "what_follows" bo Ĉ;obtain ⟨Ej,Ub,Jd⟩:=az KX G "bars_every_hand" bf ğ;have Ja:∃C,A4 (eJ KX) mg C/\PySem.W.nsIn (eJ KX) mainGlobals "Closing"=some (some (.ref C)):=by unfold eJ;exact ⟨_,vm KX G,by k_is⟩
  obtain ⟨G8,Ja,Gy⟩:=Ja;obtain ⟨Oz,O9,Gs⟩:=cU Gy "__init__" "Closing.__init__" cG Ġ;obtain ⟨O0,Ia,Gu⟩:=cU Gy "is_news" "Closing.is_news" bX Ğ;obtain ⟨O2,Ic,Gw⟩:=cU Gy "take" "Closing.take" cF Ă;obtain ⟨Ov,O5,Gn⟩:=cU Gy "draw" "Closing.draw" bV ċ;obtain ⟨O1,Ib,Gv⟩:=cU Gy "known_of" "Closing.known_of" aT Ď;obtain ⟨O3,Id,Gx⟩:=cU Gy "ties_to" "Closing.ties_to" bg Ĕ;obtain ⟨Ox,O7,Gq⟩:=cU Gy "draw_from_tie" "Closing.draw_from_tie" aQ Ė;obtain ⟨Oy,O8,Gr⟩:=cU Gy "draw_from_wait" "Closing.draw_from_wait" aK ĝ;obtain ⟨Ow,O6,Gp⟩:=cU Gy "draw_all" "Closing.draw_all" bL qq;obtain ⟨Ou,O4,Gm⟩:=cU Gy "best_drawn" "Closing.best_drawn" aH ė;obtain ⟨Od,U3,J4⟩:=az KX G "numbers_needed" bq Ċ;obtain ⟨Oe,U4,J5⟩:=az KX G "paper_up_to" bw Ċ;obtain ⟨Ey,Up,Jq⟩:=az KX G "is_told" d7 ę;obtain ⟨Ez,Uq,Jr⟩:=az KX G "kept" eO iv;obtain ⟨Oo,Ed,Gg⟩:=az KX G "worst_bounds" bj iv;obtain ⟨Ev,Um,Jo⟩:=az KX G "fixed" dq iv;obtain ⟨Ol,Ea,Gc⟩:=az KX G "tight_table" aW Č;obtain ⟨Oj,U9,Gb⟩:=az KX G "tight" dm iv;obtain ⟨Es,Uj,Jl⟩:=az KX G "earliest" cB iv;obtain ⟨E1,Ur,Js⟩:=az KX G "latest" dn iv;obtain ⟨Ew,Uo,Jp⟩:=az KX G "holds_already" bC Ę;obtain ⟨Oi,U8,J9⟩:=az KX G "spare" en iv;obtain ⟨Ei,Ua,Jc⟩:=az KX G "are_two_moments" aE Ć;obtain ⟨Ob,U1,J2⟩:=az KX G "look_over_size" bu ĕ;obtain ⟨Oc,U2,J3⟩:=az KX G "look_over_ties" br ě;obtain ⟨Oa,U0,J1⟩:=az KX G "look_over_falls" aD Ě;have Jb:∃C,Az (eJ KX) mg C/\PySem.W.nsIn (eJ KX) mainGlobals "Web"=some (some (.ref C)):=by unfold eJ;exact ⟨_,uA KX G,by k_is⟩
  obtain ⟨G9,Jb,Gz⟩:=Jb;obtain ⟨Oq,Ef,Gi⟩:=cU Gz "__init__" "Web.__init__" eC ă;obtain ⟨Ot,Eh,Gk⟩:=cU Gz "ties" "Web.ties" eB qq;obtain ⟨Op,Ee,Gh⟩:=cU Gz "falls" "Web.falls" dD qq;obtain ⟨Os,Eg,Gj⟩:=cU Gz "own" "Web.own" cP qq;obtain ⟨E6,Uw,Jx⟩:=az KX G "_law_next" iL Ā;obtain ⟨E5,Uv,Jw⟩:=az KX G "_law_named" iY ā;obtain ⟨E4,Uu,Jv⟩:=az KX G "_law_falls" iZ Ą;obtain ⟨E7,Ux,Jy⟩:=az KX G "_law_ties" jC xv;obtain ⟨E9,Uz,J0⟩:=az KX G "_law_web" nY Q0;obtain ⟨E3,Ut,Ju⟩:=az KX G "_law_copied" dr ē;obtain ⟨E8,Uy,Jz⟩:=az KX G "_law_told" fU č;have Jt:∃f fd,Fn (eJ KX) mg "law" uH Ģ f fd/\∀(s:Shared) (u:Value),BindsTo s fd ⟨[u],[]⟩ [("_law_script",u)]:=by unfold eJ;exact ⟨_,_,tm KX G,λs u=>.of_eq U⟩
  obtain ⟨E2,Us,Jt,G0⟩:=Jt;have CN:∃C M fI fd,oT (eJ KX) mg C M fI/\gb (eJ KX) "__init__" "NoTimes.__init__" cE fI fd/\cY (eJ KX) fd Ĝ []/\PySem.W.exmOne (eJ KX) (.ref C) (.ref C)=some true/\wx (eJ KX) C:=by
   unfold eJ
   refine' ⟨_,_,_,_,qF KX G ?aC ?aM ?ex ?b1 ?b2 ?b3 ?b4 ?b5 ?b6 ?nR ?z1 ?z2 ?z3,Dw ?fl ?fc ?fk,?fb,?xm,⟨?g1,?g2,?g3,?g4,?g5,?g6,?g7,?g8⟩⟩
   (case aC|aM=>k_is)
   case ex=>
    refine' vl ?l ?no ?ni ?tl ?fn ?kp ?sa
    (case l=>k_is);(case no=>with_unfolding_all rfl);(case ni=>k_is);(case tl=>with_unfolding_all rfl);(case fn|kp|sa=>k_is)
   (case b1|b2|b3|b4|b5|b6|nR|z1|z2|z3=>k_is)
   (case fl|fc|fk=>k_is)
   (case xm=>with_unfolding_all rfl)
   (case g1|g2|g3|g4|g5|g6|g7|g8=>k_is)
   case fb=>exact .all λus hl=>by obtain ⟨a,b,rfl⟩:=OZ us hl;rfl
  obtain ⟨cN,cM,fI,dI,TE,FI,bI,zK,GX⟩:=CN;have TW:jP mg:=qD KX G;have TU:v8 (eJ KX) mg:=by
   unfold eJ
   refine' qE KX G ?a ?t ?z
   (case a=>k_is);(case t=>with_unfolding_all rfl);(case z=>k_is)
  have Z:PySem.W.nsIn (eJ KX) mainGlobals "min"=some none/\PySem.W.nsIn (eJ KX) mainGlobals "max"=some none/\PySem.W.nsIn (eJ KX) mainGlobals "sorted"=some none/\PySem.W.nsIn (eJ KX) mainGlobals "isinstance"=some none/\PySem.W.kitOne (eJ KX) (.type "NoneType") (.type "list")=some false/\PySem.W.kitOne (eJ KX) (.type "bool") (.type "list")=some false/\PySem.W.kitOne (eJ KX) (.type "int") (.type "list")=some false/\PySem.W.kitOne (eJ KX) (.type "str") (.type "list")=some false/\PySem.W.kitOne (eJ KX) (.type "tuple") (.type "list")=some false:=by
   unfold eJ
   refine' ⟨?a,?b,?c,?d,?e⟩
   (case a|b|c|d=>k_is)
   case e=>exact ⟨by with_unfolding_all rfl,by with_unfolding_all rfl,by with_unfolding_all rfl,by with_unfolding_all rfl,by with_unfolding_all rfl⟩
  have TQ:rN (eJ KX) mg:=⟨oR KX G Z.2.2.2.1,TE.list,Z.2.2.2.2.1,Z.2.2.2.2.2.1,Z.2.2.2.2.2.2.1,Z.2.2.2.2.2.2.2.1,Z.2.2.2.2.2.2.2.2⟩;have zl:=Ja.tc.len;have zr:=Ja.tc.range;have zt:=TU.tuple;have zm:=oR KX G Z.1;have zx:=oR KX G Z.2.1;have zs:=oR KX G Z.2.2.1;have e0:=hmg.symm.trans Jt.g;cases e0;refine ⟨Us,G0,λbase kb nb=>?gg⟩
  case gg=>
   have GN:=qW (P:=gF) (w:=w) (base:=base) Jx zl;have GM:=om (P:=gF) (w:=w) (base:=base) Jw;have GF:=ow Jv Jx GN zm zr;have GT:=qN Jy Jx GN zm zx zr;have GW:=uL J0 Jx GN Jw GM Jv GF Jy GT;have G2:=uM (P:=gF) (w:=w) (base:=base) Jc;have GS:=qS (P:=gF) (w:=w) (base:=base) J2 TW;have GLT:=oq J3 TW Jc G2;have GLF:=mv J1 TW Jc G2;have GI:=q_ Gi.F TW Jb.tc J2 GS J3 GLT J1 GLF;have Gt:=og (P:=gF) (w:=w) (base:=base) Gk.F TW Jb.tc;have Gf:=my (P:=gF) (w:=w) (base:=base) Gh.F TW Jb.tc;have GRo:=qT (P:=gF) (w:=w) (base:=base) J7 ⟨zr⟩ Jb.tc;have GSp:=qQ (P:=gF) (w:=w) (base:=base) J8;have Sl:=qL Je Jb.tc J7 GRo J8 GSp Gh.da Gh.b Gf;have A2:=qM Gd Jb.tc Je Sl Gk.da Gk.b Gt;have GBE:=o4 Jn Jb.tc Gh.da Gh.b Gf;have W1:=uN (P:=gF) (w:=w) (base:=base) Jj;have W2:=qY (P:=gF) (w:=w) (base:=base) Jh;have W3:=qR (P:=gF) (w:=w) (base:=base) Ji;have W4:=qP (P:=gF) (w:=w) (base:=base) Jk ⟨zm⟩;have W5:=rh (P:=gF) (w:=w) (base:=base) Jf ⟨zm⟩;have W6:=o1 (P:=gF) (w:=w) (base:=base) Jg ⟨zm⟩;have GWf:=kO Ge TU Jj W1 Jh W2 Ji W3 Jk W4 Jf W5 Jg W6;have GBa:=rg (P:=gF) (w:=w) (base:=base) Jd;have GNw:=qX (P:=gF) (w:=w) (base:=base) Gu.F Ja.tc;have Sg:=qO Gw.F Ja.tc Gu.da Gu.b GNw Jd GBa;have Sk:=ra Gn.F Ja.tc Gw.da Gw.b Sg Ge GWf;have GKn:=ot (P:=gF) (w:=w) (base:=base) Gv.F Ja.tc;have Sf:=mr (P:=gF) (w:=w) (base:=base) Gx.F Ja.tc;have GFw:=jE Gr.F Ja.tc Gn.da Gn.b Sk Gx.da Gx.b Sf;have GFt:=kN Gq.F Ja.tc Gn.da Gn.b Sk Gx.da Gx.b Sf Gv.da Gv.b GKn;have GDa:=kP Gp.F Ja.tc Gq.da Gq.b GFt Gr.da Gr.b GFw;have GCi:=o3 Gs.F Ja.tc Jb.tc Gw.da Gw.b Sg Jn GBE Gd A2;have GBd:=rd (P:=gF) (w:=w) (base:=base) Gm.F Ja.tc zs;have GNn:=mu (P:=gF) (w:=w) (base:=base) J4 zr zs;have GPu:=kM J5 zl zt J4 GNn;have GIt:=mx (P:=gF) (w:=w) (base:=base) Jq;have GKe:=qZ Jr Ja.tc ⟨Ja.Hk,Gs.a,Gs.i,Ja.kc⟩ Ja.g Gs.b GCi Gp.da Gp.b GDa Gm.da Gm.b GBd J5 GPu Jq GIt;have GNT:=uP (P:=gF) (w:=w) (base:=base) FI TE;have GRi:=qU (P:=gF) (w:=w) (base:=base) J6 TE;have GE:=oz Jm TE bI GNT J6 GRi;have Sj:=uO (P:=gF) (w:=w) (base:=base) Gj.F zr Jb.tc;have GWb:=oa Gg zr TE.list Jb.tc Gd A2 Gh.da Gh.b Gf;have GFx:=ov Jo zr Jb.tc Jm GE Gg GWb Gj.da Gj.b Sj;have Si:=oh (P:=gF) (w:=w) (base:=base) Gc ⟨zr,TE.list,zm⟩ Jb.tc;have Sh:=oe Gb Jb.tc Gd A2 Jm GE Gc Si;have GEa:=jF Jl Jb.tc Gd A2 Jm GE;have GLa:=mw Js Gb Sh;have GHo:=ou (P:=gF) (w:=w) (base:=base) Jp;have GSr:=oi J9 Jb.tc zr zl zs Gd A2 Jm GE Gc Si Jp GHo Je Sl Gk.da Gk.b Gt;have GT9:=mq Jz TE.list Jb.tc TE.yS zK GX TE.nR Jr GKe Gb Sh Jl GEa Js GLa Jo GFx J9 GSr Gk.da Gk.b Gt Gh.da Gh.b Gf Gj.da Gj.b Sj;exact uQ Jt Jb.tc J0 GW ⟨Jb.Hk,Gi.a,Gi.i,Jb.kc⟩ Gi.b GI Jz GT9 Ju (iM Ju TQ 5)
