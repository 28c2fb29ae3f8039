import PyProof.Rows.All
import Wide.All
import OpenK.AllK
import Wide.FinOn
import Lean
import PyProof.EqAt
import PyProof.EqKinds
import PyProof.TupleCall
import PySem.Challenge.RW_momentties_k15_falls_refused
import KE.KTabLook
import PyProof.DictWalks
import PyProof.Rows.DictUnroll
import PyProof.Rows.SortShell
import PyProof.CollectWalk
import PyProof.DictTruth
import KE.KSortTup
import KE.LcSums
theorem t10(h:True:=by rfl):True:=h
theorem t11(h:True:=by k_is):True:=h
theorem t12(h:True:=by decide):True:=h
theorem t13(h:True:=by decide+kernel):True:=h
theorem t14(h:True:=by intro _;rfl):True:=h
theorem t15(h:True:=by first | exact .inl rfl | exact .inr rfl | assumption):True:=h
theorem t16(h:True:=by with_unfolding_all rfl):True:=h
theorem t17(h:True:=by exact Or.inl U):True:=h
theorem t18(h:True:=by intro _ _ _ _ h;repeat (first|(obtain ⟨rfl,_⟩:=h;rfl)|obtain ⟨_,h⟩:=h)):True:=h
theorem t19(h:True:=by first | exact Y0.Bq λ_ _ _ _ _ _ _=>rfl | exact Y0.Bp λ_ _ _ _ _ _ _ _=>rfl | exact Y0.Bo λ_ _ _ _ _ _ _ _ _=>rfl | exact Y0.Bn λ_ _ _ _ _ _ _ _ _ _=>rfl | exact Y0.Bm λ_ _ _ _ _ _ _ _ _ _ _=>rfl):True:=h
noncomputable abbrev iv:List PySem.Str:=["_law_dice","_law_many"]
noncomputable abbrev qq:List PySem.Str:=["_law_d","_law_w","_law_times","_law_fallen_here","_law_now"]
noncomputable abbrev xv:List PySem.Str:=["self"]
noncomputable abbrev UQ:List PySem.Str:=["_law_d","_law_many","_law_last","_law_wide"]
noncomputable abbrev Ā:List PySem.Str:=["_law_d","_law_most","_law_last","_law_wide"]
noncomputable abbrev ā:List PySem.Str:=["_law_moment","_law_many","_law_turn"]
noncomputable abbrev Ă:List PySem.Str:=["_law_w","_law_times","_law_out","_law_now"]
noncomputable abbrev ă:List PySem.Str:=["self","what","word","used"]
noncomputable abbrev Ą:List PySem.Str:=["self","many","last","ties","falls"]
noncomputable abbrev ą:List PySem.Str:=["_law_d","_law_many","_law_wide"]
noncomputable abbrev Ć:List PySem.Str:=["self","fallen"]
noncomputable abbrev ć:List PySem.Str:=["many","one","other"]
noncomputable abbrev Ĉ:List PySem.Str:=["falls","wait"]
noncomputable abbrev ĉ:List PySem.Str:=["_law_hand","_law_fallen_here"]
noncomputable abbrev Ċ:List PySem.Str:=["web"]
noncomputable abbrev ċ:List PySem.Str:=["falls","word","used"]
noncomputable abbrev Č:List PySem.Str:=["self","end"]
noncomputable abbrev č:List PySem.Str:=["falls","tie"]
noncomputable abbrev Ď:List PySem.Str:=["rows","last"]
noncomputable abbrev ď:List PySem.Str:=["self","b","most","coming"]
noncomputable abbrev Đ:List PySem.Str:=["self","word","used"]
noncomputable abbrev đ:List PySem.Str:=["self","web"]
noncomputable abbrev Ē:List PySem.Str:=["self","kind","a"]
noncomputable abbrev ē:List PySem.Str:=["falls","wait","tie"]
noncomputable abbrev Ĕ:List PySem.Str:=["_law_e","_law_word"]
noncomputable abbrev ĕ:List PySem.Str:=["self","moment","coming"]
noncomputable abbrev Ė:List PySem.Str:=["first","second"]
noncomputable abbrev ė:List PySem.Str:=["self","end","least"]
noncomputable abbrev Ę:List PySem.Str:=["self","b"]
noncomputable abbrev ę:List PySem.Str:=["many","last"]
noncomputable abbrev Ě:List PySem.Str:=["self","at","a","b"]
noncomputable abbrev ě:List PySem.Str:=["self","kind"]
noncomputable abbrev Ĝ:List PySem.Str:=["by_end","wait"]
noncomputable abbrev ĝ:List PySem.Str:=["web","ties"]
noncomputable abbrev Ğ:List PySem.Str:=["many","falls"]
noncomputable abbrev ğ:List PySem.Str:=["self","paper"]
noncomputable abbrev Ġ:List PySem.Str:=["many","ties"]
noncomputable abbrev ġ:List PySem.Str:=["self","at","a"]
noncomputable abbrev Ģ:List PySem.Str:=["a","b","most","coming","moment","self"]
noncomputable abbrev ģ:List PySem.Str:=["self","what"]
noncomputable abbrev Ĥ:List PySem.Str:=["what"]
noncomputable abbrev ĥ:List PySem.Str:=["a","end","least","moment","self"]
noncomputable abbrev Ħ:List PySem.Str:=["_law_k","_law_d","_law_last"]
noncomputable abbrev ħ:List PySem.Str:=["_law_script"]
noncomputable abbrev Ĩ:List PySem.Str:=["spans"]
theorem U{a:α}:a=a:=rfl
abbrev nc := @Int.le_trans
abbrev lg := @List.mem_append_left
abbrev oK := @Array.toList_append
abbrev NA := @List.length_drop
abbrev lb := @Nat.le_succ
abbrev fq := @Int.le_of_lt
abbrev k_ := @Int.toNat_of_nonneg
abbrev qh := @PySem.mem_of_lookup
abbrev qg := @Array.length_toList
abbrev aK := @Ne.symm
abbrev tr := @List.mem_iff_getElem?
abbrev xj := @PySem.boot_len
abbrev qf := @PySem.W.mg_none_of
abbrev ae := @PySem.wpAny_bind
abbrev aJ := @PySem.wpAny_pure
abbrev md := @PySem.F.plainAttrs_list
abbrev ma := @PySem.F.slot_list_append
abbrev m_ := @PySem.F.type_list_append
abbrev az := @List.length_map
abbrev eX := @List.getElem?_eq_some_iff
abbrev ay := @Nat.le_refl
abbrev gI := @List.getElem?_eq_getElem
abbrev cZ := @PySem.Heap.get?_push_of_some
abbrev gh := @Classical.byContradiction
abbrev dA := @List.getElem?_map
abbrev eR := @List.mem_of_getElem?
abbrev f_ := @List.size_toArray
abbrev iD := @List.length_append
abbrev iO := @List.mem_cons_of_mem
abbrev gw := @List.mem_cons_self
abbrev dX := @Bool.false_ne_true
abbrev ft := @Option.some.inj
abbrev gj := @List.lookup_cons
abbrev dN := @List.map_append
abbrev dZ := @Nat.zero_le
abbrev bf := @Nat.le_of_lt
abbrev d9 := @PySem.Heap.lt_size
abbrev ig := @List.mem_singleton
abbrev f' := @List.mem_cons
abbrev eN := @List.map_cons
abbrev cP := @Nat.le_trans
abbrev iT := @PySem.Heap.get?_push_size
abbrev hH := @List.take_length
abbrev gv := @Nat.ne_of_lt
abbrev oz := @List.getElem?_append_right
abbrev hG := @List.length_take
abbrev ie := @Nat.lt_of_lt_of_le
abbrev kY := @List.mem_append_right
abbrev jj := @List.mem_append
abbrev ji := @List.length_cons
abbrev oI := @List.getElem?_append_left
abbrev fY := @List.mem_map
abbrev xh := @List.getElem_of_mem
abbrev BE := @List.pairwise_iff_getElem
abbrev jb := @List.take_succ
abbrev GJ := @List.length_replicate
abbrev mY := @List.all_eq_true
abbrev l_ := @Int.toNat_natCast
abbrev j9 := @decide_eq_true_eq
abbrev qe := @List.getD_eq_getElem?_getD
abbrev jA := @Nat.lt_irrefl
abbrev xi := @List.getElem_mem
abbrev N9 := @List.length_nil
abbrev kZ := @Nat.le_of_not_lt
abbrev oJ := @Nat.not_lt_zero
abbrev jI := @beq_self_eq_true
abbrev eO := @decide_eq_true
abbrev eE := @decide_eq_false
abbrev iS := @PySem.Heap.get?_update_other
abbrev gR := @Nat.le.refl
abbrev iC := @Nat.le.step
noncomputable abbrev iB := @False.elim
abbrev kE := @Int.le_refl
abbrev kW := @Int.NonNeg.mk
abbrev ot := @Nat.lt_of_le_of_lt
abbrev qc := @PySem.Heap.get?_update_self
abbrev tq := @List.filterMap_cons
abbrev uM := @List.length_range
abbrev mX := @Bool.and_eq_true
abbrev tm := @List.pairwise_map
abbrev yZ := @List.extract_eq_take_drop
abbrev BD := @List.eq_nil_of_length_eq_zero
abbrev GC := @List.foldl_append
abbrev uL := @List.append_assoc
abbrev oq := @Nat.le_add_right
abbrev tj := @PySem.Obj.data_mapFields
abbrev jH := @PySem.W.mg_of
abbrev yY := @PySem.W.callWith_K
abbrev qM := @List.mem_filterMap
abbrev kD := @List.mem_range
abbrev yX := @Array.getElem?_eq_some_iff
abbrev aZ := @PyProof.Rows.wpS_pure
abbrev bc := @PyProof.Rows.wpS_bind
abbrev ja := @PySem.PassesOwn.never
abbrev ou := @List.length_filter_le
abbrev gS := @PySem.wpAny_mono
abbrev j8 := @PySem.Paired.length
abbrev lZ := @List.append_nil
abbrev i_ := @PySem.wpAny_field
abbrev kX := @PySem.wpAny_holding
abbrev oH := @PySem.wpAny_truthy_bool
abbrev qO := @List.filter_append
abbrev qN := @PySem.wpAny_newObj_type
abbrev uK := @List.replicate_succ
abbrev qJ := @PySem.wpAny_setField
abbrev uJ := @PySem.wpAny_loadPart_at
abbrev uI := @of_decide_eq_true
abbrev uH := @Nat.le_of_lt_succ
abbrev yW := @PySem.wpAny_callSpecial?_slot
abbrev qb := @getElem?_pos
abbrev uG := @PySem.wpAny_call_entry
abbrev xf := @PySem.wpAny_Call_Name_kw
abbrev xc := @Nat.sub_add_cancel
abbrev kU := @PyProof.Rows.wpS_mono
abbrev qI := @Nat.le_of_eq
abbrev yV := @Nat.add_le_add_right
abbrev yU := @Array.toList_extract
abbrev s_ := @PySem.wpAny_attempt
abbrev BA := @List.filter_cons_of_pos
abbrev B9 := @List.filter_cons_of_neg
abbrev FY := @PySem.wpAny_typeNameOfWhole_keyiter
abbrev sZ := @List.map_nil
abbrev yT := @Int.natCast_nonneg
abbrev w_ := @PySem.wpAny_passesOwn
abbrev B8 := @PySem.F.slot_dict_keyiterator_next
abbrev B7 := @PySem.Obj.isFreed_of_fields
abbrev B6 := @List.filterMap_append
abbrev B5 := @Array.getElem?_toList
abbrev yS := @List.flatten_cons
abbrev Ga := @PyProof.Rows.callWith_type1
abbrev qL := @PySem.wpAny_rule
abbrev qK := @PySem.wpAny_call
abbrev tf := @Sum.inl.inj
abbrev xg := @List.nodup_nil
abbrev BC := @PySem.W.looks_findIn
abbrev BB := @List.mem_map_of_mem
abbrev F_ := @PySem.wpAny_typeNameOf_keyiter
abbrev F' := @List.length_filterMap_le
abbrev FZ := @List.getElem?_take_of_lt
abbrev yR := @PySem.wpAny_execs_nil
abbrev FQ := @List.getElem?_replicate
abbrev wZ := @Nat.ne_of_gt
abbrev yQ := @PySem.Heap.size_push
abbrev Bz := @Nat.lt_trichotomy
abbrev By := @Nat.lt_succ_of_lt
abbrev FL := @List.getElem?_set_self
abbrev FJ := @List.take_append_drop
abbrev Bx := @Nat.lt_succ_self
abbrev yP := @List.any_cons
abbrev yO := @List.all_cons
abbrev FH := @List.mem_of_mem_take
abbrev Bw := @List.filter_nil
abbrev FG := @List.map_congr_left
abbrev qa := @PyProof.Rows.wpS_get
abbrev yN := @PySem.codeAny_mono
abbrev yM := @List.all_map
abbrev FD := @PySem.tupleKind_room_in1
abbrev FC := @Nat.pos_of_ne_zero
abbrev F9 := @Nat.lt_or_eq_of_le
abbrev F8 := @PySem.Code.quiet_builtin
abbrev N0 := @PySem.F.excBase_ValueError
abbrev Nz := @List.mem_of_find?_eq_some
abbrev Ny := @List.drop_eq_getElem_cons
abbrev F7 := @PySem.wpAny_dictEntries
abbrev Fz := @Array.toList_push
abbrev B4 := @PySem.wpAny_standAt
abbrev B3 := @Nat.add_assoc
abbrev B2 := @Int.ofNat.inj
abbrev N7 := @List.Pairwise.imp_of_mem
abbrev uF := @PyProof.Rows.wpS_lift
abbrev FV := @PySem.wpAny_eqBool_int
abbrev FU := @Nat.not_lt_of_le
abbrev B1 := @PyProof.Rows.wpS_forRange
abbrev B0 := @Nat.lt_trans
abbrev Nr := @PySem.W.cellsFrom_some
abbrev Nq := @List.take_of_length_le
abbrev Fw := @Option.map_some
abbrev Fu := @List.range_succ
abbrev Ft := @List.of_mem_zip
abbrev Fs := @Bool.or_eq_true
abbrev Bu := @Bool.eq_iff_iff
abbrev Np := @PySem.wpAny_isOneOf_keyiter
abbrev Nn := @List.perm_append_comm
abbrev Nm := @Classical.choose_spec
abbrev Bt := @List.map_id
abbrev Fq := @PySem.wpAny_fieldsOf
abbrev Nl := @PySem.codeAny_call_builtin
abbrev Nk := @List.getElem?_set_ne
abbrev Nj := @Array.toList_reverse
abbrev Ni := @PySem.wpAny_isSubtype_exc
abbrev Nh := @Nat.add_le_add_left
abbrev Fp := @PySem.Value.ref.inj
abbrev Br := @PyProof.Rows.wpS_modify
abbrev Ng := @Nat.lt_of_le_of_ne
abbrev Fo := @PySem.wpAny_typeOf
abbrev Fm := @Nat.zero_add
abbrev Fy := @Nat.sub_self
abbrev Fx := @Nat.add_comm
abbrev Nw := @Option.isSome_map
abbrev Nv := @Nat.lt_of_succ_lt
abbrev Nu := @List.reverse_perm
abbrev Wg := @List.take_succ_eq_append_getElem
abbrev Wf := @PySem.plainObj_wpAny_Assign_Attribute
abbrev Nt := @PyProof.Rows.slot_tuple_getitem
abbrev We := @PyProof.Rows.callWith_builtin1
abbrev Wc := @PySem.F.args_dict_keyiterator_next_1
abbrev Fl := @PyProof.Rows.wpS_reverse
abbrev Fj := @PySem.sizeLine_eq
abbrev Fi := @PyProof.Rows.mirror_perm
abbrev Fh := @PySem.Paired.snoc
abbrev Wb := @PySem.F.entry_dict_keyiterator_next
abbrev Nf := @PySem.wpAny_dictEpoch
abbrev Nd := @PySem.codeAny_builtin
abbrev Nc := @List.length_set
abbrev Nb := @List.find?_some
abbrev Na := @Int.emod_nonneg
abbrev Fg := @PyProof.Rows.size_push'
abbrev ZGo := @Nat.sub_le
abbrev M_ := @PySem.wpAny_loadPart
abbrev M' := @Nat.add_le_add
abbrev Wa := @PySem.wpAny_newFunctionEnv_cells
abbrev V_ := @PySem.F.slot_range_iterator_next
abbrev V' := @PySem.Calls.Name_function_global
abbrev VZ := @PySem.wpAny_check_type_call_sub
abbrev VY := @PySem.codeAny_call_builtin_code
abbrev VX := @Nat.lt_of_add_lt_add_left
abbrev aO := PySem.W.Frag
noncomputable abbrev gu := PySem.Challenge.rw_momentties_k15_falls_refused.prog
noncomputable section
variable {P:PySem.Program} {w:PySem.World} {K:aO} {mg:PySem.Str->Option PySem.Value} {base:PySem.Heap}
set_option linter.all false
section
variable {a b c d e f g h k l m n:Nat} {p q r s t u v w x y z:Int}
theorem Xq:¬a<b->b+(a-b)=a:=by lia
theorem IK:a<=b->a<b+1:=Nat.lt_succ_of_le
theorem rz:a<b->b-(a+1)<b-a:=Nat.sub_succ_lt_self b a
theorem Q0:1<=a->b=c+a->b-1<b:=by omega
theorem Xr:a<b->0<b:=Nat.zero_lt_of_lt
theorem CO:a<min b c-d->d+a<c:=by omega
theorem IL:a<b->c<=a+1->c<=b:=λi j=>cP j i
theorem Xs:a<b->¬a=0->a-1<Int.toNat ((b:Int)-1):=by omega
theorem CP:a+b<=c->b<=c-a:=Nat.le_sub_of_add_le'
theorem Xt:¬a<b->b+c+(a+c-(b+c))=a+c:=by omega
theorem IM:a+b<=c->a+(c-a)=c:=by lia
theorem zN:a<b->b<=a->False:=by lia
theorem zO:a<=b->a+(b-a)<=b:=by lia
theorem o_:¬p<q->q<=p:=by lia
theorem Q1:a=b+c->a=b+d->c=d:=by lia
theorem IP:a+b<c->a<c:=Nat.lt_of_add_right_lt
theorem Xu:p<=q->p<=max q r:=by lia
theorem lE:0<=p->q<=q+p:=Int.le_add_of_nonneg_right
theorem Xv:a<=b->c-b<=c-a:=λi=>Nat.sub_le_sub_left i c
theorem Q2:¬a=0->a-1<a:=Nat.sub_one_lt
theorem CQ:a<b->b<c->a<c:=B0
theorem XO:p<q->¬q=p:=Int.ne_of_gt
theorem Q3:a<b->c=b+d->c=a->e=f:=by lia
theorem vl:a<=b->a+c<=b+c:=λi=>yV i c
theorem Q4:a-b<=c->a<=c+b:=Nat.le_add_of_sub_le
theorem Q5:a+b<=c->d<=b->¬d<=e->a+(e+(d-e)/2)<c:=by lia
theorem XP:a+b<=c->a=d->b=e->d+e<=c:=by lia
theorem CS:a<=b->b<=c->a+(b-a)<=c:=by lia
theorem XQ:¬a<b->b+c+(a+c-(b+c))<=a+c:=by lia
theorem IZ:a<min b c->a<b:=by lia
theorem I':a+3*(b+c)+d<e->a+c+3*b+d<e:=by lia
theorem rA:a<=b->¬a<b->a=b:=by lia
theorem XR:a<b->a+(b-a)=b:=by lia
theorem Q6:a<b->c=b+d->c=a->False:=by lia
theorem Q7:1<a->¬a-1=1->1<a-1:=by lia
theorem zP:a=b->a<=c->b<=c:=λi j=>le_of_eq_of_le (i.symm) j
theorem xV:a<b->¬a+1=b->a+1<b:=Ng
theorem XS: -max p (-q)<=q:=by lia
theorem Q8:a<b->b-1<b:=Nat.sub_one_lt_of_lt
theorem Q9:a+16*(b+1)+c<d->a+3+16*b+c<d:=by lia
theorem vm:p<=q->q<=r->p<=r:=nc
theorem CT:a+1<b->b<=8->a<7:=by lia
theorem I_:a+b<=c->d=c->a<=d:=by lia
theorem QA:a<b->7*a+7+(7*b-(7*a+7))=7*b:=by omega
theorem XT:a+16*(b+c)+d<e->a+c+16*b+d<e:=by lia
theorem CU:a<b->(a:Int)<(b:Int):=by lia
theorem CV:a+b<=c->d<b->a+d-e<c:=by omega
theorem CY:(a:Int)<=8->a<=8:=Int.ofNat_le.mp
theorem XU:¬a=0->((a-1:Nat):Int)+1=(a:Int):=by lia
theorem rB:a<b+1->¬a=b->a<b:=by lia
theorem vn:a<b-c->c+a<b:=Nat.add_lt_of_lt_sub'
theorem jf:a<=a+b:=oq a b
theorem XW:a+16*b+c<d->e<=b->a+16*e+c<d:=by lia
theorem QB:a<b+c->b=d+e->f=e-g+c->¬e-g=0->a-(d+g)<f:=by lia
theorem pb:¬a<b->b<=a:=kZ
theorem QC:a+b+200<c->a+64<c:=by lia
theorem XY:a<b->a-c<b:=Nat.sub_lt_of_lt
theorem JA:a<b->a<=b-1:=Nat.le_sub_one_of_lt
theorem QD:a<=b->¬0<b-a->a=b:=by lia
theorem CZ:a<=min b c->c<=100->a<=1000:=by lia
theorem X6:a<b->0<b-a:=Nat.zero_lt_sub_of_lt
theorem QE:a<b+1->a<=b:=uH
theorem rC:a<=b->b<=c->a<=c:=cP
theorem zev:a=b->b<=c->a<=c:=le_of_eq_of_le
theorem X7:a+3*b+c<d->e<=b->a+3*e+c<d:=by lia
theorem X8:p<q->p<=q:=fq
theorem zQ:a+b<=c->d=c->e<=b->a+e<=d:=by lia
theorem C_:a<b->b=c->a<c:=Nat.lt_of_lt_of_eq
theorem QU:a=b->b<=c->a+(c-a)=c:=by lia
theorem oC:a+b<=c->d<b->a+d<c:=by lia
theorem X9:1<=a->a-1<a:=Nat.sub_one_lt_of_lt
theorem QV:a+b+c<d->a<d:=by lia
theorem QW:a<min b c-d->d+a<b:=by omega
theorem JB:p<=q->p<=q:=λi=>i
theorem JC:a<=2->min b a<=1000:=by lia
theorem qB:a<b->c+a<c+b:=λi=>Nat.add_lt_add_left i c
theorem JD:a<=b+c->b<=d+e->a<=d+(c+e):=by lia
theorem XA:¬(a:Int)<0:=Int.not_ofNat_neg a
theorem XB:p=q->q<=p:=λi=>Int.le_of_eq (i.symm)
theorem XC:0<=p->p<(a:Int)->Int.toNat p<a:=by lia
theorem De:2<=p->0<p-1:=by lia
theorem vo:a<=b->c+a<=c+b:=by lia
theorem gz:a<b->b<=c->a<c:=ie
theorem JE:a<b->a<b+c:=Nat.lt_add_right c
theorem Dg:0<=p->((Int.toNat p:Nat):Int)=p:=k_
theorem xW:a<b->c=b->a<c:=λi j=>Nat.lt_of_lt_of_eq i (j.symm)
theorem zR:a<=b->¬a=b->a<b:=Ng
theorem qE:¬a=0->0<a:=Nat.zero_lt_of_ne_zero
theorem QX:a<b->c<=c+b-1-a:=by omega
theorem QY:min a b=a->a<=b:=by lia
theorem Di:a<b->a<b:=λi=>i
theorem vp:¬a<=b->b<a:=Nat.lt_of_not_le
theorem JF:a<b+c->b<=a->a-b<c:=λi j=>Nat.sub_lt_left_of_lt_add j i
theorem XD:a+1<=b-c->c+a<b:=Nat.add_lt_of_lt_sub'
theorem mz:a<=b->a+(b-a)=b:=Nat.add_sub_cancel'
theorem tU:¬p<=q->q<p:=Int.lt_of_not_ge
theorem XE:a+b-1=c->¬b=0->a+(b-1)=c:=by lia
theorem XF: -p<=q->-max p r<=q:=by lia
end
set_option Elab.async false
set_option maxRecDepth 100000
namespace L2
open PySem PySem.Spec PyProof.Rows
noncomputable abbrev cX (C:Addr) (dx:Option Addr) (t a:Value):Obj:={ cls:=.ref C,dict:=dx,data:=.fields #[t,a,.none,.none,.bool false,.none] }
def Hd (A:Around) (h:Heap):Prop:=A.handled=none\/∃(a C:Addr) (b:Option Addr) (t c:Value),A.handled=some (.ref a)/\h.get? a=some (cX C b t c)
theorem Zs:entryFor table "proto.unchain"=some Builtin.«proto.unchain»:=entryFor_of_tree (by kernel_rfl)
section
theorem Hd.keep (q:Hd A h) (k:∀b C dx t c,h.get? b=some (cX C dx t c)->h'.get? b=some (cX C dx t c)):Hd A h':=by
 rcases q with q | ⟨a,C,dx,t,c,q,e⟩
 ·exact .inl q
 ·exact .inr ⟨a,C,dx,t,c,q,k a C dx t c e⟩
theorem X1 (q:Hd A s.heap) (b:s.heap.get? e=some I) (g:∃n,I.cls=.type n) (d:I.data=.fields vs) (i:2<vs.size)
 (h:∀h',Heap.SameBut e s.heap h'->(∃o,h'.get? e=some o/\o.cls=I.cls)->E (.ref e) { s with heap:=h' }):wpAny (model prog w) A (raiseNew (.ref e):Sem α) Q E s:=by
 unfold raiseNew;refine ae (wpAny_handled ?_);rcases q with q | ⟨a,C,k,t,l,q,c⟩
 ·rw [q];exact ae (aJ (wpAny_throw (h s.heap (Heap.SameBut.refl ..) ⟨I,b,U⟩)))
 ·rw [q];have j:a≠e:=λz=>by
   rw [z,b] at c;obtain ⟨n,f⟩:=g;rw [ft c] at f;cases f
  dsimp only;rw [if_pos (show (Value.ref a !=Value.ref e)=true by simp [j])];refine ae (kX (wpAny_runValue (Nd Zs ?_)));show wpAny _ _ (field (.ref a) 2>>=_) _ _ s;refine ae (i_ c U (x:=.none) U ?_);rw [if_pos (by rfl)];refine ae (aJ (aJ ?_));refine ae (qJ (a:=e) b d i ?_);exact wpAny_throw (h _ (Heap.SameBut.update ..) ⟨_,qc _ b (B7 (tj d _)),Obj.cls_mapFields ..⟩)
theorem Cv (q:Hd A s.heap)
 (h:∀e h',(∀b o,s.heap.get? b=some o->h'.get? b=some o)->(∃o,h'.get? e=some o/\o.cls=.type "StopIteration")->E (.ref e) { s with heap:=h' }):
 wpAny (model prog w) A (newExc (.type "StopIteration") []>>=λx=>(raiseNew x:Sem α)) Q E s:=by
 refine ae ?_;unfold newExc newTuple;refine ae (qN ?_ (by size_fits));refine ae (wpAny_of_eq (a:=Value.none) (by first | rfl | (simp only [firstArgMember];rfl)) ?_);refine qN ?_ (by size_fits);refine X1 (q.keep λb C i t k e=>cZ _ (cZ _ e)) (iT _ U) ⟨_,U⟩ U (by simp;exact bf (Nat.le_add_left (Nat.succ 2).succ 2)) λh' g ⟨o,f,d⟩=>?_;refine h _ h' (λb j e=>?_) ⟨o,f,d⟩;have c:=cZ (h:=s.heap) { cls:=.type "tuple",data:=.seq ([]:List Value).toArray } e;exact (g.2 b (gv (d9 c))).trans (cZ _ c)
theorem Cm {a:Addr} {s0:Shared} {e:Addr} {h':Heap} {Q:Option Value->Shared->Prop} (k:∀b o,b≠a->s0.heap.get? b=some o->h'.get? b=some o) (t:∃o,h'.get? e=some o/\o.cls=.type "StopIteration") (f:∀h',Heap.ExtBut a s0.heap h'->Q none { s0 with heap:=h' }):
 wpAny (model prog w) A (isInstance (.ref e) (.type "StopIteration")) (λb s'=>b=true/\Q none s') E { s0 with heap:=h' }:=by
 obtain ⟨o,c,d⟩:=t;exact wpAny_isInstance (T:="StopIteration") (b:=true) ⟨o,c,d⟩ isSubtype_stop ⟨U,f h' λb u g e=>k b u g e⟩
theorem Zh {a l:Addr} {i:Nat} {g:Array Value} {Q:Option Value->Shared->Prop} (q:Hd A s.heap) (st:s.heap.IsListIter a l i) (n:s.heap.IsList l g) (r:g[i]?=none)
 (m:∀h',Heap.ExtBut a s.heap h'->Q none { s with heap:=h' }):wpAny (model prog w) A (pyNext (.ref a)) Q E s:=by
 obtain ⟨u,c,j,d⟩:=id st;obtain ⟨v,p,_,F,k⟩:=n;unfold pyNext;refine ae (s_ (yW (name:=Str.ofString "__next__") st.typeIs slot_listiter_next (uG slot_listiter_next st.typeIs entry_listiter_next ?_ (args_listiter_next _))));show wpAny _ _ (field (.ref a) 0>>=_) _ _ s;refine ae (i_ c d (x:=.ref l) U ?_);rw [if_neg (show ¬((Value.ref l==Value.none)=true) from dX)];refine ae (i_ c d (x:=.int i 0) U (ae (wpAny_seqItems p k ?_)));simp only [l_,r];refine ae (qL (ae (qJ c d (by simp) ?_)));have h:∀b o,b≠a->s.heap.get? b=some o->(s.heap.update a (Obj.mapFields (·.setIfInBounds 0 Value.none))).get? b=some o:=λb o f e=>(iS _ _ (aK f)).trans e;refine Cv (A:=A.in1) (s:={ s with heap:=s.heap.update a (Obj.mapFields (·.setIfInBounds 0 Value.none)) }) (Hd.keep (A:=A.in1) q λb C D t H e=>h b _ (λz=>?_) e) λe h' y B=>?_
 ·rw [z,c] at e;cases e;cases j
 ·refine ae (gS (Cm (s0:=s) (λb o f z=>y b o (h b o f z)) B m) (λb G z=>?_) λ_ _ z=>z);obtain ⟨rfl,z⟩:=z;exact aJ z
theorem Sf {a:Addr} {x left c:Int} {Q:Option Value->Shared->Prop} (q:Hd A s.heap) (st:IsRangeIter s.heap a x left c) (g:left<=0)
 (f:∀h',Heap.ExtBut a s.heap h'->Q none { s with heap:=h' }):wpAny (model prog w) A (pyNext (.ref a)) Q E s:=by
 have d:s.TypeIs (.ref a) "range_iterator":=⟨_,st,U⟩;unfold pyNext;refine ae (s_ (yW (name:=Str.ofString "__next__") d V_ (uG V_ d F.entry_range_iterator_next ?_ (F.args_range_iterator_next_1 _))));show wpAny _ _ (field (.ref a) 0>>=_) _ _ s;refine ae (i_ st U (x:=rawInt x) U (ae (i_ st U (x:=rawInt left) U (ae (i_ st U (x:=rawInt c) U ?_)))));show wpAny _ _ (if left<=0 then _ else _) _ _ s;rw [if_pos g];refine ae (qL ?_);refine ae ?_;refine Cv (A:=A.in1) (s:=s) q λe h' h i=>?_;refine ae (gS (Cm (s0:=s) (λb o _ z=>h b o z) i f) (λb j z=>?_) λ_ _ z=>z);obtain ⟨rfl,z⟩:=z;exact aJ z
theorem YO {a t:Addr} {i:Nat} {g:Array Value} {Q:Option Value->Shared->Prop} (q:Hd A s.heap) (st:IsTupIter s.heap a t i) (m:IsTup s.heap t g) (p:g[i]?=none)
 (l:∀h',Heap.ExtBut a s.heap h'->Q none { s with heap:=h' }):wpAny (model prog w) A (pyNext (.ref a)) Q E s:=by
 obtain ⟨u,c,j,d⟩:=id st;obtain ⟨v,n,_,D,k⟩:=m;unfold pyNext;refine ae (s_ (yW (name:=Str.ofString "__next__") st.typeIs slot_tupleiter_next (uG slot_tupleiter_next st.typeIs entry_tupleiter_next ?_ (args_tupleiter_next _))));show wpAny _ _ (field (.ref a) 0>>=_) _ _ s;refine ae (i_ c d (x:=.ref t) U ?_);rw [if_neg (show ¬((Value.ref t==Value.none)=true) from dX)];refine ae (i_ c d (x:=.int i 0) U (ae (wpAny_seqItems n k ?_)));simp only [l_,p];refine ae (qL (ae (qJ c d (by simp) ?_)));have h:∀b o,b≠a->s.heap.get? b=some o->(s.heap.update a (Obj.mapFields (·.setIfInBounds 0 Value.none))).get? b=some o:=λb o f e=>(iS _ _ (aK f)).trans e;refine Cv (A:=A.in1) (s:={ s with heap:=s.heap.update a (Obj.mapFields (·.setIfInBounds 0 Value.none)) }) (Hd.keep (A:=A.in1) q λb C B H G e=>h b _ (λz=>?_) e) λe h' r y=>?_
 ·rw [z,c] at e;cases e;cases j
 ·refine ae (gS (Cm (s0:=s) (λb o f z=>r b o (h b o f z)) y l) (λb F z=>?_) λ_ _ z=>z);obtain ⟨rfl,z⟩:=z;exact aJ z
theorem Zv {a:Int} {i n:Nat} (l:i<n) (st:IsRangeIter s.heap it (a+(i:Nat)*1) ((n:Int)-(i:Nat)) 1)
 (f:∀(t:Tok) h' k,IsRangeIter h' it (a+((i+1:Nat):Int)*1) ((n:Int)-((i+1:Nat):Int)) 1->(∀b o,b∉[it]->s.heap.get? b=some o->h'.get? b=some o)->Q (some (.int (a+(i:Nat)*1) t)) { s with heap:=h',toks:=k }):
 wpAny (model prog w) A (pyNext (.ref it)) Q E s:=by
 refine wpAny_pyNext_range_item st (by lia) λh' j h=>?_;refine f _ h' _ ?_ λb o g e=>h.extBut b o (λz=>g (by simp [z])) e;have c:a+((i+1:Nat):Int)*1=a+(i:Int)*1+1:=by lia
 have d:(n:Int)-((i+1:Nat):Int)=(n:Int)-(i:Int)-1:=by lia
 rw [c,d];exact j
end
abbrev Key:=Sum Int Str
def tE:Key->Value->Bool
 | .inl k,v=>Value.isInt k v
 | .inr x,v=>Value.isStrOf x v
def Î (w:World):Key->Int
 | .inl k=>hashInt k
 | .inr x=>hashStr w x
theorem pf:∀{k:Key} {v:Value},tE k v=true->(∃i t,k=Sum.inl i/\v=Value.int i t)\/(∃x t,k=Sum.inr x/\v=Value.str x t)
 | .inl i,v,h=>by obtain ⟨t,e⟩:=Value.isInt_shape (k:=i) (v:=v) h;exact .inl ⟨i,t,U,e⟩
 | .inr x,v,h=>by obtain ⟨t,e⟩:=Value.isStrOf_shape (x:=x) (v:=v) h;exact .inr ⟨x,t,U,e⟩
theorem Yc (i:Int) (t:Tok):tE (.inl i) (.int i t)=true:=by simp [tE,Value.isInt]
theorem Yd (x:Str) (t:Tok):tE (.inr x) (.str x t)=true:=by simp [tE,Value.isStrOf]
theorem ϧ (a b:Int):decide ((Sum.inl a:Key)=Sum.inl b)=(a==b):=by
 by_cases e:a=b
 ·subst e;simp
 ·have h:¬(Sum.inl a:Key)=Sum.inl b:=λq=>e (tf q);rw [eE h];exact (beq_eq_false_iff_ne.mpr e).symm
theorem Ϫ (a b:Str):decide ((Sum.inr a:Key)=Sum.inr b)=decide (a=b):=by
 by_cases e:a=b
 ·subst e;simp
 ·have h:¬(Sum.inr a:Key)=Sum.inr b:=λq=>e (Sum.inr.inj q);rw [eE h,eE e]
theorem Ϩ (a:Int) (b:Str):decide ((Sum.inl a:Key)=Sum.inr b)=false:=eE nofun
theorem ϩ (a:Str) (b:Int):decide ((Sum.inr a:Key)=Sum.inl b)=false:=eE nofun
def kM (prog:Program) (w:World):PySem.KeyKind prog w Key where
 is:=tE
 hash:=Î w
 inj:=λv a b g f=>by
  rcases pf g with ⟨i,t,rfl,rfl⟩ | ⟨x,t,rfl,rfl⟩
  ·rcases pf f with ⟨j,u,rfl,e⟩ | ⟨y,u,rfl,e⟩
   ·injection e with c _;rw [c]
   ·exact nomatch e
  ·rcases pf f with ⟨j,u,rfl,e⟩ | ⟨y,u,rfl,e⟩
   ·exact nomatch e
   ·injection e with c _;rw [c]
 byValue:=λk v h=>by rcases pf h with ⟨i,t,rfl,rfl⟩ | ⟨x,t,rfl,rfl⟩<;>rfl
 pyHash:=λd h=>by
  rcases pf d with ⟨i,t,rfl,rfl⟩ | ⟨x,t,rfl,rfl⟩
  ·exact wpAny_pyHash_int h
  ·exact wpAny_pyHash_str h
 eqBool:=λl d h=>by
  rcases pf l with ⟨i,t,rfl,rfl⟩ | ⟨x,t,rfl,rfl⟩
  ·rcases pf d with ⟨j,u,rfl,rfl⟩ | ⟨y,u,rfl,rfl⟩
   ·rw [ϧ] at h;exact FV h
   ·rw [Ϩ] at h;exact SeqAt.EqAt.int_str i t y u _ _ _ _ h
  ·rcases pf d with ⟨j,u,rfl,rfl⟩ | ⟨y,u,rfl,rfl⟩
   ·rw [ϩ] at h;exact SeqAt.EqAt.str_int x t j u _ _ _ _ h
   ·rw [Ϫ] at h;exact wpAny_eqBool_str h
 «strs»:=λk x t v h=>by
  rcases pf h with ⟨i,u,rfl,e⟩ | ⟨y,u,rfl,e⟩
  ·exact nomatch e
  ·injection e with c _
   subst c;cases v<;>rfl
theorem Zi (prog:Program) (w:World) (i:Int) (t:Tok):(kM prog w).is (.inl i) (.int i t)=true:=Yc i t
theorem Zj (prog:Program) (w:World) (x:Str) (t:Tok):(kM prog w).is (.inr x) (.str x t)=true:=Yd x t
inductive V where
 | aG | bl (b:Bool) | int (i:Int) | str (x:Str) | lY (b:Array UInt8) | wO (b:UInt64) | ref (a:Addr) | ty (n:String)
 deriving DecidableEq
def bQ:V->Value->Prop
 | .aG,u=>u=Value.none
 | .bl b,u=>u=Value.bool b
 | .int i,u=>∃t,u=Value.int i t
 | .str x,u=>∃t,u=Value.str x t
 | .lY b,u=>∃t,u=Value.bytes b t
 | .wO b,u=>∃t,u=Value.float b t
 | .ref a,u=>u=Value.ref a
 | .ty n,u=>u=Value.type n
abbrev a_:List V->List Value->Prop:=Paired bQ
theorem a_.length (r:a_ xs us):xs.length=us.length:=j8 r
theorem a_.get:∀{xs:List V} {us:List Value} {i:Nat} {x:V},a_ xs us->xs[i]?=some x->∃u,us[i]?=some u/\bQ x u
 | _,_,_,_,.nil,e=>by simp at e
 | _,_,0,_,.cons r _,e=>by simp at e;subst e;exact ⟨_,U,r⟩
 | _,_,i+1,x,.cons _ t,e=>by obtain ⟨u,a,b⟩:=a_.get (i:=i) (x:=x) t (by simpa using e);exact ⟨u,by simpa using a,b⟩
theorem a_.set (r:bQ x u):∀{xs:List V} {us:List Value} (i:Nat),a_ xs us->a_ (xs.set i x) (us.set i u)
 | _,_,_,.nil=>.nil
 | _,_,0,.cons _ t=>.cons r t
 | _,_,i+1,.cons q t=>.cons q (a_.set r i t)
theorem a_.append {xs ys:List V} {us a:List Value} (h:a_ xs us) (s:a_ ys a):a_ (xs++ys) (us++a):=by
 induction h with
 | nil=>exact s
 | cons r t b=>exact .cons r b
theorem a_.take:∀{xs:List V} {us:List Value} (n:Nat),a_ xs us->a_ (xs.take n) (us.take n)
 | _,_,0,_=>.nil
 | _,_,_+1,.nil=>.nil
 | _,_,n+1,.cons r t=>.cons r (a_.take n t)
theorem a_.drop:∀{xs:List V} {us:List Value} (n:Nat),a_ xs us->a_ (xs.drop n) (us.drop n)
 | _,_,0,r=>r
 | _,_,_+1,.nil=>.nil
 | _,_,n+1,.cons _ t=>a_.drop n t
def jk:Option V->Option Value->Prop
 | some v,some u=>bQ v u
 | none,none=>True
 | _,_=>False
def KV {a:Type}:List (a×V)->List (a×Value)->Prop:=Paired λ(p:a×V) (q:a×Value)=>p.1=q.1/\bQ p.2 q.2
noncomputable def kV:Key->V
 | .inl i=>.int i
 | .inr x=>.str x
inductive HO where
 | lst (xs:List V)
 | tup (xs:List V)
 | dK (kvs:List (Key×V)) | dT (kvs:List (List Key×V))
 | set (S:Int->Bool) (n:Nat)
 | ins (C dx:Addr) (fs:List (Str×V))
 | own (x:Addr)
 | xd (fs:List (Str×V))
 | met (f x:Addr)
 | K7 (lo hi:Int)
 | dh (o:Obj) (u:HO)
 | vI (ps:Array Value)
 | ext (φ:Heap->Prop)
abbrev Hp:=Addr->Option HO
noncomputable def upd (H:Hp) (a:Addr) (o:HO):Hp:=λb=>if b=a then some o else H b
theorem ai:upd H a o a=some o:=by unfold upd;rw [if_pos rfl]
theorem ah (h:b≠a):upd H a o b=H b:=by unfold upd;rw [if_neg h]
theorem HU:upd (upd H a o) a u=upd H a u:=by funext b;unfold upd;split<;>rfl
theorem aI {H:Hp} {a b:Addr} {o u:HO} (h:H a=some o) (h':H b=some u) (d:o≠u):a≠b:=by intro e;subst e;rw [h] at h';exact d (ft h')
theorem av {H:Hp} {a b:Addr} {o:HO} (h:H a=some o) (h':H b=none):a≠b:=by intro e;subst e;rw [h] at h';cases h'
section
variable (P:Program) (w:World)
def d_ (H:Hp) (h:Heap) (a:Addr):HO->Prop
 | .lst b=>b.length<=sizeLine/\∃(e:List Value) (n:Nat),a_ b e/\h.get? a=some { cls:=.type "list",data:=.seq e.toArray n }
 | .tup b=>b.length<=sizeLine/\∃e:List Value,a_ b e/\IsTup h a e.toArray
 | .dK g=>g.length<=sizeLine/\(a==sysModules)=false/\∃r,KV g r/\h.DictOf (kM P w) a r
 | .dT g=>g.length<=sizeLine/\(a==sysModules)=false/\∃b:List (List Key×Addr×Value),
  Paired (λ(p:List Key×V) (q:List Key×Addr×Value)=>p.1=q.1/\H q.2.1=some (.tup (p.1.map kV))/\bQ p.2 q.2.2) g b/\
  ∃o k s,h.get? a=some o/\o.ExactDict/\o.data=.dict k s/\k.toList=b.map (entryOfKey (tupleKind (kM P w)))/\(b.map (·.1)).Nodup
 | .set S n=>h.SetOf (intKind P w) a S n
 | .ins C i d=>H i=some (.own a)/\d.length<=1000/\i≠a/\h.get? a=some (W.instObj C i)/\
  ∃c,h.Ns1 i c/\(∀f,jk (d.lookup f) (c f))/\PySem.Within c (d.map (·.1))
 | .own _=>∃o,h.get? a=some o
 | .xd d=>∃c,h.Ns1 a c/\∀f,jk (d.lookup f) (c f)
 | .K7 z y=>∃t u v,h.get? a=some { cls:=.type "range",data:=.fields #[.int z t,.int y u,.int 1 v] }
 | .dh o u=>h.get? a=some o/\d_ H h a u
 | .vI A=>h.get? a=some { cls:=.none,data:=.fields A }
 | .met f x=>h.get? a=some (W.methodObj (.ref f) (.ref x))
 | .ext j=>j h/\(∃o,h.get? a=some o)/\∀l m:Heap,j l->(∀o,l.get? a=some o->m.get? a=some o)->j m
def dq (H:Hp) (h:Heap):Prop:=∀a o,H a=some o->d_ P w H h a o
end
section
theorem d_.lt (x:d_ P w H h a o):a<h.objs.size:=by
 cases o with
 | lst d=>obtain ⟨_,_,_,_,e⟩:=x;exact d9 e
 | tup d=>obtain ⟨_,_,_,p⟩:=x;exact p.lt
 | dK c=>obtain ⟨_,_,_,_,o,_,_,e,_⟩:=x;exact d9 e
 | dT c=>obtain ⟨_,_,_,_,o,_,_,e,_⟩:=x;exact d9 e
 | set S n=>obtain ⟨o,_,_,_,e,_⟩:=x;exact d9 e
 | ins C g b=>obtain ⟨_,_,_,e,_⟩:=x;exact d9 e
 | own y=>obtain ⟨_,e⟩:=x;exact d9 e
 | xd b=>obtain ⟨_,⟨_,_,_,e,_⟩,_⟩:=x;exact d9 e
 | K7 j i=>obtain ⟨_,_,_,e⟩:=x;exact d9 e
 | dh k u=>obtain ⟨e,_⟩:=x;exact d9 e
 | vI l=>exact d9 (show h.get? a=some _ from x)
 | met f y=>exact d9 (show h.get? a=some _ from x)
 | ext m=>obtain ⟨_,⟨_,e⟩,_⟩:=x;exact d9 e
theorem Paired.vY {l₁:List α} {l₂:List β} (h:Paired F l₁ l₂) (f:∀a b,F a b->G a b):Paired G l₁ l₂:=by
 induction h with
 | nil=>exact .nil
 | cons r t c=>exact .cons (f _ _ r) c
theorem d_.fQ (x:d_ P w H h a o) (k:∀b u,(b=a\/H b=some (.own a))->h.get? b=some u->h'.get? b=some u)
 (F:∀b,H b=some (.own a)->H' b=some (.own a)) (G:∀b xs,H b=some (.tup xs)->H' b=some (.tup xs)):d_ P w H' h' a o:=by
 induction o with
 | lst xs=>obtain ⟨z,l,n,r,e⟩:=x;exact ⟨z,l,n,r,k _ _ (.inl U) e⟩
 | tup xs=>obtain ⟨z,l,r,g,e,c⟩:=x;exact ⟨z,l,r,g,k _ _ (.inl U) e,c⟩
 | dK J=>obtain ⟨z,y,M,r,g,j,i,e,c⟩:=x;exact ⟨z,y,M,r,g,j,i,k _ _ (.inl U) e,c⟩
 | dT J=>
  obtain ⟨z,y,xs,r,g,j,i,e,c⟩:=x;exact ⟨z,y,xs,Paired.vY r λp q z=>⟨z.1,G _ _ z.2.1,z.2.2⟩,g,j,i,k _ _ (.inl U) e,c⟩
 | set S n=>obtain ⟨g,j,i,t,e,c⟩:=x;exact ⟨g,j,i,t,k _ _ (.inl U) e,c⟩
 | ins C N E=>
  obtain ⟨d,z,L,e,m,⟨s,j,i,D,c⟩,r⟩:=x;exact ⟨F _ d,z,L,k _ _ (.inl U) e,m,⟨s,j,i,k _ _ (.inr d) D,c⟩,r⟩
 | own y=>obtain ⟨g,e⟩:=x;exact ⟨g,k _ _ (.inl U) e⟩
 | xd E=>obtain ⟨m,⟨s,j,i,e,c⟩,r⟩:=x;exact ⟨m,⟨s,j,i,k _ _ (.inl U) e,c⟩,r⟩
 | K7 Q O=>obtain ⟨t,u,v,e⟩:=x;exact ⟨t,u,v,k _ _ (.inl U) e⟩
 | dh g u I=>obtain ⟨e,q⟩:=x;exact ⟨k _ _ (.inl U) e,I q⟩
 | vI A=>
  have e:h.get? a=some { cls:=.none,data:=.fields A }:=x;show h'.get? a=some { cls:=.none,data:=.fields A };exact k a _ (.inl U) e
 | met f y=>
  have e:h.get? a=some (W.methodObj (.ref f) (.ref y)):=x;show h'.get? a=some (W.methodObj (.ref f) (.ref y));exact k a _ (.inl U) e
 | ext R=>obtain ⟨p,⟨o,e⟩,B⟩:=x;exact ⟨B _ _ p λo q=>k _ _ (.inl U) q,⟨o,k _ _ (.inl U) e⟩,B⟩
theorem dq.lt (x:dq P w H h) (e:H a=some o):a<h.objs.size:=(x a o e).lt
theorem dq.fresh (x:dq P w H h) (e:h.objs.size<=a):H a=none:=by
 cases q:H a with
 | none=>rfl
 | some u=>exact absurd (ie (x.lt q) e) (jA _)
theorem dq.kept (x:dq P w H h) (k:∀b u,h.get? b=some u->h'.get? b=some u):dq P w H h':=λa o e=>
 (x a o e).fQ (λb u _ q=>k b u q) (λ_ q=>q) λ_ _ q=>q
theorem dq.laid (x:dq P w H h) (k:∀b u,h.get? b=some u->h'.get? b=some u) (g:h.objs.size<=a) (i:d_ P w (upd H a o) h' a o):dq P w (upd H a o) h':=λb u e=>by
 have f:=x.fresh g
 by_cases d:b=a
 ·subst d;rw [ai] at e;cases e;exact i
 ·rw [ah d] at e;exact (x b u e).fQ (λc v _ q=>k c v q) (λc q=>by rw [ah (av q f)];exact q) λc j q=>by rw [ah (av q f)];exact q
end
def Rd (H:Hp) (a:Addr) (u:HO):Prop:=H a=some u\/∃o,H a=some (.dh o u)
theorem Rd.ok (r:Rd H a u) (x:dq P w H h):d_ P w H h a u:=by
 rcases r with r | ⟨o,r⟩
 ·exact x a u r
 ·obtain ⟨_,q⟩:=x a _ r;exact q
def y_:Option HO->Prop
 | some (.lst _)=>True
 | some (.dK _)=>True
 | some (.dT _)=>True
 | some (.set _ _)=>True
 | some (.ins _ _ _)=>True
 | some (.ext _)=>True
 | _=>False
section
theorem dq.write (ok:dq P w H h) (g:y_ (H x)) (j:e=x\/H e=some (.own x)) (k:∀b u,b≠e->h.get? b=some u->h'.get? b=some u) (n:∃u,h'.get? e=some u)
 (p:d_ P w (upd H x o') h' x o'):dq P w (upd H x o') h':=λb u q=>by
 have l:∀c y,H c=some (.own y)->c≠x:=λc y r z=>by subst z;rw [r] at g;exact g
 have s:∀c i,H c=some (.tup i)->c≠x:=λc i r z=>by subst z;rw [r] at g;exact g
 by_cases a:b=x
 ·subst a;rw [ai] at q;cases q;exact p
 ·rw [ah a] at q
  by_cases d:b=e
  ·have m:H b=some (.own x):=by
    rcases j with z | z
    ·exact absurd (d.trans z) a
    ·rw [d];exact z
   rw [q] at m;cases m;obtain ⟨v,o⟩:=n;exact ⟨v,by rw [d];exact o⟩
  ·refine (ok b u q).fQ (λc v f r=>k c v ?_ r) (λc r=>by rw [ah (l c b r)];exact r) λc i r=>by rw [ah (s c i r)];exact r
   rcases f with rfl | f
   ·exact d
   ·rintro rfl;rcases j with z | z
    ·exact l c b f z
    ·rw [f] at z;cases z;exact a U
end
structure Un (fs ex:List Addr) (H H':Hp) (h h':Heap):Prop where
 keep:∀b o,h.get? b=some o->H b=none->b∉fs->b∉ex->h'.get? b=some o
 slot:∀b o,h.get? b=some o->H b=none->b∈fs->b∉ex->∃sl,h'.get? b=some { o with slots:=sl }
 free:∀b o,h.get? b=some o->H b=none->b∉ex->H' b=none
 there:∀b o,h.get? b=some o->b∉ex->∃o',h'.get? b=some o'
 fJ:∀b xs,H b=some (.tup xs)->H' b=some (.tup xs)
 gf:∀b o u,H b=some (.dh o u)->H' b=some (.dh o u)
 gB:∀b ps,H b=some (.vI ps)->∃more,H' b=some (.vI (ps++more))
section
theorem Un.any (u:Un fs ex H H1 h C) (q:h.get? b=some ob) (n:H b=none) (c:b∉ex):∃d,C.get? b=some { ob with slots:=d }:=by
 by_cases a:b∈fs
 ·exact u.slot b ob q n a c
 ·exact ⟨ob.slots,u.keep b ob q n a c⟩
theorem Un.kept (k:∀b u,h.get? b=some u->h'.get? b=some u):Un fs ex H H h h':=
 ⟨λb a q _ _ _=>k b a q,λb a q _ _ _=>⟨a.slots,k b a q⟩,λ_ _ _ n _=>n,λb a q _=>⟨a,k b a q⟩,λ_ _ q=>q,λ_ _ _ q=>q,λ_ c q=>⟨#[],by rw [q];simp⟩⟩
theorem Un.refl:Un fs ex H H h h:=Un.kept λ_ _ q=>q
theorem Un.laid (k:∀b u,h.get? b=some u->h'.get? b=some u) (d:h.objs.size<=a) (c:H a=none):Un fs ex H (upd H a o) h h' where
 keep:=λb u q _ _ _=>k b u q
 slot:=λb u q _ _ _=>⟨u.slots,k b u q⟩
 free:=λb u q n _=>by rw [ah (gv (ie (d9 q) d))];exact n
 there:=λb u q _=>⟨u,k b u q⟩
 fJ:=λb e q=>by rw [ah (av q c)];exact q
 gf:=λb u e q=>by rw [ah (av q c)];exact q
 gB:=λb f q=>⟨#[],by rw [ah (av q c),q];simp⟩
theorem Un.write (a:y_ (H x)) (i:e=x\/H e=some (.own x)) (k:∀b u,b≠e->h.get? b=some u->h'.get? b=some u) (j:∃u,h'.get? e=some u):Un fs ex H (upd H x o) h h':=by
 have g:∀b,H b=none->b≠x:=λb n z=>by subst z;rw [n] at a;exact a
 have d:∀b,H b=none->b≠e:=λb n z=>by
  subst z;rcases i with r | r
  ·exact g b n r
  ·rw [n] at r;cases r
 have c:∀b u,H b=some u->¬y_ (some u)->b≠x:=λb u q l z=>by subst z;rw [q] at a;exact l a
 refine ⟨λb u q n _ _=>k b u (d b n) q,λb u q n _ _=>⟨u.slots,k b u (d b n) q⟩,λb u q n _=>by rw [ah (g b n)];exact n,λb u q _=>?_,
  λb m q=>by rw [ah (c b _ q λz=>z)];exact q,λb u m q=>by rw [ah (c b _ q λz=>z)];exact q,λb p q=>⟨#[],by rw [ah (c b _ q λz=>z),q];simp⟩⟩
 by_cases f:b=e
 ·subst f;exact j
 ·exact ⟨u,k b u f q⟩
end
noncomputable def DV (h:Heap) (H:Hp):List Addr:=(List.range h.objs.size).filter λa=>(H a).isSome
def qV (h:Heap) (H:Hp):Heap:=W.hideAll h (DV h H)
theorem X_ (h:Heap) (H:Hp):(qV h H).objs.size=h.objs.size:=W.hideAll_size _ _
theorem WD (e:h.get? b=some o) (n:H b=none):(qV h H).get? b=some o:=
 W.hideAll_get _ e λa=>by have q:(H b).isSome=true:=(List.mem_filter.mp a).2;rw [n] at q;simp at q
theorem zBy (e:(qV h H).get? b=some o):h.get? b=some o/\H b=none:=by
 have a:h.get? b=some o:=W.of_hideAll (DV h H) e;refine ⟨a,?_⟩
 cases q:H b with
 | none=>rfl
 | some x=>
  have c:b∈DV h H:=List.mem_filter.mpr ⟨kD.mpr (d9 a),by simp [q]⟩;have z:(qV h H).get? b=none:=W.hideAll_none (DV h H) c;rw [z] at e;cases e
structure Mod (K:aO) (mg:Str->Option Value) (base:Heap):Prop where
 sI:K.In base
 glob:base.Ns mainGlobals mg
 blt:∃mb,base.Ns builtinsNs mb/\∀x:Str,x≠"__name__"->mb x=bootBuiltins x
 nolimit:base.NoLimit
structure Cx where
 prog:Program
 w:World
 K:aO
 mg:Str->Option Value
 base:Heap
 A:Around
 N:List Str
 bS:Shared
 gk:Hp
 env:Env
 outer:List Env
 stack:List Env
 ex:List Addr
 fn:Str->Bool
 calm:Bool
 pn:List (Addr×Obj)
 xe:Value->Shared->Prop
noncomputable def gr (l:List Env):List Addr:=l.filterMap (·.frame)
noncomputable abbrev Cx.fs (X:Cx):List Addr:=gr X.outer
def GQ (a:Scope) (x:Str):Prop:=a.names.lookup x=some .local\/a.names.lookup x=some .cell\/a.names.lookup x=some .free
def Loc (a:Scope) (x:Str):Prop:=a.names.lookup x=some .local\/a.names.lookup x=some .cell
def Z3 (env:Env) (h:Heap) (m:Str->Option Value) (x:Str) (u:Value):Prop:=
 (env.kindOf x=some .local/\m x=some u)\/((env.kindOf x=some .cell\/env.kindOf x=some .free)/\∃c,env.cells.lookup x=some c/\h.IsCell c (some u))
structure Cx.Ok (X:Cx):Prop where
 mod:Mod X.K X.mg X.base
 kind:X.env.scope.kind=.function
 glob:X.env.globals=mainGlobals
 blt:X.env.builtins=builtinsNs
 above:X.bS.heap.objs.size<=X.env.locals
 inj:∀x y c,X.env.cells.lookup x=some c->X.env.cells.lookup y=some c->x=y
 has:∀x,(X.env.kindOf x=some .cell\/X.env.kindOf x=some .free)->∃c,X.env.cells.lookup x=some c
 sY:∀x c,X.fn x=true->X.env.cells.lookup x=some c->X.bS.heap.objs.size<=c
 hd:X.calm=true->X.A.handled=none
 frames:X.A.frames=some X.stack
 ug:X.stack=X.outer\/(X.stack=X.env::X.outer/\X.env.frame=some X.env.locals)
 yG:∀b∈X.ex,b≠X.env.locals/\∀x c,X.env.cells.lookup x=some c->c≠b
 bs:∀b o,X.base.get? b=some o->X.bS.heap.get? b=some o/\X.gk b=none
 mV:X.base.objs.size<=X.bS.heap.objs.size
 jw:∀b o,X.base.get? b=some o->b∉X.ex
 j5:∀b∈X.ex,b∉X.fs
 eM:X.bS.heap.FunFrames X.base X.outer
 oa:∀b∈X.fs,X.gk b=none
structure Inv (X:Cx) (pins:List (Addr×Obj)) (σ:List (Option V)) (H:Hp) (s:Shared):Prop where
 ok:X.Ok
 os:s.os=X.bS.os
 bare:AllBare s.gens
 base:Un X.fs X.ex X.gk H X.bS.heap s.heap
 loc:∃m,s.heap.Ns X.env.locals m/\∀(i:Nat) (x:Str) (v:V),X.N[i]?=some x->σ[i]?=some (some v)->GQ X.env.scope x->∃u,bQ v u/\Z3 X.env s.heap m x u
 cell:∀x c,X.env.cells.lookup x=some c->∃v,s.heap.IsCell c v
 free:H X.env.locals=none
 cq:∀x c,X.env.cells.lookup x=some c->H c=none
 pin:∀p∈X.pn++pins,s.heap.get? p.1=some p.2/\H p.1=none/\p.1≠X.env.locals/\p.1∉X.fs/\∀v,p.2.data≠.cell v
 aA:dq X.prog X.w H s.heap
 len:σ.length=X.N.length
section
variable {X:Cx}
theorem Cx.Ok.KI (ok:X.Ok) (e:X.base.get? b=some o):b∉X.fs:=λa=>by have:=(ok.eM.mem a).1;rw [e] at this;cases this
theorem Inv.bs (I:Inv X pins σ H s):∀b o,X.base.get? b=some o->s.heap.get? b=some o/\H b=none:=λb o e=>
 ⟨I.base.keep b o (I.ok.bs b o e).1 (I.ok.bs b o e).2 (I.ok.KI e) (I.ok.jw b o e),I.base.free b o (I.ok.bs b o e).1 (I.ok.bs b o e).2 (I.ok.jw b o e)⟩
theorem Inv.bk (I:Inv X pins σ H s):∀b o,X.base.get? b=some o->s.heap.get? b=some o:=λb o e=>(I.bs b o e).1
theorem Inv.mod (I:Inv X pins σ H s):Mod X.K X.mg X.base:=I.ok.mod
theorem Inv.fj (I:Inv X pins σ H s):X.K.In s.heap:=I.ok.mod.sI.keeps I.bk
theorem Inv.lt (I:Inv X pins σ H s):X.env.locals<s.heap.objs.size:=let ⟨_,a,_⟩:=I.loc;a.lt
theorem Inv.sz (I:Inv X pins σ H s):X.bS.heap.objs.size<=s.heap.objs.size:=cP I.ok.above (bf I.lt)
theorem Inv.KH (I:Inv X pins σ H s) (h:s.heap.objs.size<=a):a∉X.fs:=λb=>by obtain ⟨_,o,c,_⟩:=I.ok.eM.mem b;exact absurd (ie (d9 c) (cP I.sz h)) (jA _)
theorem Inv.Fe (I:Inv X pins σ H s):∀x c,X.env.cells.lookup x=some c->c≠X.env.locals:=λx c e z=>by obtain ⟨v,o,b,a⟩:=I.cell x c e;obtain ⟨m,⟨i,h,g,f,d,_⟩,_⟩:=I.loc;rw [z,f] at b;cases b;rw [d] at a;cases a
theorem Inv.eM (I:Inv X pins σ H s):s.heap.FunFrames X.base X.outer:=by
 have g:∀(l:List Env),(∀b∈gr l,b∈X.fs)->X.bS.heap.FunFrames X.base l->s.heap.FunFrames X.base l:=by
  intro l
  induction l with
  | nil=>intro _ _;trivial
  | cons q r p=>
   intro f j;obtain ⟨i,⟨L,o,d,k,m,h⟩,n⟩:=j;have a:L∈X.fs:=f L (by unfold gr;rw [tq,d];exact gw);obtain ⟨t,e⟩:=I.base.slot L o m (I.ok.oa L a) a λz=>I.ok.j5 L z a;exact ⟨i,⟨L,_,d,k,e,h⟩,p (λb c=>f b (by unfold gr;rw [tq,d];exact iO _ c)) n⟩
 exact g X.outer (λ_ c=>c) I.ok.eM
theorem Inv.stack (I:Inv X pins σ H s):s.heap.FunFrames X.base X.stack:=by
 rcases I.ok.ug with e | ⟨e,a⟩
 ·rw [e];exact I.eM
 ·rw [e];obtain ⟨m,b,_⟩:=I.loc;refine .cons (by rw [I.ok.kind];decide) a b ?_ I.eM;exact Heap.get?_none_of_le (cP I.ok.mV I.ok.above)
theorem Inv.jo (I:Inv X pins σ H s):∀b∈gr X.stack,b∈X.env.locals::X.fs:=λb a=>by
 rcases I.ok.ug with e | ⟨e,c⟩
 ·rw [e] at a;exact iO _ a
 ·rw [e] at a;unfold gr at a;rw [tq,c] at a;exact a
theorem Inv.gC (I:Inv X pins σ H s):∀b∈gr X.stack,H b=none:=λb a=>by
 rcases f'.mp (I.jo b a) with e | a
 ·rw [e];exact I.free
 ·obtain ⟨_,o,c,_⟩:=I.ok.eM.mem a;exact I.base.free b o c (I.ok.oa b a) λz=>I.ok.j5 b z a
theorem Inv.step {g':Array GenState} {t':Nat} {d':Drawn} {ch:List Addr} (I:Inv X pins σ H s)
 (q:∀b∈ch,(b∈X.ex\/X.bS.heap.objs.size<=b)/\b≠X.env.locals/\(∀x c,X.env.cells.lookup x=some c->c≠b)/\∀p∈X.pn++pins,p.1≠b)
 (D:∀b o,b≠X.env.locals->b∉X.fs->b∉ch->s.heap.get? b=some o->H b=none->h'.get? b=some o)
 (O:∀b o,b≠X.env.locals->b∈X.fs->b∉ch->s.heap.get? b=some o->H b=none->∃E,h'.get? b=some { o with slots:=E }) (y:∀b o,b∉ch->s.heap.get? b=some o->H b=none->H' b=none)
 (there:∀b o,b∉ch->s.heap.get? b=some o->∃t,h'.get? b=some t)
 (fJ:∀b xs,H b=some (.tup xs)->H' b=some (.tup xs)) (R:∀b o u,H b=some (.dh o u)->H' b=some (.dh o u)) (gB:∀b B,H b=some (.vI B)->∃more,H' b=some (.vI (B++more)))
 (ns:∀m,s.heap.Ns X.env.locals m->h'.Ns X.env.locals m) (W:dq X.prog X.w H' h') (S:AllBare g'):
 Inv X pins σ H' { s with heap:=h',gens:=g',drawn:=d',toks:=t' }:=by
 have M:∀b o,X.bS.heap.get? b=some o->b≠X.env.locals:=λb o e=>gv (ie (d9 e) I.ok.above);have A:∀b o,X.bS.heap.get? b=some o->b∉X.ex->b∉ch:=λb o e a g=>by
  rcases (q b g).1 with z | z
  ·exact a z
  ·exact absurd (ie (d9 e) z) (jA _)
 have F:∀x c,X.env.cells.lookup x=some c->∀v,s.heap.IsCell c v->h'.IsCell c v:=λx c e v ⟨o,h,C⟩=>by
  have r:c∉ch:=λz=>(q c z).2.2.1 x c e U
  by_cases G:c∈X.fs
  ·obtain ⟨E,x1⟩:=O c o (I.Fe x c e) G r h (I.cq x c e);exact ⟨_,x1,C⟩
  ·exact ⟨o,D c o (I.Fe x c e) G r h (I.cq x c e),C⟩
 refine ⟨I.ok,I.os,S,⟨λb o e n g a=>?_,λb o e n g a=>?_,λb o e n a=>?_,λb o e a=>?_,λb xs e=>fJ b xs (I.base.fJ b xs e),λb o xs e=>R b o xs (I.base.gf b o xs e),λb B e=>?_⟩,?_,λx c e=>?_,?_,λx c e=>?_,λp J=>?_,W,I.len⟩
 ·exact D b o (M b o e) g (A b o e a) (I.base.keep b o e n g a) (I.base.free b o e n a)
 ·obtain ⟨E,f⟩:=I.base.slot b o e n g a;obtain ⟨sl',j⟩:=O b _ (M b o e) g (A b o e a) f (I.base.free b o e n a);exact ⟨sl',j⟩
 ·obtain ⟨t,f⟩:=I.base.there b o e a;exact y b t (A b o e a) f (I.base.free b o e n a)
 ·obtain ⟨t,f⟩:=I.base.there b o e a;exact there b t (A b o e a) f
 ·obtain ⟨Y,f⟩:=I.base.gB b B e;obtain ⟨Z,j⟩:=gB b _ f;exact ⟨Y++Z,by rw [j,Array.append_assoc]⟩
 ·obtain ⟨m,V,T⟩:=I.loc;refine ⟨m,ns m V,λi x v f j Q=>?_⟩;obtain ⟨u,x2,l⟩:=T i x v f j Q;refine ⟨u,x2,?_⟩;rcases l with l | ⟨k,c,e,z⟩
  ·exact .inl l
  ·exact .inr ⟨k,c,e,F x c e _ z⟩
 ·obtain ⟨v,z⟩:=I.cell x c e;exact ⟨v,F x c e v z⟩
 ·obtain ⟨m,⟨o,_,_,h,_⟩,_⟩:=I.loc;exact y _ o (λz=>(q _ z).2.1 U) h I.free
 ·obtain ⟨v,o,h,C⟩:=I.cell x c e;exact y c o (λz=>(q c z).2.2.1 x c e U) h (I.cq x c e)
 ·obtain ⟨e,n,L,N,d⟩:=I.pin p J;have r:p.1∉ch:=λz=>(q p.1 z).2.2.2 p J U;exact ⟨D p.1 p.2 L N r e n,y p.1 p.2 r e n,L,N,d⟩
theorem Inv.un {t':Nat} (I:Inv X pins σ H s) (u:Un X.fs [] H H' s.heap h') (j:dq X.prog X.w H' h'):Inv X pins σ H' { s with heap:=h',toks:=t' }:=by
 obtain ⟨m,⟨o,p,l,c,r⟩,_⟩:=id I.loc;obtain ⟨v,h⟩:=u.any c I.free (by simp);exact I.step (g':=s.gens) (d':=s.drawn) (ch:=[]) (λ_ z=>nomatch z) (λb o _ a _ e n=>u.keep b o e n a (by simp)) (λb o _ a _ e n=>u.slot b o e n a (by simp)) (λb o _ e n=>u.free b o e n (by simp)) (λb o _ e=>u.there b o e (by simp)) u.fJ u.gf u.gB (λq i=>by
  obtain ⟨t,g,f,d,k⟩:=i;rw [c] at d;cases d;exact ⟨_,g,f,h,k⟩) j I.bare
theorem Inv.call {g':Array GenState} {t':Nat} {d':Drawn} {ch:List Addr} (I:Inv X pins σ H s) (u:Un (gr X.stack) ch H H' s.heap h') (t:dq X.prog X.w H' h') (l:AllBare g')
 (f:∀b∈ch,(b∈X.ex\/X.bS.heap.objs.size<=b)/\b≠X.env.locals/\(∀x c,X.env.cells.lookup x=some c->c≠b)/\∀p∈X.pn++pins,p.1≠b):
 Inv X pins σ H' { s with heap:=h',gens:=g',drawn:=d',toks:=t' }:=by
 obtain ⟨m,⟨o,A,y,g,r⟩,_⟩:=id I.loc;obtain ⟨D,d⟩:=u.any g I.free λz=>(f _ z).2.1 U;exact I.step (ch:=ch) f (λb o d k a e n=>u.keep b o e n (λz=>(f'.mp (I.jo b z)).elim d k) a) (λb o _ _ a e n=>u.any e n a) (λb o a e n=>u.free b o e n a) (λb o a e=>u.there b o e a) u.fJ u.gf u.gB (λB q=>by
  obtain ⟨C,j,i,h,v⟩:=q;rw [g] at h;cases h;exact ⟨_,j,i,d,v⟩) t l
theorem Inv.turned {t':Nat} {it:Addr} (I:Inv X pins σ H s) (k:∀b o,b≠it->s.heap.get? b=some o->h'.get? b=some o) (A:H it=none) (d:it≠X.env.locals)
 (i:it∈X.ex\/X.bS.heap.objs.size<=it) (j:∀x c,X.env.cells.lookup x=some c->c≠it) (l:∀p∈X.pn++pins,p.1≠it):Inv X pins σ H { s with heap:=h',toks:=t' }:=by
 have f:∀b u,H b=some u->b≠it:=λb u e z=>by rw [z,A] at e;cases e
 refine I.step (g':=s.gens) (d':=s.drawn) (ch:=[it]) (λb t=>?_) (λb o _ _ a e _=>k b o (λz=>a (by simp [z])) e) (λb o _ _ a e _=>⟨o.slots,k b o (λz=>a (by simp [z])) e⟩) (λ_ _ _ _ n=>n)
  (λb o a e=>⟨o,k b o (λz=>a (by simp [z])) e⟩) (λ_ _ e=>e) (λ_ _ _ e=>e) (λb C e=>⟨#[],by rw [e];simp⟩) (λm y=>?_) (λb u e=>?_) I.bare
 ·have e:b=it:=by simpa using t
  subst e;exact ⟨i,d,j,l⟩
 ·obtain ⟨o,h,g,B,r⟩:=y;exact ⟨o,h,g,k _ o (aK d) B,r⟩
 ·refine (I.aA b u e).fQ (λc v a q=>k c v ?_ q) (λ_ q=>q) λ_ _ q=>q;rcases a with z | z
  ·rw [z];exact f b u e
  ·exact f c _ z
theorem Inv.tok (I:Inv X pins σ H s) (t:Nat):Inv X pins σ H { s with toks:=t }:=I.un (h':=s.heap) (t':=t) Un.refl I.aA
theorem Inv.kept (I:Inv X pins σ H s) (k:∀b u,s.heap.get? b=some u->h'.get? b=some u):Inv X pins σ H { s with heap:=h',toks:=t' }:=I.un (Un.kept k) (I.aA.kept k)
theorem Inv.laid (I:Inv X pins σ H s) (k:∀b u,s.heap.get? b=some u->h'.get? b=some u) (c:s.heap.objs.size<=a) (d:d_ X.prog X.w (upd H a o) h' a o):
 Inv X pins σ (upd H a o) { s with heap:=h',toks:=t' }:=I.un (Un.laid k c (I.aA.fresh c)) (I.aA.laid k c d)
theorem Inv.write (I:Inv X pins σ H s) (d:y_ (H x)) (a:e=x\/H e=some (.own x)) (k:∀b u,b≠e->s.heap.get? b=some u->h'.get? b=some u) (c:∃u,h'.get? e=some u)
 (f:d_ X.prog X.w (upd H x o) h' x o):Inv X pins σ (upd H x o) { s with heap:=h',toks:=t' }:=I.un (Un.write d a k c) (I.aA.write d a k c f)
theorem Inv.mM (I:Inv X pins σ H s) (h:∀p∈C,s.heap.get? p.1=some p.2/\H p.1=none/\p.1≠X.env.locals/\p.1∉X.fs/\∀v,p.2.data≠.cell v):Inv X C σ H s:=
 ⟨I.ok,I.os,I.bare,I.base,I.loc,I.cell,I.free,I.cq,λp a=>(jj.mp a).elim (λz=>I.pin p (lg _ z)) (h p),I.aA,I.len⟩
theorem PQ {N:List Str} (e:N.Nodup) {i j:Nat} {x:Str} (a:N[i]?=some x) (b:N[j]?=some x):i=j:=by obtain ⟨f,c⟩:=eX.mp a;obtain ⟨g,d⟩:=eX.mp b;exact (List.getElem_inj e).mp (c.trans d.symm)
theorem Ra {M:Model} {A:Around} {E:Value->Shared->Prop} {i:Nat} {x:Str} {v:V} {u:Value} {Q:Unit->Shared->Prop} (I:Inv X pins σ H s) (hN:X.N.Nodup) (F:X.N[i]?=some x) (m:Loc X.env.scope x) (r:bQ v u)
 (h:∀s',Inv X pins (σ.set i (some v)) H s'->(∃a,Heap.SameBut a s.heap s'.heap/\(a=X.env.locals\/X.env.cells.lookup x=some a))->Q () s') (hf:autoParam (X.fn x=true\/X.env.scope.names.lookup x=some .local) t15._auto_1):wpAny M A (storeName X.env x u) Q E s:=by
 obtain ⟨x1,S,hl⟩:=id I.loc;have L_:(X.env.scope.kind==.class || (X.env.scope.kind==.module && X.env.locals !=X.env.globals))=false:=by rw [I.ok.kind];rfl
 have AJ:i<σ.length:=by rw [I.len];exact (eX.mp F).1
 have N:=I.Fe;have tracked:∀{a:Addr} {h':Heap},(∃o,s.heap.get? a=some o/\H a=none)->Heap.SameBut a s.heap h'->dq X.prog X.w H h':=λ{a h'} ha f b ob e=>by
  obtain ⟨_,_,u4⟩:=ha;refine (I.aA b ob e).fQ (λc L l q=>(f.2 c ?_).trans q) (λ_ q=>q) λ_ _ q=>q;rintro rfl;rcases l with rfl | l
  ·rw [u4] at e;cases e
  ·rw [u4] at l;cases l
 rcases m with B | B
 ·refine wpAny_storeName_local B S (λh' LF f=>?_) L_;obtain ⟨oL,_,_,hoL,_⟩:=id S;refine h _ ⟨I.ok,I.os,I.bare,⟨λb o e n C m=>?_,λb o e n C m=>?_,I.base.free,λb o e m=>?_,I.base.fJ,I.base.gf,I.base.gB⟩,⟨_,LF,λj y v' g t O=>?_⟩,λy c e=>?_,I.free,I.cq,λp T=>?_,tracked ⟨oL,hoL,I.free⟩ f,by simpa using I.len⟩ ⟨_,f,.inl U⟩
  ·exact (f.2 b (gv (ie (d9 e) I.ok.above))).trans (I.base.keep b o e n C m)
  ·obtain ⟨sl,g⟩:=I.base.slot b o e n C m;exact ⟨sl,(f.2 b (gv (ie (d9 e) I.ok.above))).trans g⟩
  ·obtain ⟨Y,g⟩:=I.base.there b o e m;exact ⟨Y,(f.2 b (gv (ie (d9 e) I.ok.above))).trans g⟩
  ·by_cases D:j=i
   ·subst D;rw [F] at g;cases g;rw [FL AJ] at t;cases t;exact ⟨u,r,.inl ⟨B,by simp⟩⟩
   ·rw [Nk (aK D)] at t;obtain ⟨u',Z,q⟩:=hl j y v' g t O;refine ⟨u',Z,?_⟩;rcases q with ⟨k,e⟩ | ⟨k,c,e,z⟩
    ·refine .inl ⟨k,?_⟩;have:y≠x:=λe=>D (PQ hN g (e▸F));simp [this,e]
    ·exact .inr ⟨k,c,e,z.sameBut f (N y c e)⟩
  ·obtain ⟨L,z⟩:=I.cell y c e;exact ⟨L,z.sameBut f (N y c e)⟩
  ·obtain ⟨e,n,J,W,d⟩:=I.pin p T;exact ⟨(f.2 p.1 J).trans e,n,J,W,d⟩
 ·have R:X.fn x=true:=by
   rcases hf with z | z
   ·exact z
   ·rw [z] at B;cases B
  obtain ⟨c,l⟩:=I.ok.has x (.inl B);obtain ⟨L,z⟩:=I.cell x c l;refine wpAny_storeName_cell I.ok.kind B l z (λh' Vv f=>?_);obtain ⟨oc,Vg,L8⟩:=id z;refine h { s with heap:=h' } ⟨I.ok,I.os,I.bare,⟨λb o e n C m=>?_,λb o e n C m=>?_,I.base.free,λb o e m=>?_,I.base.fJ,I.base.gf,I.base.gB⟩,⟨x1,S.sameBut f (aK (N x c l)),λj y v' g t O=>?_⟩,λy G e=>?_,I.free,I.cq,λp T=>?_,tracked ⟨oc,Vg,I.cq x c l⟩ f,by simpa using I.len⟩ ⟨c,f,.inr l⟩
  ·exact (f.2 b (gv (ie (d9 e) (I.ok.sY x c R l)))).trans (I.base.keep b o e n C m)
  ·obtain ⟨sl,g⟩:=I.base.slot b o e n C m;exact ⟨sl,(f.2 b (gv (ie (d9 e) (I.ok.sY x c R l)))).trans g⟩
  ·obtain ⟨Y,g⟩:=I.base.there b o e m;exact ⟨Y,(f.2 b (gv (ie (d9 e) (I.ok.sY x c R l)))).trans g⟩
  ·by_cases D:j=i
   ·subst D;rw [F] at g;cases g;rw [FL AJ] at t;cases t;exact ⟨u,r,.inr ⟨.inl B,c,l,Vv⟩⟩
   ·rw [Nk (aK D)] at t;obtain ⟨u',Z,q⟩:=hl j y v' g t O;refine ⟨u',Z,?_⟩;rcases q with q | ⟨k,G,e,z'⟩
    ·exact .inl q
    ·refine .inr ⟨k,G,e,z'.sameBut f ?_⟩;rintro rfl;exact D (PQ hN g (I.ok.inj _ _ _ e l▸F))
  ·by_cases Vt:G=c
   ·subst Vt;exact ⟨_,Vv⟩
   ·obtain ⟨w2,z2⟩:=I.cell y G e;exact ⟨w2,z2.sameBut f Vt⟩
  ·obtain ⟨e,n,J,W,d⟩:=I.pin p T;refine ⟨(f.2 p.1 ?_).trans e,n,J,W,d⟩;intro q;rw [q,Vg] at e;have q':oc=p.2:=ft e;exact d L (by rw [<-q'];exact L8)
theorem C7 (I:Inv X pins σ H s) (b:X.N.Nodup) (d:X.N[i]?=some x) (e:Loc X.env.scope x) (r:bQ v u)
 (h:∀s',Inv X pins (σ.set i (some v)) H s'->Q () s') (c:autoParam (X.fn x=true\/X.env.scope.names.lookup x=some .local) t15._auto_1):wpAny M A (storeName X.env x u) Q E s:=
 Ra I b d e r (λs' a _=>h s' a) c
theorem Inv.ko (I:Inv X pins σ H s) (f:s'.os=s.os) (u:Un (gr X.stack) ch H H' s.heap s'.heap) (g:dq X.prog X.w H' s'.heap) (d:AllBare s'.gens)
 (a:∀b∈ch,(b∈X.ex\/X.bS.heap.objs.size<=b)/\b≠X.env.locals/\(∀x c,X.env.cells.lookup x=some c->c≠b)/\∀p∈X.pn++pins,p.1≠b):Inv X pins σ H' s':=by
 obtain ⟨i,g',d',t',h⟩:=s';have e:h=s.os:=f;subst e;exact I.call (g':=g') (t':=t') (d':=d') u g d a
end
abbrev XK:=Value->Option Addr->Hp->Prop
abbrev St:=List (Option V)
abbrev VK:=V->Hp->Prop
abbrev TE:=St->Hp->VK->Prop
abbrev TT:=St->Hp->(Bool->Hp->Prop)->Prop
abbrev TA:=St->Hp->(List V->Hp->Prop)->Prop
structure qR where
 nx:St->Hp->Prop
 rt:VK
 bk:St->Hp->Prop:=λ_ _=>False
 ct:St->Hp->Prop:=λ_ _=>False
noncomputable abbrev TS:=qR->St->Hp->Prop
theorem eQ {c d:Type} {p q r:c->d->Prop} {P:Prop} (h:∃a b,p a b/\q a b/\r a b) (k:∀a b,p a b->q a b->r a b->P):P:=by obtain ⟨a,b,x,y,z⟩:=h;exact k a b x y z
theorem VF {b:Type} {p q:b->Prop} {P:Prop} (h:∃a,p a/\q a) (k:∀a,p a->q a->P):P:=by obtain ⟨a,x,y⟩:=h;exact k a x y
def EP (X:Cx) (b:List (Addr×Obj)) (c:St) (Q:VK) (u:Value) (s':Shared):Prop:=∃v a,Inv X b c a s'/\bQ v u/\Q v a
def TP (X:Cx) (c:List (Addr×Obj)) (d:St) (Q:Bool->Hp->Prop) (b:Bool) (s':Shared):Prop:=∃a,Inv X c d a s'/\Q b a
def AP (X:Cx) (c:List (Addr×Obj)) (d:St) (Q:List V->Hp->Prop) (us:List Value) (s':Shared):Prop:=∃b a,Inv X c d a s'/\a_ b us/\Q b a
def SP (X:Cx) (c:List (Addr×Obj)) (D:qR) (f:Flow) (s':Shared):Prop:=
 match f with
 | .next=>∃b a,Inv X c b a s'/\D.nx b a
 | .brk=>∃b a,Inv X c b a s'/\D.bk b a
 | .cont=>∃b a,Inv X c b a s'/\D.ct b a
 | .ret u=>∃v b a,Inv X c b a s'/\bQ v u/\D.rt v a
def PE (X:Cx) (e:Expr) (t:TE):Prop:=
 ∀(b:List (Addr×Obj)) (s:Shared) (a:St) (H:Hp) (Q:VK),Inv X b a H s->t a H Q->wpAny (model X.prog X.w) X.A (eval e X.env) (EP X b a Q) X.xe s
def PT (X:Cx) (e:Expr) (t:TT):Prop:=
 ∀(b:List (Addr×Obj)) (s:Shared) (a:St) (H:Hp) (Q:Bool->Hp->Prop),Inv X b a H s->t a H Q->wpAny (model X.prog X.w) X.A (isTrue e X.env (eval e X.env)) (TP X b a Q) X.xe s
def PW (X:Cx) (e:Expr) (t:TT):Prop:=
 ∀(c:Sem Value) (b:List (Addr×Obj)) (s:Shared) (a:St) (H:Hp) (Q:Bool->Hp->Prop),Inv X b a H s->t a H Q->wpAny (model X.prog X.w) X.A (isTrue e X.env c) (TP X b a Q) X.xe s
theorem PW.pt (h:PW X e t):PT X e t:=h _
def PA (X:Cx) (c:List Expr) (t:TA):Prop:=
 ∀(d:Pos) (b:List (Addr×Obj)) (s:Shared) (a:St) (H:Hp) (Q:List V->Hp->Prop),Inv X b a H s->t a H Q->wpAny (model X.prog X.w) X.A (spliced (backTo d (starEach c X.env))) (AP X b a Q) X.xe s
def PS (X:Cx) (st:Stmt) (t:TS):Prop:=
 ∀(a:List (Addr×Obj)) (s:Shared) (b:St) (H:Hp) (D:qR),Inv X a b H s->t D b H->wpAny (model X.prog X.w) X.A (exec st X.env) (SP X a D) X.xe s
def eS (X:Cx) (st:List Stmt) (t:TS):Prop:=
 ∀(a:List (Addr×Obj)) (s:Shared) (b:St) (H:Hp) (D:qR),Inv X a b H s->t D b H->wpAny (model X.prog X.w) X.A (execs st X.env) (SP X a D) X.xe s
theorem ax (h:wpAny M A t Q E s) (b:∀a s,Q a s->C a s):wpAny M A t C E s:=gS h b λ_ _ x=>x
section
def gm (i:Nat):TE:=λa H Q=>∃v,a[i]?=some (some v)/\Q v H
def tC (v:V):TE:=λ_ H Q=>Q v H
theorem zD3 (j:X.N[i]?=some x) (q:GQ X.env.scope x) (d:autoParam ((x==("__debug__":Str))=false) t12._auto_1) (k:autoParam ((x==("__classdict__":Str))=false) t12._auto_1):PE X (.Name x pos) (gm i):=by
 intro t s y H Q I h;obtain ⟨v,e,h⟩:=h;obtain ⟨m,p,n⟩:=I.loc;obtain ⟨u,r,l⟩:=n i x v j e q;have b:EP X t y Q u s:=⟨v,H,I,r,h⟩;rcases l with ⟨a,o⟩ | ⟨a,c,f,g⟩
 ·exact wpAny_Name (wpAny_loadName_local I.ok.kind a p o b) d
 ·rcases a with a | a
  ·exact wpAny_Name (wpAny_loadName_cell I.ok.kind a f g b) d
  ·exact wpAny_Name (wpAny_loadName_free I.ok.kind a f g b k) d
theorem a7 {i j pos}:PE X (.Constant (.int i) j pos) (tC (.int i)):=λ_ _ _ H _ I h=>wpAny_Constant_int ⟨.int i,H,I.tok _,⟨_,U⟩,h⟩
theorem uU {b j pos}:PE X (.Constant (.bool b) j pos) (tC (.bl b)):=λ_ _ _ H _ I h=>Constant_bool ⟨.bl b,H,I,U,h⟩
theorem iI {j pos}:PE X (.Constant .none j pos) (tC .aG):=λ_ _ _ H _ I h=>Constant_none ⟨.aG,H,I,U,h⟩
theorem dY {x j pos}:PE X (.Constant (.str x) j pos) (tC (.str x)):=λ_ _ _ H _ I h=>Calls.Constant_str ⟨.str x,H,I.tok _,⟨_,U⟩,h⟩
def Gl (X:Cx) (x:Str):Prop:=X.env.kindOf x=some .globalImplicit
theorem rj (I:Inv X pins σ H s) (b:Gl X x) (c:X.mg x=some u) (h:Q u s)
 (a:autoParam ((x==("__debug__":Str))=false) t12._auto_1):wpAny (model X.prog X.w) X.A (eval (.Name x pos) X.env) Q E s:=
 V' I.ok.kind b (Calls.loadGlobal_global (by rw [I.ok.glob];exact I.mod.glob.keeps I.bk) c h) a
theorem xF (I:Inv X pins σ H s) (d:Gl X x) (e:X.mg x=none) (g:bootBuiltins x=some u) (h:Q u s)
 (f:autoParam (x≠"__name__") t12._auto_1) (c:autoParam ((x==("__debug__":Str))=false) t12._auto_1):wpAny (model X.prog X.w) X.A (eval (.Name x pos) X.env) Q E s:=by
 obtain ⟨i,a,b⟩:=I.mod.blt;exact V' I.ok.kind d (Calls.loadGlobal_builtin (by rw [I.ok.glob];exact I.mod.glob.keeps I.bk) e (by rw [I.ok.blt];exact a.keeps I.bk) ((b x f).trans g) h) c
theorem oV (b:Gl X x) (c:X.mg x=some u) (r:bQ v u) (a:autoParam ((x==("__debug__":Str))=false) t12._auto_1):PE X (.Name x pos) (tC v):=
 λ_ _ _ H _ I h=>rj I b c ⟨v,H,I,r,h⟩ a
theorem zBr (b:Gl X x) (c:X.mg x=none) (e:bootBuiltins x=some u) (r:bQ v u) (d:autoParam (x≠"__name__") t12._auto_1) (a:autoParam ((x==("__debug__":Str))=false) t12._auto_1):PE X (.Name x pos) (tC v):=
 λ_ _ _ H _ I h=>xF I b c e ⟨v,H,I,r,h⟩ d a
def PC (X:Cx) (e:CmpOp) (a b:Expr) (t:TE):Prop:=
 ∀(d:List (Addr×Obj)) (s:Shared) (c:St) (H:Hp) (Q:VK),Inv X d c H s->t c H Q->
  wpAny (model X.prog X.w) X.A (eval a X.env) (λv f=>wpAny (model X.prog X.w) X.A (eval b X.env) (λu g=>wpAny (model X.prog X.w) X.A (compareOp e v u) (EP X d c Q) X.xe g) X.xe f) X.xe s
def tB (t:TE):TT:=λb H Q=>t b H λx a=>∃c,x=.bl c/\Q c a
theorem tL (h:PC X op a b t) (e:behindInMarks op b=false:=by first | exact C _ (by decide) (by decide) | rfl):PT X (.Compare a [op] [b] pos) (tB t):=by intro k s o H Q I j;refine wpAny_isTrue_Compare1 (ax (h k s o H _ I j) λv p e=>ax e λu r i=>ax i λc y n=>?_) e;obtain ⟨x,f,g,m,l⟩:=n;obtain ⟨d,rfl,q⟩:=l;cases m;exact oH ⟨f,g,q⟩
theorem qx (h:PE X e t) (f:autoParam (∀a,isTrue e X.env a=(do let v <-a;standAt e.pos;holding [v] (truthy v))) t14._auto_1):PT X e (tB t):=by intro i s m H Q I g;refine isTrue_plain (ax (h i s m H _ I g) λv n l=>?_) (f _);obtain ⟨x,b,c,k,j⟩:=l;obtain ⟨d,rfl,q⟩:=j;cases k;exact oH ⟨b,c,q⟩
variable {rest:List Expr}
def Ô (t u:TT):TT:=λb H Q=>t b H λc a=>if c=true then u b a Q else Q false a
def tOr (t u:TT):TT:=λb H Q=>t b H λc a=>if c=true then Q true a else u b a Q
def Û (t:TT):TT:=λb H Q=>t b H λc a=>Q (!c) a
theorem ro (b:PT X a tA):PW X (.BoolOp .And [a] pos) tA:=by
 intro i d s f H Q I h;refine isTrue_and (ax (b d s f H Q I h) λc g e=>?_)
 cases c with
 | true=>exact isTrue_and_nil e
 | false=>exact e
theorem rf (b:PT X a tA):PW X (.BoolOp .Or [a] pos) tA:=by
 intro i d s f H Q I h;refine isTrue_or (ax (b d s f H Q I h) λc g e=>?_)
 cases c with
 | false=>exact isTrue_or_nil e
 | true=>exact e
theorem oT (j:PT X a C) (k:PW X (.BoolOp .And (b::rest) pos) J):PW X (.BoolOp .And (a::b::rest) pos) (Ô C J):=by
 intro m f s i H Q I h;refine isTrue_and (ax (j f s i H _ I h) λc l n=>?_);obtain ⟨d,e,g⟩:=n
 cases c with
 | true=>exact k m f l i d Q e g
 | false=>exact ⟨d,e,g⟩
theorem o6 (j:PT X a C) (k:PW X (.BoolOp .Or (b::rest) pos) J):PW X (.BoolOp .Or (a::b::rest) pos) (tOr C J):=by
 intro m f s i H Q I h;refine isTrue_or (ax (j f s i H _ I h) λc l n=>?_);obtain ⟨d,e,g⟩:=n
 cases c with
 | true=>exact ⟨d,e,g⟩
 | false=>exact k m f l i d Q e g
theorem rb (d:PT X a C):PT X (.UnaryOp .Not a pos) (Û C):=by intro e s f H Q I h;exact isTrue_not (d e s f H (λc b=>Q (!c) b) I h)
def þ (d e:TE):TE:=λb H Q=>d b H λx a=>∃c,x=.bl c/\if c=true then e b a Q else Q (.bl false) a
def Ü (d e:TE):TE:=λb H Q=>d b H λx a=>∃c,x=.bl c/\if c=true then Q (.bl true) a else e b a Q
theorem q_ {op} (h:PE X a t):PE X (.BoolOp op [a] pos) t:=λc s d H Q I b=>BoolOp_one (h c s d H Q I b)
theorem qZ (j:PE X a ta) (k:PE X (.BoolOp .And (b::rest) pos) C):PE X (.BoolOp .And (a::b::rest) pos) (þ ta C):=by
 intro g s i H Q I h;refine BoolOp_and (ax (j g s i H _ I h) λv m n=>?_);obtain ⟨x,e,f,l,d⟩:=n;obtain ⟨c,rfl,d⟩:=d;cases l;refine oH ?_
 cases c with
 | true=>exact k g m i e Q f d
 | false=>exact ⟨.bl false,e,f,U,d⟩
theorem Tf (j:PE X a ta) (k:PE X (.BoolOp .Or (b::rest) pos) C):PE X (.BoolOp .Or (a::b::rest) pos) (Ü ta C):=by
 intro g s i H Q I h;refine BoolOp_or (ax (j g s i H _ I h) λv m n=>?_);obtain ⟨x,e,f,l,d⟩:=n;obtain ⟨c,rfl,d⟩:=d;cases l;refine oH ?_
 cases c with
 | false=>exact k g m i e Q f d
 | true=>exact ⟨.bl true,e,f,U,d⟩
def tIf (t:TT) (d e:TE):TE:=λa H Q=>t a H λc b=>if c=true then d a b Q else e a b Q
theorem WY (n:PT X c C) (l:PE X a ta) (m:PE X b J):PE X (.IfExp c a b pos) (tIf C ta J):=by
 intro e s f H Q I h;refine wpAny_IfExp (ax (n e s f H _ I h) λd k o=>?_);obtain ⟨g,i,j⟩:=o
 cases d with
 | true=>exact l e k f g Q i j
 | false=>exact m e k f g Q i j
end
def ar (K:aO) (H:Hp) (a:Addr) (xs:List V):Prop:=
 Rd H a (.lst xs)\/
  ∃(o:Obj) (b:Array Value) (n:Nat),K.lookup a=some o/\o.cls=.type "list"/\o.dict=none/\o.data=.seq b n/\b.size<=sizeLine/\a_ xs b.toList
def dB (K:aO) (H:Hp) (a:Addr) (xs:List V):Prop:=
 Rd H a (.tup xs)\/
  ∃(o:Obj) (b:Array Value) (n:Nat),K.lookup a=some o/\o.cls=.type "tuple"/\o.data=.seq b n/\b.size<=sizeLine/\a_ xs b.toList
def Z6:Value->Option V
 | .none=>some .aG
 | .bool b=>some (.bl b)
 | .int i _=>some (.int i)
 | .str x _=>some (.str x)
 | .bytes b _=>some (.lY b)
 | .float b _=>some (.wO b)
 | .ref a=>some (.ref a)
 | .type n=>some (.ty n)
 | _=>none
theorem bQ.abs (r:bQ x u):Z6 u=some x:=by
 cases x with
 | aG=>cases r;rfl
 | bl _=>cases r;rfl
 | int _=>obtain ⟨t,rfl⟩:=r;rfl
 | str _=>obtain ⟨t,rfl⟩:=r;rfl
 | lY _=>obtain ⟨t,rfl⟩:=r;rfl
 | wO _=>obtain ⟨t,rfl⟩:=r;rfl
 | ref _=>cases r;rfl
 | ty _=>cases r;rfl
theorem bQ.inj (r:bQ x u) (q:bQ y u):x=y:=ft (r.abs.symm.trans q.abs)
theorem a_.inj {xs ys:List V} {us:List Value} (h:a_ xs us) (h':a_ ys us):xs=ys:=by
 induction h generalizing ys with
 | nil=>cases h';rfl
 | cons r t a=>
  cases h' with
  | cons b c=>rw [r.inj b,a c]
section
theorem ar.of (h:H a=some (.lst xs)):ar K H a xs:=.inl (.inl h)
theorem dB.of (h:H a=some (.tup xs)):dB K H a xs:=.inl (.inl h)
theorem Inv.list (I:Inv X pins σ H s) (h:ar X.K H a xs):∃its:List Value,a_ xs its/\PlainL s.heap a its.toArray/\xs.length<=sizeLine:=by
 rcases h with h | ⟨o,its,n,d,b,c,f,g,r⟩
 ·obtain ⟨z,its,n,r,e⟩:=h.ok I.aA;exact ⟨its,r,⟨_,n,e,U,U,U⟩,z⟩
 ·refine ⟨its.toList,r,⟨o,n,I.fj a o d,b,c,by simpa using f⟩,?_⟩;have e:=r.length;simp only [qg] at e;exact zev e g
theorem Inv.tuple (I:Inv X pins σ H s) (h:dB X.K H a xs):∃its:List Value,a_ xs its/\IsTup s.heap a its.toArray/\xs.length<=sizeLine:=by
 rcases h with h | ⟨o,its,n,c,b,d,f,r⟩
 ·obtain ⟨z,its,r,p⟩:=h.ok I.aA;exact ⟨its,r,p,z⟩
 ·refine ⟨its.toList,r,⟨o,I.fj a o c,b,n,by simpa using d⟩,?_⟩;have e:=r.length;simp only [qg] at e;exact zev e f
theorem Inv.pN (I:Inv X pins σ H s) (h:ar X.K H a xs) (h':ar X.K H a ys):xs=ys:=by
 obtain ⟨g,r,⟨o,n,e,_,_,d⟩,_⟩:=I.list h;obtain ⟨its',i,⟨k,j,c,_,_,b⟩,_⟩:=I.list h';rw [e] at c;cases c;rw [d] at b
 injection b with f _
 have:g=its':=by simpa using congrArg Array.toList f
 subst this;exact r.inj i
theorem Inv.nz (I:Inv X pins σ H s) (h:dB X.K H a xs) (h':dB X.K H a ys):xs=ys:=by
 obtain ⟨g,r,⟨o,e,_,n,d⟩,_⟩:=I.tuple h;obtain ⟨its',i,⟨k,c,_,j,b⟩,_⟩:=I.tuple h';rw [e] at c;cases c;rw [d] at b
 injection b with f _
 have:g=its':=by simpa using congrArg Array.toList f
 subst this;exact r.inj i
end
noncomputable abbrev Cx.ir (X:Cx) (E:Value->Shared->Prop):Cx:={ X with xe:=E }
noncomputable abbrev Cx.uk (X:Cx):Cx:=X.ir λ_ _=>False
theorem Cx.Ok.ir {X:Cx} (ok:X.Ok) (E:Value->Shared->Prop):(X.ir E).Ok:=
 ⟨ok.mod,ok.kind,ok.glob,ok.blt,ok.above,ok.inj,ok.has,ok.sY,ok.hd,ok.frames,ok.ug,ok.yG,ok.bs,ok.mV,ok.jw,ok.j5,ok.eM,ok.oa⟩
theorem Cx.Ok.dv {X:Cx} {E:Value->Shared->Prop} (ok:(X.ir E).Ok):X.Ok:=
 ⟨ok.mod,ok.kind,ok.glob,ok.blt,ok.above,ok.inj,ok.has,ok.sY,ok.hd,ok.frames,ok.ug,ok.yG,ok.bs,ok.mV,ok.jw,ok.j5,ok.eM,ok.oa⟩
section
theorem Inv.ir (I:Inv X pins σ H s) (E:Value->Shared->Prop):Inv (X.ir E) pins σ H s:=⟨I.ok.ir E,I.os,I.bare,I.base,I.loc,I.cell,I.free,I.cq,I.pin,I.aA,I.len⟩
theorem Inv.dv (I:Inv (X.ir E) pins σ H s):Inv X pins σ H s:=⟨I.ok.dv,I.os,I.bare,I.base,I.loc,I.cell,I.free,I.cq,I.pin,I.aA,I.len⟩
theorem SP.dv (h:SP (X.ir E) pins D f s'):SP X pins D f s':=by
 cases f with
 | next=>obtain ⟨b,a,I,q⟩:=h;exact ⟨b,a,I.dv,q⟩
 | brk=>obtain ⟨b,a,I,q⟩:=h;exact ⟨b,a,I.dv,q⟩
 | cont=>obtain ⟨b,a,I,q⟩:=h;exact ⟨b,a,I.dv,q⟩
 | ret u=>obtain ⟨v,b,a,I,r,q⟩:=h;exact ⟨v,b,a,I.dv,r,q⟩
theorem eS.uk {st:List Stmt} {t:TS} (h:eS X.uk st t):eS X st t:=λb s c H D I a=>
 gS (h b s c H D (I.ir _) a) (λ_ _ q=>q.dv) λ_ _ z=>iB z
end
section
variable {st:Stmt} {rest:List Stmt}
def ώ:TS:=λD a H=>D.nx a H
def Þ (t u:TS):TS:=λD a H=>t { D with nx:=u D } a H
theorem d8:eS X [] ώ:=λ_ _ a H _ I h=>yR ⟨a,H,I,h⟩
theorem cv (d:PS X st t) (e:eS X rest u):eS X (st::rest) (Þ t u):=by
 intro a s i H D I h;refine wpAny_execs_cons (ax (d a s i H { D with nx:=u D } I h) λf g q=>?_)
 cases f with
 | next=>
  obtain ⟨j,b,c,q⟩:=q;exact e a g j b D c q
 | ret v=>exact q
 | brk=>exact q
 | cont=>exact q
theorem au (a:PS X st t):eS X [st] t:=by
 intro b s c H D I h;refine wpAny_execs_cons (ax (a b s c H D I h) λf d q=>?_)
 cases f with
 | next=>exact yR q
 | ret v=>exact q
 | brk=>exact q
 | cont=>exact q
theorem Inv.quiet (I:Inv X pins σ H s):interactive X.env=false:=by simp [interactive,I.ok.kind]
def ό (c:TE):TS:=λD a H=>c a H λ_ b=>D.nx a b
theorem e_ (d:PE X e C) (f:autoParam (swapsWith e none pos.line X.env=pure false) t10._auto_1):PS X (.Expr e pos) (ό C):=by intro g s a H D I h;exact wpAny_Expr_any (ax (d g s a H _ I h) λv l j=>L2.eQ j λx b c k i=>⟨a,b,c,i⟩) I.quiet f
def Ý (a:TE):TS:=λD b H=>a b H D.rt
theorem cg (d:PE X e C):PS X (.Return (some e) pos) (Ý C):=by intro f s a H D I h;exact wpAny_Return_some (ax (d f s a H _ I h) λv k j=>L2.eQ j λx b c i g=>⟨x,a,b,c,i,g⟩)
def Ù (c:TT) (t u:TS):TS:=λD a H=>c a H λb d=>if b=true then t D a d else u D a d
theorem dr (n:PT X c tc) (l:eS X a t) (m:eS X b u):PS X (.If c a b pos) (Ù tc t u):=by
 intro e s f H D I h;refine wpAny_If (ax (n e s f H _ I h) λd k o=>?_);obtain ⟨g,i,j⟩:=o
 cases d with
 | true=>exact l e k f g D i j
 | false=>exact m e k f g D i j
def O2:TS:=λ_ _ _=>False
theorem Xy:PS X st O2:=λ_ _ _ _ _ _ h=>h.elim
theorem vr:eS X C O2:=λ_ _ _ _ _ _ h=>h.elim
end
abbrev TG:=V->St->Hp->(St->Hp->Prop)->Prop
abbrev BG:=List V->St->Hp->(St->Hp->Prop)->Prop
def PG (X:Cx) (f:Expr) (t:TG):Prop:=
 ∀(b:List (Addr×Obj)) (s:Shared) (c:St) (H:Hp) (v:V) (u:Value) (Q:St->Hp->Prop),Inv X b c H s->bQ v u->t v c H Q->
  wpAny (model X.prog X.w) X.A (assign f X.env u) (λ_ e=>∃d a,Inv X b d a e/\Q d a) X.xe s
def me (X:Cx) (h:List Expr) (t:BG):Prop:=
 ∀(b:List (Addr×Obj)) (s:Shared) (e:St) (H:Hp) (d:List V) (c:List Value) (Q:St->Hp->Prop),Inv X b e H s->a_ d c->t d e H Q->
  wpAny (model X.prog X.w) X.A (assignInOrder ((assignEach h X.env).map (·.2)) c) (λ_ g=>∃f a,Inv X b f a g/\Q f a) X.xe s
abbrev Sq:=V->V->V->Hp->(Hp->Prop)->Prop
def So (X:Cx) (t:Sq):Prop:=
 ∀(d:List (Addr×Obj)) (s:Shared) (e:St) (H:Hp) (o i v:V) (c b u:Value) (Q:Hp->Prop),Inv X d e H s->bQ o c->bQ i b->bQ v u->t o i v H Q->
  wpAny (model X.prog X.w) X.A (setItem c b u) (λ_ f=>∃a,Inv X d e a f/\Q a) X.xe s
abbrev NC:=V->V->Hp->VK->Prop
def Wj (X:Cx) (c:Operator) (t:NC):Prop:=
 ∀(a:List (Addr×Obj)) (s:Shared) (b:St) (H:Hp) (x y:V) (v u:Value) (Q:VK),Inv X a b H s->bQ x v->bQ y u->t x y H Q->
  wpAny (model X.prog X.w) X.A (inplaceOp c v u) (EP X a b Q) X.xe s
section
def uQ (i:Nat):TG:=λv a H Q=>Q (a.set i (some v)) H
theorem Pp (b:X.N.Nodup) (d:X.N[i]?=some x) (e:Loc X.env.scope x) (c:autoParam (X.fn x=true\/X.env.scope.names.lookup x=some .local) t15._auto_1):PG X (.Name x pos) (uQ i):=by intro f s j H v u Q I r h;exact wpAny_assign_Name (C7 I b d e r (λg a=>⟨_,H,a,h⟩) c)
def Ë:BG:=λa b H Q=>a=[]/\Q b H
def ô (t:TG) (u:BG):BG:=λb c H Q=>∃v r,b=v::r/\t v c H λd a=>u r d a Q
theorem tQ:me X [] Ë:=by intro b s a H d c Q I r h;obtain ⟨e,h⟩:=h;subst e;cases r;exact assignInOrder_nil ⟨a,H,I,h⟩
theorem g9 (f:PG X e t) (g:me X C u)
 (i:autoParam ((assignEach (e::C) X.env).map (·.2)=assign e X.env::(assignEach C X.env).map (·.2)) t10._auto_1):me X (e::C) (ô t u):=by
 intro a s n H x p Q I r h;obtain ⟨v,q,d,h⟩:=h;subst d
 cases r with
 | cons r k=>
  rw [i];refine assignInOrder_cons (ax (f a s n H _ _ _ I r h) λ_ l m=>?_);obtain ⟨o,b,c,j⟩:=m;exact g a l o b _ _ Q c k j
def Sr (K:aO) (n:Nat) (t:BG):TG:=λv c H Q=>∃a b,v=.ref a/\dB K H a b/\b.length=n/\t b c H Q
theorem uX (m:X.calm=true) (h:me X C t)
 (q:autoParam ((assignEach C X.env).length=n) t10._auto_1) (y:autoParam ((assignEach C X.env).findIdx? (·.1)=none) t10._auto_1):PG X (.Tuple C k pos) (Sr X.K n t):=by
 intro d s g H v u Q I r c;obtain ⟨a,B,j,x,p,c⟩:=c;subst j;cases r;obtain ⟨E,f,z,D⟩:=I.tuple x;refine assign_Tuple_tuple (I.ok.hd m) z (by simp [q,<-p,f.length]) y λl A=>?_;have i:Inv X d g H { s with heap:=l }:=I.kept (t':=s.toks) λb o e=>A b o (gv (d9 e)) e;exact h d _ g H B _ Q i (by simpa using f) c
def Ì (f e:TE) (t:Sq):TG:=λv a H Q=>f a H λo b=>e a b λi c=>t o i v c λd=>Q a d
theorem Hw (q:PE X o to) (p:PE X i J) (z:So X t)
 (n:autoParam (∀v,assign (.Subscript o i pos) X.env v=(do
  let a <-holding [v] (eval o X.env)
  let b <-holding [v,a] (eval i X.env)
  standAt pos
  holding [v,a,b] (setItem a b v)
  release [v,a,b] [])) t14._auto_1):PG X (.Subscript o i pos) (Ì to J t):=by
 intro e s d H v u Q I r h;rw [n];refine ae (kX (ax (q e s d H _ I h) λa F c=>?_));obtain ⟨x,f,k,D,A⟩:=c;refine ae (kX (ax (p e F d f _ k A) λb G c=>?_));obtain ⟨y,g,l,E,B⟩:=c;refine ae (B4 (ae (kX (ax (z e G d g x y v a b u _ l D E r B) λ_ L c=>?_))));obtain ⟨j,m,C⟩:=c;exact wpAny_release ⟨d,j,m,C⟩
def Ag (c:TE) (g:TG):TS:=λD a H=>c a H λx b=>g x a b D.nx
theorem Hy (i:PE X e C) (j:PG X tg g) (k:autoParam (swapsWithSole [tg] e pos.line X.env=pure false) t10._auto_1) (hw:autoParam (swappedStores [tg] e X.env=pure none) t10._auto_1)
 (f:autoParam ((assignEach [tg] X.env).map (·.2)=[assign tg X.env]) t10._auto_1):PS X (.Assign [tg] e pos) (Ag C g):=by
 intro a s b H D I h;refine wpAny_Assign_stores (ax (i a s b H _ I h) λv n o=>?_) k hw;obtain ⟨x,c,d,m,l⟩:=o;rw [f];exact ax (j a n b c x v _ d m l) λ_ p q=>q
theorem ra (d:X.N.Nodup) (j:X.N[i]?=some x) (l:Loc X.env.scope x) (f:PE X e C) (k:autoParam (swapsWith e (some (.Name x pos')) pos.line X.env=pure false) t10._auto_1) (g:autoParam (X.fn x=true\/X.env.scope.names.lookup x=some .local) t15._auto_1):
 PS X (.Assign [.Name x pos'] e pos) (Ag C (uQ i)):=by
 intro m s q H D I h;refine wpAny_Assign_Name (ax (f m s q H _ I h) λv r p=>?_) k;obtain ⟨y,a,b,o,n⟩:=p;exact C7 b d j l o (λt c=>⟨_,a,c,n⟩) g
def Õ (i:Nat) (d:TE) (e:NC):TS:=λD a H=>∃x,a[i]?=some (some x)/\d a H λy b=>e x y b λz c=>D.nx (a.set i (some z)) c
theorem Hz (A:X.N.Nodup) (j:X.N[i]?=some x) (b:Loc X.env.scope x) (E:PE X e te) (M:Wj X op ti) (F:autoParam (X.fn x=true\/X.env.scope.names.lookup x=some .local) t15._auto_1):
 PS X (.AugAssign (.Name x pos') op e pos) (Õ i te ti):=by
 intro d s m H D I h;obtain ⟨v,z,h⟩:=h;obtain ⟨x1,L,G⟩:=I.loc;have W:GQ X.env.scope x:=by rcases b with k | k;exact .inl k;exact .inr (.inl k)
 obtain ⟨u,r,l⟩:=G i x v j z W;refine wpAny_AugAssign_Name ?_;have g:wpAny (model X.prog X.w) X.A (eval e X.env) (λw T=>wpAny (model X.prog X.w) X.A (inplaceOp op u w) (λr V=>wpAny (model X.prog X.w) X.A (storeName X.env x r) (λ_=>SP X d D .next) X.xe V) X.xe T) X.xe s:=by refine ax (E d s m H _ I h) λw S f=>?_;obtain ⟨y,n,p,Q,N⟩:=f;refine ax (M d S m n v y u w _ p r Q N) λx2 s2 f=>?_;obtain ⟨zv,o,q,R,O⟩:=f;exact C7 q A j b R (λs3 t=>⟨_,o,t,O⟩) F
 rcases l with ⟨a,J⟩ | ⟨a,c,B,C⟩
 ·exact wpAny_loadName_local I.ok.kind a L J g
 ·rcases a with a | a
  ·exact wpAny_loadName_cell I.ok.kind a B C g
  ·rcases b with k | k
   ·have:X.env.scope.names.lookup x=some .free:=a;rw [k] at this;cases this
   ·have:X.env.scope.names.lookup x=some .free:=a;rw [k] at this;cases this
def ipI (f:Int->Int->Int):NC:=λx y H Q=>∃i j,x=.int i/\y=.int j/\Q (.int (f i j)) H
theorem Hq:Wj X .Add (ipI λi j=>i+j):=by intro e s g H x y v u Q I c d h;obtain ⟨i,j,a,b,q⟩:=h;subst a;subst b;obtain ⟨t,rfl⟩:=c;obtain ⟨f,rfl⟩:=d;exact iadd_int ⟨.int _,H,I.tok _,⟨_,U⟩,q⟩
end
section
noncomputable def ϶ (c:TT) (h:TS):TS:=λD a H=>∃W:Nat->St->Hp->Prop,(∃m,W m a H)/\∀m a H,W m a H->
 c a H λb e=>if b=true then ∃N:St->Hp->Prop,(∀g d,N g d->∃f,f<m/\W f g d)/\h { D with nx:=N,ct:=N,bk:=D.nx } a e else D.nx a e
theorem PY (y:PassesOwn (model X.prog X.w) X.A X.env X.xe) (C:PT X c tc) (B:eS X body tb):PS X (.While c body [] pos) (϶ tc tb):=by
 intro o s R H D I h;obtain ⟨W,⟨E,M⟩,L⟩:=h;refine wpAny_While (codeAny_whileLoop (λn F=>∃z q,Inv X o z q F/\W n z q) ?_ E ⟨R,H,I,M⟩);rintro n G ⟨i,r,A,O⟩;refine w_ y (ax (C o G i r _ A (L n i r O)) λb J Q=>?_);obtain ⟨t,u,e⟩:=Q
 cases b with
 | true=>
  obtain ⟨N,x,e⟩:=e;rw [if_pos rfl];refine w_ y (ax (B o J i t _ u e) λf S g=>?_)
  cases f with
  | next=>
   obtain ⟨d,a,j,m⟩:=g;obtain ⟨l,k,p⟩:=x d a m;exact ⟨l,k,d,a,j,p⟩
  | cont=>
   obtain ⟨d,a,j,m⟩:=g;obtain ⟨l,k,p⟩:=x d a m;exact ⟨l,k,d,a,j,p⟩
  | brk=>exact g
  | ret v=>exact g
 | false=>
  rw [if_neg dX];exact yR ⟨i,t,u,e⟩
end
structure It where
 go:Nat->Hp->Prop
 ub:Nat->Hp->V->Hp->Prop
 stop:Nat->Hp->Prop
def ql (X:Cx) (a:List (Addr×Obj)) (H:Hp) (b:Addr):Prop:=
 H b=none/\b≠X.env.locals/\b∉X.fs/\(b∈X.ex\/X.bS.heap.objs.size<=b)/\(∀x c,X.env.cells.lookup x=some c->c≠b)/\∀p∈X.pn++a,p.1≠b
theorem Inv.oe (I:Inv X pins σ H s) (a:s.heap.objs.size<=b) (d:H' b=none):ql X pins H' b:=by
 refine ⟨d,wZ (ie I.lt a),I.KH a,.inr (cP I.sz a),λx c e z=>?_,λp f z=>?_⟩
 ·obtain ⟨v,q⟩:=I.cell x c e;exact absurd (ie q.lt (by rw [z];exact a)) (jA _)
 ·exact absurd (ie (d9 (I.pin p f).1) (by rw [z];exact a)) (jA _)
def SJ (X:Cx):Prop:=X.A.handled=none\/∃(a C:Addr) (b:Option Addr) (t c:Value) (u:HO),X.A.handled=some (.ref a)/\X.gk a=some (.dh (cX C b t c) u)
noncomputable def mr (X:Cx):Prop:=X.calm=true\/SJ X
theorem xu (q:mr X) (I:Inv X pins σ H s):Hd X.A s.heap:=by
 rcases q with q | q | ⟨a,C,b,t,c,u,q,e⟩
 ·exact .inl (I.ok.hd q)
 ·exact .inl q
 ·exact .inr ⟨a,C,b,t,c,q,(I.aA a _ (I.base.gf a _ _ e)).1⟩
theorem mr.in_ (q:mr X) (I:Inv X pins σ H s) (d:Y.calm=X.calm) (b:Y.A.handled=X.A.handled) (f:∀a o u,H a=some (.dh o u)->Y.gk a=some (.dh o u)):mr Y:=by
 rcases q with q | q | ⟨a,C,c,t,g,u,q,e⟩
 ·exact .inl (d.trans q)
 ·exact .inr (.inl (b.trans q))
 ·exact .inr (.inr ⟨a,C,c,t,g,u,b.trans q,f _ _ _ (I.base.gf a _ _ e)⟩)
structure tY (P:Program) (w:World) (K:aO) (tg:Expr) (J:It) (fp:List Addr) (it:Addr) (tn:Nat->Heap->Prop):Prop where
 mem:it∈fp
 obj:∀i h,tn i h->∀b∈fp,∃o,h.get? b=some o/\∀v,o.data≠.cell v
 keep:∀i h h',tn i h->(∀b∈fp,∀o,h.get? b=some o->h'.get? b=some o)->tn i h'
 item:∀(X:Cx),X.prog=P->X.w=w->X.K=K->mr X->∀(i:Nat) (pins:List (Addr×Obj)) (s:Shared) (σ:St) (H:Hp) (E:Value->Shared->Prop),Inv X pins σ H s->(∀b∈fp,ql X pins H b)->tn i s.heap->J.go i H->
  wpAny (model P w) X.A (pyNext (.ref it)) (λr s1=>∃u,r=some u/\
   wpAny (model P w) X.A (letOwnedTupleGo tg (.ref it) u) (λ_ s2=>∃x H',Inv X pins σ H' s2/\bQ x u/\J.ub i H x H'/\tn (i+1) s2.heap/\∀b∈fp,H' b=none) E s1) E s
 done:∀(X:Cx),X.prog=P->X.w=w->X.K=K->mr X->∀(i:Nat) (pins:List (Addr×Obj)) (s:Shared) (σ:St) (H:Hp) (E:Value->Shared->Prop),Inv X pins σ H s->(∀b∈fp,ql X pins H b)->tn i s.heap->J.stop i H->
  wpAny (model P w) X.A (pyNext (.ref it)) (λr s1=>r=none/\Inv X pins σ H s1) E s
 self:∀(A:Around) (i:Nat) (s:Shared) (Q:Value->Shared->Prop) (E:Value->Shared->Prop),tn i s.heap->Q (.ref it) s->wpAny (model P w) A (pyIter (.ref it)) Q E s
abbrev TI:=St->Hp->(It->Hp->Prop)->Prop
def Wk (X:Cx) (e:List (Addr×Obj)) (j:St) (i:Expr) (R:It->Hp->Prop) (h:Value) (f:Shared):Prop:=
 ∃(d:Addr) (c:List Addr) (g:Nat->Heap->Prop) (J:It) (a:Hp),h=.ref d/\Inv X e j a f/\tY X.prog X.w X.K i J c d g/\g 0 f.heap/\(∀b∈c,ql X e a b)/\R J a
def PI (X:Cx) (e c:Expr) (f:TI):Prop:=
 ∀(b:List (Addr×Obj)) (s:Shared) (a:St) (H:Hp) (R:It->Hp->Prop),Inv X b a H s->f a H R->
  wpAny (model X.prog X.w) X.A (eval c X.env) (λv d=>wpAny (model X.prog X.w) X.A (pyIter v) (Wk X b a e R) X.xe d) X.xe s
theorem BW (e:s.heap.get? it=some o) (b:o.cls=.type n) (c:o.data=.fields vs)
 (d:["enumerate","zip","dict_itemiterator","dict_reverseitemiterator","odict_iterator","itertools.zip_longest","itertools.pairwise"].contains n=false) (a:Q () s):wpAny M A (letOwnedTupleGo tg (.ref it) u) Q E s:=by
 unfold letOwnedTupleGo;cases tg<;>first
  | exact aJ a
  | (cases u<;>first
   | exact aJ a
   | (refine ae (wpAny_load e ?_)
      rw [b,c];show wpAny M A (if (["enumerate","zip","dict_itemiterator","dict_reverseitemiterator","odict_iterator","itertools.zip_longest","itertools.pairwise"].contains n && vs[0]?==some (rawInt _))=true then _ else _) Q E s;rw [if_neg (by intro h;rw [d,Bool.false_and] at h;cases h)];exact aJ a))
noncomputable def ze (K:aO) (a:Addr):It:=
 ⟨λi H=>∃b x,ar K H a b/\b[i]?=some x,λi H x c=>c=H/\∀b,ar K H a b->b[i]?=some x,λi H=>∃b,ar K H a b/\b.length<=i⟩
noncomputable def zd (K:aO) (a:Addr):It:=
 ⟨λi H=>∃b x,dB K H a b/\b[i]?=some x,λi H x c=>c=H/\∀b,dB K H a b->b[i]?=some x,λi H=>∃b,dB K H a b/\b.length<=i⟩
noncomputable def uN (b:Int) (n:Nat):It:=⟨λi _=>i<n,λi H x a=>a=H/\x=.int (b+i),λi _=>n<=i⟩
theorem Y6 {tg:Expr} (a it:Addr):tY P w K tg (ze K a) [it] it (λi h=>h.IsListIter it a i) where
 mem:=by simp
 obj:=λi h f b g=>by
  have e:b=it:=by simpa using g
  subst e;obtain ⟨o,e,c,d⟩:=f;exact ⟨o,e,λx1 z=>by rw [d] at z;cases z⟩
 keep:=λi h j f k=>f.at λo e=>k it (by simp) o e
 item:=by intro X B D A G i J s M H E I l f C;subst B D A;obtain ⟨xs,x,m,n⟩:=C;obtain ⟨W,F,p,V⟩:=I.list m;obtain ⟨u,S,Y⟩:=F.get n;obtain ⟨q,r,Q,t,v,y⟩:=l it (by simp);refine wpAny_pyNext_list_item f p.isList (x:=u) (by simpa using S) λj L Z=>?_;have N:Inv X J M H { s with heap:=j }:=I.turned (t':=s.toks) (λb o g e=>(Z.2 b g).trans e) q r t v y;obtain ⟨o,e,c,d⟩:=id L;exact ⟨u,U,BW (s:={ s with heap:=j }) e c d (by decide) ⟨x,H,N,Y,⟨U,λys T=>by rw [I.pN T m];exact n⟩,L,λb g=>(l b g).1⟩⟩
 done:=by intro X B D A G i J s M H E I l f C;subst B D A;obtain ⟨xs,m,n⟩:=C;obtain ⟨W,F,p,V⟩:=I.list m;obtain ⟨q,r,Q,t,v,y⟩:=l it (by simp);have R:=F.length;exact Zh (xu G I) f p.isList (by simp;exact zP R n) λj O=>⟨U,I.turned (t':=s.toks) (λb o g e=>O b o g e) q r t v y⟩
 self:=λ_ _ _ _ _ f h=>wpAny_pyIter_listiter f h
theorem YR {tg:Expr} (a it:Addr):tY P w K tg (zd K a) [it] it (λi h=>h.IsTupleIter it a i) where
 mem:=by simp
 obj:=λi h f b g=>by
  have e:b=it:=by simpa using g
  subst e;obtain ⟨o,e,c,d⟩:=f;exact ⟨o,e,λx1 z=>by rw [d] at z;cases z⟩
 keep:=λi h j f k=>f.at λo e=>k it (by simp) o e
 item:=by intro X B D A G i L s N H E I l f C;subst B D A;obtain ⟨xs,x,m,n⟩:=C;obtain ⟨J,F,p,W⟩:=I.tuple m;obtain ⟨u,T,Y⟩:=F.get n;obtain ⟨q,r,R,t,v,y⟩:=l it (by simp);refine wpAny_pyNext_tuple_item f (show s.heap.IsTuple a J.toArray from p) (x:=u) (by simpa using T) λj M Z=>?_;have O:Inv X L N H { s with heap:=j }:=I.turned (t':=s.toks) (λb o g e=>(Z.2 b g).trans e) q r t v y;obtain ⟨o,e,c,d⟩:=id M;exact ⟨u,U,BW (s:={ s with heap:=j }) e c d (by decide) ⟨x,H,O,Y,⟨U,λys V=>by rw [I.nz V m];exact n⟩,M,λb g=>(l b g).1⟩⟩
 done:=by intro X B D A G i L s N H E I l f C;subst B D A;obtain ⟨xs,m,n⟩:=C;obtain ⟨J,F,p,W⟩:=I.tuple m;obtain ⟨q,r,R,t,v,y⟩:=l it (by simp);have S:=F.length;exact YO (xu G I) f p (by simp;exact zP S n) λj Q=>⟨U,I.turned (t':=s.toks) (λb o g e=>Q b o g e) q r t v y⟩
 self:=λ_ _ _ _ _ f h=>wpAny_pyIter_tupleiter f h
theorem YQ {N:Expr} (it:Addr) (y:Int) (n:Nat):tY P w K N (uN y n) [it] it (λi h=>IsRangeIter h it (y+(i:Nat)*1) ((n:Int)-(i:Nat)) 1) where
 mem:=by simp
 obj:=λi h a b c=>by
  have e:b=it:=by simpa using c
  subst e;exact ⟨_,a,λv z=>by
   have O:Data.fields _=Data.cell v:=z;cases O⟩
 keep:=λi h d a k=>k it (by simp) _ a
 item:=by intro X r x q A i B s F H E I f a u;subst r x q;obtain ⟨g,j,L,l,m,p⟩:=f it (by simp);refine Zv u a λt d D C M=>?_;have G:Inv X B F H { s with heap:=d,toks:=D }:=I.turned (λb o c e=>M b o (by simpa using c) e) g j l m p;refine ⟨_,U,BW (s:={ s with heap:=d,toks:=D }) (n:="range_iterator") C U U (by decide) ⟨.int (y+i),H,G,⟨t,?_⟩,⟨U,U⟩,C,λb c=>(f b c).1⟩⟩;rw [Int.mul_one]
 done:=by intro X r x q A i B s F H E I f a u;subst r x q;obtain ⟨g,j,L,l,m,p⟩:=f it (by simp);exact Sf (xu A I) a (by have:n<=i:=u;omega) λd J=>⟨U,I.turned (t':=s.toks) (λb o c e=>J b o c e) g j l m p⟩
 self:=λ_ _ _ _ _ a h=>wpAny_pyIter_rangeiter a h
section
def ø (K:aO) (tl:TE):TI:=λd H R=>tl d H λx b=>∃a,x=.ref a/\(∃c,ar K b a c)/\R (ze K a) b
noncomputable def Í (K:aO) (tl:TE):TI:=λd H R=>tl d H λx b=>∃a,x=.ref a/\(∃c,dB K b a c)/\R (zd K a) b
theorem gP {l:Expr} {tl:TE} (i:PE X l tl):PI X tg l (ø X.K tl):=by
 intro k s t H R I h;refine ax (i k s t H _ I h) λv d r=>?_;obtain ⟨x,f,c,n,m⟩:=r;obtain ⟨a,e,⟨A,j⟩,q⟩:=m;subst e;cases n;obtain ⟨y,z,p,u⟩:=c.list j;refine wpAny_pyIter_list p.isList ?_;refine ⟨d.heap.objs.size,[d.heap.objs.size],_,_,f,U,c.kept (t':=d.toks) λb o e=>cZ _ e,Y6 a _,⟨_,iT _ U,U,U⟩,λb g=>?_,q⟩;have e:b=d.heap.objs.size:=by simpa using g
 subst e;exact c.oe (ay _) (c.aA.fresh (ay _))
theorem Hx {l:Expr} {tl:TE} (i:PE X l tl):PI X tg l (Í X.K tl):=by
 intro m s u H R I h;refine ax (i m s u H _ I h) λv c t=>?_;obtain ⟨x,f,d,r,n⟩:=t;obtain ⟨a,e,⟨A,j⟩,q⟩:=n;subst e;cases r;obtain ⟨k,z,p,y⟩:=d.tuple j;refine wpAny_pyIter_tuple (show c.heap.IsTuple a k.toArray from p) ?_;refine ⟨c.heap.objs.size,[c.heap.objs.size],_,_,f,U,d.kept (t':=c.toks) λb o e=>cZ _ e,YR a _,⟨_,iT _ U,U,U⟩,λb g=>?_,q⟩;have e:b=c.heap.objs.size:=by simpa using g
 subst e;exact d.oe (ay _) (d.aA.fresh (ay _))
theorem P' {lo a:Int} {d:Nat} (I:Inv X pins σ H s) (h: -(2 ^ 62)<=lo) (i:lo<2 ^ 62) (j: -(2 ^ 62)<=a) (k:a<2 ^ 62)
 (q:R (uN lo (a-lo).toNat) H):wpAny (model X.prog X.w) X.A (pyIter (.ref s.heap.objs.size)) (Wk X pins σ tg R) E { s with heap:=s.heap.push { cls:=.type "range",data:=.fields #[.int lo t,.int a u,.int 1 v] },toks:=d }:=by
 refine wpAny_pyIter_range (IsRange.new ..) (small_one h i j k) ?_;have c:Inv X pins σ H { s with heap:=s.heap.push { cls:=.type "range",data:=.fields #[.int lo t,.int a u,.int 1 v] },toks:=d }:=I.kept λb o e=>cZ _ e;refine ⟨(s.heap.push { cls:=.type "range",data:=.fields #[.int lo t,.int a u,.int 1 v] }).objs.size,[(s.heap.push { cls:=.type "range",data:=.fields #[.int lo t,.int a u,.int 1 v] }).objs.size],_,_,H,U,
  c.kept (t':=d) λb o e=>cZ _ e,YQ _ lo (a-lo).toNat,?_,λb l=>?_,q⟩
 ·have f:lo+((0:Nat):Int)*1=lo:=by simp
  have g:(((a-lo).toNat:Nat):Int)-((0:Nat):Int)=Builtin.Range.rangeSize lo a 1:=by rw [rangeSize_one];split<;>omega
  show IsRangeIter _ _ (lo+((0:Nat):Int)*1) ((((a-lo).toNat:Nat):Int)-((0:Nat):Int)) 1;rw [f,g];exact iT _ U
 ·have e:b=(s.heap.push { cls:=.type "range",data:=.fields #[.int lo t,.int a u,.int 1 v] }).objs.size:=by simpa using l
  subst e;exact c.oe (ay _) (c.aA.fresh (ay _))
def ù (b:TA):TI:=λd H R=>b d H λc a=>∃j:Int,c=[.int j]/\-(2 ^ 62)<=j/\j<2 ^ 62/\R (uN 0 j.toNat) a
def ú (b:TA):TI:=λd H R=>b d H λc a=>∃i j:Int,c=[.int i,.int j]/\(-(2 ^ 62)<=i/\i<2 ^ 62/\-(2 ^ 62)<=j/\j<2 ^ 62)/\R (uN i (j-i).toNat) a
theorem tW (f:Gl X "range") (g:X.mg "range"=none) (d:PA X [a] ta) (i:autoParam (starEach [a] X.env=[(false,eval a X.env)]) t10._auto_1):PI X tg (.Call (.Name "range" p) [a] [] pos) (ù ta):=by
 intro k s u H R I h;refine Call_ (xF I f g boot_range (Ga (ax (d pos k s u H _ I h) λy x o=>?_) i U));obtain ⟨z,v,c,m,b⟩:=o;obtain ⟨j,e,b,l,q⟩:=b;subst e
 cases m with
 | cons r n=>
  cases n;obtain ⟨t,rfl⟩:=r;exact call_range_1 (P' c (by omega) (by omega) b l (by simpa using q))
theorem Yl (l:Gl X "range") (m:X.mg "range"=none) (k:PA X [a,b] ta) (n:autoParam (starEach [a,b] X.env=[(false,eval a X.env),(false,eval b X.env)]) t10._auto_1) (f:autoParam (starEach [b] X.env=[(false,eval b X.env)]) t10._auto_1):
 PI X tg (.Call (.Name "range" p) [a,b] [] pos) (ú ta):=by
 intro o s B H R I h;refine Call_ (xF I l m boot_range (Ga (ax (k pos o s B H _ I h) λF D A=>?_) (by rw [n,f]) (by rw [f];rfl)));obtain ⟨G,C,g,z,c⟩:=A;obtain ⟨i,j,e,⟨c,u,v,x⟩,q⟩:=c;subst e
 cases z with
 | cons r d=>
  cases d with
  | cons y d=>
   cases d;obtain ⟨t,rfl⟩:=r;obtain ⟨E,rfl⟩:=y;exact call_range_2 (P' g c u v x q)
def S0 (j:TI) (g:TG) (h:TS):TS:=λD a H=>j a H λJ e=>∃W:Nat->Nat->St->Hp->Prop,(∃m,W 0 m a e)/\∀i m a H,W i m a H->
 (J.stop i H/\D.nx a H)\/(J.go i H/\∃N:St->Hp->Prop,(∀d b,N d b->∃c,c<m/\W (i+1) c d b)/\∀x b,J.ub i H x b->g x a b λk f=>h { D with nx:=N,ct:=N,bk:=D.nx } k f)
def zy (a:List Addr) (h:Heap):List (Addr×Obj):=a.filterMap λb=>(h.get? b).map λo=>(b,o)
theorem Dw (a:b∈fp) (e:h.get? b=some o):(b,o)∈zy fp h:=qM.mpr ⟨b,a,by rw [e];rfl⟩
theorem Yh (d:p∈zy fp h):p.1∈fp/\h.get? p.1=some p.2:=by
 obtain ⟨b,c,e⟩:=qM.mp d
 cases q:h.get? b with
 | none=>rw [q] at e;cases e
 | some o=>
  rw [q] at e;have a:(b,o)=p:=ft e;subst a;exact ⟨c,q⟩
theorem Inv.pinned (I:Inv X pins σ H s) (i:∀b∈fp,ql X pins H b) (j:∀b∈fp,∃o,s.heap.get? b=some o/\∀v,o.data≠.cell v):Inv X (pins++zy fp s.heap) σ H s:=
 I.mM λp k=>(jj.mp k).elim (λz=>I.pin p (kY _ z)) λz=>by obtain ⟨c,e⟩:=Yh z;obtain ⟨f,g,h,_⟩:=i p.1 c;obtain ⟨o,a,d⟩:=j p.1 c;rw [e] at a;cases a;exact ⟨e,f,g,h,d⟩
theorem Inv.gA (I:Inv X (pins++pl) σ H s):Inv X pins σ H s:=I.mM λp a=>I.pin p (kY _ (lg _ a))
theorem zBk (l:PassesOwn (model X.prog X.w) X.A X.env X.xe) (F:mr X) (hi:PI X tg iter wi) (hg:PG X tg g) (d:eS X body tb)
 (hs:autoParam (∀x,foldedSetIterable iter X.env x=pure x) t14._auto_1):PS X (.For tg iter body [] pos) (S0 wi g tb):=by
 intro j x5 O H x9 I x3;refine wpAny_For (ax (hi j x5 O H _ I x3) λx8 s1 h1=>ax h1 λUQ s2 h2=>?_) hs;obtain ⟨it,k,N,m8,Q,e,S,T,fU,D,W,⟨m0,w0⟩,turn⟩:=h2;subst e;have z:∀{H':Hp},(∀b∈k,H' b=none)->∀b∈k,ql X j H' b:=λhn b d=>⟨hn b d,(D b d).2⟩;refine codeAny_forLoop_any (λn G=>∃i r H',Inv X j r H' G/\N i G.heap/\(∀b∈k,H' b=none)/\W i n r H') ?_ m0 ⟨0,O,Q,S,fU,λb d=>(D b d).1,w0⟩;rintro n J ⟨i,s,t,B,M,E,w3⟩;rcases turn i n s t w3 with ⟨stop,qn⟩ | ⟨go,x1,hN,step⟩
 ·refine w_ l (ax (T.done X U U U F i j J s t X.xe B (z E) M stop) λx4 s4 ⟨u,V⟩=>?_);subst u;exact yR ⟨s,t,V,qn⟩
 ·refine w_ l (ax (T.item X U U U F i j J s t X.xe B (z E) M go) λx4 s4 q=>L2.VF q λx6 u h4=>?_);subst u;refine w_ l (ax h4 λ_ L q=>?_);obtain ⟨x,A,Y,r5,y5,y,EV⟩:=q;have Z:=Y.pinned (z EV) (T.obj _ _ y);refine w_ l (ax (hg _ L s A x x6 _ Z r5 (step x A y5)) λ_ s6 q=>?_);obtain ⟨Ww,R,I6,q6⟩:=q;refine w_ l (ax (d _ s6 Ww R _ I6 q6) λx2 v h=>?_);have C:∀{f:St} {a:Hp},Inv X (j++zy k L.heap) f a v->x1 f a->∃m,m<n/\∃i r H',Inv X j r H' v/\N i v.heap/\(∀b∈k,H' b=none)/\W i m r H':=λ{f a} c p=>by
   obtain ⟨m',hm,w7⟩:=hN f a p;refine ⟨m',hm,i+1,f,a,c.gA,T.keep _ _ _ y λb d o e=>(c.pin (b,o) (kY _ (kY _ (Dw d e)))).1,λb d=>?_,w7⟩;obtain ⟨o,e,rE⟩:=T.obj _ _ y b d;exact (c.pin (b,o) (kY _ (kY _ (Dw d e)))).2.1
  cases x2 with
  | next=>obtain ⟨f,a,c,p⟩:=h;exact C c p
  | cont=>obtain ⟨f,a,c,p⟩:=h;exact C c p
  | brk=>obtain ⟨f,a,c,h⟩:=h;exact ⟨f,a,c.gA,h⟩
  | ret x8=>obtain ⟨x7,f,a,c,r7,h⟩:=h;exact ⟨x7,f,a,c.gA,r7,h⟩
theorem iJ (e:PassesOwn (model X.prog X.w) X.A X.env X.xe) (b:X.calm=true) (d:PI X tg iter I) (c:PG X tg g) (a:eS X body C)
 (f:autoParam (∀x,foldedSetIterable iter X.env x=pure x) t14._auto_1):PS X (.For tg iter body [] pos) (S0 I g C):=zBk e (.inl b) d c a f
end
theorem lD {a:Addr} {xs:List V} {g:TG} {o:TS} {D:qR} {b:St} {H:Hp} (c:Nat->St->Hp->Prop) (h0:c 0 b H) (s:∀i b H,i<=xs.length->c i b H->ar K H a xs)
 (t:∀i x b H,xs[i]?=some x->c i b H->g x b H λk h=>o { D with nx:=c (i+1),ct:=c (i+1),bk:=D.nx } k h) (r:∀b H,c xs.length b H->D.nx b H):
 ∃W:Nat->Nat->St->Hp->Prop,(∃m,W 0 m b H)/\∀i m b H,W i m b H->
  ((ze K a).stop i H/\D.nx b H)\/((ze K a).go i H/\∃N:St->Hp->Prop,(∀j d,N j d->∃n,n<m/\W (i+1) n j d)/\∀x d,(ze K a).ub i H x d->g x b d λk h=>o { D with nx:=N,ct:=N,bk:=D.nx } k h):=by
 refine ⟨λi m b H=>m=xs.length-i/\i<=xs.length/\c i b H,⟨xs.length,by simp,dZ _,h0⟩,?_⟩;rintro i m b H ⟨rfl,l,p⟩;have q:=s i b H l p
 by_cases f:i<xs.length
 ·refine .inr ⟨⟨xs,xs[i],q,by simp [f]⟩,c (i+1),λj d u=>⟨xs.length-(i+1),rz f,U,f,u⟩,λx d y=>?_⟩;obtain ⟨e,y⟩:=y;subst e;exact t i x b _ (y xs q) p
 ·have e:i=xs.length:=rA l f;subst e;exact .inl ⟨⟨xs,q,ay _⟩,r b H p⟩
theorem zCg {a:Addr} {xs:List V} {g:TG} {o:TS} {D:qR} {b:St} {H:Hp} (c:Nat->St->Hp->Prop) (h0:c 0 b H) (s:∀i b H,i<=xs.length->c i b H->dB K H a xs)
 (t:∀i x b H,xs[i]?=some x->c i b H->g x b H λk h=>o { D with nx:=c (i+1),ct:=c (i+1),bk:=D.nx } k h) (r:∀b H,c xs.length b H->D.nx b H):
 ∃W:Nat->Nat->St->Hp->Prop,(∃m,W 0 m b H)/\∀i m b H,W i m b H->
  ((zd K a).stop i H/\D.nx b H)\/((zd K a).go i H/\∃N:St->Hp->Prop,(∀j d,N j d->∃n,n<m/\W (i+1) n j d)/\∀x d,(zd K a).ub i H x d->g x b d λk h=>o { D with nx:=N,ct:=N,bk:=D.nx } k h):=by
 refine ⟨λi m b H=>m=xs.length-i/\i<=xs.length/\c i b H,⟨xs.length,by simp,dZ _,h0⟩,?_⟩;rintro i m b H ⟨rfl,l,p⟩;have q:=s i b H l p
 by_cases f:i<xs.length
 ·refine .inr ⟨⟨xs,xs[i],q,by simp [f]⟩,c (i+1),λj d u=>⟨xs.length-(i+1),rz f,U,f,u⟩,λx d y=>?_⟩;obtain ⟨e,y⟩:=y;subst e;exact t i x b _ (y xs q) p
 ·have e:i=xs.length:=rA l f;subst e;exact .inl ⟨⟨xs,q,ay _⟩,r b H p⟩
theorem zX {f:Int} {n:Nat} {g:TG} {o:TS} {D:qR} {a:St} {H:Hp} (c:Nat->St->Hp->Prop) (h0:c 0 a H)
 (s:∀i a H,i<n->c i a H->g (.int (f+i)) a H λk h=>o { D with nx:=c (i+1),ct:=c (i+1),bk:=D.nx } k h) (q:∀a H,c n a H->D.nx a H):
 ∃W:Nat->Nat->St->Hp->Prop,(∃m,W 0 m a H)/\∀i m a H,W i m a H->
  ((uN f n).stop i H/\D.nx a H)\/((uN f n).go i H/\∃N:St->Hp->Prop,(∀j b,N j b->∃l,l<m/\W (i+1) l j b)/\∀x b,(uN f n).ub i H x b->g x a b λk h=>o { D with nx:=N,ct:=N,bk:=D.nx } k h):=by
 refine ⟨λi m a H=>m=n-i/\i<=n/\c i a H,⟨n,by simp,dZ _,h0⟩,?_⟩;rintro i m a H ⟨rfl,r,p⟩
 by_cases d:i<n
 ·refine .inr ⟨d,c (i+1),λj b t=>⟨n-(i+1),rz d,U,d,t⟩,λx b y=>?_⟩;obtain ⟨e,y⟩:=y;subst e y;exact s i a _ d p
 ·have e:i=n:=rA r d;subst e;exact .inl ⟨ay _,q a H p⟩
abbrev R2:=V->V->Hp->VK->Prop
def eP (X:Cx) (f:Value->Value->Sem Value) (r:R2):Prop:=
 ∀(a:List (Addr×Obj)) (s:Shared) (b:St) (H:Hp) (x y:V) (v u:Value) (Q:VK),Inv X a b H s->bQ x v->bQ y u->r x y H Q->
  wpAny (model X.prog X.w) X.A (f v u) (EP X a b Q) X.xe s
def NB (X:Cx) (f:Value->Sem Value) (r:V->Hp->VK->Prop):Prop:=
 ∀(a:List (Addr×Obj)) (s:Shared) (b:St) (H:Hp) (x:V) (v:Value) (Q:VK),Inv X a b H s->bQ x v->r x H Q->
  wpAny (model X.prog X.w) X.A (f v) (EP X a b Q) X.xe s
def oO (X:Cx) (f:Value) (r:List V->Hp->VK->Prop):Prop:=
 ∀(a:List (Addr×Obj)) (s:Shared) (d:St) (H:Hp) (c:List V) (b:List Value) (Q:VK),Inv X a d H s->a_ c b->r c H Q->
  wpAny (model X.prog X.w) X.A (call f b) (EP X a d Q) X.xe s
def vJ (r:R2) (d e:TE):TE:=λa H Q=>d a H λx b=>e a b λy c=>r x y c Q
def tUn (r:V->Hp->VK->Prop) (b:TE):TE:=λc H Q=>b c H λx a=>r x a Q
def rI (C:Int->Int->Prop) (g:Int->Int->V):R2:=λx y H Q=>∃i j,x=.int i/\y=.int j/\C i j/\Q (g i j) H
def gd (g:Int->Int->V):R2:=λx y H Q=>∃i j,x=.int i/\y=.int j/\Q (g i j) H
def rU (g:Int->V):V->Hp->VK->Prop:=λx H Q=>∃i,x=.int i/\Q (g i) H
section
theorem JU (m:PE X a ta) (n:PE X b C) {e:List (Addr×Obj)} {s:Shared} {d:St} {H:Hp} {R:V->V->Hp->Prop} (I:Inv X e d H s)
 (h:ta d H λx i=>C d i λy c=>R x y c) {Q:Value->Shared->Prop} {f:Value->Value->Sem Value}
 (o:∀v u g x y c,Inv X e d c g->bQ x v->bQ y u->R x y c->wpAny (model X.prog X.w) X.A (f v u) Q X.xe g):
 wpAny (model X.prog X.w) X.A (eval a X.env) (λv A=>wpAny (model X.prog X.w) X.A (eval b X.env) (λu B=>wpAny (model X.prog X.w) X.A (f v u) Q X.xe B) X.xe A) X.xe s:=by
 refine ax (m e s d H _ I h) λv z j=>?_;obtain ⟨x,i,k,r,p⟩:=j;refine ax (n e z d i _ k p) λu g j=>?_;obtain ⟨y,c,l,t,q⟩:=j;exact o v u g x y c l r t q
theorem cu {c:Operator} {r:R2} (i:eP X (binaryOp c) r) (f:PE X a ta) (g:PE X b C):PE X (.BinOp a c b pos) (vJ r ta C):=by intro j s n H Q I h;exact wpAny_BinOp (JU f g I h λv u m x y d e k l q=>i j m n d x y v u Q e k l q)
theorem uV (g:NB X (unaryOp op) r) (f:PE X a ta):PE X (.UnaryOp op a pos) (tUn r ta):=by intro b s c H Q I h;exact UnaryOp_ (ax (f b s c H _ I h) λv k l=>L2.eQ l λx d e j i=>g b k c d x v Q e j i)
theorem TZ {f:Value->Value->Sem Value} {C:Int->Int->Prop} {g:Int->Int->Int}
 (b:∀(i j:Int) (t u:Tok) (s:Shared) (Q:Value->Shared->Prop) (E:Value->Shared->Prop),C i j->Q (.int (g i j) s.toks) { s with toks:=s.toks+1 }->wpAny (model X.prog X.w) X.A (f (.int i t) (.int j u)) Q E s):
 eP X f (rI C λi j=>.int (g i j)):=by
 intro k s l H x y v u Q I c d h;obtain ⟨i,j,rfl,rfl,a,q⟩:=h;obtain ⟨t,rfl⟩:=c;obtain ⟨e,rfl⟩:=d;exact b i j t e s _ _ a ⟨.int (g i j),H,I.tok _,⟨_,U⟩,q⟩
theorem Sw {f:Value->Value->Sem Value} {g:Int->Int->Int}
 (a:∀(i j:Int) (t u:Tok) (s:Shared) (Q:Value->Shared->Prop) (E:Value->Shared->Prop),Q (.int (g i j) s.toks) { s with toks:=s.toks+1 }->wpAny (model X.prog X.w) X.A (f (.int i t) (.int j u)) Q E s):
 eP X f (gd λi j=>.int (g i j)):=by
 intro e s k H x y v u Q I b c h;obtain ⟨i,j,rfl,rfl,q⟩:=h;obtain ⟨t,rfl⟩:=b;obtain ⟨d,rfl⟩:=c;exact a i j t d s _ _ ⟨.int (g i j),H,I.tok _,⟨_,U⟩,q⟩
theorem DI {f:Value->Value->Sem Value} {g:Int->Int->Bool}
 (a:∀(i j:Int) (t u:Tok) (s:Shared) (Q:Value->Shared->Prop) (E:Value->Shared->Prop),Q (.bool (g i j)) s->wpAny (model X.prog X.w) X.A (f (.int i t) (.int j u)) Q E s):
 eP X f (gd λi j=>.bl (g i j)):=by
 intro e s k H x y v u Q I b c h;obtain ⟨i,j,rfl,rfl,q⟩:=h;obtain ⟨t,rfl⟩:=b;obtain ⟨d,rfl⟩:=c;exact a i j t d s _ _ ⟨.bl (g i j),H,I,U,q⟩
def JO (i j:Int):Prop:=(-(2 ^ 64)<i/\i<2 ^ 64)\/(-(2 ^ 64)<j/\j<2 ^ 64)
theorem JO.ok (h:JO i j):IntMulOk i j:=by
 rcases h with ⟨a,b⟩ | ⟨a,b⟩
 ·exact .of_left (intBits_le_64 a b)
 ·exact .of_right (intBits_le_64 a b)
theorem i5:eP X (binaryOp .Add) (gd λi j=>.int (i+j)):=Sw λ_ _ _ _ _ _ _ q=>add_int q
theorem iH:eP X (binaryOp .Sub) (gd λi j=>.int (i-j)):=Sw λ_ _ _ _ _ _ _ q=>sub_int q
theorem zD7:eP X (binaryOp .Mult) (rI JO λi j=>.int (i*j)):=TZ λ_ _ _ _ _ _ _ a q=>mul_int q a.ok
theorem Hu:eP X (binaryOp .Mod) (rI (λ_ j=>0<j) λi j=>.int (i % j)):=TZ λi j _ _ _ _ _ a q=>by have b:(0:Int)<j:=a;exact mod_int' (XO a) (by rw [Int.fmod_eq_emod_of_nonneg i (X8 a)];exact q)
theorem unI {f:Value->Sem Value} {g:Int->Int}
 (a:∀(i:Int) (t:Tok) (s:Shared) (Q:Value->Shared->Prop) (E:Value->Shared->Prop),Q (.int (g i) s.toks) { s with toks:=s.toks+1 }->wpAny (model X.prog X.w) X.A (f (.int i t)) Q E s):
 NB X f (rU λi=>.int (g i)):=by
 intro c s d H x v Q I b h;obtain ⟨i,rfl,q⟩:=h;obtain ⟨t,rfl⟩:=b;exact a i t s _ _ ⟨.int (g i),H,I.tok _,⟨_,U⟩,q⟩
theorem uY:NB X (unaryOp .USub) (rU λi=>.int (-i)):=unI λ_ _ _ _ _ q=>neg_int q
end
def SG:V->V->Bool
 | .aG,.aG=>true | .aG,.int _=>true | .int _,.aG=>true | .aG,.bl _=>true | .bl _,.aG=>true | .aG,.str _=>true | .str _,.aG=>true
 | .int _,.int _=>true | .bl _,.bl _=>true | .str _,.str _=>true | .lY _,.lY _=>true
 | .int _,.str _=>true | .str _,.int _=>true | .bl _,.str _=>true | .str _,.bl _=>true
 | _,_=>false
def rEq:R2:=λx y H Q=>SG x y=true/\Q (.bl (decide (x=y))) H
def rNe:R2:=λx y H Q=>SG x y=true/\Q (.bl (!decide (x=y))) H
theorem OY:decide (V.int i=V.int j)=(i==j):=by rw [Bu];simp
theorem Ti:decide (V.bl i=V.bl j)=(i==j):=by rw [Bu];simp
theorem OZ:decide (V.str i=V.str j)=(i==j):=by rw [Bu];simp
theorem OX:decide (V.lY i=V.lY j)=(i.toList==j.toList):=by rw [Bu];cases i;cases j;simp
section
theorem f7 (I:Inv X pins σ H s) (q:Q (.bl k) H) (e:k=C):EP X pins σ Q (.bool C) s:=by subst e;exact ⟨.bl k,H,I,U,q⟩
theorem fy:eP X (compareOp .Eq) rEq:=by
 intro e s f H x y v u Q I d a h;obtain ⟨c,q⟩:=h
 cases x with
 | aG=>
  cases d
  cases y with
  | aG=>cases a;exact EqNone.eq_none_none (f7 I q (by simp))
  | bl j=>cases a;exact EqNone.eq_none_bool (f7 I q (by simp))
  | int j=>obtain ⟨b,rfl⟩:=a;exact EqNone.eq_none_int (f7 I q (by simp))
  | str j=>obtain ⟨b,rfl⟩:=a;exact EqNone.eq_none_str (f7 I q (by simp))
  | _=>exact absurd (show false=true from c) dX
 | bl i=>
  cases d
  cases y with
  | aG=>cases a;exact EqNone.eq_bool_none (f7 I q (by simp))
  | bl j=>cases a;exact eq_bool (f7 I q Ti)
  | str j=>obtain ⟨b,rfl⟩:=a;exact EqMixed.eq_bool_str (f7 I q (by simp))
  | _=>exact absurd (show false=true from c) dX
 | int i=>
  obtain ⟨t,rfl⟩:=d
  cases y with
  | aG=>cases a;exact EqNone.eq_int_none (f7 I q (by simp))
  | int j=>obtain ⟨b,rfl⟩:=a;exact eq_int (f7 I q OY)
  | str j=>obtain ⟨b,rfl⟩:=a;exact EqMixed.eq_int_str (f7 I q (by simp))
  | _=>exact absurd (show false=true from c) dX
 | str i=>
  obtain ⟨t,rfl⟩:=d
  cases y with
  | aG=>cases a;exact EqNone.eq_str_none (f7 I q (by simp))
  | bl j=>cases a;exact EqMixed.eq_str_bool (f7 I q (by simp))
  | int j=>obtain ⟨b,rfl⟩:=a;exact EqMixed.eq_str_int (f7 I q (by simp))
  | str j=>obtain ⟨b,rfl⟩:=a;exact eq_str (f7 I q OZ)
  | _=>exact absurd (show false=true from c) dX
 | lY i=>
  obtain ⟨t,rfl⟩:=d
  cases y with
  | lY j=>obtain ⟨b,rfl⟩:=a;exact W.eq_bytes (f7 I q OX)
  | _=>exact absurd (show false=true from c) dX
 | _=>cases y<;>exact absurd (show false=true from c) dX
theorem BS:eP X (compareOp .NotEq) rNe:=by
 intro e s f H x y v u Q I d a h;obtain ⟨c,q⟩:=h
 cases x with
 | aG=>
  cases d
  cases y with
  | aG=>cases a;exact EqNone.ne_none_none (f7 I q (by simp))
  | bl j=>cases a;exact EqNone.ne_none_bool (f7 I q (by simp))
  | int j=>obtain ⟨b,rfl⟩:=a;exact EqNone.ne_none_int (f7 I q (by simp))
  | str j=>obtain ⟨b,rfl⟩:=a;exact EqNone.ne_none_str (f7 I q (by simp))
  | _=>exact absurd (show false=true from c) dX
 | bl i=>
  cases d
  cases y with
  | aG=>cases a;exact EqNone.ne_bool_none (f7 I q (by simp))
  | bl j=>cases a;exact ne_bool (f7 I q (congrArg not Ti))
  | str j=>obtain ⟨b,rfl⟩:=a;exact EqMixed.ne_bool_str (f7 I q (by simp))
  | _=>exact absurd (show false=true from c) dX
 | int i=>
  obtain ⟨t,rfl⟩:=d
  cases y with
  | aG=>cases a;exact EqNone.ne_int_none (f7 I q (by simp))
  | int j=>obtain ⟨b,rfl⟩:=a;exact ne_int (f7 I q (congrArg not OY))
  | str j=>obtain ⟨b,rfl⟩:=a;exact EqMixed.ne_int_str (f7 I q (by simp))
  | _=>exact absurd (show false=true from c) dX
 | str i=>
  obtain ⟨t,rfl⟩:=d
  cases y with
  | aG=>cases a;exact EqNone.ne_str_none (f7 I q (by simp))
  | bl j=>cases a;exact EqMixed.ne_str_bool (f7 I q (by simp))
  | int j=>obtain ⟨b,rfl⟩:=a;exact EqMixed.ne_str_int (f7 I q (by simp))
  | str j=>obtain ⟨b,rfl⟩:=a;exact ne_str (f7 I q (congrArg not OZ))
  | _=>exact absurd (show false=true from c) dX
 | lY i=>
  obtain ⟨t,rfl⟩:=d
  cases y with
  | lY j=>obtain ⟨b,rfl⟩:=a;exact W.ne_bytes (f7 I q (congrArg not OX))
  | _=>exact absurd (show false=true from c) dX
 | _=>cases y<;>exact absurd (show false=true from c) dX
theorem tF:eP X (compareOp .Lt) (gd λi j=>.bl (decide (i<j))):=DI λ_ _ _ _ _ _ _ q=>lt_int q
theorem jN:eP X (compareOp .LtE) (gd λi j=>.bl (decide (i<=j))):=DI λ_ _ _ _ _ _ _ q=>le_int q
theorem zj:eP X (compareOp .Gt) (gd λi j=>.bl (decide (j<i))):=DI λ_ _ _ _ _ _ _ q=>gt_int q
theorem Kf:eP X (compareOp .GtE) (gd λi j=>.bl (decide (j<=i))):=DI λ_ _ _ _ _ _ _ q=>ge_int q
theorem xG:eP X (compareOp .Is) (λx y H Q=>y=.aG/\Q (.bl (decide (x=.aG))) H):=by
 intro c s d H x y v u Q I a b h;obtain ⟨rfl,q⟩:=h;cases b;refine is_none_gen (f7 I q ?_);cases x<;>first
  | (cases a;rfl)
  | (obtain ⟨t,rfl⟩:=a;rfl)
theorem tP:eP X (compareOp .IsNot) (λx y H Q=>y=.aG/\Q (.bl (!decide (x=.aG))) H):=by
 intro c s d H x y v u Q I a b h;obtain ⟨rfl,q⟩:=h;cases b;refine isnot_none_gen (f7 I q ?_);cases x<;>first
  | (cases a;rfl)
  | (obtain ⟨t,rfl⟩:=a;rfl)
theorem Ht (b:Expr) (h:autoParam (op≠.In) t12._auto_1) (d:autoParam (op≠.NotIn) t12._auto_1):behindInMarks op b=false:=by
 have a:(op==CmpOp.In)=false:=by cases op<;>first | rfl | exact absurd rfl h
 have c:(op==CmpOp.NotIn)=false:=by cases op<;>first | rfl | exact absurd rfl d
 cases b<;>simp [behindInMarks,a,c]
theorem Cq (i:eP X (compareOp op) r) (e:PE X a ta) (f:PE X b C) (g:behindInMarks op b=false):PE X (.Compare a [op] [b] pos) (vJ r ta C):=by intro j s n H Q I h;exact wpAny_Compare1 (JU e f I h λv u m x y c d k l q=>i j m n c x y v u Q d k l q) g
def kT (Q:Bool->Hp->Prop) (x:V) (H:Hp):Prop:=∃k,x=.bl k/\Q k H
def BY (t:TE):TT:=λa H Q=>t a H (kT Q)
theorem xO (A:eP X (compareOp op) r) (p:PE X a ta) (q:PE X b tb) (t:behindInMarks op b=false):PT X (.Compare a [op] [b] pos) (BY (vJ r ta tb)):=by
 intro f s g H Q I h;refine wpAny_isTrue_Compare1 (ax (p f s g H _ I h) λv J d=>L2.eQ d λx i m E B=>ax (q f J g i _ m B) λu L d=>L2.eQ d λy j n F C=>
  ax (A f L g j x y v u _ n E F C) λc M d=>?_) t
 obtain ⟨z,l,o,G,k,e,D⟩:=d;subst e;cases G;exact oH ⟨l,o,D⟩
theorem jJ {X:Cx} {a b:Expr} {d e:TE} {k:Pos} {c:CmpOp} {r:R2} (j:eP X (compareOp c) r) (g:PE X a d) (i:PE X b e) (h:autoParam (c≠.In) t12._auto_1) (f:autoParam (c≠.NotIn) t12._auto_1):PE X (.Compare a [c] [b] k) (vJ r d e):=Cq j g i (Ht _ h f)
theorem cG {X:Cx} {a b:Expr} {d e:TE} {k:Pos} {c:CmpOp} {r:R2} (j:eP X (compareOp c) r) (g:PE X a d) (i:PE X b e) (h:autoParam (c≠.In) t12._auto_1) (f:autoParam (c≠.NotIn) t12._auto_1):PT X (.Compare a [c] [b] k) (BY (vJ r d e)):=xO j g i (Ht _ h f)
def N_ (r f:R2) (g h i:TE):TE:=λa H Q=>g a H λx c=>h a c λy d=>r x y d λz b=>∃k,z=.bl k/\
 (if k=true then i a b λj e=>f y j e Q else Q (.bl false) b)
theorem H_ (F:eP X (compareOp op) r) (G:eP X (compareOp C) r') (A:PE X a ta) (B:PE X b tb) (D:PE X c tc)
 (E:autoParam (lastMarks [op,C] [b,c]=false) t16._auto_1):PE X (.Compare a [op,C] [b,c] pos) (N_ r r' ta tb tc):=by
 intro f s g H Q I h;refine Compare_chain (ax (A f s g H _ I h) λv S d=>L2.eQ d λx n q N J=>chain_link (ax (B f S g n _ q J) λu T d=>L2.eQ d λy o t m L=>
  ax (F f T g o x y v u _ t N m L) λx1 V d=>?_)) E
 obtain ⟨x2,i,j,O,k,e,l⟩:=d;subst e;cases O;refine oH ?_
 cases k with
 | false=>exact ite_ff ⟨.bl false,i,j,U,l⟩
 | true=>exact ite_tt (chain_last (ax (D f V g i _ j l) λY W d=>L2.eQ d λz' p z R M=>G f W g p y z' u Y Q z m R M))
theorem Iz (J:eP X (compareOp op) r) (L:eP X (compareOp C) r') (D:PE X a ta) (E:PE X b tb) (F:PE X c tc)
 (G:autoParam (lastMarks [op,C] [b,c]=false) t16._auto_1):PT X (.Compare a [op,C] [b,c] pos) (BY (N_ r r' ta tb tc)):=by
 intro f s g H x3 I h;refine isTrue_chain (ax (D f s g H _ I h) λx1 Y d=>L2.eQ d λx2 n t S N=>test_link (ax (E f Y g n _ t N) λu Z d=>L2.eQ d λy o v m O=>
  ax (J f Z g o x2 y x1 u _ v S m O) λx4 s3 d=>?_)) G
 obtain ⟨x5,i,j,T,k,e,l⟩:=d;subst e;cases T;refine oH ?_
 cases k with
 | false=>
  obtain ⟨k',A,M⟩:=l;cases A;exact ite_ff ⟨i,j,M⟩
 | true=>
  refine ite_tt (test_last (ax (F f s3 g i _ j l) λw' s4 d=>L2.eQ d λz' p x V Q=>ax (L f s4 g p y z' u w' _ x m V Q) λd' s5 d=>?_));obtain ⟨z2,q,z,W,k2,B,R⟩:=d;subst B;cases W;exact oH ⟨q,z,R⟩
theorem Ca:(sizeLine:Nat)<2 ^ 63:=by rw [Fj];decide
theorem xB (r:a_ [x] us):∃u,us=[u]/\bQ x u:=by
 cases r with
 | cons a b=>cases b;exact ⟨_,U,a⟩
theorem Ki (r:a_ [x,y] us):∃u w',us=[u,w']/\bQ x u/\bQ y w':=by
 cases r with
 | cons a b=>
  cases b with
  | cons c d=>cases d;exact ⟨_,_,U,a,c⟩
theorem QH (b:X.calm=true):oO X (.builtin "max") (λxs H Q=>∃i j,xs=[.int i,.int j]/\Q (.int (if j>i then j else i)) H):=by
 intro d s m H xs g Q I r h;obtain ⟨i,j,rfl,q⟩:=h;obtain ⟨u,l,rfl,⟨t,rfl⟩,⟨e,rfl⟩⟩:=Ki r;refine max_two_ints (I.ok.hd b) λc f k=>⟨_,H,I.kept k,?_,q⟩
 by_cases a:j>i
 ·rw [if_pos a,if_pos a];exact ⟨_,U⟩
 ·rw [if_neg a,if_neg a];exact ⟨_,U⟩
theorem zT (b:X.calm=true):oO X (.builtin "min") (λxs H Q=>∃i j,xs=[.int i,.int j]/\Q (.int (if j<i then j else i)) H):=by
 intro d s m H xs g Q I r h;obtain ⟨i,j,rfl,q⟩:=h;obtain ⟨u,l,rfl,⟨t,rfl⟩,⟨e,rfl⟩⟩:=Ki r;refine min_two_ints (I.ok.hd b) λc f k=>⟨_,H,I.kept k,?_,q⟩
 by_cases a:j<i
 ·rw [if_pos a,if_pos a];exact ⟨_,U⟩
 ·rw [if_neg a,if_neg a];exact ⟨_,U⟩
end
structure vw (h:Heap) (x dx C:Addr) (mA:Str->Option Value):Prop where
 obj:h.get? x=some (W.instObj C dx)
 ns:h.Ns1 dx mA
 ne:dx≠x
theorem Ye {h:Heap} {dx:Addr} {c:Str->Option Value} (n:h.Ns1 dx c):∃od,h.get? dx=some od/\∀name,W.lookIn name od=some (c name):=by
 obtain ⟨o,b,m,k,f,g,_,j⟩:=n;refine ⟨o,k,λname=>?_⟩;have e:=j name;unfold nsFind findBy at e;rw [<-Array.find?_toList] at e;unfold W.lookIn;rw [f];dsimp only;split
 ·rename_i y q
  rw [q] at e;exact congrArg some e
 ·rename_i q
  rw [q] at e;have a:b.toList.any (·.refKey)=false:=by rw [List.any_eq_false];intro y l;obtain ⟨z,t,i⟩:=g y (Array.mem_toList_iff.mp l);simp [DictEntry.refKey,i]
  have d:¬b.toList.any (·.refKey)=true:=by rw [a];exact dX
  rw [if_neg d];exact congrArg some e
theorem vw.look (I:vw h x dx C mA):∃od,W.InstAt h x (W.instObj C dx) C (some od)/\∀name,W.lookIn name od=some (mA name):=
 let ⟨od,b,a⟩:=Ye I.ns
 ⟨od,⟨I.obj,U,U,b⟩,a⟩
section
variable {K:aO}
theorem zCc (X:K.In s.heap) (I:vw s.heap x dx C mA) (b:W.plainGet K C name=true) (c:W.hasDictIn K C=true)
 (a:W.findIn K (.ref C) name=some none) (e:mA name=some v) (f:W.handedIn v=true) (h:Q v { s with toks:=s.toks+1 }):
 wpAny (model prog w) A (getAttr (.ref x) name expr) Q E s:=by
 obtain ⟨g,J,d⟩:=I.look;exact W.get_value X J (W.plainGet_of b).1 (W.findObj_own c a U (by rw [d,e])) f h
theorem Xf (X:K.In s.heap) (I:vw s.heap x dx C mA) (a:W.plainGet K C name=true)
 (b:W.findIn K (.ref C) name=some (some (.ref f))) (d:W.isFn K (.ref f)=true) (e:mA name=none) (h:Q (.ref f,[.ref x]) s):
 wpAny (model prog w) A (getMethod (.ref x) name pl) Q E s:=by
 obtain ⟨g,J,c⟩:=I.look;exact W.method_fn X J (W.plainGet_of a).1 (W.plainGet_of a).2 b (beq_iff_eq.mp d) (by show (W.lookIn name g).map (·.isSome)=some false;rw [c,e];rfl) h
theorem zBb (X:K.In s.heap) (I:vw s.heap x dx C mA)
 (m:W.findIn K (.ref C) "__setattr__"=some (some (.builtin "object.__setattr__"))) (l:W.plainOver K C=true) (n:W.takerIn K C name=some none) (j:W.hasDictIn K C=true)
 (hw:PySem.Within mA ns) (hsz:ns.length<=sizeLine)
 (h:∀h',vw h' x dx C (λy=>if y=name then some v else mA y)->Heap.SameBut dx s.heap h'->Q () { s with heap:=h',toks:=s.toks+2 }):
 wpAny (model prog w) A (setAttr (.ref x) name v) Q E s:=by
 obtain ⟨B,J,u⟩:=I.look;refine W.set_plain X J m (W.osa_open (s:={ s with toks:=s.toks+1 }) (r:=none) X J l n λb=>?_);obtain ⟨p,e,g⟩:=W.any_some j;have o:s.heap.get? x=some ⟨.ref C,some dx,.plain,#[]⟩:=I.obj;refine ae (aJ (ae (ae (M_ o (ae (W.Looks.here (s:={ s with toks:=s.toks+1 }) (W.looks_clsIn X e) ?_))))));rw [g];refine aJ (a:=some dx) (ae (aJ (ae ?_)));refine wpAny_nsSet1 (s:={ s with toks:=s.toks+1 }) I.ns λh' c d=>?_;obtain ⟨z,t,q,k,i,f⟩:=c.count (PySem.Within.cons name v hw);refine ae (wpAny_lookBehind k (by rw [i];exact pastItsLine_dict (cP f (by rw [ji];exact vl hsz))) ?_);exact aJ (h _ ⟨(d.2 _ (aK I.ne)).trans I.obj,c,I.ne⟩ d)
theorem WK (X:K.In s.heap) (c:W.makesIn K C=true)
 (b:W.findIn K (.ref C) "__init__"=some (some (.ref f))) (a:W.typeIn K (.ref f)=some (.type "function"))
 (h:codeAny (model prog w) (A.under (.builtin "type.__call__" ⟨.ref C::vs,kw⟩)) (.call (.ref f) ⟨.ref (s.heap.objs.size+1)::vs,kw⟩) (W.InitBack (s.heap.objs.size+1) R)
  { s with heap:=(s.heap.push W.emptyDict).push (W.instObj C s.heap.objs.size) }):
 codeAny (model prog w) A (.call (.ref C) ⟨vs,kw⟩) R s:=by
 obtain ⟨e,g,d,t,i⟩:=s;exact W.make_core (W.makes_of X c) (BC X b) (λself=>W.bind_fn X self a) (.inl U) h
end
noncomputable def aj (f:Str) (v:V):List (Str×V)->List (Str×V)
 | []=>[(f,v)]
 | (g,x)::r=>if g=f then (g,v)::r else (g,x)::aj f v r
theorem kN (f g:Str) (v:V):∀fs:List (Str×V),(aj f v fs).lookup g=if g=f then some v else fs.lookup g
 | []=>by
  show List.lookup g [(f,v)]=_
  by_cases h:g=f
  ·have a:(g==f)=true:=beq_iff_eq.mpr h;simp only [List.lookup,a,if_pos h]
  ·have a:(g==f)=false:=beq_eq_false_iff_ne.mpr h;simp only [List.lookup,a,if_neg h]
 | (k,x)::r=>by
  have c:=kN f g v r;rw [show aj f v ((k,x)::r)=(if k=f then (k,v)::r else (k,x)::aj f v r) from rfl]
  by_cases b:k=f
  ·rw [if_pos b]
   by_cases h:g=k
   ·have a:(g==k)=true:=beq_iff_eq.mpr h;simp only [List.lookup,a,if_pos (h.trans b)]
   ·have a:(g==k)=false:=beq_eq_false_iff_ne.mpr h;simp only [List.lookup,a,if_neg (λe:g=f=>h (e.trans b.symm))]
  ·rw [if_neg b]
   by_cases h:g=k
   ·have a:(g==k)=true:=beq_iff_eq.mpr h;simp only [List.lookup,a,if_neg (λe:g=f=>b (h.symm.trans e))]
   ·have a:(g==k)=false:=beq_eq_false_iff_ne.mpr h;simp only [List.lookup,a];exact c
theorem IT (f:Str) (v:V):∀fs:List (Str×V),f∈(aj f v fs).map (·.1)/\∀g,g∈fs.map (·.1)->g∈(aj f v fs).map (·.1)
 | []=>⟨by simp [aj],λg h=>by simp at h⟩
 | (k,x)::r=>by
  obtain ⟨b,c⟩:=IT f v r;rw [show aj f v ((k,x)::r)=(if k=f then (k,v)::r else (k,x)::aj f v r) from rfl]
  by_cases a:k=f
  ·rw [if_pos a];subst a;exact ⟨by simp,λg h=>by simpa using h⟩
  ·rw [if_neg a];refine ⟨?_,λg h=>?_⟩
   ·rw [eN];exact iO _ b
   ·rw [eN] at h ⊢;rcases f'.mp h with e | e
    ·exact f'.mpr (.inl e)
    ·exact iO _ (c g e)
theorem RZ (f:Str) (v:V):∀fs:List (Str×V),(aj f v fs).length<=fs.length+1
 | []=>by simp [aj]
 | (k,x)::r=>by
  have b:=RZ f v r;rw [show aj f v ((k,x)::r)=(if k=f then (k,v)::r else (k,x)::aj f v r) from rfl]
  by_cases a:k=f
  ·rw [if_pos a,ji,ji];exact jf
  ·rw [if_neg a,ji,ji];exact vl b
theorem jk.some_of (r:jk (some v) o):∃u,o=some u/\bQ v u:=by
 cases o with
 | none=>exact (show False from r).elim
 | some u=>exact ⟨u,U,r⟩
theorem jk.none_of (r:jk none o):o=none:=by
 cases o with
 | none=>rfl
 | some u=>exact (show False from r).elim
theorem X' (r:bQ v u):W.handedIn u=true:=by
 cases v with
 | aG=>cases (show u=Value.none from r);rfl
 | bl b=>cases (show u=Value.bool b from r);rfl
 | int i=>obtain ⟨t,e⟩:=(show ∃t,u=Value.int i t from r);cases e;rfl
 | str x=>obtain ⟨t,e⟩:=(show ∃t,u=Value.str x t from r);cases e;rfl
 | lY b=>obtain ⟨t,e⟩:=(show ∃t,u=Value.bytes b t from r);cases e;rfl
 | wO b=>obtain ⟨t,e⟩:=(show ∃t,u=Value.float b t from r);cases e;rfl
 | ref a=>cases (show u=Value.ref a from r);rfl
 | ty n=>cases (show u=Value.type n from r);rfl
section
theorem HP (c:dq P w H h) (e:H a=some (.ins C dx fs)):∃b,vw h a dx C b/\(∀f,jk (fs.lookup f) (b f))/\PySem.Within b (fs.map (·.1))/\fs.length<=1000/\H dx=some (.own a):=by obtain ⟨d,z,g,i,b,n,r,q⟩:=(show d_ P w H h a (.ins C dx fs) from c a _ e);exact ⟨b,⟨i,n,g⟩,r,q,z,d⟩
end
structure mf (K:aO) (C:Addr):Prop where
 pg:W.plainGet K C Str.empty=true
 hd:W.hasDictIn K C=true
 po:W.plainOver K C=true
 sa:W.findIn K (.ref C) "__setattr__"=some (some (.builtin "object.__setattr__"))
theorem mf.get {C:Addr} (c:mf K C) (f:Str):W.plainGet K C f=true:=c.pg
def i4 (K:aO) (C:Addr) (f:Str):Prop:=W.findIn K (.ref C) f=some none
theorem i4.Ao {C:Addr} {f:Str} (n:i4 K C f):W.takerIn K C f=some none:=by unfold W.takerIn;rw [show W.findIn K (.ref C) f=some none from n];rfl
structure fV (K:aO) (C:Addr) (m:Str) (f:Addr):Prop where
 at_:W.findIn K (.ref C) m=some (some (.ref f))
 fn:W.isFn K (.ref f)=true
 kp:W.keepIn K (.ref f)=true
section
theorem RQ (I:Inv X pins σ H s) (e:H a=some (.ins C dx fs)) (c:mf X.K C) (n:i4 X.K C f) (l:fs.lookup f=some v)
 (h:∀u s',Inv X pins σ H s'->bQ v u->Q u s'):wpAny (model X.prog X.w) A (getAttr (.ref a) f b) Q E s:=by
 obtain ⟨i,O,r,_,_,_⟩:=HP I.aA e;obtain ⟨u,g,d⟩:=jk.some_of (v:=v) (o:=i f) (by rw [<-l];exact r f);exact zCc I.fj O (c.get f) c.hd n g (X' d) (h u _ (I.tok _) d)
theorem RS (I:Inv X pins σ H s) (e:H a=some (.ins C dx fs)) (c:mf X.K C) (k:fV X.K C m g) (l:fs.lookup m=none)
 (h:Q (.ref g,[.ref a]) s):wpAny (model X.prog X.w) A (getMethod (.ref a) m pl) Q E s:=by
 obtain ⟨d,O,r,_,_,_⟩:=HP I.aA e;have b:d m=none:=jk.none_of (by rw [<-l];exact r m);exact Xf I.fj O (c.get m) k.at_ k.fn b h
theorem RB (I:Inv X pins σ H s) (e:H a=some (.ins C dx fs)) (c:mf X.K C) (n:i4 X.K C f) (B:fs.length<1000) (F:bQ y u)
 (h:∀s',Inv X pins σ (upd H a (.ins C dx (aj f y fs))) s'->Q () s'):wpAny (model X.prog X.w) A (setAttr (.ref a) f u) Q E s:=by
 obtain ⟨j,O,r,k,_,i⟩:=HP I.aA e;have D:(fs.map (·.1)).length<=sizeLine:=by rw [az,Fj];omega
 refine zBb I.fj O c.sa c.po n.Ao c.hd k D λm d G=>h _ ?_;have t:∃o,m.get? dx=some o:=let ⟨o,_,_,l,_⟩:=d.ns;⟨o,l⟩;refine I.write (x:=a) (e:=dx) (by rw [e];exact True.intro) (.inr i) (λb q p z=>(G.2 b p).trans z) t ?_;refine ⟨by rw [ah O.ne];exact i,?_,O.ne,d.obj,_,d.ns,λg=>?_,λg v=>?_⟩
 ·have:=RZ f y fs;exact IL B this
 ·show jk ((aj f y fs).lookup g) (if g=f then some u else j g);rw [kN]
  by_cases q:g=f
  ·rw [if_pos q,if_pos q];exact F
  ·rw [if_neg q,if_neg q];exact r g
 ·by_cases q:g=f
  ·rw [q];exact (IT f y fs).1
  ·refine (IT f y fs).2 g (k g λz=>v ?_);show (if g=f then some u else j g)=none;rw [if_neg q];exact z
theorem Inv.made (I:Inv X pins σ H s):Inv X pins σ (upd (upd H s.heap.objs.size (.own (s.heap.objs.size+1))) (s.heap.objs.size+1) (.ins C s.heap.objs.size []))
 { s with heap:=(s.heap.push W.emptyDict).push (W.instObj C s.heap.objs.size) }:=by
 have c:(s.heap.push W.emptyDict).get? s.heap.objs.size=some W.emptyDict:=iT s.heap U;have g:((s.heap.push W.emptyDict).push (W.instObj C s.heap.objs.size)).get? (s.heap.objs.size+1)=some (W.instObj C s.heap.objs.size):=by
  have:=iT (s.heap.push W.emptyDict) (o:=W.instObj C s.heap.objs.size) U
  rwa [yQ] at this
 have h:(s.heap.push W.emptyDict).Ns s.heap.objs.size (λ_=>none):=⟨W.emptyDict,#[],_,c,U,(λe i=>absurd i (by simp)),λ_=>rfl⟩;have f:=I.laid (a:=s.heap.objs.size) (o:=.own (s.heap.objs.size+1)) (h':=s.heap.push W.emptyDict) (t':=s.toks) (λb u q=>cZ _ q) (ay _) ⟨_,c⟩;refine f.laid (a:=s.heap.objs.size+1) (o:=.ins C s.heap.objs.size []) (t':=s.toks) (λb u q=>cZ _ q) (qI (yQ _ _)) ?_;have d:s.heap.objs.size≠s.heap.objs.size+1:=gv (Bx _);refine ⟨by rw [ah d,ai],dZ _,d,g,λ_=>none,(Heap.Ns1.of_empty h).at λo q=>cZ _ q,λ_=>True.intro,λy j=>absurd U j⟩
theorem zCo (a:attributeBase e f env (eval e env)=eval e env)
 (h:wpAny (model prog w) A (eval e env) (λo b=>wpAny (model prog w) A (getAttr o f true) Q E b) E s):wpAny (model prog w) A (eval (.Attribute e f pos) env) Q E s:=
 Attribute_any_ h (by rw [arm_eval_Attribute,a])
end
def iA (K:aO) (f:Str) (x:V) (H:Hp) (Q:VK):Prop:=∃a C c b v,x=.ref a/\H a=some (.ins C c b)/\mf K C/\i4 K C f/\b.lookup f=some v/\Q v H
def SI (K:aO) (b:TE) (f:Str):TE:=λc H Q=>b c H λx a=>iA K f x a Q
def i8 (K:aO) (f:Str) (y x:V) (H:Hp) (N:Hp->Prop):Prop:=∃a C c b,x=.ref a/\H a=some (.ins C c b)/\mf K C/\i4 K C f/\b.length<1000/\N (upd H a (.ins C c (aj f y b)))
def Â (K:aO) (d e:TE) (f:Str):TS:=λD a H=>e a H λy b=>d a b λx c=>i8 K f y x c (D.nx a)
def Sk (X:Cx) (c:Operator) (d:V->V->Hp->VK->Prop):Prop:=
 ∀(a:List (Addr×Obj)) (s:Shared) (b:St) (H:Hp) (x y:V) (u v:Value) (Q:VK),Inv X a b H s->bQ x u->bQ y v->d x y H Q->wpAny (model X.prog X.w) X.A (inplaceOp c u v) (EP X a b Q) X.xe s
def zBe (K:aO) (l m:TE) (k:V->V->Hp->VK->Prop) (f:Str):TS:=λD c H=>l c H λx d=>∃a C j h v,x=.ref a/\d a=some (.ins C j h)/\mf K C/\i4 K C f/\h.lookup f=some v/\
 m c d λy i=>k v y i λz e=>∃g b,e a=some (.ins C g b)/\b.length<1000/\D.nx c (upd e a (.ins C g (aj f z b)))
section
theorem cI (m:PE X e ta) (k:attributeBase e f X.env (eval e X.env)=eval e X.env):PE X (.Attribute e f pos) (SI X.K ta f):=by intro o s y H Q I h;refine zCo k (ax (m o s y H _ I h) λu B t=>?_);obtain ⟨x,b,d,r,a,C,z,A,v,j,i,c,n,l,q⟩:=t;subst j;obtain rfl:u=Value.ref a:=r;exact RQ d i c n l λE D g p=>⟨v,b,g,p,q⟩
theorem kL (r:PE X o ta) (v:PE X value J) (t:swapsWith value (some (.Attribute o f pos')) pos.line X.env=pure false):PS X (.Assign [.Attribute o f pos'] value pos) (Â X.K ta J f):=by intro e s d H D I h;refine Wf (ax (v e s d H _ I h) λu F b=>L2.eQ b λy g i E q=>ax (r e F d g _ i q) λz N b=>?_) t;obtain ⟨x,G,j,B,a,C,L,M,p,m,c,n,l,A⟩:=b;subst p;obtain rfl:z=Value.ref a:=B;exact RB j m c n l E λO k=>⟨d,_,k,A⟩
theorem Yo (A:PE X o ta) (E:PE X value tv) (B:Sk X op rd):PS X (.AugAssign (.Attribute o f tpos) op value pos) (zBe X.K ta tv rd f):=by intro e s d H D I h;refine wpAny_AugAssign_AttributeAny (ax (A e s d H _ I h) λG s1 b=>?_);obtain ⟨x1,g,j,N,a,C,W,fs,v,z,t,c,n,l,q⟩:=b;subst z;obtain rfl:G=Value.ref a:=N;refine RQ j t c n l λu R k M=>ax (E e R d g _ k q) λT S b=>L2.eQ b λy i m O J=>ax (B e S d i v y u T _ m M O J) λw4 s4 b=>?_;obtain ⟨x2,V,p,Q,Fd,fs',x,F,L⟩:=b;exact RB p x c n F Q λs5 r=>⟨d,_,r,L⟩
def ZX:V->V->Hp->VK->Prop:=λx y H Q=>∃i j,x=.int i/\y=.int j/\Q (.int (i+j)) H
theorem Ϧ:Sk X .Add ZX:=by rintro d s e H x y u v Q I b c ⟨i,j,rfl,rfl,q⟩;obtain ⟨t,rfl⟩:=(show ∃t,u=Value.int i t from b);obtain ⟨a,rfl⟩:=(show ∃a,v=Value.int j a from c);exact PyProof.Rows.iadd_int ⟨.int (i+j),H,I.tok _,⟨_,U⟩,q⟩
end
section
end
structure cR (k:Nat) (A:Around):Prop where
 hd:A.handled=none
 dp:A.depth+3*k+5<recursionLimit
 un:A.units+16*k+200<cLine
theorem cR.mono (r:cR k A) (h:j<=k):cR j A:=⟨r.hd,by have:=r.dp;exact X7 this h,by have:=r.un;exact XW this h⟩
theorem cR.deeper (r:cR (k+1) A) (env:Env):cR k (A.deeper env):=
 ⟨r.hd,by have:=r.dp;show A.depth+1+3*k+5<_;exact I' this,by have:=r.un;show A.units+3+16*k+200<_;exact Q9 this⟩
theorem YE {A:Around} {C:Addr} {us:List Value} {a:List (Str×Value)}:(A.under (.builtin "type.__call__" ⟨.ref C::us,a⟩)).depth=A.depth+1:=by first | rfl | simp [Around.under,Code.weight,Code.isCreation,Code.isGuard,Code.isCaller,Code.frames,Code.isFrame,guardIds]
theorem YF {A:Around} {C:Addr} {us:List Value} {a:List (Str×Value)}:(A.under (.builtin "type.__call__" ⟨.ref C::us,a⟩)).units=A.units+1:=by first | rfl | simp [Around.under,Code.cUnits,Code.frames,Code.isFrame]
theorem cR.make (r:cR (k+1) A) (C:Addr) (us:List Value) (a:List (Str×Value)):cR k (A.under (.builtin "type.__call__" ⟨.ref C::us,a⟩)):=
 ⟨r.hd,by have:=r.dp;rw [YE];exact I' this,by have:=r.un;rw [YF];exact XT this⟩
theorem cR.depth (r:cR k A):A.depth<recursionLimit:=by have:=r.dp;exact QV this
theorem cR.units (r:cR k A):A.units+64<cLine:=by have:=r.un;exact QC this
def qp:TA:=λ_ H Q=>Q [] H
def jL (d:TE) (e:TA):TA:=λa H Q=>d a H λx b=>e a b λf c=>Q (x::f) c
section
theorem oS:PA X [] qp:=λ_ _ _ _ H Q I h=>Calls.spliced_nil ⟨[],H,I,.nil,h⟩
theorem oU (k:PE X e J) (l:PA X C t) (m:autoParam (starEach (e::C) X.env=(false,eval e X.env)::starEach C X.env) t10._auto_1):PA X (e::C) (jL J t):=by intro c b s d H Q I h;rw [m];show wpAny _ _ (spliced ((false,eval e X.env)::backTo c (starEach C X.env))) _ _ s;refine Calls.spliced_cons (ax (k b s d H _ I h) λu r a=>?_);obtain ⟨x,f,i,p,n⟩:=a;exact ax (l c b r d f _ i n) λz y a=>L2.eQ a λv g j q o=>⟨x::v,g,j,.cons p q,o⟩
theorem eH {n:Nat} (h:Nat.ble n sizeLine=true):n<=sizeLine:=Nat.le_of_ble_eq_true h
theorem cx {X:Cx} {x:Str} {e:Expr} {c:TE} {a b:Pos} (i:Nat) (d:X.N.Nodup) (f:PE X e c) (h:autoParam (X.N[i]?=some x) t10._auto_1) (k:autoParam (Loc X.env.scope x) t17._auto_1) (j:autoParam (swapsWith e (some (.Name x b)) a.line X.env=pure false) t10._auto_1) (g:autoParam (X.fn x=true\/X.env.scope.names.lookup x=some .local) t15._auto_1):PS X (.Assign [.Name x b] e a) (Ag c (uQ i)):=ra (i:=i) d h k f j g
theorem cf {X:Cx} {x:Str} {e:Pos} (i:Nat) (a:X.N.Nodup) (c:autoParam (X.N[i]?=some x) t10._auto_1) (d:autoParam (Loc X.env.scope x) t17._auto_1) (b:autoParam (X.fn x=true\/X.env.scope.names.lookup x=some .local) t15._auto_1):PG X (.Name x e) (uQ i):=Pp (i:=i) a c d b
theorem aY {X:Cx} {a:Expr} {b:TE} (c:PE X a b) (d:autoParam (starEach [a] X.env=(false,eval a X.env)::starEach [] X.env) t10._auto_1):PA X [a] (jL b qp):=oU c oS d
theorem bo {X:Cx} {a b:Expr} {c d:TE} (e:PE X a c) (f:PE X b d) (g:autoParam (starEach [a,b] X.env=(false,eval a X.env)::starEach [b] X.env) t10._auto_1) (h:autoParam (starEach [b] X.env=(false,eval b X.env)::starEach [] X.env) t10._auto_1):PA X [a,b] (jL c (jL d qp)):=oU e (aY f h) g
theorem ia {X:Cx} {a b c:Expr} {d e f:TE} (g:PE X a d) (h:PE X b e) (i:PE X c f) (j:autoParam (starEach [a,b,c] X.env=(false,eval a X.env)::starEach [b,c] X.env) t10._auto_1) (k:autoParam (starEach [b,c] X.env=(false,eval b X.env)::starEach [c] X.env) t10._auto_1) (l:autoParam (starEach [c] X.env=(false,eval c X.env)::starEach [] X.env) t10._auto_1):PA X [a,b,c] (jL d (jL e (jL f qp))):=oU g (bo h i k l) j
theorem kQ {X:Cx} {a b c d:Expr} {e f g h:TE} (i:PE X a e) (j:PE X b f) (k:PE X c g) (l:PE X d h) (m:autoParam (starEach [a,b,c,d] X.env=(false,eval a X.env)::starEach [b,c,d] X.env) t10._auto_1) (n:autoParam (starEach [b,c,d] X.env=(false,eval b X.env)::starEach [c,d] X.env) t10._auto_1) (o:autoParam (starEach [c,d] X.env=(false,eval c X.env)::starEach [d] X.env) t10._auto_1) (p:autoParam (starEach [d] X.env=(false,eval d X.env)::starEach [] X.env) t10._auto_1):PA X [a,b,c,d] (jL e (jL f (jL g (jL h qp)))):=oU i (ia j k l n o p) m
def Kc (t:TA):TE:=λc H Q=>t c H λb a=>b.length<=sizeLine/\∀p,a p=none->Q (.ref p) (upd a p (.tup b))
def Ú (t:TA):TE:=λc H Q=>t c H λb a=>b.length<=sizeLine/\∀p,a p=none->Q (.ref p) (upd a p (.lst b))
theorem f9 {J} (h:PA X C t):PE X (.Tuple C J pos) (Kc t):=by intro i s m H Q I g;refine wpAny_Tuple_spliced (ax (h pos i s m H _ I g) λj a l=>?_);obtain ⟨k,c,d,r,z,q⟩:=l;refine ⟨by rw [<-r.length];exact z,?_⟩;have f:c a.heap.objs.size=none:=d.aA.fresh (ay _);refine ⟨.ref a.heap.objs.size,upd c a.heap.objs.size (.tup k),d.laid (t':=a.toks) (λb u e=>cZ _ e) (ay _) ?_,U,q _ f⟩;exact ⟨z,j,r,⟨_,iT _ U,U,_,U⟩⟩
theorem iW (h:PA X C t):PE X (.List C pos) (Ú t):=by intro i s m H Q I g;refine wpAny_List_spliced (ax (h pos i s m H _ I g) λj a l=>?_);obtain ⟨k,c,d,r,z,q⟩:=l;refine ⟨by rw [<-r.length];exact z,?_⟩;have f:c a.heap.objs.size=none:=d.aA.fresh (ay _);refine ⟨.ref a.heap.objs.size,upd c a.heap.objs.size (.lst k),d.laid (t':=a.toks) (λb u e=>cZ _ e) (ay _) ?_,U,q _ f⟩;exact ⟨z,j,0,r,iT _ U⟩
end
abbrev Sp:=List V->Hp->VK->XK->Prop
abbrev mh:=List Env->Hp->Shared->XK->Value->Shared->Prop
structure qS (P:Program) (w:World) (K:aO) (mg:Str->Option Value) (base:Heap) (A:Around) (outer:List Env) (s:Shared) (H:Hp):Prop where
 frames:A.frames=some outer
 mod:Mod K mg base
 bs:∀b o,base.get? b=some o->s.heap.get? b=some o/\H b=none
 mV:base.objs.size<=s.heap.objs.size
 eM:s.heap.FunFrames base outer
 oa:∀b∈gr outer,H b=none
 aA:dq P w H s.heap
 bare:AllBare s.gens
def CE (b:List Env) (P:Program) (w:World) (H:Hp) (s:Shared) (Q:VK) (u:Value) (s':Shared):Prop:=
 ∃v a,s'.os=s.os/\AllBare s'.gens/\Un (gr b) [] H a s.heap s'.heap/\dq P w a s'.heap/\bQ v u/\Q v a
def CR (CX:mh) (a:List Env) (P:Program) (w:World) (H:Hp) (s:Shared) (Q:VK) (E:XK) (r:Result) (s':Shared):Prop:=
 match r with
 | .ok (.ret u)=>CE a P w H s Q u s'
 | .ok _=>False
 | .error e=>CX a H s E e s'
structure aq (P:Program) (w:World) (K:aO) (mg:Str->Option Value) (base:Heap) (CX:mh) (k:Nat) (f:Addr) (fd:FuncData) (ps:List Str) (sp:Sp):Prop where
 len:∀vs H Q E,sp vs H Q E->vs.length=ps.length
 run:∀(A:Around) (outer:List Env) (s:Shared) (H:Hp) (args:Args) (us:List Value) (vs:List V) (Q:VK) (E:XK),cR k A->qS P w K mg base A outer s H->BindsTo s fd args (ps.zip us)->a_ vs us->sp vs H Q E->
  codeAny (model P w) A (.call (.ref f) args) (CR CX outer P w H s Q E) s
theorem qS.make {A:Around} {a:List Env} {s:Shared} {H:Hp} (e:qS P w K mg base A a s H) (C:Addr) (us:List Value) (b:List (Str×Value)):
 qS P w K mg base (A.under (.builtin "type.__call__" ⟨.ref C::us,b⟩)) a s H:=⟨by first | exact e.frames | (simpa [Around.under,Code.envs,Code.isFrame,pushEnvs] using e.frames),e.mod,e.bs,e.mV,e.eM,e.oa,e.aA,e.bare⟩
section
theorem Inv.sX (I:Inv X pins σ H s):qS X.prog X.w X.K X.mg X.base X.A X.stack s H:=
 ⟨I.ok.frames,I.ok.mod,I.bs,cP I.ok.mV I.sz,I.stack,I.gC,I.aA,I.bare⟩
theorem Inv.after (I:Inv X pins σ H s) (h:CE X.stack X.prog X.w H s Q u s'):EP X pins σ Q u s':=by obtain ⟨v,a,i,c,k,f,r,q⟩:=h;obtain ⟨e,g,d,t,j⟩:=s';obtain rfl:j=s.os:=i;exact ⟨v,a,I.call (h':=e) (g':=g) (d':=d) (t':=t) (ch:=[]) k f c (λb z=>absurd z (by simp)),r,q⟩
end
def Tc (sp:Sp) (b:List V) (E:XK) (t:TA):TE:=λd H Q=>t d H λc a=>sp (c++b) a Q E
def i9 (C:Addr) (m:Str) (x:V) (H:Hp) (R:Prop):Prop:=∃a c b,x=.ref a/\H a=some (.ins C c b)/\b.lookup m=none/\R
def Km (C:Addr) (m:Str) (sp:Sp) (d:List V) (E:XK) (e:TE) (t:TA):TE:=λb H Q=>e b H λx a=>i9 C m x a (t b a λf c=>sp (x::(f++d)) c Q E)
def ύ (C:Addr) (sp:Sp) (d:List V) (E:XK) (t:TA):TE:=λf H Q=>t f H λe b=>∀x a,b x=none->b a=none->a≠x->
 sp (.ref x::(e++d)) (upd (upd b a (.own x)) x (.ins C a [])) (λv c=>v=.aG/\Q (.ref x) c) E
def dm (K:aO) (d:FuncData) (c:List Str) (b:List Value):Prop:=
 ∀(s:Shared) (a:List Value),K.In s.heap->(a++b).length=c.length->BindsTo s d ⟨a,[]⟩ (c.zip (a++b))
theorem dm.all {b:FuncData} {a:List Str} (h:∀us:List Value,us.length=a.length->bindArgs b ⟨us,[]⟩=pure (a.zip us)):dm K b a []:=λs us _ c=>by rw [lZ] at c ⊢;exact .of_eq (h us c)
def kK (CX:mh) (X:Cx) (E:XK):Prop:=∀(b:List (Addr×Obj)) (c:St) (H:Hp) (s:Shared) (e:Value) (a:Shared),Inv X b c H s->CX X.stack H s E e a->X.xe e a
section
theorem HB (F:aq X.prog X.w X.K X.mg X.base CX k f fd ps sp) (j:cR k X.A) (d:dm X.K fd ps ds) (g:a_ C ds) (l:kK CX X E)
 (I:Inv X pins σ H s) (r:a_ vs us) (h:sp (vs++C) H Q E):wpAny (model X.prog X.w) X.A (call (.ref f) us) (EP X pins σ Q) X.xe s:=by
 have b:a_ (vs++C) (us++ds):=r.append g;have i:(us++ds).length=ps.length:=by rw [<-b.length];exact F.len _ _ _ _ h
 refine qK (yN (F.run X.A X.stack s H ⟨us,[]⟩ (us++ds) (vs++C) Q E j I.sX (d s us I.fj i) b h) λr m a=>?_)
 cases r with
 | error e=>exact l pins σ H s e m I a
 | ok c=>
  cases c with
  | ret u=>exact I.after a
  | next=>exact iB a
  | brk=>exact iB a
  | cont=>exact iB a
theorem zBq (F:aq X.prog X.w X.K X.mg X.base CX k f fd ps sp) (o:cR k X.A) (j:Gl X x) (m:X.mg x=some (.ref f)) (l:W.keepIn X.K (.ref f)=true) (c:dm X.K fd ps ds) (d:a_ J ds) (u:kK CX X E)
 (b:PA X (e::C) t) (g:autoParam ((x==("__debug__":Str))=false) t12._auto_1) (i:autoParam (starEach (e::C) X.env=(false,eval e X.env)::starEach C X.env) t10._auto_1) (n:autoParam ((backTo pos (starEach C X.env)).any (·.1)=false) t10._auto_1):
 PE X (.Call (.Name x p) (e::C) [] pos) (Tc sp J E t):=by
 intro v s z H Q I h;refine xf (rj I j m ?_ g);refine yY (h₀:=X.base) I.ok.mod.sI l (ax (b pos v s z H _ I h) λD B y=>L2.eQ y λG A a r q=>⟨a.fj,?_⟩) i n;exact HB F o c d u a r q
theorem gq (D:PE X o ta) (c:mf X.K C) (i:fV X.K C m f) (F:aq X.prog X.w X.K X.mg X.base CX k f fd ps sp) (L:cR k X.A) (A:dm X.K fd ps ds) (B:a_ Bi ds) (O:kK CX X E) (z:PA X (e::J) t)
 (M:autoParam (starEach (e::J) X.env=(false,eval e X.env)::starEach J X.env) t10._auto_1) (G:autoParam ((backTo pos (starEach J X.env)).any (·.1)=false) t10._auto_1)
 (N:autoParam (eval (.Call (.Attribute o m apos) (e::J) [] pos) X.env=(do
  let j <-eval o X.env
  standAt apos.atName
  let (f,first) <-holding [j] (getMethod j m pl)
  callWith pos f first (backTo pos (starEach (e::J) X.env)) (backToKw pos (keywordEach [] X.env)))) t10._auto_1):
 PE X (.Call (.Attribute o m apos) (e::J) [] pos) (Km C m sp Bi E ta t):=by
 intro n s p H Q I h;refine PySem.W.methodCall_KW (pl:=pl) (ax (D n s p H _ I h) λu T b=>?_) N;obtain ⟨x1,v,d,S,a,W,Y,y,x,l,q⟩:=b;subst y;obtain rfl:u=Value.ref a:=S;refine RS d x c i l ?_;refine yY (first:=[.ref a]) (h₀:=X.base) I.ok.mod.sI i.kp (ax (z pos n T p v _ d q) λus s2 b=>L2.eQ b λvs V g r R=>⟨g.fj,?_⟩) M G;exact HB (us:=.ref a::us) (vs:=.ref a::vs) F L A B O g (.cons U r) R
theorem oX (p:PE X o ta) (c:mf X.K C) (d:fV X.K C m f) (F:aq X.prog X.w X.K X.mg X.base CX k f fd ps sp) (r:cR k X.A) (j:dm X.K fd ps ds) (n:a_ J ds) (v:kK CX X E)
 (t:autoParam (eval (.Call (.Attribute o m apos) [] [] pos) X.env=(do
  let e <-eval o X.env
  standAt apos.atName
  let (f,first) <-holding [e] (getMethod e m pl)
  callWith pos f first (backTo pos (starEach [] X.env)) (backToKw pos (keywordEach [] X.env)))) t10._auto_1):
 PE X (.Call (.Attribute o m apos) [] [] pos) (Km C m sp J E ta qp):=by
 intro y s B H Q I h;refine W.methodCall_KW (pl:=pl) (ax (p y s B H _ I h) λu M A=>?_) t;obtain ⟨x,D,b,z,a,G,L,i,g,l,q⟩:=A;subst i;obtain rfl:u=Value.ref a:=z;refine RS b g c d l ?_;exact W.callWith_K0 (first:=[.ref a]) b.fj d.kp (HB (us:=[.ref a]) (vs:=[.ref a]) F r j n v b (.cons rfl .nil) q)
structure Mk (K:aO) (C f:Addr):Prop where
 makes:W.makesIn K C=true
 init:W.findIn K (.ref C) "__init__"=some (some (.ref f))
 fn:W.isFn K (.ref f)=true
 kp:W.keepIn K (.ref C)=true
theorem X2 (M:Mk X.K C f) (F:aq X.prog X.w X.K X.mg X.base CX k f fd ps sp) (q:cR (k+1) X.A) (n:dm X.K fd ps ds) (o:a_ J ds)
 (t:kK CX X E) (I:Inv X pins σ H s) (r:a_ vs us)
 (h:∀x dx,H x=none->H dx=none->dx≠x->sp (.ref x::(vs++J)) (upd (upd H dx (.own x)) x (.ins C dx [])) (λv i=>v=.aG/\Q (.ref x) i) E):
 wpAny (model X.prog X.w) X.A (call (.ref C) us) (EP X pins σ Q) X.xe s:=by
 have c:=h (s.heap.objs.size+1) s.heap.objs.size (I.aA.fresh (lb _)) (I.aA.fresh (ay _)) (gv (Bx _));have b:=Inv.made (C:=C) I;have d:a_ (V.ref (s.heap.objs.size+1)::(vs++J)) (Value.ref (s.heap.objs.size+1)::(us++ds)):=.cons U (r.append o);have p:(Value.ref (s.heap.objs.size+1)::us++ds).length=ps.length:=by have e:=d.length;rw [F.len _ _ _ _ c] at e;exact e.symm
 refine qK (WK (f:=f) I.fj M.makes M.init (beq_iff_eq.mp M.fn) (yN (F.run _ X.stack _ _ ⟨Value.ref (s.heap.objs.size+1)::us,[]⟩ (Value.ref (s.heap.objs.size+1)::(us++ds)) _ _ E (q.make C us [])
  (b.sX.make C us []) (n _ (Value.ref (s.heap.objs.size+1)::us) b.fj p) d c) λr A a=>?_))
 cases r with
 | error e=>exact t pins σ _ _ e A b a
 | ok m=>
  cases m with
  | ret u=>
   obtain ⟨v,g,j,z,l,y⟩:=b.after a;subst l;exact ⟨z,⟨V.ref (s.heap.objs.size+1),g,j,U,y⟩⟩
  | next=>exact iB a
  | brk=>exact iB a
  | cont=>exact iB a
theorem Cr (M:Mk X.K C f) (F:aq X.prog X.w X.K X.mg X.base CX k f fd ps sp) (n:cR (k+1) X.A) (j:Gl X x) (l:X.mg x=some (.ref C)) (c:dm X.K fd ps ds) (d:a_ Bi ds) (o:kK CX X E)
 (b:PA X (e::J) t) (g:autoParam ((x==("__debug__":Str))=false) t12._auto_1) (i:autoParam (starEach (e::J) X.env=(false,eval e X.env)::starEach J X.env) t10._auto_1) (m:autoParam ((backTo pos (starEach J X.env)).any (·.1)=false) t10._auto_1):
 PE X (.Call (.Name x p) (e::J) [] pos) (ύ C sp Bi E t):=by
 intro u s y H Q I h;refine xf (rj I j l ?_ g);refine yY (h₀:=X.base) I.ok.mod.sI M.kp (ax (b pos u s y H _ I h) λB A v=>L2.eQ v λD z a r q=>⟨a.fj,?_⟩) i m;exact X2 M F n c d o a r q
end
section
end
structure bR (N P:List Str) (sc:Scope):Prop where
 kind:sc.kind=.function
 co:sc.isCoroutine=false
 gen:sc.isGenerator=false
 nd:N.Nodup
 pre:N.take P.length=P
 par:∀x∈P,sc.names.lookup x=some .local\/sc.names.lookup x=some .cell
 pM:∀y∈sc.names,y.2≠.free
theorem cD {N P:List Str} {sc:Scope} (a:autoParam (sc.kind=.function) t10._auto_1) (b:autoParam (sc.isCoroutine=false) t10._auto_1) (c:autoParam (sc.isGenerator=false) t10._auto_1) (d:autoParam (N.Nodup) t13._auto_1) (e:autoParam (N.take P.length=P) t10._auto_1) (f:autoParam (∀x∈P,sc.names.lookup x=some .local\/sc.names.lookup x=some .cell) t13._auto_1) (g:autoParam (∀y∈sc.names,y.2≠.free) t13._auto_1):bR N P sc:=⟨a,b,c,d,e,f,g⟩
theorem QF {c:Str->Option NameKind} {x:Str}:∀{a:List (Str×Value)} {m:Str->Option Value},(∀v,(x,v)∉a)->bindL c a m x=m x
 | [],_,_=>rfl
 | (n,v)::r,m,h=>by
  unfold bindL;rw [QF λw b=>h w (iO _ b)];split
  ·have:x≠n:=by rintro rfl;exact h v gw
   simp [this]
  ·rfl
theorem Q_ {c:Str->Option NameKind} {x:Str}:∀{a:List (Str×Value)} {m:Str->Option Value},(∀v,(x,v)∉a)->bindC c a m x=m x
 | [],_,_=>rfl
 | (n,v)::r,m,h=>by
  unfold bindC;rw [Q_ λw b=>h w (iO _ b)];split
  ·rfl
  ·have:x≠n:=by rintro rfl;exact h v gw
   simp [this]
theorem IQ {c:Str->Option NameKind} {x:Str} {v:Value}:∀{P:List Str} {vs:List Value} {i:Nat} {m:Str->Option Value},P.Nodup->P[i]?=some x->vs[i]?=some v->c x=some .local->
 bindL c (P.zip vs) m x=some v
 | [],_,_,_,_,h,_,_=>by simp at h
 | _::_,[],_,_,_,_,h,_=>by simp at h
 | p::P,w::vs,0,m,e,a,b,d=>by simp at a b;subst a;subst b;show bindL c ((p,w)::P.zip vs) m p=_;unfold bindL;rw [QF λv f=>(List.nodup_cons.mp e).1 (Ft f).1,if_pos d];simp
 | p::P,w::vs,i+1,m,e,a,b,d=>by show bindL c ((p,w)::P.zip vs) m x=_;unfold bindL;exact IQ (i:=i) (List.nodup_cons.mp e).2 (by simpa using a) (by simpa using b) d
theorem JG {c:Str->Option NameKind} {x:Str} {v:Value}:∀{P:List Str} {vs:List Value} {i:Nat} {m:Str->Option Value},P.Nodup->P[i]?=some x->vs[i]?=some v->c x≠some .local->
 bindC c (P.zip vs) m x=some v
 | [],_,_,_,_,h,_,_=>by simp at h
 | _::_,[],_,_,_,_,h,_=>by simp at h
 | p::P,w::vs,0,m,e,a,b,d=>by simp at a b;subst a;subst b;show bindC c ((p,w)::P.zip vs) m p=_;unfold bindC;rw [Q_ λv f=>(List.nodup_cons.mp e).1 (Ft f).1,if_neg d];simp
 | p::P,w::vs,i+1,m,e,a,b,d=>by show bindC c ((p,w)::P.zip vs) m x=_;unfold bindC;exact JG (i:=i) (List.nodup_cons.mp e).2 (by simpa using a) (by simpa using b) d
noncomputable def gp (N:List Str) (vs:List V):St:=vs.map some++List.replicate (N.length-vs.length) none
def lq (CX:mh) (P:Program) (w:World) (K:aO) (mg:Str->Option Value) (base:Heap) (N:List Str) (b:Str) (scope:Scope) (f:Addr) (a:Value) (A:Around) (outer:List Env) (s:Shared) (H:Hp) (E:XK):Cx where
 prog:=P
 w:=w
 K:=K
 mg:=mg
 base:=base
 A:=A.deeper (envOfC b scope s.heap.objs.size f a)
 N:=N
 bS:=s
 gk:=H
 env:=envOfC b scope s.heap.objs.size f a
 outer:=outer
 stack:=envOfC b scope s.heap.objs.size f a::outer
 ex:=[]
 calm:=true
 fn:=λ_=>true
 pn:=[]
 xe:=λe g=>wpAny (model P w) (A.deeper (envOfC b scope s.heap.objs.size f a)) (leaving (envOfC b scope s.heap.objs.size f a) e) (λ_ c=>CX outer H s E e c) (λd c=>CX outer H s E d c) g
theorem CF {a:Scope} {n:Nat} {x:Str} (h:a.names.lookup x=some .cell):∃c,(cellsFrom n a.names []).lookup x=some c:=by have q:=Nr a.names n [] (.inl h);exact Option.isSome_iff_exists.mp q
theorem Yb {CX:mh} {N l:List Str} {C:Str} {scope:Scope} {f:Addr} {t:Value} {A:Around} {F:List Env} {s s1:Shared} {H:Hp} {E:XK} {us:List Value} {vs:List V}
 (S:bR N l scope) (O:A.handled=none) (g:qS P w K mg base A F s H) (I:vs.length=l.length) (r:a_ vs us)
 (x:InCallC s s.heap.objs.size (bindL (envOfC C scope s.heap.objs.size f t).kindOf (l.zip us) λ_=>none) (cellsFrom (s.heap.objs.size+1) scope.names []) (bindC (envOfC C scope s.heap.objs.size f t).kindOf (l.zip us) λ_=>none) s1):
 Inv (lq CX P w K mg base N C scope f t A F s H E) [] (gp N vs) H s1:=by
 have Q:l.length<=N.length:=by have:=congrArg List.length S.pre;rw [hG] at this;exact QY this
 obtain ⟨B,W,rfl,G⟩:=x.done;have D:∀b:Addr,b∉(lq CX P w K mg base N C scope f t A F s H E).ex:=λb z=>absurd (show b∈([]:List Addr) from z) (by simp);refine ⟨⟨g.mod,S.kind,U,U,ay _,λy z c B d=>?_,λy j=>?_,λy c _ h=>?_,λ_=>O,Around.frames_deeper g.frames,.inr ⟨U,U⟩,λb z=>absurd z (D b),g.bs,g.mV,λb _ _=>D b,λb z=>absurd z (D b),g.eM,g.oa⟩,
  rfl,g.bare,Un.kept G,⟨_,x.toInCall.ns,λi y v B d T=>?_⟩,λy c h=>⟨_,x.cell y c h⟩,g.aA.fresh (ay _),λy c h=>?_,λp o=>absurd (show p∈([]:List (Addr×Obj)) from o) (by simp),g.aA.kept G,?_⟩
 ·exact name_of_addr x.apart (qh B) (qh d)
 ·have j:scope.names.lookup y=some .cell\/scope.names.lookup y=some .free:=j;rcases j with j | j
  ·exact CF j
  ·exact absurd U (S.pM _ (qh j))
 ·exact bf (x.above y c (qh h))
 ·have m:i<vs.length:=by
   unfold gp at d
   by_cases m:i<vs.length
   ·exact m
   ·rw [oz (by simpa using m)] at d;rw [FQ] at d;split at d<;>cases d
  have M:vs[i]?=some v:=by
   unfold gp at d;rw [oI (by simpa using m),dA] at d
   cases e:vs[i]? with
   | none=>rw [e] at d;cases d
   | some a=>rw [e] at d;cases d;rfl
  obtain ⟨u,J,R⟩:=r.get M;have o:l[i]?=some y:=by rw [<-S.pre,FZ (C_ m I)];exact B
  have L:l.Nodup:=by rw [<-S.pre];exact S.nd.sublist (List.take_sublist _ _)
  refine ⟨u,R,?_⟩;rcases S.par y (eR o) with k | k
  ·exact .inl ⟨k,IQ L o J k⟩
  ·obtain ⟨c,e⟩:=CF (n:=s.heap.objs.size+1) k;refine .inr ⟨.inl k,c,e,?_⟩;have q:=x.cell y c e;rw [JG L o J (by show scope.names.lookup y≠_;rw [k];decide)] at q;exact q
 ·exact g.aA.fresh (bf (x.above y c (qh h)))
 ·unfold gp;show _=N.length;rw [iD,az,GJ];exact QU I Q
theorem SS {CX:mh} {k:Nat} {f:Addr} {name d:Str} {O:Arguments} {m:List Stmt} {scope:Scope} {C L D R c B oc:Value} {z od:Option Addr}
 {As:Array (Option Value)} {N j:List Str} {sp:Sp} (lk:K.lookup f=some ⟨oc,od,.func (PySem.W.fnOf name d O m scope C L D R z c B),As⟩) (Y:PySem.W.codeIn K c d=true) (S:bR N j scope)
 (M:∀vs H Q E,sp vs H Q E->vs.length=j.length)
 (X:∀(A:Around) (h:List Env) (s:Shared) (H:Hp) (vs:List V) (Q:VK) (E:XK),cR k (A.deeper (envOfC d scope s.heap.objs.size f c))->sp vs H Q E->
  ∃t,eS (lq CX P w K mg base N d scope f c A h s H E) m t/\t { nx:=λ_ a=>Q .aG a,rt:=Q } (gp N vs) H):
 aq P w K mg base CX (k+1) f (PySem.W.fnOf name d O m scope C L D R z c B) j sp:=by
 refine ⟨M,λA h s H args us vs Q E n i W x2 G=>?_⟩;have hl:=M _ _ _ _ G;have r:K.In s.heap:=i.mod.sI.keeps λb o e=>(i.bs b o e).1;have lim:s.heap.NoLimit:=i.mod.nolimit.keeps λb o e=>(i.bs b o e).1;have pT:∀y∈j.zip us,scope.names.lookup y.1=some .local\/(scope.names.lookup y.1=some .cell/\((cellsFrom (s.heap.objs.size+1) scope.names []).lookup y.1).isSome=true):=λ⟨x1,v⟩ hy=>by
  rcases S.par x1 (Ft hy).1 with q | q
  ·exact .inl q
  ·exact .inr ⟨q,Nr _ _ _ (.inl q)⟩
 refine codeAny_call_function n.depth (r _ _ lk) U S.co S.gen U (PySem.W.codeRec_of r Y) (W _ _ _ _ ?_);refine Wa S.kind pT λenv Z s1 x=>?_;subst Z;refine ⟨lim.keeps x.toInCall.keep,codeAny_func ?_⟩;obtain ⟨t,ht,hq⟩:=X A h s H vs Q E (n.deeper _) G;have I:Inv (lq CX P w K mg base N d scope f c A h s H E) [] (gp N vs) H s1:=Yb S n.hd i hl x2 x;refine gS (ht [] s1 (gp N vs) H _ I hq) (λT s' g=>?_) λe s' g=>g;have F:∀{l:St} {a:Hp} {v:V} {u:Value},Inv (lq CX P w K mg base N d scope f c A h s H E) [] l a s'->bQ v u->Q v a->CE h P w H s Q u s':=
  λ{l a v u} J p q=>⟨v,a,J.os,J.bare,J.base,J.aA,p,q⟩
 cases T with
 | ret u=>
  obtain ⟨v,l,a,J,p,q⟩:=g;exact F J p q
 | next=>
  obtain ⟨l,a,J,q⟩:=g;exact F (v:=V.aG) (u:=Value.none) J U q
 | brk=>
  obtain ⟨_,_,_,q⟩:=g;exact iB q
 | cont=>
  obtain ⟨_,_,_,q⟩:=g;exact iB q
section
variable {id T:String}
def TJ (r:List V->Hp->VK->Prop) (t:TA):TE:=λc H Q=>t c H λb a=>r b a Q
theorem i7 (g:oO X (.builtin id) r) (k:Gl X x) (l:X.mg x=none) (o:bootBuiltins x=some (.builtin id)) (f:PA X (e::C) t) (m:autoParam (x≠"__name__") t12._auto_1) (i:autoParam ((x==("__debug__":Str))=false) t12._auto_1)
 (j:autoParam (starEach (e::C) X.env=(false,eval e X.env)::starEach C X.env) t10._auto_1) (n:autoParam ((backTo pos (starEach C X.env)).any (·.1)=false) t10._auto_1):PE X (.Call (.Name x p) (e::C) [] pos) (TJ r t):=by
 intro a s b H Q I h;refine xf (xF I k l o ?_ m i);exact We (ax (f pos a s b H _ I h) λy v A=>L2.eQ A λz c d u q=>g a v b c z y Q d u q) j n
theorem pe (g:oO X (.type T) r) (k:Gl X x) (l:X.mg x=none) (o:bootBuiltins x=some (.type T)) (f:PA X (e::C) t) (m:autoParam (x≠"__name__") t12._auto_1) (i:autoParam ((x==("__debug__":Str))=false) t12._auto_1)
 (j:autoParam (starEach (e::C) X.env=(false,eval e X.env)::starEach C X.env) t10._auto_1) (n:autoParam ((backTo pos (starEach C X.env)).any (·.1)=false) t10._auto_1):PE X (.Call (.Name x p) (e::C) [] pos) (TJ r t):=by
 intro a s b H Q I h;refine xf (xF I k l o ?_ m i);exact Ga (ax (f pos a s b H _ I h) λy v A=>L2.eQ A λz c d u q=>g a v b c z y Q d u q) j n
end
end L2
namespace HT
open PySem PyProof.Rows
section
open PySem.SeqAt
open PySem.AutoSeq1 (wpAny_loadPart')
open PySem.MeetsSeq PySem.MeetsSeq2 PySem.MeetsSeq3
end
section
noncomputable def cn (n d:Nat):Option Int->Nat
 | none=>d
 | some v=>if v<0 then (v+(n:Int)).toNat else min v.toNat n
theorem gE (n d:Nat):cn n d none=d:=U
theorem fh (n d k:Nat):cn n d (some (k:Int))=min k n:=by show (if (k:Int)<0 then ((k:Int)+(n:Int)).toNat else min (k:Int).toNat n)=min k n;rw [if_neg XA,l_]
theorem ϭ (n d:Nat) (b:d<=n) (o:Option Int):cn n d o<=n:=by
 cases o with
 | none=>exact b
 | some v=>
  show (if v<0 then (v+(n:Int)).toNat else min v.toNat n)<=n
  by_cases a:v<0
  ·rw [if_pos a];omega
  ·rw [if_neg a];exact Nat.min_le_right _ _
theorem OQ (v:Int) (n d:Nat):(if v<0 then max (v+(n:Int)) 0 else min v (n:Int))=((cn n d (some v):Nat):Int):=by
 show (if v<0 then max (v+(n:Int)) 0 else min v (n:Int))=(((if v<0 then (v+(n:Int)).toNat else min v.toNat n):Nat):Int)
 by_cases a:v<0
 ·simp only [if_pos a];omega
 ·simp only [if_neg a];omega
theorem YV (b a:Option Int) (n:Nat):Builtin.Slice.sliceAdjust b a 1 (n:Int)=(((cn n 0 b:Nat):Int),((cn n n a:Nat):Int)):=by
 have c:¬((1:Int)<0):=by omega
 unfold Builtin.Slice.sliceAdjust;simp only [c,if_false];refine Prod.ext ?_ ?_
 ·cases b with
  | none=>rfl
  | some v=>exact OQ v n 0
 ·cases a with
  | none=>rfl
  | some v=>exact OQ v n n
theorem YK (i j:Nat):Builtin.Slice.slicePlaces (i:Int) (j:Int) 1=j-i:=by
 unfold Builtin.Slice.slicePlaces;have a:(1:Int)>0:=by omega
 simp only [a,if_true,Int.ediv_one];split<;>omega
theorem RC (p:IsPart v o) (h:Q o s):wpAny (model prog w) A (Builtin.Slice.slicePartIndex v) Q E s:=by
 cases p with
 | none=>exact slicePart_none h
 | int i t=>exact slicePart_int h
theorem Z2 {g:Addr} {e f:Value} {a b:Option Int} {n:Nat} {Q:Int×Int×Nat->Shared->Prop} (i:s.heap.IsSliceOf g e f .none) (pl:IsPart e a) (j:IsPart f b)
 (h:Q (((cn n 0 a:Nat):Int),1,cn n n b-cn n 0 a) s):wpAny (model prog w) A (Builtin.Slice.sliceApplied (.ref g) (pure (n:Int))) Q E s:=by
 obtain ⟨l,d,k,c⟩:=id i;unfold Builtin.Slice.sliceApplied Builtin.Slice.sliceFields;refine ae (ae (i_ d c (x:=e) U (ae (i_ d c (x:=f) U (ae (i_ d c (x:=.none) U (aJ ?_)))))));refine ae (slicePart_none ?_);show wpAny _ _ (if ((1:Int)==0)=true then _ else _) _ _ s;rw [if_neg (by decide)];refine ae (RC pl (ae (RC j (ae (aJ ?_)))));show wpAny _ _ (match Builtin.Slice.sliceAdjust a b 1 (n:Int) with | (a,b)=>pure (a,(1:Int),Builtin.Slice.slicePlaces a b 1)) _ _ s;rw [YV a b n];show wpAny _ _ (pure (((cn n 0 a:Nat):Int),(1:Int),Builtin.Slice.slicePlaces ((cn n 0 a:Nat):Int) ((cn n n b:Nat):Int) 1)) _ _ s;rw [YK];exact aJ h
theorem Xw (xs:Array Value) (i k:Nat):((List.range k).filterMap λ(m:Nat)=>xs[((i:Int)+(m:Int)*1).toNat]?).toArray=((xs.toList.drop i).take k).toArray:=by
 have e:(λ(m:Nat)=>xs[((i:Int)+(m:Int)*1).toNat]?)=λm=>xs[i+m]?:=by
  funext m
  have:((i:Int)+(m:Int)*1).toNat=i+m:=by omega
  rw [this]
 rw [e];have:=pick_run xs i k;rw [List.filterMap_map] at this;have a:((λx=>xs[x]?) ∘ λx=>i+x)=λm=>xs[i+m]?:=U;rw [a] at this;rw [this]
theorem gG {t f:Addr} {a:Array Value} {i j:Value} {b c:Option Int} {Q:Value->Shared->Prop} (d:IsTup s.heap t a) (g:s.heap.IsSliceOf f i j .none) (pl:IsPart i b) (r:IsPart j c)
 (hw:¬(cn a.size 0 b=0/\cn a.size a.size c=a.size))
 (h:Q (.ref s.heap.objs.size) { s with heap:=s.heap.push { cls:=.type "tuple",data:=.seq ((a.toList.drop (cn a.size 0 b)).take (cn a.size a.size c-cn a.size 0 b)).toArray } })
 (hsz:a.size<=sizeLine):wpAny (model prog w) A (getItem (.ref t) (.ref f)) Q E s:=by
 have e:sizeOk (.seq ((a.toList.drop (cn a.size 0 b)).take (cn a.size a.size c-cn a.size 0 b)).toArray):=by show ((a.toList.drop (cn a.size 0 b)).take (cn a.size a.size c-cn a.size 0 b)).toArray.size<=sizeLine;rw [f_,hG,NA,qg];omega
 have v:cn a.size a.size c<=a.size:=ϭ _ _ (ay _) c;obtain ⟨p,o,l,u⟩:=id g;have k:s.TypeIs (.ref f) "slice":=⟨p,o,l⟩;unfold getItem
 try with_reducible refine kX ?_
 first | refine ae (aJ ?_) | skip
 refine ae (wpAny_sequenceKey d.typeIs (by decide) ?_);refine ae (yW (name:=Str.ofString "__getitem__") d.typeIs Nt
  (uG Nt d.typeIs entry_tuple_getitem ?_ (args_tuple_getitem _ _)))
 show wpAny _ _ (Builtin.Tuple.tupleItemsOf (.ref t)>>=_) _ _ s;refine ae (tupleItemsOf_ d ?_);refine ae (Fo k ?_);rw [if_pos (by decide)];refine ae (Z2 g pl r ?_);have n:¬((((cn a.size 0 b:Nat):Int)==0 && (1:Int)==1 && (cn a.size a.size c-cn a.size 0 b)==a.size)=true):=by intro q;rw [mX,mX] at q;have x:((cn a.size 0 b:Nat):Int)=0:=eq_of_beq q.1.1;have y:cn a.size a.size c-cn a.size 0 b=a.size:=eq_of_beq q.2;exact hw ⟨by omega,by omega⟩
 show wpAny _ _ (if (((cn a.size 0 b:Nat):Int)==0 && (1:Int)==1 && (cn a.size a.size c-cn a.size 0 b)==a.size)=true then _ else _) _ _ s;rw [if_neg n,Xw]
 first
  | exact ae (m:=Builtin.Tuple.tupleExact _) (qN (aJ ⟨_,rfl,aJ h⟩) e)
  | exact ae (m:=Builtin.Tuple.tupleExact _) (qN (ae (aJ (aJ ⟨_,rfl,aJ h⟩))) e)
  | exact ae (ae (m:=Builtin.Tuple.tupleExact _) (qN (aJ (aJ ⟨_,rfl,aJ h⟩)) e))
  | exact ae (ae (m:=Builtin.Tuple.tupleExact _) (qN (aJ ⟨_,rfl,aJ h⟩) e))
end
end HT
open HT (cn gE fh)
namespace L2
open PySem PySem.Spec PyProof.Rows
abbrev TO:=St->Hp->(Option Int->Hp->Prop)->Prop
def PO (X:Cx) (e:Option Expr) (t:TO):Prop:=
 ∀(c:List (Addr×Obj)) (s:Shared) (a:St) (H:Hp) (Q:Option Int->Hp->Prop),Inv X c a H s->t a H Q->
  wpAny (model X.prog X.w) X.A (evalPart e X.env) (λu d=>∃o b,Inv X c a b d/\IsPart u o/\Q o b) X.xe s
def zA2:TO:=λ_ H Q=>Q none H
def Ϗ (t:TE):TO:=λb H Q=>t b H λx a=>∃i,x=.int i/\Q (some i) a
section
variable {lo hi:Option Expr}
theorem xM:PO X none zA2:=by intro a s b H Q I h;rw [evalPart_none];exact aJ ⟨none,H,I,.none,h⟩
theorem xN (h:PE X e C):PO X (some e) (Ϗ C):=by intro d s k H Q I c;rw [evalPart_some];refine ax (h d s k H _ I c) λu l j=>?_;obtain ⟨x,a,b,g,f⟩:=j;obtain ⟨i,rfl,q⟩:=f;obtain ⟨t,rfl⟩:=g;exact ⟨some i,a,b,.int i t,q⟩
def GU (X:Cx) (r:V->Option Int->Option Int->Hp->VK->Prop):Prop:=
 ∀(a:List (Addr×Obj)) (s:Shared) (e:St) (H:Hp) (x:V) (v c d:Value) (lo hi:Option Int) (b:Addr) (Q:VK),Inv X a e H s->bQ x v->s.heap.IsSliceOf b c d .none->IsPart c lo->IsPart d hi->r x lo hi H Q->
  ∃T id,typeLookup (.type T) "__getitem__"=pure (some (.builtin id))/\s.TypeIs v T/\wpAny (model X.prog X.w) X.A (getItem v (.ref b)) (EP X a e Q) X.xe s
def tSl (r:V->Option Int->Option Int->Hp->VK->Prop) (e:TE) (tl f:TO):TE:=λa H Q=>e a H λx b=>tl a b λl c=>f a c λu d=>r x l u d Q
theorem xS (C:GU X r) (z:PE X e te) (B:PO X lo tl) (E:PO X hi th):PE X (.Subscript e (.Slice lo hi none J) pos) (tSl r te tl th):=by intro c s d H Q I h;refine Subscript_ (ax (z c s d H _ I h) λv R f=>?_);obtain ⟨x,k,n,O,L⟩:=f;refine wpAny_Slice (ax (B c R d k _ n L) λg S f=>L2.eQ f λl m o F M=>ax (E c S d m _ o M) λi a f=>?_);obtain ⟨u,j,p,G,N⟩:=f;rw [evalPart_none];refine aJ ?_;have t:Inv X c d j { a with heap:=a.heap.push { cls:=.type "slice",data:=.fields #[g,i,.none] } }:=p.kept (t':=a.toks) λb V q=>cZ _ q;obtain ⟨T,id,y,D,A⟩:=C c { a with heap:=a.heap.push { cls:=.type "slice",data:=.fields #[g,i,.none] } } d j x v g i l u a.heap.objs.size Q t O (Heap.IsSliceOf.new ..) F G N;show wpAny (model X.prog X.w) X.A (subscriptTail e (.Slice lo hi none J) v (.ref a.heap.objs.size)) (EP X c d Q) X.xe { a with heap:=a.heap.push { cls:=.type "slice",data:=.fields #[g,i,.none] } };exact tail_any (ops:=[.ref a.heap.objs.size,v]) D y A (by with_unfolding_all rfl)
def kG (xs:List V) (lo hi:Option Int):List V:=(xs.drop (cn xs.length 0 lo)).take (cn xs.length xs.length hi-cn xs.length 0 lo)
theorem RX (xs:List V) (lo hi:Option Int):(kG xs lo hi).length<=xs.length:=by unfold kG;rw [hG,NA];omega
def Á (K:aO):V->Option Int->Option Int->Hp->VK->Prop:=λx lo hi H Q=>∃a b,x=.ref a/\dB K H a b/\
 ¬(cn b.length 0 lo=0/\cn b.length b.length hi=b.length)/\∀p,H p=none->Q (.ref p) (upd H p (.tup (kG b lo hi)))
theorem Cf:GU X (Á X.K):=by
 intro t s A H x v y z lo hi u Q I n g l m h;obtain ⟨a,c,rfl,j,i,q⟩:=h;cases n;obtain ⟨k,r,e,f⟩:=I.tuple j;have d:k.toArray.size=c.length:=by rw [f_];exact r.length.symm
 refine ⟨"tuple",_,Nt.lookup,e.typeIs,?_⟩;refine HT.gG e g l m (by rw [d];exact i) ?_ (by rw [d];exact f);rw [d];refine ⟨.ref s.heap.objs.size,_,I.laid (t':=s.toks) (o:=.tup (kG c lo hi)) (λb p q=>cZ _ q) (ay _) ?_,U,q _ (I.aA.fresh (ay _))⟩;exact ⟨cP (RX c lo hi) f,_,(r.drop (cn c.length 0 lo)).take (cn c.length c.length hi-cn c.length 0 lo),IsTup.new _ _⟩
end
noncomputable def sJ (n:Nat) (i:Int):Option Nat:=if 0<=i then (if i<n then some i.toNat else none) else if-(n:Int)<=i then some (i+n).toNat else none
noncomputable def ic {α:Type} (xs:List α) (i:Int):Option α:=(sJ xs.length i).bind λj=>xs[j]?
theorem OU (h:sJ n i=some j):seqIndex? i n=some j/\j<n/\-(n:Int)<=i/\i<n:=by
 unfold sJ at h
 by_cases b:0<=i
 ·rw [if_pos b] at h
  by_cases a:i<n
  ·rw [if_pos a] at h;have e:i.toNat=j:=ft h;exact ⟨by rw [seqIndex_of b a,e],by omega,by omega,a⟩
  ·rw [if_neg a] at h;cases h
 ·rw [if_neg b] at h
  by_cases a: -(n:Int)<=i
  ·rw [if_pos a] at h;have e:(i+n).toNat=j:=ft h;exact ⟨by rw [seqIndex_neg (tU b) a,e],by omega,a,by omega⟩
  ·rw [if_neg a] at h;cases h
theorem OK (h:ic xs i=some v):∃j,seqIndex? i xs.length=some j/\xs[j]?=some v/\j<xs.length/\-(xs.length:Int)<=i/\i<xs.length:=by
 unfold ic at h
 cases e:sJ xs.length i with
 | none=>rw [e] at h;cases h
 | some j=>
  rw [e] at h;obtain ⟨a,b,c,d⟩:=OU e;exact ⟨j,a,h,b,c,d⟩
theorem je {a:Type} {xs:List a} {j:Nat} {v:a} (h:xs[j]?=some v):ic xs (j:Int)=some v:=by
 have b:j<xs.length:=(eX.mp h).1;have e:sJ xs.length (j:Int)=some j:=by unfold sJ;rw [if_pos (by omega),if_pos (CU b)];simp
 unfold ic;rw [e];exact h
def zCt (b:Expr):Prop:=∀o i,subscripted b false o i=operate [o,i] (getItem o i)
def zb (X:Cx) (r:R2):Prop:=
 ∀(d b:Expr) (a:List (Addr×Obj)) (s:Shared) (c:St) (H:Hp) (x y:V) (v u:Value) (Q:VK),Inv X a c H s->bQ x v->bQ y u->r x y H Q->
  subscripted b false v u=operate [v,u] (getItem v u)->wpAny (model X.prog X.w) X.A (subscriptTail d b v u) (EP X a c Q) X.xe s
def MtR (X:Cx) (id:String) (r:V->List V->Hp->VK->Prop):Prop:=
 ∀(a:List (Addr×Obj)) (s:Shared) (d:St) (H:Hp) (x:V) (c:List V) (v:Value) (b:List Value) (Q:VK),Inv X a d H s->bQ x v->a_ c b->r x c H Q->
  wpAny (model X.prog X.w) X.A (call (.builtin id) (v::b)) (EP X a d Q) X.xe s
section
theorem cV (g:zb X r) (e:PE X a ta) (f:PE X b C) (i:zCt b:=by exact λ_ _=>rfl):PE X (.Subscript a b pos) (vJ r ta C):=by intro j s n H Q I h;exact Subscript_ (JU e f I h λv u m x y c d k l q=>g a b j m n c x y v u Q d k l q (i _ _))
def Z' (K:aO):R2:=λx y H Q=>∃p a i v,x=.ref p/\y=.int i/\ar K H p a/\ic a i=some v/\Q v H
def Sy (K:aO):R2:=λx y H Q=>∃p a i v,x=.ref p/\y=.int i/\dB K H p a/\ic a i=some v/\Q v H
theorem OV:zb X (Z' X.K):=by
 intro R O k s l H x y v u Q I F G h g;obtain ⟨p,S,i,z,rfl,rfl,C,A,q⟩:=h;cases F;obtain ⟨t,rfl⟩:=G;obtain ⟨D,r,d,N⟩:=I.list C;obtain ⟨j,b,m,L,n,o⟩:=OK A;obtain ⟨w,e,E⟩:=r.get m;have B:=r.length;have M:=Ca;have f:EP X k l Q w s:=⟨z,H,I,E,q⟩
 by_cases a:0<=i
 ·have c:i.toNat=j:=by
   rw [seqIndex_of a o] at b;exact ft b
  exact item_listR d.isList a (by omega) (by rw [c];simpa using e) f g
 ·have c:(i+(D.toArray.size:Int)).toNat=j:=by
   rw [seqIndex_neg (tU a) n] at b;rw [f_,<-B];exact ft b
  exact subscriptTail_builtinR (x:=w) d.isList.typeIs slot_list_getitem.lookup
   (wpAny_getItem_list_neg (Q:=λr J=>r=w/\EP X k l Q r J) d.isList (tU a) (by rw [f_]<;>omega) (by omega) (by rw [c];simpa using e) ⟨U,f⟩) g
theorem Tq:zb X (Sy X.K):=by
 intro N M a s c H x y v u Q I A B h n;obtain ⟨p,O,i,z,rfl,rfl,m,k,q⟩:=h;cases A;obtain ⟨t,rfl⟩:=B;obtain ⟨L,r,b,J⟩:=I.tuple m;obtain ⟨j,f,g,D,E,F⟩:=OK k;obtain ⟨w,d,o⟩:=r.get g;have l:=r.length;have G:=Ca;have e:EP X a c Q w s:=⟨z,H,I,o,q⟩;exact subscriptTail_builtinR (x:=w) b.typeIs slot_tuple_getitem.lookup
  (getItem_tuple (j:=j) (Q:=λr C=>r=w/\EP X a c Q r C) b (by omega) (by omega) (by rw [f_,<-l];exact f) (by simpa using d) ⟨U,e⟩) n
theorem YG (its:List Value) (n j:Nat) (u:Value):Obj.mapSeq (·.setIfInBounds j u) { cls:=.type "list",data:=.seq its.toArray n }={ cls:=.type "list",data:=.seq (its.set j u).toArray n }:=by simp [Obj.mapSeq]
theorem Inv.lst (I:Inv X pins σ H s) (h:H p=some (.lst xs)):
 ∃(its:List Value) (n:Nat),a_ xs its/\s.heap.get? p=some { cls:=.type "list",data:=.seq its.toArray n }/\xs.length<=sizeLine:=by
 obtain ⟨z,its,n,r,e⟩:=I.aA p _ h;exact ⟨its,n,r,e,z⟩
theorem Inv.v_ {d:List (Addr×Obj)} {g:St} {H:Hp} {s:Shared} {p:Addr} {xs ys:List V} {its its':List Value} {n a:Nat} {f:Obj->Obj} (I:Inv X d g H s) (h:H p=some (.lst xs))
 (j:s.heap.get? p=some { cls:=.type "list",data:=.seq its.toArray n }) (c:f { cls:=.type "list",data:=.seq its.toArray n }={ cls:=.type "list",data:=.seq its'.toArray a }) (r:a_ ys its') (k:ys.length<=sizeLine) (t:Nat):
 Inv X d g (upd H p (.lst ys)) { s with heap:=s.heap.update p f,toks:=t }:=by
 have e:(s.heap.update p f).get? p=some { cls:=.type "list",data:=.seq its'.toArray a }:=by rw [qc f j (by rw [c]<;>rfl),c]
 refine I.write (x:=p) (e:=p) (by rw [h];trivial) (.inl U) (λb u i q=>(iS _ _ (aK i)).trans q) ⟨_,e⟩ ?_;exact ⟨k,its',a,r,e⟩
def ϛ:V->V->V->Hp->(Hp->Prop)->Prop:=λo i v H Q=>∃p a k j,o=.ref p/\i=.int k/\H p=some (.lst a)/\sJ a.length k=some j/\Q (upd H p (.lst (a.set j v)))
theorem IB:So X ϛ:=by
 intro A s F H o i v M L u Q I C B D h;obtain ⟨p,E,k,j,rfl,rfl,m,y,q⟩:=h;cases C;obtain ⟨t,rfl⟩:=B;obtain ⟨x,n,r,e,z⟩:=I.lst m;obtain ⟨b,G,g,l⟩:=OU y;have d:=r.length;have J:=Ca;have f:Inv X A F (upd H p (.lst (E.set j v))) { s with heap:=s.heap.update p (Obj.mapSeq (·.setIfInBounds j u)) }:=
  I.v_ m e (YG x n j u) (r.set D j) (by rw [Nc];exact z) s.toks
 by_cases a:0<=k
 ·have c:k.toNat=j:=by
   rw [seqIndex_of a l] at b;exact ft b
  exact W.ki_setAt e a (by omega) (by rw [f_,<-d];exact l) (by rw [c];exact ⟨_,f,q⟩)
 ·have c:(k+(x.toArray.size:Int)).toNat=j:=by
   rw [seqIndex_neg (tU a) g] at b;rw [f_,<-d];exact ft b
  exact W.ki_setBack e (tU a) (by rw [f_,<-d];exact g) (by omega) (by rw [c];exact ⟨_,f,q⟩)
theorem Zt (b a:Option Int) (n:Nat):(sliceBounds b a none n).1=((cn n 0 b:Nat):Int)/\(sliceBounds b a none n).2.1=((cn n n a:Nat):Int)/\(sliceBounds b a none n).2.2=1:=by
 refine ⟨?_,?_,U⟩
 ·cases b with
  | none=>simp [sliceBounds,cn]
  | some i=>
   simp only [sliceBounds,cn,Option.getD_none,show (1:Int)>0 by decide,if_true]
   by_cases h:i<0
   ·simp only [h,if_true]<;>omega
   ·simp only [h,if_false]<;>omega
 ·cases a with
  | none=>simp [sliceBounds,cn]
  | some i=>
   simp only [sliceBounds,cn,Option.getD_none,show (1:Int)>0 by decide,if_true]
   by_cases h:i<0
   ·simp only [h,if_true]<;>omega
   ·simp only [h,if_false]<;>omega
theorem Zw (its:List Value) (a b:Option Int):slicePick its.toArray a b none=((its.drop (cn its.length 0 a)).take (cn its.length its.length b-cn its.length 0 a)).toArray:=by obtain ⟨c,d,e⟩:=Zt a b its.toArray.size;unfold slicePick;rw [c,d,e];simp only [sliceRange_one,pick_run,f_]<;>rfl
def À (K:aO):V->Option Int->Option Int->Hp->VK->Prop:=λx d c H Q=>∃a b,x=.ref a/\ar K H a b/\∀p,H p=none->Q (.ref p) (upd H p (.lst (kG b d c)))
theorem Ph:GU X (À X.K):=by intro u s B H x v z A d e y Q I n i l m h;obtain ⟨a,c,rfl,j,q⟩:=h;cases n;obtain ⟨p,r,f,k⟩:=I.list j;have g:=r.length;refine ⟨"list",_,slot_list_getitem.lookup,f.isList.typeIs,?_⟩;refine wpAny_getItem_list_slice f.isList i l m .none (by simp) ?_ (by rw [f_]<;>omega);rw [Zw,<-g];refine ⟨.ref s.heap.objs.size,_,I.laid (t':=s.toks) (o:=.lst (kG c d e)) (λb t q=>cZ _ q) (ay _) ?_,U,q _ (I.aA.fresh (ay _))⟩;exact ⟨cP (RX c d e) k,_,0,(r.drop (cn c.length 0 d)).take (cn c.length c.length e-cn c.length 0 d),iT _ U⟩
def gn:V->Bool
 | .aG=>true
 | .bl _=>true
 | .int _=>true
 | .str _=>true
 | _=>false
noncomputable def lW:V->V->Bool
 | .aG,.aG=>true
 | .bl a,.bl b=>a==b
 | .bl a,.int b=>(if a then 1 else 0)==b
 | .int a,.bl b=>a==(if b then 1 else 0)
 | .int a,.int b=>a==b
 | .str a,.str b=>a==b
 | _,_=>false
theorem Tn (f:bQ y u) (c:bQ x v) (g:gn y=true) (e:gn x=true):SeqAt.EqAt A s u v (lW y x):=by
 cases y with
 | aG=>
  cases f
  cases x with
  | aG=>cases c;exact SeqAt.EqAt.same _
  | bl b=>cases c;exact SeqAt.EqAt.none_bool b
  | int b=>obtain ⟨t,rfl⟩:=c;exact SeqAt.EqAt.none_int b t
  | str b=>obtain ⟨t,rfl⟩:=c;exact SeqAt.EqAt.none_str b t
  | _=>exact absurd (show false=true from e) dX
 | bl a=>
  cases f
  cases x with
  | aG=>cases c;exact SeqAt.EqAt.bool_none a
  | bl b=>cases c;exact SeqAt.EqAt.bool_bool a b
  | int b=>obtain ⟨t,rfl⟩:=c;exact SeqAt.EqAt.bool_int a b t
  | str b=>obtain ⟨t,rfl⟩:=c;exact SeqAt.EqAt.bool_str a b t
  | _=>exact absurd (show false=true from e) dX
 | int a=>
  obtain ⟨d,rfl⟩:=f
  cases x with
  | aG=>cases c;exact SeqAt.EqAt.int_none a d
  | bl b=>cases c;exact SeqAt.EqAt.int_bool a d b
  | int b=>obtain ⟨t,rfl⟩:=c;exact SeqAt.EqAt.int_int a d b t
  | str b=>obtain ⟨t,rfl⟩:=c;exact SeqAt.EqAt.int_str a d b t
  | _=>exact absurd (show false=true from e) dX
 | str a=>
  obtain ⟨d,rfl⟩:=f
  cases x with
  | aG=>cases c;exact SeqAt.EqAt.str_none a d
  | bl b=>cases c;exact SeqAt.EqAt.str_bool a d b
  | int b=>obtain ⟨t,rfl⟩:=c;exact SeqAt.EqAt.str_int a d b t
  | str b=>obtain ⟨t,rfl⟩:=c;exact SeqAt.EqAt.str_str a d b t
  | _=>exact absurd (show false=true from e) dX
 | _=>exact absurd (show false=true from g) dX
noncomputable def lX (x:V) (u:Value):Bool:=match u with
 | .none=>lW .aG x
 | .bool b=>lW (.bl b) x
 | .int i _=>lW (.int i) x
 | .str z _=>lW (.str z) x
 | _=>false
theorem To (r:bQ y u) (f:gn y=true):lX x u=lW y x:=by
 cases y with
 | aG=>cases r;rfl
 | bl b=>cases r;rfl
 | int i=>obtain ⟨t,rfl⟩:=r;rfl
 | str z=>obtain ⟨t,rfl⟩:=r;rfl
 | _=>exact absurd (show false=true from f) dX
theorem Ci {xs:List V} {us:List Value} (h:a_ xs us) (f:xs.all gn=true):us.any (lX x)=xs.any λy=>lW y x:=by
 induction h with
 | nil=>rfl
 | cons r t a=>
  rw [yO,mX] at f;rw [yP,yP,To r f.1,a f.2]
theorem Cz (d:bQ x v) (b:gn x=true) {xs:List V} {us:List Value} (h:a_ xs us) (f:xs.all gn=true):∀u∈us,SeqAt.EqAt A s u v (lX x u):=by
 induction h with
 | nil=>intro u a;cases a
 | cons r t c=>
  intro e a;rw [yO,mX] at f;rcases f'.mp a with rfl | a
  ·rw [To r f.1];exact Tn r d f.1 b
  ·exact c f.2 e a
noncomputable def kR (x:V) (xs:List V):Bool:=xs.any λy=>lW y x
def K9 (K:aO) (neg:Bool):R2:=λx y H Q=>∃p a,y=.ref p/\(ar K H p a\/dB K H p a)/\gn x=true/\a.all gn=true/\Q (.bl (if neg then !kR x a else kR x a)) H
theorem Dk:eP X (compareOp .In) (K9 X.K false):=by
 intro k s m H x y v u Q I g j h;obtain ⟨p,l,rfl,a,f,c,q⟩:=h;cases j;rcases a with a | a
 ·obtain ⟨b,r,e,i⟩:=I.list a;refine SeqAt.in_listAt (lX x) e.isList (λw d=>Cz g f r c w (by simpa using d)) ⟨.bl _,H,I,U,?_⟩;rw [show b.toArray.any (lX x)=b.any (lX x) by simp,Ci r c];exact q
 ·obtain ⟨b,r,e,i⟩:=I.tuple a;refine SeqAt.in_tupleAt (lX x) e (λw d=>Cz g f r c w (by simpa using d)) ⟨.bl _,H,I,U,?_⟩;rw [show b.toArray.any (lX x)=b.any (lX x) by simp,Ci r c];exact q
theorem JM:eP X (compareOp .NotIn) (K9 X.K true):=by
 intro k s m H x y v u Q I g j h;obtain ⟨p,l,rfl,a,f,c,q⟩:=h;cases j;rcases a with a | a
 ·obtain ⟨b,r,e,i⟩:=I.list a;refine SeqAt.notIn_listAt (lX x) e.isList (λw d=>Cz g f r c w (by simpa using d)) ⟨.bl _,H,I,U,?_⟩;rw [show b.toArray.any (lX x)=b.any (lX x) by simp,Ci r c];exact q
 ·obtain ⟨b,r,e,i⟩:=I.tuple a;refine SeqAt.notIn_tupleAt (lX x) e (λw d=>Cz g f r c w (by simpa using d)) ⟨.bl _,H,I,U,?_⟩;rw [show b.toArray.any (lX x)=b.any (lX x) by simp,Ci r c];exact q
theorem vt:oO X (.builtin "len") (λxs H Q=>∃p ys,xs=[.ref p]/\(ar X.K H p ys\/dB X.K H p ys)/\Q (.int ys.length) H):=by
 intro j s l H xs k Q I r h;obtain ⟨p,ys,rfl,a,q⟩:=h;obtain ⟨u,rfl,g⟩:=xB r;cases g;have i:=Ca;rcases a with a | a
 ·obtain ⟨f,d,c,e⟩:=I.list a;have b:=d.length;exact Calls.call_len_list c.isList (by simp only [f_]<;>omega) ⟨.int ys.length,H,I.tok _,⟨s.toks+1,by rw [f_,b]⟩,q⟩
 ·obtain ⟨f,d,c,e⟩:=I.tuple a;have b:=d.length;exact len_tuple c (by simp only [f_]<;>omega) ⟨.int ys.length,H,I.tok _,⟨s.toks+1,by rw [f_,b]⟩,q⟩
theorem rD:oO X (.type "list") (λxs H Q=>∃p ys,xs=[.ref p]/\(ar X.K H p ys\/dB X.K H p ys)/\∀l,H l=none->Q (.ref l) (upd H l (.lst ys))):=by
 intro A s C H xs D Q I r h;obtain ⟨p,ys,rfl,g,q⟩:=h;obtain ⟨u,rfl,B⟩:=xB r;cases B;have x:∀(c:List Value),a_ ys c->ys.length<=sizeLine->∀(a:Heap) (d:Nat),(∀b y,s.heap.get? b=some y->a.get? b=some y)->
  a.get? s.heap.objs.size=some { cls:=.type "list",dict:=none,data:=.seq c.toArray d,slots:= #[] }->EP X A C Q (.ref s.heap.objs.size) { s with heap:=a }:=λc f i a d j e=>
  ⟨.ref s.heap.objs.size,_,I.laid (t':=s.toks) j (ay _) (show d_ X.prog X.w _ a _ (.lst ys) from ⟨i,c,d,f,e⟩),U,q _ (I.aA.fresh (ay _))⟩
 rcases g with g | g
 ·obtain ⟨c,f,v,i⟩:=I.list g;have z:=f.length;obtain ⟨o,t,k,n,m⟩:=v.isList;exact call_list_seq p (.inl U) t k m (λa d j e=>x c f i a d j e) (by simp only [f_]<;>omega)
 ·obtain ⟨c,f,v,i⟩:=I.tuple g;have z:=f.length;obtain ⟨o,t,k,n,m⟩:=v;exact call_list_seq p (.inr U) t k m (λa d j e=>x c f i a d j e) (by simp only [f_]<;>omega)
theorem Sg:oO X (.type "tuple") (λxs H Q=>∃p ys,xs=[.ref p]/\((ar X.K H p ys/\∀l,H l=none->Q (.ref l) (upd H l (.tup ys)))\/(dB X.K H p ys/\Q (.ref p) H))):=by
 intro k s m H xs y Q I r h;obtain ⟨p,ys,rfl,h⟩:=h;obtain ⟨u,rfl,v⟩:=xB r;cases v;rcases h with ⟨c,q⟩ | ⟨c,q⟩
 ·obtain ⟨d,g,f,j⟩:=I.list c;have x:=g.length;refine call_tuple_list f.isList (λa t=>?_) (by simp only [f_]<;>omega);have i:Inv X k m H { s with heap:=a }:=I.kept (t':=s.toks) t;have n:Inv X k m (upd H a.objs.size (.tup ys)) { s with heap:=a.push { cls:=.type "tuple",data:=.seq d.toArray } }:=
   i.laid (t':=s.toks) (λb o e=>cZ _ e) (ay _) (show d_ X.prog X.w _ _ _ (.tup ys) from ⟨j,d,g,IsTup.new _ _⟩)
  exact ⟨.ref a.objs.size,_,n,U,q _ (i.aA.fresh (ay _))⟩
 ·obtain ⟨d,g,f,j⟩:=I.tuple c;exact call_tuple_same f ⟨.ref p,H,I,U,q⟩
def T7 (K:aO) (T:String) (x:V) (H:Hp):Prop:=match x with
 | .str _=>T="str"
 | .int _=>T="int"
 | .ref p=>(T="list"/\∃b,ar K H p b)\/(T="tuple"/\∃o,K.lookup p=some o/\o.cls=.type "tuple"/\o.dict=none)\/
  (T="dict"/\((∃a,H p=some (.dK a))\/∃a,H p=some (.dT a)))\/(T="set"/\∃S n,H p=some (.set S n))
 | _=>False
theorem Ϸ (I:Inv X pins σ H s) (r:bQ x v) (f:T7 X.K T x H):
 s.TypeIs v T/\∀a,v=.ref a->∃j,s.heap.get? a=some j/\j.dict=none:=by
 cases x with
 | str z=>
  obtain ⟨t,rfl⟩:=r;cases (show T="str" from f);exact ⟨typeIs_str s z t,λ_ e=>nomatch e⟩
 | int i=>
  obtain ⟨t,rfl⟩:=r;cases (show T="int" from f);exact ⟨typeIs_int s i t,λ_ e=>nomatch e⟩
 | ref p=>
  cases r;rcases f with ⟨rfl,y,m⟩ | ⟨rfl,o,b,l,h⟩ | ⟨rfl,b⟩ | ⟨rfl,S,n,b⟩
  ·obtain ⟨u,_,k,_⟩:=I.list m;refine ⟨k.isList.typeIs,λa e=>?_⟩;cases e;obtain ⟨o,n,e,c,h,_⟩:=k;exact ⟨o,e,h⟩
  ·refine ⟨⟨o,I.fj p o b,l⟩,λa e=>?_⟩;cases e;exact ⟨o,I.fj _ o b,h⟩
  ·have z:∃o,s.heap.get? p=some o/\o.ExactDict:=by
    rcases b with ⟨q,b⟩ | ⟨q,b⟩
    ·obtain ⟨_,_,_,_,o,_,_,e,d,_⟩:=I.aA p _ b;exact ⟨o,e,d⟩
    ·obtain ⟨_,_,_,_,o,_,_,e,d,_⟩:=I.aA p _ b;exact ⟨o,e,d⟩
   obtain ⟨o,e,d⟩:=z;refine ⟨⟨o,e,d.1⟩,λa g=>?_⟩;cases g;exact ⟨o,e,d.2.1⟩
  ·obtain ⟨o,_,_,_,e,d,_⟩:=I.aA p _ b;refine ⟨⟨o,e,d.1⟩,λa g=>?_⟩;cases g;exact ⟨o,e,d.2.1⟩
 | _=>exact iB f
def tBM (K:aO) (T:String) (r:V->List V->Hp->VK->Prop) (d:TE) (t:TA):TE:=λb H Q=>d b H λx a=>T7 K T x a/\t b a λe c=>r x e c Q
variable {T id:String}
theorem l9 (E:PlainAttrs T) (N:Slot T name id) (D:typeOf (.builtin id)=pure (.type "method_descriptor")) (y:MtR X id r) (z:PE X o to) (n:PA X (e::C) t)
 (p:autoParam (attributeBase o name X.env (eval o X.env)=eval o X.env) t10._auto_1)
 (q:autoParam (((backTo h9 (starEach (e::C) X.env)).all (λx=> !x.1) && (backToKw h9 (keywordEach [] X.env)).all (λx=>x.1.isSome)
  && decide ((e::C).length+([]:List Keyword).length+(if ([]:List Keyword).isEmpty then 0 else 1)<30))=true) t10._auto_1)
 (u:autoParam ((apos.endLine==h9.line)=true) t10._auto_1) (B:autoParam (starEach (e::C) X.env=(false,eval e X.env)::starEach C X.env) t10._auto_1) (A:autoParam ((backTo h9 (starEach C X.env)).any (·.1)=false) t10._auto_1):
 PE X (.Call (.Attribute o name apos) (e::C) [] h9) (tBM X.K T r to t):=by
 intro a s c H Q I h;refine wpAny_Call_method_late p q u U (ax (z a s c H _ I h) λv L b=>?_);obtain ⟨x,i,d,g,O,F⟩:=b;obtain ⟨l,m⟩:=Ϸ d g O;refine ⟨T,id,E,N,D,l,m,?_⟩;have f:=n h9 a L c i _ d F;rw [B] at f ⊢;refine Calls.callWith_builtin (by show (false || (backTo h9 (starEach C X.env)).any (·.1))=false;rw [A]<;>rfl) (Calls.evalArgs_plain ?_);exact ax f λR M b=>L2.eQ b λS j k J G=>y a M c j x S v R Q k g J G
end
def Wl (X:Cx) (id:String) (r:V->List V->Hp->VK->Prop):Prop:=
 ∀(a:List (Addr×Obj)) (s:Shared) (d:St) (H:Hp) (x:V) (c:List V) (v:Value) (b:List Value) (Q:VK),Inv X a d H s->bQ x v->a_ c b->r x c H Q->
  wpAny (model X.prog X.w) X.A (call (.builtin id) (v::b)) (EP X a d Q) X.xe s
theorem a_.one {x:V} {us:List Value} (h:a_ [x] us):∃u,us=[u]/\bQ x u:=by
 cases h with
 | cons r t=>
  cases t;exact ⟨_,U,r⟩
theorem a_.rep (h:a_ xs us):∀k:Nat,a_ (List.replicate k xs).flatten (List.replicate k us).flatten
 | 0=>.nil
 | k+1=>by rw [uK,uK,yS,yS];exact a_.append h (a_.rep h k)
theorem QK (its:List Value):∀(k:Nat) (a:List Value),
 List.foldl (λc d=>c++d) a.toArray (List.replicate k its.toArray)=(a++(List.replicate k its).flatten).toArray
 | 0,a=>by simp
 | k+1,a=>by
  have e:a.toArray++its.toArray=(a++its).toArray:=by simp
  have b:(a++its)++(List.replicate k its).flatten=a++(List.replicate (k+1) its).flatten:=by rw [uK,yS,uL]
  rw [<-b,<-QK its k (a++its),<-e,uK,List.foldl_cons]
section
theorem Inv.KR {its its':List Value} {n:Nat} {f:Array Value->Array Value} {t':Nat} (I:Inv X pins σ H s) (a:H l=some (.lst xs))
 (e:s.heap.get? l=some { cls:=.type "list",data:=.seq its.toArray n }) (c:f its.toArray=its'.toArray) (g:a_ ys its') (h:ys.length<=sizeLine):
 Inv X pins σ (upd H l (.lst ys)) { s with heap:=s.heap.update l (Obj.mapSeq f),toks:=t' }:=by
 have q:=PySem.IsL.update e f;rw [c] at q;refine I.write (x:=l) (e:=l) (by rw [a];exact trivial) (.inl U) (λi u b d=>(iS s.heap (Obj.mapSeq f) (aK b)).trans d) ⟨_,q⟩ ?_;exact ⟨h,its',_,g,q⟩
theorem Inv.wa (I:Inv X pins σ H s) (a:a_ ys its) (b:ys.length<=sizeLine):
 Inv X pins σ (upd H s.heap.objs.size (.lst ys)) { s with heap:=s.heap.push { cls:=.type "list",data:=.seq its.toArray },toks:=t' }:=
 I.laid (λ_ _ q=>cZ _ q) (ay _) ⟨b,its,0,a,iT _ U⟩
theorem Inv.fresh (I:Inv X pins σ H s):H s.heap.objs.size=none:=I.aA.fresh (ay _)
theorem Inv.sH (I:Inv X pins σ H s) (a:H l=some (.lst xs)):xs.length<=sizeLine/\∃(its:List Value) (n:Nat),a_ xs its/\xs.length=its.length/\s.heap.get? l=some { cls:=.type "list",data:=.seq its.toArray n }:=by obtain ⟨z,its,n,r,e⟩:=I.aA l _ a;exact ⟨z,its,n,r,r.length,e⟩
theorem WO (h:n<=sizeLine):Builtin.List.listTooLong n=false:=by unfold Builtin.List.listTooLong;exact eE (by omega)
end
section
def i6:V->List V->Hp->VK->Prop:=λx b H Q=>∃l a y,x=.ref l/\b=[y]/\H l=some (.lst a)/\a.length<sizeLine/\Q .aG (upd H l (.lst (a++[y])))
theorem lF:Wl X "list.append" i6:=by intro j s p H x m v k Q I f d h;obtain ⟨l,o,y,rfl,rfl,a,i,q⟩:=h;cases f;obtain ⟨u,rfl,c⟩:=d.one;obtain ⟨z,b,n,r,g,e⟩:=I.sH a;refine call_meets ma ⟨_,e,U⟩ F.entry_list_append (F.args_list_append_2 _ _) (PySem.list_append l b.toArray n u (by rw [f_];omega)) ⟨e,?_⟩;refine ⟨.aG,_,I.KR (its':=b++[u]) a e (by simp) (r.append (.cons c .nil)) ?_,U,q⟩;rw [iD,List.length_singleton];omega
def Sx:R2:=λx y H Q=>∃l b a c,x=.ref l/\y=.ref b/\H l=some (.lst a)/\H b=some (.lst c)/\a.length+c.length<=sizeLine/\∀p,H p=none->Q (.ref p) (upd H p (.lst (a++c)))
theorem tI:eP X (binaryOp .Add) Sx:=by
 intro B s F H x y v u Q I p t h;obtain ⟨l,b,C,E,rfl,rfl,i,g,m,q⟩:=h;cases p;cases t;obtain ⟨z,a,n,r,j,e⟩:=I.sH i;obtain ⟨D,c,A,o,k,d⟩:=I.sH g;refine PySem.P.add_list e d ?_ (by rw [f_,f_];exact XP m j k);have f:a.toArray++c.toArray=(a++c).toArray:=by simp
 rw [f];exact ⟨.ref _,_,I.wa (t':=s.toks) (r.append o) (by rw [iD];omega),U,q _ I.fresh⟩
def Z_:R2:=λx y H Q=>∃l k a,x=.ref l/\y=.int k/\H l=some (.lst a)/\-(2 ^ 63)<=k/\k<2 ^ 63/\a.length*k.toNat<=sizeLine/\
 ∀p,H p=none->Q (.ref p) (upd H p (.lst (List.replicate k.toNat a).flatten))
theorem zB5 (xs:List α) (k:Nat):(List.replicate k xs).flatten.length=k*xs.length:=by
 induction k with
 | zero=>simp
 | succ k a=>rw [uK,yS,iD,a,Nat.succ_mul,Fx]
theorem zD6:eP X (binaryOp .Mult) Z_:=by
 intro M s R H x y v u Q I G J h;obtain ⟨l,k,O,rfl,rfl,o,i,j,f,q⟩:=h;cases G;obtain ⟨t,rfl⟩:=J;obtain ⟨z,b,n,r,B,e⟩:=I.sH o;have C:b.toArray.size*k.toNat<=sizeLine:=by rw [f_,<-B];exact f
 have p:¬b.toArray.size*k.toNat>(2 ^ 63-1) / 8:=by
  have:(sizeLine:Nat)<=(2 ^ 63-1) / 8:=by decide
  omega
 have A:¬(!Builtin.List.listFitsIndex k)=true:=by rw [fitsIndex_both i j];exact dX
 have D:¬Builtin.List.listTooLong (b.toArray.size*k.toNat)=true:=by rw [WO C];exact dX
 have E:List.foldl (λc d=>c++d) #[] (List.replicate (if b.toArray.isEmpty=true then 0 else k.toNat) b.toArray)=(List.replicate k.toNat b).flatten.toArray:=by
  have g:∀m:Nat,List.foldl (λc d=>c++d) #[] (List.replicate m b.toArray)=(List.replicate m b).flatten.toArray:=λm=>by have:=QK b m [];rw [List.nil_append] at this;exact this
  rw [g]
  cases b with
  | nil=>simp
  | cons a N=>rw [if_neg (by simp)]
 refine wpAny_binaryOp_repeat_ref (T:="list") (U:="int") (by decide) ⟨_,e,U⟩ (λL=>typeIs_int L k t) noFill_list_mul F.fills_int_mul F.slot_int_rmul repeat_list F.slot_int_index.lookup
  (call_meets F.slot_int_rmul (typeIs_int s k t) F.entry_int_rmul (F.args_int_rmul_2 _ _) (int___rmul___int_list k t l b.toArray n)
   ⟨e,U,⟨_,e,U⟩,call_meets F.slot_list_mul ⟨_,e,U⟩ F.entry_list_mul (F.args_list_mul_2 _ _) (AutoListH.list___mul___list_int_3 l b.toArray n k t A p D) ⟨e,?_⟩⟩)
 rw [E];exact ⟨.ref _,_,I.wa (t':=s.toks) (r.rep k.toNat) (by rw [zB5,Nat.mul_comm];exact f),U,q _ I.fresh⟩
end
section
set_option maxRecDepth 100000 in
end
section
end
end L2
namespace Wv
open PySem PySem.W PySem.Calls PyProof.Rows
theorem Z0 {P:Params}:∀(ns:List Int) (vs:List Value),WellAll P h vs (ns.map WData.int)->IntsAre vs ns:=by
 intro ns
 induction ns with
 | nil=>
  intro vs w;rw [sZ] at w;cases w;exact .nil
 | cons n ns c=>
  intro vs w;rw [eN] at w
  cases w with
  | cons a b=>
   cases a;exact .cons _ _ (c _ b)
theorem Ys {l:OpenLaw} {n:Nat} (p:l.most=some n) {P:Params} {h:Heap} {args:List WData} {g:List Value}
 (f:l.row.toRowW.claim.pre args=true) (u:WellAll P h g args):
 ∃a vs ns,g=[Value.ref a]/\args=[WData.list (ns.map WData.int)]/\h.get? a=some { cls:=.type "list",data:=.seq vs.toArray }/\IntsAre vs ns/\ns.length<=n:=by
 have t:WShape.hasAll [] args [.list .int]=true:=(pre_splitW f).1;have e:l.pre.holds [] { args:=args }=true:=(pre_splitW f).2;obtain ⟨d,r,rfl,i,j⟩:=hasAllW_cons t;obtain rfl:=hasAllW_nil j;obtain ⟨z,rfl,k⟩:=hasW_list i;obtain ⟨ns,rfl⟩:=items_int k;have o:ns.length<=n:=by
  unfold OpenLaw.pre at e;have b:(WTm.not (.lt (.lit (.int (n:Int))) (.len (.arg 0)))).holds [] { args:=[.list (ns.map .int)] }=true:=by have b:=(holds_andW e).1;rw [p] at b;exact b
  have c:=condW_of b (w_not (w_lt w_lit (w_len_list (w_arg U))));rw [az] at c;refine kZ λq=>?_;have v:(n:Int)<((ns.length:Nat):Int):=CU q
  first
   | (rw [eO v] at c;exact absurd c (by decide))
   | (simp at c;omega)
 cases u with
 | cons x y=>
  cases y
  cases x with
  | list s m=>exact ⟨_,_,ns,U,U,s,Z0 ns _ m,o⟩
theorem Yn (l:OpenLaw) (args:List WData):l.row.toRowW.claim.post args (.bool true) args=true:=
 postW_of (r:=l.row.toRowW) (X:=(true==true))
  (show WShape.has [] (.bool true) .bool=true by first | rfl | decide | simp [WShape.has,WShape.arms,WShape.armsAll])
  (show (WTm.eq .res (.lit (.bool true))).value [] { args:=args,res:=some (.bool true),after:=args }=some (.bool (true==true)) from w_eq_bool (w_res U) w_lit) U
theorem kr {l:OpenLaw} {n:Nat} {q:Program} {s:List Str} {k:(Str->Option Value)->Heap->Prop} {m:World->Heap->Prop} {d:DefRec}
 (I:l.most=some n) (B:d.params.defaults=[])
 (t:∀(w:World) (j b:Shared) (mg h:Str->Option Value) (c:Addr) (o:Obj) (i e g:Value) (a:Addr) (vs:List Value) (ns:List Int),
  Ground q s [] k w j mg h b.heap->m w b.heap->
  b.heap.get? c=some o->o.data=.func (docDef d.name d.params d.body d.scope i e g)->b.heap.CodeRec e d.name->mg d.name=some (.ref c)->
  b.heap.get? a=some { cls:=.type "list",data:=.seq vs.toArray }->IntsAre vs ns->ns.length<=n->b.gens= #[]->
  codeAny (model l.prog w) callerA (.call (.ref c) ⟨[.ref a],[]⟩) (λr s'=>r=.ok (.ret (.bool true))/\OldK b.heap s'.heap/\s'.os=b.os/\AllBare s'.gens) b):
 WalkO q s k m l.row.toRowW d [] (λf vs=>PySem.call f vs):=by
 intro w j b mg h G Y c o i e g u Q J A z p H C args W R M S V O T;obtain rfl:u=.none:=Dflts.none p B;obtain rfl:Q=.none:=Dflts.noKw p;obtain ⟨a,vs,ns,rfl,rfl,L,D,E⟩:=Ys I M O;refine enter_call (yN (t w j b mg h c o i e g a vs ns G Y J (fd_plain A) z H L D E C) λr s' N=>?_);obtain ⟨rfl,v,x,y⟩:=N;exact ⟨.inl ⟨.bool true,.bool true,[],U,λ_=>rfl,.bool true,Yn l _,λ_=>⟨List.Pairwise.nil,λ_ F=>(nomatch F)⟩⟩,v,x,y⟩
section
variable {K:Frag}
end
end Wv
namespace L2
open PySem PySem.Spec PyProof.Rows
theorem Rj:∀{vs:List Value} {ns:List Int},IntsAre vs ns->a_ (ns.map V.int) vs
 | _,_,.nil=>.nil
 | _,_,.cons n t h=>.cons ⟨t,U⟩ (Rj h)
def Aa (H:Hp):Prop:=∀b,H b=none\/∃o a,H b=some (.dh o (.lst a))
theorem WI {mg p:Str->Option Value} {CX:mh} {k:Nat} {n a:Addr} {D:FuncData} {x:Str} {sp:Sp} {cK:Shared} {vs:List Value} {ns:List Int}
 (t:K.In cK.heap) (M:cK.heap.Ns mainGlobals mg) (c:cK.heap.Ns builtinsNs p) (Md:∀x:Str,x≠"__name__"->p x=bootBuiltins x) (LJ:cK.heap.NoLimit) (hg:cK.gens= #[])
 (i:cK.heap.get? a=some { cls:=.type "list",data:=.seq vs.toArray }) (J:IntsAre vs ns) (L:ns.length<=sizeLine) (hr:cR k callerA)
 (F:∀base:Heap,K.In base->base.Ns mainGlobals mg->aq P w K mg base CX k n D [x] sp) (AW:∀(s:Shared) (u:Value),BindsTo s D ⟨[u],[]⟩ [(x,u)])
 (hsp:∀H:Hp,Aa H->ar K H a (ns.map V.int)->sp [.ref a] H (λv _=>v=.bl true) λ_ _ _=>False)
 (hCX:∀H e s',CX [] H cK (λ_ _ _=>False) e s'->False):
 codeAny (model P w) callerA (.call (.ref n) ⟨[.ref a],[]⟩) (λr s'=>r=.ok (.ret (.bool true))/\OldK cK.heap s'.heap/\s'.os=cK.os/\AllBare s'.gens) cK:=by
 have O:=Rj J;have KS:=J.length;have A:∀H:Hp,Aa H->ar K H a (ns.map V.int)->dq P w H cK.heap->(∀b,H b≠none->b=a)->(H a≠none->K.lookup a=none)->
  codeAny (model P w) callerA (.call (.ref n) ⟨[.ref a],[]⟩) (λr s'=>r=.ok (.ret (.bool true))/\OldK cK.heap s'.heap/\s'.os=cK.os/\AllBare s'.gens) cK:=by
  intro H I hS N E hK;have y:∀{b:Addr} {o:Obj},cK.heap.get? b=some o->H b=none->(qV cK.heap H).get? b=some o:=λe x1=>WD e x1;have noA:∀{b:Addr} {o:Obj} {f:Array DictEntry} {ep:Nat},cK.heap.get? b=some o->o.data=.dict f ep->H b=none:=λ{b o f ep} e d=>by
   cases q:H b with
   | none=>rfl
   | some u=>
    have l:b=a:=E b (by rw [q];simp);subst l;rw [i] at e;cases e;have S:Data.seq vs.toArray _=Data.dict f ep:=d;cases S
  have j:∀{b:Addr} {m:Str->Option Value},cK.heap.Ns b m->(qV cK.heap H).Ns b m:=λ{b m} ⟨o,f,ep,e,d,r⟩=>⟨o,f,ep,y e (noA e d),d,r⟩;have G:K.In (qV cK.heap H):=λb o e=>y (t b o e) (by
   cases q:H b with
   | none=>rfl
   | some u=>
    have l:b=a:=E b (by rw [q];simp);subst l;rw [hK (by rw [q];simp)] at e;cases e)
  have hM:Mod K mg (qV cK.heap H):=⟨G,j M,⟨p,j c,Md⟩,let ⟨mc,Y,Z⟩:=LJ;⟨mc,j Y,Z⟩⟩;have T:qS P w K mg (qV cK.heap H) callerA [] cK H:=⟨U,hM,λb o e=>zBy e,qI (X_ _ _),trivial,λb c=>absurd (show b∈([]:List Addr) from c) (by simp),N,.of_eq hg⟩;refine yN ((F _ G (j M)).run callerA [] cK H ⟨[.ref a],[]⟩ [.ref a] [.ref a] _ _ hr T (AW cK (.ref a)) (.cons rfl .nil) (hsp H I hS)) λr s' h=>?_
  cases r with
  | error e=>exact (hCX H e s' h).elim
  | ok X=>
   cases X with
   | next=>exact iB h
   | brk=>exact iB h
   | cont=>exact iB h
   | ret u=>
    obtain ⟨v,H',os,R,Q,L7,r',q⟩:=h;have q':v=.bl true:=q;subst q';obtain rfl:u=Value.bool true:=r';refine ⟨U,OldK.of_keep λb o e=>?_,os,R⟩
    cases q:H b with
    | none=>exact Q.keep b o e q (by intro z;exact absurd (show b∈([]:List Addr) from z) (by simp)) (by simp)
    | some u=>
     rcases I b with z | ⟨ob,xs,z⟩
     ·rw [q] at z;cases z
     ·have z2:=Q.gf b ob _ z;obtain ⟨B,_⟩:=N b _ z;obtain ⟨W,_⟩:=L7 b _ z2;rw [e] at B;cases B;exact W
 cases C:K.lookup a with
 | some o=>
  have e:=t a o C;rw [i] at e;cases e;refine A (λ_=>none) (λ_=>.inl U) (.inr ⟨_,vs.toArray,_,C,U,U,U,by rw [f_,KS];exact L,by simpa using O⟩) (λb u z=>by have g:(none:Option HO)=some u:=z;cases g) (λb z=>absurd U z) λz=>absurd U z
 | none=>
  refine A (λb=>if b=a then some (.dh { cls:=.type "list",data:=.seq vs.toArray } (.lst (ns.map V.int))) else none) (λb=>?_) (.inl (.inr ⟨{ cls:=.type "list",data:=.seq vs.toArray },if_pos U⟩)) (λb u z=>?_) (λb z=>?_) λ_=>C
  ·by_cases c:b=a
   ·exact .inr ⟨_,_,if_pos c⟩
   ·exact .inl (if_neg c)
  ·by_cases c:b=a
   ·have g:=(if_pos c).symm.trans z;cases g;subst c;exact ⟨i,by rw [az];exact L,vs,_,O,i⟩
   ·have g:=(if_neg c).symm.trans z;cases g
  ·by_cases c:b=a
   ·exact c
   ·exact absurd (if_neg c) z
noncomputable abbrev eZ {K:aO} {h:Heap} (_:K.In h):aO:=K
theorem zAs {l:PySem.W.OpenLaw} {n k:Nat} {q:Program} {O:List Str} {m:(Str->Option Value)->Heap->Prop} {i:World->Heap->Prop} {d:DefRec} {K:Params->aO} {CX:World->mh} {sp:World->Sp} {x:Str}
 (I:l.most=some n) (J:n<=sizeLine) (B:d.params.defaults=[]) (M:cR k callerA)
 (z:∀(w:World) (h:Heap),i w h->(K w.params).In h)
 (F:∀(w:World) (mg:Str->Option Value) (b:Addr) (h:Heap),(K w.params).In h->h.Ns mainGlobals mg->mg d.name=some (.ref b)->
  ∃c:FuncData,(∀(s:Shared) (u:Value),BindsTo s c ⟨[u],[]⟩ [(x,u)])/\
   ∀base:Heap,(K w.params).In base->base.Ns mainGlobals mg->aq l.prog w (K w.params) mg base (CX w) k b c [x] (sp w))
 (N:∀(w:World) (H:Hp) (a:Addr) (ns:List Int),ns.length<=n->Aa H->ar (K w.params) H a (ns.map V.int)->sp w [.ref a] H (λv _=>v=.bl true) λ_ _ _=>False)
 (p:∀(w:World) (H:Hp) (s:Shared) (e:Value) (s':Shared),CX w [] H s (λ_ _ _=>False) e s'->False):
 PySem.W.WalkO q O m i l.row.toRowW d [] (λf vs=>PySem.call f vs):=by
 refine Wv.kr I B λw bS Q mg Z b o pm R S a vs ns G Y X W T E L D j C=>?_;have g:=z w _ Y;obtain ⟨c,A,r⟩:=F w mg b _ g G.T.g E;exact WI g G.T.g G.T.b G.T.builtins G.T.nolimit C L D (cP j J) M r A (λH t y=>N w H a ns j t y) λH e s'=>p w H Q e s'
theorem Xn {l:W.OpenLaw} {n k:Nat} {q:Program} {C:List Str} {i:(Str->Option Value)->Heap->Prop} {b:World->Heap->Prop} {d:DefRec} {K:Params->aO} {CX:mh} {sp:aO->Sp} {x:Str}
 (y:l.most=some n) (z:n<=sizeLine) (t:d.params.defaults=[]) (A:cR k callerA)
 (r:∀(w:World) (h:Heap),b w h->(K w.params).In h)
 (F:∀(w:World) (mg:Str->Option Value) (c:Addr) (h:Heap),(K w.params).In h->h.Ns mainGlobals mg->mg d.name=some (.ref c)->
  ∃g:FuncData,(∀(s:Shared) (u:Value),BindsTo s g ⟨[u],[]⟩ [(x,u)])/\
   ∀base:Heap,(K w.params).In base->base.Ns mainGlobals mg->aq l.prog w (K w.params) mg base CX k c g [x] (sp (K w.params)))
 (B:∀(K:aO) (H:Hp) (a:Addr) (ns:List Int),ns.length<=n->Aa H->ar K H a (ns.map V.int)->sp K [.ref a] H (λv _=>v=.bl true) λ_ _ _=>False)
 (p:∀(H:Hp) (s:Shared) (e:Value) (s':Shared),CX [] H s (λ_ _ _=>False) e s'->False):
 W.WalkO q C i b l.row.toRowW d [] (λf vs=>PySem.call f vs):=
 zAs (K:=K) (CX:=λ_=>CX) (sp:=λw=>sp (K w.params)) y z t A r F (λw H a ns j m o=>B (K w.params) H a ns j m o) λ_ H s e s'=>p H s e s'
noncomputable def hX (s:Stmt) (j:Nat):Stmt:=match s with
 | .ClassDef _ _ _ a _ _ _ _ _ _ _=>a.getD j (.Pass ⟨0,0,0,0⟩)
 | _=>.Pass ⟨0,0,0,0⟩
def qA (s:Stmt):Arguments:=match s with
 | .FunctionDef _ a _ _ _ _ _ _ _ _=>a
 | _=>{ posonlyargs:=[],args:=[],vararg:=none,kwonlyargs:=[],kw_defaults:=[],kwarg:=none,defaults:=[] }
def lC (s:Stmt):List Stmt:=match s with
 | .FunctionDef _ _ b _ _ _ _ _ _ _=>b
 | _=>[]
noncomputable def aF (s:Stmt):Scope:=match s with
 | .FunctionDef _ _ _ _ _ _ a _ _ _=>a
 | _=>{ kind:=.function,names:=[],isGenerator:=false,isCoroutine:=false }
abbrev aw:mh:=λ_ _ _ _ _ _=>False
abbrev E0:XK:=λ_ _ _=>False
theorem dR:kK aw X E0:=λ_ _ _ _ _ _ _ h=>h.elim
structure dO (K:aO) (x qual:Str) (st:Stmt) (f:Addr) (fd:FuncData):Prop where
 ex:∃(oc:Value) (od:Option Addr) (kV doc pm:Value) (an:Option Addr) (MP ct:Value) (As:Array (Option Value)),
  fd=W.fnOf x qual (qA st) (lC st) (aF st) .none kV doc pm an MP ct/\K.lookup f=some ⟨oc,od,.func fd,As⟩/\W.codeIn K MP qual=true
 kp:W.keepIn K (.ref f)=true
section
variable {K:aO}
theorem dO.ok {x d:Str} {st:Stmt} {f:Addr} {e:FuncData} {N c:List Str} {k:Nat} {sp:Sp} (F:dO K x d st f e) (S:bR N c (aF st)) (n:∀vs H Q E,sp vs H Q E->vs.length=c.length)
 (i:∀(a:Value) (A:Around) (b:List Env) (s:Shared) (H:Hp) (vs:List V) (Q:VK) (E:XK),cR k (A.deeper (envOfC d (aF st) s.heap.objs.size f a))->sp vs H Q E->
  ∃t,eS (lq aw P w K mg base N d (aF st) f a A b s H E).uk (lC st) t/\t { nx:=λ_ g=>Q .aG g,rt:=Q } (gp N vs) H):aq P w K mg base aw (k+1) f e c sp:=by
 obtain ⟨v,y,u,r,B,o,a,p,z,rfl,lk,j⟩:=F.ex;refine SS lk j S n λA b s H vs Q E l m=>?_;obtain ⟨t,h,q⟩:=i a A b s H vs Q E l m;exact ⟨t,h.uk,q⟩
theorem dO.cY {x b:Str} {st:Stmt} {f:Addr} {d:FuncData} {N a:List Str} {k:Nat} {sp:Sp} (F:dO K x b st f d) (S:bR N a (aF st)) (g:∀(c:Value) (A:Around) (j:List Env) (s:Shared) (H:Hp) (vs:List V) (Q:VK) (E:XK),cR k (A.deeper (envOfC b (aF st) s.heap.objs.size f c))->sp vs H Q E->
  ∃t,eS (lq aw P w K mg base N b (aF st) f c A j s H E).uk (lC st) t/\t { nx:=λ_ e=>Q .aG e,rt:=Q } (gp N vs) H) (i:autoParam (∀vs H Q E,sp vs H Q E->vs.length=a.length) t18._auto_1):aq P w K mg base aw (k+1) f d a sp:=F.ok S i g
theorem dO.binds {x k:Str} {st:Stmt} {f:Addr} {j:FuncData} {i:List Str} (F:dO K x k st f j)
 (h:∀(e d g:Value) (a:Option Addr) (b c:Value) (us:List Value),us.length=i.length->bindArgs (W.fnOf x k (qA st) (lC st) (aF st) .none e d g a b c) ⟨us,[]⟩=pure (i.zip us)):dm K j i []:=by
 obtain ⟨m,n,e,d,g,a,b,c,o,rfl,lk,l⟩:=F.ex;exact .all (h e d g a b c)
theorem Hn {x b:Str} {st:Stmt} {f:Addr} {j:Value} {od d:Option Addr} {m:Array (Option Value)} {h g i a e:Value} (l:K.lookup f=some ⟨j,od,.func (W.fnOf x b (qA st) (lC st) (aF st) .none h g i d a e),m⟩)
 (c:W.codeIn K a b=true) (k:W.keepIn K (.ref f)=true):dO K x b st f (W.fnOf x b (qA st) (lC st) (aF st) .none h g i d a e):=⟨⟨j,od,h,g,i,d,a,e,m,U,l,c⟩,k⟩
end
theorem jl (a:cR k A):A.units+1<cLine:=ot (Nh (by decide:1<=64) _) a.units
theorem fe (h:n<=1000):n<sizeLine:=ot h (by decide)
section
theorem pv (i:Nat) (a:autoParam (X.N[i]?=some x) t10._auto_1) (d:GQ X.env.scope x:=by first | exact Or.inl rfl | exact Or.inr (Or.inl rfl) | exact Or.inr (Or.inr rfl)) (c:autoParam ((x==("__debug__":Str))=false) t12._auto_1)
 (b:autoParam ((x==("__classdict__":Str))=false) t12._auto_1):PE X (.Name x pos) (gm i):=zD3 a d c b
end
theorem dk {A B:Prop} (h:B):if false=true then A else B:=by rw [if_neg dX];exact h
theorem fv {A B:Prop} (h:A):if true=true then A else B:=by rw [if_pos rfl];exact h
theorem mi {c A B:Prop} [Decidable c] (a:c->A) (b:¬c->B):if c then A else B:=by
 by_cases h:c
 ·rw [if_pos h];exact a h
 ·rw [if_neg h];exact b h
theorem qW {c A B:Prop} [Decidable c] (a:c) (h:B):if (!decide c)=true then A else B:=by rw [eO a];exact dk h
def a0 (H a:Hp):Prop:=∀b o,H b=some o->a b=some o
theorem a0.refl (H:Hp):a0 H H:=λ_ _ h=>h
theorem a0.trans (a:a0 H H1) (b:a0 H1 H2):a0 H H2:=λc o h=>b c o (a c o h)
theorem a0.free (e:a0 H H') (h:H' l=Option.none):H l=Option.none:=by
 cases q:H l with
 | none=>rfl
 | some o=>
  rw [e l o q] at h;cases h
section
theorem Yg (I:Nat->Shared->Prop)
 (u:∀n s,I n s->wpAny (model prog w) A (pyNext it) (λr b=>match r with
  | none=>R (.ok .next) b
  | some v=>wpAny (model prog w) A (letOwnedTupleGo target it v) (λ_ g=>wpAny (model prog w) A (assign target env v) (λ_ i=>
   wpAny (model prog w) A (forIn ifs true λc r=>if r=true then do let ok <-isTrue c env (eval c env);pure (ForInStep.yield ok) else pure (ForInStep.yield r)) (λok d=>
    if ok=true then wpAny (model prog w) A (eval elt env) (λx j=>
     wpAny (model prog w) A (call (.builtin "list.append") [acc,x]) (λ_ k=>∃m,m<n/\I m k) (λ_ _=>False) j) (λ_ _=>False) d
    else ∃m,m<n/\I m d) (λ_ _=>False) i) (λ_ _=>False) g) (λ_ _=>False) b) (λ_ _=>False) s)
 (n:Nat) (h:I n s):codeAny (model prog w) A (.compLoop (.ListComp elt [⟨target,iter,ifs,0⟩] scope pos) 0 it acc env) R s:=by
 refine codeAny_loop U I (λn s l=>?_) n h;show wpAny _ A ((compTurn (.ListComp elt [⟨target,iter,ifs,0⟩] scope pos) 0 it acc env).onRaise (λx=>do noteFrame x env;theTreesLotGoes x)) _ _ s;refine wpAny_noted ?_;rw [compTurn_list];refine ae (B4 (ae (gS (u n s l) (λr b e=>?_) λ_ _ a=>a.elim)))
 cases r with
 | none=>exact aJ e
 | some v=>
  refine ae (gS e (λ_ g o=>?_) λ_ _ a=>a.elim);refine ae (gS o (λ_ i p=>ae (gS p (λok d f=>?_) λ_ _ a=>a.elim)) λ_ _ a=>a.elim)
  cases ok with
  | false=>exact aJ ⟨U,f⟩
  | true=>
   exact ae (ae (gS f (λx j q=>ae (gS q (λ_ k t=>aJ (aJ ⟨U,t⟩)) λ_ _ a=>a.elim)) λ_ _ a=>a.elim))
end
theorem Y' {env:Env} {f:(Str×NameKind)->List (Str×Addr)->Sem (ForInStep (List (Str×Addr)))}
 (C:∀n k j,k≠NameKind.free->f (n,k) j=pure (.yield j)) (D:∀n a j,env.cells.lookup n=some a->f (n,.free) j=pure (.yield ((n,a)::j))):
 ∀(i:List (Str×NameKind)) (d:List (Str×Addr)),(∀x∈i,x.2=.free->∃c,env.cells.lookup x.1=some c)->(∀x c,d.lookup x=some c->env.cells.lookup x=some c)->
  ∃h,forIn i d f=pure h/\(∀x c,h.lookup x=some c->env.cells.lookup x=some c/\((∃m,d.lookup x=some m)\/(x,NameKind.free)∈i))/\
   ∀x,((∃c,d.lookup x=some c)\/(x,NameKind.free)∈i)->∃c,h.lookup x=some c:=by
 intro i
 induction i with
 | nil=>exact λd _ l=>⟨d,U,λx c e=>⟨l x c e,.inl ⟨c,e⟩⟩,λx b=>b.elim (λz=>z) λz=>nomatch z⟩
 | cons y r B=>
  intro d v l;obtain ⟨n,k⟩:=y;have A:∀x∈r,x.2=.free->∃c,env.cells.lookup x.1=some c:=λx b=>v x (iO _ b)
  by_cases t:k=.free
  ·subst t;obtain ⟨a,e⟩:=v (n,.free) gw U;have e:env.cells.lookup n=some a:=e;have E:∀x c,((n,a)::d).lookup x=some c->env.cells.lookup x=some c:=λx c q=>by
    rw [gj] at q
    cases b:x==n with
    | true=>rw [b] at q;cases q;rw [beq_iff_eq.mp b];exact e
    | false=>rw [b] at q;exact l x c q
   obtain ⟨h,o,p,s⟩:=B ((n,a)::d) A E;refine ⟨h,?_,λx c q=>?_,λx b=>?_⟩
   ·rw [List.forIn_cons,D n a d e,pure_bind];exact o
   ·obtain ⟨u,g⟩:=p x c q;refine ⟨u,?_⟩;rcases g with ⟨m,g⟩ | g
    ·rw [gj] at g
     cases b:x==n with
     | true=>rw [beq_iff_eq.mp b];exact .inr gw
     | false=>rw [b] at g;exact .inl ⟨m,g⟩
    ·exact .inr (iO _ g)
   ·refine s x ?_;rcases b with ⟨c,b⟩ | b
    ·refine .inl ?_;rw [gj]
     cases x==n with
     | true=>exact ⟨a,U⟩
     | false=>exact ⟨c,b⟩
    ·rcases f'.mp b with z | z
     ·cases z;exact .inl ⟨a,by rw [gj,jI]⟩
     ·exact .inr z
  ·obtain ⟨h,o,p,s⟩:=B d A l;refine ⟨h,?_,λx c q=>?_,λx b=>?_⟩
   ·rw [List.forIn_cons,C n k d t,pure_bind];exact o
   ·obtain ⟨u,g⟩:=p x c q;exact ⟨u,g.elim .inl λz=>.inr (iO _ z)⟩
   ·refine s x ?_;rcases b with b | b
    ·exact .inl b
    ·rcases f'.mp b with z | z
     ·cases z;exact absurd U t
     ·exact .inr z
theorem R3 {scope:Scope} {env:Env} (h:∀x∈scope.names,x.2=.free->∃c,env.cells.lookup x.1=some c):
 ∃b,closureFor scope env=pure b/\(∀x c,b.lookup x=some c->env.cells.lookup x=some c/\(x,NameKind.free)∈scope.names)/\∀x,(x,NameKind.free)∈scope.names->∃c,b.lookup x=some c:=by
 obtain ⟨b,g,i,j⟩:=Y' (env:=env) (f:=λx d=>if (x.2==NameKind.free)=true then do let a <-cellOf env x.1;pure (ForInStep.yield ((x.1,a)::d)) else pure (ForInStep.yield d))
  (λn k d l=>by
   have:(k==NameKind.free)=false:=by simpa using l
   simp only [this,Bool.false_eq_true,if_false])
  (λn a d e=>by
   simp only [jI,if_true,cellOf,e,pure_bind])
  scope.names [] h (λx c q=>nomatch q)
 refine ⟨b,?_,λx c q=>?_,λx m=>j x (.inr m)⟩
 ·unfold closureFor
  first
   | (rw [show (forIn scope.names ([]:List (Str×Addr)) _:Sem (List (Str×Addr)))=pure b from g];rfl)
   | (simp only [g,pure_bind];done)
   | exact (r (λz=>z>>=λd=>pure d) g).trans (pure_bind _ _)
 ·obtain ⟨o,p⟩:=i x c q;exact ⟨o,p.elim (λ⟨_,z⟩=>nomatch z) λz=>z⟩
theorem Si {env:Env}:∀{b:List (Str×NameKind)} {x:Str},b.lookup x=some .free->
 (b.map λ(n,k)=>if (k==NameKind.free && env.scope.kind==.function && env.kindOf n==some .cell) then (n,NameKind.cell) else (n,k)).lookup x=some .cell\/
 (b.map λ(n,k)=>if (k==NameKind.free && env.scope.kind==.function && env.kindOf n==some .cell) then (n,NameKind.cell) else (n,k)).lookup x=some .free
 | [],_,h=>by simp at h
 | (n,k)::r,x,h=>by
  have c:= @Si env r x;show List.lookup x ((if (k==NameKind.free && env.scope.kind==.function && env.kindOf n==some .cell)=true then (n,NameKind.cell) else (n,k))::_)=_\/
   List.lookup x ((if (k==NameKind.free && env.scope.kind==.function && env.kindOf n==some .cell)=true then (n,NameKind.cell) else (n,k))::_)=_
  cases hx:x==n with
  | true=>
   simp only [gj,hx] at h;cases h
   by_cases a:(NameKind.free==NameKind.free && env.scope.kind==.function && env.kindOf n==some .cell)=true
   ·rw [if_pos a];exact .inl (by simp [gj,hx])
   ·rw [if_neg a];exact .inr (by simp [gj,hx])
  | false=>
   simp only [gj,hx] at h
   by_cases a:(k==NameKind.free && env.scope.kind==.function && env.kindOf n==some .cell)=true
   ·rw [if_pos a];simp only [gj,hx];exact c h
   ·rw [if_neg a];simp only [gj,hx];exact c h
def gV (X:Cx) (scope:Scope) (a:List (Str×Addr)) (N:List Str) (ex:List Addr) (s:Shared) (H:Hp):Cx where
 prog:=X.prog
 w:=X.w
 K:=X.K
 mg:=X.mg
 base:=X.base
 A:=X.A
 N:=N
 bS:=s
 gk:=H
 env:=compEnvC scope a s.heap.objs.size X.env
 outer:=X.stack
 stack:=X.stack
 ex:=ex
 fn:=λx=>scope.names.lookup x==some .local
 calm:=X.calm
 pn:=[]
 xe:=λ_ _=>False
def qy (a:List (Option Nat)) (b:St):St:=a.map λj=>match j with
 | none=>none
 | some j=>(b[j]?).join
structure hV (sc:Scope) (NX:List Str) (scope:Scope) (N:List Str) (js:List (Option Nat)):Prop where
 kind:scope.kind=.function
 cell:∀x∈scope.names,x.2≠.cell
 loc:∀x∈scope.names,x.2=.local->scope.names.lookup x.1=some .local
 free:∀x∈scope.names,x.2=.free->scope.names.lookup x.1=some .free/\(sc.names.lookup x.1=some .cell\/sc.names.lookup x.1=some .free)
 len:js.length=N.length
 at_:∀p∈js.zip N,p.1=none\/∃j∈List.range NX.length,p.1=some j/\NX[j]?=some p.2/\(p.2,NameKind.free)∈scope.names
theorem j7 {b:Scope} {a:List Str} {scope:Scope} {N:List Str} {js:List (Option Nat)} (c:autoParam (scope.kind=.function) t10._auto_1) (d:autoParam (∀x∈scope.names,x.2≠.cell) t13._auto_1) (e:autoParam (∀x∈scope.names,x.2=.local->scope.names.lookup x.1=some .local) t13._auto_1) (f:autoParam (∀x∈scope.names,x.2=.free->scope.names.lookup x.1=some .free/\(b.names.lookup x.1=some .cell\/b.names.lookup x.1=some .free)) t13._auto_1) (g:autoParam (js.length=N.length) t10._auto_1) (h:autoParam (∀p∈js.zip N,p.1=none\/∃j∈List.range a.length,p.1=some j/\a[j]?=some p.2/\(p.2,NameKind.free)∈scope.names) t13._auto_1):hV b a scope N js:=⟨c,d,e,f,g,h⟩
section
theorem WE (I:Inv X pins σ H s) (C:hV X.env.scope X.N scope N js) (g:∀x c,cl.lookup x=some c->X.env.cells.lookup x=some c/\(x,NameKind.free)∈scope.names)
 (M:∀x,(x,NameKind.free)∈scope.names->∃c,cl.lookup x=some c) (D:∀b∈ex,ql X pins H b/\b<s.heap.objs.size)
 (LB:h1.Ns s.heap.objs.size λ_=>none) (p:∀b o,s.heap.get? b=some o->h1.get? b=some o):Inv (gV X scope cl N ex s H) [] (qy js σ) H { s with heap:=h1,toks:=tk }:=by
 have W:∀x,(x,NameKind.free)∈scope.names->(relabel scope X.env).names.lookup x=some .cell\/(relabel scope X.env).names.lookup x=some .free:=λx A=>Si (C.free _ A U).1;refine ⟨⟨I.ok.mod,C.kind,I.ok.glob,I.ok.blt,ay _,λx y c t a=>I.ok.inj x y c (g x c t).1 (g y c a).1,λx A=>?_,λx c n e=>?_,I.ok.hd,I.ok.frames,.inl U,λb h=>⟨gv (D b h).2,λx c e=>(D b h).1.2.2.2.2.1 x c (g x c e).1⟩,I.bs,cP I.ok.mV I.sz,λb o e h=>?_,λb h n=>?_,I.stack,I.gC⟩,
  rfl,I.bare,Un.kept p,⟨λ_=>none,LB,λi x v t a e3=>?_⟩,λx c e=>?_,I.aA.fresh (ay _),λx c e=>I.cq x c (g x c e).1,λx3 hp=>absurd (show x3∈([]:List (Addr×Obj)) from hp) (by simp),I.aA.kept p,?_⟩
 ·
  have A:(relabel scope X.env).names.lookup x=some .cell\/(relabel scope X.env).names.lookup x=some .free:=A;have u:(x,NameKind.free)∈scope.names:=by
   have R:∀k,(relabel scope X.env).names.lookup x=some k->k=.cell\/k=.free->(x,NameKind.free)∈scope.names:=λk F p=>by
    have m:=qh F;obtain ⟨⟨x2,Q⟩,u,e⟩:=fY.mp m;dsimp only at e
    by_cases l:(Q==NameKind.free && X.env.scope.kind==.function && X.env.kindOf x2==some .cell)=true
    ·rw [if_pos l] at e;cases e;have:Q=.free:=by
      simp only [mX,beq_iff_eq] at l;exact l.1.1
     subst this;exact u
    ·rw [if_neg l] at e;cases e;rcases p with z | z
     ·exact absurd z (C.cell _ u)
     ·subst z;exact u
   rcases A with z | z
   ·exact R _ z (.inl U)
   ·exact R _ z (.inr U)
  exact M x u
 ·have n:(scope.names.lookup x==some .local)=true:=n;have T:=(C.free _ (g x c e).2 U).1;rw [T] at n;exact absurd n (by decide)
 ·obtain ⟨⟨_,_,_,L,_⟩,_⟩:=D b h;rcases L with z | z
  ·exact I.ok.jw b o e z
  ·exact absurd (ie (ie (d9 e) I.ok.mV) z) (jA _)
 ·obtain ⟨⟨_,Y,oF,_⟩,_⟩:=D b h;rcases f'.mp (I.jo b n) with z | z
  ·exact Y z
  ·exact oF z
 ·
  unfold qy at a;rw [dA] at a
  cases J:js[i]? with
  | none=>rw [J] at a;cases a
  | some oj=>
   rw [J] at a
   cases oj with
   | none=>cases a
   | some j=>
    have B:(σ[j]?).join=some v:=ft a;have V:σ[j]?=some (some v):=by
     cases q:σ[j]? with
     | none=>rw [q] at B;cases B
     | some z=>rw [q] at B;exact congrArg some B
    have t:N[i]?=some x:=t;have L:(some j,x)∈js.zip N:=tr.mpr ⟨i,by rw [List.getElem?_zip_eq_some];exact ⟨J,t⟩⟩;obtain ⟨r,d⟩:X.N[j]?=some x/\(x,NameKind.free)∈scope.names:=by
     rcases C.at_ _ L with q | ⟨j',_,q,r,d⟩
     ·cases q
     ·cases q;exact ⟨r,d⟩
    have r:X.N[j]?=some x:=r;have d:(x,NameKind.free)∈scope.names:=d;obtain ⟨_,f⟩:=C.free _ d U;have f:X.env.scope.names.lookup x=some .cell\/X.env.scope.names.lookup x=some .free:=f;obtain ⟨m,_,F⟩:=I.loc;obtain ⟨x5,x4,x1⟩:=F j x v r V (.inr f);refine ⟨x5,x4,?_⟩;rcases x1 with ⟨k,_⟩ | ⟨_,c,l,z⟩
    ·have k:X.env.scope.names.lookup x=some .local:=k;rcases f with f | f<;>(rw [f] at k;cases k)
    ·obtain ⟨S,O⟩:=M x d;have:=(g x S O).1;rw [l] at this;cases this;obtain ⟨o,G,E⟩:=z;exact .inr ⟨W x d,c,O,⟨o,p _ _ G,E⟩⟩
 ·obtain ⟨v,o,G,E⟩:=I.cell x c (g x c e).1;exact ⟨v,o,p _ _ G,E⟩
 ·show (qy js σ).length=N.length;unfold qy;rw [az];exact C.len
end
def xn (X:Cx) (d:List Expr) (t:TT):Prop:=
 ∀(b:List (Addr×Obj)) (s:Shared) (a:St) (H:Hp) (Q:Bool->Hp->Prop),Inv X b a H s->t a H Q->
  wpAny (model X.prog X.w) X.A (forIn d true λc r=>if r=true then do let ok <-isTrue c X.env (eval c X.env);pure (ForInStep.yield ok) else pure (ForInStep.yield r)) (TP X b a Q) X.xe s
def Ó:TT:=λ_ H Q=>Q true H
theorem rq:xn X [] Ó:=λ_ _ _ H _ I h=>wpAny_tests_nil ⟨H,I,h⟩
theorem oW (h:PT X c t):xn X [c] t:=λb s d H Q I a=>wpAny_tests_one (h b s d H Q I a)
def xJ (o:List (Option Nat)) (g:TG) (p:TT) (q:TE) (r:St) (Q:VK) (J:It) (l:Hp) (D:Addr):Prop:=∃W:Nat->Nat->St->Hp->Prop,(∃m,W 0 m (qy o r) (upd l D (.lst [])))/\
 ∀i m j a,W i m j a->(J.stop i a/\Q (.ref D) a)\/(J.go i a/\∃N:St->Hp->Prop,(∀k b,N k b->∃h,h<m/\W (i+1) h k b)/\
  ∀x b,J.ub i a x b->g x j b λc n=>p c n λok e=>if ok=true then q c e λy f=>∃d,f D=some (.lst d)/\d.length<sizeLine/\N c (upd f D (.lst (d++[y]))) else N c e)
def BX (c:List (Option Nat)) (f:TI) (g:TG) (d:TT) (e:TE):TE:=λb H Q=>f b H λJ a=>∀D,a D=none->xJ c g d e b Q J a D
noncomputable def j4 (l:List (Str×NameKind)):Scope:={ kind:=.function,names:=l,isGenerator:=false,isCoroutine:=false,more:=[] }
section
theorem Qh {f:List (Str×Addr)} {t:List (Addr×Obj)} {y:St} {H:Hp} {s:Shared} {E:Value->Shared->Prop} {Q:VK} {RR:Value->Addr->Result->Shared->Prop} (hc:mr X) (C:hV X.env.scope X.N scope N js)
 (c2:∀x c,f.lookup x=some c->X.env.cells.lookup x=some c/\(x,NameKind.free)∈scope.names) (c3:∀x,(x,NameKind.free)∈scope.names->∃c,f.lookup x=some c)
 (a:∀f ex s H,mr (gV X scope f N ex s H)->PG (gV X scope f N ex s H) tg g/\xn (gV X scope f N ex s H) ifs tc/\PE (gV X scope f N ex s H) elt te)
 {it:Addr} {h:List Addr} {v:Nat->Heap->Prop} {x2:It} (I:Inv X t y H s) (T:tY X.prog X.w X.K tg x2 h it v) (st:v 0 s.heap) (J:∀b∈h,ql X t H b)
 (x4:∀D,H D=none->xJ js g tc te y Q x2 H D)
 (hRR:∀D q d s',Q (.ref D) d->(∃m,s'.heap.Ns q m)->d q=none->X.bS.heap.objs.size<=q->q≠X.env.locals->(∀x c,X.env.cells.lookup x=some c->c≠q)->(∀p∈X.pn++t,p.1≠q)->Inv X t y d s'->RR (.ref D) q (.ok .next) s'):
 wpAny (model X.prog X.w) X.A (newList []) (λacc Kw=>wpAny (model X.prog X.w) X.A (newFunctionEnv scope X.env.globals f [] X.env.qual none .none (some X.env)) (λBk Kv=>
  codeAny (model X.prog X.w) X.A (.compStart (.ListComp elt [⟨tg,iter,ifs,0⟩] scope pos) 0 (.ref it) acc { Bk with scope:=relabel scope X.env }) (RR acc Bk.locals) Kv) E Kw) E s:=by
 have hD:H s.heap.objs.size=none:=I.fresh;have k:Inv X t y (upd H s.heap.objs.size (.lst [])) { s with heap:=s.heap.push { cls:=.type "list",data:=.seq ([]:List Value).toArray } }:=I.wa (its:=[]) (ys:=[]) (t':=s.toks) .nil (dZ _);refine qN (wpAny_newFunctionEnv C.cell (by intro x1 hy;simp at hy) (λjx W Z=>?_) C.kind);dsimp only at W Z ⊢;generalize Va:({ s with heap:=s.heap.push { cls:=.type "list",data:=.seq ([]:List Value).toArray } }:Shared)=s3 at k;have R:s.heap.push { cls:=.type "list",dict:=none,data:=.seq ([]:List Value).toArray }=s3.heap:=by rw [<-Va]
 rw [R] at W Z ⊢;have kp:∀b o,s3.heap.get? b=some o->jx.get? b=some o:=λb o e=>Z.extBut b o (gv (d9 e)) (cZ _ e);have S:∀b∈h,b<s.heap.objs.size:=λb a=>by obtain ⟨o,e,_⟩:=T.obj 0 s.heap st b a;exact d9 e
 have TK:s3.heap.objs.size=s.heap.objs.size+1:=by rw [<-R,yQ]
 have f3:∀b∈h,ql X t (upd H s.heap.objs.size (.lst [])) b:=λb a=>by obtain ⟨h1,h2⟩:=J b a;exact ⟨by rw [ah (gv (S b a))];exact h1,h2⟩
 have IY:∀tk,Inv (gV X scope f N h s3 (upd H s.heap.objs.size (.lst []))) [] (qy js y) (upd H s.heap.objs.size (.lst [])) { s3 with heap:=jx,toks:=tk }:=λtk=>
  WE k C c2 c3 (λb a=>⟨f3 b a,by rw [TK];exact By (S b a)⟩) W kp
 have jq:v 0 jx:=T.keep 0 s.heap jx st λb _ o e=>kp b o (by rw [<-R];exact cZ _ e);obtain ⟨x3,⟨m0,w0⟩,turn⟩:=x4 s.heap.objs.size hD;have M:mr (gV X scope f N h s3 (upd H s.heap.objs.size (.lst []))):=hc.in_ k U U λ_ _ _ z=>z;have hbY:=a f h s3 (upd H s.heap.objs.size (.lst [])) M;obtain ⟨hg,hif,he⟩:=hbY;have vK:∀{d:Hp},(∀b∈h,d b=none)->∀b∈h,ql (gV X scope f N h s3 (upd H s.heap.objs.size (.lst []))) [] d b:=λV b a=>by
  obtain ⟨_,L,oF,_,O,_⟩:=J b a;refine ⟨V b a,gv (by show b<s3.heap.objs.size;rw [TK];exact By (S b a)),λz=>?_,.inl a,λx c e=>O x c (c2 x c e).1,λp u=>absurd (show p∈([]:List (Addr×Obj)) from u) (by simp)⟩;rcases f'.mp (I.jo b z) with z | z
  ·exact L z
  ·exact oF z
 have loop:∀s4:Shared,s4={ s3 with heap:=jx,toks:=s.toks+([]:List (Str×Value)).length }->
  codeAny (model X.prog X.w) X.A (.compLoop (.ListComp elt [⟨tg,iter,ifs,0⟩] scope pos) 0 (.ref it) (.ref s.heap.objs.size) (compEnvC scope f s3.heap.objs.size X.env)) (RR (.ref s.heap.objs.size) s3.heap.objs.size) s4:=by
  rintro s4 rfl;refine Yg (λn s'=>∃i l d,Inv (gV X scope f N h s3 (upd H s.heap.objs.size (.lst []))) [] l d s'/\v i s'.heap/\(∀b∈h,d b=none)/\x3 i n l d) ?_ m0
   ⟨0,_,_,IY _,jq,λb a=>(f3 b a).1,w0⟩
  rintro n s5 ⟨i,B,A,I5,DX,EV,w5⟩;rcases turn i n B A w5 with ⟨stop,qn⟩ | ⟨go,Nx,hN,step⟩
  ·refine ax (T.done (gV X scope f N h s3 (upd H s.heap.objs.size (.lst []))) U U U M i [] s5 B A _ I5 (vK EV) DX stop) λx5 s6 ⟨Y,r⟩=>?_;subst Y;obtain ⟨m,V,_⟩:=r.loc;refine hRR _ _ A s6 qn ⟨m,V⟩ r.free (cP k.sz (ay _)) (wZ k.lt) (λx c e z=>?_) (λp u z=>?_) (k.ko r.os r.base r.aA r.bare λb a=>?_)
   ·obtain ⟨x7,o,ho,_⟩:=k.cell x c e;exact absurd (d9 ho) (by rw [z];exact jA _)
   ·exact absurd (d9 (k.pin p u).1) (by rw [z];exact jA _)
   ·obtain ⟨_,L,_,hx,O,u⟩:=J b a;exact ⟨hx,L,O,u⟩
  ·refine ax (T.item (gV X scope f N h s3 (upd H s.heap.objs.size (.lst []))) U U U M i [] s5 B A _ I5 (vK EV) DX go) λx5 s6 j=>L2.VF j λx6 Y h6=>?_;subst Y;refine ax h6 λ_ s7 j=>?_;obtain ⟨x,H7,I7,r7,y7,Ky,fr7⟩:=j;have I7':=I7.pinned (vK fr7) (T.obj _ _ Ky);refine ax (hg _ s7 B H7 x x6 _ I7' r7 (step x H7 y7)) λ_ s8 j=>?_;obtain ⟨F,H8,I8,q8⟩:=j;refine ax (hif _ s8 F H8 _ I8 q8) λok s9 j=>?_;obtain ⟨H9,I9,q9⟩:=j;have again:∀{s':Shared} {l:St} {d:Hp},Inv (gV X scope f N h s3 (upd H s.heap.objs.size (.lst []))) ([]++zy h s7.heap) l d s'->Nx l d->
    ∃m,m<n/\∃i zh NK,Inv (gV X scope f N h s3 (upd H s.heap.objs.size (.lst []))) [] zh NK s'/\v i s'.heap/\(∀b∈h,NK b=none)/\x3 i m zh NK:=λ{s' l d} G n'=>by
    obtain ⟨m',hm,w'⟩:=hN l d n';refine ⟨m',hm,i+1,l,d,G.gA,T.keep _ _ _ Ky λb a o e=>(G.pin (b,o) (kY _ (kY _ (Dw a e)))).1,λb a=>?_,w'⟩;obtain ⟨o,e,_⟩:=T.obj _ _ Ky b a;exact (G.pin (b,o) (kY _ (kY _ (Dw a e)))).2.1
   cases ok with
   | false=>exact again I9 q9
   | true=>
    refine ax (he _ s9 F H9 _ I9 q9) λyv vN j=>?_;obtain ⟨x1,qP,I10,r10,ys,hDD,LG,n10⟩:=j;refine ax (lF _ vN F qP (.ref s.heap.objs.size) [x1] (.ref s.heap.objs.size) [yv] (λ_ d=>Nx F d) I10 U (.cons r10 .nil) ⟨_,ys,x1,U,U,hDD,LG,n10⟩) λ_ K6 j=>?_;obtain ⟨_,NJ,I11,_,n11⟩:=j;exact again I11 n11
 have e4:({ s with heap:=jx,toks:=s.toks+([]:List (Str×Value)).length }:Shared)={ s3 with heap:=jx,toks:=s.toks+([]:List (Str×Value)).length }:=by rw [<-Va]
 exact codeAny_compStart_list (loop _ e4) (T.self _ 0 _ _ _ jq (loop _ e4))
theorem PV (u:mr X) (B:PI X tg iter wi) (C:hV X.env.scope X.N scope N js)
 (c:∀a ex s H,mr (gV X scope a N ex s H)->PG (gV X scope a N ex s H) tg g/\xn (gV X scope a N ex s H) ifs tc/\PE (gV X scope a N ex s H) elt te)
 (L:autoParam (∀x,foldedSetIterable iter X.env x=pure x) t14._auto_1):PE X (.ListComp elt [⟨tg,iter,ifs,0⟩] scope pos) (BX js wi g tc te):=by
 intro f s i H Q I h;obtain ⟨a,v,o,p⟩:=R3 (scope:=scope) (env:=X.env) λx O z=>I.ok.has x.1 (C.free x O z).2;rw [eval_ListComp];refine wpAny_comprehension_free (use:=none) U L v C.kind C.loc (ax (B f s i H _ I h) λxv cK R=>ax R λUQ n5 S=>?_);obtain ⟨it,fp,tn,x1,H2,rfl,l,T,Y,r,q⟩:=S;refine Qh (RR:=λn d=>compPost (model X.prog X.w) X.A X.xe none (EP X f i Q) n d) u C o p c l T Y r q ?_;intro D d j V J F A M t y G k;obtain ⟨m,E⟩:=F;refine ⟨m,E,λh' W=>⟨.ref D,j,?_,U,J⟩⟩;exact k.turned (t':=V.toks) (λb x2 c e=>(W.2 b c).trans e) A (aK (aK t)) (.inr M) y G
theorem oA (c:X.calm=true) (d:PI X tg iter J) (C:hV X.env.scope X.N scope N js)
 (b:∀a ex s H,PG (gV X scope a N ex s H) tg g/\xn (gV X scope a N ex s H) ifs tc/\PE (gV X scope a N ex s H) elt I)
 (e:autoParam (∀x,foldedSetIterable iter X.env x=pure x) t14._auto_1):PE X (.ListComp elt [⟨tg,iter,ifs,0⟩] scope pos) (BX js J g tc I):=PV (.inl c) d C (λa ex s H _=>b a ex s H) e
theorem Xz (L:X.N.Nodup) (Y:X.N[i]?=some y) (r:X.env.scope.names.lookup y=some .local) (O:mr X) (W:PI X tg iter wi) (C:hV X.env.scope X.N scope N js)
 (k:∀c ex s H,mr (gV X scope c N ex s H)->PG (gV X scope c N ex s H) tg g/\xn (gV X scope c N ex s H) ifs tc/\PE (gV X scope c N ex s H) elt te)
 (hsw:autoParam (swapsWith (.ListComp elt [⟨tg,iter,ifs,0⟩] scope pos) (some (.Name y py)) K0.line X.env=pure true) t10._auto_1)
 (hs:autoParam (∀x,foldedSetIterable iter X.env x=pure x) t14._auto_1):PS X (.Assign [.Name y py] (.ListComp elt [⟨tg,iter,ifs,0⟩] scope pos) K0) (Ag (BX js wi g tc te) (uQ i)):=by
 intro n s t H D I h;obtain ⟨c,R,F,G⟩:=R3 (scope:=scope) (env:=X.env) λx m S=>I.ok.has x.1 (C.free x m S).2;rw [exec_Assign_Name_used _ _ _ _ hsw];refine ae (B4 (ae ?_));show wpAny _ X.A (do let _ <-comprehension (.ListComp elt [⟨tg,iter,ifs,0⟩] scope pos) scope X.env _ (newList []) false (eval iter X.env) (some (assign (.Name y py) X.env))) _ _ s;refine ae (gS (wpAny_comprehension_free (use:=some (assign (.Name y py) X.env)) (Q:=λ_ d=>SP X n D .next d) U hs R C.kind C.loc (ax (W n s t H _ I h) λxv cK jx=>ax jx λUQ n5 Le=>?_))
  (λ_ d l=>aJ (aJ l)) λ_ _ e=>e)
 obtain ⟨it,fp,tn,x3,H2,rfl,j,T,fU,J,x2⟩:=Le;refine Qh (Q:=λx A=>uQ i x t A D.nx) (RR:=λE f=>compPost (model X.prog X.w) X.A X.xe (some (assign (.Name y py) X.env)) (λ_ d=>SP X n D .next d) E f) O C F G k j T fU J x2 ?_;intro o f u d l LB V hsz p q L3 B;obtain ⟨x1,Z⟩:=LB;show wpAny _ X.A (assign (.Name y py) X.env (.ref o)) _ _ _;refine wpAny_assign_Name (Ra B L Y (.inl r) (v:=.ref o) U (λs2 j m=>?_) (.inr r));obtain ⟨a,sba,M⟩:=m;have qG:f≠a:=by
  rcases M with z | z
  ·rw [z];exact p
  ·exact λe=>q y a z e.symm
 refine ⟨x1,Z.sameBut sba qG,λh' sb=>⟨_,u,?_,l⟩⟩;exact j.turned (t':=s2.toks) (λb x4 k e=>(sb.2 b k).trans e) V p (.inr hsz) q L3
theorem vd (b:X.N.Nodup) (f:X.N[i]?=some y) (k:X.env.scope.names.lookup y=some .local) (d:X.calm=true) (e:PI X tg iter wi) (C:hV X.env.scope X.N scope N js)
 (c:∀a ex s H,PG (gV X scope a N ex s H) tg g/\xn (gV X scope a N ex s H) ifs tc/\PE (gV X scope a N ex s H) elt J)
 (j:autoParam (swapsWith (.ListComp elt [⟨tg,iter,ifs,0⟩] scope pos) (some (.Name y py)) I.line X.env=pure true) t10._auto_1)
 (h:autoParam (∀x,foldedSetIterable iter X.env x=pure x) t14._auto_1):PS X (.Assign [.Name y py] (.ListComp elt [⟨tg,iter,ifs,0⟩] scope pos) I) (Ag (BX js wi g tc J) (uQ i)):=Xz b f k (.inl d) e C (λa ex s H _=>c a ex s H) j h
end
section
theorem DD {l:Int} {n:Nat} (b:Nat->St->Hp->Prop) (h0:b 0 (qy js h) (upd H D (.lst [])))
 (t:∀i c a,i<n->b i c a->g (.int (l+i)) c a λf q=>tc f q λok j=>if ok=true then C f j λy k=>∃ys,k D=some (.lst ys)/\ys.length<sizeLine/\b (i+1) f (upd k D (.lst (ys++[y]))) else b (i+1) f j)
 (r:∀c a,b n c a->Q (.ref D) a):
 xJ js g tc C h Q (uN l n) H D:=by
 refine ⟨λi m h H=>m=n-i/\i<=n/\b i h H,⟨n,by simp,dZ _,h0⟩,?_⟩;rintro i m c a ⟨rfl,s,p⟩
 by_cases d:i<n
 ·refine .inr ⟨d,b (i+1),λv o u=>⟨n-(i+1),rz d,U,d,u⟩,λx o y=>?_⟩;obtain ⟨e,y⟩:=y;subst e y;exact t i c _ d p
 ·have e:i=n:=rA s d;subst e;exact .inl ⟨ay _,r c a p⟩
theorem nt {a:Addr} {xs:List V} (d:Nat->St->Hp->Prop) (h0:d 0 (qy js j) (upd H D (.lst []))) (t:∀i c b,i<=xs.length->d i c b->ar K b a xs)
 (u:∀i x c b,xs[i]?=some x->d i c b->g x c b λh r=>tc h r λok k=>if ok=true then C h k λy l=>∃ys,l D=some (.lst ys)/\ys.length<sizeLine/\d (i+1) h (upd l D (.lst (ys++[y]))) else d (i+1) h k)
 (s:∀c b,d xs.length c b->Q (.ref D) b):
 xJ js g tc C j Q (ze K a) H D:=by
 refine ⟨λi m j H=>m=xs.length-i/\i<=xs.length/\d i j H,⟨xs.length,by simp,dZ _,h0⟩,?_⟩;rintro i m c b ⟨rfl,n,p⟩;have q:=t i c b n p
 by_cases f:i<xs.length
 ·refine .inr ⟨⟨xs,xs[i],q,by simp [f]⟩,d (i+1),λz o v=>⟨xs.length-(i+1),rz f,U,f,v⟩,λx o y=>?_⟩;obtain ⟨e,y⟩:=y;subst e;exact u i x c _ (y xs q) p
 ·have e:i=xs.length:=rA n f;subst e;exact .inl ⟨⟨xs,q,ay _⟩,s c b p⟩
end
end L2
set_option maxHeartbeats 4000000
namespace L2
open PySem PySem.Spec PyProof.Rows
noncomputable abbrev iZ:List Value:=[.type "ValueError",.type "Exception",.type "BaseException",.type "object"]
def ij (a C:Addr) (dx:Option Addr):HO:=.ext λh=>∃t:Addr,h.get? a=some (cX C dx (.ref t) .none)
noncomputable def Ab (d:Addr) (fs:List (Str×V)):HO:=.ext λh=>∃a,h.Ns1 d a/\(∀f,jk (fs.lookup f) (a f))/\PySem.Within a (fs.map (·.1))
section
theorem Co (e:h.get? a=some (cX C dx (.ref t) .none)):d_ P w H h a (ij a C dx):=⟨⟨t,e⟩,⟨_,e⟩,λ_ _ ⟨c,b⟩ k=>⟨c,k _ b⟩⟩
theorem HM (ok:dq P w H h) (e:H a=some (ij a C dx)):∃t:Addr,h.get? a=some (cX C dx (.ref t) .none):=(ok a _ e).1
theorem zCj (n:h.Ns1 d mA) (r:∀f,jk (fs.lookup f) (mA f)) (g:PySem.Within mA (fs.map (·.1))):d_ P w H h d (Ab d fs):=by refine ⟨⟨mA,n,r,g⟩,?_,λi j ⟨m,a,b,c⟩ k=>⟨m,a.at k,b,c⟩⟩;obtain ⟨o,_,_,e,_⟩:=n;exact ⟨o,e⟩
theorem O7 (e:H a=some o):upd H a o=H:=by
 funext b
 by_cases c:b=a
 ·rw [c,ai,e]
 ·rw [ah c]
end
theorem Inv.jP (I:Inv X pins σ H s) (kp:∀b u,b≠a->s.heap.get? b=some u->h'.get? b=some u) (y:H a=none)
 (D:X.bS.heap.objs.size<=a) (g:a≠X.env.locals) (l:∀x c,X.env.cells.lookup x=some c->c≠a) (C:∀p∈X.pn++pins,p.1≠a) (E:d_ X.prog X.w (upd H a o) h' a o):Inv X pins σ (upd H a o) { s with heap:=h',toks:=t' }:=by
 have f:∀b u,H b=some u->b≠a:=λb u e=>av e y;refine I.step (g':=s.gens) (d':=s.drawn) (ch:=[a]) (λb d=>?_) (λb u _ _ d e _=>kp b u (λz=>d (by simp [z])) e) (λb u _ _ d e _=>⟨u.slots,kp b u (λz=>d (by simp [z])) e⟩) (λb u d _ n=>by rw [ah λz=>d (by simp [z])];exact n)
  (λb u d e=>⟨u,kp b u (λz=>d (by simp [z])) e⟩) (λb i e=>by rw [ah (f b _ e)];exact e) (λb u i e=>by rw [ah (f b _ e)];exact e) (λb F e=>⟨#[],by rw [ah (f b _ e),e];simp⟩) (λm A=>?_) (λb u e=>?_) I.bare
 ·have e:b=a:=by simpa using d
  subst e;exact ⟨.inr D,g,l,C⟩
 ·obtain ⟨h,k,j,B,r⟩:=A;exact ⟨h,k,j,kp _ h (aK g) B,r⟩
 ·by_cases d:b=a
  ·subst d;rw [ai] at e;cases e;exact E
  ·rw [ah d] at e;refine (I.aA b u e).fQ (λc v t q=>kp c v ?_ q) (λc q=>by rw [ah (f c _ q)];exact q) λc i q=>by rw [ah (f c _ q)];exact q
   rcases t with z | z
   ·rw [z];exact d
   ·exact f c _ z
structure qk (K:aO) (C M fI:Addr):Prop where
 obj:∃(nm q:Str) (N:Addr) (bs:List Value) (sn:List Str) (sub:List Value) (ab:Bool) (col:Option Bool) (dd:Option Addr) (k0 k1 k2 k3 k5:Option Value),
  K.lookup C=some (excClassObj nm q C N bs (.ref M::iZ) true sn sub ab col dd k0 k1 k2 k3 k5 "ValueError.__new__")/\W.nsOkIn K N=true/\W.nsIn K N "__init__"=some (some (.ref fI))
 tail:W.tailIn K iZ (.ref M::iZ)=true
 fn:W.isFn K (.ref fI)=true
 kp:W.keepIn K (.ref C)=true
 sa:W.findIn K (.ref C) "__setattr__"=some (some (.builtin "object.__setattr__"))
theorem YI {h:Heap} {N:Addr} {m:Str->Option Value} {n:Str} {v:Value} (X:K.In h) (G:h.Ns N m) (e:W.nsIn K N n=some (some v)):m n=some v:=by
 obtain ⟨o,k,j,g,a,_,f⟩:=G;unfold W.nsIn at e;split at e
 ·rename_i c d l p r q
  have z:=X _ _ q;rw [g] at z;cases z;cases a;split at e
  ·rename_i i b
   cases e;rw [<-f];unfold nsFind findBy;rw [<-Array.find?_toList,b];rfl
  ·split at e<;>cases e
 ·cases e
section
variable {os:OsState}
theorem Zx (T:OwnTail h iZ bm)
 (a:h.get? C=some (excClassObj nm q C N bs bm J sn sub ab col dd k0 k1 k2 k3 k5 "ValueError.__new__")) (u:h.Ns N mN) (s:mN "__init__"=some (.ref fI)) (l:h.get? fI=some I) (n:I.cls=.type "function")
 (y:wpAny (model prog w) A (call (.ref fI) (.ref (h.objs.size+1)::args)) (λr s'=>r=.none/\Q (.done (.ret (.ref (h.objs.size+1)))) s') E
  ⟨(h.push { cls:=.type "tuple",data:=.seq args.toArray }).push (cX C none (.ref h.objs.size) .none),g,d,t,os⟩) (B:args.length<=sizeLine):
 wpAny (model prog w) A (Builtin.«type.__call__» ⟨.ref C::args,[]⟩) Q E ⟨h,g,d,t,os⟩:=by
 have F:=N0
 repeat (first | with_reducible refine uJ a ?_ | with_reducible refine wpAny_madeBy_exc a ?_ | wp_step)
 refine VY (F8 _ F.quiet) (wpAny_check_new_subT F T a ?_);refine codeAny_exc_new_subT F T a ?_ B;show wpAny _ _ _ _ _ _;have c:∀b o,h.get? b=some o->((h.push { cls:=.type "tuple",data:=.seq args.toArray }).push (cX C none (.ref h.objs.size) .none)).get? b=some o:=
  λb o e=>cZ _ (cZ _ e)
 have f:=c _ _ a;have m:=c _ _ l;have v:((h.push { cls:=.type "tuple",data:=.seq args.toArray }).push (cX C none (.ref h.objs.size) .none)).Ns N mN:=u.keeps c;have p:((h.push { cls:=.type "tuple",data:=.seq args.toArray }).push (cX C none (.ref h.objs.size) .none)).get? (h.objs.size+1)=some (cX C none (.ref h.objs.size) .none):=by heap_get
 have k:(Value.ref C::bm).contains (.ref C)=true:=by simp
 have i:=T.keeps c;unfold isInstance
 repeat (first | with_reducible refine uJ p ?_ | (with_reducible refine Ni f ?_;rw [k]) | wp_step)
 show wpAny _ _ (typeLookup (.ref C) _) _ _ _;refine wpAny_typeLookup_tail f v i F.mroIs F.init.lookup ?_;rw [s];refine kX (ae ?_);unfold bindSpecial;refine ae (Fo (T:="function") ⟨_,m,n⟩ ?_);rw [if_pos (by decide)];refine aJ (ae (gS y (λr s' z=>?_) λ_ _ x=>x));obtain ⟨rfl,j⟩:=z
 wp_walk
 exact j
theorem W7 (T:OwnTail h iZ bm)
 (a:h.get? C=some (excClassObj nm q C N bs bm hdct sn sub ab col dd k0 k1 k2 k3 k5 "ValueError.__new__")) (f:h.Ns N I) (e:I "__init__"=some (.ref fI)) (b:h.get? fI=some J) (c:J.cls=.type "function")
 (i:wpAny (model prog w) (A.under (.builtin "type.__call__" ⟨.ref C::args,[]⟩)) (call (.ref fI) (.ref (h.objs.size+1)::args)) (λr s'=>r=.none/\Q (.ref (h.objs.size+1)) s') E
  ⟨(h.push { cls:=.type "tuple",data:=.seq args.toArray }).push (cX C none (.ref h.objs.size) .none),g,d,t,os⟩) (j:args.length<=sizeLine):
 wpAny (model prog w) A (call (.ref C) args) Q E ⟨h,g,d,t,os⟩:=by
 have k:=tc_lookup;have l:=tc_bind (.ref C);have m:(⟨h,g,d,t,os⟩:Shared).TypeIs (.ref C) "type":=⟨_,a,U⟩;refine qK (codeAny_of_tree ?_);show wpAny _ _ (callAny (.ref C) _) _ _ _
 repeat (any_goals (first | assumption | with_reducible refine uJ a ?_ | wp_step))
 refine ⟨U,?_⟩;refine codeAny_call_builtin_at (F8 _ (by decide+kernel)) entry_typeCall (VZ a (Zx T a f e b c ?_ j));exact i
end
def ϴ (C:Addr) (sp:Sp) (E:XK) (t:TA):TE:=λd H Q=>t d H λb a=>b.length<=sizeLine/\∀x,a x=none->sp (.ref x::b) (upd a x (ij x C none)) (λv c=>v=.aG/\Q (.ref x) c) E
section
theorem Yq {h:List (Addr×Obj)} {i:St} {H:Hp} {s:Shared} {Q:VK} {us:List Value} {vs:List V} (M:qk X.K C Mo f) (F:aq X.prog X.w X.K X.mg X.base CX k f fd ps sp) (Y:cR (k+1) X.A) (G:dm X.K fd ps [])
 (Z:kK CX X E) (I:Inv X h i H s) (r:a_ vs us) (hz:vs.length<=sizeLine)
 (W:∀x,H x=none->sp (.ref x::vs) (upd H x (ij x C none)) (λv y=>v=.aG/\Q (.ref x) y) E):wpAny (model X.prog X.w) X.A (call (.ref C) us) (EP X h i Q) X.xe s:=by
 obtain ⟨nm,x2,N,bs,sn,sub,ab,col,dd,k0,k1,k2,k3,k5,lk,nok,ini⟩:=M.obj;have a:=I.fj;have D:=a _ _ lk;have T:=PySem.W.tail_of_in a M.tail;have q:s.heap.Ns N (s.heap.nsMap N):=.of_isNs (PySem.W.isNs_of_in a nok);have R:=YI a q ini;have S:∃l,s.heap.get? f=some l/\l.cls=.type "function":=by
  have m:PySem.W.typeIn X.K (.ref f)=some (.type "function"):=beq_iff_eq.mp M.fn;unfold PySem.W.typeIn at m
  cases c:X.K.lookup f with
  | none=>simp [c] at m
  | some o=>exact ⟨o,a _ _ c,by simpa [c] using m⟩
 obtain ⟨l,J,L⟩:=S;have n:=W (s.heap.objs.size+1) (I.aA.fresh (lb _));have kp:∀b o,s.heap.get? b=some o->((s.heap.push { cls:=.type "tuple",data:=.seq us.toArray }).push (cX C none (.ref s.heap.objs.size) .none)).get? b=some o:=
  λb o e=>cZ _ (cZ _ e)
 have O:((s.heap.push { cls:=.type "tuple",data:=.seq us.toArray }).push (cX C none (.ref s.heap.objs.size) .none)).get? (s.heap.objs.size+1)=some (cX C none (.ref s.heap.objs.size) .none):=by
  have x1:=iT (s.heap.push { cls:=.type "tuple",data:=.seq us.toArray }) (o:=cX C none (.ref s.heap.objs.size) .none) U
  rwa [yQ] at x1
 have g:Inv X h i (upd H (s.heap.objs.size+1) (ij (s.heap.objs.size+1) C none)) { s with heap:=(s.heap.push { cls:=.type "tuple",data:=.seq us.toArray }).push (cX C none (.ref s.heap.objs.size) .none) }:=
  I.laid (t':=s.toks) kp (lb _) (Co O)
 have t:a_ (V.ref (s.heap.objs.size+1)::vs) (Value.ref (s.heap.objs.size+1)::us):=.cons U r;have c:(Value.ref (s.heap.objs.size+1)::us).length=ps.length:=by rw [<-t.length];exact F.len _ _ _ _ n
 have p:=G { s with heap:=(s.heap.push { cls:=.type "tuple",data:=.seq us.toArray }).push (cX C none (.ref s.heap.objs.size) .none) } (Value.ref (s.heap.objs.size+1)::us) g.fj (by simpa using c);rw [lZ] at p;obtain ⟨j,gg,dd',tt,oo⟩:=s;refine W7 T D q R J L ?_ (by rw [<-r.length];exact hz);refine qK (yN (F.run _ X.stack _ _ ⟨Value.ref (j.objs.size+1)::us,[]⟩ (Value.ref (j.objs.size+1)::us) _ _ E (Y.make C us []) (g.sX.make C us []) p t n) λr s' d=>?_)
 cases r with
 | error e=>exact Z h i _ _ e s' g d
 | ok B=>
  cases B with
  | ret x3=>
   obtain ⟨v,u,z,rv,A,q3⟩:=g.after d;subst A;exact ⟨rv,⟨V.ref (j.objs.size+1),u,z,U,q3⟩⟩
  | next=>exact iB d
  | brk=>exact iB d
  | cont=>exact iB d
theorem WZ (M:qk X.K C Mo f) (F:aq X.prog X.w X.K X.mg X.base CX k f fd ps sp) (m:cR (k+1) X.A) (i:Gl X x) (j:X.mg x=some (.ref C)) (c:dm X.K fd ps []) (n:kK CX X E)
 (b:PA X (e::J) t) (d:autoParam ((x==("__debug__":Str))=false) t12._auto_1) (g:autoParam (starEach (e::J) X.env=(false,eval e X.env)::starEach J X.env) t10._auto_1) (l:autoParam ((backTo pos (starEach J X.env)).any (·.1)=false) t10._auto_1):
 PE X (.Call (.Name x p) (e::J) [] pos) (ϴ C sp E t):=by
 intro o s v H Q I h;refine xf (rj I i j ?_ d);refine yY (h₀:=X.base) I.ok.mod.sI M.kp (ax (b pos o s v H _ I h) λB A u=>?_) g l;obtain ⟨D,y,a,r,z,q⟩:=u;refine ⟨a.fj,?_⟩;exact Yq M F m c n a r z q
end
structure z_ (K:aO) (C M:Addr):Prop where
 obj:∃(nm q:Str) (N:Addr) (bs:List Value) (sn:List Str) (sub:List Value) (ab:Bool) (col:Option Bool) (dd:Option Addr) (k0 k1 k2 k3 k5:Option Value),
  K.lookup C=some (excClassObj nm q C N bs (.ref M::iZ) true sn sub ab col dd k0 k1 k2 k3 k5 "ValueError.__new__")
 tail:W.tailIn K iZ (.ref M::iZ)=true
theorem qk.o {C Mo f:Addr} (M:qk K C Mo f):z_ K C Mo:=by obtain ⟨k,q,N,b,l,m,a,c,d,e,g,h,i,j,lk,_⟩:=M.obj;exact ⟨⟨k,q,N,b,l,m,a,c,d,e,g,h,i,j,lk⟩,M.tail⟩
theorem QZ (I:Inv X pins σ H s) (M:z_ X.K C Mo)
 (a:H x=some (ij x C dx)) (D:us.length<=sizeLine) (l:∀s',Inv X pins σ H s'->Q .none s'):wpAny (model X.prog X.w) A (call (.builtin "ValueError.__init__") (.ref x::us)) Q E s:=by
 obtain ⟨S,q,N,n,W,Y,m,p,r,G,J,L,O,R,lk⟩:=M.obj;have f:=I.fj;have j:=f _ _ lk;have T:=PySem.W.tail_of_in f M.tail;have F:=N0;obtain ⟨t,g⟩:=HM I.aA a;have i:∀(v:Addr) (c:Nat),Inv X pins σ H { s with heap:=(s.heap.push { cls:=.type "tuple",data:=.seq us.toArray }).update x (Obj.mapFields (·.setIfInBounds 0 (.ref v))),toks:=c }:=λv c=>by
  have h:(s.heap.push { cls:=.type "tuple",data:=.seq us.toArray }).get? x=some (cX C dx (.ref t) .none):=cZ _ g;have d:((s.heap.push { cls:=.type "tuple",data:=.seq us.toArray }).update x (Obj.mapFields (·.setIfInBounds 0 (.ref v)))).get? x=some (cX C dx (.ref v) .none):=qc _ h U;have z:=I.write (x:=x) (e:=x) (o:=ij x C dx) (h':=(s.heap.push { cls:=.type "tuple",data:=.seq us.toArray }).update x (Obj.mapFields (·.setIfInBounds 0 (.ref v)))) (t':=c) (by rw [a];exact True.intro) (.inl U)
   (λb x1 k e=>(iS _ _ (aK k)).trans (cZ _ e)) ⟨_,d⟩ (Co d)
  rwa [O7 a] at z
 obtain ⟨B,y,u,Z,V⟩:=s;refine qK (Nl F.init.plain F.initEntry (wpAny_check_init_subT F T j g U ?_))
 wp_walk
 exact l _ (i _ _)
open PySem PySem.Spec PyProof.Rows Builtin Builtin.ObjectAttr
structure SW (K:aO) (Mo:Addr):Prop where
 ty:W.typeIn K (.ref Mo)=some (.type "type")
 ga:W.specialIn K (.ref Mo) "__getattribute__"=some (some (.builtin "type.__getattribute__"))
 gt:W.findIn K (.type "type") "__getattribute__"=some (some (.builtin "type.__getattribute__"))
 op:W.nsIn K cStatics "thirdparty.any"=some none
 fc:W.findCls K (.ref Mo) (.type "type") "__init__"=some (.val (.builtin "ValueError.__init__"))
 si:W.subIn K (.type "type") (.type "type")=some true
def ÿ (K:aO) (t:TA):TE:=λg H Q=>t g H λe a=>∃x b C c f d,e=.ref x::b/\a x=some (ij x C d)/\qk K C c f/\b.length<=sizeLine/\Q .aG a
theorem zBs (B:SW X.K Mo) (l:Gl X x) (m:X.mg x=some (.ref Mo)) (j:PA X (e::J) t) (k:autoParam ((x==("__debug__":Str))=false) t12._auto_1)
 (o:autoParam (starEach (e::J) X.env=(false,eval e X.env)::starEach J X.env) t10._auto_1) (n:autoParam ((backTo pos (starEach J X.env)).any (·.1)=false) t10._auto_1)
 (r:autoParam (eval (.Call (.Attribute (.Name x p) "__init__" apos) (e::J) [] pos) X.env=(do
  let a <-eval (.Name x p) X.env
  standAt apos.atName
  let (f,first) <-holding [a] (getMethod a "__init__" pl)
  callWith pos f first (backTo pos (starEach (e::J) X.env)) (backToKw pos (keywordEach [] X.env)))) t10._auto_1):
 PE X (.Call (.Attribute (.Name x p) "__init__" apos) (e::J) [] pos) (ÿ X.K t):=by
 intro v s F H Q I h;refine W.methodCall_KW (pl:=pl) (rj I l m ?_ k) r;unfold getMethod;refine ae ((W.looks_specialIn I.fj B.ga).here ?_);dsimp only;rw [if_pos (by decide+kernel)];refine ae (W.cls_open I.fj (W.looks_opaque I.fj B.op) (W.looks_typeIn I.fj B.ty) B.gt (W.looks_hook I.fj U) B.si B.fc ?_);refine aJ ?_;show wpAny _ _ (handedOut (.builtin "ValueError.__init__")) _ _ _;rw [W.handedOut_of (by decide+kernel)];refine aJ (aJ ?_);refine We (ax (j pos v _ F H _ (I.tok _) h) λS O E=>?_) o n;obtain ⟨T,b,c,z,y,N,C,G,f,L,g,i,M,u,q⟩:=E;subst g
 cases z with
 | cons A D=>
  cases A;exact QZ c M.o i (by rw [<-D.length];exact u) λR d=>⟨.aG,b,d,U,q⟩
theorem Zk {X:Cx} {A:Around} {E:Value->Shared->Prop} {C l Y x:Addr} {dx:Option Addr} {D:List (Addr×Obj)} {F:St} {H:Hp} {s:Shared} {Q:Unit->Shared->Prop} {a:Str} {y:V} {u:Value} (I:Inv X D F H s) (M:qk X.K C l Y)
 (na:PySem.W.findIn X.K (.ref C) a=some none) (v:H x=some (ij x C none)) (ru:bQ y u)
 (hq:∀d s',H d=none->d≠x->Inv X D F (upd (upd H x (ij x C (some d))) d (Ab d [(a,y)])) s'->Q () s'):wpAny (model X.prog X.w) A (setAttr (.ref x) a u) Q E s:=by
 obtain ⟨R,x2,N,O,sn,sub,L,S,dd,k0,k1,k2,k3,k5,lk,_⟩:=M.obj;have h:=I.fj;have hC:=h _ _ lk;have g:=PySem.F.store_object;obtain ⟨t,i⟩:=HM I.aA v;have k:PySem.W.Looks (model X.prog X.w) s.heap (typeOf (.ref x)) (.ref C):=(PySem.W.Looks.ld i).andThen .now;have n:PySem.W.clsIn X.K C=some { name:=R,bases:=O,mro:=.ref C::.ref l::iZ,ns:=N,qualname:=x2,hasDict:=true,slotNames:=sn,subclasses:=sub,abstract:=L,collection:=S,hasDel:=false }:=by unfold PySem.W.clsIn;rw [lk]
 have J:PySem.W.Looks (model X.prog X.w) s.heap (mroOf (.ref C)) (.ref C::.ref l::iZ):=(PySem.W.looks_clsIn h n).andThen .now;have Kx:PySem.W.Looks (model X.prog X.w) s.heap (isInstance (.ref x) (.type "object")) true:=k.andThen (PySem.W.looks_mroIn h (by unfold PySem.W.mroIn;rw [n];rfl));have p:x≠s.heap.objs.size:=gv (d9 i);have Z:∀(h':Heap) (q:Nat),h'.Ns1 s.heap.objs.size (λz=>if z=a then some u else none)->
  Heap.SameBut s.heap.objs.size ((s.heap.push { cls:=.type "dict",data:=.dict #[] }).update x λo=>{ cls:=o.cls,dict:=some s.heap.objs.size,data:=o.data,slots:=o.slots }) h'->Q () { s with heap:=h',toks:=q }:=λh' q n1 sb=>by
  refine hq s.heap.objs.size _ I.fresh (aK p) ?_;have W:(s.heap.push { cls:=.type "dict",data:=.dict #[] }).get? x=some (cX C none (.ref t) .none):=cZ _ i;have r:((s.heap.push { cls:=.type "dict",data:=.dict #[] }).update x λo=>{ cls:=o.cls,dict:=some s.heap.objs.size,data:=o.data,slots:=o.slots }).get? x=some (cX C (some s.heap.objs.size) (.ref t) .none):=qc _ W U;have G:=I.write (x:=x) (e:=x) (o:=ij x C (some s.heap.objs.size)) (h':=(s.heap.push { cls:=.type "dict",data:=.dict #[] }).update x λo=>{ cls:=o.cls,dict:=some s.heap.objs.size,data:=o.data,slots:=o.slots }) (t':=s.toks)
   (by rw [v];exact True.intro) (.inl U) (λb x3 m e=>(iS _ _ (aK m)).trans (cZ _ e)) ⟨_,r⟩ (Co r)
  have e3:((s.heap.push { cls:=.type "dict",data:=.dict #[] }).update x λo=>{ cls:=o.cls,dict:=some s.heap.objs.size,data:=o.data,slots:=o.slots }).objs.size=s.heap.objs.size+1:=by rw [Heap.size_after_update,yQ]
  have hf:upd H x (ij x C (some s.heap.objs.size)) s.heap.objs.size=none:=by rw [ah (aK p)];exact I.fresh
  have ER:X.bS.heap.objs.size<=s.heap.objs.size:=I.sz;have kp:∀b o,b≠s.heap.objs.size->((s.heap.push { cls:=.type "dict",data:=.dict #[] }).update x λo=>{ cls:=o.cls,dict:=some s.heap.objs.size,data:=o.data,slots:=o.slots }).get? b=some o->h'.get? b=some o:=λb o m e=>(sb.2 b m).trans e;have new:d_ X.prog X.w (upd (upd H x (ij x C (some s.heap.objs.size))) s.heap.objs.size (Ab s.heap.objs.size [(a,y)])) h' s.heap.objs.size (Ab s.heap.objs.size [(a,y)]):=by
   refine zCj n1 (λz=>?_) (λz hz=>?_)
   ·show jk (List.lookup z [(a,y)]) (if z=a then some u else none);rw [gj]
    by_cases e:z=a
    ·subst e;rw [jI,if_pos rfl];exact ru
    ·rw [show (z==a)=false from beq_eq_false_iff_ne.mpr e,if_neg e];exact True.intro
   ·by_cases e:z=a
    ·subst e;exact gw
    ·exact absurd (if_neg e) hz
  exact G.jP (t':=q) kp hf ER (λz=>by
   have:=I.lt;rw [z] at this;exact jA _ this) (λy' c e z=>by
   obtain ⟨x3,o,ho,_⟩:=I.cell y' c e;have:=d9 ho;rw [z] at this;exact jA _ this) (λx1 hp z=>by
   have:=d9 (I.pin x1 hp).1;rw [z] at this;exact jA _ this) new
 obtain ⟨f,gg,T,j,oo⟩:=s;unfold setAttr;refine ae (wpAny_mkText (ae ?_));unfold callSpecial? specialOf;refine ae (ae (k.at ((BC h M.sa).at (kX (ae ?_)))));rw [g.slot.bind];refine aJ (ae (qK (Nl g.slot.plain g.entry (@PySem.W.check_slot (model X.prog X.w) _ _ ⟨f,gg,T,j+1,oo⟩ "object.__setattr__" "object" "__setattr__" (.ref x) [.str a j,u] [] _ g.kind g.split Kx (g.args (.ref x) (.str a j) u) ?_))));show wpAny _ A.in1 (Builtin.«object.__setattr__» ⟨[.ref x,.str a j,u],[]⟩) _ _ _;rw [PySem.W.osa_eq,refuse_eq];refine ae (ae (k.at (ae (J.at ?_))));rw [refuseLoop_ref,refuseLoop_ref,PySem.F.store_ValueError.passes];refine aJ (ae (k.at (ae ((BC h na).at (ae (aJ ?_))))));refine ae (aJ (ae (ae (M_ (o:=cX C none (.ref t) .none) i (ae ((PySem.W.looks_clsIn h n).at ?_))))));have A1:(f.push { cls:=.type "dict",data:=.dict #[] }).get? x=some (cX C none (.ref t) .none):=cZ _ i;refine ae (wpAny_alloc' ?_);refine ae (wpAny_update' A1 ?_);refine aJ ?_;have hgd:((f.push { cls:=.type "dict",data:=.dict #[] }).update x λo=>{ cls:=o.cls,dict:=some f.objs.size,data:=o.data,slots:=o.slots }).get? f.objs.size=some { cls:=.type "dict",data:=.dict #[] }:=
  (Heap.get?_update_ne _ _ _ _ p.symm).trans (Heap.get?_push_at U U)
 have pR:((f.push { cls:=.type "dict",data:=.dict #[] }).update x λo=>{ cls:=o.cls,dict:=some f.objs.size,data:=o.data,slots:=o.slots }).Ns f.objs.size (λ_=>none):=
  ⟨_,#[],_,hgd,U,λe he=>absurd he (by simp),λ_=>rfl⟩
 show wpAny _ _ (storeInDict f.objs.size (.str a j) a u) _ _ _;unfold storeInDict newKeyGuard;refine ae (aJ (ae (wpAny_nsSet1 (Heap.Ns1.of_empty pR) λh' B hs=>?_)));obtain ⟨oD,esD,epD,hoD,hdD,hcD⟩:=B.count (Within.cons a u Within.nil);refine ae (wpAny_lookBehind hoD (by rw [hdD];exact pastItsLine_dict (cP hcD (by rw [ji,N9,Fj];lia))) ?_)
 wp_walk
 exact Z _ _ B hs
def û (K:aO) (i j:TE) (f:Str):TS:=λD c H=>j c H λy e=>i c e λx b=>∃a C g h,x=.ref a/\b a=some (ij a C none)/\qk K C g h/\W.findIn K (.ref C) f=some none/\
 ∀d,b d=none->d≠a->D.nx c (upd (upd b a (ij a C (some d))) d (Ab d [(f,y)]))
theorem zBl {X:Cx} {o b:Expr} {f:Str} {i j:Pos} {k l:TE} (z:PE X o k) (F:PE X b l) (E:swapsWith b (some (.Attribute o f j)) i.line X.env=pure false):PS X (.Assign [.Attribute o f j] b i) (û X.K k l f):=by intro g s e H D I h;refine Wf (ax (F g s e H _ I h) λu Q c=>L2.eQ c λy m n O q=>ax (z g Q e m _ n q) λJ V c=>?_) E;obtain ⟨x,R,p,N,a,C,S,T,v,t,M,G,L⟩:=c;subst v;obtain rfl:J=Value.ref a:=N;exact Zk (dx:=none) p M G t O λd W A B r=>⟨e,_,r,L d A B⟩
noncomputable def mn (h0 h:Heap) (H:Hp) (a C:Addr) (dx:Option Addr):Prop:=
 h0.get? a=none/\H a=none/\∃t b,h.get? a=some (cX C dx t b)/\
  (b=.none\/∃T c d,b=.ref T/\T≠a/\h0.get? T=none/\H T=none/\h.get? T=some c/\c.data=.fields d/\d[3]?=some .none)
def tN (h0 h:Heap) (H:Hp) (a C:Addr) (dx:Option Addr) (L:Addr):Prop:=
 h0.get? a=none/\H a=none/\∃t T b c,h.get? a=some (cX C dx t (.ref T))/\T≠a/\h0.get? T=none/\H T=none/\h.get? T=some b/\b.data=.fields c/\c[3]?=some (rawInt L)
def iX (fs:List Addr) (h0 h h':Heap) (H:Hp):Prop:=
 (∀b o,(H b≠none\/h0.get? b≠none)->b∉fs->h.get? b=some o->h'.get? b=some o)/\∀b o,(H b≠none\/h0.get? b≠none)->h.get? b=some o->∃a,h'.get? b=some { o with slots:=a }
theorem iX.trans (x:iX fs h0 C I H) (y:iX fs h0 I J H):iX fs h0 C J H:=
 ⟨λb o z a e=>y.1 b o z a (x.1 b o z a e),λb o z e=>by
  obtain ⟨_,c⟩:=x.2 b o z e;obtain ⟨f,d⟩:=y.2 b _ z c;exact ⟨f,d⟩⟩
theorem Ò (C:Addr) (dx:Option Addr) (t a v:Value):Obj.mapFields (·.setIfInBounds 1 v) (cX C dx t a)=cX C dx t v:=by simp [Obj.mapFields]
section
theorem QJ (J:A.frames=some (env::outer)) (n:s.heap.FunFrames base (env::outer)) (G:env.frame=some L)
 (k:s.heap.get? a=some (cX C dx t I)) (g:h0.get? a=none) (i:H a=none) (W:∀b o,h0.get? b=some o->∃v,s.heap.get? b=some v) (N:∀b,s.heap.objs.size<=b->H b=none)
 (V:∀h',tN h0 h' H a C dx L->iX (gr (env::outer)) h0 s.heap h' H->Q () { s with heap:=h' }):
 wpAny M A (do let B <-frameOf env;let pl <-entryPlaceOf L ES;let b <-EntryCells.newEntry head B .none (rawInt L) .none pl;setField (.ref a) 1 b) Q E s:=by
 have R:a∉gr (env::outer):=λO=>by obtain ⟨_,o,p,S⟩:=n.mem O;rw [k] at p;cases p;exact S _ U
 refine ae (wpAny_frameOf_fun J n G λc d=>?_);refine ae (wpAny_entryPlaceOf λpl T=>?_);unfold EntryCells.newEntry newFields;refine ae (qN ?_ (T.sizeOk5 _ _ _ _ _));have l:c.get? a=some (cX C dx t I):=(d.2.1 a R).trans k;have m:=cZ (h:=c) { cls:=.type "traceback",dict:=none,data:=.fields ([head,.ref L,.none,rawInt L,.none]++(if pl.isEmpty then List.replicate 6 Value.none else pl)).toArray } l;refine qJ m U (by simp) ?_;have j:c.objs.size≠a:=wZ (d9 l);have F:=(qc (Obj.mapFields (·.setIfInBounds 1 (Value.ref c.objs.size))) m U).trans (congrArg some (Ò C dx t I (.ref c.objs.size)));have D:=(iS (c.push { cls:=.type "traceback",dict:=none,data:=.fields ([head,.ref L,.none,rawInt L,.none]++(if pl.isEmpty then List.replicate 6 Value.none else pl)).toArray })
  (Obj.mapFields (·.setIfInBounds 1 (Value.ref c.objs.size))) (aK j)).trans (iT c U)
 have r:∀b o,b≠a->c.get? b=some o->((c.push { cls:=.type "traceback",dict:=none,data:=.fields ([head,.ref L,.none,rawInt L,.none]++(if pl.isEmpty then List.replicate 6 Value.none else pl)).toArray }).update a (Obj.mapFields (·.setIfInBounds 1 (Value.ref c.objs.size)))).get? b=some o:=
  λb o f e=>(iS _ _ (aK f)).trans (cZ _ e)
 have u:∀b,(H b≠none\/h0.get? b≠none)->b≠a:=λb z e=>by subst e;exact z.elim (λq=>q i) λq=>q g
 refine V _ ⟨g,i,t,c.objs.size,_,_,F,j,(by
  cases q:h0.get? c.objs.size with
  | none=>rfl
  | some o=>
   obtain ⟨v,x⟩:=W _ o q;exact absurd (d9 x) (by rw [d.1];exact jA _)),N _ (by rw [d.1];exact ay _),D,U,by simp⟩ ⟨λb o z f e=>?_,λb o z e=>?_⟩
 ·exact r b o (u b z) ((d.2.1 b f).trans e)
 ·obtain ⟨X,y⟩:=d.2.2 b o e;exact ⟨X,r b _ (u b z) y⟩
theorem C0 (v:A.frames=some (env::outer)) (B:s.heap.FunFrames base (env::outer)) (i:env.frame=some L) (fl:mn h0 s.heap H a C dx) (F:∀b o,h0.get? b=some o->∃l,s.heap.get? b=some l) (y:∀b,s.heap.objs.size<=b->H b=none)
 (D:∀h',tN h0 h' H a C dx L->iX (gr (env::outer)) h0 s.heap h' H->Q () { s with heap:=h' }):wpAny M A (noteFrame (.ref a) env) Q E s:=by
 obtain ⟨m,p,t,X,f,c⟩:=fl;unfold noteFrame;simp only [i];rcases c with rfl | ⟨T,W,S,rfl,N,u,J,g,h,r⟩
 ·refine ae (i_ f U (x:=.none) U ?_);rw [if_neg (by decide)];exact QJ v B i f m p F y D
 ·refine ae (i_ f U (x:=.ref T) U ?_);rw [if_pos (show (Value.ref T !=Value.none)=true from by simp)];refine ae (i_ g h r ?_);rw [if_neg (show ¬((Value.none==rawInt L)=true) from by simp [rawInt])];refine ae (qJ g h (yX.mp r).1 ?_);have d:∀b,b≠T->(s.heap.update T (Obj.mapFields (·.setIfInBounds 3 Value.none))).get? b=s.heap.get? b:=λb c=>iS _ _ (aK c);have O:∀b o,s.heap.get? b=some o->(∀V,o.data≠.fields V)->b≠T:=λb o e j q=>by
   rw [q,g] at e;cases e;exact j S h
  have G:∀b,(H b≠none\/h0.get? b≠none)->b≠T:=λb z e=>by subst e;exact z.elim (λq=>q J) λq=>q u
  have R:(s.heap.update T (Obj.mapFields (·.setIfInBounds 3 Value.none))).objs.size=s.heap.objs.size:=Heap.size_after_update ..;refine QJ (s:={ s with heap:=s.heap.update T (Obj.mapFields (·.setIfInBounds 3 Value.none)) }) v (B.of_keeps λb o e j=>⟨o,(d b (O b o e j)).trans e,U⟩) i ((d a (aK N)).trans f) m p
   (λb o e=>by
    obtain ⟨l,I⟩:=F b o e;exact ⟨l,(d b λz=>by rw [z,u] at e;cases e).trans I⟩) (λb c=>y b (by rw [R] at c;exact c)) λh' n k=>D h' n ⟨λb o z c e=>k.1 b o z c ((d b (G b z)).trans e),λb o z e=>k.2 b o z ((d b (G b z)).trans e)⟩
theorem CL (n:tN h0 s.heap H a C dx L) (r:∀h',mn h0 h' H a C dx->iX [] h0 s.heap h' H->Q () { s with heap:=h' }):wpAny M A (setFlight (.ref a) none) Q E s:=by
 obtain ⟨l,m,t,T,v,u,i,h,f,g,d,c,p⟩:=n;have k:∀b,(H b≠none\/h0.get? b≠none)->b≠T:=λb z e=>by subst e;exact z.elim (λq=>q g) λq=>q f
 have j:3<u.size:=(yX.mp p).1;unfold setFlight;refine ae (i_ i U (x:=.ref T) U ?_);rw [if_pos (show (Value.ref T !=Value.none)=true from by simp)];refine qJ d c j (r _ ⟨l,m,t,.ref T,(iS _ _ h).trans i,.inr ⟨T,_,_,U,h,f,g,qc _ d (B7 (tj c _)),tj c _,by simp [j]⟩⟩ ⟨λb o z _ e=>?_,λb o z e=>⟨o.slots,?_⟩⟩)
 ·exact (iS _ _ (aK (k b z))).trans e
 ·exact (iS _ _ (aK (k b z))).trans e
theorem Qb (fl:mn h0 s.heap H a C dx) (j:∀h',mn h0 h' H a C dx->iX [] h0 s.heap h' H->Q () { s with heap:=h' }):wpAny M A (setFlight (.ref a) none) Q E s:=by
 obtain ⟨m,n,t,y,d,r⟩:=id fl;rcases r with rfl | ⟨T,v,u,rfl,i,g,h,f,c,p⟩
 ·unfold setFlight;refine ae (i_ d U (x:=.none) U ?_);rw [if_neg (by decide)];exact aJ (j s.heap fl ⟨λ_ _ _ _ e=>e,λ_ o _ e=>⟨o.slots,e⟩⟩)
 ·have l:∀b,(H b≠none\/h0.get? b≠none)->b≠T:=λb z e=>by
   subst e;exact z.elim (λq=>q h) λq=>q g
  have k:3<u.size:=(yX.mp p).1;unfold setFlight;refine ae (i_ d U (x:=.ref T) U ?_);rw [if_pos (show (Value.ref T !=Value.none)=true from by simp)];refine qJ f c k (j _ ⟨m,n,t,.ref T,(iS _ _ i).trans d,.inr ⟨T,_,_,U,i,g,h,qc _ f (B7 (tj c _)),tj c _,by simp [k]⟩⟩ ⟨λb o z _ e=>?_,λb o z e=>⟨o.slots,?_⟩⟩)
  ·exact (iS _ _ (aK (l b z))).trans e
  ·exact (iS _ _ (aK (l b z))).trans e
theorem QP (i:A.frames=some (env::outer)) (k:s.heap.FunFrames base (env::outer)) (h:env.frame=some L) (fl:mn h0 s.heap H a C dx) (m:∀b o,h0.get? b=some o->∃q,s.heap.get? b=some q) (j:∀b,s.heap.objs.size<=b->H b=none)
 (l:∀h',mn h0 h' H a C dx->iX (gr (env::outer)) h0 s.heap h' H->Q () { s with heap:=h' }):wpAny M A (leaving env (.ref a)) Q E s:=by
 unfold leaving;refine ae (C0 i k h fl m j λf p n=>?_);exact CL (s:={ s with heap:=f }) p λg d c=>l g d (n.trans ⟨λb o z _ e=>c.1 b o z (by simp) e,c.2⟩)
end
def hI (P:Program) (w:World):mh:=λf H s E e b=>∃(a C:Addr) (d:Option Addr) (c:Hp),e=.ref a/\b.os=s.os/\AllBare b.gens/\Un (gr f) [] H c s.heap b.heap/\dq P w c b.heap/\
 mn s.heap b.heap c a C d/\E (.ref C) d c
theorem dq.eC (ok:dq P w H h) (k:iX fs h0 h h' H) (f:∀b∈fs,H b=none):dq P w H h':=λb u e=>by
 refine (ok b u e).fQ (λc v a q=>?_) (λ_ q=>q) λ_ _ q=>q;have d:H c≠none:=by
  rcases a with rfl | a
  ·rw [e];simp
  ·rw [a];simp
 exact k.1 c v (.inl d) (λz=>d (f c z)) q
theorem Un.eC (u:Un fs ex H H' h0 C) (k:iX gs h0 C h2 H') (f:∀b o,h0.get? b=some o->b∈gs->b∈fs):Un fs ex H H' h0 h2:=by
 refine ⟨λb o e n c a=>k.1 b o (.inr (by rw [e];simp)) (λz=>c (f b o e z)) (u.keep b o e n c a),λb o e n c a=>?_,u.free,λb o e a=>?_,u.fJ,u.gf,u.gB⟩
 ·obtain ⟨g,q⟩:=u.slot b o e n c a;obtain ⟨h,d⟩:=k.2 b _ (.inr (by rw [e];simp)) q;exact ⟨h,d⟩
 ·obtain ⟨i,q⟩:=u.there b o e a;obtain ⟨g,d⟩:=k.2 b _ (.inr (by rw [e];simp)) q;exact ⟨_,d⟩
section
variable {K:aO}
theorem ϓ (I:Inv (lq (hI P w) P w K mg base N qual scope f cd A outer s H J) pins σ H' s') (fl:mn s.heap s'.heap H' a C dx) (g:J (.ref C) dx H'):
 (lq (hI P w) P w K mg base N qual scope f cd A outer s H J).xe (.ref a) s':=by
 show wpAny (model P w) (A.deeper (envOfC qual scope s.heap.objs.size f cd)) (leaving (envOfC qual scope s.heap.objs.size f cd) (.ref a)) (λ_ h=>hI P w outer H s J (.ref a) h) _ s';refine QP (L:=s.heap.objs.size) I.ok.frames I.stack U fl (λb o e=>I.base.there b o e (by intro z;exact absurd (show b∈([]:List Addr) from z) (by simp))) (λb c=>I.aA.fresh c) λi d k=>?_;refine ⟨a,C,dx,H',U,I.os,I.bare,I.base.eC k λb o e c=>?_,I.aA.eC k I.gC,d,g⟩;unfold gr at c;rw [tq] at c;rcases f'.mp c with z | z
 ·exact absurd (d9 e) (by rw [z];exact jA _)
 ·exact z
theorem mn.back (fl:mn I h H a C dx) (k:∀b o,h0.get? b=some o->∃f,I.get? b=some f):mn h0 h H a C dx:=by
 have d:∀b,I.get? b=none->h0.get? b=none:=λb e=>by
  cases q:h0.get? b with
  | none=>rfl
  | some o=>
   obtain ⟨f,c⟩:=k b o q;rw [e] at c;cases c
 obtain ⟨g,i,t,s,n,m⟩:=fl;refine ⟨d a g,i,t,s,n,?_⟩;rcases m with z | ⟨T,p,u,e,l,j,r⟩
 ·exact .inl z
 ·exact .inr ⟨T,p,u,e,l,d T j,r⟩
theorem ϙ (h:∀C dx c,E C dx c->J C dx c):kK (hI P w) (lq (hI P w) P w K mg base N qual scope f cd A outer s H J) E:=by intro q t p r e s' I l;obtain ⟨a,C,dx,c,rfl,m,g,n,k,i,j⟩:=l;have d:=I.ko (s':=s') (ch:=[]) m n k g (λb z=>absurd z (by simp));exact ϓ d (i.back λb o e=>I.base.there b o e (by intro z;exact absurd (show b∈([]:List Addr) from z) (by simp))) (h _ _ _ j)
end
noncomputable def forget (H:Hp) (a:Addr):Hp:=λb=>if b=a then none else H b
theorem tV (h:b≠a):forget H a b=H b:=by unfold forget;rw [if_neg h]
theorem RY:forget H a a=none:=by unfold forget;rw [if_pos rfl]
theorem DE (h:H b=none):forget H a b=none:=by
 unfold forget;split
 ·rfl
 ·exact h
theorem Inv.forget (I:Inv X pins σ H s) (h:H a=some (ij a C dx)):Inv X pins σ (L2.forget H a) s:=by
 have d:∀b u,H b=some u->(∀t,u≠.ext t)->b≠a:=λb u e j z=>by subst z;rw [h] at e;exact j _ (ft e).symm
 refine ⟨I.ok,I.os,I.bare,⟨I.base.keep,I.base.slot,λb o e n k=>DE (I.base.free b o e n k),I.base.there,λb g e=>?_,λb o u e=>?_,λb m e=>?_⟩,I.loc,I.cell,DE I.free,λx c e=>DE (I.cq x c e),λp i=>?_,λb u e=>?_,I.len⟩
 ·have q:=I.base.fJ b g e;rw [tV (d b _ q (λ_ z=>nomatch z))];exact q
 ·have q:=I.base.gf b o u e;rw [tV (d b _ q (λ_ z=>nomatch z))];exact q
 ·obtain ⟨l,q⟩:=I.base.gB b m e;exact ⟨l,by rw [tV (d b _ q (λ_ z=>nomatch z))];exact q⟩
 ·obtain ⟨e,n,r⟩:=I.pin p i;exact ⟨e,DE n,r⟩
 ·by_cases f:b=a
  ·rw [f,RY] at e;cases e
  ·rw [tV f] at e;exact (I.aA b u e).fQ (λc v _ q=>q) (λc q=>by rw [tV (d c _ q (λ_ z=>nomatch z))];exact q) λc g q=>by rw [tV (d c _ q (λ_ z=>nomatch z))];exact q
theorem YM (H:A.handled=none)
 (h:wpAny M A x (λv a=>∃e C dx t u q N bs b k y z c f i l m n o p r,v=.ref e/\b.contains (.type "BaseException")=true/\a.heap.get? C=some (excClassObj u q C N bs b k y z c f i l m n o p r)/\
  a.heap.get? e=some (cX C dx t .none)/\E (.ref e) a) E s):wpAny M A (raiseStmt env (some x) none) Q E s:=by
 unfold raiseStmt;refine ae (gS h (λv a I=>?_) λ_ _ x=>x);obtain ⟨e,C,dx,t,u,q,N,bs,b,k,y,z,c,f,i,l,m,n,o,p,r,rfl,D,j,G,B⟩:=I;have F:(Value.ref C::b).contains (.type "BaseException")=true:=by rw [List.contains_cons,D,Bool.or_true]
 obtain ⟨J,g,d,O,L⟩:=a
 repeat (first | with_reducible refine uJ G ?_ | with_reducible refine uJ j ?_ | (with_reducible refine Ni j ?_;rw [F]) | wp_step)
 exact wpAny_raiseNew_none H B
section
variable {K:aO}
end
def Z4 (X:Cx) (g:List (Addr×Obj)) (Ex:Addr->Option Addr->St->Hp->Prop):Value->Shared->Prop:=λe c=>∃a C f h H k i d,e=.ref a/\Inv X g k i d/\Inv X g h H c/\
 (∀b o,d.heap.get? b=some o->∃j,c.heap.get? b=some j)/\mn d.heap c.heap H a C f/\Ex C f h H
def uS (X:Cx) (a:List (Addr×Obj)) (Ex:Addr->Option Addr->St->Hp->Prop):Cx where
 prog:=X.prog
 w:=X.w
 K:=X.K
 mg:=X.mg
 base:=X.base
 A:=X.A
 N:=X.N
 bS:=X.bS
 gk:=X.gk
 env:=X.env
 outer:=X.outer
 stack:=X.stack
 ex:=X.ex
 fn:=X.fn
 calm:=X.calm
 pn:=X.pn++a
 xe:=Z4 X a Ex
noncomputable def qC (X:Cx) (e:Value):Cx where
 prog:=X.prog
 w:=X.w
 K:=X.K
 mg:=X.mg
 base:=X.base
 A:=X.A.mark (some e)
 N:=X.N
 bS:=X.bS
 gk:=X.gk
 env:=X.env
 outer:=X.outer
 stack:=X.stack
 ex:=X.ex
 fn:=X.fn
 calm:=false
 pn:=X.pn
 xe:=λ_ _=>False
section
theorem Inv.uf (I:Inv X pins σ H s):Inv (uS X pins Ex) [] σ H s:=
 ⟨⟨I.ok.mod,I.ok.kind,I.ok.glob,I.ok.blt,I.ok.above,I.ok.inj,I.ok.has,I.ok.sY,I.ok.hd,I.ok.frames,I.ok.ug,I.ok.yG,I.ok.bs,I.ok.mV,I.ok.jw,I.ok.j5,I.ok.eM,I.ok.oa⟩,
  I.os,I.bare,I.base,I.loc,I.cell,I.free,I.cq,λp a=>I.pin p (by have z:p∈(X.pn++pins)++[]:=a;simpa using z),I.aA,I.len⟩
theorem Inv.eG (I:Inv (uS X pins Ex) C σ H s):Inv X pins σ H s:=
 ⟨⟨I.ok.mod,I.ok.kind,I.ok.glob,I.ok.blt,I.ok.above,I.ok.inj,I.ok.has,I.ok.sY,I.ok.hd,I.ok.frames,I.ok.ug,I.ok.yG,I.ok.bs,I.ok.mV,I.ok.jw,I.ok.j5,I.ok.eM,I.ok.oa⟩,
  I.os,I.bare,I.base,I.loc,I.cell,I.free,I.cq,λp a=>I.pin p (lg _ a),I.aA,I.len⟩
theorem Inv.mC (I:Inv X pins σ H s):Inv (qC X e) pins σ H s:=
 ⟨⟨I.ok.mod,I.ok.kind,I.ok.glob,I.ok.blt,I.ok.above,I.ok.inj,I.ok.has,I.ok.sY,(λz=>absurd (show false=true from z) dX),I.ok.frames,I.ok.ug,I.ok.yG,I.ok.bs,I.ok.mV,I.ok.jw,I.ok.j5,I.ok.eM,I.ok.oa⟩,
  I.os,I.bare,I.base,I.loc,I.cell,I.free,I.cq,I.pin,I.aA,I.len⟩
theorem Inv.iL (a:X.calm=true->X.A.handled=none) (I:Inv (qC X e) pins σ H s):Inv X pins σ H s:=
 ⟨⟨I.ok.mod,I.ok.kind,I.ok.glob,I.ok.blt,I.ok.above,I.ok.inj,I.ok.has,I.ok.sY,a,I.ok.frames,I.ok.ug,I.ok.yG,I.ok.bs,I.ok.mV,I.ok.jw,I.ok.j5,I.ok.eM,I.ok.oa⟩,
  I.os,I.bare,I.base,I.loc,I.cell,I.free,I.cq,I.pin,I.aA,I.len⟩
theorem SP.eG (h:SP (uS X pins Ex) [] D f s):SP X pins D f s:=by
 cases f with
 | next=>obtain ⟨b,a,I,q⟩:=h;exact ⟨b,a,I.eG,q⟩
 | brk=>obtain ⟨b,a,I,q⟩:=h;exact ⟨b,a,I.eG,q⟩
 | cont=>obtain ⟨b,a,I,q⟩:=h;exact ⟨b,a,I.eG,q⟩
 | ret u=>obtain ⟨v,b,a,I,r,q⟩:=h;exact ⟨v,b,a,I.eG,r,q⟩
theorem SP.iL (c:X.calm=true->X.A.handled=none) (h:SP (qC X e) pins D f s):SP X pins D f s:=by
 cases f with
 | next=>obtain ⟨b,a,I,q⟩:=h;exact ⟨b,a,I.iL c,q⟩
 | brk=>obtain ⟨b,a,I,q⟩:=h;exact ⟨b,a,I.iL c,q⟩
 | cont=>obtain ⟨b,a,I,q⟩:=h;exact ⟨b,a,I.iL c,q⟩
 | ret u=>obtain ⟨v,b,a,I,r,q⟩:=h;exact ⟨v,b,a,I.iL c,r,q⟩
theorem Inv.jh (I:Inv X pins σ H s) (k:iX (X.env.locals::X.fs) h0 s.heap h' H) (g:∀b o,X.bS.heap.get? b=some o->h0.get? b≠none) (N:h0.get? X.env.locals≠none) (M:∀x c,X.env.cells.lookup x=some c->h0.get? c≠none) (Q:∀p∈X.pn++pins,h0.get? p.1≠none):
 Inv X pins σ H { s with heap:=h' }:=by
 obtain ⟨m,⟨W,L,J,T,r⟩,S⟩:=id I.loc;obtain ⟨C,O⟩:=k.2 _ W (.inr N) T;have t:∀x c,X.env.cells.lookup x=some c->∀v,s.heap.IsCell c v->h'.IsCell c v:=λx c e v ⟨o,h,R⟩=>by obtain ⟨C,q⟩:=k.2 c o (.inr (M x c e)) h;exact ⟨_,q,R⟩
 refine ⟨I.ok,I.os,I.bare,⟨λb o e n a f=>?_,λb o e n a f=>?_,I.base.free,λb o e f=>?_,I.base.fJ,I.base.gf,I.base.gB⟩,⟨m,⟨_,L,J,O,r⟩,λi x v E F G=>?_⟩,λx c e=>?_,I.free,I.cq,λp y=>?_,?_,I.len⟩
 ·refine k.1 b o (.inr (g b o e)) (λz=>?_) (I.base.keep b o e n a f);rcases f'.mp z with z | z
  ·exact absurd (ie (d9 e) I.ok.above) (by rw [z];exact jA _)
  ·exact a z
 ·obtain ⟨C,q⟩:=I.base.slot b o e n a f;obtain ⟨D,j⟩:=k.2 b _ (.inr (g b o e)) q;exact ⟨D,j⟩
 ·obtain ⟨Z,q⟩:=I.base.there b o e f;obtain ⟨D,j⟩:=k.2 b _ (.inr (g b o e)) q;exact ⟨_,j⟩
 ·obtain ⟨u,Y,l⟩:=S i x v E F G;refine ⟨u,Y,?_⟩;rcases l with l | ⟨V,c,e,z⟩
  ·exact .inl l
  ·exact .inr ⟨V,c,e,t x c e _ z⟩
 ·obtain ⟨v,z⟩:=I.cell x c e;exact ⟨v,t x c e v z⟩
 ·obtain ⟨e,n,A,B,d⟩:=I.pin p y;refine ⟨k.1 p.1 p.2 (.inr (Q p y)) (λz=>?_) e,n,A,B,d⟩;rcases f'.mp z with z | z
  ·exact A z
  ·exact B z
 ·refine I.aA.eC k λb a=>?_;rcases f'.mp a with z | z
  ·rw [z];exact I.free
  ·obtain ⟨_,o,h,_⟩:=I.ok.eM.mem z;exact I.base.free b o h (I.ok.oa b z) λq=>I.ok.j5 b q z
theorem PU (m:X.prog=P) (hw:X.w=w) (h:∀C dx d c,E (.ref C) dx c->Ex C dx d c):kK (hI P w) (uS X pins Ex) E:=by subst m hw;intro s d g r e s' I p;obtain ⟨a,C,dx,c,rfl,q,j,f,n,k,l⟩:=p;have i:=I.ko (s':=s') (ch:=[]) q f n j (λb z=>absurd z (by simp));exact ⟨a,C,dx,d,c,d,g,r,U,I.eG,i.eG,λb o e=>f.there b o e (by simp),k,h _ _ _ _ l⟩
end
def ß (K:aO) (Cn:Addr) (Ex:Addr->Option Addr->St->Hp->Prop) (d e:TS):TS:=λD f H=>d D f H/\∀C c b a,Ex C c b a->W.exmOne K (.ref C) (.ref Cn)=some true/\e D b a
theorem zD2 (M:X.stack=X.env::X.outer) (G:X.env.frame=some X.env.locals) (hg:Gl X J) (hm:X.mg J=some (.ref Cn))
 (r:∀g,eS (uS X g Ex) body tb) (hs:∀e,eS (qC X e) (W::pk) ts) (hex:autoParam (X.ex=[]) t10._auto_1) (LY:autoParam ((J==("__debug__":Str))=false) t12._auto_1):
 PS X (.Try body [.ExceptHandler (some (.Name J np)) none (W::pk) A9] [] [] pos) (ß X.K Cn Ex tb ts):=by
 intro g s σ H D I h;obtain ⟨h1,h2⟩:=h;refine wpAny_Try_except (gS (r g [] s σ H D I.uf h1) (λf j q=>?_) λe j he=>?_)
 ·have l:=SP.eG q
  cases f with
  | next=>exact yR l
  | ret x1=>exact l
  | brk=>exact l
  | cont=>exact l
 ·obtain ⟨a,C,Y,B,H',Wx,H1,i,rfl,k,m,th,Z,hx⟩:=he;obtain ⟨w9,hq⟩:=h2 C Y B H' hx;have oF:gr (X.env::X.outer)=X.env.locals::X.fs:=by
   unfold Cx.fs gr;rw [tq,G]
  have u:∀b o,X.bS.heap.get? b=some o->i.heap.get? b≠none:=λb o e=>by obtain ⟨o',q⟩:=k.base.there b o e (by rw [hex];simp);rw [q];simp
  have y:i.heap.get? X.env.locals≠none:=by obtain ⟨x2,⟨o,_,_,t,_⟩,_⟩:=k.loc;rw [t];simp
  have v:∀x c,X.env.cells.lookup x=some c->i.heap.get? c≠none:=λx c e=>by obtain ⟨x1,o,t,_⟩:=k.cell x c e;rw [t];simp
  have A:∀p∈X.pn++g,i.heap.get? p.1≠none:=λp hp=>by rw [(k.pin p hp).1];simp
  have wF:X.A.frames=some (X.env::X.outer):=by rw [<-M];exact I.ok.frames
  refine C0 (L:=X.env.locals) wF (by rw [<-M];exact m.stack) G Z th (λb r=>m.aA.fresh r) λF n2 N=>?_;rw [oF] at N;have R:=m.jh N u y v A;refine CL (s:={ j with heap:=F }) n2 λd E O=>?_;have wh:iX (X.env.locals::X.fs) i.heap F d H':=⟨λb o z _ e=>O.1 b o z (by simp) e,O.2⟩;have n:=R.jh wh u y v A;have S:Inv (qC X (.ref a)) g B H' { j with heap:=d }:=n.mC;refine wpAny_handleBy_cons (codeAny_handlers_test (rj S hg hm ?_ LY)) (by intro z;cases z);obtain ⟨_,_,x3,tb',wD,_⟩:=id E;have V:PySem.W.Looks (model X.prog X.w) d (typeOf (.ref a)) (.ref C):=(PySem.W.Looks.ld wD).andThen .now;refine (PySem.W.exm_one n.fj V w9).here (s:={ j with heap:=d }) ?_;refine codeAny_handlers_suite ?_;refine Qb (s:={ j with heap:=d }) E λh4 _ Q=>?_;have wg:iX (X.env.locals::X.fs) i.heap d h4 H':=⟨λb o z _ e=>Q.1 b o z (by simp) e,Q.2⟩;have T:=n.jh wg u y v A;refine gS (hs (.ref a) g _ B H' D T.mC hq) (λf s5 q5=>SP.iL I.ok.hd q5) λ_ _ z=>z.elim
section
def zA5 (r j l:R2) (m n o p:TE):TE:=λa H Q=>m a H λx f=>n a f λy g=>r x y g λz b=>∃k,z=.bl k/\
 (if k=true then o a b λe h=>j y e h λs c=>∃d,s=.bl d/\(if d=true then p a c λq i=>l e q i Q else Q (.bl false) c) else Q (.bl false) b)
theorem QT (Y:eP X (compareOp op) r) (Z:eP X (compareOp C) r') (L9:eP X (compareOp J) r'') (R:PE X a ta) (S:PE X b tb) (T:PE X c tc) (V:PE X d td)
 (W:autoParam (lastMarks [op,C,J] [b,c,d]=false) t16._auto_1):PT X (.Compare a [op,C,J] [b,c,d] pos) (BY (zA5 r r' r'' ta tb tc td)):=by
 intro g x4 i H x7 I h;refine isTrue_chain (ax (R g x4 i H _ I h) λx5 s1 f=>L2.eQ f λx6 z F r1 q1=>test_link (ax (S g s1 i z _ F q1) λu s2 f=>L2.eQ f λy A G s q2=>
  ax (Y g s2 i A x6 y x5 u _ G r1 s q2) λx8 s3 f=>?_)) W
 obtain ⟨z',l,n,r3,x1,e,p⟩:=f;subst e;cases r3;refine oH ?_
 cases x1 with
 | false=>
  obtain ⟨k',j,k⟩:=p;cases j;exact ite_ff ⟨l,n,k⟩
 | true=>
  refine ite_tt (test_link (ax (T g s3 i l _ n p) λv s4 f=>L2.eQ f λx B L t q4=>ax (Z g s4 i B y x u v _ L s t q4) λz2 s5 f=>?_));obtain ⟨z5,m,o,r5,k2,O,q⟩:=f;subst O;cases r5;refine oH ?_
  cases k2 with
  | false=>
   obtain ⟨k',j,k⟩:=q;cases j;exact ite_ff ⟨m,o,k⟩
  | true=>
   refine ite_tt (test_last (ax (V g s5 i m _ o q) λx3 s6 f=>L2.eQ f λy6 D M r6 q6=>ax (L9 g s6 i D x y6 v x3 _ M t r6 q6) λz3 s7 f=>?_));obtain ⟨z7,E,N,r7,k3,Q,q7⟩:=f;subst Q;cases r7;exact oH ⟨E,N,q7⟩
theorem OS:∀{us:List Value},a_ (ns.map V.int) us->IntsAre us ns:=by
 induction ns with
 | nil=>intro us h;cases h;exact .nil
 | cons n r a=>
  intro us h
  cases h with
  | cons q t=>
   obtain ⟨b,rfl⟩:=q;exact .cons n b (a t)
def ZZ (K:aO) (neg:Bool):R2:=λx y H Q=>∃(p q:Addr) (b a:List Int),x=.ref p/\y=.ref q/\ar K H p (b.map V.int)/\ar K H q (a.map V.int)/\Q (.bl (if neg then !decide (b=a) else decide (b=a))) H
theorem Hv (d:X.A.units+64<cLine):eP X (compareOp .NotEq) (ZZ X.K true):=by intro r s t H x y v u Q I j k h;obtain ⟨p,q,o,n,rfl,rfl,a,b,c⟩:=h;cases j;cases k;obtain ⟨l,g,e,_⟩:=I.list a;obtain ⟨m,i,f,_⟩:=I.list b;exact W.ke_ne_ints e.isList f.isList (OS g) (OS i) d ⟨.bl _,H,I,U,c⟩
end
section
variable {K:aO}
theorem zB8 (h:Y.K=K):zb Y (Sy K):=by subst h;exact Tq
theorem Yt (h:Y.K=K):eP Y (compareOp .NotIn) (K9 K true):=by subst h;exact JM
theorem O' (a:Y.K=K) (b:Y.calm=true) (h:me Y C t) (c:autoParam ((assignEach C Y.env).length=n) t10._auto_1) (d:autoParam ((assignEach C Y.env).findIdx? (·.1)=none) t10._auto_1):PG Y (.Tuple C k pos) (Sr K n t):=by subst a;exact uX b h c d
end
def Ê (a C:Addr) (dx:Option Addr):HO:=.ext λh=>∃t b,h.get? a=some (cX C dx t b)
abbrev t_ (a C:Addr) (dx:Option Addr) (t b:Value):HO:=.dh (cX C dx t b) (Ê a C dx)
section
theorem zCi (e:h.get? a=some (cX C dx t I)):d_ P w H h a (t_ a C dx t I):=⟨e,⟨t,I,e⟩,⟨_,e⟩,λ_ _ ⟨c,d,b⟩ k=>⟨c,d,k _ b⟩⟩
end
section
theorem Inv.Am (I:Inv X pins σ H s) (e:s.heap.get? a=some (cX C dx t J)) (i:H a=none) (h0:X.bS.heap.get? a=none) (j:a≠X.env.locals) (k:∀x c,X.env.cells.lookup x=some c->c≠a) (l:∀p∈X.pn++pins,p.1≠a):Inv X pins σ (upd H a (t_ a C dx t J)) s:=by
 have d:∀b u,H b=some u->b≠a:=λb u q=>av q i;refine ⟨I.ok,I.os,I.bare,⟨I.base.keep,I.base.slot,λb o q n m=>?_,I.base.there,λb h q=>?_,λb o u q=>?_,λb y q=>?_⟩,I.loc,I.cell,by rw [ah (aK j)];exact I.free,λx c q=>by rw [ah (k x c q)];exact I.cq x c q,λp g=>?_,λb u q=>?_,I.len⟩
 ·have:b≠a:=λz=>by rw [z,h0] at q;cases q
  rw [ah this];exact I.base.free b o q n m
 ·have z:=I.base.fJ b h q;rw [ah (d b _ z)];exact z
 ·have z:=I.base.gf b o u q;rw [ah (d b _ z)];exact z
 ·obtain ⟨r,z⟩:=I.base.gB b y q;exact ⟨r,by rw [ah (d b _ z)];exact z⟩
 ·obtain ⟨A,B,D⟩:=I.pin p g;exact ⟨A,by rw [ah (l p g)];exact B,D⟩
 ·by_cases f:b=a
  ·subst f;rw [ai] at q;cases q;exact zCi e
  ·rw [ah f] at q;exact (I.aA b u q).fQ (λc v _ z=>z) (λc z=>by rw [ah (d c _ z)];exact z) λc h z=>by rw [ah (d c _ z)];exact z
theorem Inv.blank (I:Inv X pins σ H s) (A:h'.Ns X.env.locals m) (a:Heap.SameBut X.env.locals s.heap h'):Inv X pins (List.replicate X.N.length none) H { s with heap:=h',toks:=tk }:=by
 have h:∀b o,X.bS.heap.get? b=some o->b≠X.env.locals:=λb o e=>gv (ie (d9 e) I.ok.above);have t:∀x c,X.env.cells.lookup x=some c->c≠X.env.locals:=λx c e=>I.Fe x c e;refine ⟨I.ok,I.os,I.bare,⟨λb o e n l f=>?_,λb o e n l f=>?_,I.base.free,λb o e f=>?_,I.base.fJ,I.base.gf,I.base.gB⟩,⟨m,A,λi x v _ k _=>?_⟩,λy c e=>?_,I.free,I.cq,λp B=>?_,λb u e=>?_,by simp⟩
 ·exact (a.2 b (h b o e)).trans (I.base.keep b o e n l f)
 ·obtain ⟨E,j⟩:=I.base.slot b o e n l f;exact ⟨E,(a.2 b (h b o e)).trans j⟩
 ·obtain ⟨D,j⟩:=I.base.there b o e f;exact ⟨D,(a.2 b (h b o e)).trans j⟩
 ·rw [FQ] at k;split at k<;>cases k
 ·obtain ⟨F,z⟩:=I.cell y c e;exact ⟨F,z.sameBut a (t y c e)⟩
 ·obtain ⟨e,n,r,C,d⟩:=I.pin p B;exact ⟨(a.2 p.1 r).trans e,n,r,C,d⟩
 ·refine (I.aA b u e).fQ (λc v g q=>(a.2 c ?_).trans q) (λ_ q=>q) λ_ _ q=>q;rintro rfl;rcases g with rfl | g
  ·rw [I.free] at e;cases e
  ·rw [I.free] at g;cases g
end
def ϒ (K:aO) (Cn:Addr) (i:Nat) (Ex:Addr->Option Addr->St->Hp->Prop) (c:TS) (f:Addr->TS):TS:=λD g H=>c D g H/\
 ∀C d e b,Ex C d e b->W.exmOne K (.ref C) (.ref Cn)=some true/\∀a t c,b a=none->f a { nx:=λ_ _=>False,rt:=D.rt } (e.set i (some (.ref a))) (upd b a (t_ a C d t c))
theorem zBj (A5:X.stack=X.env::X.outer) (Vp:X.env.frame=some X.env.locals) (hN:X.N.Nodup) (hi:X.N[i]?=some n) (N:X.env.scope.names.lookup n=some .local) (hg:Gl X J) (hm:X.mg J=some (.ref Cn))
 (M:∀d,eS (uS X d Ex) body tb) (hs:∀a,eS (qC X (.ref a)) (b0::pk) (ts a)) (hex:autoParam (X.ex=[]) t10._auto_1) (LY:autoParam ((J==("__debug__":Str))=false) t12._auto_1):
 PS X (.Try body [.ExceptHandler (some (.Name J np)) (some n) (b0::pk) A9] [] [] pos) (ϒ X.K Cn i Ex tb ts):=by
 intro d s σ x1 D I x2;obtain ⟨h1,h2⟩:=x2;refine wpAny_Try_except (gS (M d [] s σ x1 D I.uf h1) (λf k q=>?_) λe k he=>?_)
 ·have F:=SP.eG q
  cases f with
  | next=>exact yR F
  | ret v=>exact F
  | brk=>exact F
  | cont=>exact F
 ·obtain ⟨a,C,V,S,H',Wx,H1,j,rfl,m,G,th,fl,hx⟩:=he;obtain ⟨w9,hq⟩:=h2 C V S H' hx;have oF:gr (X.env::X.outer)=X.env.locals::X.fs:=by
   unfold Cx.fs gr;rw [tq,Vp]
  have y:∀b o,X.bS.heap.get? b=some o->j.heap.get? b≠none:=λb o e=>by obtain ⟨o',q⟩:=m.base.there b o e (by rw [hex];simp);rw [q];simp
  have B:j.heap.get? X.env.locals≠none:=by obtain ⟨x5,⟨o,_,_,O,_⟩,_⟩:=m.loc;rw [O];simp
  have A:∀x c,X.env.cells.lookup x=some c->j.heap.get? c≠none:=λx c e=>by obtain ⟨v,o,O,_⟩:=m.cell x c e;rw [O];simp
  have E:∀p∈X.pn++d,j.heap.get? p.1≠none:=λp Q=>by rw [(m.pin p Q).1];simp
  have wF:X.A.frames=some (X.env::X.outer):=by rw [<-A5];exact I.ok.frames
  refine C0 (L:=X.env.locals) wF (by rw [<-A5];exact G.stack) Vp fl th (λb M=>G.aA.fresh M) λZ n2 KZ=>?_;rw [oF] at KZ;have I2:=G.jh KZ y B A E;refine CL (s:={ k with heap:=Z }) n2 λg W UN=>?_;have wh:iX (X.env.locals::X.fs) j.heap Z g H':=⟨λb o z _ e=>UN.1 b o z (by simp) e,UN.2⟩;have H:=I2.jh wh y B A E;have I3':Inv (qC X (.ref a)) d S H' { k with heap:=g }:=H.mC;refine wpAny_handleBy_cons (codeAny_handlers_test (rj I3' hg hm ?_ LY)) (by intro z;cases z);obtain ⟨_,_,x6,tb',wD,_⟩:=id W;have LT:PySem.W.Looks (model X.prog X.w) g (typeOf (.ref a)) (.ref C):=(PySem.W.Looks.ld wD).andThen .now;refine (PySem.W.exm_one H.fj LT w9).here (s:={ k with heap:=g }) ?_;refine codeAny_handlers_suite_as ?_;refine Qb (s:={ k with heap:=g }) W λh4 f4 UM=>?_;have wg:iX (X.env.locals::X.fs) j.heap g h4 H':=⟨λb o z _ e=>UM.1 b o z (by simp) e,UM.2⟩;have I4:=H.jh wg y B A E;obtain ⟨t,Y,t4,TF,AK,_⟩:=id f4;have I5:=I4.Am AK Y (by
   cases q:X.bS.heap.get? a with
   | none=>rfl
   | some o=>exact absurd t (y a o q)) (λz=>B (z▸t)) (λx c e z=>A x c e (z▸t)) (λp Q z=>E p Q (z▸t))
  have I5':Inv (qC X (.ref a)) d S (upd H' a (t_ a C V t4 TF)) { k with heap:=h4 }:=I5.mC;refine C7 (X:=qC X (.ref a)) (v:=.ref a) (u:=.ref a) I5' hN hi (.inl N) U (λs6 I6=>?_) (.inr N);refine gS (hs a d s6 _ _ _ I6 (hq a t4 TF Y)) (λf s7 h=>?_) λ_ _ z=>z.elim;have fin:∀{T:St} {l:Hp},Inv (qC X (.ref a)) d T l s7->(∀R,Inv X d (List.replicate X.N.length none) l R->SP X d D f R)->wpAny (model X.prog X.w) X.A (do bindName X.env n .none;unbindBehindTheSuite X.env n A9) (λ_ Ku=>SP X d D f Ku) X.xe s7:=λ{T l} r x3=>by obtain ⟨m7,hn7,_⟩:=r.loc;refine wpAny_nameGoes N hn7 (by rw [I.ok.kind];rfl) λh' m' LF Vb=>x3 _ ?_;exact (r.iL I.ok.hd).blank LF Vb
  cases f with
  | next=>obtain ⟨_,_,_,z⟩:=h;exact z.elim
  | brk=>obtain ⟨_,_,_,z⟩:=h;exact z.elim
  | cont=>obtain ⟨_,_,_,z⟩:=h;exact z.elim
  | ret v=>
   obtain ⟨x4,T,l,r,r7,h⟩:=h;exact fin r λR I8=>⟨x4,_,l,I8,r7,h⟩
open PySem PySem.Spec PyProof.Rows Builtin
structure yj (K:aO) (C:Addr):Prop where
 ga:W.findIn K (.ref C) "__getattribute__"=some (some (.builtin "BaseException.__getattribute__"))
 gt:W.findIn K (.ref C) "__getattr__"=some none
 be:W.mroIn K C (.type "BaseException")=some true
 ob:W.mroIn K C (.type "object")=some true
 hd:W.hasDictIn K C=true
 cl:W.findIn K (.ref C) "__class__"=some (some (.builtin "object.__class__"))
 gs:W.specialIn K (.builtin "object.__class__") "__get__"=some (some (.builtin "getset_descriptor.__get__"))
 tk:W.takesIn K (.builtin "object.__class__")=some true
section
variable {K:aO}
theorem zCd:builtinKind "BaseException.__getattribute__"=some .slot:=by decide+kernel
theorem Xe:splitId "BaseException.__getattribute__"=some ("BaseException","__getattribute__"):=by decide+kernel
theorem uv:(Value.builtin "BaseException.__getattribute__"==Value.builtin "object.__getattribute__")=false:=by decide+kernel
theorem Xb (X:K.In s.heap) (I:W.InstAt s.heap x ox C od) (G:yj K C)
 (h:wpAny (model prog w) A.in1 (Builtin.«object.__getattribute__» ⟨[.ref x,.str name tk],[]⟩) (λc s'=>match c with | .done f=>R (.ok f) s' | .again a=>a.quiet=true/\codeAny (model prog w) A a R s') (λe s'=>R (.error e) s') s):
 codeAny (model prog w) A (.call (.builtin "BaseException.__getattribute__") ⟨[.ref x,.str name tk],[]⟩) R s:=by
 have b:W.Looks (model prog w) s.heap (typeOf (.ref x)) (.ref C):=I.type;have k:W.Looks (model prog w) s.heap (isInstance (.ref x) (.type "BaseException")) true:=b.andThen (W.looks_mroIn X G.be);obtain ⟨i,g,d,t,j⟩:=s;exact Nl F.attrBase_ValueError.ga.plain F.entry_bexc_ga (@W.check_slot (model prog w) _ _ ⟨i,g,d,t,j⟩ "BaseException.__getattribute__" "BaseException" "__getattribute__" (.ref x) [.str name tk] [] _ zCd Xe k (F.args_bexc_ga (.ref x) (.str name tk)) h)
theorem Yj (X:K.In s.heap) (I:W.InstAt s.heap x ox C od) (G:yj K C) (h:Q (some (.ref C)) { s with toks:=s.toks+1 }):wpAny (model prog w) A (getAttr? (.ref x) "__class__") Q E s:=by
 have j:W.findObj K C od "__class__"=some (.bind (.builtin "getset_descriptor.__get__") (.builtin "object.__class__")):=by obtain ⟨k,i,_⟩:=W.any_some G.hd;unfold W.findObj;rw [i,Option.bind_some,G.cl,Option.bind_some];simp [G.gs,G.tk]
 have a:=I.type (M:=model prog w);have e:=BC (M:=model prog w) X G.ga;have L2:=BC (M:=model prog w) X G.gt;have f:=W.looks_find (M:=model prog w) X I j;obtain ⟨b,g,d,t,c⟩:=s;unfold getAttr? getAttrBy? getAttrBy;refine ae (wpAny_mkText (ae (s_ (kX (ae (a.at (ae (e.at ?_))))))));dsimp only;rw [uv,Bool.and_false,if_neg dX];unfold getAttrByItsOwn hookBefore;rw [if_pos (by rfl)];refine ae (L2.at (ae (s_ (kX ?_))));unfold callGetattribute;rw [if_neg (by decide)];unfold boundAndCalled;rw [F.attrBase_ValueError.ga.bind];refine ae (aJ (qK (Xb (s:=⟨b,g,d,t+1,c⟩) X I G ?_)));unfold Builtin.«object.__getattribute__»;refine ae (aJ (ae (aJ (ae (a.at (ae (f.at ?_)))))));show wpAny _ _ (holding [.builtin "object.__class__"] (call (.builtin "getset_descriptor.__get__") [.builtin "object.__class__",.ref x,.ref C])>>=ret) _ _ _;refine ae (kX (qK (W.class_get (s:=⟨b,g,d,t+1,c⟩) (ox:=ox) (od:=od) X I G.ob (aJ ?_))));show wpAny _ _ (handedOut (.ref C)) _ _ _;rw [W.handedOut_of rfl];exact aJ (aJ h)
theorem WH (G:yj K C):W.KitX K (.ref x) (.ref C) (λh=>W.InstAt h x ox C od) where
 ty:=λ_ _ _ I=>I.type
 it:=λ_ _ X _=>by
  obtain ⟨c,a,_⟩:=W.any_some G.hd;unfold W.clsIn at a;split at a
  ·rename_i b
   intro f i g m k q;unfold isType loadHead;exact ae (M_ (k _ _ (X _ _ b)) (aJ q))
  ·cases a
 ne:=λh tp j l n o X d=>by
  obtain ⟨c,a,_⟩:=W.any_some G.hd;refine Bool.eq_false_iff.mpr λq=>?_;have e:C=tp:=Fp (beq_iff_eq.mp q);subst e;unfold W.clsIn at a;split at a
  ·rename_i b
   have z:=(X _ _ b).symm.trans d;cases z
  ·cases a
 ca:=λX I k=>Yj X I G k
end
section
variable {K:aO}
end
structure qr (k:Nat) (A:Around):Prop where
 dp:A.depth+3*k+5<recursionLimit
 un:A.units+16*k+200<cLine
theorem qr.deeper (r:qr (k+1) A) (env:Env):qr k (A.deeper env):=⟨by have:=r.dp;show A.depth+1+3*k+5<_;exact I' this,by have:=r.un;show A.units+3+16*k+200<_;exact Q9 this⟩
theorem qr.units (r:qr k A):A.units+64<cLine:=by have:=r.un;exact QC this
def Kd (A:Around) (H:Hp):Prop:=A.handled=none\/∃(a C:Addr) (b:Option Addr) (t c:Value) (u:HO),A.handled=some (.ref a)/\H a=some (.dh (cX C b t c) u)
structure xt (P:Program) (w:World) (K:aO) (mg:Str->Option Value) (base:Heap) (CX:mh) (k:Nat) (f:Addr) (fd:FuncData) (ps:List Str) (sp:Sp):Prop where
 len:∀vs H Q E,sp vs H Q E->vs.length=ps.length
 run:∀(A:Around) (outer:List Env) (s:Shared) (H:Hp) (args:Args) (us:List Value) (vs:List V) (Q:VK) (E:XK),qr k A->Kd A H->qS P w K mg base A outer s H->BindsTo s fd args (ps.zip us)->a_ vs us->sp vs H Q E->
  codeAny (model P w) A (.call (.ref f) args) (CR CX outer P w H s Q E) s
noncomputable def wW (CX:mh) (P:Program) (w:World) (K:aO) (mg:Str->Option Value) (base:Heap) (N:List Str) (b:Str) (scope:Scope) (f:Addr) (a:Value) (A:Around) (outer:List Env) (s:Shared) (H:Hp) (E:XK):Cx where
 prog:=P
 w:=w
 K:=K
 mg:=mg
 base:=base
 A:=A.deeper (envOfC b scope s.heap.objs.size f a)
 N:=N
 bS:=s
 gk:=H
 env:=envOfC b scope s.heap.objs.size f a
 outer:=outer
 stack:=envOfC b scope s.heap.objs.size f a::outer
 ex:=[]
 calm:=false
 fn:=λ_=>true
 pn:=[]
 xe:=λe g=>wpAny (model P w) (A.deeper (envOfC b scope s.heap.objs.size f a)) (leaving (envOfC b scope s.heap.objs.size f a) e) (λ_ c=>CX outer H s E e c) (λd c=>CX outer H s E d c) g
theorem YC {CX:mh} {N l:List Str} {C:Str} {scope:Scope} {f:Addr} {t:Value} {A:Around} {F:List Env} {s s1:Shared} {H:Hp} {E:XK} {us:List Value} {vs:List V}
 (S:bR N l scope) (g:qS P w K mg base A F s H) (I:vs.length=l.length) (r:a_ vs us)
 (x:InCallC s s.heap.objs.size (bindL (envOfC C scope s.heap.objs.size f t).kindOf (l.zip us) λ_=>none) (cellsFrom (s.heap.objs.size+1) scope.names []) (bindC (envOfC C scope s.heap.objs.size f t).kindOf (l.zip us) λ_=>none) s1):
 Inv (wW CX P w K mg base N C scope f t A F s H E) [] (gp N vs) H s1:=by
 have O:l.length<=N.length:=by have:=congrArg List.length S.pre;rw [hG] at this;exact QY this
 obtain ⟨B,T,rfl,G⟩:=x.done;have D:∀b:Addr,b∉(wW CX P w K mg base N C scope f t A F s H E).ex:=λb z=>absurd (show b∈([]:List Addr) from z) (by simp);refine ⟨⟨g.mod,S.kind,U,U,ay _,λy z c B d=>?_,λy j=>?_,λy c _ h=>?_,(λz=>absurd (show false=true from z) dX),Around.frames_deeper g.frames,.inr ⟨U,U⟩,λb z=>absurd z (D b),g.bs,g.mV,λb _ _=>D b,λb z=>absurd z (D b),g.eM,g.oa⟩,
  rfl,g.bare,Un.kept G,⟨_,x.toInCall.ns,λi y v B d R=>?_⟩,λy c h=>⟨_,x.cell y c h⟩,g.aA.fresh (ay _),λy c h=>?_,λp o=>absurd (show p∈([]:List (Addr×Obj)) from o) (by simp),g.aA.kept G,?_⟩
 ·exact name_of_addr x.apart (qh B) (qh d)
 ·have j:scope.names.lookup y=some .cell\/scope.names.lookup y=some .free:=j;rcases j with j | j
  ·exact CF j
  ·exact absurd U (S.pM _ (qh j))
 ·exact bf (x.above y c (qh h))
 ·have m:i<vs.length:=by
   unfold gp at d
   by_cases m:i<vs.length
   ·exact m
   ·rw [oz (by simpa using m)] at d;rw [FQ] at d;split at d<;>cases d
  have M:vs[i]?=some v:=by
   unfold gp at d;rw [oI (by simpa using m),dA] at d
   cases e:vs[i]? with
   | none=>rw [e] at d;cases d
   | some a=>rw [e] at d;cases d;rfl
  obtain ⟨u,J,Q⟩:=r.get M;have o:l[i]?=some y:=by rw [<-S.pre,FZ (C_ m I)];exact B
  have L:l.Nodup:=by rw [<-S.pre];exact S.nd.sublist (List.take_sublist _ _)
  refine ⟨u,Q,?_⟩;rcases S.par y (eR o) with k | k
  ·exact .inl ⟨k,IQ L o J k⟩
  ·obtain ⟨c,e⟩:=CF (n:=s.heap.objs.size+1) k;refine .inr ⟨.inl k,c,e,?_⟩;have q:=x.cell y c e;rw [JG L o J (by show scope.names.lookup y≠_;rw [k];decide)] at q;exact q
 ·exact g.aA.fresh (bf (x.above y c (qh h)))
 ·unfold gp;show _=N.length;rw [iD,az,GJ];exact QU I O
theorem Ϣ {CX:mh} {k:Nat} {f:Addr} {name d:Str} {O:Arguments} {m:List Stmt} {scope:Scope} {B L C R c z oc:Value} {r od:Option Addr}
 {As:Array (Option Value)} {N j:List Str} {sp:Sp} (lk:K.lookup f=some ⟨oc,od,.func (PySem.W.fnOf name d O m scope B L C R r c z),As⟩) (Y:PySem.W.codeIn K c d=true) (S:bR N j scope)
 (M:∀vs H Q E,sp vs H Q E->vs.length=j.length)
 (X:∀(A:Around) (h:List Env) (s:Shared) (H:Hp) (vs:List V) (Q:VK) (E:XK),qr k (A.deeper (envOfC d scope s.heap.objs.size f c))->Kd A H->sp vs H Q E->
  ∃t,eS (wW CX P w K mg base N d scope f c A h s H E) m t/\t { nx:=λ_ a=>Q .aG a,rt:=Q } (gp N vs) H):
 xt P w K mg base CX (k+1) f (PySem.W.fnOf name d O m scope B L C R r c z) j sp:=by
 refine ⟨M,λA h s H args us vs Q E F hh i W x2 G=>?_⟩;have hl:=M _ _ _ _ G;have p:K.In s.heap:=i.mod.sI.keeps λb o e=>(i.bs b o e).1;have lim:s.heap.NoLimit:=i.mod.nolimit.keeps λb o e=>(i.bs b o e).1;have pT:∀y∈j.zip us,scope.names.lookup y.1=some .local\/(scope.names.lookup y.1=some .cell/\((cellsFrom (s.heap.objs.size+1) scope.names []).lookup y.1).isSome=true):=λ⟨x1,v⟩ hy=>by
  rcases S.par x1 (Ft hy).1 with q | q
  ·exact .inl q
  ·exact .inr ⟨q,Nr _ _ _ (.inl q)⟩
 refine codeAny_call_function (show A.depth<recursionLimit from by have:=F.dp;exact QV this) (p _ _ lk) U S.co S.gen U (PySem.W.codeRec_of p Y) (W _ _ _ _ ?_);refine Wa S.kind pT λenv Z s1 x=>?_;subst Z;refine ⟨lim.keeps x.toInCall.keep,codeAny_func ?_⟩;obtain ⟨t,ht,hq⟩:=X A h s H vs Q E (F.deeper _) hh G;have I:Inv (wW CX P w K mg base N d scope f c A h s H E) [] (gp N vs) H s1:=YC S i hl x2 x;refine gS (ht [] s1 (gp N vs) H _ I hq) (λT s' g=>?_) λe s' g=>g;have D:∀{l:St} {a:Hp} {v:V} {u:Value},Inv (wW CX P w K mg base N d scope f c A h s H E) [] l a s'->bQ v u->Q v a->CE h P w H s Q u s':=
  λ{l a v u} J n q=>⟨v,a,J.os,J.bare,J.base,J.aA,n,q⟩
 cases T with
 | ret u=>
  obtain ⟨v,l,a,J,n,q⟩:=g;exact D J n q
 | next=>
  obtain ⟨l,a,J,q⟩:=g;exact D (v:=V.aG) (u:=Value.none) J U q
 | brk=>
  obtain ⟨_,_,_,q⟩:=g;exact iB q
 | cont=>
  obtain ⟨_,_,_,q⟩:=g;exact iB q
section
variable {K:aO}
theorem dO.okH {x c:Str} {st:Stmt} {f:Addr} {e:FuncData} {N d:List Str} {k:Nat} {sp:Sp} (F:dO K x c st f e) (S:bR N d (aF st)) (o:∀vs H Q E,sp vs H Q E->vs.length=d.length)
 (i:∀(a:Value) (A:Around) (b:List Env) (s:Shared) (H:Hp) (vs:List V) (Q:VK) (E:XK),qr k (A.deeper (envOfC c (aF st) s.heap.objs.size f a))->SJ (wW aw P w K mg base N c (aF st) f a A b s H E).uk->sp vs H Q E->
  ∃t,eS (wW aw P w K mg base N c (aF st) f a A b s H E).uk (lC st) t/\t { nx:=λ_ g=>Q .aG g,rt:=Q } (gp N vs) H):xt P w K mg base aw (k+1) f e d sp:=by
 obtain ⟨y,z,v,u,C,p,a,r,B,rfl,lk,j⟩:=F.ex;refine Ϣ lk j S o λA b s H vs Q E m l n=>?_;obtain ⟨t,h,q⟩:=i a A b s H vs Q E m l n;exact ⟨t,h.uk,q⟩
end
section
theorem zBf (F:xt X.prog X.w X.K X.mg X.base CX k f fd ps sp) (l:qr k X.A) (i:Kd X.A H) (d:dm X.K fd ps ds) (g:a_ C ds) (m:kK CX X E)
 (I:Inv X pins σ H s) (r:a_ vs us) (h:sp (vs++C) H Q E):wpAny (model X.prog X.w) X.A (call (.ref f) us) (EP X pins σ Q) X.xe s:=by
 have b:a_ (vs++C) (us++ds):=r.append g;have j:(us++ds).length=ps.length:=by rw [<-b.length];exact F.len _ _ _ _ h
 refine qK (yN (F.run X.A X.stack s H ⟨us,[]⟩ (us++ds) (vs++C) Q E l i I.sX (d s us I.fj j) b h) λr n a=>?_)
 cases r with
 | error e=>exact m pins σ H s e n I a
 | ok c=>
  cases c with
  | ret u=>exact I.after a
  | next=>exact iB a
  | brk=>exact iB a
  | cont=>exact iB a
def ϰ (a:Addr) (sp:Sp) (c:List V) (E:XK) (t:TA):TE:=λh H Q=>t h H λg b=>(∃C d f e u,b a=some (.dh (cX C d f e) u))/\sp (g++c) b Q E
theorem WW (d:X.A.handled=some (.ref a)) (F:xt X.prog X.w X.K X.mg X.base CX k f fd ps sp) (z:qr k X.A) (n:Gl X x) (v:X.mg x=some (.ref f)) (o:W.keepIn X.K (.ref f)=true) (i:dm X.K fd ps ds) (j:a_ Bi ds) (A:kK CX X E)
 (g:PA X (e::J) t) (l:autoParam ((x==("__debug__":Str))=false) t12._auto_1) (m:autoParam (starEach (e::J) X.env=(false,eval e X.env)::starEach J X.env) t10._auto_1) (y:autoParam ((backTo pos (starEach J X.env)).any (·.1)=false) t10._auto_1):
 PE X (.Call (.Name x p) (e::J) [] pos) (ϰ a sp Bi E t):=by
 intro D s N H Q I h;refine xf (rj I n v ?_ l);refine yY (h₀:=X.base) I.ok.mod.sI o (ax (g pos D s N H _ I h) λS R M=>?_) m y;obtain ⟨T,O,b,r,⟨C,c,L,G,u,B⟩,q⟩:=M;refine ⟨b.fj,?_⟩;exact zBf F z (.inr ⟨a,C,c,L,G,u,d,B⟩) i j A b r q
end
def uP (xs ys:List V):Bool:=(List.range xs.length).all λj=>lW (xs.getD j .aG) (ys.getD j .aG)
theorem xP:∀{xs:List V} {j:Nat} {x:V},xs.all gn=true->xs[j]?=some x->gn x=true
 | [],_,_,_,e=>by simp at e
 | y::xs,j,x,h,e=>by
  rw [yO,mX] at h
  cases j with
  | zero=>simp at e;subst e;exact h.1
  | succ j=>exact xP h.2 (by simpa using e)
theorem HL (e:a_ xs us) (f:a_ ys vs) (i:xs.all gn=true) (k:ys.all gn=true) (j:Nat) (c:j<us.toArray.size) (d:j<vs.toArray.size):
 SeqAt.EqAt A s us.toArray[j] vs.toArray[j] (lW (xs.getD j .aG) (ys.getD j .aG)):=by
 have n:=e.length;have o:=f.length;rw [f_] at c d;have a:xs[j]?=some (xs.getD j .aG):=by rw [qe,gI (xW c n)];rfl
 have b:ys[j]?=some (ys.getD j .aG):=by rw [qe,gI (xW d o)];rfl
 obtain ⟨u,l,p⟩:=e.get a;obtain ⟨v,m,q⟩:=f.get b;have g:us.toArray[j]=u:=by have:=(eX.mp l).2;simpa using this
 have h:vs.toArray[j]=v:=by have:=(eX.mp m).2;simpa using this
 rw [g,h];exact Tn p q (xP i a) (xP k b)
section
variable {K:aO}
def ZY (K:aO):R2:=λx y H Q=>∃p q a b,x=.ref p/\y=.ref q/\ar K H p a/\ar K H q b/\a.all gn=true/\b.all gn=true/\a.length=b.length/\Q (.bl (uP a b)) H
theorem ϻ (g:X.K=K) (j:X.A.units+64<cLine):eP X (compareOp .Eq) (ZY K):=by subst g;intro z s E H x y v u Q I n o h;obtain ⟨p,q,C,D,rfl,rfl,e,f,c,d,r,i⟩:=h;cases n;cases o;obtain ⟨A,a,l,_⟩:=I.list e;obtain ⟨B,b,m,_⟩:=I.list f;have k:=a.length;have t:=b.length;refine SeqAt.eq_listAt l.isList m.isList (by rw [f_,f_];lia) (IP j) (HL a b c d) ⟨.bl _,H,I,U,?_⟩;rw [f_,<-k];exact i
end
section
variable {K:aO}
end
section
theorem Td:kK (hI P w) X E0:=λ_ _ _ _ _ _ _ h=>by obtain ⟨_,_,_,_,_,_,_,_,_,_,z⟩:=h;exact z.elim
end
def ϐ (t u:TS):TS:=λD c H=>∀N:St->Hp->Prop,(∀b a,u D b a->N b a)->t { D with nx:=N } c H
theorem aR {X:Cx} {st:Stmt} {a:List Stmt} {t u:TS} (b:PS X st t) (c:eS X a u):eS X (st::a) (ϐ t u):=λd s e H D I h=>cv b c d s e H D I (h (u D) λ_ _ z=>z)
def hQ:R2:=λx y H Q=>∃p a i v,x=.ref p/\y=.int i/\H p=some (.lst a)/\ic a i=some v/\Q v H
def il:R2:=λx y H Q=>∃p a i v,x=.ref p/\y=.int i/\H p=some (.tup a)/\ic a i=some v/\Q v H
theorem di:zb X hQ:=by intro l j d s o H x y v u Q I f g n c;obtain ⟨p,m,i,k,a,b,h,e,q⟩:=n;exact OV l j d s o H x y v u Q I f g ⟨p,m,i,k,a,b,ar.of h,e,q⟩ c
theorem zB9:zb X il:=by intro l j d s o H x y v u Q I f g n c;obtain ⟨p,m,i,k,a,b,h,e,q⟩:=n;exact Tq l j d s o H x y v u Q I f g ⟨p,m,i,k,a,b,dB.of h,e,q⟩ c
theorem aa (h:σ[j]?=some (some v)) (q:Q v H):gm j σ H Q:=⟨v,h,q⟩
theorem ct (q:Q k H):kT Q (.bl k) H:=⟨k,U,q⟩
theorem cb {f:Str} {a C dx:Addr} {fs:List (Str×V)} {v:V} {H:Hp} {Q:VK} (h:H a=some (.ins C dx fs)) (c:mf K C) (n:i4 K C f) (l:fs.lookup f=some v) (q:Q v H):iA K f (.ref a) H Q:=⟨a,C,dx,fs,v,U,h,c,n,l,q⟩
theorem kO {f:Str} {y:V} {a C dx:Addr} {fs:List (Str×V)} {H:Hp} {N:Hp->Prop} (h:H a=some (.ins C dx fs)) (c:mf K C) (n:i4 K C f) (l:fs.length<1000) (q:N (upd H a (.ins C dx (aj f y fs)))):i8 K f y (.ref a) H N:=⟨a,C,dx,fs,U,h,c,n,l,q⟩
theorem fi (h:H a=some (.ins C dx fs)) (l:fs.lookup m=none) (q:R):i9 C m (.ref a) H R:=⟨a,dx,fs,U,h,l,q⟩
theorem ri (q:Q (g i j) H):gd g (.int i) (.int j) H Q:=⟨i,j,U,U,q⟩
theorem gQ (h:H p=some (.lst xs)) (e:ic xs i=some v) (q:Q v H):hQ (.ref p) (.int i) H Q:=⟨p,xs,i,v,U,U,h,e,q⟩
theorem kP (h:H l=some (.lst xs)) (z:xs.length<sizeLine) (q:Q .aG (upd H l (.lst (xs++[y])))):i6 (.ref l) [y] H Q:=⟨l,xs,y,U,U,h,z,q⟩
theorem aE {X:Cx} {a:Expr} {b:TE} {k:Int} {j pos C} (h:PE X a b):PE X (.Subscript a (.Constant (.int k) j C) pos) (vJ il b (tC (.int k))):=cV zB9 h a7 (λ_ _=>rfl)
theorem aD (h:H p=some (.tup xs)) (e:ic xs i=some v) (q:Q v H):tC (.int i) σ H λy a=>il (.ref p) y a Q:=⟨p,xs,i,v,U,U,h,e,q⟩
theorem lG (h:H p=some (.lst xs)) (e:ic xs i=some v) (q:Q v H):tC (.int i) σ H λy a=>hQ (.ref p) y a Q:=⟨p,xs,i,v,U,U,h,e,q⟩
theorem yn (h0:σ[j]?=some (some (.int i))) (h:H p=some (.lst xs)) (e:ic xs i=some v) (q:Q v H):gm j σ H λy a=>hQ (.ref p) y a Q:=⟨.int i,h0,p,xs,i,v,U,U,h,e,q⟩
end L2
namespace MA
end MA
namespace MB
open MA
end MB
namespace Y0
open PySem L2
noncomputable def top (i:Nat):Stmt:=PySem.Challenge.pw_momentties_k15_falls_refused.main.body.getD i (.Pass ⟨0,0,0,0⟩)
noncomputable abbrev d0:Stmt:=hX (top 4) 0
noncomputable abbrev c7:Stmt:=top 8
noncomputable abbrev cz:Stmt:=top 9
noncomputable abbrev c8:Stmt:=top 10
noncomputable abbrev cy:Stmt:=top 11
noncomputable abbrev br:Stmt:=top 14
noncomputable abbrev ff:Stmt:=top 15
noncomputable abbrev eh:Stmt:=top 16
noncomputable abbrev eg:Stmt:=top 17
noncomputable abbrev ef:Stmt:=top 18
noncomputable abbrev ej:Stmt:=top 19
noncomputable abbrev dE:Stmt:=top 20
noncomputable abbrev bq:Stmt:=top 21
noncomputable abbrev bh:Stmt:=top 22
noncomputable abbrev de:Stmt:=hX (top 24) 0
noncomputable abbrev ck:Stmt:=hX (top 24) 1
noncomputable abbrev dc:Stmt:=hX (top 24) 2
noncomputable abbrev b_:Stmt:=hX (top 24) 3
noncomputable abbrev bb:Stmt:=hX (top 24) 4
noncomputable abbrev bj:Stmt:=hX (top 24) 5
noncomputable abbrev aX:Stmt:=hX (top 24) 6
noncomputable abbrev aU:Stmt:=hX (top 24) 7
noncomputable abbrev bU:Stmt:=hX (top 24) 8
noncomputable abbrev aP:Stmt:=hX (top 24) 9
noncomputable abbrev bz:Stmt:=top 25
noncomputable abbrev bP:Stmt:=top 26
noncomputable abbrev ee:Stmt:=top 27
noncomputable abbrev gD:Stmt:=top 28
noncomputable abbrev eA:Stmt:=hX (top 30) 0
noncomputable abbrev dH:Stmt:=hX (top 30) 1
noncomputable abbrev da:Stmt:=hX (top 30) 2
noncomputable abbrev cj:Stmt:=hX (top 30) 3
noncomputable abbrev bw:Stmt:=hX (top 30) 4
noncomputable abbrev cA:Stmt:=hX (top 30) 5
noncomputable abbrev cL:Stmt:=hX (top 30) 6
noncomputable abbrev c9:Stmt:=hX (top 30) 7
noncomputable abbrev cC:Stmt:=hX (top 30) 8
noncomputable abbrev bt:Stmt:=hX (top 30) 9
noncomputable abbrev eB:Stmt:=hX (top 30) 10
noncomputable abbrev aN:Stmt:=top 36
noncomputable abbrev bJ:Stmt:=top 37
noncomputable abbrev bC:Stmt:=top 38
noncomputable abbrev aL:Stmt:=top 39
noncomputable abbrev eV:Stmt:=hX (top 40) 0
noncomputable abbrev eU:Stmt:=hX (top 40) 1
noncomputable abbrev ew:Stmt:=hX (top 40) 2
noncomputable abbrev dz:Stmt:=hX (top 40) 3
noncomputable abbrev h_:Stmt:=top 42
noncomputable abbrev jr:Stmt:=top 44
noncomputable abbrev jt:Stmt:=top 45
noncomputable abbrev jS:Stmt:=top 46
noncomputable abbrev pz:Stmt:=top 47
noncomputable abbrev jT:Stmt:=top 48
noncomputable abbrev fg:Stmt:=top 49
noncomputable abbrev eT:Stmt:=top 50
noncomputable abbrev eo:Stmt:=top 51
noncomputable abbrev rO:Stmt:=top 52
seal kT i6 iA gd hQ il i9 i8 gm
structure Fn (K:aO) (mg:Str->Option Value) (x:Str) (st:Stmt) (ps:List Str) (f:Addr) (fd:FuncData):Prop where
 F:dO K x x st f fd
 b:dm K fd ps []
 g:mg x=some (.ref f)
theorem cE {X:Cx} {k:Nat} {f:Addr} {b:FuncData} {d:List Str} {sp:Sp} {x:Str} {st:Stmt} {e:Expr} {a:List Expr} {t:TA} {p c:Pos} (G:aq X.prog X.w X.K X.mg X.base aw k f b d sp) (m:cR k X.A) (F:Fn X.K X.mg x st d f b) (g:PA X (e::a) t) (j:autoParam (Gl X x) t10._auto_1) (h:autoParam ((x==("__debug__":Str))=false) t12._auto_1) (i:autoParam (starEach (e::a) X.env=(false,eval e X.env)::starEach a X.env) t10._auto_1) (l:autoParam ((backTo c (starEach a X.env)).any (·.1)=false) t10._auto_1):PE X (.Call (.Name x p) (e::a) [] c) (Tc sp [] E0 t):=zBq G m j F.g F.F.kp F.b .nil dR g h i l
end Y0
namespace L2
open PySem
def bX (d:Addr) (H a:Hp):Prop:=∀b o,H b=some o->b≠d->a b=some o
theorem bX.refl (d:Addr) (H:Hp):bX d H H:=λ_ _ e _=>e
theorem bX.trans (x:bX d H H1) (y:bX d H1 H2):bX d H H2:=λb o e n=>y b o (x b o e n) n
theorem a0.keep (x:a0 H H1):bX d H H1:=λb o e _=>x b o e
theorem aV (h:H p=none):a0 H (upd H p o):=λb u e=>by rw [ah (av e h)];exact e
end L2
namespace Y0
open PySem L2
seal kT i6 iA gd hQ il i9 i8 gm
def oQ (K:aO) (H:Hp) (sa:Addr) (ns:List Int):Prop:=(∃o,H sa=some (.dh o (.lst (ns.map V.int))))\/
 ∃(o:Obj) (a:Array Value) (n:Nat),K.lookup sa=some o/\o.cls=.type "list"/\o.dict=none/\o.data=.seq a n/\a.size<=sizeLine/\a_ (ns.map V.int) a.toList
theorem oQ.sq (h:oQ K H sa ns):ar K H sa (ns.map V.int):=by
 rcases h with ⟨o,h⟩ | h
 ·exact .inl (.inr ⟨o,h⟩)
 ·exact .inr h
theorem oQ.same (h:oQ K H sa ns) (k:a0 H H1):oQ K H1 sa ns:=by
 rcases h with ⟨o,h⟩ | h
 ·exact .inl ⟨o,k _ _ h⟩
 ·exact .inr h
theorem oQ.keep (h:oQ K H sa ns) (k:bX l H H1) (a:H l=some (.lst xs)):oQ K H1 sa ns:=by
 rcases h with ⟨o,h⟩ | h
 ·exact .inl ⟨o,k _ _ h (aI h a nofun)⟩
 ·exact .inr h
structure d7 (K:aO) (sa:Addr) (H:Hp) (d:Addr):Prop where
 at_:∃p:Nat,H d=some (.lst [.ref sa,.int p])
 scr:∃ns:List Int,oQ K H sa ns
theorem d7.same (x:d7 K sa H d) (k:a0 H H1):d7 K sa H1 d:=by obtain ⟨⟨p,h⟩,⟨a,r⟩⟩:=x;exact ⟨⟨p,k _ _ h⟩,⟨a,r.same k⟩⟩
def a8 (K:aO):Sp:=λc H Q _=>∃d b m,c=[.ref d,.int m]/\d7 K b H d/\1<=m/\∀r a,0<=r->r<m->d7 K b a d->bX d H a->Q (.int r) a
theorem iu (D:d7 K sa H d) (h:1<=m) (q:∀r a,0<=r->r<m->d7 K sa a d->bX d H a->Q (.int r) a):a8 K [.ref d,.int m] H Q E:=Exists.intro d (Exists.intro sa (Exists.intro m ⟨U,D,h,q⟩))
section
theorem scN:bR iv iv (aF h_):=cD
theorem sf (F:Fn K mg "_law_next" h_ iv f fd) (z:mg "len"=none):aq P w K mg base aw 1 f fd iv (a8 K):=by
 refine F.F.cY scN λ_ A _ s H _ Q E B h=>?_;obtain ⟨d,c,m,rfl,D,g,k⟩:=h;obtain ⟨⟨p,j⟩,⟨i,y⟩⟩:=id D;refine ⟨_,cv (Hy (cu i5 (cV di (pv 0) a7) a7) (Hw (pv 0) a7 IB))
  (cv (dr (cG zj (cV di (pv 0) a7) (i7 vt (by rfl) z xj (aY (cV di (pv 0) a7)))) (au (cg a7)) d8)
  (au (cg (cu Hu (cV OV (cV di (pv 0) a7) (cu iH (cV di (pv 0) a7) a7)) (pv 1))))),?_⟩
 refine (aa U (lG j U (ri (aa U ⟨_,_,_,_,U,U,j,U,?_⟩))));have a:upd H d (.lst ([V.ref c,V.int p].set 1 (.int ((p:Int)+1)))) d=some (.lst [.ref c,.int ((p:Int)+1)]):=ai;have l:bX d H (upd H d (.lst ([V.ref c,V.int p].set 1 (.int ((p:Int)+1))))):=λb o e n=>by rw [ah n];exact e
 have u:=y.keep l j;have t:=u.sq;have q:d7 K c (upd H d (.lst ([V.ref c,V.int p].set 1 (.int ((p:Int)+1))))) d:=⟨⟨p+1,a⟩,⟨i,u⟩⟩;refine (aa U (lG a U (aa U (lG a U ⟨_,_,U,.inl t,ri (ct ?_)⟩))));refine mi (λ_=>?_) (λr=>?_)
 ·exact k 0 _ (kE _) (by exact g) q l
 ·have x:p<i.length:=by
   rw [az] at r;simp only [j9] at r;omega
  have v:ic (i.map V.int) ((p:Int)+1-1)=some (.int i[p]):=by rw [show (p:Int)+1-1=((p:Nat):Int) by lia];exact je (by rw [dA,gI x];rfl)
  refine (aa U (lG a U (aa U (lG a U (ri ⟨_,_,_,_,U,U,t,v,aa U ⟨_,_,U,U,(by show (0:Int)<m;exact g),?_⟩⟩)))));exact k _ _ (Na _ (by exact Int.ne_of_gt g)) (Int.emod_lt_of_pos _ (by exact g)) q l
end
end Y0
namespace L2
open PySem
def Ö (t:TS):TS:=λD c H=>∃R:St->Hp->Prop,t { D with nx:=R } c H/\∀b a,R b a->D.nx b a
theorem xE (h:PS X st t):PS X st (Ö t):=by
 intro i s j H D I g;obtain ⟨R,d,e⟩:=g;refine ax (h i s j H _ I d) λf k q=>?_
 cases f with
 | next=>obtain ⟨b,a,c,r⟩:=q;exact ⟨b,a,c,e b a r⟩
 | brk=>exact q
 | cont=>exact q
 | ret v=>exact q
def gx (H:Hp) (a:Addr) (b:List Addr) (rows:List (List Int)):Prop:=H a=some (.lst (b.map V.ref))/\Paired (λp r=>H p=some (.tup (r.map V.int))) b rows
def fz (H:Hp) (a:Addr) (rows:List (List Int)):Prop:=∃b,gx H a b rows
theorem dM (h:Paired F l m) (i:∀a b,F a b->G a b):Paired G l m:=Paired.vY h i
theorem gx.same (h:gx H a ps rows) (k:a0 H H'):gx H' a ps rows:=⟨k _ _ h.1,dM h.2 λ_ _ e=>k _ _ e⟩
theorem gx.keep (h:gx H a ps rows) (k:bX d H H') (b:H d=some (.lst xs)) (c:a≠d):gx H' a ps rows:=
 ⟨k _ _ h.1 c,dM h.2 λ_ _ e=>k _ _ e (aI e b nofun)⟩
theorem fz.same (h:fz H a rows) (k:a0 H H'):fz H' a rows:=let ⟨b,r⟩:=h;⟨b,r.same k⟩
theorem fz.keep (h:fz H a rows) (k:bX d H H') (b:H d=some (.lst xs)) (c:a≠d):fz H' a rows:=let ⟨e,r⟩:=h;⟨e,r.keep k b c⟩
theorem gx.len (h:gx H a ps rows):ps.length=rows.length:=h.2.length
theorem gx.push (h:gx H a ps rows) (b:H p=some (.tup (r.map V.int))):gx (upd H a (.lst (ps.map V.ref++[.ref p]))) a (ps++[p]) (rows++[r]):=by
 have c:∀q d,H q=some (.tup d)->q≠a:=λq d e=>aI e h.1 nofun;refine ⟨by rw [ai,dN];rfl,Fh (dM h.2 λq r e=>?_) ?_⟩
 ·rw [ah (c q _ e)];exact e
 ·rw [ah (c p _ b)];exact b
theorem nv (k:bX d C H) (h:C l=none):bX d C (upd H l o):=λb u e n=>by rw [ah (av e h)];exact k b u e n
theorem bX.free (k:bX d C H) (h:H l=none) (b:∃o,H d=some o):C l=none:=by
 cases q:C l with
 | none=>rfl
 | some o=>
  by_cases e:l=d
  ·subst e;obtain ⟨c,a⟩:=b;rw [h] at a;cases a
  ·rw [k l o q e] at h;cases h
end L2
namespace Y0
open PySem L2
seal kT i6 iA gd hQ il i9 i8 gm a8
theorem d7.there (x:d7 K sa H d):∃o,H d=some o:=let ⟨p,e⟩:=x.at_;⟨_,e⟩
theorem d7.upd (x:d7 K sa H d) (c:H l=some (.lst xs)) (a:l≠d):d7 K sa (upd H l o) d:=by obtain ⟨⟨p,h⟩,⟨f,r⟩⟩:=x;exact ⟨⟨p,by rw [ah (aK a)];exact h⟩,⟨f,r.keep (λb u e n=>by rw [ah n];exact e) c⟩⟩
theorem d7.new (x:d7 K sa H d) (a:H l=none):d7 K sa (L2.upd H l o) d:=x.same (aV a)
def gy (m n t:Int):Int:=if m=0 then 0 else 1+(m-1+t) % (n-1)
def P5:Sp:=λa H Q _=>∃m n t,a=[.int m,.int n,.int t]/\2<=n/\Q (.int (gy m n t)) H
section
theorem ä:bR ā ā (aF jr):=cD
theorem pE (F:Fn K mg "_law_named" jr ā f fd):aq P w K mg base aw 1 f fd ā P5:=by
 refine F.F.cY ä λ_ A _ s H _ Q E c h=>?_;obtain ⟨m,n,t,rfl,b,k⟩:=h;refine ⟨_,cv (dr (cG fy (pv 0) a7) (au (cg a7)) d8)
  (au (cg (cu i5 a7 (cu Hu (cu i5 (cu iH (pv 0) a7) (pv 2)) (cu iH (pv 1) a7))))),?_⟩
 refine (aa U ⟨U,ct ?_⟩);refine mi (λa=>?_) (λa=>?_)
 ·have e:m=0:=by simpa using a
  have q:gy m n t=0:=by unfold gy;rw [if_pos e]
  rw [q] at k;exact k
 ·have e:¬m=0:=by simpa using a
  have q:gy m n t=1+(m-1+t) % (n-1):=by unfold gy;rw [if_neg e]
  rw [q] at k;exact (aa U (ri (aa U (ri (aa U (ri ⟨_,_,U,U,(by show (0:Int)<n-1;exact De b),ri k⟩))))))
end
noncomputable def vg (n:Int) (c:Nat) (rows:List (List Int)):Prop:=∀(k:Nat) r,rows[k]?=some r->∃a l m:Int,r=[a,n-1-k,l,m]/\0<=a/\a<n-c/\1<=l/\l<=m/\m<=60
theorem vg.snoc (h:vg n c rows) (d:0<=a) (f:a<n-c) (g:1<=l) (i:l<=m) (j:m<=60):vg n c (rows++[[a,n-1-rows.length,l,m]]):=by
 intro k r e
 by_cases b:k<rows.length
 ·rw [oI b] at e;exact h k r e
 ·rw [oz (by exact kZ b)] at e;have o:k-rows.length=0:=by
   cases q:k-rows.length with
   | zero=>rfl
   | succ z=>rw [q] at e;simp at e
  rw [o] at e;cases e;have:k=rows.length:=by lia
  subst this;exact ⟨a,l,m,U,d,f,g,i,j⟩
def BJ (wd:Int) (rows:List (List Int)):Prop:=wd≠8->rows.length<=3/\∀r∈rows,r.getD 3 0-r.getD 2 0<wd
def Pl (K:aO):Sp:=λg H Q _=>∃d f n e,g=[.ref d,.int n,.int e]/\d7 K f H d/\2<=n/\n<=8/\1<=e/\e<=8/\
 ∀(l:Addr) (c:Nat) b a,(c:Int)<=n-1->b.length=c->vg n c b->fz a l b->H l=none->d7 K f a d->bX d H a->BJ e b->Q (.ref l) a
section
noncomputable abbrev nF:List Str:=["_law_d","_law_many","_law_wide","_law_count","_law_falls_here","_law_k","_law_least","_law_most"]
theorem rN:bR nF ą (aF jt):=cD
theorem pI (F:Fn K mg "_law_falls" jt ą f fd) (j:Fn K mg "_law_next" h_ iv fN kh)
 (k:aq P w K mg base aw 1 fN kh iv (a8 K)) (min:mg "min"=none) (range:mg "range"=none):aq P w K mg base aw 2 f fd ą (Pl K):=by
 refine F.F.cY rN λ_ x7 _ m8 H _ x9 x8 g x6=>?_;obtain ⟨d,Y,n,h,rfl,x5,AE,hn2,sL,yx,x2⟩:=x6;refine ⟨_,cv (cx 3 rN.nd (cE k g j (bo (pv 0) (cu i5 (i7 (zT U) (by rfl) min (by decide+kernel) (bo a7 (cu iH (pv 1) a7))) a7))))
  (cv (xE (dr (PW.pt (oT (cG fy (pv 2) a7) (ro (cG fy (cE k g j (bo (pv 0) a7)) a7))))
   (au (cx 3 rN.nd (cE k g j (bo (pv 0) (pv 1))))) d8))
  (cv (cx 4 rN.nd (iW oS))
  (cv (iJ ja U (tW U range (aY (pv 3))) (cf 5 rN.nd)
   (cv (cx 6 rN.nd (cu i5 a7 (cE k g j (bo (pv 0) (pv 2)))))
   (cv (cx 7 rN.nd (cu i5 (pv 6) (cE k g j (bo (pv 0) (pv 2)))))
   (cv (xE (dr (PW.pt (oT (cG fy (pv 2) a7) (ro (cG fy (cE k g j (bo (pv 0) a7)) a7))))
    (cv (cx 6 rN.nd (cu i5 a7 (cE k g j (bo (pv 0) a7))))
    (au (cx 7 rN.nd (cu i5 (pv 6) (cE k g j (bo (pv 0) (cu iH a7 (pv 6)))))))) d8))
   (au (e_ (l9 md ma m_ lF (pv 4)
    (aY (f9 (kQ (cE k g j (bo (pv 0) (cu iH (pv 1) (pv 3)))) (cu iH (cu iH (pv 1) a7) (pv 5)) (pv 6) (pv 7)))))))))))
  (au (cg (pv 4)))))),?_⟩
 refine (aa U (aa U (ri ⟨_,_,U,ri (iu x5 (by split<;>lia) (λJ H1 AU L D1 W=>?_))⟩)));have hc2:J<=n-1:=by
  revert L
  split<;>intro L<;>lia
 have hc3:J<=3:=by
  revert L
  split<;>intro L<;>lia
 refine ⟨λq m=>∃c:Nat,(c:Int)<=n-1/\(h≠8->c<=3)/\q=[some (.ref d),some (.int n),some (.int h),some (.int (c:Int)),none,none,none,none]/\d7 K Y m d/\bX d H m,?_,?_⟩
 ·
  refine (aa U ⟨U,ct ?_⟩);refine mi (λp=>?_) (λ_=>?_)
  ·have p:h=8:=by simpa using p
   refine (aa U (iu D1 (by decide) (λr H2 _ _ t B=>⟨U,ct ?_⟩)));refine mi (λ_=>?_) (λ_=>?_)
   ·refine (aa U (aa U (iu t (by exact fq AE) (λc y h0 h1 u v=>⟨c.toNat,by lia,λz=>absurd p z,?_,u,(W.trans B).trans v⟩))));rw [k_ h0];rfl
   ·exact ⟨J.toNat,by lia,λz=>absurd p z,by rw [k_ AU];rfl,t,W.trans B⟩
  ·refine dk ?_;exact ⟨J.toNat,by lia,λ_=>by lia,by rw [k_ AU];rfl,D1,W⟩
 ·rintro q H2 ⟨c,hc,hcw,rfl,t,B⟩;refine ⟨dZ _,λl S=>?_⟩;have T:H l=none:=B.free S t.there;have ld:l≠d:=λe=>by
   subst e;obtain ⟨o,x4⟩:=t.there;rw [S] at x4;cases x4
  refine (aa U ⟨_,U,by exact kW (c+Nat.succ 4611686018427387903),by lia,zX (n:=c) (λi q m=>∃Z v2 v3 x rows,q=[some (.ref d),some (.int n),some (.int h),some (.int (c:Int)),some (.ref l),Z,v2,v3]/\gx m l x rows/\rows.length=i/\vg n c rows/\d7 K Y m d/\bX d H m/\(h≠8->∀r∈rows,r.getD 3 0-r.getD 2 0<h))
   ⟨none,none,none,[],[],U,⟨ai,.nil⟩,U,(λx2 r e=>by simp at e),t.new S,nv B T,λ_ r g=>nomatch g⟩ ?_ ?_⟩)
  ·rintro i q y hi ⟨Z,v2,v3,x,rows,rfl,O,A,R,u,v,Q⟩;have kl:∀{N:Hp},bX d y N->gx N l x rows:=λC=>by
    obtain ⟨x3,e⟩:=u.at_;exact O.keep C e ld
   refine (aa U (aa U (iu u sL (λM N Bc Mz D4 C=>(ri ?_)))));refine (aa U (aa U (aa U (iu D4 sL (λr2 H5 yD V5 D5 X=>(ri ?_))))));refine ⟨λq m=>∃a b:Int,1<=a/\a<=b/\b<=60/\(h≠8->b-a<h)/\q=[some (.ref d),some (.int n),some (.int h),some (.int (c:Int)),some (.ref l),some (.int (0+(i:Int))),some (.int a),some (.int b)]/\d7 K Y m d/\bX d y m,?_,?_⟩
   ·refine (aa U ⟨U,ct ?_⟩);refine mi (λp=>?_) (λ_=>?_)
    ·have p:h=8:=by simpa using p
     refine (aa U (iu D5 (by decide) (λr H6 _ _ E s=>⟨U,ct ?_⟩)));refine mi (λ_=>?_) (λ_=>?_)
     ·refine (aa U (iu E (by decide) (λr3 H7 V4 h3b G D=>(ri ?_))));refine (aa U (aa U (aa U (ri (iu G (by lia) (λr4 H8 h4a h4b D8 k8=>(ri ?_)))))));exact ⟨1+r3,1+r3+r4,lE V4,lE h4a,by lia,λz=>absurd p z,U,D8,(((C.trans X).trans s).trans D).trans k8⟩
     ·exact ⟨1+M,1+M+r2,lE Bc,lE yD,by lia,λz=>absurd p z,U,E,(C.trans X).trans s⟩
    ·refine dk ?_;exact ⟨1+M,1+M+r2,lE Bc,lE yD,by lia,λ_=>by lia,U,D5,C.trans X⟩
   ·rintro q H6 ⟨a,b,ha,hab,hb,hba,rfl,E,s⟩;have R6:=kl s;refine (aa U ⟨.inl ⟨U,_,ar.of R6.1⟩,?_⟩);refine (aa U (aa U (aa U (ri (iu E (by lia) (λr5 H7 h5a h5b G D=>?_))))));have R7:=kl (s.trans D);refine (aa U (ri (aa U (ri (aa U (aa U ⟨eH U,λx3 V=>?_⟩))))));have I:=R7.same (aV (o:=.tup [.int r5,.int (n-1-(0+(i:Int))),.int a,.int b]) V);refine (kP I.1 ?_ ?_)
    ·rw [az,I.len];exact fe (by lia)
    ·have e0:(0:Int)+(i:Int)=(rows.length:Int):=by rw [A];lia
     refine ⟨_,_,_,x++[x3],rows++[[r5,n-1-(0+(i:Int)),a,b]],U,I.push ai,by rw [iD,A];rfl,?_,?_,?_,λz r g=>?_⟩
     ·rw [e0];exact R.snoc h5a h5b ha hab hb
     ·exact (G.new V).upd I.1 ld
     ·exact nv (nv ((v.trans s).trans D) (((v.trans s).trans D).free V G.there)) T
     ·rcases jj.mp g with x1 | x1
      ·exact Q z r x1
      ·rw [ig.mp x1];exact hba z
  ·rintro q y ⟨Z,v2,v3,x,rows,rfl,O,A,R,u,v,Q⟩;exact (aa U (x2 l c rows y hc A R ⟨x,O⟩ T u v λz=>⟨by rw [A];exact hcw z,Q z⟩))
end
theorem IJ {x n:Int} (h0:0<=x) (c:x<2*n) (d:0<n):x % n=if x<n then x else x-n:=by
 by_cases h:x<n
 ·rw [if_pos h,Int.emod_eq_of_lt h0 h]
 ·rw [if_neg h];have e:x % n=(x-n) % n:=by
   first
    | exact (Int.sub_emod_right x n).symm
    | (have:=Int.qH (a:=x-n) (b:=n);rw [Int.sub_add_cancel] at this;exact this)
  rw [e,Int.emod_eq_of_lt (by lia) (by lia)]
theorem OL {xs:List Int} {i:Int} (h0:0<=i) (b:i<xs.length):∃v,v∈xs/\ic (xs.map V.int) i=some (.int v):=by
 obtain ⟨j,rfl⟩:∃j:Nat,i=j:=⟨i.toNat,by lia⟩;have a:j<xs.length:=by lia
 exact ⟨xs[j],xi a,je (by rw [dA,gI a];rfl)⟩
noncomputable def t8 (n:Int) (r:List Int):Prop:=∃a b l m:Int,r=[a,b,l,m]/\0<=a/\a<n/\0<=b/\b<n/\a≠b/\-60<=l/\l<=m/\m<=60
def NV (K:aO):Sp:=λg H Q _=>∃d f n b e,g=[.ref d,.int n,.int b,.int e]/\d7 K f H d/\2<=n/\n<=8/\1<=b/\b<=60/\1<=e/\e<=8/\
 ∀(l:Addr) c a,c.length<=12->(∀r∈c,t8 n r)->fz a l c->H l=none->d7 K f a d->bX d H a->Q (.ref l) a
section
noncomputable abbrev nT:List Str:=["_law_d","_law_many","_law_last","_law_wide","_law_ties_here","_law_k","_law_times","_law_count","_law_one","_law_other","_law_near","_law_least"]
theorem px:bR nT UQ (aF jS):=cD
theorem coT:hV (aF jS) nT (j4 [(".0",.local),("_law_k",.local),("_law_next",.globalImplicit),("_law_d",.free),("_law_last",.free)]) Ħ [none,some 0,some 2]:=j7
theorem ndT:(Ħ:List Str).Nodup:=by decide+kernel
theorem rV (F:Fn K mg "_law_ties" jS UQ f fd) (u:Fn K mg "_law_next" h_ iv fN kh)
 (v:aq P w K mg base aw 1 fN kh iv (a8 K)) (min:mg "min"=none) (max:mg "max"=none) (range:mg "range"=none):aq P w K mg base aw 2 f fd UQ (NV K):=by
 refine F.F.cY px λ_ x6 _ x9 H _ x8 x7 g x4=>?_;obtain ⟨d,sa,n,la,wd,rfl,x1,AE,hn2,EL,EK,sL,_,x5⟩:=x4;refine ⟨_,aR (cx 4 px.nd (iW oS))
  (aR (cx 6 px.nd (cu tI (iW (aY a7)) (oA U (tW U range (aY (cu iH (pv 1) a7))) coT
   (λcl ex s0 H0=>⟨cf 0 ndT,rq,cE v g u (bo (pv 1) (cu i5 (pv 2) a7))⟩))))
  (aR (cx 7 px.nd (cE v g u (bo (pv 0) a7)))
  (aR (xE (dr (PW.pt (oT (cG fy (pv 3) a7) (ro (cG fy (cE v g u (bo (pv 0) a7)) a7))))
   (au (cx 7 px.nd (cE v g u (bo (pv 0) a7)))) d8))
  (aR (iJ ja U (tW U range (aY (pv 7))) (cf 5 px.nd)
   (aR (cx 8 px.nd (cE v g u (bo (pv 0) (pv 1))))
   (aR (cx 9 px.nd (cu Hu (cu i5 (cu i5 (pv 8) a7) (cE v g u (bo (pv 0) (cu iH (pv 1) a7)))) (pv 1)))
   (aR (cx 10 px.nd (cu iH (cV di (pv 6) (pv 9)) (cV di (pv 6) (pv 8))))
   (aR (xE (dr (cG fy (cE v g u (bo (pv 0) a7)) a7)
    (au (cx 10 px.nd (cu iH (cE v g u (bo (pv 0) (cu i5 (cu zD7 a7 (pv 2)) a7))) (pv 2)))) d8))
   (aR (cx 11 px.nd (i7 (QH U) (by rfl) max (by decide+kernel) (bo (uV uY a7) (cu iH (pv 10) (cE v g u (bo (pv 0) (cu i5 (pv 3) a7)))))))
   (au (e_ (l9 md ma m_ lF (pv 4)
    (aY (f9 (kQ (pv 8) (pv 9) (pv 11) (i7 (zT U) (by rfl) min (by decide+kernel) (bo a7 (i7 (QH U) (by rfl) max (by decide+kernel)
     (bo (pv 11) (cu i5 (pv 10) (cE v g u (bo (pv 0) (cu i5 (pv 3) a7))))))))))))))))))))
  (au (cg (pv 4))))))),?_⟩
 refine λQ y=>⟨dZ _,λl hl=>y _ _ ?_⟩;clear y Q;have R:l≠d:=λe=>by subst e;obtain ⟨o,q⟩:=x1.there;rw [hl] at q;cases q
 refine λQ y=>⟨eH U,λz hz=>?_⟩;refine (aa U (ri ⟨_,U,by lia,by lia,λW Z=>?_⟩));have zl:z≠l:=aK (av (ai (H:=H) (a:=l) (o:=.lst [])) hz);have UR:H z=none:=by rw [ah zl] at hz;exact hz
 have NN:W≠l:=aK (av (show upd (upd H l (.lst [])) z (.lst [.int 0]) l=some (.lst []) by rw [ah (aK zl),ai]) Z);have NM:W≠z:=aK (av (ai (H:=upd H l (.lst [])) (a:=z) (o:=.lst [.int 0])) Z);have pX:H W=none:=by rw [ah NM,ah NN] at Z;exact Z
 have B:∀{a:Addr},H a=none->a≠d:=λ{a} e q=>by subst q;obtain ⟨o,q⟩:=x1.there;rw [e] at q;cases q
 refine DD (n:=(n-1).toNat) (λi j b=>∃x2,∃G:List Int,j=[x2,some (.ref d),some (.int la)]/\G.length=i/\(∀t∈G,0<=t/\t<=la)/\b W=some (.lst (G.map V.int))/\b l=some (.lst [])/\b z=some (.lst [.int 0])/\d7 K sa b d/\bX d H b) ?_ ?_ ?_
 ·exact ⟨none,[],U,U,(λt ht=>nomatch ht),ai,by rw [ah (aK NN),ah (aK zl),ai],by rw [ah (aK NM),ai],((x1.new hl).new hz).new Z,nv (nv (nv (bX.refl d H) hl) UR) pX⟩
 ·rintro i j X hi ⟨x2,G,rfl,hlen,Lp,e1,e2,e3,D3,k3⟩;refine (aa U (aa U (ri (iu D3 (by lia) (λr H4 h0 h1 D4 D=>?_)))));have f1:=D _ _ e1 (B pX);refine ⟨_,f1,?_,_,G++[r],U,by rw [iD,hlen];rfl,λt ht=>?_,?_,?_,?_,D4.upd f1 (B pX),nv (k3.trans D) pX⟩
  ·rw [az];exact fe (by omega)
  ·rcases jj.mp ht with q | q
   ·exact Lp t q
   ·rw [ig.mp q];lia
  ·rw [ai,dN];rfl
  ·rw [ah (aK NN)];exact D _ _ e2 R
  ·rw [ah (aK NM)];exact D _ _ e3 (B UR)
 ·rintro j X ⟨x2,G,rfl,hlen,Lp,e1,e2,e3,D3,k3⟩;refine ⟨z,W,_,_,U,U,e3,e1,?_,λk wq=>y _ _ ?_⟩
  ·rw [az];exact bf (fe (by simp;omega))
  clear y Q;have J:H k=none:=k3.free wq D3.there;have T9:k≠l:=aK (av e2 wq);obtain ⟨h,htt,wB,sR⟩:∃h:List Int,[V.int 0]++G.map V.int=h.map V.int/\(h.length:Int)=n/\∀t∈h,0<=t/\t<=la:=by
   refine ⟨0::G,U,by rw [ji,hlen];omega,λt ht=>?_⟩;rcases f'.mp ht with q | q
   ·rw [q];lia
   ·exact Lp t q
  rw [htt];have g1:upd X k (.lst (h.map V.int)) k=some (.lst (h.map V.int)):=ai;have g2:upd X k (.lst (h.map V.int)) l=some (.lst []):=by rw [ah (aK T9)];exact e2
  have D4:d7 K sa (upd X k (.lst (h.map V.int))) d:=D3.new wq;have D:bX d H (upd X k (.lst (h.map V.int))):=nv k3 J;refine λQ y=>(aa U (iu D4 (by decide) (λc0 H5 AU hc1 D5 k5=>y _ _ ?_)));clear y Q;have l5:=k5 _ _ g2 R;have t5:=k5 _ _ g1 (B J);refine λQ y=>⟨λj b=>∃c:Nat,c<=12/\j=[some (.ref d),some (.int n),some (.int la),some (.int wd),some (.ref l),none,some (.ref k),some (.int (c:Int)),none,none,none,none]/\d7 K sa b d/\bX d H b/\b l=some (.lst [])/\b k=some (.lst (h.map V.int)),?_,?_⟩
  ·refine (aa U ⟨U,ct ?_⟩);refine mi (λ_=>?_) (λ_=>?_)
   ·refine (aa U (iu D5 (by decide) (λr H6 _ _ D6 E=>⟨U,ct ?_⟩)));refine mi (λ_=>?_) (λ_=>?_)
    ·refine (aa U (iu D6 (by decide) (λc Y h0 h1 O M=>⟨c.toNat,by lia,?_,O,((D.trans k5).trans E).trans M,(E.trans M) _ _ l5 R,(E.trans M) _ _ t5 (B J)⟩)));rw [k_ h0];rfl
    ·exact ⟨c0.toNat,by lia,by rw [k_ AU];rfl,D6,(D.trans k5).trans E,E _ _ l5 R,E _ _ t5 (B J)⟩
   ·refine dk ?_;exact ⟨c0.toNat,by lia,by rw [k_ AU];rfl,D5,D.trans k5,l5,t5⟩
  ·rintro j H6 ⟨c,hc,rfl,D6,E,l6,t6⟩;refine y _ _ λM1 m1=>(aa U ⟨_,U,by exact kW (c+Nat.succ 4611686018427387903),by lia,zX (n:=c) (λi j b=>∃v1 v2 v3 v4 v5 T rows,j=[some (.ref d),some (.int n),some (.int la),some (.int wd),some (.ref l),v1,some (.ref k),some (.int (c:Int)),v2,v3,v4,v5]/\gx b l T rows/\rows.length=i/\(∀r∈rows,t8 n r)/\
    b k=some (.lst (h.map V.int))/\d7 K sa b d/\bX d H b) ⟨none,none,none,none,none,[],[],U,⟨l6,.nil⟩,U,(λr g=>nomatch g),t6,D6,E⟩ ?_ ?_⟩)
   ·rintro i j Y hi ⟨v1,v2,v3,v4,v5,T,rows,rfl,R7,pS,aA,t7,O,M⟩;have kl:∀{H8:Hp},bX d Y H8->gx H8 l T rows:=λk8=>by
     obtain ⟨x3,e⟩:=O.at_;exact R7.keep k8 e R
    refine λI p=>(aa U (aa U (iu O (by exact fq AE) (λs H8 Bc Mz D8 k8=>p _ _ ?_))));clear p I;refine λI p=>(aa U (ri (aa U (aa U (ri (iu D8 (by lia) (λN H9 yD V5 D9 k9=>(ri (aa U ⟨_,_,U,U,(by show (0:Int)<n;exact fq AE),p _ _ ?_⟩)))))))));clear p I;have hw:=IJ (x:=s+1+N) (n:=n) (by lia) (by lia) (by exact fq AE);have ho:0<=(s+1+N) % n/\(s+1+N) % n<n/\s≠(s+1+N) % n:=by rw [hw];split<;>lia
    obtain ⟨Vh,ho2,ho3⟩:=ho;have t9:=(k8.trans k9) _ _ t7 (B J);obtain ⟨w1,Lm,ha1⟩:=OL (xs:=h) Vh (by lia);obtain ⟨w2,Ll,ha2⟩:=OL (xs:=h) Bc (by lia);have b1:=sR w1 Lm;have b2:=sR w2 Ll;refine λI p=>(aa U (yn U t9 ha1 (aa U (yn U t9 ha2 (ri (p _ _ ?_))))));clear p I;refine λI p=>⟨λj b=>∃A:Int,-60<=A/\A<=60/\j=[some (.ref d),some (.int n),some (.int la),some (.int wd),some (.ref l),some (.int (0+(i:Int))),some (.ref k),some (.int (c:Int)),some (.int s),some (.int ((s+1+N) % n)),some (.int A),v5]/\d7 K sa b d/\bX d Y b,?_,?_⟩
    ·refine (aa U (iu D9 (by decide) (λr qP _ _ tw C=>⟨U,ct ?_⟩)));refine mi (λ_=>?_) (λ_=>?_)
     ·refine (aa U (aa U ⟨_,_,U,U,.inl ⟨by decide,by decide⟩,ri (iu tw (by lia) (λr' NJ g0 M6 NP L=>(aa U (ri ⟨r'-la,by lia,by lia,U,NP,((k8.trans k9).trans C).trans L⟩))))⟩))
     ·exact ⟨w1-w2,by lia,by lia,U,tw,(k8.trans k9).trans C⟩
    ·rintro j qP ⟨A,_,hnr2,rfl,tw,C⟩;refine p _ _ λM3 m3=>⟨_,U,aa U (aa U (aa U (ri (iu tw (by lia) (λr1 NJ V4 _ NP L=>(ri ⟨_,_,U,m3 _ _ ?_⟩))))))⟩;clear m3 M3 p I;obtain ⟨m,VD,le1,le2⟩:∃m,(if A-r1> -60 then A-r1 else-60)=m/\-60<=m/\m<=60:=⟨_,U,by split<;>lia,by split<;>lia⟩;rw [VD];clear VD;have R11:=kl (C.trans L);refine (aa U ⟨.inl ⟨U,_,ar.of R11.1⟩,?_⟩);refine (aa U (aa U (aa U (aa U (aa U (aa U (aa U (ri (iu NP (by lia) (λr2 H12 _ _ Wu EF=>(ri ⟨_,_,U,_,_,U,eH U,λx3 hp=>?_⟩)))))))))));obtain ⟨S,VC,mo1,mo2⟩:∃S,(if (if A+r2>m then A+r2 else m)<60 then (if A+r2>m then A+r2 else m) else 60)=S/\m<=S/\S<=60:=⟨_,U,by repeat' split<;>lia,by split<;>lia⟩;rw [VC];clear VC;have R12:=kl ((C.trans L).trans EF);have GV:=R12.same (aV (o:=.tup [.int s,.int ((s+1+N) % n),.int m,.int S]) hp);have kA:=((M.trans C).trans L).trans EF;refine (kP GV.1 ?_ ?_)
     ·rw [az,GV.len];exact fe (by lia)
     ·refine ⟨_,_,_,_,_,T++[x3],rows++[[s,(s+1+N) % n,m,S]],U,GV.push ai,by rw [iD,pS];rfl,λr g=>?_,?_,?_,?_⟩
      ·rcases jj.mp g with q | q
       ·exact aA r q
       ·rw [ig.mp q];exact ⟨_,_,_,_,U,Bc,Mz,Vh,ho2,ho3,le1,mo1,mo2⟩
      ·rw [ah T9,ah (aK (av ((((C.trans L).trans EF)) _ _ t7 (B J)) hp).symm)];exact ((C.trans L).trans EF) _ _ t7 (B J)
      ·exact (Wu.new hp).upd GV.1 R
      ·exact nv (nv kA (kA.free hp Wu.there)) hl
   ·rintro j Y ⟨v1,v2,v3,v4,v5,T,rows,rfl,R7,pS,aA,_,O,M⟩;exact m1 _ _ (aa U (x5 l rows Y (zev pS hc) aA ⟨T,R7⟩ hl O M))
end
theorem a9 {l:List α} {m:List β} {i:Nat} {a:α} (h:Paired F l m) (e:l[i]?=some a):∃b,m[i]?=some b/\F a b:=by
 induction h generalizing i with
 | nil=>simp at e
 | cons r t f=>
  cases i with
  | zero=>simp at e;subst e;exact ⟨_,U,r⟩
  | succ i=>
   obtain ⟨b,c,d⟩:=f (i:=i) (by simpa using e);exact ⟨b,by simpa using c,d⟩
theorem d7.pP (x:d7 K sa H d) (k:bX l H H1) (b:H l=some (.lst xs)) (a:l≠d):d7 K sa H1 d:=by obtain ⟨⟨p,h⟩,⟨c,r⟩⟩:=x;exact ⟨⟨p,k _ _ h (aK a)⟩,⟨c,r.keep k b⟩⟩
theorem PL (a:bX d H H1) (b:bX l H1 H2) (f:H l=none):bX d H H2:=λc o e n=>b c o (a c o e n) (av e f)
theorem Ds (a:2<=n) (h0:0<=m):0<=gy m n t/\gy m n t<n:=by
 unfold gy;split
 ·lia
 ·have b:=Na (m-1+t) (show n-1≠0 by lia);have c:=Int.emod_lt_of_pos (m-1+t) (show 0<n-1 by exact De a);omega
theorem JI (b:2<=n) (h0:m≠0):0<gy m n t:=by unfold gy;rw [if_neg h0];have a:=Na (m-1+t) (show n-1≠0 by lia);omega
theorem Dx (d:2<=n) (g:0<=a) (h:a<n) (i:0<=b) (j:b<n) (k:0<=t) (l:t<n) (e:gy a n t=gy b n t):a=b:=by
 by_cases f:a=0
 ·by_cases c:b=0
  ·lia
  ·have:=JI (t:=t) d c;have z:gy a n t=0:=by unfold gy;rw [if_pos f]
   lia
 ·by_cases c:b=0
  ·have:=JI (t:=t) d f;have z:gy b n t=0:=by unfold gy;rw [if_pos c]
   lia
  ·unfold gy at e;rw [if_neg f,if_neg c,IJ (x:=a-1+t) (n:=n-1) (by lia) (by lia) (De d),IJ (x:=b-1+t) (n:=n-1) (by lia) (by lia) (De d)] at e
   revert e
   split<;>split<;>intro e<;>lia
def kH (n t:Int):List Int->List Int
 | [a,b,l,m]=>[gy a n t,gy b n t,l,m]
 | r=>r
def Ϟ (n:Int) (r:List Int):Prop:=∃a b l m:Int,r=[a,b,l,m]/\0<=a/\a<n/\0<b/\b<n/\a≠b/\1<=l/\l<=m/\m<=60
structure dn (n la:Int) (T F:List (List Int)):Prop where
 n1:1<=n
 n2:n<=8
 l1:1<=la
 l2:la<=60
 tl:T.length<=24
 fl:F.length<=7
 t:∀r∈T,t8 n r
 f:∀r∈F,Ϟ n r
 one:∀(i j:Nat) r r',F[i]?=some r->F[j]?=some r'->r[1]?=r'[1]?->i=j
 own:∀r∈F,∀r'∈F,r[0]?≠r'[1]?
theorem t8.K8 (c:2<=n) (u:0<=t) (v:t<n) (h:t8 n r):t8 n (kH n t r):=by obtain ⟨a,b,l,m,rfl,d,j,f,k,o,p,q,s⟩:=h;have g:=Ds (t:=t) c d;have i:=Ds (t:=t) c f;exact ⟨_,_,l,m,U,g.1,g.2,i.1,i.2,λe=>o (Dx c d j f k u v e),p,q,s⟩
theorem Xo {n la t:Int} {c:Nat} {T F:List (List Int)} (b:2<=n) (O:n<=8) (L:1<=la) (M:la<=60) (k:0<=t) (o:t<n) (H:∀r∈T,t8 n r) (W:T.length<=12) (X:(c:Int)<=n-1) (N:F.length=c) (G:vg n c F):
 dn n la (T.map (kH n t)) (F.map (kH n t)):=by
 have f:∀(i:Nat) r,(F.map (kH n t))[i]?=some r->∃a l m:Int,r=[gy a n t,gy (n-1-i) n t,l,m]/\i<c/\0<=a/\a<n-c/\1<=l/\l<=m/\m<=60:=λi r e=>by
  rw [dA] at e
  cases q:F[i]? with
  | none=>rw [q] at e;cases e
  | some v=>
   rw [q] at e;have h:i<c:=by rw [<-N];exact (eX.mp q).1
   obtain ⟨a,l,m,rfl,V⟩:=G i v q;cases e;exact ⟨a,l,m,U,h,V⟩
 have u:∀r,r∈F.map (kH n t)->∃i:Nat,(F.map (kH n t))[i]?=some r:=λr d=>tr.mp d;refine ⟨by exact fq b,O,L,M,by rw [az];lia,by rw [az];lia,λr d=>?_,λr d=>?_,λi j r p e s q=>?_,λr d p Q=>?_⟩
 ·obtain ⟨v,A,rfl⟩:=fY.mp d;exact (H v A).K8 b k o
 ·obtain ⟨i,e⟩:=u r d;obtain ⟨a,l,m,rfl,h,g,B,C,D,E⟩:=f i r e;have x:=Ds (t:=t) b g;have I:=Ds (m:=n-1-i) (t:=t) b (by lia);exact ⟨_,_,l,m,U,x.1,x.2,JI b (by lia),I.2,λz=>by
   have:=Dx b g (by lia) (by lia) (by lia) k o z;lia,C,D,E⟩
 ·obtain ⟨a,l,m,rfl,h,_⟩:=f i r e;obtain ⟨y,R,S,rfl,J,_⟩:=f j p s;have z:gy (n-1-i) n t=gy (n-1-j) n t:=by simpa using q
  have:=Dx b (by lia) (by lia) (by lia) (by lia) k o z;lia
 ·obtain ⟨i,e⟩:=u r d;obtain ⟨j,s⟩:=u p Q;obtain ⟨a,l,m,rfl,h,g,B,_⟩:=f i r e;obtain ⟨y,R,S,rfl,J,_⟩:=f j p s;intro q;have z:gy a n t=gy (n-1-j) n t:=by simpa using q
  have:=Dx b g (by lia) (by lia) (by lia) k o z;lia
theorem BJ.K8 (h:BJ wd rows) (k:vg n0 c rows):BJ wd (rows.map (kH n t)):=λz=>by obtain ⟨g,j⟩:=h z;refine ⟨by rw [az];exact g,λr o=>?_⟩;obtain ⟨d,b,rfl⟩:=fY.mp o;obtain ⟨i,e⟩:=tr.mp b;obtain ⟨a,l,m,f,_⟩:=k i d e;have:=j d b;subst f;exact this
def Tb (K:aO):Sp:=λi H Q _=>∃d h c b e,i=[.ref d,.int c,.int b,.int e]/\d7 K h H d/\2<=c/\c<=8/\1<=b/\b<=60/\1<=e/\e<=8/\
 ∀(p g f:Addr) n l T F a,a p=some (.tup [.int n,.int l,.ref g,.ref f])->fz a g T->fz a f F->dn n l T F->2<=n->n<=c->l<=b->d7 K h a d->bX d H a->g≠d->f≠d->BJ e F/\T.length<=12->Q (.ref p) a
section
noncomputable abbrev nW:List Str:=["_law_d","_law_most","_law_last","_law_wide","_law_many","_law_falls_here","_law_ties_here","_law_turn","_law_found","_law_rows"]
theorem uj:bR nW Ā (aF pz):=cD
noncomputable abbrev UD:List Str:=["_law_r","_law_many","_law_turn"]
theorem coW:hV (aF pz) nW (j4 [(".0",.local),("_law_r",.local),("_law_named",.globalImplicit),("_law_many",.free),("_law_turn",.free)]) UD [none,some 4,some 7]:=j7
theorem ZV:UD.Nodup:=by decide+kernel
theorem vS (F:Fn K mg "_law_web" pz Ā f fd)
 (FN:Fn K mg "_law_next" h_ iv fN kh) (GN:aq P w K mg base aw 1 fN kh iv (a8 K))
 (FM:Fn K mg "_law_named" jr ā fM Bg) (GM:aq P w K mg base aw 1 fM Bg ā P5)
 (FF:Fn K mg "_law_falls" jt ą fF sV) (GF:aq P w K mg base aw 2 fF sV ą (Pl K))
 (FT:Fn K mg "_law_ties" jS UQ fT mS) (GT:aq P w K mg base aw 2 fT mS UQ (NV K)):
 aq P w K mg base aw 3 f fd Ā (Tb K):=by
 refine F.F.cY uj λ_ x7 _ rE H _ x9 x8 h x5=>?_;obtain ⟨d,sa,mo,la,wd,rfl,x4,hm1,hm2,EL,EK,sL,yx,x6⟩:=x5;have S:cR 1 _:=h.mono (by decide);refine ⟨_,cv (ra (i:=4) uj.nd U (Or.inr U) (cu i5 a7 (cE GN S FN (bo (pv 0) (cu iH (pv 1) a7)))))
  (cv (cx 2 uj.nd (cu i5 a7 (cE GN S FN (bo (pv 0) (pv 2)))))
  (cv (cx 5 uj.nd (cE GF h FF (ia (pv 0) (pv 4) (pv 3))))
  (cv (cx 6 uj.nd (cE GT h FT (kQ (pv 0) (pv 4) (pv 2) (pv 3))))
  (cv (ra (i:=7) uj.nd U (Or.inr U) (cE GN S FN (bo (pv 0) (pv 4))))
  (cv (cx 8 uj.nd (iW oS))
  (cv (iJ ja U (gP (iW (bo (pv 6) (pv 5)))) (cf 9 uj.nd)
   (au (e_ (l9 md ma m_ lF (pv 8)
    (aY (oA U (gP (pv 9)) coW (λcl ex s0 H0=>⟨cf 0 ZV,rq,
     f9 (oU (cE GM S FM (ia (aE (pv 0)) (pv 1) (pv 2)))
      (oU (cE GM S FM (ia (aE (pv 0)) (pv 1) (pv 2)))
      (bo (aE (pv 0)) (aE (pv 0)))))⟩)))))))
  (au (cg (f9 (kQ (pv 4) (pv 2) (cV di (pv 8) a7) (cV di (pv 8) a7))))))))))),?_⟩
 refine (aa U (aa U (ri (iu x4 (by lia) (λc H1 J Mz D1 k1=>(ri ?_))))));refine (aa U (aa U (iu D1 (JB EL) (λr2 H2 yD V5 D2 k2=>(ri ?_)))));refine (aa U (aa U (aa U ⟨d,sa,_,_,U,D2,lE J,by lia,sL,yx,λk m8 F0 H3 hc AO Ml RF AL D3 k3 pZ=>?_⟩)));refine (aa U (aa U (aa U (aa U ⟨d,sa,_,_,_,U,D3,lE J,by lia,lE yD,by lia,sL,yx,λs T0 H4 A_ Vx RT wq D4 k4=>?_⟩))));refine (aa U (aa U (iu D4 (by lia) (λt H5 hta uw W k5=>?_))));have fld:k≠d:=λe=>by subst e;obtain ⟨o,q⟩:=D2.there;rw [AL] at q;cases q
 have DW:s≠d:=λe=>by subst e;obtain ⟨o,q⟩:=D3.there;rw [wq] at q;cases q
 have Wi:fz H5 k F0:=by obtain ⟨p,e⟩:=D3.at_;exact RF.keep (k4.trans k5) e fld
 have Wh:fz H5 s T0:=by obtain ⟨p,e⟩:=D4.at_;exact RT.keep k5 e DW
 have kA:bX d H H5:=(((k1.trans k2).trans k3).trans k4).trans k5;refine ⟨dZ _,λfo z=>?_⟩;have M7:fo≠d:=λe=>by subst e;obtain ⟨o,q⟩:=W.there;rw [z] at q;cases q
 have wG:H fo=none:=kA.free z W.there;have RF6:=Wi.same (aV (o:=.lst []) z);have RT6:=Wh.same (aV (o:=.lst []) z);have An:s≠fo:=by obtain ⟨y,e,_⟩:=Wh;exact av e z
 have Be:k≠fo:=by obtain ⟨y,e,_⟩:=Wi;exact av e z
 refine (aa U (aa U ⟨eH U,λB M=>⟨B,U,⟨_,ar.of ai⟩,?_⟩⟩));have wc:B≠fo:=aK (av (ai (H:=H5) (a:=fo) (o:=.lst [])) M);have LH:H5 B=none:=by rw [ah wc] at M;exact M
 have LI:H B=none:=kA.free LH W.there;generalize L:upd (upd H5 fo (.lst [])) B (.lst [V.ref s,V.ref k])=H7;have G:H7 fo=some (.lst []):=by rw [<-L,ah (aK wc),ai]
 have e7l:H7 B=some (.lst [V.ref s,V.ref k]):=by rw [<-L,ai]
 have RF7:fz H7 k F0:=by rw [<-L];exact RF6.same (aV M)
 have RT7:fz H7 s T0:=by rw [<-L];exact RT6.same (aV M)
 have D7:d7 K sa H7 d:=by rw [<-L];exact (W.new z).new M
 have k7:bX d H H7:=by rw [<-L];exact nv (nv kA wG) LI
 refine lD (K:=K) (a:=B) (xs:=[V.ref s,V.ref k]) (λi u D=>∃v x,u=[some (.ref d),some (.int mo),some (.int (1+r2)),some (.int wd),some (.int (2+c)),some (.ref k),some (.ref s),some (.int t),some (.ref fo),v]/\
  D fo=some (.lst (x.map V.ref))/\Paired (λa rs=>fz D a rs/\a≠fo/\a≠d) x (([T0,F0].take i).map λR=>R.map (kH (2+c) t))/\bX fo H7 D) ⟨none,[],U,G,.nil,bX.refl fo H7⟩ ?_ ?_ ?_
 ·rintro i u E _ ⟨v,x,rfl,_,_,g⟩;exact ar.of (g _ _ e7l wc)
 ·rintro i x3 u E A ⟨v,x,rfl,I,N,g⟩;obtain ⟨O,R0,rfl,RA,_,htk,hsh,Vi⟩:∃O R0,x3=.ref O/\fz E O R0/\O≠fo/\(([T0,F0].take (i+1)).map λR=>R.map (kH (2+c) t))=(([T0,F0].take i).map λR=>R.map (kH (2+c) t))++[R0.map (kH (2+c) t)]/\
   (∀r∈R0,∃a b l m:Int,r=[a,b,l,m])/\R0.length<=12:=by
   match i,A with
   | 0,A=>
    cases A;exact ⟨s,T0,U,RT7.keep g G An,An,U,λr h=>by
     obtain ⟨a,b,l,m,e,_⟩:=Vx r h;exact ⟨a,b,l,m,e⟩,A_⟩
   | 1,A=>
    cases A;exact ⟨k,F0,U,RF7.keep g G Be,Be,U,λr h=>by
     obtain ⟨i,e⟩:=tr.mp h;obtain ⟨a,l,m,e,_⟩:=Ml i r e;exact ⟨a,_,l,m,e⟩,by lia⟩
   | i+2,A=>cases A
  obtain ⟨KC,Z⟩:=RA;refine (aa U ⟨.inl ⟨U,_,ar.of I⟩,?_⟩);refine (aa U ⟨O,U,⟨_,ar.of Z.1⟩,λC jG=>?_⟩);refine nt (xs:=KC.map V.ref) (λj u D=>∃v y,u=[v,some (.int (2+c)),some (.int t)]/\gx D C y ((R0.take j).map (kH (2+c) t))/\a0 E D) ?_ ?_ ?_ ?_
  ·exact ⟨none,[],U,⟨ai,.nil⟩,aV jG⟩
  ·rintro j u X _ ⟨v,y,rfl,_,n⟩;exact ar.of (n _ _ Z.1)
  ·rintro j x3 u X T ⟨v,y,rfl,Y,n⟩;rw [dA] at T
   cases hq:KC[j]? with
   | none=>rw [hq] at T;cases T
   | some q=>
    rw [hq] at T;cases T;obtain ⟨r,h,ux⟩:=a9 Z.2 hq;obtain ⟨a,b,l,m,rfl⟩:=hsh r (eR h);have sO:=n _ _ ux;refine (aa U (aD sO U (aa U (aa U ⟨_,_,_,U,lE J,?_⟩))));refine (aa U (aD sO U (aa U (aa U ⟨_,_,_,U,lE J,?_⟩))));refine (aa U (aD sO U (aa U (aD sO U ⟨eH U,λp Q=>?_⟩))));have ND:=Y.same (aV (o:=.tup [.int (gy a (2+c) t),.int (gy b (2+c) t),.int l,.int m]) Q);have Mn:E C=none:=jG;refine ⟨_,ND.1,?_,_,y++[p],U,?_,λb o e=>?_⟩
    ·rw [az,ND.len,az,hG];exact fe (by lia)
    ·have hj:(R0.take (j+1)).map (kH (2+c) t)=(R0.take j).map (kH (2+c) t)++[[gy a (2+c) t,gy b (2+c) t,l,m]]:=by
      rw [jb,h,dN];rfl
     rw [hj];exact ND.push ai
    ·rw [ah (av e Mn),ah (av (n _ _ e) Q)];exact n _ _ e
  ·rintro u X ⟨v,y,rfl,Y,n⟩;have e9:=n _ _ I;refine (kP e9 ?_ ?_)
   ·rw [az,N.length,az,hG];exact fe (by simp;lia)
   ·have u7:C≠fo:=aK (av I jG);have Mm:C≠d:=λe=>by
     subst e;obtain ⟨p,q⟩:=(D7.pP g G M7).at_;rw [jG] at q;cases q
    have ku:bX fo X (upd X fo (.lst (x.map V.ref++[.ref C]))):=λb o e x1=>by rw [ah x1];exact e
    refine ⟨_,x++[C],U,by rw [ai,dN];rfl,?_,λb o e x1=>by rw [ah x1];exact n _ _ (g b o e x1)⟩;rw [htk];refine Fh (dM N λa rs x2=>⟨(x2.1.same n).keep ku e9 x2.2.1,x2.2⟩) ⟨?_,u7,Mm⟩;have hl:R0.take (KC.map V.ref).length=R0:=by rw [az,Z.len];exact hH
    rw [hl] at Y;exact fz.keep ⟨y,Y⟩ ku e9 u7
 ·rintro u E ⟨v,x,rfl,I,N,g⟩;have N:Paired (λa rs=>fz E a rs/\a≠fo/\a≠d) x [T0.map (kH (2+c) t),F0.map (kH (2+c) t)]:=N
  cases N with
  | @cons lt _ ls1 _ q1 pl9=>
   cases pl9 with
   | @cons lf _ ls2 _ q2 KD=>
    cases KD;refine (aa U (aa U (aa U (lG I U (aa U (lG I U ⟨eH U,λp Q=>?_⟩))))));have sm:=aV (o:=.tup [.int (2+c),.int (1+r2),.ref lt,.ref lf]) Q;exact x6 p lt lf _ _ _ _ _ ai (q1.1.same sm) (q2.1.same sm) (Xo (lE J) (by lia) (lE yD) (by lia) hta uw Vx A_ hc AO Ml) (lE J) (by lia) (by lia) ((D7.pP g G M7).same sm) (nv (PL k7 g wG) ((PL k7 g wG).free Q (D7.pP g G M7).there)) q1.2.2 q2.2.2 ⟨pZ.K8 Ml,by rw [az];exact A_⟩
end
end Y0
namespace L2
open PySem PySem.Spec PyProof.Rows
section
variable {K:aO}
theorem dO.ok1 {x d:Str} {st:Stmt} {f:Addr} {e:FuncData} {N c:List Str} {k:Nat} {sp:Sp} (F:dO K x d st f e) (S:bR N c (aF st)) (m:∀vs H Q E,sp vs H Q E->vs.length=c.length)
 (h:∀(a:Value) (A:Around) (b:List Env) (s:Shared) (H:Hp) (vs:List V) (Q:VK) (E:XK),cR k (A.deeper (envOfC d (aF st) s.heap.objs.size f a))->sp vs H Q E->
  ∃t,eS (lq (hI P w) P w K mg base N d (aF st) f a A b s H E) (lC st) t/\t { nx:=λ_ g=>Q .aG g,rt:=Q } (gp N vs) H):aq P w K mg base (hI P w) (k+1) f e c sp:=by
 obtain ⟨r,u,q,p,y,n,a,o,v,rfl,lk,i⟩:=F.ex;exact SS lk i S m λA b s H vs Q E j l=>h a A b s H vs Q E j l
theorem dO.sF {x b:Str} {st:Stmt} {f:Addr} {d:FuncData} {N a:List Str} {k:Nat} {sp:Sp} (F:dO K x b st f d) (S:bR N a (aF st)) (g:∀(c:Value) (A:Around) (j:List Env) (s:Shared) (H:Hp) (vs:List V) (Q:VK) (E:XK),cR k (A.deeper (envOfC b (aF st) s.heap.objs.size f c))->sp vs H Q E->
  ∃t,eS (lq (hI P w) P w K mg base N b (aF st) f c A j s H E) (lC st) t/\t { nx:=λ_ e=>Q .aG e,rt:=Q } (gp N vs) H) (i:autoParam (∀vs H Q E,sp vs H Q E->vs.length=a.length) t18._auto_1):aq P w K mg base (hI P w) (k+1) f d a sp:=F.ok1 S i g
end
theorem fu {c A B:Prop} [Decidable c] (a:c) (h:A):if decide c=true then A else B:=by rw [eO a];exact fv h
theorem gL {c A B:Prop} [Decidable c] (a:¬c) (h:B):if decide c=true then A else B:=by rw [eE a];exact dk h
theorem nq {Q:VK} {H:Hp} {b a:Bool} (k:Q (.bl b) H) (e:b=a):Q (.bl a) H:=e▸k
theorem rp:∀{ns:List Int},kR (.int a) (ns.map V.int)=decide (a∈ns)
 | []=>by simp [kR]
 | n::r=>by
  have b:=rp (a:=a) (ns:=r);unfold kR at b ⊢;rw [eN,yP,b];show ((n==a) || decide (a∈r))=decide (a∈n::r)
  by_cases e:n=a
  ·subst e;simp
  ·have:¬a=n:=λz=>e z.symm;simp [e,this]
theorem Dn:∀{ns:List Int},(ns.map V.int).all gn=true
 | []=>rfl
 | n::r=>by rw [eN,yO,Dn (ns:=r)];rfl
theorem Qj {a:Type} {xs:List a} {i:Nat} (h:i<=xs.length):(xs.drop (cn xs.length 0 none)).take (cn xs.length xs.length (some (i:Int))-cn xs.length 0 none)=xs.take i:=by rw [gE,fh,List.drop_zero,Nat.sub_zero,Nat.min_eq_left h]
end L2
namespace Y0
open PySem L2
seal kT i6 iA gd hQ il i9 i8 gm a8
structure kF (mg:Str->Option Value):Prop where
 mm:∃t,mg "MOST_MOMENTS"=some (.int 8 t)
 ll:∃t,mg "LATEST_LAST"=some (.int 60 t)
 ws:∃t,mg "WIDEST_SPAN"=some (.int 60 t)
 lf:∃t,mg "LONGEST_FALL"=some (.int 60 t)
 list:mg "list"=none
def Kl:Sp:=λc H Q _=>∃n a b,c=[.int n,.int a,.int b]/\Q (.bl (decide (0<=a/\a<n/\0<=b/\b<n/\a≠b))) H
def NR:Sp:=λb H Q _=>∃n a,b=[.int n,.int a]/\1<=n/\n<=8/\1<=a/\a<=60/\Q .aG H
def P2:Sp:=λb H Q _=>∃n a T,b=[.int n,.ref a]/\fz H a T/\(∀r∈T,t8 n r)/\Q .aG H
def Qx:Sp:=λd H Q _=>∃n a c T F,d=[.int n,.ref a]/\fz H a F/\dn n c T F/\∀b,a0 H b->Q .aG b
section
theorem sc2:bR ć ć (aF aN):=cD
theorem vT {f:Addr} {c:FuncData} (F:Fn K mg "are_two_moments" aN ć f c):aq P w K mg base aw 1 f c ć Kl:=by
 refine F.F.cY sc2 λ_ A _ s H _ Q E l h=>?_;obtain ⟨n,a,b,rfl,k⟩:=h;refine ⟨_,au (cg (qZ (H_ jN tF a7 (pv 1) (pv 0)) (qZ (H_ jN tF a7 (pv 2) (pv 0)) (q_ (jJ BS (pv 1) (pv 2)))))),?_⟩;refine (aa U (ri ⟨_,U,mi (λd=>(aa U (ri ⟨_,U,mi (λg=>(aa U (ri ⟨_,U,mi (λi=>(aa U (ri ⟨_,U,mi (λj=>(aa U (aa U ⟨U,?_⟩))) (λj=>?_)⟩))) (λi=>⟨false,U,dk ?_⟩)⟩))) (λg=>?_)⟩))) (λd=>⟨false,U,dk ?_⟩)⟩))
 all_goals simp only [j9] at*
 ·refine nq (Q:=Q) k ?_
  by_cases e:a=b
  ·subst e;simp
  ·simp [e];lia
 all_goals (refine nq (Q:=Q) k (eE λz=>?_);omega)
theorem scS:bR ę ę (aF bJ):=cD
theorem r_ (F:Fn K mg "look_over_size" bJ ę f fd) (T:kF mg):aq P w K mg base aw 1 f fd ę NR:=by obtain ⟨l,c⟩:=T.mm;obtain ⟨m,d⟩:=T.ll;refine F.F.cY scS λ_ A _ s H _ Q E i h=>?_;obtain ⟨n,j,rfl,e,g,a,b,k⟩:=h;refine ⟨_,cv (dr (rb (Iz jN jN a7 (pv 0) (oV (v:=.int 8) U c ⟨_,U⟩))) vr d8) (au (dr (rb (Iz jN jN a7 (pv 1) (oV (v:=.int 60) U d ⟨_,U⟩))) vr d8)),?_⟩;refine (aa U (ri ⟨_,U,fu e (ri (ct (qW g ?_)))⟩));exact (aa U (ri ⟨_,U,fu a (ri (ct (qW b k)))⟩))
noncomputable abbrev nLT:List Str:=["many","ties","at","one","other","least","most"]
theorem vD:bR nLT Ġ (aF bC):=cD
theorem pF (F:Fn K mg "look_over_ties" bC Ġ f fd) (T:kF mg) (t:Fn K mg "are_two_moments" aN ć f2 I)
 (u:aq P w K mg base aw 1 f2 I ć Kl):aq P w K mg base aw 2 f fd Ġ P2:=by
 obtain ⟨t1,p⟩:=T.ws;refine F.F.cY vD λ_ A _ x1 H _ Q E X h=>?_;obtain ⟨n,a,Z,rfl,⟨s,R⟩,S,k⟩:=h;refine ⟨_,cv (cx 2 vD.nd a7) (au (iJ ja U (gP (pv 1))
  (uX U (g9 (cf 3 vD.nd) (g9 (cf 4 vD.nd) (g9 (cf 5 vD.nd) (g9 (cf 6 vD.nd) tQ)))))
  (cv (dr (rb (qx (cE u X t (ia (pv 0) (pv 3) (pv 4))))) vr d8)
  (cv (dr (rb (QT jN jN jN (uV uY (oV (v:=.int 60) U p ⟨_,U⟩)) (pv 5) (pv 6) (oV (v:=.int 60) U p ⟨_,U⟩))) vr d8)
  (au (Hz (i:=2) vD.nd U (Or.inl U) a7 Hq)))))),?_⟩
 refine (aa U ⟨a,U,⟨_,ar.of R.1⟩,lD (K:=K) (a:=a) (xs:=s.map V.ref) (λ_ o c=>∃z d e g j,o=[some (.int n),some (.ref a),some (.int z),d,e,g,j]/\c=H) ⟨0,none,none,none,none,U,U⟩ ?_ ?_ ?_⟩)
 ·rintro i o c _ ⟨z,d,e,g,j,rfl,rfl⟩;exact ar.of R.1
 ·rintro i x2 o c b ⟨z,d,e,g,j,rfl,rfl⟩;rw [dA] at b
  cases C:s[i]? with
  | none=>rw [C] at b;cases b
  | some q=>
   rw [C] at b;cases b;obtain ⟨r,Y,W⟩:=a9 R.2 C;obtain ⟨x,y,l,m,rfl,B,D,G,J,L,M,N,O⟩:=S r (eR Y);refine ⟨q,_,U,dB.of W,U,_,_,U,_,_,U,_,_,U,_,_,U,U,?_⟩;refine (aa U (aa U (aa U ⟨n,x,y,U,_,U,qW ⟨B,D,G,J,L⟩ ?_⟩)));refine ⟨_,U,aa U (ri ⟨_,U,fu (JB M) (aa U (ri ⟨_,U,fu N (ri (ct (qW O ?_)))⟩))⟩)⟩;exact ⟨_,U,_,_,U,U,_,_,_,_,_,U,U⟩
 ·rintro o c ⟨z,d,e,g,j,rfl,rfl⟩;exact k
end
end Y0
namespace L2
open PySem PySem.Spec PyProof.Rows
theorem gU {b:Bool} {A B:Prop} (e:b=false) (h:B):if b=true then A else B:=by rw [e];exact dk h
theorem jM {b:Bool} {A B:Prop} (e:b=true) (h:A):if b=true then A else B:=by rw [e];exact fv h
theorem C4 (f:Str) (v:V):∀fs:List (Str×V),(aj f v fs).length<=fs.length+1
 | []=>ay _
 | (g,x)::r=>by
  unfold aj;split
  ·exact lb _
  ·exact Nat.succ_le_succ (C4 f v r)
theorem gx.get {rows:List (List Int)} (R:gx H a ps rows) {i:Nat} (b:(ps.map V.ref)[i]?=some x):∃q r,x=.ref q/\ps[i]?=some q/\rows[i]?=some r/\H q=some (.tup (r.map V.int)):=by
 rw [dA] at b
 cases C:ps[i]? with
 | none=>rw [C] at b;cases b
 | some q=>
  rw [C] at b;cases b;obtain ⟨r,d,c⟩:=Y0.a9 R.2 C;exact ⟨q,r,U,U,d,c⟩
end L2
namespace Y0
open PySem L2
seal kT i6 iA gd hQ il i9 i8 gm a8
def oN (r:List Int):Int:=r.getD 1 0
structure o1 (K:aO) (mg:Str->Option Value) (C:Addr):Prop where
 cl:mf K C
 nM:i4 K C "many"
 nL:i4 K C "last"
 nT:i4 K C "told_ties"
 nF:i4 K C "told_falls"
 qF:mg "Web"=some (.ref C)
def nj (n la:Int) (b a:Addr):List (Str×V):=aj "told_falls" (.ref a) (aj "told_ties" (.ref b) (aj "last" (.int la) (aj "many" (.int n) [])))
theorem k1:¬(("many":Str)="told_falls"):=by decide+kernel
theorem k2:¬(("many":Str)="told_ties"):=by decide+kernel
theorem k3:¬(("many":Str)="last"):=by decide+kernel
theorem k4:¬(("last":Str)="told_falls"):=by decide+kernel
theorem k5:¬(("last":Str)="told_ties"):=by decide+kernel
theorem k6:¬(("told_ties":Str)="told_falls"):=by decide+kernel
theorem Cc (n la:Int) (b a:Addr):(nj n la b a).lookup ("many":Str)=some (.int n):=by unfold nj;rw [kN,if_neg k1,kN,if_neg k2,kN,if_neg k3,kN,if_pos rfl]
theorem ϸ (n la:Int) (b a:Addr):(nj n la b a).lookup ("last":Str)=some (.int la):=by unfold nj;rw [kN,if_neg k4,kN,if_neg k5,kN,if_pos rfl]
theorem Ϲ (n la:Int) (a b:Addr):(nj n la a b).lookup ("told_ties":Str)=some (.ref a):=by unfold nj;rw [kN,if_neg k6,kN,if_pos rfl]
theorem Py (n la:Int) (b a:Addr):(nj n la b a).lookup ("told_falls":Str)=some (.ref a):=by unfold nj;rw [kN,if_pos rfl]
theorem DR (n la:Int) (f a:Addr) {m:Str} (b:¬m="told_falls") (c:¬m="told_ties") (d:¬m="last") (e:¬m="many"):(nj n la f a).lookup m=none:=by
 unfold nj;rw [kN,if_neg b,kN,if_neg c,kN,if_neg d,kN,if_neg e]
 all_goals rfl
def jK (C:Addr) (H:Hp) (p:Addr) (n la:Int) (T F:List (List Int)):Prop:=∃c b a,H p=some (.ins C c (nj n la b a))/\fz H b T/\fz H a F
theorem jK.same (h:jK C H p n la T F) (k:a0 H H'):jK C H' p n la T F:=by obtain ⟨a,f,b,e,c,d⟩:=h;exact ⟨a,f,b,k _ _ e,c.same k,d.same k⟩
def OC (C:Addr):Sp:=λf H Q _=>∃p e n d a b T F,f=[.ref p,.int n,.int d,.ref a,.ref b]/\H p=some (.ins C e [])/\fz H a T/\fz H b F/\dn n d T F/\
 ∀c,jK C c p n d T F->bX p H c->Q .aG c
def zq (C:Addr) (g:List (List Int)->List (List Int)->List (List Int)):Sp:=λc H Q _=>∃p n b T F,c=[.ref p]/\jK C H p n b T F/\∀l a,H l=none->a0 H a->fz a l (g T F)->Q (.ref l) a
section
noncomputable abbrev UG:List Str:=["many","falls","ends","at","one","other","least","most"]
theorem ua:bR UG Ğ (aF aL):=cD
theorem ZF:hV (aF aL) UG (j4 [(".0",.local),("fall",.local)]) ["fall"] [none]:=j7
theorem UC:([x]:List Str).Nodup:=by simp
theorem nI (F:Fn K mg "look_over_falls" aL Ğ f fd) (T:kF mg) (Q:Fn K mg "are_two_moments" aN ć f2 fd2)
 (S:aq P w K mg base aw 1 f2 fd2 ć Kl):aq P w K mg base aw 2 f fd Ğ Qx:=by
 obtain ⟨t1,m1⟩:=T.lf;refine F.F.cY ua λ_ x6 _ rE H _ x8 x7 hr h=>?_;obtain ⟨n,a,la,TT,rows,rfl,⟨L,R⟩,c,x1⟩:=h;refine ⟨_,cv (vd (i:=2) ua.nd U U U (gP (pv 1)) ZF (λcl ex s0 H0=>⟨cf 0 UC,rq,aE (pv 0)⟩))
  (cv (cx 3 ua.nd a7) (au (iJ ja U (gP (pv 1))
  (uX U (g9 (cf 4 ua.nd) (g9 (cf 5 ua.nd) (g9 (cf 6 ua.nd) (g9 (cf 7 ua.nd) tQ)))))
  (cv (dr (PW.pt (o6 (rb (qx (cE S hr Q (ia (pv 0) (pv 4) (pv 5))))) (rf (xO Dk (pv 4) (pv 2) (by with_unfolding_all rfl))))) vr d8)
  (cv (dr (PW.pt (o6 (cG fy (pv 5) a7) (rf (xO Dk (pv 5) (xS Ph (pv 2) xM (xN (pv 3))) (by with_unfolding_all rfl))))) vr d8)
  (cv (dr (rb (QT jN jN jN a7 (pv 6) (pv 7) (oV (v:=.int 60) U m1 ⟨_,U⟩))) vr d8)
  (au (Hz (i:=3) ua.nd U (Or.inl U) a7 Hq)))))))),?_⟩
 refine (aa U ⟨a,U,⟨_,ar.of R.1⟩,λs N=>?_⟩);refine nt (xs:=L.map V.ref) (λj b m=>∃v,b=[v]/\m s=some (.lst (((rows.take j).map oN).map V.int))/\a0 H m) ?_ ?_ ?_ ?_
 ·exact ⟨none,U,ai,aV N⟩
 ·rintro j b C _ ⟨v,rfl,_,k⟩;exact ar.of (k _ _ R.1)
 ·rintro j x5 b C J ⟨v,rfl,t,k⟩;obtain ⟨q,r,rfl,_,d,I⟩:=R.get J;obtain ⟨a',b',x2,x3,rfl,_⟩:=c.f r (eR d);refine (aa U (aD (k _ _ I) U ⟨_,t,?_,_,U,?_,λx9 m8 e=>?_⟩))
  ·rw [az,az,hG];have:=c.fl;exact fe (by lia)
  ·rw [ai,jb,d,dN,dN];rfl
  ·rw [ah (av e N)];exact k _ _ e
 ·rintro b C ⟨v,rfl,t,k⟩;have hl:rows.take (L.map V.ref).length=rows:=by
   rw [az,R.len];exact hH
  rw [hl] at t;have D:=R.same k;refine (aa U ⟨a,U,⟨_,ar.of D.1⟩,lD (K:=K) (a:=a) (xs:=L.map V.ref) (λi b m=>∃z x y A B,z=(i:Int)/\b=[some (.int n),some (.ref a),some (.ref s),some (.int z),x,y,A,B]/\a0 C m) ⟨0,none,none,none,none,U,U,a0.refl _⟩ ?_ ?_ ?_⟩)
  ·rintro i b m _ ⟨z,x,y,A,B,_,rfl,l⟩;exact ar.of (l _ _ D.1)
  ·rintro i x5 b H2 J ⟨z,x,y,A,B,rfl,rfl,l⟩;have W:=D.same l;obtain ⟨q,r,rfl,_,d,I⟩:=W.get J;have O:=eR d;obtain ⟨a',b',x2,x3,Y,h1,h2,h3,h4,h5,h6,h7,h8⟩:=c.f r O;subst Y;have M:=l _ _ t;refine ⟨q,_,U,dB.of I,U,_,_,U,_,_,U,_,_,U,_,_,U,U,?_⟩;refine (aa U (aa U (aa U ⟨n,a',b',U,_,U,qW ⟨h1,h2,by exact fq h3,h4,h5⟩ ?_⟩)));refine (aa U (aa U ⟨s,_,U,.inl (ar.of M),U,Dn,ct (gU ?_ ?_)⟩))
   ·show kR _ _=false;rw [rp];refine eE λz=>?_;obtain ⟨u,g,e⟩:=fY.mp z;obtain ⟨X,p,l2,m2,E,_⟩:=c.f u g;subst E;refine c.own _ O _ g ?_;have G:p=a':=e;show some a'=some p;rw [G]
   ·refine (aa U ⟨U,ct (gL (by intro z;have:=V.int.inj z;lia) ?_)⟩);refine (aa U (aa U (aa U ⟨_,U,s,_,U,ar.of M,λx4 hp=>⟨x4,_,U,.inl (ar.of ai),U,?_,ct (gU ?_ ?_)⟩⟩)))
    ·unfold kG;rw [Qj (by rw [az,az];exact bf (eX.mp d).1),<-List.map_take];exact Dn
    ·show kR _ _=false;unfold kG;rw [Qj (by rw [az,az];exact bf (eX.mp d).1),<-List.map_take,rp];refine eE λz=>?_;obtain ⟨j,o⟩:=tr.mp z;have hji:j<i:=by
      have:=(eX.mp o).1;rw [hG] at this;exact IZ this
     rw [FZ hji,dA] at o
     cases g:rows[j]? with
     | none=>rw [g] at o;cases o
     | some u=>
      rw [g] at o;have e:oN u=b':=ft o;obtain ⟨X,p,l2,m2,E,_⟩:=c.f u (eR g);subst E;have G:p=b':=e;have:=c.one j i _ _ g d (by show some p=some b';rw [G]);lia
    ·refine (aa U (ri ⟨_,U,fu h6 (aa U (ri ⟨_,U,fu h7 (ri (ct (qW h8 ?_)))⟩))⟩));exact ⟨_,U,_,_,U,U,_,_,_,_,_,(by show (i:Int)+1=_;lia),U,l.trans (aV hp)⟩
  ·rintro b m ⟨z,x,y,A,B,_,rfl,l⟩;exact x1 _ (k.trans l)
theorem scI:bR Ą Ą (aF eV):=cD
theorem sv (F:dO K "__init__" "Web.__init__" eV f fd) (T:kF mg) (d:o1 K mg C)
 (W:Fn K mg "look_over_size" bJ ę fS M9) (Z:aq P w K mg base aw 1 fS M9 ę NR)
 (X:Fn K mg "look_over_ties" bC Ġ fT mS) (GT:aq P w K mg base aw 2 fT mS Ġ P2)
 (S:Fn K mg "look_over_falls" aL Ğ fF sV) (Y:aq P w K mg base aw 2 fF sV Ğ Qx):
 aq P w K mg base aw 3 f fd Ą (OC C):=by
 refine F.cY scI λ_ x4 _ x8 x6 _ x7 x5 B x1=>?_;obtain ⟨p,k,n,j,a,b,Q,rF,rfl,hp,J,I,i,x2⟩:=x1;have g_:cR 1 _:=B.mono (by decide);refine ⟨_,cv (e_ (cE Z g_ W (bo (pv 1) (pv 2))))
  (cv (e_ (cE GT B X (bo (pv 1) (pv 3))))
  (cv (e_ (cE Y B S (bo (pv 1) (pv 4))))
  (cv (kL (pv 0) (pv 1) U) (cv (kL (pv 0) (pv 2) U)
  (cv (kL (pv 0) (pe rD (by rfl) T.list (by decide+kernel) (aY (pv 3))) U)
  (au (kL (pv 0) (pe rD (by rfl) T.list (by decide+kernel) (aY (pv 4))) U))))))),?_⟩
 refine (aa U (aa U ⟨n,j,U,i.n1,i.n2,i.l1,i.l2,?_⟩));refine (aa U (aa U ⟨n,a,Q,U,J,i.t,?_⟩));refine (aa U (aa U ⟨n,b,j,Q,rF,U,I,i,λc t=>?_⟩));have A:=t _ _ hp;have RT1:=J.same t;have RF1:=I.same t;obtain ⟨H,u⟩:=RT1;obtain ⟨O,v⟩:=RF1;refine (aa U (aa U (kO A d.cl d.nM (by show 0<1000;decide) ?_)));refine (aa U (aa U (kO ai d.cl d.nL (by show 1<1000;decide) ?_)));rw [HU];have M:∀{x:Addr} {l:List V},c x=some (.lst l)->x≠p:=λ{x l} e=>aI e A nofun;refine (aa U ⟨a,_,U,.inl (ar.of (by rw [ah (M u.1)];exact u.1)),λl1 z=>?_⟩);have s:l1≠p:=aK (av ai z);have LM:c l1=none:=by rw [ah s] at z;exact z
 refine (aa U (kO (by rw [ah (aK s),ai]) d.cl d.nT (ot (C4 _ _ _) (by show 2<1000;decide)) ?_));generalize y:upd (upd (upd c p (.ins C k (aj "last" (.int j) (aj "many" (.int n) [])))) l1 (.lst (H.map V.ref))) p (.ins C k (aj "told_ties" (.ref l1) (aj "last" (.int j) (aj "many" (.int n) []))))=H2;have D:bX p c H2:=λx o e h=>by rw [<-y,ah h,ah (av e LM),ah h];exact e
 have N:H2 p=some (.ins C k (aj "told_ties" (.ref l1) (aj "last" (.int j) (aj "many" (.int n) [])))):=by rw [<-y,ai]
 have L:H2 l1=some (.lst (H.map V.ref)):=by rw [<-y,ah s,ai]
 refine (aa U ⟨b,_,U,.inl (ar.of (D _ _ v.1 (M v.1))),λg r=>?_⟩);have G:g≠p:=aK (av N r);have l31:g≠l1:=aK (av L r);have LL:c g=none:=by
  cases q:c g with
  | none=>rfl
  | some o=>rw [D _ _ q G] at r;cases r
 refine (aa U (kO (by rw [ah (aK G)];exact N) d.cl d.nF (ot (C4 _ _ _) (ot (Nat.succ_le_succ (C4 _ _ _)) (by show 3<1000;decide))) ?_));generalize m:upd (upd H2 g (.lst (O.map V.ref))) p (.ins C k (aj "told_falls" (.ref g) (aj "told_ties" (.ref l1) (aj "last" (.int j) (aj "many" (.int n) [])))))=H4;have E:bX p c H4:=λx o e h=>by rw [<-m,ah h,ah (av e LL)];exact D _ _ e h
 have R:∀{x:Addr} {l:List V},c x=some (.tup l)->x≠p:=λ{x l} e=>aI e A nofun;refine x2 H4 ⟨k,l1,g,by rw [<-m,ai];rfl,⟨H,?_,dM u.2 λx x3 e=>E _ _ e (R e)⟩,⟨O,?_,dM v.2 λx x3 e=>E _ _ e (R e)⟩⟩ (λx o e h=>E _ _ (t _ _ e) h)
 ·rw [<-m,ah s,ah (aK l31)];exact L
 ·rw [<-m,ah G,ai]
theorem Å:bR xv xv (aF eU):=cD
theorem Æ:bR xv xv (aF ew):=cD
theorem pD (F:dO K "ties" "Web.ties" eU f fd) (T:kF mg) (b:o1 K mg C):aq P w K mg base aw 1 f fd xv (zq C λT _=>T):=by refine F.cY Å λ_ A _ s H _ Q E j h=>?_;obtain ⟨p,n,m,q,o,rfl,⟨g,e,i,c,⟨d,R⟩,_⟩,k⟩:=h;refine ⟨_,au (cg (pe rD (by rfl) T.list (by decide+kernel) (aY (cI (pv 0) U)))),?_⟩;refine (aa U (cb c b.cl b.nT (Ϲ _ _ _ _) ⟨e,_,U,.inl (ar.of R.1),λl a=>?_⟩));exact k l _ a (aV a) ⟨d,ai,(R.same (aV a)).2⟩
theorem nU (F:dO K "falls" "Web.falls" ew f fd) (T:kF mg) (b:o1 K mg C):aq P w K mg base aw 1 f fd xv (zq C λ_ F=>F):=by refine F.cY Æ λ_ A _ s H _ Q E i h=>?_;obtain ⟨p,n,j,o,m,rfl,⟨g,q,c,d,_,⟨e,R⟩⟩,k⟩:=h;refine ⟨_,au (cg (pe rD (by rfl) T.list (by decide+kernel) (aY (cI (pv 0) U)))),?_⟩;refine (aa U (cb d b.cl b.nF (Py _ _ _ _) ⟨c,_,U,.inl (ar.of R.1),λl a=>?_⟩));exact k l _ a (aV a) ⟨e,ai,(R.same (aV a)).2⟩
end
end Y0
namespace L2
open PySem PySem.Spec PyProof.Rows
theorem yi {l a:List α} {m b:List β} (h:Paired F l m) (h':Paired F a b):Paired F (l++a) (m++b):=by
 induction h with
 | nil=>exact h'
 | cons r t c=>exact .cons r c
theorem gx.cat (d:gx H a ps r) (e:gx H b qs s) (c:H p=none):gx (upd H p (.lst (ps.map V.ref++qs.map V.ref))) p (ps++qs) (r++s):=
 ⟨by rw [ai,dN],yi (d.same (aV c)).2 (e.same (aV c)).2⟩
theorem gx.more (h:gx H l ps rows) (s:a0 C H) (c:C l=none) (a:H p=none):
 gx (upd (upd H p (.tup (r.map V.int))) l (.lst (ps.map V.ref++[.ref p]))) l (ps++[p]) (rows++[r])/\a0 C (upd (upd H p (.tup (r.map V.int))) l (.lst (ps.map V.ref++[.ref p])))/\upd H p (.tup (r.map V.int)) l=some (.lst (ps.map V.ref)):=by
 have R:=h.same (aV (o:=.tup (r.map V.int)) a);refine ⟨R.push ai,λb o e=>?_,R.1⟩;rw [ah (av e c),ah (av (s _ _ e) a)];exact s _ _ e
end L2
namespace Y0
open PySem L2
seal kT i6 iA gd hQ il i9 i8 gm a8
def nr (la:Int):Nat->List (List Int)
 | 0=>[]
 | k+1=>nr la k++[[0,(k:Int)+1,la],[(k:Int)+1,0,0]]
theorem zU (la:Int):∀k,(nr la k).length=2*k
 | 0=>rfl
 | k+1=>by unfold nr;rw [iD,zU la k];rfl
def ý:List Int->List (List Int)
 | [a,b,l,m]=>[[a,b,m],[b,a,-l]]
 | _=>[]
noncomputable def o7 (rows:List (List Int)):List (List Int):=(rows.map ý).flatten
def yk (rows:List (List Int)):Prop:=∀r∈rows,∃a b l m:Int,r=[a,b,l,m]
theorem yd:∀{rows:List (List Int)},yk rows->(o7 rows).length=2*rows.length
 | [],_=>rfl
 | r::t,h=>by obtain ⟨a,b,l,m,rfl⟩:=h _ gw;have c:=yd (rows:=t) λr d=>h r (iO _ d);unfold o7 at c ⊢;rw [eN,yS,iD,c,ji];show 2+2*t.length=2*(t.length+1);lia
theorem dn.uC (h:dn n la T F):yk T:=λr c=>by obtain ⟨a,b,l,m,e,_⟩:=h.t r c;exact ⟨a,b,l,m,e⟩
theorem dn.pY (h:dn n la T F):yk F:=λr c=>by obtain ⟨a,b,l,m,e,_⟩:=h.f r c;exact ⟨a,b,l,m,e⟩
def jC (n la:Int) (T F:List (List Int)):List (List Int):=nr la (n-1).toNat++o7 T++o7 F
structure Z5 (mg:Str->Option Value):Prop where
 range:mg "range"=none
def OJ (C:Addr):Sp:=λc H Q _=>∃p n b T F,c=[.ref p]/\jK C H p n b T F/\1<=n/\n<=8/\∀l a,H l=none->a0 H a->fz a l (nr b (n-1).toNat)->Q (.ref l) a
def NT:Sp:=λd H Q _=>∃a b,d=[.ref a]/\fz H a b/\yk b/\b.length<=100/\∀l c,H l=none->a0 H c->fz c l (o7 b)->Q (.ref l) c
def NY (C:Addr):Sp:=λe H Q _=>∃p a n d T F b,e=[.ref p,.ref a]/\jK C H p n d T F/\dn n d T F/\fz H a b/\yk b/\b.length<=100/\∀l c,H l=none->a0 H c->fz c l (jC n d b F)->Q (.ref l) c
def NW (C:Addr):Sp:=λc H Q _=>∃p n b T F,c=[.ref p]/\jK C H p n b T F/\dn n b T F/\∀l a,H l=none->a0 H a->fz a l (jC n b T F)->Q (.ref l) a
section
theorem Ka:bR ["web","bounds","moment"] Ċ (aF c7):=cD
theorem sd (F:Fn K mg "room_bounds" c7 Ċ f fd) (T:Z5 mg) (d:o1 K mg C):aq P w K mg base aw 1 f fd Ċ (OJ C):=by
 refine F.F.cY Ka λ_ A _ x1 H _ Q E X h=>?_;obtain ⟨p,n,b,rT,rF,rfl,⟨R,ta,S,u,_,_⟩,Y,Z,k⟩:=h;refine ⟨_,cv (cx 1 Ka.nd (iW oS))
  (cv (iJ ja U (Yl U T.range (bo a7 (cI (pv 0) U))) (cf 2 Ka.nd)
   (cv (e_ (l9 md ma m_ lF (pv 1) (aY (f9 (ia a7 (pv 2) (cI (pv 0) U))))))
   (au (e_ (l9 md ma m_ lF (pv 1) (aY (f9 (ia (pv 2) a7 a7))))))))
  (au (cg (pv 1)))),?_⟩
 refine ⟨dZ _,λl g=>?_⟩;have x:=aV (o:=.lst []) g;refine (aa U (cb (x _ _ u) d.cl d.nM (Cc _ _ _ _) ⟨1,n,U,⟨by decide,by decide,by lia,by lia⟩,?_⟩));refine zX (n:=(n-1).toNat) (λi s t=>∃v c,s=[some (.ref p),some (.ref l),v]/\gx t l c (nr b i)/\a0 H t) ⟨none,[],U,⟨ai,.nil⟩,x⟩ ?_ ?_
 ·rintro i s z V ⟨v,c,rfl,a,m⟩;have y:∀j:Nat,j<=20->j<sizeLine:=λj W=>fe (by lia);refine (aa U ⟨.inl ⟨U,_,ar.of a.1⟩,aa U (aa U (cb (m _ _ u) d.cl d.nL (ϸ _ _ _ _) ⟨eH U,λL I=>?_⟩))⟩);obtain ⟨q,N,D⟩:=a.more (r:=[0,1+(i:Int),b]) m g I;refine (kP D ?_ ?_)
  ·rw [az,a.len,zU];exact y _ (by omega)
  refine (aa U ⟨.inl ⟨U,_,ar.of q.1⟩,aa U ⟨eH U,λM J=>?_⟩⟩);obtain ⟨B,O,G⟩:=q.more (r:=[1+(i:Int),0,0]) N g J;refine (kP G ?_ ?_)
  ·rw [az,q.len,iD,zU];exact y _ (by simp;omega)
  refine ⟨_,c++[L]++[M],U,?_,O⟩;have e:nr b (i+1)=nr b i++[[0,1+(i:Int),b]]++[[1+(i:Int),0,0]]:=by rw [uL,Int.add_comm 1 (i:Int)];rfl
  rw [e];exact B
 ·rintro s z ⟨v,c,rfl,a,m⟩;exact (aa U (k l _ g m ⟨c,a⟩))
noncomputable abbrev nSb:List Str:=["spans","bounds","one","other","least","most"]
theorem yp:bR nSb Ĩ (aF cz):=cD
theorem rY (F:Fn K mg "span_bounds" cz Ĩ f fd):aq P w K mg base aw 1 f fd Ĩ NT:=by
 refine F.F.cY yp λ_ x1 _ x4 H _ x3 x2 B h=>?_;obtain ⟨a,rows,rfl,⟨E,R⟩,A,hlen,k⟩:=h;refine ⟨_,cv (cx 1 yp.nd (iW oS))
  (cv (iJ ja U (gP (pv 0))
   (uX U (g9 (cf 2 yp.nd) (g9 (cf 3 yp.nd) (g9 (cf 4 yp.nd) (g9 (cf 5 yp.nd) tQ)))))
   (cv (e_ (l9 md ma m_ lF (pv 1) (aY (f9 (ia (pv 2) (pv 3) (pv 5))))))
   (au (e_ (l9 md ma m_ lF (pv 1) (aY (f9 (ia (pv 3) (pv 2) (uV uY (pv 4))))))))))
  (au (cg (pv 1)))),?_⟩
 refine ⟨dZ _,λl m=>?_⟩;have G:=aV (o:=.lst []) m;refine (aa U ⟨a,U,⟨_,ar.of (G _ _ R.1)⟩,lD (K:=K) (a:=a) (xs:=E.map V.ref) (λi u y=>∃n p s t c,u=[some (.ref a),some (.ref l),n,p,s,t]/\gx y l c (o7 (rows.take i))/\a0 H y) ⟨none,none,none,none,[],U,⟨ai,.nil⟩,G⟩ ?_ ?_ ?_⟩)
 ·rintro i u z _ ⟨n,p,s,t,c,rfl,_,d⟩;exact ar.of (d _ _ R.1)
 ·rintro i x5 u z W ⟨n,p,s,t,c,rfl,b,d⟩;obtain ⟨q,r,rfl,_,x,T⟩:=R.get W;obtain ⟨g,j,C,D,M⟩:=A r (eR x);subst M;have hi:i<rows.length:=(eX.mp x).1;have N:yk (rows.take i):=λr B=>A r (FH B);have EL:(o7 (rows.take i)).length<=200:=by rw [yd N,hG];lia
  refine ⟨q,_,U,dB.of (d _ _ T),U,_,_,U,_,_,U,_,_,U,_,_,U,U,?_⟩;refine (aa U ⟨.inl ⟨U,_,ar.of b.1⟩,aa U (aa U (aa U ⟨eH U,λX Q=>?_⟩))⟩);obtain ⟨v,Z,J⟩:=b.more (r:=[g,j,D]) d m Q;refine (kP J ?_ ?_)
  ·rw [az,b.len];exact fe (by lia)
  refine (aa U ⟨.inl ⟨U,_,ar.of v.1⟩,aa U (aa U (aa U ⟨_,U,eH U,λY S=>?_⟩))⟩);obtain ⟨I,s3,L⟩:=v.more (r:=[j,g,-C]) Z m S;refine (kP L ?_ ?_)
  ·rw [az,v.len,iD];exact fe (by simp;lia)
  refine ⟨_,_,_,_,c++[X]++[Y],U,?_,s3⟩;have e:o7 (rows.take (i+1))=o7 (rows.take i)++[[g,j,D]]++[[j,g,-C]]:=by unfold o7;rw [jb,x,dN,List.flatten_append,uL];rfl
  rw [e];exact I
 ·rintro u z ⟨n,p,s,t,c,rfl,b,d⟩;have O:rows.take (E.map V.ref).length=rows:=by
   rw [az,R.len];exact hH
  rw [O] at b;exact (aa U (k l _ m d ⟨c,b⟩))
theorem Ä:bR ĝ ĝ (aF c8):=cD
theorem rR (F:Fn K mg "bounds_with" c8 ĝ f fd) (M:o1 K mg C)
 (B:Fn K mg "room_bounds" c7 Ċ fR EW) (E:aq P w K mg base aw 1 fR EW Ċ (OJ C))
 (l:Fn K mg "span_bounds" cz Ĩ fS M9) (m:aq P w K mg base aw 1 fS M9 Ĩ NT)
 (mF:fV K C "falls" fM) (N:dm K Bg xv []) (D:aq P w K mg base aw 1 fM Bg xv (zq C λ_ F=>F)):aq P w K mg base aw 2 f fd ĝ (NY C):=by
 refine F.F.cY Ä λ_ x3 _ x7 x5 _ x6 x4 e x1=>?_;obtain ⟨p,a,n,t,u,j,L,rfl,h,b,J,r,A_,x2⟩:=x1;refine ⟨_,au (cg (cu tI (cu tI (cE E e B (aY (pv 0))) (cE m e l (aY (pv 1))))
  (cE m e l (aY (oX (pv 0) M.cl mF D e N .nil dR))))),?_⟩
 refine (aa U ⟨p,n,t,u,j,U,h,b.n1,b.n2,λl1 H1 _ v G=>?_⟩);refine (aa U ⟨a,L,U,J.same v,r,A_,λl2 H2 _ x c=>?_⟩);obtain ⟨TR,g⟩:=G.same x;obtain ⟨ps2,c⟩:=c;have O:=g.len;have Q:=c.len;rw [zU] at O;rw [yd r] at Q;have n2:=b.n2;refine ⟨l1,l2,_,_,U,U,g.1,c.1,?_,λl3 s=>?_⟩
 ·rw [az,az];exact bf (fe (by lia))
 have H:=g.cat c s;have s3:=aV (o:=.lst (TR.map V.ref++ps2.map V.ref)) s;have k:=(v.trans x).trans s3;obtain ⟨dx,ta,fa,hp,_,_⟩:=id (h.same k);refine (aa U (fi hp (DR _ _ _ _ (by decide+kernel) (by decide+kernel) (by decide+kernel) (by decide+kernel)) ⟨p,n,t,u,j,U,h.same k,λl4 H4 _ y I=>?_⟩));refine ⟨l4,j,U,I,b.pY,by have:=b.fl;lia,λl5 H5 _ z d=>?_⟩;have q:=(H.same y).same z;obtain ⟨ps5,d⟩:=d;have R:=d.len;rw [yd b.pY] at R;have fl:=b.fl;refine ⟨l3,l5,_,_,U,U,q.1,d.1,?_,λl6 i=>?_⟩
 ·rw [az,az,iD];exact bf (fe (by lia))
 have A:=(k.trans y).trans z;exact x2 l6 _ (A.free i) (A.trans (aV i)) ⟨_,q.cat d i⟩
theorem ç:bR Ċ Ċ (aF cy):=cD
theorem rS (F:Fn K mg "told_bounds" cy Ċ f fd) (t:o1 K mg C)
 (j:Fn K mg "bounds_with" c8 ĝ I uE) (m:aq P w K mg base aw 2 I uE ĝ (NY C))
 (B:fV K C "ties" J) (u:dm K Bg xv []) (o:aq P w K mg base aw 1 J Bg xv (zq C λT _=>T)):aq P w K mg base aw 3 f fd Ċ (NW C):=by
 refine F.F.cY ç λ_ A _ s H _ Q E e h=>?_;obtain ⟨p,n,g,c,i,rfl,a,b,k⟩:=h;have y:cR 1 _:=e.mono (by decide);refine ⟨_,au (cg (cE m e j (bo (pv 0) (oX (pv 0) t.cl B o y u .nil dR)))),?_⟩;obtain ⟨L,N,M,x,_,_⟩:=id a;refine (aa U (aa U (fi x (DR _ _ _ _ (by decide+kernel) (by decide+kernel) (by decide+kernel) (by decide+kernel)) ⟨p,n,g,c,i,U,a,λz G _ d r=>?_⟩)));exact ⟨p,z,n,g,c,i,c,U,a.same d,b,r,b.uC,by have:=b.tl;lia,λl q v D R=>k l q (d.free v) (d.trans D) R⟩
end
end Y0
namespace L2
open PySem PySem.Spec PyProof.Rows
section
variable [DecidableEq κ]
def dJ (kvs:List (κ×V)) (k:κ):Option V:=(kvs.find? λa=>decide (a.1=k)).map (·.2)
def eJ (kvs:List (κ×V)) (k:κ) (v:V):List (κ×V):=
 if (kvs.any λa=>decide (a.1=k))=true then kvs.map (λa=>if a.1=k then (a.1,v) else a) else kvs++[(k,v)]
theorem oZ {p:κ×V} {r:List (κ×V)} {k:κ} (e:p.1=k):dJ (p::r) k=some p.2:=by simp [dJ,List.find?_cons,e]
theorem oY {p:κ×V} {r:List (κ×V)} {k:κ} (e:¬p.1=k):dJ (p::r) k=dJ r k:=by simp [dJ,List.find?_cons,e]
theorem vk (k:κ):∀kvs:List (κ×V),(kvs.any λkv=>decide (kv.1=k))=(dJ kvs k).isSome
 | []=>rfl
 | p::r=>by
  rw [yP]
  by_cases e:p.1=k
  ·simp only [oZ e,eO e,Bool.true_or,Option.isSome_some]
  ·rw [oY e,eE e,Bool.false_or];exact vk k r
theorem Qo (k j:κ) (y:V):∀kvs:List (κ×V),dJ (kvs.map λkv=>if kv.1=k then (kv.1,y) else kv) j=(dJ kvs j).map λx=>if j=k then y else x
 | []=>rfl
 | p::r=>by
  have a:=Qo k j y r;rw [eN]
  by_cases h:p.1=k
  ·rw [if_pos h]
   by_cases e:p.1=j
   ·rw [oZ (p:=(p.1,y)) e,oZ e,Fw,if_pos (e.symm.trans h)]
   ·rw [oY (p:=(p.1,y)) e,oY e,a]
  ·rw [if_neg h]
   by_cases e:p.1=j
   ·rw [oZ (p:=p) e,oZ e,Fw,if_neg (λz=>h (e.trans z))]
   ·rw [oY (p:=p) e,oY e,a]
theorem Ri (k j:κ) (y:V):∀kvs:List (κ×V),dJ kvs k=none->dJ (kvs++[(k,y)]) j=if j=k then some y else dJ kvs j
 | [],_=>by
  by_cases e:k=j
  ·rw [if_pos e.symm];exact oZ (p:=(k,y)) e
  ·rw [if_neg (λz=>e z.symm)];exact oY (p:=(k,y)) e
 | p::r,a=>by
  rw [List.cons_append];have b:¬p.1=k:=λz=>by rw [oZ z] at a;cases a
  rw [oY b] at a;have c:=Ri k j y r a
  by_cases e:p.1=j
  ·rw [oZ e,oZ e,if_neg (λz=>b (e.trans z))]
  ·rw [oY e,oY e,c]
theorem zK (kvs:List (κ×V)) (k j:κ) (y:V):dJ (eJ kvs k y) j=if j=k then some y else dJ kvs j:=by
 unfold eJ
 by_cases a:(kvs.any λc=>decide (c.1=k))=true
 ·rw [if_pos a,Qo];rw [vk] at a
  by_cases e:j=k
  ·obtain ⟨x,b⟩:=Option.isSome_iff_exists.mp a;rw [if_pos e,e,b,Fw,if_pos rfl]
  ·rw [if_neg e]
   cases dJ kvs j with
   | none=>rfl
   | some x=>rw [Fw,if_neg e]
 ·rw [if_neg a];refine Ri k j y kvs ?_;rw [vk] at a
  cases q:dJ kvs k with
  | none=>rfl
  | some x=>rw [q] at a;exact (a U).elim
theorem yh (kvs:List (κ×V)) (k:κ) (v:V):(eJ kvs k v).length<=kvs.length+1:=by
 unfold eJ;split
 ·rw [az];exact jf
 ·rw [iD,ji,N9];omega
theorem jk.dV (r:jk o u):o.isSome=u.isSome:=by
 cases o with
 | none=>cases u with
  | none=>rfl
  | some _=>exact (show False from r).elim
 | some _=>cases u with
  | none=>exact (show False from r).elim
  | some _=>rfl
theorem KV.val {kvs:List (κ×V)} {vs:List (κ×Value)} (r:KV kvs vs) (k:κ):jk (dJ kvs k) (valueAt vs k):=by
 unfold KV at r
 induction r with
 | nil=>exact True.intro
 | @cons p q i c h t g=>
  obtain ⟨d,f⟩:=h
  by_cases e:p.1=k
  ·have a:q.1=k:=d.symm.trans e;have b:valueAt (q::c) k=some q.2:=by simp [valueAt,List.find?_cons,a]
   rw [oZ e,b];exact f
  ·have a:¬q.1=k:=λz=>e (d.trans z);have b:valueAt (q::c) k=valueAt c k:=by simp [valueAt,List.find?_cons,a]
   rw [oY e,b];exact g
theorem KV.any (r:KV kvs vs) (k:κ):(kvs.any λkv=>decide (kv.1=k))=vs.any λkv=>decide (kv.1=k):=by
 unfold KV at r
 induction r with
 | nil=>rfl
 | cons h t a=>rw [yP,yP,a,h.1]
theorem KV.vQ (r:KV kvs vs) (k:κ) (d:bQ y u):
 KV (kvs.map λkv=>if kv.1=k then (kv.1,y) else kv) (vs.map λkv=>if kv.1=k then (kv.1,u) else kv):=by
 unfold KV at r ⊢
 induction r with
 | nil=>exact .nil
 | @cons p q f g h t c=>
  rw [eN,eN];refine .cons ?_ c;obtain ⟨a,b⟩:=h
  by_cases e:p.1=k
  ·rw [if_pos e,if_pos (a.symm.trans e)];exact ⟨a,d⟩
  ·rw [if_neg e,if_neg (λz=>e (a.trans z))];exact ⟨a,b⟩
theorem KV.put (r:KV kvs vs) (k:κ) (a:bQ y u):KV (eJ kvs k y) (stored vs k u):=by
 unfold eJ stored;rw [r.any k]
 by_cases e:(vs.any λb=>decide (b.1=k))=true
 ·rw [if_pos e,if_pos e];exact r.vQ k a
 ·rw [if_neg e,if_neg e];exact Fh r ⟨U,a⟩
theorem KV.length (r:KV kvs vs):kvs.length=vs.length:=j8 r
end
theorem xw (r:bQ (kV k) u):(kM P w).is k u=true:=by
 cases k with
 | inl i=>obtain ⟨t,e⟩:=(show ∃t,u=Value.int i t from r);subst e;exact Zi P w i t
 | inr x=>obtain ⟨t,e⟩:=(show ∃t,u=Value.str x t from r);subst e;exact Zj P w x t
theorem QN:∀{a:List Key} {us:List Value},a_ (a.map kV) us->ItemsAre (kM P w) a us
 | [],_,r=>by rw [sZ] at r;cases r;exact .nil
 | k::a,_,r=>by
  rw [eN] at r
  cases r with
  | cons h t=>exact .cons (xw h) (QN t)
abbrev KT (H:Hp):List (List Key×V)->List (List Key×Addr×Value)->Prop:=Paired λp q=>p.1=q.1/\H q.2.1=some (.tup (p.1.map kV))/\bQ p.2 q.2.2
theorem KT.val {H:Hp} {kvs:List (List Key×V)} {xs:List (List Key×Addr×Value)} (r:KT H kvs xs) (k:List Key):jk (dJ kvs k) ((atKey xs k).map (·.2)):=by
 induction r with
 | nil=>exact True.intro
 | @cons p q i c h t g=>
  obtain ⟨d,_,f⟩:=h
  by_cases e:p.1=k
  ·have a:q.1=k:=d.symm.trans e;have b:atKey (q::c) k=some q.2:=by simp [atKey,List.find?_cons,a]
   rw [oZ e,b];exact f
  ·have a:¬q.1=k:=λz=>e (d.trans z);have b:atKey (q::c) k=atKey c k:=by simp [atKey,List.find?_cons,a]
   rw [oY e,b];exact g
theorem KT.vQ (r:KT H kvs xs) (k:List Key) (f:bQ y u):
 KT H (kvs.map λkv=>if kv.1=k then (kv.1,y) else kv) (xs.map (putAt k u)):=by
 induction r with
 | nil=>exact .nil
 | @cons p q g i h t d=>
  rw [eN,eN];refine .cons ?_ d;obtain ⟨a,b,c⟩:=h;unfold putAt
  by_cases e:p.1=k
  ·rw [if_pos e,if_pos (a.symm.trans e)];exact ⟨a,b,f⟩
  ·rw [if_neg e,if_neg (λz=>e (a.trans z))];exact ⟨a,b,c⟩
theorem KT.put (r:KT H kvs xs) (k:List Key) (c:H b=some (.tup (k.map kV))) (a:bQ y u):
 KT H (eJ kvs k y) (storedH xs k b u):=by
 have e:(kvs.any λd=>decide (d.1=k))=(atKey xs k).isSome:=by rw [vk,(r.val k).dV,Nw]
 unfold eJ storedH;rw [e]
 by_cases q:(atKey xs k).isSome=true
 ·rw [if_pos q,if_pos q];exact r.vQ k a
 ·rw [if_neg q,if_neg q];exact Fh r ⟨U,c,a⟩
theorem KT.keeps (r:KT H kvs xs) (a:∀b ys,H b=some (.tup ys)->H' b=some (.tup ys)):KT H' kvs xs:=
 Paired.vY r λ_ _ z=>⟨z.1,a _ _ z.2.1,z.2.2⟩
section
theorem Tg (ok:dq P w H h) (e:Rd H a u):d_ P w H h a u:=e.ok ok
theorem zk (ok:dq P w H h) (e:Rd H a (.dK kvs)):kvs.length<=sizeLine/\(a==sysModules)=false/\∃vs,KV kvs vs/\h.DictOf (kM P w) a vs:=
 show d_ P w H h a (.dK kvs) from Tg ok e
theorem SR (ok:dq P w H h) (e:H a=some (.dK kvs)):kvs.length<=sizeLine/\(a==sysModules)=false/\∃vs,KV kvs vs/\h.DictOf (kM P w) a vs:=zk ok (.inl e)
theorem zu (ok:dq P w H h) (e:H a=some (.tup (ks.map kV))):(tupleKind (kM P w)).is h ks a:=by obtain ⟨_,f,r,o,b,c,n,d⟩:=(show d_ P w H h a (.tup (ks.map kV)) from ok a _ e);exact ⟨o,f.toArray,n,b,c,d,by simpa using QN r⟩
theorem zp (ok:dq P w H h) (e:Rd H a (.dT kvs)):kvs.length<=sizeLine/\(a==sysModules)=false/\
 ∃xs,KT H kvs xs/\h.DictOfH (tupleKind (kM P w)) a xs:=by
 obtain ⟨z,y,xs,r,o,g,f,i,j,k,n,s⟩:=(show d_ P w H h a (.dT kvs) from Tg ok e);refine ⟨z,y,xs,r,o,g,f,i,j,k,n,λx b=>?_,s⟩;have d:∀{l:List (List Key×V)} {m:List (List Key×Addr×Value)},KT H l m->∀x∈m,(tupleKind (kM P w)).is h x.1 x.2.1:=by
  intro l m q
  induction q with
  | nil=>intro x b;exact nomatch b
  | @cons p q v A c t u=>
   intro x b;rcases f'.mp b with e | b
   ·subst e;exact zu ok (by rw [<-c.1];exact c.2.1)
   ·exact u x b
 exact d r x b
theorem ó (ok:dq P w H h) (e:H a=some (.dT kvs)):kvs.length<=sizeLine/\(a==sysModules)=false/\
 ∃xs,KT H kvs xs/\h.DictOfH (tupleKind (kM P w)) a xs:=zp ok (.inl e)
end
def eF (H:Hp) (a:Addr) (y:V) (r:Option V):Prop:=
 (∃c k,Rd H a (.dK c)/\y=kV k/\r=dJ c k)\/∃c k b,Rd H a (.dT c)/\y=.ref b/\H b=some (.tup (k.map kV))/\r=dJ c k
def qj (H:Hp) (a:Addr) (y v:V) (d:Hp):Prop:=
 (∃c k,H a=some (.dK c)/\y=kV k/\c.length<sizeLine/\d=upd H a (.dK (eJ c k v)))\/
 ∃c k b,H a=some (.dT c)/\y=.ref b/\H b=some (.tup (k.map kV))/\c.length<sizeLine/\d=upd H a (.dT (eJ c k v))
theorem eF.k {H:Hp} {a:Addr} {kvs:List (Key×V)} {k:Key} (e:H a=some (.dK kvs)):eF H a (kV k) (dJ kvs k):=.inl ⟨kvs,k,.inl e,U,U⟩
theorem eF.t {H:Hp} {a b:Addr} {kvs:List (List Key×V)} {k:List Key} (e:H a=some (.dT kvs)) (c:H b=some (.tup (k.map kV))):eF H a (.ref b) (dJ kvs k):=.inr ⟨kvs,k,b,.inl e,U,c,U⟩
theorem qj.k {H:Hp} {a:Addr} {kvs:List (Key×V)} {k:Key} {v:V} (e:H a=some (.dK kvs)) (b:kvs.length<sizeLine):qj H a (kV k) v (upd H a (.dK (eJ kvs k v))):=.inl ⟨kvs,k,e,U,b,U⟩
theorem qj.t {H:Hp} {a b:Addr} {kvs:List (List Key×V)} {k:List Key} {v:V} (e:H a=some (.dT kvs)) (c:H b=some (.tup (k.map kV))) (d:kvs.length<sizeLine):
 qj H a (.ref b) v (upd H a (.dT (eJ kvs k v))):=.inr ⟨kvs,k,b,e,U,c,d,U⟩
section
theorem Inv.big (I:Inv X pins σ H s):sysModules<s.heap.objs.size:=by have h:mainGlobals<s.heap.objs.size:=(I.mod.glob.keeps I.bk).lt;exact B0 (by decide) h
theorem XM (B:A.units+1<cLine) (I:Inv X pins σ H s) (g:eF H a y (some v)) (n:bQ y u) (h:∀c s',Inv X pins σ H s'->bQ v c->Q c s'):
 wpAny (model X.prog X.w) A (getItem (.ref a) u) Q E s:=by
 rcases g with ⟨C,k,e,f,l⟩ | ⟨C,k,b,e,f,q,l⟩
 ·subst f;obtain ⟨z,r,D,j,d⟩:=zk I.aA e;obtain ⟨c,i,m⟩:=jk.some_of (v:=v) (o:=valueAt D k) (by rw [l];exact j.val k);exact wpAny_getItem_of (xw n) d.mapOf i (h c _ (I.tok _) m)
 ·subst f;cases (show u=Value.ref b from n);obtain ⟨z,r,F,j,d⟩:=zp I.aA e;obtain ⟨c,i,m⟩:=jk.some_of (v:=v) (o:=(atKey F k).map (·.2)) (by rw [l];exact j.val k);obtain ⟨p,t,x⟩:=Option.map_eq_some_iff.mp i;refine wpAny_getItem_heap (FD B) (zu I.aA q) d t ?_;rw [x];exact h c _ (I.tok _) m
theorem É (n:A.units+1<cLine) (I:Inv X pins σ H s) (g:eF H a y o) (j:bQ y u) (h:∀s',Inv X pins σ H s'->Q (.bool o.isSome) s'):
 wpAny (model X.prog X.w) A (compareOp .In u (.ref a)) Q E s:=by
 rcases g with ⟨p,k,e,d,l⟩ | ⟨p,k,b,e,d,m,l⟩
 ·subst d;obtain ⟨z,f,r,i,c⟩:=zk I.aA e;refine wpAny_in_of (xw j) f c.mapOf ?_;rw [<-(i.val k).dV,<-l];exact h _ (I.tok _)
 ·subst d;cases (show u=Value.ref b from j);obtain ⟨z,f,t,i,c⟩:=zp I.aA e;refine wpAny_in_heap (FD n) (zu I.aA m) f c ?_;have q:=(i.val k).dV;rw [Nw] at q;rw [<-q,<-l];exact h _ (I.tok _)
theorem zCl (n:A.units+1<cLine) (I:Inv X pins σ H s) (g:eF H a y o) (j:bQ y u) (h:∀s',Inv X pins σ H s'->Q (.bool (!o.isSome)) s'):
 wpAny (model X.prog X.w) A (compareOp .NotIn u (.ref a)) Q E s:=by
 rcases g with ⟨p,k,e,d,l⟩ | ⟨p,k,b,e,d,m,l⟩
 ·subst d;obtain ⟨z,f,r,i,c⟩:=zk I.aA e;refine wpAny_notIn_of (xw j) f c.mapOf ?_;rw [<-(i.val k).dV,<-l];exact h _ (I.tok _)
 ·subst d;cases (show u=Value.ref b from j);obtain ⟨z,f,t,i,c⟩:=zp I.aA e;refine wpAny_notIn_heap (FD n) (zu I.aA m) f c ?_;have q:=(i.val k).dV;rw [Nw] at q;rw [<-q,<-l];exact h _ (I.tok _)
theorem HI (I:Inv X pins σ H s) (g:y_ (H a)) (f:Heap.SameBut a s.heap h') (d:∃q,h'.get? a=some q) (h:d_ X.prog X.w (upd H a ob) h' a ob):
 Inv X pins σ (upd H a ob) { s with heap:=h',toks:=t' }:=
 I.write (x:=a) (e:=a) g (.inl U) (λb q c z=>(f.2 b c).trans z) d h
theorem Tj (z:kvs.length<=sizeLine) (c:(a==sysModules)=false) (d:KV kvs vs) (b:h'.DictOf (kM P w) a vs):
 d_ P w H' h' a (.dK kvs):=⟨z,c,vs,d,b⟩
theorem XN (V:A.units+1<cLine) (I:Inv X pins σ H s) (g:qj H a y v H') (J:bQ y u) (G:bQ v r) (h:∀s',Inv X pins σ H' s'->Q () s'):
 wpAny (model X.prog X.w) A (setItem (.ref a) u r) Q E s:=by
 rcases g with ⟨d,k,e,o,l,n⟩ | ⟨d,k,b,e,o,C,l,n⟩
 ·subst o n;obtain ⟨z,p,W,f,m⟩:=SR I.aA e;have B:W.length<=sizeLine:=by rw [<-f.length];exact z
  have t:(eJ d k v).length<=sizeLine:=by have:=yh d k v;exact IL l this
  refine wpAny_setItem_pairs (hsz:=B) (xw J) m λF i x=>h _ ?_;have T:∃q,F.get? a=some q:=let ⟨q,_,_,j,_⟩:=i;⟨q,j⟩;exact HI I (by rw [e];exact True.intro) x T (Tj t p (f.put k G) i)
 ·subst o n;cases (show u=Value.ref b from J);obtain ⟨z,p,Y,f,m⟩:=ó I.aA e;have B:Y.length<=sizeLine:=by rw [<-j8 f];exact z
  have t:(eJ d k v).length<=sizeLine:=by have:=yh d k v;exact IL l this
  refine wpAny_setItem_heap (hsz:=B) (FD V) (zu I.aA C) m λF i x=>h _ ?_;obtain ⟨q,M,L,j,N,O,R,_,S⟩:=i;refine HI I (by rw [e];exact True.intro) x ⟨q,j⟩ ⟨t,p,_,(f.put k C G).keeps λc Z D=>?_,q,M,L,j,N,O,R,S⟩;rw [ah (aI D e nofun)];exact D
end
section
end
def Sn (i:Expr):Prop:=∀b a,subscripted i false b a=operate [b,a] (getItem b a)
theorem zA7 {prog:Program} {A:Around} {E:Value->Shared->Prop} {s:Shared} {env:Env} {d a:Expr} {n:Pos} {T id:String} {Q:Value->Shared->Prop}
 (j:typeLookup (.type T) "__getitem__"=pure (some (.builtin id))) (k:Sn a)
 (h:wpAny (model prog w) A (eval d env) (λo f=>wpAny (model prog w) A (eval a env) (λi n5=>n5.TypeIs o T/\wpAny (model prog w) A (getItem o i) Q E n5) E f) E s):
 wpAny (model prog w) A (eval (.Subscript d a n) env) Q E s:=by
 refine Subscript_ (gS h (λo f l=>gS l (λi n5 c=>?_) λ_ _ x=>x) λ_ _ x=>x);obtain ⟨e,c⟩:=c;unfold subscriptTail;refine ae ?_;rw [getitemInPython_of_ne e.not_modules];refine ae (wpAny_specialOf e j ?_);have b:wpAny (model prog w) A (subscripted a false o i) (λr g=>wpAny (model prog w) A (letTemporaryGo d o r>>=λ_=>pure r) Q E g) E n5:=by rw [k o i];exact wpAny_operating (gS c (λr g m=>ae (wpAny_letTemporaryGo (aJ m))) λ_ _ x=>x)
 first
  | exact aJ (ae b)
  | exact ae (aJ (ae b))
  | exact ae b
theorem Zc (I:Inv X pins σ H s) (g:eF H a y o):s.TypeIs (.ref a) "dict":=by
 rcases g with ⟨d,k,e,_,_⟩ | ⟨d,k,b,e,_,_,_⟩
 ·obtain ⟨_,_,f,_,c⟩:=zk I.aA e;exact c.typeIs
 ·obtain ⟨_,_,h,_,c⟩:=zp I.aA e;exact c.typeIs
def ϊ (e f:TE):TE:=λc H Q=>e c H λx d=>f c d λy b=>∃a v,x=.ref a/\eF b a y (some v)/\Q v b
def Ø (f e:TE):TE:=λc H Q=>f c H λy d=>e c d λx b=>∃a o,x=.ref a/\eF b a y o/\Q (.bl o.isSome) b
def zA4 (f e:TE):TE:=λc H Q=>f c H λy d=>e c d λx b=>∃a o,x=.ref a/\eF b a y o/\Q (.bl (!o.isSome)) b
def ϝ (g i h:TE):TS:=λD b H=>h b H λv d=>g b d λx e=>i b e λy f=>∃a c,x=.ref a/\qj f a y v c/\D.nx b c
section
theorem jF (r:X.A.units+1<cLine) (p:PE X o J) (n:PE X i ty) (q:Sn i):PE X (.Subscript o i pos) (ϊ J ty):=by intro d s e H Q I h;refine zA7 PySem.F.slot_dict_getitem.lookup q (ax (p d s e H _ I h) λu D b=>L2.eQ b λx f k B t=>ax (n d D e f _ k t) λE F b=>?_);obtain ⟨y,j,c,C,a,v,m,g,z⟩:=b;subst m;obtain rfl:u=Value.ref a:=B;exact ⟨Zc c g,XM r c g C λL G l A=>⟨v,j,l,A,z⟩⟩
theorem HE (q:X.A.units+1<cLine) (n:PE X i ty) (p:PE X o C):PC X .In i o (Ø ty C):=by intro c s d H Q I h;refine ax (n c s d H _ I h) λD B b=>L2.eQ b λy e j A t=>ax (p c B d e _ j t) λu E b=>?_;obtain ⟨x,f,k,z,a,r,m,g,v⟩:=b;subst m;obtain rfl:u=Value.ref a:=z;exact É q k g A λF l=>⟨.bl r.isSome,f,l,U,v⟩
theorem zY (q:X.A.units+1<cLine) (n:PE X i ty) (p:PE X o C):PC X .NotIn i o (zA4 ty C):=by intro c s d H Q I h;refine ax (n c s d H _ I h) λD B b=>L2.eQ b λy e j A t=>ax (p c B d e _ j t) λu E b=>?_;obtain ⟨x,f,k,z,a,r,m,g,v⟩:=b;subst m;obtain rfl:u=Value.ref a:=z;exact zCl q k g A λF l=>⟨.bl (!r.isSome),f,l,U,v⟩
theorem Cs (A:X.A.units+1<cLine) (t:PE X o td) (q:PE X i ty) (B:PE X value tv) (z:swapsWith value (some (.Subscript o i pos')) pos.line X.env=pure false):
 PS X (.Assign [.Subscript o i pos'] value pos) (ϝ td ty tv):=by
 intro d s c H D I h;refine wpAny_Assign_Subscript (ax (B d s c H _ I h) λr M b=>L2.eQ b λv e k G C=>ax (t d M c e _ k C) λu N b=>L2.eQ b λx f l J E=>ax (q d N c f _ l E) λQ R b=>?_) z;obtain ⟨y,O,m,L,a,j,p,g,F⟩:=b;subst p;obtain rfl:u=Value.ref a:=J;exact XN A m g L G λS n=>⟨c,j,n,F⟩
end
theorem Ql (h:Heap) (a:sysModules<h.objs.size):d_ P w H (h.push { cls:=.type "dict",data:=.dict #[] }) h.objs.size (.dK []):=
 ⟨dZ _,beq_eq_false_iff_ne.mpr (aK (gv a)),[],.nil,Heap.DictOf.new h⟩
theorem WA (h:Heap) (a:sysModules<h.objs.size):d_ P w H (h.push { cls:=.type "dict",data:=.dict #[] }) h.objs.size (.dT []):=
 ⟨dZ _,beq_eq_false_iff_ne.mpr (aK (gv a)),[],.nil,_,#[],0,iT _ U,⟨U,U,U⟩,U,U,xg⟩
def ϱ:TE:=λ_ H Q=>∀p,H p=none->Q (.ref p) (upd H p (.dK []))
def ϲ:TE:=λ_ H Q=>∀p,H p=none->Q (.ref p) (upd H p (.dT []))
section
theorem PX:PE X (.Dict [] [] pos) ϱ:=λb s c H Q I h=>
 wpAny_Dict_empty ⟨.ref s.heap.objs.size,_,I.laid (a:=s.heap.objs.size) (o:=.dK []) (t':=s.toks) (λ_ _ q=>cZ _ q) (ay _) (Ql s.heap I.big),U,h _ (I.aA.fresh (ay _))⟩
theorem WX:PE X (.Dict [] [] pos) ϲ:=λb s c H Q I h=>
 wpAny_Dict_empty ⟨.ref s.heap.objs.size,_,I.laid (a:=s.heap.objs.size) (o:=.dT []) (t':=s.toks) (λ_ _ q=>cZ _ q) (ay _) (WA s.heap I.big),U,h _ (I.aA.fresh (ay _))⟩
end
def HF:List (TE×TE)->St->Hp->(List (V×V)->Hp->Prop)->Prop
 | [],_,H,Q=>Q [] H
 | (f,g)::r,a,H,Q=>f a H λx b=>g a b λy c=>HF r a c λe d=>Q ((x,y)::e) d
abbrev VV:List (V×V)->List (Value×Value)->Prop:=Paired λp q=>bQ p.1 q.1/\bQ p.2 q.2
def GY (X:Cx) (f:Pos) (e:List (Option Expr)) (i:List Expr) (h:List (TE×TE)):Prop:=
 ∀(c:List (Addr×Obj)) (s:Shared) (a:St) (H:Hp) (Q:List (V×V)->Hp->Prop),Inv X c a H s->HF h a H Q->
  wpAny (model X.prog X.w) X.A (evalPairs (pairTrees e i X.env f)) (λj g=>∃d b,Inv X c a b g/\VV d j/\Q d b) X.xe s
theorem zBm:GY X pos [] [] []:=λa s b H Q I h=>pairTrees_nil_walk ⟨[],H,I,.nil,h⟩
theorem Xx (l:PE X k tk) (n:PE X v tv) (m:GY X pos ks vs J):
 GY X pos (some k::ks) (v::vs) ((tk,tv)::J):=λb s c H Q I h=>
 pairTrees_cons_walk (ax (l b s c H _ I h) λu B a=>L2.eQ a λx d g z p=>ax (n b B c d _ g p) λE C a=>L2.eQ a λy e i A q=>
  ax (m b C c e _ i q) λF D a=>L2.eQ a λo f j t r=>⟨(x,y)::o,f,j,.cons ⟨z,A⟩ t,r⟩)
def tH (kvs c:List (Key×V)):List (Key×V):=c.foldl (λb a=>eJ b a.1 a.2) kvs
theorem KV.merge:∀{a:List (Key×V)} {b:List (Key×Value)} {kvs:List (Key×V)} {vs:List (Key×Value)},KV a b->KV kvs vs->KV (tH kvs a) (merged vs b):=by
 intro a b kvs vs r;unfold KV at r
 induction r generalizing kvs vs with
 | nil=>intro q;exact q
 | @cons p q f g h t c=>
  intro d;have e:KV (eJ kvs p.1 p.2) (stored vs q.1 q.2):=by have:=d.put p.1 h.2;rw [<-h.1];exact this
  exact c e
theorem Sh:∀(a kvs:List (Key×V)),(tH kvs a).length<=kvs.length+a.length
 | [],kvs=>by show kvs.length<=kvs.length+0;exact jf
 | p::r,kvs=>by have b:=Sh r (eJ kvs p.1 p.2);have c:=yh kvs p.1 p.2;show (tH (eJ kvs p.1 p.2) r).length<=_;rw [ji];exact JD b c
theorem R1 {P:Program} {w:World}:∀{kvs:List (Key×V)} {e:List (Value×Value)},VV (kvs.map λkv=>(kV kv.1,kv.2)) e->∃d,Carries (kM P w) e d/\KV kvs d
 | [],_,r=>by rw [sZ] at r;cases r;exact ⟨[],True.intro,.nil⟩
 | p::kvs,_,r=>by
  rw [eN] at r
  cases r with
  | @cons a b g j h t=>
   obtain ⟨d,c,q⟩:=R1 (P:=P) (w:=w) t;obtain ⟨i,f⟩:=b;exact ⟨(p.1,f)::d,⟨xw h.1,U,c⟩,.cons ⟨U,h.2⟩ q⟩
def ϋ (e:List (TE×TE)):TE:=λf H Q=>∀p,H p=none->HF e f (upd H p (.dK [])) λd b=>b p=some (.dK [])/\∃a:List (Key×V),d=a.map (λc=>(kV c.1,c.2))/\a.length<=15/\Q (.ref p) (upd b p (.dK (tH [] a)))
theorem zBp (h:GY X pos keys values J) (m:keys.all (·.isSome)=true) (r:keys.length=values.length) (h0:keys≠[])
 (l:keys.length<=15):PE X (.Dict keys values pos) (ϋ J):=by
 intro y s G H Q I q;have t:=I.aA.fresh (ay s.heap.objs.size);have g:=I.laid (a:=s.heap.objs.size) (o:=.dK []) (h':=s.heap.push { cls:=.type "dict",data:=.dict #[] }) (t':=s.toks) (λ_ _ q=>cZ _ q) (ay _) (Ql s.heap I.big);refine wpAny_Dict_walk (knd:=kM X.prog X.w) m r h0 l (ax (h y _ G _ _ g (q _ t)) λR N F=>?_);obtain ⟨M,L,b,C,e,f,j,lk,A⟩:=F;subst j;obtain ⟨E,c,D⟩:=R1 (P:=X.prog) (w:=X.w) C;obtain ⟨z,n,O,B,i⟩:=SR b.aA e;cases B;refine ⟨E,c,i,λh' d v=>⟨.ref s.heap.objs.size,_,?_,U,A⟩⟩;have x:(tH [] f).length<=sizeLine:=by have k:=Sh f [];rw [N9] at k;rw [Fj];omega
 have p:∃q,h'.get? s.heap.objs.size=some q:=let ⟨q,_,_,u,_⟩:=d;⟨q,u⟩;exact HI b (by rw [e];exact True.intro) v p (Tj x n (D.merge .nil) d)
structure M1 (X:Cx) (o:Expr) (m:Str) (apos:Pos) (e:Expr) (h9:Pos):Prop where
 base:attributeBase o m X.env (eval o X.env)=eval o X.env
 pZ:((backTo h9 (starEach [e] X.env)).all (λx=> !x.1) && (backToKw h9 (keywordEach [] X.env)).all (λx=>x.1.isSome)
  && decide (([e]:List Expr).length+([]:List Keyword).length+(if ([]:List Keyword).isEmpty then 0 else 1)<30))=true
 line:(apos.endLine==h9.line)=true
 trees:backTo h9 (starEach [e] X.env)=[(false,eval e X.env)]
section
end
section
end
section
end
section
end
end L2
namespace MT
end MT
namespace MU
structure ak where
 tie:Bool
 a:Nat
 b:Nat
 v:Int
inductive Wd where
 | told | sum | aS | bp | sure | back | a6
structure Row where
 cJ:ak
 word:Wd
 used:List Nat
abbrev Key:=Bool×Nat×Nat
noncomputable def ak.key (w:ak):Key:=(w.tie,w.a,w.b)
structure St where
 rows:List Row
 best:Key->Option Nat
 bar:Option Nat
abbrev cS:=Nat->Option (Nat×Int×Int)
noncomputable def ag (st:St) (i:Nat):Option ak:=(st.rows[i]?).map (·.cJ)
noncomputable def val (st:St) (k:Key):Option Int:=(st.best k).bind λi=>(ag st i).map (·.v)
def ed (tie:Bool) (v u:Int):Prop:=if tie=true then v<u else u<v
theorem Zq (a:ed b x y) (c:ed b y z):ed b x z:=by unfold ed at*;cases b<;>simp_all<;>lia
theorem JL (a:¬ed b x y) (c:¬ed b y z):¬ed b x z:=by unfold ed at*;cases b<;>simp_all<;>lia
theorem Rz (h:ed b x y):¬ed b y x:=by unfold ed at*;cases b<;>simp_all<;>exact fq h
def gT (st:St) (w:ak):Prop:=if w.tie=true/\w.a=w.b then w.v<0 else ∀u,val st w.key=some u->ed w.tie w.v u
def ix (w:ak):Prop:=w.tie=true/\w.a=w.b/\w.v<0
instance (w:ak):Decidable (ix w):=by unfold ix;infer_instance
open Classical in
instance (st:St) (w:ak):Decidable (gT st w):=propDecidable _
def take (st:St) (w:ak) (word:Wd) (used:List Nat):St:=
 if gT st w then { rows:=st.rows++[⟨w,word,used⟩],best:=λk=>if k=w.key then some st.rows.length else st.best k,bar:=if st.bar=none/\ix w then some st.rows.length else st.bar } else st
noncomputable def aB (p q:ak):Option ak:=if p.tie=true/\q.tie=true/\p.b=q.a then some ⟨true,p.a,q.b,p.v+q.v⟩ else none
noncomputable def du (F:cS) (p:ak):Option ak:=if p.tie=true/\p.a≠p.b then (F p.b).map λf=>⟨false,p.a,p.b,f.2.2-p.v⟩ else none
noncomputable def dC (F:cS) (p:ak):Option ak:=if p.tie=true/\p.a≠p.b/\p.v<0 then (F p.a).map λf=>⟨true,f.1,p.b,f.2.1+p.v⟩ else none
noncomputable def dF (F:cS) (p:ak):Option ak:=if p.tie=false then (F p.b).map λf=>⟨true,p.a,f.1,-min p.v f.2.1⟩ else none
noncomputable def bg (F:cS) (p q:ak):Option ak:=if p.tie=false/\q.tie=true/\q.b=p.a/\q.a≠p.b then (F p.b).map λf=>⟨false,q.a,p.b,min p.v f.2.2-q.v⟩ else none
noncomputable def dt (F:cS) (p:ak):Option ak:=if p.tie=false/\p.a≠p.b/\0<p.v then (F p.a).bind λo=>(F p.b).map λf=>⟨false,o.1,p.b,min p.v f.2.2-o.2.1⟩ else none
def put (st:St) (o:Option ak) (word:Wd) (used:List Nat):St:=match o with
 | some w=>take st w word used
 | none=>st
def aH (f:ak->Option ak) (word:Wd) (i:Nat) (st:St):St:=put st ((ag st i).bind f) word [i]
def ao (f:ak->ak->Option ak) (word:Wd) (i j:Nat) (st:St):St:=put st ((ag st i).bind λp=>(ag st j).bind λq=>f p q) word [i,j]
noncomputable def c_ (n:Nat) (st:St) (tie:Bool) (a:Nat):List Nat:=(List.range n).filterMap λb=>st.best (tie,a,b)
noncomputable def dG (n:Nat) (st:St) (b:Nat):List Nat:=(List.range n).filterMap λa=>st.best (true,a,b)
def eK (n:Nat) (F:cS) (at_ a b:Nat) (g:St):St:=
 let h:=aH (du F) .aS at_ g
 let d:=aH (dC F) .bp at_ h
 let e:=(c_ n d true b).foldl (λc j=>ao aB .sum at_ j c) d
 let f:=(dG n e a).foldl (λc j=>ao aB .sum j at_ c) e
 (c_ n f false b).foldl (λc j=>ao (bg F) .back j at_ c) f
def fC (n:Nat) (F:cS) (at_ a:Nat) (d:St):St:=
 let e:=aH (dF F) .sure at_ d
 let b:=aH (dt F) .a6 at_ e
 (dG n b a).foldl (λc j=>ao (bg F) .back at_ j c) b
def look (n:Nat) (F:cS) (at_:Nat) (st:St):St:=match ag st at_ with
 | some w=>if st.best w.key=some at_ then (if w.tie=true then eK n F at_ w.a w.b st else fC n F at_ w.a st) else st
 | none=>st
def run (n:Nat) (F:cS) (st:St):Nat->St
 | 0=>st
 | t+1=>look n F t (run n F st t)
structure Ext (s s':St):Prop where
 rows:∃more,s'.rows=s.rows++more
 best:∀k,s'.best k=s.best k\/∃j,s'.best k=some j/\s.rows.length<=j
 bar:s.bar≠none->s'.bar≠none
structure bV (n:Nat) (s:St):Prop where
 at_:∀k i,s.best k=some i->∃w,ag s i=some w/\w.key=k
 top:∀i w,ag s i=some w->∃j,i<=j/\s.best w.key=some j
 lt:∀i w,ag s i=some w->w.a<n/\w.b<n
 ne:s.bar=none->∀i w,ag s i=some w->w.a≠w.b
 drop:s.bar=none->∀i j w w',ag s i=some w->ag s j=some w'->w.key=w'.key->i<j->ed w.tie w'.v w.v
theorem mv {w:ak} (h:ag s i=some w):i<s.rows.length:=by
 unfold ag at h
 cases q:s.rows[i]? with
 | none=>rw [q] at h;cases h
 | some r=>exact (eX.mp q).1
theorem bY {w:ak} (e:Ext s s') (h:ag s i=some w):ag s' i=some w:=by obtain ⟨c,b⟩:=e.rows;have a:=mv h;unfold ag at h ⊢;rw [b,oI a];exact h
theorem Ext.refl (s:St):Ext s s:=⟨⟨[],by simp⟩,λ_=>.inl U,λh=>h⟩
theorem Ext.len (e:Ext s s'):s.rows.length<=s'.rows.length:=by obtain ⟨b,a⟩:=e.rows;rw [a,iD];exact jf
theorem Ext.trans (x:Ext a b) (y:Ext b c):Ext a c:=by
 refine ⟨?_,λk=>?_,λh=>y.bar (x.bar h)⟩
 ·obtain ⟨i,f⟩:=x.rows;obtain ⟨l,g⟩:=y.rows;exact ⟨i++l,by rw [g,f,uL]⟩
 ·rcases y.best k with h | ⟨j,h,e⟩
  ·rcases x.best k with d | ⟨j,d,e⟩
   ·exact .inl (h.trans d)
   ·exact .inr ⟨j,h.trans d,e⟩
  ·exact .inr ⟨j,h,cP x.len e⟩
theorem zJ (st:St) (w:ak) (word:Wd) (used:List Nat):Ext st (take st w word used):=by
 unfold take;split
 ·refine ⟨⟨_,U⟩,λk=>?_,λh=>?_⟩
  ·show (if k=w.key then some st.rows.length else st.best k)=_\/∃j,(if k=w.key then some st.rows.length else st.best k)=some j/\_
   by_cases e:k=w.key
   ·rw [if_pos e];exact .inr ⟨_,U,ay _⟩
   ·rw [if_neg e];exact .inl U
  ·show (if st.bar=none/\ix w then some st.rows.length else st.bar)≠none;rw [if_neg λz=>h z.1];exact h
 ·exact Ext.refl st
theorem xT {w:ak} (h:ag ⟨rows++[r],best,bar⟩ i=some w):(i<rows.length/\(rows[i]?).map (·.cJ)=some w)\/(i=rows.length/\w=r.cJ):=by
 unfold ag at h
 by_cases c:i<rows.length
 ·left;refine ⟨c,?_⟩;have h:((rows++[r])[i]?).map (·.cJ)=some w:=h
  rwa [oI c] at h
 ·right;have h:((rows++[r])[i]?).map (·.cJ)=some w:=h;rw [oz (by exact kZ c)] at h
  cases q:i-rows.length with
  | zero=>rw [q] at h;exact ⟨by lia,by cases h;rfl⟩
  | succ z=>rw [q] at h;cases h
theorem Rf {w:ak} (g:bV n st) (F:w.a<n) (s:w.b<n) (hw:w.tie=false->w.a≠w.b):bV n (take st w word used):=by
 unfold take;split
 next f=>
  have O:∀{i u},ag st i=some u->ag { rows:=st.rows++[⟨w,word,used⟩],best:=λk=>if k=w.key then some st.rows.length else st.best k,bar:=if st.bar=none/\ix w then some st.rows.length else st.bar } i=some u:=λ{i u} h=>by have b:=mv h;unfold ag at h ⊢;rw [oI b];exact h
  have N:ag { rows:=st.rows++[⟨w,word,used⟩],best:=λk=>if k=w.key then some st.rows.length else st.best k,bar:=if st.bar=none/\ix w then some st.rows.length else st.bar } st.rows.length=some w:=by unfold ag;rw [oz (ay _),Fy];rfl
  have A:(if st.bar=none/\ix w then some st.rows.length else st.bar)=none->st.bar=none/\¬ix w:=λh=>by
   by_cases c:st.bar=none/\ix w
   ·rw [if_pos c] at h;cases h
   ·rw [if_neg c] at h;exact ⟨h,λz=>c ⟨h,z⟩⟩
  have D:¬ix w->w.a≠w.b:=λs e=>by
   cases l:w.tie with
   | false=>exact hw l e
   | true=>
    unfold gT at f;rw [if_pos ⟨l,e⟩] at f;exact s ⟨l,e,f⟩
  refine ⟨λk i h=>?_,λi u h=>?_,λi u h=>?_,λr i u h=>?_,λr i j u B h E d G=>?_⟩
  ·have h:(if k=w.key then some st.rows.length else st.best k)=some i:=h
   by_cases c:k=w.key
   ·rw [if_pos c] at h;cases h;exact ⟨w,N,c.symm⟩
   ·rw [if_neg c] at h;obtain ⟨u,a,d⟩:=g.at_ k i h;exact ⟨u,O a,d⟩
  ·show ∃j,i<=j/\(if u.key=w.key then some st.rows.length else st.best u.key)=some j;rcases xT h with ⟨b,a⟩ | ⟨b,rfl⟩
   ·by_cases c:u.key=w.key
    ·rw [if_pos c];exact ⟨_,bf b,U⟩
    ·rw [if_neg c];exact g.top i u a
   ·rw [if_pos rfl];exact ⟨_,qI b,U⟩
  ·rcases xT h with ⟨_,a⟩ | ⟨_,rfl⟩
   ·exact g.lt i u a
   ·exact ⟨F,s⟩
  ·obtain ⟨m,p⟩:=A r;rcases xT h with ⟨_,a⟩ | ⟨_,rfl⟩
   ·exact g.ne m i u a
   ·exact D p
  ·obtain ⟨m,p⟩:=A r;rcases xT E with ⟨I,L⟩ | ⟨I,q⟩
   ·rcases xT h with ⟨_,a⟩ | ⟨b,_⟩
    ·exact g.drop m i j u B a L d G
    ·lia
   ·have q:B=w:=q;rw [q] at d ⊢;rcases xT h with ⟨b,a⟩ | ⟨b,_⟩
    ·
     have a:ag st i=some u:=a;obtain ⟨t,H,y⟩:=g.top i u a;obtain ⟨C,o,J⟩:=g.at_ _ _ y;have M:val st w.key=some C.v:=by unfold val;have d:u.key=w.key:=d;rw [<-d,y];show (ag st t).map (·.v)=_;rw [o];rfl
     unfold gT at f;rw [if_neg λz=>D p z.2] at f;have v:=f _ M;have l:u.tie=w.tie:=congrArg Prod.fst d;rw [l]
     by_cases c:i=t
     ·subst c;rw [a] at o;cases o;exact v
     ·have x:=g.drop m i t u C a o J.symm (zR H c);rw [l] at x;exact Zq v x
    ·lia
 next=>exact g
theorem rn (st:St) (o:Option ak) (word:Wd) (used:List Nat):Ext st (put st o word used):=by
 cases o with
 | none=>exact Ext.refl st
 | some w=>exact zJ st w word used
def Imp (s s':St):Prop:=Ext s s'/\∀k u,k.2.1≠k.2.2->val s k=some u->∃a,val s' k=some a/\¬ed k.1 u a
theorem yg (b:Bool) (u:Int):¬ed b u u:=by unfold ed;split<;>exact Int.not_lt.mpr (kE u)
theorem Imp.refl (s:St):Imp s s:=⟨Ext.refl s,λk u _ h=>⟨u,h,yg _ _⟩⟩
theorem Imp.trans (x:Imp a b) (y:Imp b c):Imp a c:=by refine ⟨x.1.trans y.1,λk u d h=>?_⟩;obtain ⟨j,e,g⟩:=x.2 k u d h;obtain ⟨l,f,i⟩:=y.2 k j d e;exact ⟨l,f,JL g i⟩
theorem oB {w:ak} (h:s.best k=some i) (hw:ag s i=some w):val s k=some w.v:=by unfold val;rw [h];show (ag s i).map (·.v)=_;rw [hw];rfl
theorem CA {w:ak} (h:gT st w):val (take st w word used) w.key=some w.v/\ag (take st w word used) st.rows.length=some w/\(take st w word used).rows.length=st.rows.length+1:=by
 have e:take st w word used={ rows:=st.rows++[⟨w,word,used⟩],best:=λk=>if k=w.key then some st.rows.length else st.best k,bar:=if st.bar=none/\ix w then some st.rows.length else st.bar }:=by unfold take;rw [if_pos h]
 have a:ag (take st w word used) st.rows.length=some w:=by rw [e];unfold ag;rw [oz (ay _),Fy];rfl
 refine ⟨oB (i:=st.rows.length) (by rw [e];show (if w.key=w.key then some st.rows.length else st.best w.key)=_;rw [if_pos rfl]) a,a,?_⟩;rw [e];show (st.rows++[_]).length=_;rw [iD];rfl
theorem vj {w:ak} (h:¬gT st w):take st w word used=st:=by unfold take;rw [if_neg h]
theorem Y8 {w:ak} (b:k≠w.key) (h:val st k=some u):val (take st w word used) k=some u:=by
 by_cases c:gT st w
 ·have e:=zJ st w word used;unfold val at h ⊢;have a:(take st w word used).best k=st.best k:=by
   unfold take;rw [if_pos c];show (if k=w.key then some st.rows.length else st.best k)=_;rw [if_neg b]
  rw [a]
  cases q:st.best k with
  | none=>rw [q] at h;cases h
  | some i=>
   rw [q] at h;have h:(ag st i).map (·.v)=some u:=h;show (ag (take st w word used) i).map (·.v)=some u
   cases C:ag st i with
   | none=>rw [C] at h;cases h
   | some r=>rw [bY e C];rw [C] at h;exact h
 ·rw [vj c];exact h
theorem Qn (st:St) (w:ak) (word:Wd) (used:List Nat):Imp st (take st w word used):=by
 refine ⟨zJ st w word used,λk u e h=>?_⟩
 by_cases c:k=w.key
 ·by_cases b:gT st w
  ·have a:=b;unfold gT at a;have:¬(w.tie=true/\w.a=w.b):=λz=>e (by rw [c];exact z.2);rw [if_neg this] at a;have d:=a u (by rw [<-c];exact h);refine ⟨w.v,by rw [c];exact (CA b).1,λz=>?_⟩;rw [c] at z;exact Rz d z
  ·rw [vj b];exact ⟨u,h,yg _ _⟩
 ·exact ⟨u,Y8 c h,yg _ _⟩
theorem Dy {w:ak} (h:w.a≠w.b):∃u,val (take st w word used) w.key=some u/\¬ed w.tie w.v u:=by
 by_cases c:gT st w
 ·exact ⟨w.v,(CA c).1,yg _ _⟩
 ·rw [vj c];unfold gT at c;rw [if_neg λz=>h z.2] at c;have c:=Classical.not_forall.mp c;obtain ⟨u,a⟩:=c;have a:=Classical.not_imp.mp a;exact ⟨u,a.1,a.2⟩
theorem Rb {w:ak} (h:ix w):(take st w word used).bar≠none:=by
 have a:gT st w:=by unfold gT;rw [if_pos ⟨h.1,h.2.1⟩];exact h.2.2
 unfold take;rw [if_pos a];show (if st.bar=none/\ix w then some st.rows.length else st.bar)≠none
 by_cases c:st.bar=none
 ·rw [if_pos ⟨c,h⟩];simp
 ·rw [if_neg λz=>c z.1];exact c
theorem O_ (st:St) (o:Option ak) (word:Wd) (used:List Nat):Imp st (put st o word used):=by
 cases o with
 | none=>exact Imp.refl st
 | some w=>exact Qn st w word used
theorem dS (a:∀s j,Imp s (f s j)):∀(l:List Nat) (s:St),Imp s (l.foldl f s)
 | [],s=>Imp.refl s
 | j::l,s=>(a s j).trans (dS a l (f s j))
theorem gc (f:ak->Option ak) (word:Wd) (i:Nat) (s:St):Imp s (aH f word i s):=O_ ..
theorem cW (f:ak->ak->Option ak) (word:Wd) (i j:Nat) (s:St):Imp s (ao f word i j s):=O_ ..
theorem Zf (n:Nat) (F:cS) (at_ a b:Nat) (s:St):Imp s (eK n F at_ a b s):=
 ((((gc _ _ _ _).trans (gc _ _ _ _)).trans (dS (λ_ _=>cW ..) _ _)).trans (dS (λ_ _=>cW ..) _ _)).trans (dS (λ_ _=>cW ..) _ _)
theorem Zp (n:Nat) (F:cS) (at_ a:Nat) (s:St):Imp s (fC n F at_ a s):=
 ((gc _ _ _ _).trans (gc _ _ _ _)).trans (dS (λ_ _=>cW ..) _ _)
theorem tS (n:Nat) (F:cS) (at_:Nat) (s:St):Imp s (look n F at_ s):=by
 unfold look;split
 ·split
  ·split
   ·exact Zf ..
   ·exact Zp ..
  ·exact Imp.refl s
 ·exact Imp.refl s
structure jc (n:Nat) (F:cS) (most:Int):Prop where
 lt:∀e f,F e=some f->f.1<n/\e<n
 own:∀e f,F e=some f->F f.1=none
 num:∀e f,F e=some f->1<=f.2.1/\f.2.1<=f.2.2/\f.2.2<=most
def qQ (n:Nat) (w:ak):Prop:=w.a<n/\w.b<n/\(w.tie=false->w.a≠w.b)
theorem I0 (g:bV n st) (h:∀w,o=some w->qQ n w):bV n (put st o word used):=by
 cases o with
 | none=>exact g
 | some w=>exact Rf g (h w U).1 (h w U).2.1 (h w U).2.2
theorem mw (g:bV n s) (a:∀p w,p.a<n->p.b<n->f p=some w->qQ n w):bV n (aH f word i s):=by
 refine I0 g λw h=>?_
 cases q:ag s i with
 | none=>rw [q] at h;cases h
 | some p=>
  rw [q] at h;have:=g.lt i p q;exact a p w this.1 this.2 h
theorem vb (g:bV n s) (c:∀p q w,p.a<n->p.b<n->q.a<n->q.b<n->f p q=some w->qQ n w):bV n (ao f word i j s):=by
 refine I0 g λw h=>?_
 cases C:ag s i with
 | none=>rw [C] at h;cases h
 | some p=>
  rw [C] at h;have h:(ag s j).bind (λq=>f p q)=some w:=h
  cases I:ag s j with
  | none=>rw [I] at h;cases h
  | some q=>
   rw [I] at h;have a:=g.lt i p C;have b:=g.lt j q I;exact c p q w a.1 a.2 b.1 b.2 h
theorem tT (a:∀s j,bV n s->bV n (f s j)):∀(l:List Nat) (s:St),bV n s->bV n (l.foldl f s)
 | [],_,g=>g
 | j::l,s,g=>tT a l (f s j) (a s j g)
theorem zC (p q w:ak) (a:p.a<n) (_:p.b<n) (_:q.a<n) (b:q.b<n) (h:aB p q=some w):qQ n w:=by
 unfold aB at h;split at h
 ·cases h;exact ⟨a,b,λz=>nomatch z⟩
 ·cases h
theorem zM (p w:ak) (a:p.a<n) (b:p.b<n) (h:du F p=some w):qQ n w:=by
 unfold du at h;split at h
 next c=>
  cases q:F p.b with
  | none=>rw [q] at h;cases h
  | some f=>rw [q] at h;cases h;exact ⟨a,b,λ_=>c.2⟩
 ·cases h
theorem zI (b:jc n F most) (p w:ak) (_:p.a<n) (a:p.b<n) (h:dC F p=some w):qQ n w:=by
 unfold dC at h;split at h
 ·cases q:F p.a with
  | none=>rw [q] at h;cases h
  | some f=>rw [q] at h;cases h;exact ⟨(b.lt _ _ q).1,a,λz=>nomatch z⟩
 ·cases h
theorem C9 (b:jc n F most) (p w:ak) (a:p.a<n) (_:p.b<n) (h:dF F p=some w):qQ n w:=by
 unfold dF at h;split at h
 ·cases q:F p.b with
  | none=>rw [q] at h;cases h
  | some f=>rw [q] at h;cases h;exact ⟨a,(b.lt _ _ q).1,λz=>nomatch z⟩
 ·cases h
theorem HY (p q w:ak) (_:p.a<n) (a:p.b<n) (b:q.a<n) (_:q.b<n) (h:bg F p q=some w):qQ n w:=by
 unfold bg at h;split at h
 next c=>
  cases e:F p.b with
  | none=>rw [e] at h;cases h
  | some f=>rw [e] at h;cases h;exact ⟨b,a,λ_=>c.2.2.2⟩
 ·cases h
theorem Dm (a:jc n F most) (p w:ak) (_:p.a<n) (b:p.b<n) (h:dt F p=some w):qQ n w:=by
 unfold dt at h;split at h
 ·cases e:F p.a with
  | none=>rw [e] at h;cases h
  | some o=>
   rw [e] at h;have h:(F p.b).map (λf=>(⟨false,o.1,p.b,min p.v f.2.2-o.2.1⟩:ak))=some w:=h
   cases C:F p.b with
   | none=>rw [C] at h;cases h
   | some f=>
    rw [C] at h;cases h;refine ⟨(a.lt _ _ e).1,b,λ_ z=>?_⟩;have z:o.1=p.b:=z;have:=a.own _ _ e;rw [z,C] at this;cases this
 ·cases h
theorem Yf (a:jc n F most) (g:bV n s):bV n (look n F at_ s):=by
 unfold look;split
 ·split
  ·split
   ·refine tT (λ_ _ g=>vb g HY) _ _ (tT (λ_ _ g=>vb g zC) _ _ (tT (λ_ _ g=>vb g zC) _ _ (mw (mw g zM) (zI a))))
   ·exact tT (λ_ _ g=>vb g HY) _ _ (mw (mw g (C9 a)) (Dm a))
  ·exact g
 ·exact g
theorem vi (a:jc n F most) (g:bV n s):∀t,bV n (run n F s t)
 | 0=>g
 | t+1=>Yf a (vi a g t)
def Add (C:ak->Prop) (s s':St):Prop:=∀i w,s.rows.length<=i->ag s' i=some w->C w
theorem Add.refl (s:St):Add C s s:=λi w h e=>absurd (mv e) (by exact FU h)
theorem Add.trans (x:Add C a b) (e:Ext b c) (y:Add C b c):Add C a c:=λi w h f=>by
 by_cases d:i<b.rows.length
 ·have:∃w',ag b i=some w':=⟨_,by unfold ag;rw [gI d];rfl⟩;obtain ⟨w',g⟩:=this;have:=bY e g;rw [f] at this;cases this;exact x i w h g
 ·exact y i w (by exact kZ d) f
theorem Qz {w:ak} (h:C w):Add C s (take s w word used):=λi u d a=>by
 by_cases c:gT s w
 ·obtain ⟨_,b,f⟩:=CA (word:=word) (used:=used) c;have:=mv a;have e:i=s.rows.length:=by lia
  rw [e,b] at a;cases a;exact h
 ·rw [vj c] at a;exact absurd (mv a) (by exact FU d)
theorem rm (h:∀w,o=some w->C w):Add C s (put s o word used):=by
 cases o with
 | none=>exact Add.refl s
 | some w=>exact Qz (h w U)
theorem uW (a:ag s i=some p) (h:∀w,f p=some w->C w):Add C s (aH f word i s):=rm λw e=>by rw [a] at e;exact h w e
theorem Hl (a:ag s i=some p) (b:ag s j=some q) (h:∀w,f p q=some w->C w):Add C s (ao f word i j s):=rm λw e=>by rw [a] at e;have e:(ag s j).bind (λq=>f p q)=some w:=e;rw [b] at e;exact h w e
theorem vq (a:∀s j,Imp s (f s j)):∀(l:List Nat) (s0 s:St),Imp s0 s->(∀j∈l,∀s1,Imp s0 s1->Add C s1 (f s1 j))->Add C s (l.foldl f s)
 | [],_,s,_,_=>Add.refl s
 | j::l,s0,s,b,h=>(h j gw s b).trans (dS a l (f s j)).1 (vq a l s0 (f s j) (b.trans (a s j)) λk c=>h k (iO _ c))
theorem IS (a:∀s j,Imp s (f s j)):∀(l:List Nat) (s:St) (j:Nat),j∈l->∃s1,Imp s s1/\Imp (f s1 j) (l.foldl f s)
 | [],_,_,h=>nomatch h
 | k::l,s,j,h=>by
  rcases f'.mp h with e | h
  ·subst e;exact ⟨s,Imp.refl s,dS a l (f s j)⟩
  ·obtain ⟨s1,b,c⟩:=IS a l (f s k) j h;exact ⟨s1,(a s k).trans b,c⟩
theorem IU (h:j∈c_ n st tie a):∃b,b<n/\st.best (tie,a,b)=some j:=by obtain ⟨b,c,e⟩:=qM.mp h;exact ⟨b,kD.mp c,e⟩
theorem DC (h:j∈dG n st b):∃a,a<n/\st.best (true,a,b)=some j:=by obtain ⟨a,c,e⟩:=qM.mp h;exact ⟨a,kD.mp c,e⟩
theorem zE (g:bV n s) (h:val s k=some u):∃i w,s.best k=some i/\ag s i=some w/\w.key=k/\w.v=u:=by
 unfold val at h
 cases q:s.best k with
 | none=>rw [q] at h;cases h
 | some i=>
  obtain ⟨w,a,b⟩:=g.at_ k i q;rw [q] at h;have h:(ag s i).map (·.v)=some u:=h;rw [a] at h;exact ⟨i,w,U,a,b,ft h⟩
theorem iq {w:ak} {t:Bool} {a b:Nat} (h:w.key=(t,a,b)):w.tie=t/\w.a=a/\w.b=b:=by unfold ak.key at h;exact ⟨congrArg Prod.fst h,congrArg (λz=>z.2.1) h,congrArg (λz=>z.2.2) h⟩
theorem qz (g:bV n s) (k:s.bar=none) (h:val s (t,a,b)=some u):a≠b/\a<n/\b<n:=by obtain ⟨i,w,_,j,l,_⟩:=zE g h;obtain ⟨_,c,d⟩:=iq l;have e:=g.ne k i w j;have f:=g.lt i w j;rw [c,d] at e;rw [c,d] at f;exact ⟨e,f⟩
theorem Pu {n:Nat} {F:cS} {S:Int} (y:jc n F S) {s:St} (g:bV n s) {at_ a b c:Nat} {p:ak} {u:Int} (E:ag s at_=some p) (W:p.tie=true) (T:p.a=a) (V:p.b=b) (M:val s (true,b,c)=some u) (z:b≠c) (A:c<n):
 (a≠c->∃x,x<=p.v+u/\val (eK n F at_ a b s) (true,a,c)=some x)/\(a=c->p.v+u<0->(eK n F at_ a b s).bar≠none):=by
 have k:Imp s (aH (dC F) .bp at_ (aH (du F) .aS at_ s)):=(gc _ _ _ _).trans (gc _ _ _ _);have v:bV n (aH (dC F) .bp at_ (aH (du F) .aS at_ s)):=mw (mw g zM) (zI y);unfold eK;dsimp only;generalize aH (dC F) .bp at_ (aH (du F) .aS at_ s)=s2 at*;obtain ⟨e,N,i⟩:=k.2 (true,b,c) u z M;have hle:e<=u:=by unfold ed at i;simp at i;exact i
 obtain ⟨j,q,C,H,J,L⟩:=zE v N;obtain ⟨Z,X,Y⟩:=iq J;have D:j∈c_ n s2 true b:=qM.mpr ⟨c,kD.mpr A,C⟩;obtain ⟨d,l,m⟩:=IS (f:=λst j=>ao aB .sum at_ j st) (λ_ _=>cW ..) _ s2 j D;have G:=bY (k.1.trans l.1) E;have I:=bY l.1 H;have O:aB p q=some ⟨true,a,c,p.v+e⟩:=by unfold aB;rw [if_pos ⟨W,Z,by rw [V,X]⟩,T,Y,L]
 have B:ao aB .sum at_ j d=take d ⟨true,a,c,p.v+e⟩ .sum [at_,j]:=by unfold ao;rw [G];show put d ((ag d j).bind λq=>aB p q) .sum [at_,j]=_;rw [I];show put d (aB p q) .sum [at_,j]=_;rw [O];rfl
 rw [B] at m;have o:=m.trans ((dS (f:=λst j=>ao aB .sum j at_ st) (λ_ _=>cW ..) (dG n ((c_ n s2 true b).foldl (λst j=>ao aB .sum at_ j st) s2) a) _).trans (dS (f:=λst j=>ao (bg F) .back j at_ st) (λ_ _=>cW ..) (c_ n ((dG n ((c_ n s2 true b).foldl (λst j=>ao aB .sum at_ j st) s2) a).foldl (λst j=>ao aB .sum j at_ st) ((c_ n s2 true b).foldl (λst j=>ao aB .sum at_ j st) s2)) false b) _));refine ⟨λh=>?_,λh wB=>?_⟩
 ·obtain ⟨x,Q,r⟩:=Dy (st:=d) (word:=.sum) (used:=[at_,j]) (w:=⟨true,a,c,p.v+e⟩) h;obtain ⟨x1,R,t⟩:=o.2 (true,a,c) x h Q;refine ⟨x1,?_,R⟩;unfold ed at r t;simp at r t;lia
 ·exact o.1.bar (Rb ⟨U,h,by show p.v+e<0;lia⟩)
theorem Qp (b:jc n F most) (g:bV n s) (t:ag s at_=some p) (T:p.tie=false) (pa:p.a=a)
 (h:∀x v,val (fC n F at_ a s) (true,x,a)=some v->-B<=v) (Z:0<=B) (i:(fC n F at_ a s).bar=none):
 Add (λw=>(w.tie=true->-most<=w.v)/\(w.tie=false->w.v<=most+B)) s (fC n F at_ a s):=by
 unfold fC at h i ⊢;dsimp only at h i ⊢;have L:bV n (aH (dF F) .sure at_ s):=mw g (C9 b);have S:Imp s (aH (dF F) .sure at_ s):=gc _ _ _ _;have G:Add (λw=>(w.tie=true->-most<=w.v)/\(w.tie=false->w.v<=most+B)) s (aH (dF F) .sure at_ s):=uW t λw e=>by
  unfold dF at e;rw [if_pos T] at e
  cases q:F p.b with
  | none=>rw [q] at e;cases e
  | some f=>
   rw [q] at e;cases e;have:=b.num _ _ q;refine ⟨λ_=>?_,nofun⟩
   show-most<=-min p.v f.2.1
   lia
 generalize aH (dF F) .sure at_ s=s1 at*;have u:=bY S.1 t;have m:bV n (aH (dt F) .a6 at_ s1):=mw L (Dm b);have A:Imp s1 (aH (dt F) .a6 at_ s1):=gc _ _ _ _;have H:Add (λw=>(w.tie=true->-most<=w.v)/\(w.tie=false->w.v<=most+B)) s1 (aH (dt F) .a6 at_ s1):=uW u λw e=>by
  unfold dt at e;split at e
  ·cases q:F p.a with
   | none=>rw [q] at e;cases e
   | some o=>
    rw [q] at e;have e:(F p.b).map (λf=>(⟨false,o.1,p.b,min p.v f.2.2-o.2.1⟩:ak))=some w:=e
    cases C:F p.b with
    | none=>rw [C] at e;cases e
    | some f=>
     rw [C] at e;cases e;have Y:=b.num _ _ q;have M:=b.num _ _ C;refine ⟨nofun,λ_=>?_⟩;show min p.v f.2.2-o.2.1<=most+B;omega
  ·cases e
 generalize aH (dt F) .a6 at_ s1=s2 at*;have Q:=bY A.1 u;have l:Imp s2 ((dG n s2 a).foldl (λd j=>ao (bg F) .back at_ j d) s2):=dS (λ_ _=>cW ..) _ _;have J:=gh λz=>l.1.bar z i;have I:Add (λw=>(w.tie=true->-most<=w.v)/\(w.tie=false->w.v<=most+B)) s2 ((dG n s2 a).foldl (λd j=>ao (bg F) .back at_ j d) s2):=vq (f:=λd j=>ao (bg F) .back at_ j d) (λ_ _=>cW ..) _ s2 s2 (Imp.refl _) λj N sx y=>by
  obtain ⟨c,_,r⟩:=DC N;obtain ⟨q,k,O⟩:=m.at_ _ _ r;obtain ⟨_,V,W⟩:=iq O;have E:=m.ne J j q k;rw [V,W] at E;obtain ⟨X,R,D⟩:=l.2 (true,c,a) q.v E (oB r k);have EJ:=h c X R;unfold ed at D;simp at D;refine Hl (bY y.1 Q) (bY y.1 k) λw e=>?_;unfold bg at e;split at e
  ·cases z:F p.b with
   | none=>rw [z] at e;cases e
   | some f=>
    rw [z] at e;cases e;have M:=b.num _ _ z;refine ⟨nofun,λ_=>?_⟩;show min p.v f.2.2-q.v<=most+B;lia
  ·cases e
 exact (G.trans A.1 H).trans l.1 I
theorem Pc (t:Nat):∀d,Imp (run n F s t) (run n F s (t+d))
 | 0=>Imp.refl _
 | d+1=>(Pc t d).trans (tS n F (t+d) _)
theorem rx (h:t<=t'):Imp (run n F s t) (run n F s t'):=by
 have:=Pc (n:=n) (F:=F) (s:=s) t (t'-t)
 rwa [show t+(t'-t)=t' by exact mz h] at this
section
def pt (n:Nat) (F:cS) (s0:St) (t a b:Nat):Prop:=∃w,ag (run n F s0 t) t=some w/\w.tie=true/\w.a=a/\w.b=b/\(run n F s0 t).best (true,a,b)=some t
theorem Cy {w:ak} (hw:ag s t=some w) (e:w.tie=true) (c:w.a=a) (d:w.b=b) (f:s.best (true,a,b)=some t):look n F t s=eK n F t a b s:=by
 unfold look;rw [hw];have g:w.key=(true,a,b):=by unfold ak.key;rw [e,c,d]
 dsimp only;rw [g,if_pos f,if_pos e,c,d]
theorem HW (g:bV n s) (g':bV n s') (e:Ext s s') (h:val s' k≠val s k):∃j w,s.rows.length<=j/\ag s' j=some w/\w.key=k/\val s' k=some w.v:=by
 rcases e.best k with c | ⟨j,b,f⟩
 ·exfalso;apply h;unfold val;rw [c]
  cases q:s.best k with
  | none=>rfl
  | some i=>
   show (ag s' i).map (·.v)=(ag s i).map (·.v);obtain ⟨w,a,_⟩:=g.at_ k i q;rw [a,bY e a]
 ·obtain ⟨w,a,d⟩:=g'.at_ k j b;exact ⟨j,w,f,a,d,oB b a⟩
theorem Q' (h:t<=t') (g:bV n (run n F s0 t)) (b:(run n F s0 t).best k=some i) (a:(run n F s0 t').best k=some j):i<=j:=by
 rcases (rx (n:=n) (F:=F) (s:=s0) h).1.best k with e | ⟨f,e,c⟩
 ·rw [e,b] at a;cases a;exact ay _
 ·rw [e] at a;cases a;obtain ⟨w,d,_⟩:=g.at_ k i b;exact cP (bf (mv d)) c
theorem Za (h:t<=t') (g:bV n (run n F s0 t)) (g':bV n (run n F s0 t')) (l:(run n F s0 t').bar=none) (a:(run n F s0 t).best k=some i) (b:(run n F s0 t').best k=some j) (q:i≠j):val (run n F s0 t') k≠val (run n F s0 t) k:=by obtain ⟨w,c,m⟩:=g.at_ k i a;obtain ⟨f,d,o⟩:=g'.at_ k j b;have p:=Q' h g a b;have:=g'.drop l i j w f (bY (rx h).1 c) d (m.trans o.symm) (zR p q);rw [oB a c,oB b d];intro e;have e:f.v=w.v:=ft e;rw [e] at this;exact yg _ _ this
end
theorem IV (b:ag s t=some p) (c:p.tie=false) (a:s.best p.key=some t):look n F t s=fC n F t p.a s:=by unfold look;rw [b];dsimp only;rw [if_pos a,if_neg (by rw [c];decide)]
theorem QQ (b:ag s t=some p) (a:s.best p.key≠some t):look n F t s=s:=by unfold look;rw [b];dsimp only;rw [if_neg a]
end MU
open MU (ak du dC aB dF bg dt ix jc Row bV gT val ed take ag c_ dG eK fC aH bY rn ao DC iq Ext IU vi)
namespace MH
theorem Ho:∀(M N:Nat) (f:Nat->Nat),(∀i,i<N->f i<M)->(∀i j,i<j->j<N->f i≠f j)->N<=M
 | 0,N,f,h,_=>by
  cases N with
  | zero=>exact ay _
  | succ N=>exact absurd (h 0 (Nat.succ_pos _)) (oJ _)
 | M+1,N,f,h,a=>by
  by_cases c:∃p,p<N/\f p=M
  ·obtain ⟨p,m,g⟩:=c;have k:=Ho M (N-1) (λi=>f (if i<p then i else i+1)) (λi e=>by
    have b:(if i<p then i else i+1)<N:=by split<;>lia
    have d:=h _ b;have l:f (if i<p then i else i+1)≠M:=λz=>by
     by_cases c:i<p
     ·rw [if_pos c] at z;exact a i p c m (z.trans g.symm)
     ·rw [if_neg c] at z;exact a p (i+1) (by lia) (by lia) (g.trans z.symm)
    show f (if i<p then i else i+1)<M;exact rB d l) (λi j n o=>by
    show f (if i<p then i else i+1)≠f (if j<p then j else j+1);refine a _ _ ?_ ?_
    ·split<;>split<;>lia
    ·split<;>lia)
   exact Q4 k
  ·have k:=Ho M N f (λi e=>by
    have b:=h i e;have d:f i≠M:=λz=>c ⟨i,e,z⟩;exact rB b d) a
   exact iC k
open Classical in
def cnt (P:Nat->Prop):Nat->Nat
 | 0=>0
 | N+1=>cnt P N+if P N then 1 else 0
theorem o9 {P:Nat->Prop} (h:P N):cnt P (N+1)=cnt P N+1:=by rw [cnt,if_pos h]
theorem rh {P:Nat->Prop} (h:¬P N):cnt P (N+1)=cnt P N:=by rw [cnt,if_neg h,Nat.add_zero]
theorem Qg (P:Nat->Prop):∀N,∃e:Nat->Nat,(∀i,i<cnt P N->P (e i)/\e i<N)/\∀i j,i<j->j<cnt P N->e i<e j
 | 0=>⟨λi=>i,λi h=>absurd h (oJ _),λi j _ h=>absurd h (oJ _)⟩
 | N+1=>by
  obtain ⟨e,a,f⟩:=Qg P N
  by_cases c:P N
  ·have b:cnt P (N+1)=cnt P N+1:=o9 c;refine ⟨λi=>if i<cnt P N then e i else N,λi _=>?_,λi j k l=>?_⟩
   ·by_cases d:i<cnt P N
    ·show P (if i<cnt P N then e i else N)/\(if i<cnt P N then e i else N)<N+1;rw [if_pos d];have:=a i d;exact ⟨this.1,JE this.2⟩
    ·show P (if i<cnt P N then e i else N)/\(if i<cnt P N then e i else N)<N+1;rw [if_neg d];exact ⟨c,by exact gR⟩
   ·show (if i<cnt P N then e i else N)<(if j<cnt P N then e j else N);rw [if_pos (show i<cnt P N by lia)]
    by_cases d:j<cnt P N
    ·rw [if_pos d];exact f i j k d
    ·rw [if_neg d];exact (a i (by lia)).2
  ·have b:cnt P (N+1)=cnt P N:=rh c;rw [b];exact ⟨e,λi g=>⟨(a i g).1,by have:=(a i g).2;exact iC this⟩,f⟩
theorem ϡ {P:Nat->Prop} (b:Nat->Nat) (h:∀i,i<N->P i->b i<M) (g:∀i j,i<j->j<N->P i->P j->b i≠b j):cnt P N<=M:=by obtain ⟨e,a,f⟩:=Qg P N;exact Ho M (cnt P N) (λi=>b (e i)) (λi z=>h _ (a i z).2 (a i z).1) λi j d c=>g _ _ (f i j d c) (a j c).2 (a i (CQ d c)).1 (a j c).1
theorem Hi {P Q R:Nat->Prop} (h:∀i,P i->Q i\/R i):∀N,cnt P N<=cnt Q N+cnt R N
 | 0=>ay _
 | N+1=>by
  have d:=Hi h N;have a:cnt Q N<=cnt Q (N+1):=by
   by_cases c:Q N
   ·rw [o9 c];exact iC gR
   ·rw [rh c];exact gR
  have b:cnt R N<=cnt R (N+1):=by
   by_cases c:R N
   ·rw [o9 c];exact iC gR
   ·rw [rh c];exact gR
  by_cases c:P N
  ·rw [o9 c];rcases h N c with q | q
   ·rw [o9 q];lia
   ·rw [o9 q];lia
  ·rw [rh c];lia
theorem vh:∀(N:Nat) (l:List Nat),l.Nodup->(∀z∈l,z<N)->l.length<=N
 | 0,l,_,h=>by
  cases l with
  | nil=>exact ay _
  | cons x t=>exact absurd (h x gw) (oJ _)
 | N+1,l,f,h=>by
  by_cases c:N∈l
  ·have k:=vh N (l.erase N) (f.erase N) (λz a=>by
    have b:=h z (List.mem_of_mem_erase a);have d:z≠N:=λe=>by rw [e] at a;exact (f.mem_erase_iff.mp a).1 U
    exact rB b d)
   rw [List.length_erase_of_mem c] at k;exact Q4 k
  ·have k:=vh N l f (λz a=>by
    have b:=h z a;have d:z≠N:=λe=>c (e▸a);exact rB b d)
   exact iC k
end MH
set_option linter.unusedVariables false
namespace MH
structure Bd (n:Nat) (L most:Int) (T:Nat) (len:Nat->Nat) (m wt:Nat->Nat->Nat->Option Int) (pt pw:Nat->Nat->Nat->Prop):Prop where
 n8:n<=8
 L0:0<=L
 Ay:0<=most
 go:∀t,t<T->t<len t
 we:∀t,t<T->len t<=len (t+1)
 lt:∀t a b v,t<=T->m t a b=some v->a<n/\b<n/\a≠b
 known:∀t a b,t<T->pt t a b->∃v,m t a b=some v
 iK:∀t a b,t<T->pw t a b->a<n/\b<n/\a≠b/\∃v,wt t a b=some v
 mono:∀t a b v,t<T->m t a b=some v->∃v',v'<=v/\m (t+1) a b=some v'
 Aj:∀t a b v,t<T->wt t a b=some v->∃v',v<=v'/\wt (t+1) a b=some v'
 told:∀i,0<i->i<n->(∃v,v<=L/\m 0 0 i=some v)/\∃v,v<=0/\m 0 i 0=some v
 uc:∀a b,wt 0 a b=none
 sum:∀t a b c v u,t<T->pt t a b->m t a b=some v->m t b c=some u->a≠c->∃x,x<=v+u/\m (t+1) a c=some x
 bar:∀t a b v u,t<T->pt t a b->m t a b=some v->m t b a=some u->0<=v+u
 one:∀t a b a' b',t<T->pt t a b->pt t a' b'->a=a'/\b=b'
 KG:∀t a b a' b',t<T->pw t a b->pw t a' b'->a=a'/\b=b'
 apart:∀t a b a' b',t<T->pt t a b->¬pw t a' b'
 cause:∀t a b,t<T->m (t+1) a b≠m t a b->(∃c v q y,pt t a c/\c≠b/\m t a c=some v/\m t c b=some q/\m (t+1) a b=some y/\v+q<=y)\/(∃c,pt t c b/\c≠a)\/∃e y,pw t a e/\m (t+1) a b=some y/\-most<=y
 aS:∀t a b e v v',t<T->pt t a b->m t a b=some v->t<=e->e<T->pw e a b->wt e a b=some v'->1-v<=v'
 ph:∀t a b B,t<T->0<=B->(∀x y v,m (t+1) x y=some v->-B<=v)->wt (t+1) a b≠wt t a b->∃y,wt (t+1) a b=some y/\y<=most+B
 grow:∀t,t<T->len (t+1)<=len t+20
 uA:∀t,t<T->(∀a b,¬pt t a b)->len (t+1)<=len t+8
 uB:∀t,t<T->(∀a b,¬pt t a b)->(∀a b,¬pw t a b)->len (t+1)=len t
 fQ:∀t0 t a b v,t<=T->len t0<=t->t0<=t->m t0 a b=some v->m t a b=some v->∃s,s<t/\pt s a b/\m s a b=some v
 drop:∀t t' a b v v',t<t'->t'<T->pt t a b->pt t' a b->m t a b=some v->m t' a b=some v'->v'<v
 ud:∀t t' a b v v',t<t'->t'<T->pw t a b->pw t' a b->wt t a b=some v->wt t' a b=some v'->v<v'
 once:∀t t' a b,t<t'->t'<T->pt t a b->pt t' a b->len t<=t'
 m9:∀t t' a b,t<t'->t'<T->pw t a b->pw t' a b->len t<=t'
section
def Kn (m:Nat->Nat->Nat->Option Int) (t a b:Nat) (x:Int):Prop:=∃v,v<=x/\m t a b=some v
theorem Kn.le (h:Kn m t a b x) (e:x<=y):Kn m t a b y:=by obtain ⟨v,c,d⟩:=h;exact ⟨v,vm c e,d⟩
theorem Bd.mR (R:Bd n L most T len m wt pt pw) (h:m t a b=some v):∀d,t+d<=T->∃e,e<=v/\m (t+d) a b=some e
 | 0,_=>⟨v,kE _,h⟩
 | d+1,c=>by obtain ⟨l,i,f⟩:=R.mR h d (by exact bf c);obtain ⟨k,j,g⟩:=R.mono _ _ _ _ (by exact c) f;exact ⟨k,vm j i,g⟩
theorem Bd.jX (R:Bd n L most T len m wt pt pw) (h:m t a b=some v) (d:t<=t') (f:t'<=T):∃v',v'<=v/\m t' a b=some v':=by obtain ⟨v',e,c⟩:=R.mR h (t'-t) (CS d f);rw [show t+(t'-t)=t' by exact mz d] at c;exact ⟨v',e,c⟩
theorem Bd.kn (R:Bd n L most T len m wt pt pw) (h:Kn m t a b x) (i:t<=t') (g:t'<=T):Kn m t' a b x:=by obtain ⟨v,c,d⟩:=h;obtain ⟨j,e,f⟩:=R.jX d i g;exact ⟨j,vm e c,f⟩
theorem Bd.same (R:Bd n L most T len m wt pt pw) (h:m t a b=some v) (h':m t' a b=some v) (g:t<=s) (e:s<=t') (f:t'<=T):m s a b=some v:=by obtain ⟨i,j,c⟩:=R.jX h g (rC e f);obtain ⟨l,k,d⟩:=R.jX c e f;rw [h'] at d;cases d;rw [c,show i=v by lia]
noncomputable def gY (m:Nat->Nat->Nat->Option Int) (t x:Nat):Int:=(m t x 0).getD 0
theorem Bd.df (R:Bd n L most T len m wt pt pw) (g:0<x) (e:x<n) (f:t<=T):m t x 0=some (gY m t x)/\gY m t x<=0:=by obtain ⟨v,a,b⟩:=(R.told x g e).2;obtain ⟨h,c,d⟩:=R.jX b (dZ t) f;unfold gY;rw [d];exact ⟨U,by show h<=0;exact vm c a⟩
theorem Bd.dU (R:Bd n L most T len m wt pt pw) (c:0<x) (b:x<n) (a:t<T):gY m (t+1) x<=gY m t x:=by obtain ⟨v,e,d⟩:=R.mono _ _ _ _ a (R.df c b (bf a)).1;have:=(R.df (t:=t+1) c b a).1;rw [d] at this;have:=ft this;lia
theorem Bd.mP (R:Bd n L most T len m wt pt pw) (e:0<x) (c:x<n) (d:t<=T):Kn m t 0 x L:=by obtain ⟨v,a,b⟩:=(R.told x e c).1;exact R.kn ⟨v,a,b⟩ (dZ t) d
def lh (n:Nat) (L:Int) (m:Nat->Nat->Nat->Option Int) (t x:Nat):Prop:= -L<=gY m t x/\∀z,0<z->z<n->z≠x->Kn m t x z (gY m t x+max L (-gY m t z))
def xr (n:Nat) (m:Nat->Nat->Nat->Option Int) (t x:Nat) (l:List Nat):Prop:=l.Nodup/\x∈l/\(∀z∈l,0<z/\z<n)/\∀z∈l,z≠x->Kn m t x z (gY m t x-gY m t z)
theorem lh.next (R:Bd n L most T len m wt pt pw) (i:0<x) (g:x<n) (d:t<T) (h:lh n L m t x) (e:m (t+1) x 0=m t x 0):lh n L m (t+1) x:=by
 have a:gY m (t+1) x=gY m t x:=by unfold gY;rw [e]
 refine ⟨by rw [a];exact h.1,λz b c f=>?_⟩;have j:=R.dU b c d;rw [a];exact (R.kn (h.2 z b c f) (lb t) d).le (by omega)
theorem xr.next (R:Bd n L most T len m wt pt pw) (c:t<T) (h:xr n m t x l) (e:m (t+1) x 0=m t x 0):xr n m (t+1) x l:=by
 have d:gY m (t+1) x=gY m t x:=by unfold gY;rw [e]
 obtain ⟨f,g,a,i⟩:=h;refine ⟨f,g,a,λz b j=>?_⟩;have:=R.dU (a z b).1 (a z b).2 c;rw [d];exact (R.kn (i z b j) (lb t) c).le (by lia)
theorem lh.Ak (R:Bd n L most T len m wt pt pw) (f:0<x) (c:x<n) (h:lh n L m s x):∀d,s+d<=T->m (s+d) x 0=m s x 0->lh n L m (s+d) x
 | 0,_,_=>h
 | d+1,b,e=>by have a:=(R.df (t:=s) f c (by lia)).1;have g:m (s+(d+1)) x 0=some (gY m s x):=e.trans a;have i:=R.same a g (s:=s+d) jf (by exact iC gR) b;exact lh.next R (t:=s+d) f c (by exact b) (lh.Ak R f c h d (by exact bf b) (i.trans a.symm)) (g.trans i.symm)
theorem Bd.looked (R:Bd n L most T len m wt pt pw) (a:s<T) (h:pt s x 0) (f:0<x) (d:x<n) (e:m (s+1) x 0=m s x 0):lh n L m (s+1) x:=by
 obtain ⟨c,_⟩:=R.df (t:=s) f d (bf a);have b:gY m (s+1) x=gY m s x:=by unfold gY;rw [e]
 obtain ⟨p,u,i⟩:=R.mP f d (bf a);have r:=R.bar _ _ _ _ _ a h c i;refine ⟨by rw [b];lia,λz k l o=>?_⟩;obtain ⟨q,v,j⟩:=R.mP k l (bf a);obtain ⟨y,A,g⟩:=R.sum _ _ _ _ _ _ a h c j (aK o);refine ⟨y,?_,g⟩;rw [b];lia
theorem Bd.vL (R:Bd n L most T len m wt pt pw) (d:0<x) (c:x<n) (b:t<=T) (h0:len t0<=t) (i:t0<=t) (e:m t x 0=m t0 x 0):lh n L m t x:=by have a:=(R.df (t:=t) d c b).1;obtain ⟨s,g,k,h⟩:=R.fQ t0 t x 0 _ b h0 i (e.symm.trans a) a;have f:=R.same h a (s:=s+1) (by exact iC gR) (by exact g) b;have j:=R.looked (gz g b) k d c (f.trans h.symm);have:=lh.Ak R d c j (t-(s+1)) (by lia);rw [show s+1+(t-(s+1))=t by omega] at this;exact this (a.trans f.symm)
theorem Bd.over (R:Bd n L most T len m wt pt pw) (a:t<T) (b:0<x) (d:x<n) (g:c≠0) (s:pt t x c) (j:m t x c=some v) (h:m t c 0=some q) (e:m (t+1) x 0=some y) (C:v+q<=y) (r:m (t+1) x 0≠m t x 0):
 c<n/\c≠x/\gY m t c=q/\gY m (t+1) x=v+q/\gY m (t+1) x<gY m t x/\gY m (t+1) c<=q:=by
 obtain ⟨_,f,A⟩:=R.lt _ _ _ _ (bf a) j;have i:=(R.df (t:=t) (x:=c) (qE g) f (bf a)).1;rw [h] at i;have l:=ft i;obtain ⟨z,E,p⟩:=R.sum _ _ _ _ _ _ a s j h (show x≠0 by exact wZ b);rw [e] at p;have k:=(R.df (t:=t+1) b d a).1;rw [e] at k;have o:=ft k;have u:=(R.df (t:=t) b d (bf a)).1;have D:=R.dU b d a;have B:=R.dU (x:=c) (qE g) f a;refine ⟨f,aK A,l.symm,by lia,?_,by lia⟩;have:gY m (t+1) x≠gY m t x:=λz=>r (by rw [u,e,<-z,o]);lia
theorem Bd.pB (R:Bd n L most T len m wt pt pw) (a:t<T) (l:0<x) (k:x<n) (B:c≠0) (d:pt t x c) (b:m t x c=some v) (F:m t c 0=some q) (I:m (t+1) x 0=some y) (D:v+q<=y) (E:m (t+1) x 0≠m t x 0) (h:lh n L m t c):lh n L m (t+1) x:=by
 obtain ⟨V,C,f,N,W,S⟩:=R.over a l k B d b F I D E;obtain ⟨O,g⟩:=h;obtain ⟨u,G,o⟩:=g x l k (aK C);have Q:=R.bar _ _ _ _ _ a d b o;rw [f] at G;refine ⟨by lia,λz i j A=>?_⟩;have Z:=R.dU i j a
 by_cases e:z=c
 ·subst e;obtain ⟨J,X,r⟩:=R.mono _ _ _ _ a b;exact ⟨J,by omega,r⟩
 ·obtain ⟨u',H,p⟩:=g z i j e;obtain ⟨M,Y,s⟩:=R.sum _ _ _ _ _ _ a d b p (aK A);rw [f] at H;exact ⟨M,by omega,s⟩
theorem Bd.n7 (R:Bd n L most T len m wt pt pw) (b:t<T) (p:0<x) (k:x<n) (C:c≠0) (g:pt t x c) (d:m t x c=some v) (G:m t c 0=some q) (M:m (t+1) x 0=some y) (E:v+q<=y) (F:m (t+1) x 0≠m t x 0) (h:xr n m t c l):xr n m (t+1) x (x::l):=by
 obtain ⟨X,D,i,Q,Y,W⟩:=R.over b p k C g d G M E F;obtain ⟨B,S,f,j⟩:=h;have J:x∉l:=λz=>by obtain ⟨x1,H,r⟩:=j x z (aK D);have V:=R.bar _ _ _ _ _ b g d r;rw [i] at H;lia
 refine ⟨List.nodup_cons.mpr ⟨J,B⟩,gw,λz a=>?_,λz a o=>?_⟩
 ·rcases f'.mp a with rfl | a
  ·exact ⟨p,k⟩
  ·exact f z a
 ·rcases f'.mp a with e | a
  ·exact absurd e o
  ·have hzr:=R.dU (f z a).1 (f z a).2 b
   by_cases e:z=c
   ·subst e;obtain ⟨N,Z,u⟩:=R.mono _ _ _ _ b d;exact ⟨N,by lia,u⟩
   ·obtain ⟨u',I,s⟩:=j z a e;obtain ⟨O,UX,A⟩:=R.sum _ _ _ _ _ _ b g d s (aK o);rw [i] at I;exact ⟨O,by lia,A⟩
noncomputable def gen (a:Nat->Nat):Nat->Nat
 | 0=>0
 | g+1=>a (gen a g)
def vy (n:Nat) (a:Int) (m:Nat->Nat->Nat->Option Int) (b:Nat->Nat->Nat->Prop) (t:Nat):Prop:=(∃c,b t c 0)\/∃x y,0<x/\x<n/\m (t+1) x 0=some y/\m (t+1) x 0≠m t x 0/\-a<=y
def vB (n:Nat) (L:Int) (m:Nat->Nat->Nat->Option Int) (k t0 t:Nat):Prop:=∀x,0<x->x<n->lh n L m t x\/∃l,xr n m t x l/\(k+1<=l.length\/(k<=l.length/\m t x 0=m t0 x 0))
theorem Bd.oh (R:Bd n L most T len m wt pt pw) (d:t<T) (u:¬vy n most m pt t) (h:vB n L m k t0 t):vB n L m k t0 (t+1):=λx g b=>by
 by_cases e:m (t+1) x 0=m t x 0
 ·rcases h x g b with f | ⟨l,c,a⟩
  ·exact .inl (f.next R g b d e)
  ·refine .inr ⟨l,c.next R d e,?_⟩;rcases a with a | ⟨a,A⟩
   ·exact .inl a
   ·exact .inr ⟨a,e.trans A⟩
 ·rcases R.cause t x 0 d e with ⟨c,v,q,y,i,o,s,r,j,p⟩ | ⟨c,i,_⟩ | ⟨D,y,_,j,C⟩
  ·obtain ⟨B,_⟩:=R.over d g b o i s r j p e;rcases h c (qE o) B with f | ⟨l,z,a⟩
   ·exact .inl (R.pB d g b o i s r j p e f)
   ·refine .inr ⟨x::l,R.n7 d g b o i s r j p e z,.inl ?_⟩;rw [ji];rcases a with a | ⟨a,_⟩<;>lia
  ·exact absurd (.inl ⟨c,i⟩) u
  ·exact absurd (.inr ⟨x,y,g,b,j,e,C⟩) u
theorem Bd.kj (R:Bd n L most T len m wt pt pw) (c:∀t,t0<=t->t<len t0->¬vy n most m pt t) (h:vB n L m k t0 t0):∀d,t0+d<=T->t0+d<=len t0->vB n L m k t0 (t0+d)
 | 0,_,_=>h
 | d+1,a,b=>R.oh (t:=t0+d) (by exact a) (c (t0+d) jf (by exact b)) (R.kj c h d (by exact bf a) (by exact bf b))
theorem Bd.oi (R:Bd n L most T len m wt pt pw) (h0:t0<=len t0) (b:len t0<=T) (i:∀t,t0<=t->t<len t0->¬vy n most m pt t) (h:vB n L m k t0 t0):vB n L m (k+1) (len t0) (len t0):=λx g d=>by
 have:=R.kj i h (len t0-t0) (CS h0 b) (zO h0);rw [show t0+(len t0-t0)=len t0 by exact mz h0] at this;rcases this x g d with f | ⟨l,c,a⟩
 ·exact .inl f
 ·rcases a with a | ⟨_,e⟩
  ·exact .inr ⟨l,c,.inr ⟨a,U⟩⟩
  ·exact .inl (R.vL g d b (ay _) h0 e)
theorem Bd.jz (R:Bd n L most T len m wt pt pw) (h:gen len g<=T) (b:gen len (g+1)<=T):gen len g<=gen len (g+1):=by
 by_cases c:gen len g=T
 ·rw [c];show T<=len (gen len g);rw [c];have:gen len (g+1)=len T:=by show len (gen len g)=_;rw [c]
  by_cases z:T=0
  ·lia
  ·have d:=R.go (T-1) (Q2 z);have a:=R.we (T-1) (Q2 z);rw [show T-1+1=T by lia] at a;omega
 ·exact bf (R.go _ (zR h c))
theorem Bd.km (R:Bd n L most T len m wt pt pw):∀k,gen len (g+k)<=T->(∀i,i<=k->gen len (g+i)<=T)->(∀t,gen len g<=t->t<gen len (g+k)->¬vy n most m pt t)->(∀i,i<=k->gen len g<=gen len (g+i))->(∀i,i<k->gen len (g+i)<=gen len (g+k))->vB n L m (k+1) (gen len (g+k)) (gen len (g+k))
 | 0,_,_,_,_,_=>λx y s=>.inr ⟨[x],⟨List.nodup_cons.mpr ⟨by simp,xg⟩,gw,λz e=>by rw [ig.mp e];exact ⟨y,s⟩,λz e u=>absurd (ig.mp e) u⟩,.inr ⟨ay _,U⟩⟩
 | k+1,q,d,o,l,v=>by
  have h:gen len (g+k)<=gen len (g+(k+1)):=v k (by exact gR);have f:=R.km (g:=g) k (d k (by exact iC gR)) (λi c=>d i (by exact iC c)) (λt a b=>o t a (gz b h)) (λi c=>l i (by exact iC c)) (λi c=>by
   have p:∀j,j<=k-i->gen len (g+i)<=gen len (g+(i+j)):=λj=>by
    induction j with
    | zero=>intro _;exact ay _
    | succ j f=>
     intro r;exact cP (f (by exact bf r)) (R.jz (g:=g+(i+j)) (d (i+j) (by lia)) (d (i+j+1) (by lia)))
   have:=p (k-i) (ay _)
   rwa [show i+(k-i)=k by exact XR c] at this)
  exact R.oi (t0:=gen len (g+k)) h q (λt a b=>o t (by have:=l k (by exact iC gR);exact rC this a) b) f
end
end MH
set_option maxRecDepth 4000
namespace MH
theorem va {P:Nat->Prop} (a:Nat->Nat->Prop) (h:∀i,i<N->P i->∃c,c<M/\a i c) (o:∀i j c,i<j->j<N->P i->P j->a i c->a j c->False):cnt P N<=M:=by
 classical
 refine ϡ (λi=>if z:∃c,c<M/\a i c then Classical.choose z else 0) (λi b d=>?_) (λi j k b d g e=>?_)
 ·have z:=h i b d;show (if z:∃c,c<M/\a i c then Classical.choose z else 0)<M;rw [dif_pos z];exact (Nm z).1
 ·have l:=h i (CQ k b) d;have m:=h j b g;have e:(if z:∃c,c<M/\a i c then Classical.choose z else 0)=(if z:∃c,c<M/\a j c then Classical.choose z else 0):=e;rw [dif_pos l,dif_pos m] at e;have n:=(Nm l).2;have f:=(Nm m).2;rw [<-e] at f;exact o i j _ k b d g n f
theorem OR {P:Nat->Prop}:∀{N:Nat},(∀i,i<N->P i)->cnt P N=N
 | 0,_=>rfl
 | N+1,h=>by rw [o9 (h N (by exact gR)),OR λi a=>h i (by exact iC a)]
theorem dec {k a r a' r':Nat} (d:r<k) (f:r'<k) (h:a*k+r=a'*k+r'):a=a'/\r=r':=by
 have c:0<k:=Xr d;have b:(a*k+r) / k=a:=by rw [Fx,Nat.add_mul_div_right _ _ c,Nat.div_eq_of_lt d,Fm]
 have e:(a'*k+r') / k=a':=by rw [Fx,Nat.add_mul_div_right _ _ c,Nat.div_eq_of_lt f,Fm]
 rw [h,e] at b;subst b;exact ⟨U,by lia⟩
theorem enc {k a r N:Nat} (c:a<N) (d:r<k):a*k+r<N*k:=by have b:(a+1)*k<=N*k:=Nat.mul_le_mul_right _ c;rw [Nat.add_mul,Nat.one_mul] at b;exact oC b d
noncomputable def kc (a b:Nat):Nat:=a*7+if b<a then b else b-1
def N8 (a b:Nat):Prop:=a<8/\b<8/\a≠b
theorem o5 (h:N8 a b):kc a b<56:=by obtain ⟨c,d,e⟩:=h;unfold kc;split<;>lia
theorem tD {a b c b':Nat} (h:N8 a b) (h':N8 c b') (e:kc a b=kc c b'):a=c/\b=b':=by obtain ⟨g,i,j⟩:=h;obtain ⟨k,l,m⟩:=h';unfold kc at e;obtain ⟨f,d⟩:=dec (show (if b<a then b else b-1)<7 by split<;>omega) (show (if b'<c then b' else b'-1)<7 by split<;>omega) e;subst f;refine ⟨U,?_⟩;split at d<;>split at d<;>lia
section
variable {n l mo T:Nat}
theorem Bd.lU (R:Bd n L most T len m wt pt pw):∀d,t0+d<=T->len (t0+d)<=len t0+20*cnt (λi=>∃a b,pt (t0+i) a b) d+8*cnt (λi=>∃a b,pw (t0+i) a b) d
 | 0,_=>by show len t0<=_;exact gR
 | d+1,h=>by
  have g:=R.lU (t0:=t0) d (by exact bf h);have e:t0+d<T:=by exact h
  show len (t0+d+1)<=_
  by_cases c:∃a b,pt (t0+d) a b
  ·rw [o9 c];have j:=R.grow (t0+d) e;have k:cnt (λi=>∃a b,pw (t0+i) a b) d<=cnt (λi=>∃a b,pw (t0+i) a b) (d+1):=by
    by_cases z:∃a b,pw (t0+d) a b
    ·rw [o9 z];exact iC gR
    ·rw [rh z];exact gR
   lia
  ·rw [rh c];have f:∀a b,¬pt (t0+d) a b:=λa b z=>c ⟨a,b,z⟩
   by_cases z:∃a b,pw (t0+d) a b
   ·rw [o9 z];have:=R.uA (t0+d) e f;lia
   ·rw [rh z];have:=R.uB (t0+d) e f λa b q=>z ⟨a,b,q⟩;exact zev this g
theorem Bd.pO (R:Bd n L most T len m wt pt pw):∀d,t+d<=T->len t<=len (t+d)
 | 0,_=>ay _
 | d+1,h=>cP (R.pO d (by exact bf h)) (R.we (t+d) (by exact h))
theorem Bd.eW (R:Bd n L most T len m wt pt pw) (h:t<=t') (a:t'<=T):len t<=len t':=by
 have:=R.pO (t:=t) (t'-t) (CS h a)
 rwa [show t+(t'-t)=t' by exact mz h] at this
theorem Bd.mQ (R:Bd n L most T len m wt pt pw) (f:t0+d<=T) (J:t0+d<=len t0):len (t0+d)<=len t0+1568:=by
 have h:=R.lU d f;have g:=R.n8;have H:cnt (λi=>∃a b,pt (t0+i) a b) d<=56:=by
  refine va (λi c=>∃a b,pt (t0+i) a b/\N8 a b/\c=kc a b) (λi x s=>?_) (λi j c y z _ _ p r=>?_)
  ·obtain ⟨a,b,e⟩:=s;obtain ⟨v,G⟩:=R.known _ _ _ (show t0+i<T by exact oC f x) e;obtain ⟨B,C,D⟩:=R.lt _ _ _ _ (show t0+i<=T by lia) G;have q:N8 a b:=⟨gz B g,gz C g,D⟩;exact ⟨_,o5 q,a,b,e,q,U⟩
  ·obtain ⟨a,b,e,t,k⟩:=p;obtain ⟨E,F,A,u,o⟩:=r;obtain ⟨rfl,rfl⟩:=tD t u (k.symm.trans o);have:=R.once _ _ _ _ (show t0+i<t0+j by exact qB y) (oC f z) e A;have:=R.eW (show t0<=t0+i by exact jf) (by lia);lia
 have I:cnt (λi=>∃a b,pw (t0+i) a b) d<=56:=by
  refine va (λi c=>∃a b,pw (t0+i) a b/\N8 a b/\c=kc a b) (λi x s=>?_) (λi j c y z _ _ p r=>?_)
  ·obtain ⟨a,b,e⟩:=s;obtain ⟨B,C,D,_⟩:=R.iK _ _ _ (show t0+i<T by exact oC f x) e;have q:N8 a b:=⟨gz B g,gz C g,D⟩;exact ⟨_,o5 q,a,b,e,q,U⟩
  ·obtain ⟨a,b,e,t,k⟩:=p;obtain ⟨E,F,A,u,o⟩:=r;obtain ⟨rfl,rfl⟩:=tD t u (k.symm.trans o);have:=R.m9 _ _ _ _ (show t0+i<t0+j by exact qB y) (oC f z) e A;have:=R.eW (show t0<=t0+i by exact jf) (by lia);lia
 lia
theorem Bd.gens (R:Bd n L most T len m wt pt pw):∀N,((∀i,i<=N->gen len i<=T)/\len (gen len N)<=len 0+1568*N)\/len T<=len 0+1568*N
 | 0=>.inl ⟨λi g=>by rw [show i=0 by lia];exact dZ _,ay _⟩
 | N+1=>by
  rcases R.gens N with ⟨h,f⟩ | h
  ·have a:=h N (ay _)
   by_cases c:gen len (N+1)<=T
   ·refine .inl ⟨λi g=>?_,?_⟩
    ·by_cases e:i=N+1
     ·rw [e];exact c
     ·exact h i (by lia)
    ·have b:=R.jz a c;have:=R.mQ (t0:=gen len N) (d:=gen len (N+1)-gen len N) (by lia) (by show _<=gen len (N+1);exact zO b);rw [show gen len N+(gen len (N+1)-gen len N)=gen len (N+1) by exact mz b] at this;rw [Nat.mul_succ,<-B3];exact cP this (yV f _)
   ·right;have:=R.mQ (t0:=gen len N) (d:=T-gen len N) (zO a) (by show _<=gen len (N+1);lia);rw [show gen len N+(T-gen len N)=T by exact mz a] at this;rw [Nat.mul_succ,<-B3];exact cP this (yV f _)
  ·right;rw [Nat.mul_succ,<-B3];exact cP h (oq _ _)
theorem Bd.cT (R:Bd n L most T len m wt pt pw) (h:∀i,i<=N->gen len i<=T):∀j,i+j<=N->gen len i<=gen len (i+j)
 | 0,_=>ay _
 | j+1,a=>cP (R.cT h j (by exact bf a)) (R.jz (g:=i+j) (h (i+j) (by exact bf a)) (h (i+j+1) (by omega)))
theorem Bd.narrow (R:Bd n (l:Int) (mo:Int) T len m wt pt pw) (h:∀i,i<=g+7->gen len i<=T) (D:∀t,gen len g<=t->t<gen len (g+7)->¬vy n (mo:Int) m pt t):∀a b,a<n->b<n->a≠b->Kn m (gen len (g+7)) a b (l:Int):=by
 have d:=h (g+7) (ay _);have c:=R.km (g:=g) 7 d (λi j=>h _ (vo j)) D (λi j=>R.cT h i (vo j)) (λi j=>by
  have:=R.cT h (i:=g+i) (7-i) (by lia)
  rwa [show g+i+(7-i)=g+7 by lia] at this)
 have A:=R.n8;have u:∀x,0<x->x<n->lh n (l:Int) m (gen len (g+7)) x:=λx E C=>by
  rcases c x E C with f | ⟨F,⟨v,_,s,_⟩,H⟩
  ·exact f
  ·exfalso;have:=vh 8 (0::F) (List.nodup_cons.mpr ⟨λz=>by have:=(s 0 z).1;exact iB (jA 0 this),v⟩) (λz r=>by
    rcases f'.mp r with e | r
    ·lia
    ·have:=(s z r).2;exact gz this A)
   rw [ji] at this;lia
 intro a b p q B
 by_cases e:a=0
 ·subst e;exact R.mP (by lia) q d
 ·by_cases k:b=0
  ·subst k;obtain ⟨o,y⟩:=R.df (t:=gen len (g+7)) (qE e) p d;exact ⟨_,by lia,o⟩
  ·have o:=(u a (qE e) p).2 b (qE k) q (aK B);have y:=(u b (qE k) q).1;have G:=(R.df (t:=gen len (g+7)) (x:=a) (qE e) p d).2;exact o.le (by lia)
theorem Bd.quiet (R:Bd n (l:Int) (mo:Int) T len m wt pt pw) {N:Nat} (hN:N=7*(l+1)+7*(mo+1)+1) (O:∀i,i<=7*N->gen len i<=T):∃b,b<N/\∀t,gen len (7*b)<=t->t<gen len (7*b+7)->¬vy n (mo:Int) m pt t:=by
 refine gh λZ=>?_;have hs:∀b,b<N->∃t,gen len (7*b)<=t/\t<gen len (7*b+7)/\vy n (mo:Int) m pt t:=λb p=>by refine gh λh=>Z ⟨b,p,λt j e G=>h ⟨t,j,e,G⟩⟩
 have B:=R.n8;have W:∀{b t},b<N->t<gen len (7*b+7)->t<T:=λ{b t} p k=>by have:=O (7*b+7) (by lia);exact gz k this
 have key:=va (P:=λ_=>True) (N:=N) (M:=7*(l+1)+7*(mo+1)) (λb c=>∃t,gen len (7*b)<=t/\t<gen len (7*b+7)/\((∃x r,pt t (x+1) 0/\x<7/\r<l+1/\m t (x+1) 0=some (-(r:Int))/\c=x*(l+1)+r)\/
  ∃x r,x<7/\r<mo+1/\m (t+1) (x+1) 0=some (-(r:Int))/\m (t+1) (x+1) 0≠m t (x+1) 0/\c=7*(l+1)+(x*(mo+1)+r))) (λb p _=>by
  obtain ⟨t,j,e,G⟩:=hs b p;have k:=W p e;rcases G with ⟨x,q⟩ | ⟨x,y,H,J,S,qG,EJ⟩
  ·obtain ⟨v,o⟩:=R.known _ _ _ k q;obtain ⟨D,_,V⟩:=R.lt _ _ _ _ (bf k) o;obtain ⟨d,g⟩:=R.df (t:=t) (x:=x) (qE V) D (bf k);rw [o] at d;have d:=ft d;obtain ⟨x1,L6,lT⟩:=R.mP (t:=t) (x:=x) (qE V) D (bf k);have p:=R.bar _ _ _ _ _ k q o lT;have f:(-v).toNat<l+1:=by lia
   obtain ⟨x,rfl⟩:∃z,x=z+1:=⟨x-1,by lia⟩;exact ⟨x*(l+1)+(-v).toNat,by have:=enc (a:=x) (N:=7) (show x<7 by exact CT D B) f;exact JE this,t,j,e,.inl ⟨x,(-v).toNat,q,CT D B,f,by rw [o];congr 1;lia,U⟩⟩
  ·obtain ⟨d,g⟩:=R.df (t:=t+1) H J (show t+1<=T by exact k);rw [S] at d;have d:=ft d;have f:(-y).toNat<mo+1:=by lia
   obtain ⟨x,rfl⟩:∃z,x=z+1:=⟨x-1,by lia⟩;exact ⟨7*(l+1)+(x*(mo+1)+(-y).toNat),by have:=enc (a:=x) (N:=7) (show x<7 by exact CT J B) f;exact qB this,t,j,e,.inr ⟨x,(-y).toNat,CT J B,f,by rw [S];congr 1;lia,qG,U⟩⟩)
  (λb F c Y X _ _ j e=>by
   obtain ⟨t,_,t2,j⟩:=j;obtain ⟨t',t1',Kt,e⟩:=e;have Q:t<t':=by have:=R.cT O (i:=7*b+7) (7*F-(7*b+7)) (by omega);rw [show 7*b+7+(7*F-(7*b+7))=7*F by exact QA Y] at this;lia
   have L:=W X Kt;rcases j with ⟨x,r,q,H,f,o,d⟩ | ⟨x,r,_,f,o,_,d⟩
   ·rcases e with ⟨A,E,EI,I,u,C,g⟩ | ⟨A,E,_,_,_,_,g⟩
    ·obtain ⟨rfl,rfl⟩:=dec f u (d.symm.trans g);have:=R.drop _ _ _ _ _ _ Q L q EI o C;lia
    ·have:=enc (a:=x) (N:=7) H f;exact Q6 this g d
   ·rcases e with ⟨A,E,_,I,u,_,g⟩ | ⟨A,E,I,u,C,LC,g⟩
    ·have:=enc (a:=A) (N:=7) I u;exact Q6 this d g
    ·obtain ⟨rfl,rfl⟩:=dec f u (show x*(mo+1)+r=A*(mo+1)+E by exact Q1 d g);have:=R.same o C (s:=t') (by exact Q) (by exact iC gR) (by exact L);exact LC (C.trans this.symm))
 rw [OR λi _=>trivial] at key;lia
end
section
variable {n l mo T:Nat}
theorem Bd.wN (R:Bd n L most T len m wt pt pw) (k:t<T):∃g,(∀i,i<=g->gen len i<=t)/\t<gen len (g+1):=by
 have d:∀N,(∀i,i<=N->gen len i<=t/\i<=gen len i)\/∃g,(∀i,i<=g->gen len i<=t)/\t<gen len (g+1):=by
  intro N
  induction N with
  | zero=>exact .inl λi a=>by rw [show i=0 by lia];exact ⟨dZ _,dZ _⟩
  | succ N b=>
   rcases b with h | h
   ·by_cases c:gen len (N+1)<=t
    ·refine .inl λi a=>?_
     by_cases e:i=N+1
     ·rw [e];have f:=h N (ay _);have j:gen len N<gen len (N+1):=R.go (gen len N) (by lia);exact ⟨c,by lia⟩
     ·exact h i (by lia)
    ·exact .inr ⟨N,λi a=>(h i a).1,vp c⟩
   ·exact .inr h
 rcases d (t+1) with h | h
 ·have:=h (t+1) (ay _);omega
 ·exact h
theorem Bd.lV (R:Bd n L most T len m wt pt pw) (h:∀i,i<=g'->gen len i<=t) (c:t<=T) (a:g<=g'):gen len g<=gen len g':=by
 have:=R.cT (N:=g') (λi b=>cP (h i b) c) (i:=g) (g'-g) (zO a)
 rwa [show g+(g'-g)=g' by exact mz a] at this
theorem Bd.jO (R:Bd n L most T len m wt pt pw) (f:0<=B) (g:t<=T) (h:∀x y v,m t x y=some v->-B<=v):∀s,s<=t->∀a b v,wt s a b=some v->v<=most+B
 | 0,_,a,b,v,e=>by rw [R.uc] at e;cases e
 | s+1,i,a,b,v,e=>by
  by_cases c:wt (s+1) a b=wt s a b
  ·exact R.jO f g h s (by exact bf i) a b v (c▸e)
  ·obtain ⟨y,d,o⟩:=R.ph s a b B (by lia) f (λx y r j=>by
    obtain ⟨q,p,k⟩:=R.jX j i g;have:=h x y q k;exact vm this p) c
   rw [e] at d;cases d;exact o
theorem Bd.Ap (R:Bd n (l:Int) (mo:Int) T len m wt pt pw) (D:∀i,i<=g+1->gen len i<=T) (N:∀a b,a<n->b<n->a≠b->Kn m (gen len g) a b (l:Int))
 (F:∀k,gen len g<=k->k<gen len (g+1)->(∀a b,¬pt k a b)/\∀a b,m (k+1) a b=m k a b) (h1:gen len g<=t) (z:t<gen len (g+1)) (j:pw t a b) (p:wt t a b=some v):1-(l:Int)<=v/\v<=(mo:Int)+l:=by
 have f:=D (g+1) (ay _);have E:=R.jz (D g (by exact iC gR)) f;have same:∀x y d,gen len g+d<=gen len (g+1)->m (gen len g+d) x y=m (gen len g) x y:=λx y d=>by
  induction d with
  | zero=>intro _;rfl
  | succ d W=>exact λC=>((F (gen len g+d) jf (by exact C)).2 x y).trans (W (by exact bf C))
 have M:∀x y,m (gen len (g+1)) x y=m (gen len g) x y:=λx y=>by
  have:=same x y (gen len (g+1)-gen len g) (by lia)
  rwa [show gen len g+(gen len (g+1)-gen len g)=gen len (g+1) by lia] at this
 have B:∀x y q,m (gen len (g+1)) x y=some q->∃s,s<gen len g/\pt s x y/\m s x y=some q:=λx y q h=>by obtain ⟨s,A,j,p⟩:=R.fQ (gen len g) (gen len (g+1)) x y q f (ay _) E ((M x y).symm.trans h) h;refine ⟨s,?_,j,p⟩;refine gh λc=>?_;exact (F s (by exact kZ c) A).1 x y j
 have G:∀x y,x<n->y<n->x≠y->Kn m (gen len (g+1)) x y (l:Int):=λx y Q V S=>R.kn (N x y Q V S) E f;have low:∀x y q,m (gen len (g+1)) x y=some q->-(l:Int)<=q:=λx y q h=>by
  obtain ⟨x1,x2,L⟩:=R.lt _ _ _ _ f h;obtain ⟨q',O,o⟩:=G y x x2 x1 (aK L);obtain ⟨s,A,r,u⟩:=B x y q h;obtain ⟨I,Vb,H,J⟩:=B y x q' o;rcases Bz s I with c | c | c
  ·have:=R.same u h (s:=I) (by exact bf c) (by lia) f;have:=R.bar _ _ _ _ _ (by lia) H J this;lia
  ·subst c;have:=(R.one _ _ _ _ _ (by lia) r H).1;exact iB (L this)
  ·have:=R.same J o (s:=s) (by exact bf c) (by lia) f;have:=R.bar _ _ _ _ _ (by lia) r u this;lia
 refine ⟨?_,R.jO (yT l) f (λx y v e=>low x y v e) t (by exact bf z) a b v p⟩;obtain ⟨X,Y,Z,_⟩:=R.iK _ _ _ (gz z f) j;obtain ⟨q,O,o⟩:=G a b X Y Z;obtain ⟨s,A,r,u⟩:=B a b q o;have:=R.aS _ _ _ _ _ _ (by lia) r u (show s<=t by lia) (gz z f) j p;lia
theorem Bd.after (R:Bd n (l:Int) (mo:Int) T len m wt pt pw) (Vn:∀i,i<=g1->gen len i<=T) (hk:∀a b,a<n->b<n->a≠b->Kn m (gen len g1) a b (l:Int)):
 len T<=len (gen len g1)+20*(56*(2*l+1))+8*((56*(2*l+1)+56*(mo+l+1))*56+(56*(mo+2*l+1)+56)):=by
 have h1:=Vn g1 (ay _);have A:=R.n8;have g:=R.lU (t0:=gen len g1) (T-gen len g1) (zO h1);rw [show gen len g1+(T-gen len g1)=T by exact mz h1] at g;have kn:∀t x y,gen len g1<=t->t<=T->x<n->y<n->x≠y->Kn m t x y (l:Int):=λt x y ht q hx Y Li=>R.kn (hk x y hx Y Li) ht q;have tie:∀t a b,gen len g1<=t->t<T->pt t a b->∃r,a<8/\N8 a b/\r<2*l+1/\m t a b=some ((r:Int)-l):=λt a b x6 h' e=>by obtain ⟨x7,X⟩:=R.known _ _ _ h' e;obtain ⟨G,Z,l3⟩:=R.lt _ _ _ _ (bf h') X;obtain ⟨v1,hle,z⟩:=kn t a b x6 (bf h') G Z l3;rw [X] at z;cases z;obtain ⟨rE,hu,eu⟩:=kn t b a x6 (bf h') Z G (aK l3);have:=R.bar _ _ _ _ _ h' e X eu;exact ⟨(x7+l).toNat,gz G A,⟨gz G A,gz Z A,l3⟩,by lia,by rw [X];congr 1;lia⟩
 have c1:cnt (λi=>∃a b,pt (gen len g1+i) a b) (T-gen len g1)<=56*(2*l+1):=by
  refine va (λi c=>∃a b r,pt (gen len g1+i) a b/\a<8/\N8 a b/\r<2*l+1/\m (gen len g1+i) a b=some ((r:Int)-l)/\c=kc a b*(2*l+1)+r) (λi hi p=>?_) (λi j c W hj _ _ h u=>?_)
  ·obtain ⟨a,b,e⟩:=p;obtain ⟨r,B,f,L,x4⟩:=tie _ a b (oq _ _) (vn hi) e;exact ⟨_,enc (o5 f) L,a,b,r,e,B,f,L,x4,U⟩
  ·obtain ⟨a,b,r,e,_,f,L,x4,z⟩:=h;obtain ⟨a',b',r',F,y1,C,y3,y4,V⟩:=u;obtain ⟨E,rfl⟩:=dec L y3 (z.symm.trans V);obtain ⟨rfl,rfl⟩:=tD f C E;have:=R.drop _ _ _ _ _ _ (show gen len g1+i<gen len g1+j by exact qB W) (vn hj) e F x4 y4;lia
 have c2:cnt (λi=>∃a b,pw (gen len g1+i) a b) (T-gen len g1)<=(56*(2*l+1)+56*(mo+l+1))*56+(56*(mo+2*l+1)+56):=by
  let O:Nat->Nat->Prop:=λt g=>(∀i,i<=g->gen len i<=t)/\t<gen len (g+1)/\gen len (g+1)<=T
  let S:Nat->Prop:=λd=>(∃a b,pt d a b)\/∃a b,m (d+1) a b≠m d a b
  have up:∀{t g},gen len g1<=t->t<T->(∀i,i<=g->gen len i<=t)->t<gen len (g+1)->g1<=g:=λ{t g} x6 _ _ u=>by refine gh λc=>?_;have:=R.cT Vn (i:=g+1) (g1-(g+1)) (by lia);rw [show g+1+(g1-(g+1))=g1 by omega] at this;lia
  have s1:=Hi (P:=λi=>∃a b,pw (gen len g1+i) a b/\gen len g1+i<T) (Q:=λi=>(∃a b,pw (gen len g1+i) a b)/\∃g,O (gen len g1+i) g/\∃d,gen len g<=d/\d<gen len (g+1)/\S d)
   (R:=λi=>(∃a b,pw (gen len g1+i) a b)/\((∃g,O (gen len g1+i) g/\∀d,gen len g<=d->d<gen len (g+1)->¬S d)\/∃g,gen len g<=gen len g1+i/\T<gen len (g+1))) (λi p=>by
    obtain ⟨a,b,e,q⟩:=p;obtain ⟨g,h,u⟩:=R.wN q
    by_cases c:gen len (g+1)<=T
    ·by_cases x5:∃d,gen len g<=d/\d<gen len (g+1)/\S d
     ·exact .inl ⟨⟨a,b,e⟩,g,⟨h,u,c⟩,x5⟩
     ·exact .inr ⟨⟨a,b,e⟩,.inl ⟨g,⟨h,u,c⟩,λd y1 C y3=>x5 ⟨d,y1,C,y3⟩⟩⟩
    ·exact .inr ⟨⟨a,b,e⟩,.inr ⟨g,h g (ay _),vp c⟩⟩) (T-gen len g1)
  have s0:cnt (λi=>∃a b,pw (gen len g1+i) a b) (T-gen len g1)=cnt (λi=>∃a b,pw (gen len g1+i) a b/\gen len g1+i<T) (T-gen len g1):=by
   have:∀N,N<=T-gen len g1->cnt (λi=>∃a b,pw (gen len g1+i) a b) N=cnt (λi=>∃a b,pw (gen len g1+i) a b/\gen len g1+i<T) N:=λN=>by
    induction N with
    | zero=>intro _;rfl
    | succ N ih=>
     intro hN
     by_cases c:∃a b,pw (gen len g1+N) a b
     ·obtain ⟨a,b,e⟩:=c;rw [o9 ⟨a,b,e⟩,o9 (P:=λi=>∃a b,pw (gen len g1+i) a b/\gen len g1+i<T) ⟨a,b,e,XD hN⟩,ih (by exact bf hN)]
     ·rw [rh c,rh (P:=λi=>∃a b,pw (gen len g1+i) a b/\gen len g1+i<T) λ⟨a,b,e,_⟩=>c ⟨a,b,e⟩,ih (by exact bf hN)]
   exact this _ (ay _)
  have s2:=Hi (P:=λi=>(∃a b,pw (gen len g1+i) a b)/\((∃g,O (gen len g1+i) g/\∀d,gen len g<=d->d<gen len (g+1)->¬S d)\/∃g,gen len g<=gen len g1+i/\T<gen len (g+1)))
   (Q:=λi=>(∃a b,pw (gen len g1+i) a b)/\∃g,O (gen len g1+i) g/\∀d,gen len g<=d->d<gen len (g+1)->¬S d) (R:=λi=>(∃a b,pw (gen len g1+i) a b)/\∃g,gen len g<=gen len g1+i/\T<gen len (g+1)) (λi p=>p.2.elim (λx9=>.inl ⟨p.1,x9⟩) λx9=>.inr ⟨p.1,x9⟩) (T-gen len g1)
  have wj:∀{t a b},t<T->pw t a b->a<8/\N8 a b:=λ{t a b} x6 e=>by obtain ⟨B,f,L,_⟩:=R.iK _ _ _ x6 e;exact ⟨gz B A,gz B A,gz f A,L⟩
  have d3:cnt (λi=>(∃a b,pw (gen len g1+i) a b)/\∃g,gen len g<=gen len g1+i/\T<gen len (g+1)) (T-gen len g1)<=56:=by
   refine va (λi c=>∃a b,pw (gen len g1+i) a b/\a<8/\N8 a b/\c=kc a b) (λi hi p=>?_) (λi j c W hj p _ h u=>?_)
   ·obtain ⟨⟨a,b,e⟩,_⟩:=p;obtain ⟨B,f⟩:=wj (show gen len g1+i<T by exact vn hi) e;exact ⟨_,o5 f,a,b,e,B,f,U⟩
   ·obtain ⟨_,g,z3,z4⟩:=p;obtain ⟨a,b,e,_,f,z⟩:=h;obtain ⟨a',b',F,y1,C,V⟩:=u;obtain ⟨rfl,rfl⟩:=tD f C (z.symm.trans V);have H:=R.m9 _ _ _ _ (show gen len g1+i<gen len g1+j by exact qB W) (vn hj) e F;have I:gen len (g+1)<=len (gen len g1+i):=R.eW z3 (by omega);omega
  have d2:cnt (λi=>(∃a b,pw (gen len g1+i) a b)/\∃g,O (gen len g1+i) g/\∀d,gen len g<=d->d<gen len (g+1)->¬S d) (T-gen len g1)<=56*(mo+2*l+1):=by
   refine va (λi c=>∃a b r,pw (gen len g1+i) a b/\a<8/\N8 a b/\r<mo+2*l+1/\wt (gen len g1+i) a b=some ((r:Int)+1-l)/\c=kc a b*(mo+2*l+1)+r) (λi _ p=>?_) (λi j c W _ _ _ h u=>?_)
   ·obtain ⟨⟨a,b,e⟩,g,⟨h,u,z3⟩,z4⟩:=p;have q:gen len g1+i<T:=gz u z3;obtain ⟨B,f⟩:=wj q e;obtain ⟨_,_,_,x7,X⟩:=R.iK _ _ _ q e;have LW:=up (oq _ _) q h u;have Vm:∀i,i<=g+1->gen len i<=T:=λk u1=>by
     by_cases x8:k=g+1
     ·rw [x8];exact z3
     ·have:=h k (by lia);lia
    have hle:gen len g1<=gen len g:=R.lV h (bf q) LW;obtain ⟨y1,C⟩:=R.Ap Vm (λx y hx Y Li=>kn _ x y hle (Vm g (by exact iC gR)) hx Y Li) (λd H I=>⟨λx y F=>z4 d H I (.inl ⟨x,y,F⟩),λx y=>gh λhc=>z4 d H I (.inr ⟨x,y,hc⟩)⟩) (h g (ay _)) u e X;have hr:(x7-1+l).toNat<mo+2*l+1:=by lia
    exact ⟨_,enc (o5 f) hr,a,b,_,e,B,f,hr,by rw [X];congr 1;lia,U⟩
   ·obtain ⟨a,b,r,e,_,f,L,x4,z⟩:=h;obtain ⟨a',b',r',F,y1,C,y3,y4,V⟩:=u;obtain ⟨E,rfl⟩:=dec L y3 (z.symm.trans V);obtain ⟨rfl,rfl⟩:=tD f C E;have:=R.ud _ _ _ _ _ _ (show gen len g1+i<gen len g1+j by exact qB W) (by omega) e F x4 y4;lia
  have d1:cnt (λi=>(∃a b,pw (gen len g1+i) a b)/\∃g,O (gen len g1+i) g/\∃d,gen len g<=d/\d<gen len (g+1)/\S d) (T-gen len g1)<=(56*(2*l+1)+56*(mo+l+1))*56:=by
   refine va (λi c=>∃g d a b v,O (gen len g1+i) g/\gen len g<=d/\d<gen len (g+1)/\pw (gen len g1+i) a b/\a<8/\N8 a b/\c=v*56+kc a b/\
    ((∃x y r,pt d x y/\x<8/\N8 x y/\r<2*l+1/\m d x y=some ((r:Int)-l)/\v=kc x y*(2*l+1)+r)\/
     ∃x y r,x<8/\N8 x y/\r<mo+l+1/\m (d+1) x y=some ((r:Int)-mo)/\m (d+1) x y≠m d x y/\v=56*(2*l+1)+(kc x y*(mo+l+1)+r))) (λi _ p=>?_) (λi j c W _ _ _ h u=>?_)
   ·obtain ⟨⟨a,b,e⟩,g,o,d,t1,t2,Lq⟩:=p;have q:gen len g1+i<T:=gz o.2.1 o.2.2;obtain ⟨B,f⟩:=wj q e;have LW:=up (oq _ _) q o.1 o.2.1;have hle:gen len g1<=gen len g:=R.lV o.1 (bf q) LW;have EG:d<T:=by have:=o.2.2;exact gz t2 o.2.2
    have tc:∀x y,pt d x y->∃v,v<56*(2*l+1)+56*(mo+l+1)/\∃x y r,pt d x y/\x<8/\N8 x y/\r<2*l+1/\m d x y=some ((r:Int)-l)/\v=kc x y*(2*l+1)+r:=λx y D=>by obtain ⟨r,H,I,J,q4⟩:=tie d x y (rC hle t1) EG D;refine ⟨_,?_,x,y,r,D,H,I,J,q4,U⟩;have:=enc (o5 I) J;exact JE this
    have fin:∀v,v<56*(2*l+1)+56*(mo+l+1)->v*56+kc a b<(56*(2*l+1)+56*(mo+l+1))*56:=λv hc=>enc hc (o5 f)
    by_cases c:∃x y,pt d x y
    ·obtain ⟨x,y,D⟩:=c;obtain ⟨v,hc,rest⟩:=tc x y D;exact ⟨_,fin v hc,g,d,a,b,v,o,t1,t2,e,B,f,U,.inl rest⟩
    ·rcases Lq with ⟨x,y,D⟩ | ⟨x,y,qG⟩
     ·exact absurd ⟨x,y,D⟩ c
     ·rcases R.cause d x y EG qG with ⟨c',x7,m8,M,D,_⟩ | ⟨c',D,_⟩ | ⟨e',M,_,Y,EJ⟩
      ·exact absurd ⟨x,c',D⟩ c
      ·exact absurd ⟨c',y,D⟩ c
      ·obtain ⟨G,Z,l3⟩:=R.lt _ _ _ _ (show d+1<=T by exact EG) Y;obtain ⟨v1,hle1,z⟩:=kn (d+1) x y (by lia) (by exact EG) G Z l3;rw [Y] at z;cases z;have hr:(M+mo).toNat<mo+l+1:=by lia
       refine ⟨_,fin (56*(2*l+1)+(kc x y*(mo+l+1)+(M+mo).toNat)) ?_,g,d,a,b,_,o,t1,t2,e,B,f,U,.inr ⟨x,y,_,gz G A,⟨gz G A,gz Z A,l3⟩,hr,by rw [Y];congr 1;lia,qG,U⟩⟩;have:=enc (o5 ⟨gz G A,gz Z A,l3⟩) hr;exact qB this
   ·obtain ⟨g,d,a,b,v,o,_,t2,e,_,f,z,hcg⟩:=h;obtain ⟨g',zg,a',b',cg',yB,t1',Kt,F,y1,C,V,AQ⟩:=u;obtain ⟨ec,E⟩:=dec (o5 f) (o5 C) (z.symm.trans V);obtain ⟨rfl,rfl⟩:=tD f C E;subst ec;have q:gen len g1+j<T:=gz yB.2.1 yB.2.2;have NQ:d<T:=by have:=o.2.2;exact gz t2 o.2.2
    have zf:zg<T:=by have:=yB.2.2;exact gz Kt yB.2.2
    have eτ:d=zg:=by
     rcases hcg with ⟨x,y,r,p1,_,p3,p4,p5,p6⟩ | ⟨x,y,r,_,p3,p4,p5,pn,p6⟩
     ·rcases AQ with ⟨x',M,r',H,I,J,q4,q5,q6⟩ | ⟨x',M,r',_,_,_,_,_,q6⟩
      ·obtain ⟨E,rfl⟩:=dec p4 q4 (p6.symm.trans q6);obtain ⟨rfl,rfl⟩:=tD p3 J E;rcases Bz d zg with c | c | c
       ·have:=R.drop _ _ _ _ _ _ c zf p1 H p5 q5;lia
       ·exact c
       ·have:=R.drop _ _ _ _ _ _ c NQ H p1 q5 p5;lia
      ·have:=enc (o5 p3) p4;exact Q3 this q6 p6
     ·rcases AQ with ⟨x',M,r',_,_,J,q4,_,q6⟩ | ⟨x',M,r',I,J,q4,q5,qn,q6⟩
      ·have:=enc (o5 J) q4;exact Q3 this p6 q6
      ·obtain ⟨E,rfl⟩:=dec p4 q4 (show kc x y*(mo+l+1)+r=kc x' M*(mo+l+1)+r' by exact Q1 p6 q6);obtain ⟨rfl,rfl⟩:=tD p3 J E;rcases Bz d zg with c | c | c
       ·have:=R.same p5 q5 (s:=zg) (by exact c) (by exact iC gR) (by exact zf);exact absurd (q5.trans this.symm) qn
       ·exact c
       ·have:=R.same q5 p5 (s:=d) (by exact c) (by exact iC gR) (by exact NQ);exact absurd (p5.trans this.symm) pn
    subst eτ;have H:=R.m9 _ _ _ _ (show gen len g1+i<gen len g1+j by exact qB W) q e F;have I:gen len (g+1)<=len (gen len g1+i):=R.eW (o.1 g (ay _)) (by lia);have J:gen len (g'+1)<=gen len (g+1):=by
     refine gh λc=>?_;have hgg:g<g':=by
      refine gh λx5=>?_;have e0:∀k,k<=g+1->gen len k<=T:=λk u1=>by
       by_cases x8:k=g+1
       ·rw [x8];exact o.2.2
       ·have:=o.1 k (by lia);lia
      have:=R.cT e0 (i:=g'+1) (g+1-(g'+1)) (XQ x5);rw [show g'+1+(g+1-(g'+1))=g+1 by exact Xt x5] at this;exact c this
     have:=R.lV (g:=g+1) yB.1 (bf q) (by exact hgg);lia
    have:=yB.2.1;lia
  rw [s0];exact cP s1 (M' d1 (cP s2 (M' d2 d3)))
 have m1:=Nat.mul_le_mul_left 20 c1;have m2:=Nat.mul_le_mul_left 8 c2;exact cP g (M' (Nh m1 _) m2)
theorem Bd.rows (R:Bd n (l:Int) (mo:Int) T len m wt pt pw):len T<=len 0+1568*(7*(7*(l+1)+7*(mo+1)+1))+20*(56*(2*l+1))+8*((56*(2*l+1)+56*(mo+l+1))*56+(56*(mo+2*l+1)+56)):=by
 rcases R.gens (7*(7*(l+1)+7*(mo+1)+1)) with ⟨a,d⟩ | h
 ·obtain ⟨b,f,g⟩:=R.quiet U a;have c:∀i,i<=7*b+7->gen len i<=T:=λi o=>a i (by lia);have k:=R.after (g1:=7*b+7) c (R.narrow c g);have e:=R.cT a (i:=7*b+7) (7*(7*(l+1)+7*(mo+1)+1)-(7*b+7)) (by omega);rw [show 7*b+7+(7*(7*(l+1)+7*(mo+1)+1)-(7*b+7))=7*(7*(l+1)+7*(mo+1)+1) by exact QA f] at e;have j:=R.eW e (a _ (ay _));exact cP k (yV (yV (cP j d) _) _)
 ·exact cP h (cP (oq _ _) (oq _ _))
end
end MH
namespace MU
theorem ID (r:jc n F most) (g:bV n s) (B:ag s at_=some p) (R:p.a=a) (H:p.b=b) (A:(eK n F at_ a b s).bar=none):
 Add (λw=>(w.tie=true->(w.a=a/\w.b≠b/\∃q,val s (true,b,w.b)=some q/\w.v=p.v+q)\/(w.b=b/\w.a≠a))/\(w.tie=false->w.v<=most-p.v/\∃f,F w.b=some f)) s (eK n F at_ a b s):=by
 unfold eK at A ⊢;dsimp only at A ⊢;generalize k:(λw:ak=>(w.tie=true->(w.a=a/\w.b≠b/\∃q,val s (true,b,w.b)=some q/\w.v=p.v+q)\/(w.b=b/\w.a≠a))/\(w.tie=false->w.v<=most-p.v/\∃f,F w.b=some f))=C;have g1:bV n (aH (du F) .aS at_ s):=mw g zM;have O:Imp s (aH (du F) .aS at_ s):=gc _ _ _ _;have Z:Add (λw=>w.tie=true->w.b=b) s (aH (du F) .aS at_ s):=uW B λw e ht=>by
  unfold du at e;split at e
  ·cases q:F p.b with
   | none=>rw [q] at e;cases e
   | some f=>rw [q] at e;cases e;cases ht
  ·cases e
 have T:Add C s (aH (du F) .aS at_ s):=uW B λw e=>by
  subst k;unfold du at e;split at e
  ·cases q:F p.b with
   | none=>rw [q] at e;cases e
   | some f=>
    rw [q] at e;cases e;have:=r.num _ _ q;exact ⟨nofun,λ_=>⟨by show f.2.2-p.v<=_;lia,f,q⟩⟩
  ·cases e
 generalize aH (du F) .aS at_ s=s1 at*;have D:=bY O.1 B;have o:bV n (aH (dC F) .bp at_ s1):=mw g1 (zI r);have u:Imp s1 (aH (dC F) .bp at_ s1):=gc _ _ _ _;have T2:Add (λw=>w.tie=true->w.b=b) s1 (aH (dC F) .bp at_ s1):=uW D λw e _=>by
  unfold dC at e;split at e
  ·cases q:F p.a with
   | none=>rw [q] at e;cases e
   | some f=>rw [q] at e;cases e;exact H
  ·cases e
 have V:Add C s1 (aH (dC F) .bp at_ s1):=uW D λw e=>by
  subst k;unfold dC at e;split at e
  ·cases q:F p.a with
   | none=>rw [q] at e;cases e
   | some f=>
    rw [q] at e;cases e;refine ⟨λ_=>.inr ⟨H,λz=>?_⟩,nofun⟩;have z:f.1=a:=z;have:=r.own _ _ q;rw [z,<-R,q] at this;cases this
  ·cases e
 generalize aH (dC F) .bp at_ s1=s2 at*;have M:=bY u.1 D;have T12:=Z.trans u.1 T2;have A0:∀z,z≠b->val s2 (true,b,z)=val s (true,b,z):=λz hz=>gh λhc=>by obtain ⟨j,w,l,hw,m,_⟩:=HW g o (O.1.trans u.1) hc;obtain ⟨kt,_,kb⟩:=iq m;have:=T12 j w l hw kt;exact hz (kb.symm.trans this)
 have E:Imp s2 ((c_ n s2 true b).foldl (λd j=>ao aB .sum at_ j d) s2):=dS (λ_ _=>cW ..) _ _;have L:bV n ((c_ n s2 true b).foldl (λd j=>ao aB .sum at_ j d) s2):=tT (λ_ _ g=>vb g zC) _ _ o;have G:=dS (f:=λd j=>ao aB .sum j at_ d) (λ_ _=>cW ..) (dG n ((c_ n s2 true b).foldl (λd j=>ao aB .sum at_ j d) s2) a) ((c_ n s2 true b).foldl (λd j=>ao aB .sum at_ j d) s2);have Q:=dS (f:=λd j=>ao (bg F) .back j at_ d) (λ_ _=>cW ..) (c_ n ((dG n ((c_ n s2 true b).foldl (λd j=>ao aB .sum at_ j d) s2) a).foldl (λd j=>ao aB .sum j at_ d) ((c_ n s2 true b).foldl (λd j=>ao aB .sum at_ j d) s2)) false b) ((dG n ((c_ n s2 true b).foldl (λd j=>ao aB .sum at_ j d) s2) a).foldl (λd j=>ao aB .sum j at_ d) ((c_ n s2 true b).foldl (λd j=>ao aB .sum at_ j d) s2));have b4:=gh λz=>Q.1.bar z A;have I:=gh λz=>G.1.bar z b4;have b2:=gh λz=>E.1.bar z I;have W:Add C s2 ((c_ n s2 true b).foldl (λd j=>ao aB .sum at_ j d) s2):=vq (f:=λd j=>ao aB .sum at_ j d) (λ_ _=>cW ..) _ s2 s2 (Imp.refl _) λj l y h=>by
  subst k;obtain ⟨c,_,t⟩:=IU l;obtain ⟨q,i,m⟩:=o.at_ _ _ t;obtain ⟨_,S,v⟩:=iq m;have x:=o.ne b2 j q i;refine Hl (bY h.1 M) (bY h.1 i) λw e=>?_;unfold aB at e;split at e
  ·cases e;have hcb:c≠b:=λz=>x (by rw [S,v,z]);refine ⟨λ_=>.inl ⟨R,λz=>x (by rw [S];exact z.symm),q.v,?_,U⟩,nofun⟩;show val s (true,b,q.b)=_;rw [v,<-A0 c hcb];exact oB t i
  ·cases e
 generalize (c_ n s2 true b).foldl (λd j=>ao aB .sum at_ j d) s2=s3 at*;have N:=bY E.1 M;have X:Add C s3 ((dG n s3 a).foldl (λd j=>ao aB .sum j at_ d) s3):=vq (f:=λd j=>ao aB .sum j at_ d) (λ_ _=>cW ..) _ s3 s3 (Imp.refl _) λj l y h=>by
  subst k;obtain ⟨c,_,t⟩:=DC l;obtain ⟨q,i,m⟩:=L.at_ _ _ t;obtain ⟨_,_,v⟩:=iq m;have x:=L.ne I j q i;refine Hl (bY h.1 i) (bY h.1 N) λw e=>?_;unfold aB at e;split at e
  ·cases e;exact ⟨λ_=>.inr ⟨H,λz=>x (by rw [v];exact z)⟩,nofun⟩
  ·cases e
 generalize (dG n s3 a).foldl (λd j=>ao aB .sum j at_ d) s3=s4 at*;have wz:=bY G.1 N;have Y:Add C s4 ((c_ n s4 false b).foldl (λd j=>ao (bg F) .back j at_ d) s4):=vq (f:=λd j=>ao (bg F) .back j at_ d) (λ_ _=>cW ..) _ s4 s4 (Imp.refl _) λj _ y h=>rm λw e=>by
  subst k
  cases J:ag y j with
  | none=>rw [J] at e;cases e
  | some q=>
   rw [J] at e;have e:(ag y at_).bind (λp=>bg F q p)=some w:=e;rw [bY h.1 wz] at e;have e:bg F q p=some w:=e;unfold bg at e;split at e
   ·cases z:F q.b with
    | none=>rw [z] at e;cases e
    | some f=>
     rw [z] at e;cases e;have:=r.num _ _ z;exact ⟨nofun,λ_=>⟨by show min q.v f.2.2-p.v<=_;lia,f,z⟩⟩
   ·cases e
 exact (((T.trans u.1 V).trans E.1 W).trans G.1 X).trans Q.1 Y
theorem Y9:Add (λw=>w.tie=false->∃f,F w.b=some f) s (fC n F at_ a s):=by
 unfold fC;dsimp only;have g:Add (λw:ak=>w.tie=false->∃f,F w.b=some f) s (aH (dF F) .sure at_ s):=rm λw e c=>by
  cases q:ag s at_ with
  | none=>rw [q] at e;cases e
  | some p=>
   rw [q] at e;have e:dF F p=some w:=e;unfold dF at e;split at e
   ·cases z:F p.b with
    | none=>rw [z] at e;cases e
    | some f=>rw [z] at e;cases e;cases c
   ·cases e
 have m:Imp s (aH (dF F) .sure at_ s):=gc _ _ _ _;generalize aH (dF F) .sure at_ s=s1 at*;have h:Add (λw:ak=>w.tie=false->∃f,F w.b=some f) s1 (aH (dt F) .a6 at_ s1):=rm λw e c=>by
  cases q:ag s1 at_ with
  | none=>rw [q] at e;cases e
  | some p=>
   rw [q] at e;have e:dt F p=some w:=e;unfold dt at e;split at e
   ·cases z:F p.a with
    | none=>rw [z] at e;cases e
    | some o=>
     rw [z] at e;have e:(F p.b).map (λf=>(⟨false,o.1,p.b,min p.v f.2.2-o.2.1⟩:ak))=some w:=e
     cases C:F p.b with
     | none=>rw [C] at e;cases e
     | some f=>rw [C] at e;cases e;exact ⟨f,C⟩
   ·cases e
 have k:Imp s1 (aH (dt F) .a6 at_ s1):=gc _ _ _ _;generalize aH (dt F) .a6 at_ s1=s2 at*;have i:Add (λw:ak=>w.tie=false->∃f,F w.b=some f) s2 ((dG n s2 a).foldl (λb j=>ao (bg F) .back at_ j b) s2):=vq (f:=λb j=>ao (bg F) .back at_ j b) (λ_ _=>cW ..) _ s2 s2 (Imp.refl _) λj _ d _=>rm λw e c=>by
  cases I:ag d at_ with
  | none=>rw [I] at e;cases e
  | some p=>
   rw [I] at e;have e:(ag d j).bind (λq=>bg F p q)=some w:=e
   cases J:ag d j with
   | none=>rw [J] at e;cases e
   | some q=>
    rw [J] at e;have e:bg F p q=some w:=e;unfold bg at e;split at e
    ·cases z:F p.b with
     | none=>rw [z] at e;cases e
     | some f=>rw [z] at e;cases e;exact ⟨f,z⟩
    ·cases e
 have l:Imp s2 ((dG n s2 a).foldl (λb j=>ao (bg F) .back at_ j b) s2):=dS (λ_ _=>cW ..) _ _;exact (g.trans k.1 h).trans l.1 i
theorem gW (st:St) (o:Option ak) (word:Wd) (used:List Nat):(put st o word used).rows.length<=st.rows.length+1:=by
 cases o with
 | none=>exact lb _
 | some w=>
  show (take st w word used).rows.length<=_
  by_cases c:gT st w
  ·rw [(CA c).2.2];exact ay _
  ·rw [vj c];exact lb _
theorem pd (a:∀s j,(f s j).rows.length<=s.rows.length+1):∀(l:List Nat) (s:St),(l.foldl f s).rows.length<=s.rows.length+l.length
 | [],s=>ay _
 | j::l,s=>by have b:=pd a l (f s j);have c:=a s j;rw [ji];show (l.foldl f (f s j)).rows.length<=_;exact JD b c
theorem Dr:(c_ n st tie a).length<=n:=by have:=F' (λb=>st.best (tie,a,b)) (List.range n);rw [uM] at this;exact this
theorem DB:(dG n st b).length<=n:=by have:=F' (λa=>st.best (true,a,b)) (List.range n);rw [uM] at this;exact this
theorem zAz:(eK n F at_ a b s).rows.length<=s.rows.length+(2+3*n):=by unfold eK;dsimp only;have c:(aH (du F) .aS at_ s).rows.length<=s.rows.length+1:=gW _ _ _ _;generalize aH (du F) .aS at_ s=s1 at*;have d:(aH (dC F) .bp at_ s1).rows.length<=s1.rows.length+1:=gW _ _ _ _;generalize aH (dC F) .bp at_ s1=s2 at*;have e:=pd (f:=λst j=>ao aB .sum at_ j st) (λ_ _=>gW _ _ _ _) (c_ n s2 true b) s2;have i:=Dr (n:=n) (tie:=true) (st:=s2) (a:=b);generalize (c_ n s2 true b).foldl (λst j=>ao aB .sum at_ j st) s2=s3 at*;have g:=pd (f:=λst j=>ao aB .sum j at_ st) (λ_ _=>gW _ _ _ _) (dG n s3 a) s3;have k:=DB (n:=n) (st:=s3) (b:=a);generalize (dG n s3 a).foldl (λst j=>ao aB .sum j at_ st) s3=s4 at*;have h:=pd (f:=λst j=>ao (bg F) .back j at_ st) (λ_ _=>gW _ _ _ _) (c_ n s4 false b) s4;have l:=Dr (n:=n) (tie:=false) (st:=s4) (a:=b);lia
theorem Xl:(fC n F at_ a s).rows.length<=s.rows.length+(2+n):=by unfold fC;dsimp only;have c:(aH (dF F) .sure at_ s).rows.length<=s.rows.length+1:=gW _ _ _ _;generalize aH (dF F) .sure at_ s=s1 at*;have d:(aH (dt F) .a6 at_ s1).rows.length<=s1.rows.length+1:=gW _ _ _ _;generalize aH (dt F) .a6 at_ s1=s2 at*;have e:=pd (f:=λst j=>ao (bg F) .back at_ j st) (λ_ _=>gW _ _ _ _) (dG n s2 a) s2;have g:=DB (n:=n) (st:=s2) (b:=a);lia
theorem WJ (a:n<=8):(look n F at_ s).rows.length<=s.rows.length+26:=by
 unfold look;split
 ·split
  ·split
   ·exact cP zAz (by lia)
   ·exact cP Xl (by lia)
  ·exact jf
 ·exact jf
theorem zB4 (e:x≠y):(if x<k+1 then 1 else 0)+(if y<k+1 then 1 else 0)<=(if x<k then 1 else 0)+(if y<k then 1 else 0)+1/\(¬(k=x\/k=y)->(if x<k+1 then 1 else 0)+(if y<k+1 then 1 else 0)=(if x<k then 1 else 0)+(if y<k then 1 else 0)):=by
 have d:∀z,k≠z->(if z<k+1 then 1 else 0)=(if z<k then 1 else 0):=λz h=>by
  by_cases c:z<k
  ·rw [if_pos c,if_pos (By c)]
  ·rw [if_neg c,if_neg (by lia)]
 by_cases a:k=x
 ·subst a;rw [d y e,if_pos (Bx k),if_neg (jA k)];exact ⟨by lia,λh=>absurd (.inl U) h⟩
 ·rw [d x a]
  by_cases b:k=y
  ·subst b;rw [if_pos (Bx k),if_neg (jA k)];exact ⟨ay _,λh=>absurd (.inr U) h⟩
  ·rw [d y b];exact ⟨lb _,λ_=>rfl⟩
theorem zZ {f:St->Nat->St} {g:Nat->Option Nat} {s0:St} {x y:Nat} (e:x≠y) (a:∀s j,Imp s (f s j)) (b:∀s j,(f s j).rows.length<=s.rows.length+1) (d:∀c j s,c=x\/c=y->g c=some j->Imp s0 s->(f s j).bar=none->(f s j).rows.length<=s.rows.length):
 ∀k,(((List.range k).filterMap g).foldl f s0).bar=none->(((List.range k).filterMap g).foldl f s0).rows.length+((if x<k then 1 else 0)+(if y<k then 1 else 0))<=s0.rows.length+k
 | 0,_=>ay _
 | k+1,h=>by
  rw [Fu,B6,GC] at h ⊢;have l:Imp s0 (((List.range k).filterMap g).foldl f s0):=dS a _ _;have i:=zZ e a b d k;obtain ⟨p,m⟩:=zB4 (k:=k) e;generalize (if x<k then 1 else 0)+(if y<k then 1 else 0)=A at*;generalize (if x<k+1 then 1 else 0)+(if y<k+1 then 1 else 0)=B at*;generalize ((List.range k).filterMap g).foldl f s0=s at*
  cases C:g k with
  | none=>
   rw [show [k].filterMap g=[] by rw [tq,C];rfl] at h ⊢;have i:=i h;show s.rows.length+_<=_;lia
  | some j=>
   rw [show [k].filterMap g=[j] by rw [tq,C];rfl] at h ⊢;have h:(f s j).bar=none:=h;have o:s.bar=none:=gh λc=>(a s j).1.bar c h;have n:=b s j;show (f s j).rows.length+_<=_
   by_cases c:k=x\/k=y
   ·have:=d k j s c C l h;lia
   ·have:=m c;lia
theorem Dl (g:bV n st) (f:st.bar=none) (h:st.best (t,a,a)=some j):False:=by obtain ⟨w,d,e⟩:=g.at_ _ _ h;obtain ⟨_,b,c⟩:=iq e;exact g.ne f j w d (b.trans c.symm)
theorem QR {w:ak} (b:w.tie=true) (e:w.a=w.b) (h:(take st w word used).bar=none):(take st w word used).rows.length<=st.rows.length:=by
 by_cases c:gT st w
 ·refine absurd h ?_;unfold take;rw [if_pos c];have a:=c;unfold gT at a;rw [if_pos ⟨b,e⟩] at a;show (if st.bar=none/\ix w then some st.rows.length else st.bar)≠none
  by_cases z:st.bar=none
  ·rw [if_pos ⟨z,b,e,a⟩];exact λh=>nomatch h
  ·rw [if_neg λq=>z q.1];exact z
 ·rw [vj c];exact ay _
theorem CH (a:ag s i=some p) (b:ag s j=some q):ao f word i j s=put s (f p q) word [i,j]:=by unfold ao;rw [a,b];rfl
theorem X5 (g:bV n s) (d:ag s at_=some p) (z:p.tie=true) (l:s.bar=none) (u:((c_ n s true p.b).foldl (λst j=>ao aB .sum at_ j st) s).bar=none):((c_ n s true p.b).foldl (λst j=>ao aB .sum at_ j st) s).rows.length+2<=s.rows.length+n:=by
 have k:=g.lt _ _ d;have h:=zZ (f:=λst j=>ao aB .sum at_ j st) (g:=λc=>s.best (true,p.b,c)) (s0:=s) (x:=p.a) (y:=p.b) (g.ne l _ _ d) (λ_ _=>cW ..) (λ_ _=>gW _ _ _ _) (λc j m v b i a=>by
  have b:s.best (true,p.b,c)=some j:=b;rcases v with rfl | rfl
  ·obtain ⟨q,r,t⟩:=g.at_ _ _ b;obtain ⟨A,B,C⟩:=iq t;have e:=CH (f:=aB) (word:=.sum) (bY i.1 d) (bY i.1 r);have o:aB p q=some ⟨true,p.a,q.b,p.v+q.v⟩:=if_pos ⟨z,A,B.symm⟩;rw [o] at e;have a:(ao aB .sum at_ j m).bar=none:=a;show (ao aB .sum at_ j m).rows.length<=_;rw [e] at a ⊢;exact QR (w:=⟨true,p.a,q.b,p.v+q.v⟩) U C.symm a
  ·exact (Dl g l b).elim) n u
 rw [if_pos k.1,if_pos k.2] at h;exact h
theorem Xg (g:bV n s) (d:ag s at_=some p) (z:p.tie=true) (l:s.bar=none) (u:((dG n s p.a).foldl (λst j=>ao aB .sum j at_ st) s).bar=none):((dG n s p.a).foldl (λst j=>ao aB .sum j at_ st) s).rows.length+2<=s.rows.length+n:=by
 have k:=g.lt _ _ d;have h:=zZ (f:=λst j=>ao aB .sum j at_ st) (g:=λc=>s.best (true,c,p.a)) (s0:=s) (x:=p.a) (y:=p.b) (g.ne l _ _ d) (λ_ _=>cW ..) (λ_ _=>gW _ _ _ _) (λc j m v b i a=>by
  have b:s.best (true,c,p.a)=some j:=b;rcases v with rfl | rfl
  ·exact (Dl g l b).elim
  ·obtain ⟨q,r,t⟩:=g.at_ _ _ b;obtain ⟨A,B,C⟩:=iq t;have e:=CH (f:=aB) (word:=.sum) (bY i.1 r) (bY i.1 d);have o:aB q p=some ⟨true,q.a,p.b,q.v+p.v⟩:=if_pos ⟨A,z,C⟩;rw [o] at e;have a:(ao aB .sum j at_ m).bar=none:=a;show (ao aB .sum j at_ m).rows.length<=_;rw [e] at a ⊢;exact QR (w:=⟨true,q.a,p.b,q.v+p.v⟩) U B a) n u
 rw [if_pos k.1,if_pos k.2] at h;exact h
theorem XG (g:bV n s) (b:ag s at_=some p) (k:s.bar=none) (r:((c_ n s false p.b).foldl (λst j=>ao (bg F) .back j at_ st) s).bar=none):((c_ n s false p.b).foldl (λst j=>ao (bg F) .back j at_ st) s).rows.length+2<=s.rows.length+n:=by
 have d:=g.lt _ _ b;have h:=zZ (f:=λst j=>ao (bg F) .back j at_ st) (g:=λc=>s.best (false,p.b,c)) (s0:=s) (x:=p.a) (y:=p.b) (g.ne k _ _ b) (λ_ _=>cW ..) (λ_ _=>gW _ _ _ _) (λc j v t a i _=>by
  have a:s.best (false,p.b,c)=some j:=a;rcases t with rfl | rfl
  ·obtain ⟨q,m,o⟩:=g.at_ _ _ a;obtain ⟨_,_,u⟩:=iq o;have e:=CH (f:=bg F) (word:=.back) (bY i.1 m) (bY i.1 b);have l:bg F q p=none:=if_neg λz=>z.2.2.2 u.symm;rw [l] at e;show (ao (bg F) .back j at_ v).rows.length<=_;rw [e];exact ay _
  ·exact (Dl g k a).elim) n r
 rw [if_pos d.1,if_pos d.2] at h;exact h
theorem XH (g:bV n s) (b:ag s at_=some p) (k:s.bar=none) (r:((dG n s p.a).foldl (λst j=>ao (bg F) .back at_ j st) s).bar=none):((dG n s p.a).foldl (λst j=>ao (bg F) .back at_ j st) s).rows.length+2<=s.rows.length+n:=by
 have d:=g.lt _ _ b;have h:=zZ (f:=λst j=>ao (bg F) .back at_ j st) (g:=λc=>s.best (true,c,p.a)) (s0:=s) (x:=p.a) (y:=p.b) (g.ne k _ _ b) (λ_ _=>cW ..) (λ_ _=>gW _ _ _ _) (λc j v t a i _=>by
  have a:s.best (true,c,p.a)=some j:=a;rcases t with rfl | rfl
  ·exact (Dl g k a).elim
  ·obtain ⟨q,m,o⟩:=g.at_ _ _ a;obtain ⟨_,u,_⟩:=iq o;have e:=CH (f:=bg F) (word:=.back) (bY i.1 b) (bY i.1 m);have l:bg F p q=none:=if_neg λz=>z.2.2.2 u;rw [l] at e;show (ao (bg F) .back at_ j v).rows.length<=_;rw [e];exact ay _) n r
 rw [if_pos d.1,if_pos d.2] at h;exact h
theorem Xi (t:jc n F most) (g:bV n s) (u:ag s at_=some p) (m:p.tie=true) (b:(eK n F at_ p.a p.b s).bar=none):(eK n F at_ p.a p.b s).rows.length+4<=s.rows.length+3*n:=by unfold eK at b ⊢;dsimp only at b ⊢;have A:(aH (du F) .aS at_ s).rows.length<=s.rows.length+1:=gW _ _ _ _;have q:bV n (aH (du F) .aS at_ s):=mw g zM;have x:=bY (gc (du F) .aS at_ s).1 u;generalize aH (du F) .aS at_ s=s1 at*;have B:(aH (dC F) .bp at_ s1).rows.length<=s1.rows.length+1:=gW _ _ _ _;have e:bV n (aH (dC F) .bp at_ s1):=mw q (zI t);have k:=bY (gc (dC F) .bp at_ s1).1 x;generalize aH (dC F) .bp at_ s1=s2 at*;have C:=X5 e k m;have h:Imp s2 ((c_ n s2 true p.b).foldl (λa j=>ao aB .sum at_ j a) s2):=dS (λ_ _=>cW ..) _ _;have f:bV n ((c_ n s2 true p.b).foldl (λa j=>ao aB .sum at_ j a) s2):=tT (λ_ _ g=>vb g zC) _ _ e;generalize (c_ n s2 true p.b).foldl (λa j=>ao aB .sum at_ j a) s2=s3 at*;have l:=bY h.1 k;have D:=Xg f l m;have i:Imp s3 ((dG n s3 p.a).foldl (λa j=>ao aB .sum j at_ a) s3):=dS (λ_ _=>cW ..) _ _;have r:bV n ((dG n s3 p.a).foldl (λa j=>ao aB .sum j at_ a) s3):=tT (λ_ _ g=>vb g zC) _ _ f;generalize (dG n s3 p.a).foldl (λa j=>ao aB .sum j at_ a) s3=s4 at*;have y:=bY i.1 l;have v:Imp s4 ((c_ n s4 false p.b).foldl (λa j=>ao (bg F) .back j at_ a) s4):=dS (λ_ _=>cW ..) _ _;have d:s4.bar=none:=gh λc=>v.1.bar c b;have o:s3.bar=none:=gh λc=>i.1.bar c d;have z:s2.bar=none:=gh λc=>h.1.bar c o;have E:=XG r y d b;lia
theorem Rm (b:jc n F most) (g:bV n s) (h:ag s at_=some p) (a:(fC n F at_ p.a s).bar=none):(fC n F at_ p.a s).rows.length<=s.rows.length+n:=by unfold fC at a ⊢;dsimp only at a ⊢;have o:(aH (dF F) .sure at_ s).rows.length<=s.rows.length+1:=gW _ _ _ _;have e:bV n (aH (dF F) .sure at_ s):=mw g (C9 b);have k:=bY (gc (dF F) .sure at_ s).1 h;generalize aH (dF F) .sure at_ s=s1 at*;have q:(aH (dt F) .a6 at_ s1).rows.length<=s1.rows.length+1:=gW _ _ _ _;have f:bV n (aH (dt F) .a6 at_ s1):=mw e (Dm b);have l:=bY (gc (dt F) .a6 at_ s1).1 k;generalize aH (dt F) .a6 at_ s1=s2 at*;have i:Imp s2 ((dG n s2 p.a).foldl (λm j=>ao (bg F) .back at_ j m) s2):=dS (λ_ _=>cW ..) _ _;have d:s2.bar=none:=gh λc=>i.1.bar c a;have r:=XH f l d a;lia
def pw (n:Nat) (F:cS) (s0:St) (t a b:Nat):Prop:=∃w,ag (run n F s0 t) t=some w/\w.tie=false/\w.a=a/\w.b=b/\(run n F s0 t).best (false,a,b)=some t
theorem step (n:Nat) (F:cS) (s0:St) (f:t<(run n F s0 t).rows.length):
 (∃p,ag (run n F s0 t) t=some p/\p.tie=true/\pt n F s0 t p.a p.b/\run n F s0 (t+1)=eK n F t p.a p.b (run n F s0 t))\/
 (∃p,ag (run n F s0 t) t=some p/\p.tie=false/\pw n F s0 t p.a p.b/\run n F s0 (t+1)=fC n F t p.a (run n F s0 t))\/
 ((∀a b,¬pt n F s0 t a b)/\(∀a b,¬pw n F s0 t a b)/\run n F s0 (t+1)=run n F s0 t):=by
 obtain ⟨p,c⟩:∃p,ag (run n F s0 t) t=some p:=⟨_,by unfold ag;rw [gI f];rfl⟩;have f:run n F s0 (t+1)=look n F t (run n F s0 t):=U
 by_cases d:(run n F s0 t).best p.key=some t
 ·cases C:p.tie with
  | true=>
   have g:(run n F s0 t).best (true,p.a,p.b)=some t:=by rw [<-d];unfold ak.key;rw [C]
   exact .inl ⟨p,c,C,⟨p,c,C,U,U,g⟩,f.trans (Cy c C U U g)⟩
  | false=>
   have g:(run n F s0 t).best (false,p.a,p.b)=some t:=by rw [<-d];unfold ak.key;rw [C]
   exact .inr (.inl ⟨p,c,C,⟨p,c,C,U,U,g⟩,f.trans (IV c C d)⟩)
 ·refine .inr (.inr ⟨λa b h=>?_,λa b h=>?_,f.trans (QQ c d)⟩)
  ·obtain ⟨w,e,i,j,k,l⟩:=h;rw [c] at e;cases e;exact d (by unfold ak.key;rw [i,j,k];exact l)
  ·obtain ⟨w,e,i,j,k,l⟩:=h;rw [c] at e;cases e;exact d (by unfold ak.key;rw [i,j,k];exact l)
theorem ry (e:Ext s s') {w:ak} (b:i<s.rows.length) (h:ag s' i=some w):ag s i=some w:=by obtain ⟨p,a⟩:∃p,ag s i=some p:=⟨_,by unfold ag;rw [gI b];rfl⟩;rw [bY e a] at h;cases h;exact a
theorem Qc (g:jc n F most) (d:bV n s0) (v:∀a b,val s0 (false,a,b)=none) (r:∀t,t<T->t<(run n F s0 t).rows.length) (m:∀t,t<=T->(run n F s0 t).bar=none):∀t,t<=T->∀i w,ag (run n F s0 t) i=some w->w.tie=false->∃f,F w.b=some f
 | 0,_,i,w,h,c=>by
  obtain ⟨j,_,q⟩:=d.top i w h;obtain ⟨u,z,_⟩:=d.at_ _ _ q;have:=oB q z;have y:w.key=(false,w.a,w.b):=by unfold ak.key;rw [c]
  rw [y,v] at this;cases this
 | t+1,k,i,w,h,c=>by
  have A:=Qc g d v r m t (by exact bf k);have x:=vi g d t
  by_cases l:i<(run n F s0 t).rows.length
  ·exact A i w (ry (tS n F t (run n F s0 t)).1 l h) c
  ·rcases step n F s0 (r t (by exact k)) with ⟨p,s,_,_,e⟩ | ⟨p,s,_,_,e⟩ | ⟨_,_,e⟩
   ·have o:=m (t+1) k;rw [e] at o h;exact ((ID g x s U U o i w (by exact kZ l) h).2 c).2
   ·rw [e] at h;exact Y9 i w (by exact kZ l) h c
   ·rw [e] at h;exact absurd (mv h) (by omega)
theorem Xm (i:ag s at_=some p):Add (λw=>w.tie=true->w.a=p.a) s (fC n F at_ p.a s):=by
 unfold fC;dsimp only;have d:Add (λw:ak=>w.tie=true->w.a=p.a) s (aH (dF F) .sure at_ s):=uW i λw e b=>by
  unfold dF at e;split at e
  ·cases z:F p.b with
   | none=>rw [z] at e;cases e
   | some f=>rw [z] at e;cases e;rfl
  ·cases e
 have m:Imp s (aH (dF F) .sure at_ s):=gc _ _ _ _;generalize aH (dF F) .sure at_ s=s1 at*;have g:Add (λw:ak=>w.tie=true->w.a=p.a) s1 (aH (dt F) .a6 at_ s1):=rm λw e b=>by
  cases q:ag s1 at_ with
  | none=>rw [q] at e;cases e
  | some p=>
   rw [q] at e;have e:dt F p=some w:=e;unfold dt at e;split at e
   ·cases z:F p.a with
    | none=>rw [z] at e;cases e
    | some o=>
     rw [z] at e;have e:(F p.b).map (λf=>(⟨false,o.1,p.b,min p.v f.2.2-o.2.1⟩:ak))=some w:=e
     cases J:F p.b with
     | none=>rw [J] at e;cases e
     | some f=>rw [J] at e;cases e;cases b
   ·cases e
 have k:Imp s1 (aH (dt F) .a6 at_ s1):=gc _ _ _ _;generalize aH (dt F) .a6 at_ s1=s2 at*;have h:Add (λw:ak=>w.tie=true->w.a=p.a) s2 ((dG n s2 p.a).foldl (λa j=>ao (bg F) .back at_ j a) s2):=vq (f:=λa j=>ao (bg F) .back at_ j a) (λ_ _=>cW ..) _ s2 s2 (Imp.refl _) λj _ c _=>rm λw e b=>by
  cases C:ag c at_ with
  | none=>rw [C] at e;cases e
  | some p=>
   rw [C] at e;have e:(ag c j).bind (λq=>bg F p q)=some w:=e
   cases I:ag c j with
   | none=>rw [I] at e;cases e
   | some q=>
    rw [I] at e;have e:bg F p q=some w:=e;unfold bg at e;split at e
    ·cases z:F p.b with
     | none=>rw [z] at e;cases e
     | some f=>rw [z] at e;cases e;cases b
    ·cases e
 have l:Imp s2 ((dG n s2 p.a).foldl (λa j=>ao (bg F) .back at_ j a) s2):=dS (λ_ _=>cW ..) _ _;exact (d.trans k.1 g).trans l.1 h
theorem zD0 {l mo:Nat} (h8:n<=8) (H:jc n F (mo:Int)) (g0:bV n s0) (told:∀i,0<i->i<n->(∃v,v<=(l:Int)/\val s0 (true,0,i)=some v)/\∃v,v<=0/\val s0 (true,i,0)=some v) (w0:∀a b,val s0 (false,a,b)=none)
 {T:Nat} (X:∀t,t<T->t<(run n F s0 t).rows.length) (z:∀t,t<=T->(run n F s0 t).bar=none):
 MH.Bd n (l:Int) (mo:Int) T (λt=>(run n F s0 t).rows.length) (λt a b=>val (run n F s0 t) (true,a,b)) (λt a b=>val (run n F s0 t) (false,a,b)) (pt n F s0) (pw n F s0):=by
 have g:=vi H g0;have E:∀t a b,pt n F s0 t a b->∃w,ag (run n F s0 t) t=some w/\w.tie=true/\w.a=a/\w.b=b/\val (run n F s0 t) (true,a,b)=some w.v/\run n F s0 (t+1)=eK n F t a b (run n F s0 t):=λt a b ⟨w,c,f,u,y,o⟩=>⟨w,c,f,u,y,oB o c,Cy c f u y o⟩;have Q:∀t a b,pw n F s0 t a b->∃w,ag (run n F s0 t) t=some w/\w.tie=false/\w.a=a/\w.b=b/\val (run n F s0 t) (false,a,b)=some w.v/\(run n F s0 t).best (false,a,b)=some t:=λt a b ⟨w,c,f,u,y,o⟩=>⟨w,c,f,u,y,oB o c,o⟩;have ends:=Qc H g0 w0 X z;have wm:∀t a b v,t<T->val (run n F s0 t) (false,a,b)=some v->∃v',v<=v'/\val (run n F s0 (t+1)) (false,a,b)=some v':=λt a b v m h=>by have R:=(qz (g t) (z t (by exact bf m)) h).1;obtain ⟨u',c,f⟩:=(tS n F t (run n F s0 t)).2 (false,a,b) v R h;refine ⟨u',?_,c⟩;unfold ed at f;simp at f;exact f
 have wms:∀t a b v,val (run n F s0 t) (false,a,b)=some v->∀x4,t+x4<=T->∃v',v<=v'/\val (run n F s0 (t+x4)) (false,a,b)=some v':=λt a b v h x4=>by
  induction x4 with
  | zero=>exact λ_=>⟨v,kE _,h⟩
  | succ x4 ih=>
   intro hd;obtain ⟨v1,c,e1⟩:=ih (by exact bf hd);obtain ⟨v2,f,e2⟩:=wm (t+x4) a b v1 (by exact hd) e1;exact ⟨v2,vm c f,e2⟩
 have once:∀(k:Key) (t t':Nat) (x x':ak),t<t'->ag (run n F s0 t) t=some x->ag (run n F s0 t') t'=some x'->x'.key=k->(run n F s0 t).best k=some t->(run n F s0 t).rows.length<=t':=λk t t' x x' J _ UX Y AX=>by refine gh λx6=>?_;have c:=ry (rx (n:=n) (F:=F) (s:=s0) (bf J)).1 (vp x6) UX;obtain ⟨j,I,AV⟩:=(g t).top t' x' c;rw [Y,AX] at AV;cases AV;exact zN J I
 exact
 { n8:=h8
   L0:=yT _
   Ay:=yT _
   go:=X
   we:=λt _=>(tS n F t (run n F s0 t)).1.len
   lt:=λt a b v m h=>by obtain ⟨x1,x2,x3⟩:=qz (g t) (z t m) h;exact ⟨x2,x3,x1⟩
   known:=λt a b _ h=>by obtain ⟨w,_,_,_,_,o,_⟩:=E t a b h;exact ⟨w.v,o⟩
   iK:=λt a b m h=>by obtain ⟨w,_,_,_,_,o,_⟩:=Q t a b h;obtain ⟨x1,x2,x3⟩:=qz (g t) (z t (by exact bf m)) o;exact ⟨x2,x3,x1,w.v,o⟩
   mono:=λt a b v m h=>by have R:=(qz (g t) (z t (by exact bf m)) h).1;obtain ⟨u',c,f⟩:=(tS n F t (run n F s0 t)).2 (true,a,b) v R h;refine ⟨u',?_,c⟩;unfold ed at f;simp at f;exact f
   Aj:=wm
   told:=told
   uc:=w0
   sum:=λt a b x6 v x5 m h d Z Mi=>by obtain ⟨w,c,f,u,y,o,h6⟩:=E t a b h;have d:val (run n F s0 t) (true,a,b)=some v:=d;rw [d] at o;cases o;have AY:=qz (g t) (z t (by exact bf m)) Z;obtain ⟨x,O,ex⟩:=(Pu H (g t) c f u y Z AY.1 AY.2.2).1 Mi;refine ⟨x,O,?_⟩;show val (run n F s0 (t+1)) _=_;rw [h6];exact ex
   bar:=λt a b v x5 m h d Z=>by obtain ⟨w,c,f,u,y,o,h6⟩:=E t a b h;have d:val (run n F s0 t) (true,a,b)=some v:=d;rw [d] at o;cases o;have AY:=qz (g t) (z t (by exact bf m)) Z;refine gh λhc=>?_;have:=(Pu H (g t) c f u y Z AY.1 AY.2.2).2 U (tU hc);rw [<-h6] at this;exact this (z (t+1) m)
   one:=λt a b a' b' _ h G=>by obtain ⟨w,c,_,u,y,_⟩:=E t a b h;obtain ⟨D,A,_,L,M,_⟩:=E t a' b' G;rw [c] at A;cases A;exact ⟨u.symm.trans L,y.symm.trans M⟩
   KG:=λt a b a' b' _ h G=>by obtain ⟨w,c,_,u,y,_⟩:=Q t a b h;obtain ⟨D,A,_,L,M,_⟩:=Q t a' b' G;rw [c] at A;cases A;exact ⟨u.symm.trans L,y.symm.trans M⟩
   apart:=λt a b a' b' _ h G=>by obtain ⟨w,c,f,_⟩:=E t a b h;obtain ⟨D,A,N,_⟩:=Q t a' b' G;rw [c] at A;cases A;rw [f] at N;cases N
   cause:=λt a b m h=>by
    have h:val (run n F s0 (t+1)) (true,a,b)≠val (run n F s0 t) (true,a,b):=h;obtain ⟨j,w,I,q,Y,d⟩:=HW (g t) (g (t+1)) (tS n F t (run n F s0 t)).1 (k:=(true,a,b)) h;obtain ⟨kt,ka,kb⟩:=iq Y;have d:val (run n F s0 (t+1)) (true,a,b)=some w.v:=d;have W:=z (t+1) m;rcases step n F s0 (X t m) with ⟨p,r,lI,S,e⟩ | ⟨p,r,lI,yz,e⟩ | ⟨_,_,e⟩
    ·have q:ag (run n F s0 (t+1)) j=some w:=q;rw [e] at q W;rcases (ID H (g t) r rfl rfl W j w I q).1 kt with ⟨c,f,x7,hq,hwv⟩ | ⟨c,f⟩
     ·rw [ka] at c;rw [kb] at f hq;subst c;obtain ⟨D,V,_,_,_,k5,_⟩:=E t _ _ S;rw [r] at V;cases V;exact .inl ⟨p.b,p.v,x7,w.v,S,aK f,k5,hq,d,by lia⟩
     ·rw [kb] at c;rw [ka] at f;subst c;exact .inr (.inl ⟨p.a,S,aK f⟩)
    ·
     have q:ag (run n F s0 (t+1)) j=some w:=q;have g':bV n (fC n F t p.a (run n F s0 t)):=by rw [<-e];exact g (t+1)
     have pW:=W;rw [e] at q pW;obtain ⟨B,Mu,hB⟩:∃B:Int,0<=B/\∀x v,val (fC n F t p.a (run n F s0 t)) (true,x,p.a)=some v->-B<=v:=by
      have:∀k,∃B:Int,0<=B/\∀x v,x<k->val (fC n F t p.a (run n F s0 t)) (true,x,p.a)=some v->-B<=v:=by
       intro k
       induction k with
       | zero=>exact ⟨0,kE _,λx v O=>absurd O (oJ _)⟩
       | succ k ih=>
        obtain ⟨B,h0,c⟩:=ih
        cases x7:val (fC n F t p.a (run n F s0 t)) (true,k,p.a) with
        | none=>
         refine ⟨B,h0,λx v O d=>?_⟩
         by_cases e:x=k
         ·rw [e,x7] at d;cases d
         ·exact c x v (rB O e) d
        | some x5=>
         refine ⟨max B (-x5),Xu h0,λx v O d=>?_⟩
         by_cases e:x=k
         ·rw [e,x7] at d;cases d;exact XS
         ·have:=c x v (rB O e) d;exact XF this
      obtain ⟨B,h0,c⟩:=this n;exact ⟨B,h0,λx v d=>c x v (qz g' pW d).2.1 d⟩
     have EJ:=(Qp H (g t) r lI U hB Mu pW j w I q).1 kt;have own:w.a=p.a:=by have:=Xm (F:=F) (n:=n) r j w I q kt;exact this
     rw [ka] at own;subst own;exact .inr (.inr ⟨p.b,w.v,yz,d,EJ⟩)
    ·have q:ag (run n F s0 (t+1)) j=some w:=q;rw [e] at q;exact absurd (mv q) (by exact FU I)
   aS:=λt a b e v v' m h d yy heT yz C=>by
    obtain ⟨w,c,f,u,y,o,h6⟩:=E t a b h;have d:val (run n F s0 t) (true,a,b)=some v:=d;rw [d] at o;cases o;obtain ⟨x,V,k2,k3,k4,_⟩:=Q e a b yz;obtain ⟨x8,hf⟩:=ends e (by exact bf heT) e x V k2;rw [k4] at hf;have R:=(qz (g t) (z t (by exact bf m)) d).1;have LA:=H.num _ _ hf;have hd:aH (du F) .aS t (run n F s0 t)=take (run n F s0 t) ⟨false,a,b,x8.2.2-w.v⟩ .aS [t]:=by unfold aH;rw [c];show put _ (du F w) _ _=_;unfold du;rw [if_pos ⟨f,by rw [u,y];exact R⟩,y,hf,u];rfl
    obtain ⟨x5,Z,nu⟩:=Dy (st:=run n F s0 t) (word:=.aS) (used:=[t]) (w:=⟨false,a,b,x8.2.2-w.v⟩) R;have iz:Imp (aH (du F) .aS t (run n F s0 t)) (eK n F t a b (run n F s0 t)):=by unfold eK;dsimp only;exact (((gc _ _ _ _).trans (dS (λ_ _=>cW ..) _ _)).trans (dS (λ_ _=>cW ..) _ _)).trans (dS (λ_ _=>cW ..) _ _)
    rw [hd] at iz;obtain ⟨u2,A3,T_⟩:=iz.2 (false,a,b) x5 R Z;rw [<-h6] at A3;have pQ:t+1<=e\/t=e:=by lia
    rcases pQ with pQ | pQ
    ·obtain ⟨u3,l3,e3⟩:=wms (t+1) a b u2 A3 (e-(t+1)) (by lia);rw [show t+1+(e-(t+1))=e by exact mz pQ] at e3;have C:val (run n F s0 e) (false,a,b)=some v':=C;rw [C] at e3;cases e3;unfold ed at nu T_;simp at nu T_;lia
    ·subst pQ;rw [c] at V;cases V;rw [f] at k2;cases k2
   ph:=λt a b B m Mu hB h=>by
    have h:val (run n F s0 (t+1)) (false,a,b)≠val (run n F s0 t) (false,a,b):=h;obtain ⟨j,w,I,q,Y,d⟩:=HW (g t) (g (t+1)) (tS n F t (run n F s0 t)).1 (k:=(false,a,b)) h;obtain ⟨kt,_⟩:=iq Y;have d:val (run n F s0 (t+1)) (false,a,b)=some w.v:=d;have q:ag (run n F s0 (t+1)) j=some w:=q;have W:=z (t+1) m;refine ⟨w.v,d,?_⟩;rcases step n F s0 (X t m) with ⟨p,r,lI,S,e⟩ | ⟨p,r,lI,yz,e⟩ | ⟨_,_,e⟩
    ·have hpv: -B<=p.v:=by
      obtain ⟨D,V,_,_,_,k5,_⟩:=E t _ _ S;rw [r] at V;cases V;have R:=(qz (g t) (z t (by exact bf m)) k5).1;obtain ⟨u',q1,q2⟩:=(tS n F t (run n F s0 t)).2 (true,p.a,p.b) p.v R k5;have:=hB p.a p.b u' q1;unfold ed at q2;simp at q2;exact vm this q2
     rw [e] at q W;have:=((ID H (g t) r U U W j w I q).2 kt).1;lia
    ·have hB':∀x v,val (fC n F t p.a (run n F s0 t)) (true,x,p.a)=some v->-B<=v:=λx v O=>by
      rw [<-e] at O;exact hB x p.a v O
     rw [e] at q W;exact (Qp H (g t) r lI U hB' Mu W j w I q).2 kt
    ·rw [e] at q;exact absurd (mv q) (by exact FU I)
   grow:=λt m=>by
    have Vw:=z (t+1) m;rcases step n F s0 (X t m) with ⟨p,r,lI,_,e⟩ | ⟨p,r,_,_,e⟩ | ⟨_,_,e⟩
    ·have:=Xi H (g t) r lI (by rw [<-e];exact Vw);show (run n F s0 (t+1)).rows.length<=(run n F s0 t).rows.length+20;rw [e];lia
    ·have:=Rm H (g t) r (by rw [<-e];exact Vw);show (run n F s0 (t+1)).rows.length<=(run n F s0 t).rows.length+20;rw [e];lia
    ·show (run n F s0 (t+1)).rows.length<=_;rw [e];exact oq _ _
   uA:=λt m w8=>by
    rcases step n F s0 (X t m) with ⟨p,_,_,S,_⟩ | ⟨p,r,_,_,e⟩ | ⟨_,_,e⟩
    ·exact absurd S (w8 _ _)
    ·have:=Rm H (g t) r (by rw [<-e];exact z (t+1) m);show (run n F s0 (t+1)).rows.length<=(run n F s0 t).rows.length+8;rw [e];lia
    ·show (run n F s0 (t+1)).rows.length<=_;rw [e];exact oq _ _
   uB:=λt m w8 hnw=>by
    rcases step n F s0 (X t m) with ⟨p,_,_,S,_⟩ | ⟨p,_,_,yz,_⟩ | ⟨_,_,e⟩
    ·exact absurd S (w8 _ _)
    ·exact absurd yz (hnw _ _)
    ·show (run n F s0 (t+1)).rows.length=_;rw [e]
   fQ:=λt0 t a b v m h0 c d C=>by
    have d:val (run n F s0 t0) (true,a,b)=some v:=d;have C:val (run n F s0 t) (true,a,b)=some v:=C;obtain ⟨j,w,I,q,Y,_⟩:=zE (g t0) d;obtain ⟨j',D,wC,hw',u1,Lk⟩:=zE (g t) C;have ejj:j=j':=gh λx6=>Za c (g t0) (g t) (z t m) I wC x6 (C.trans d.symm);subst ejj;obtain ⟨_,_⟩:=iq Y;have LV:=mv q;have LU:j<t:=by exact gz LV h0
    obtain ⟨p,r⟩:∃p,ag (run n F s0 j) j=some p:=⟨_,by unfold ag;rw [gI (X j (by lia))];rfl⟩;have lT:=bY (rx (n:=n) (F:=F) (s:=s0) (bf LU)).1 r;rw [hw'] at lT;cases lT;obtain ⟨kt',ka',kb'⟩:=iq u1;obtain ⟨i,hi,A'⟩:=(g j).top j D r;rw [u1] at A';have:=Q' (bf LU) (g j) A' wC;have e:i=j:=by lia
    rw [e] at A';exact ⟨j,LU,⟨D,r,kt',ka',kb',A'⟩,by show val (run n F s0 j) (true,a,b)=some v;rw [oB A' r,Lk]⟩
   drop:=λt t' a b v v' J hT h G d C=>by obtain ⟨w,c,f,u,y,o,_⟩:=E t a b h;obtain ⟨D,A,N,L,M,Bb,_⟩:=E t' a b G;have d:val (run n F s0 t) (true,a,b)=some v:=d;have C:val (run n F s0 t') (true,a,b)=some v':=C;rw [d] at o;rw [C] at Bb;cases o;cases Bb;have:=(g t').drop (z t' (by exact bf hT)) t t' w D (bY (rx (bf J)).1 c) A (by unfold ak.key;rw [f,u,y,N,L,M]) J;unfold ed at this;rw [f] at this;simp at this;exact this
   ud:=λt t' a b v v' J hT h G d C=>by obtain ⟨w,c,f,u,y,o,_⟩:=Q t a b h;obtain ⟨D,A,N,L,M,Bb,_⟩:=Q t' a b G;have d:val (run n F s0 t) (false,a,b)=some v:=d;have C:val (run n F s0 t') (false,a,b)=some v':=C;rw [d] at o;rw [C] at Bb;cases o;cases Bb;have:=(g t').drop (z t' (by exact bf hT)) t t' w D (bY (rx (bf J)).1 c) A (by unfold ak.key;rw [f,u,y,N,L,M]) J;unfold ed at this;rw [f] at this;simp at this;exact this
   once:=λt t' a b J _ h G=>by obtain ⟨w,c,_⟩:=E t a b h;obtain ⟨D,A,N,L,M,_,_⟩:=E t' a b G;obtain ⟨_,_,_,_,_,o⟩:=h;exact once (true,a,b) t t' w D J c A (by unfold ak.key;rw [N,L,M]) o
   m9:=λt t' a b J _ h G=>by obtain ⟨w,c,_,_,_,_,o⟩:=Q t a b h;obtain ⟨D,A,N,L,M,_,_⟩:=Q t' a b G;exact once (false,a,b) t t' w D J c A (by unfold ak.key;rw [N,L,M]) o }
theorem Ze (o:n<=8) (x:jc n F ((60:Nat):Int)) (u:bV n s0) (E:∀i,0<i->i<n->(∃v,v<=((60:Nat):Int)/\val s0 (true,0,i)=some v)/\∃v,v<=0/\val s0 (true,i,0)=some v) (G:∀a b,val s0 (false,a,b)=none) (h0:s0.rows.length<=1000):
 ∃T,((run n F s0 T).rows.length<=T\/(run n F s0 T).bar≠none)/\(∀t,t<T->t<(run n F s0 t).rows.length/\(run n F s0 t).bar=none)/\∀t,t<=T->(run n F s0 t).rows.length<=16000000:=by
 have q:∀T,(∀t,t<T->t<(run n F s0 t).rows.length/\(run n F s0 t).bar=none)->(run n F s0 T).rows.length<=15900000+26:=λT h=>by
  cases T with
  | zero=>exact cP h0 (by decide)
  | succ T=>
   have b:=(zD0 (l:=60) (mo:=60) o x u E G (T:=T) (λt d=>(h t (by exact iC d)).1) (λt d=>(h t (IK d)).2)).rows;have b:(run n F s0 T).rows.length<=(run n F s0 0).rows.length+1568*(7*(7*(60+1)+7*(60+1)+1))+20*(56*(2*60+1))+8*((56*(2*60+1)+56*(60+60+1))*56+(56*(60+2*60+1)+56)):=b;have r:(run n F s0 0).rows.length=s0.rows.length:=U;have l:=WJ (n:=n) (F:=F) (at_:=T) (s:=run n F s0 T) o;have l:(run n F s0 (T+1)).rows.length<=(run n F s0 T).rows.length+26:=l;rw [r] at b;lia
 have A:∃T,(run n F s0 T).rows.length<=T\/(run n F s0 T).bar≠none:=gh λp=>by have k:∀t,t<(run n F s0 t).rows.length/\(run n F s0 t).bar=none:=λt=>⟨gh λc=>p ⟨t,.inl (by exact kZ c)⟩,gh λc=>p ⟨t,.inr c⟩⟩;have m:=q 16000000 λt _=>k t;have f:=(k 16000000).1;lia
 have D:∀N,(∃T,T<=N/\((run n F s0 T).rows.length<=T\/(run n F s0 T).bar≠none)/\∀t,t<T->t<(run n F s0 t).rows.length/\(run n F s0 t).bar=none)\/∀t,t<=N->t<(run n F s0 t).rows.length/\(run n F s0 t).bar=none:=λN=>by
  induction N with
  | zero=>
   by_cases c:(run n F s0 0).rows.length<=0\/(run n F s0 0).bar≠none
   ·exact .inl ⟨0,ay _,c,λt d=>absurd d (oJ _)⟩
   ·refine .inr λt d=>?_;rw [show t=0 by lia];exact ⟨gh λz=>c (.inl (by exact kZ z)),gh λz=>c (.inr z)⟩
  | succ N C=>
   rcases C with ⟨T,m,f,g⟩ | h
   ·exact .inl ⟨T,by exact iC m,f,g⟩
   ·by_cases c:(run n F s0 (N+1)).rows.length<=N+1\/(run n F s0 (N+1)).bar≠none
    ·exact .inl ⟨N+1,ay _,c,λt d=>h t (by exact uH d)⟩
    ·refine .inr λt d=>?_
     by_cases e:t=N+1
     ·rw [e];exact ⟨gh λz=>c (.inl (pb z)),gh λz=>c (.inr z)⟩
     ·exact h t (by lia)
 obtain ⟨j,y⟩:=A;rcases D j with ⟨T,_,f,g⟩ | h
 ·exact ⟨T,f,g,λt d=>cP (q t λs B=>g s (gz B d)) (by lia)⟩
 ·have:=h j (ay _);rcases y with z | z
  ·exact (zN this.1 z).elim
  ·exact absurd this.2 z
end MU
open MU (gW DB pd Dr)
set_option maxRecDepth 100000
namespace L2
theorem SU {c A B:Prop} [Decidable c] (a:¬c) (h:A):if (!decide c)=true then A else B:=by rw [eE a];exact fv h
end L2
namespace Y0
open PySem L2
seal kT i6 iA gd hQ il i9 i8 gm a8
def l8 (tie:Bool):Str:=if tie=true then "tie" else "wait"
def kI (x:ak):List V:=[.str (l8 x.tie),.int (x.a:Int),.int (x.b:Int),.int x.v]
def ip (H:Hp) (q:Addr) (x:ak):Prop:=H q=some (.tup (kI x))
theorem ip.same (h:ip H q x) (s:a0 H H'):ip H' q x:=s _ _ h
structure lB (H:Hp) (d:Addr) (F:MU.cS):Prop where
 at_:∃kvs:List (Key×V),H d=some (.dK kvs)/\(kvs.length<=100/\∀kv∈kvs,∃e:Nat,kv.1=Sum.inl (e:Int))/\(∀e:Nat,F e=none->dJ kvs (.inl (e:Int))=none)/\∀(e:Nat) f,F e=some f->∃p,dJ kvs (.inl (e:Int))=some (.ref p)/\H p=some (.tup [.int (f.1:Int),.int f.2.1,.int f.2.2])
theorem lB.same (h:lB H d F) (s:a0 H H'):lB H' d F:=by obtain ⟨j,a,b,c,g⟩:=h.at_;refine ⟨j,s _ _ a,b,c,λe f i=>?_⟩;obtain ⟨p,k,l⟩:=g e f i;exact ⟨p,k,s _ _ l⟩
def mq (H:Hp) (Q:VK) (o:Option ak):Prop:=(o=none->∀a,a0 H a->Q .aG a)/\∀x,o=some x->∀r a,H r=none->a0 H a->ip a r x->Q (.ref r) a
theorem mq.no (h:mq H Q o) (e:o=none):Q .aG H:=h.1 e H (a0.refl _)
theorem mq.yes (h:mq H Q o) (e:o=some x) (a:H r=none):Q (.ref r) (upd H r (.tup (kI x))):=h.2 x e r _ a (aV a) ai
theorem JW:decide (V.int a=V.int b)=decide (a=b):=decide_eq_decide.mpr ⟨λq=>V.int.inj q,λq=>by rw [q]⟩
theorem oM {a b:Nat}:decide (V.int (a:Int)=V.int (b:Int))=decide (a=b):=decide_eq_decide.mpr ⟨λq=>B2 (V.int.inj q),λq=>by rw [q]⟩
structure JS (mg:Str->Option Value):Prop where
 min:mg "min"=none
def OE:Sp:=λa H Q _=>∃d q F x,a=[.ref d,.ref q]/\lB H d F/\ip H q x/\x.tie=true/\mq H Q (du F x)
def NS:Sp:=λa H Q _=>∃d q F x,a=[.ref d,.ref q]/\lB H d F/\ip H q x/\x.tie=true/\mq H Q (dC F x)
def Ta:Sp:=λa H Q _=>∃p q x y,a=[.ref p,.ref q]/\ip H p x/\ip H q y/\x.tie=true/\y.tie=true/\mq H Q (aB x y)
def NU:Sp:=λb H Q _=>∃d q F x a,b=[.ref d,.ref q]/\lB H d F/\ip H q x/\x.tie=false/\F x.b=some a/\mq H Q (dF F x)
def Tt:Sp:=λb H Q _=>∃d p q F x y a,b=[.ref d,.ref p,.ref q]/\lB H d F/\ip H p x/\ip H q y/\x.tie=false/\y.tie=true/\F x.b=some a/\mq H Q (bg F x y)
def Pk:Sp:=λb H Q _=>∃d q F x a,b=[.ref d,.ref q]/\lB H d F/\ip H q x/\x.tie=false/\F x.b=some a/\mq H Q (dt F x)
def OA:Sp:=λa H Q _=>∃q x,a=[.ref q]/\ip H q x/\Q (.bl (decide (ix x))) H
section
theorem SD:bR ["falls","tie","end"] č (aF eh):=cD
theorem sr (F:Fn K mg "by_late" eh č f fd):aq P w K mg base aw 1 f fd č OE:=by
 refine F.F.cY SD λ_ A _ s H _ Q E u h=>?_;obtain ⟨d,q,b,x,rfl,j,a,y,G⟩:=h;have i:=jl u;refine ⟨_,cv (cx 2 SD.nd (aE (pv 1)))
  (cv (dr (PW.pt (o6 (tL (zY i (pv 2) (pv 0)) (by with_unfolding_all rfl)) (rf (cG fy (aE (pv 1)) (pv 2))))) (au (cg iI)) d8)
  (au (cg (f9 (kQ dY (aE (pv 1)) (pv 2) (cu iH (aE (jF i (pv 0) (pv 2) (λ_ _=>rfl))) (aE (pv 1)))))))),?_⟩
 obtain ⟨B,g,_,m,n⟩:=j.at_;refine (aa U (aD a U (aa U (aa U ⟨d,_,U,eF.k (k:=Sum.inl (x.b:Int)) g,_,U,?_⟩))))
 cases hf:b x.b with
 | none=>
  rw [m _ hf];refine fv (G.no ?_);unfold du;rw [hf];split<;>rfl
 | some o=>
  obtain ⟨p,e,l⟩:=n _ _ hf;rw [e];refine dk (aa U (aD a U (aa U ⟨U,ct ?_⟩)));rw [oM]
  by_cases c:x.a=x.b
  ·refine fu c (G.no ?_);unfold du;rw [if_neg λz=>z.2 c]
  ·refine gL c ?_;have t:du b x=some ⟨false,x.a,x.b,o.2.2-x.v⟩:=by
    unfold du;rw [if_pos ⟨y,c⟩,hf];rfl
   refine (aa U (aD a U (aa U (aa U (aa U ⟨d,_,U,e▸eF.k (k:=Sum.inl (x.b:Int)) g,?_⟩)))));refine aD l U (aa U (aD a U (ri ⟨eH U,λr v=>G.yes t v⟩)))
theorem SX:bR ["falls","tie","end"] č (aF eg):=cD
theorem rZ (F:Fn K mg "by_soon" eg č f fd):aq P w K mg base aw 1 f fd č NS:=by
 refine F.F.cY SX λ_ A _ s H _ Q E v h=>?_;obtain ⟨d,q,j,x,rfl,n,a,B,G⟩:=h;have i:=jl v;refine ⟨_,cv (cx 2 SX.nd (aE (pv 1)))
  (cv (dr (PW.pt (o6 (tL (zY i (pv 2) (pv 0)) (by with_unfolding_all rfl)) (o6 (cG fy (aE (pv 1)) (pv 2)) (rf (cG Kf (aE (pv 1)) a7))))) (au (cg iI)) d8)
  (au (cg (f9 (kQ dY (aE (jF i (pv 0) (pv 2) (λ_ _=>rfl))) (aE (pv 1)) (cu i5 (aE (jF i (pv 0) (pv 2) (λ_ _=>rfl))) (aE (pv 1)))))))),?_⟩
 obtain ⟨C,g,_,o,t⟩:=n.at_;refine (aa U (aD a U (aa U (aa U ⟨d,_,U,eF.k (k:=Sum.inl (x.a:Int)) g,_,U,?_⟩))))
 cases hf:j x.a with
 | none=>
  rw [o _ hf];refine fv (G.no ?_);unfold dC;rw [hf];split<;>rfl
 | some m=>
  obtain ⟨p,e,l⟩:=t _ _ hf;rw [e];refine dk (aa U (aD a U (aa U ⟨U,ct ?_⟩)));rw [oM]
  by_cases c:x.b=x.a
  ·refine fu c (G.no ?_);unfold dC;rw [if_neg λz=>z.2.1 c.symm]
  ·refine gL c (aa U (aD a U (ri (ct ?_))))
   by_cases b:x.v<0
   ·refine gL (by exact Int.not_le.mpr b) ?_;have u:dC j x=some ⟨true,m.1,x.b,m.2.1+x.v⟩:=by
     unfold dC;rw [if_pos ⟨B,λz=>c z.symm,b⟩,hf];rfl
    refine (aa U (aa U ⟨d,_,U,e▸eF.k (k:=Sum.inl (x.a:Int)) g,?_⟩));refine aD l U (aa U (aD a U (aa U (aa U ⟨d,_,U,e▸eF.k (k:=Sum.inl (x.a:Int)) g,?_⟩))));refine aD l U (aa U (aD a U (ri ⟨eH U,λr y=>G.yes u y⟩)))
   ·refine fu (o_ b) (G.no ?_);unfold dC;rw [if_neg λz=>b z.2.2]
theorem ϯ:bR Ė Ė (aF ff):=cD
theorem vU (F:Fn K mg "by_sum" ff Ė f fd):aq P w K mg base aw 1 f fd Ė Ta:=by
 refine F.F.cY ϯ λ_ A _ s H _ Q E j h=>?_;obtain ⟨p,q,x,y,rfl,a,b,g,i,G⟩:=h;refine ⟨_,cv (dr (cG BS (aE (pv 0)) (aE (pv 1))) (au (cg iI)) d8)
  (au (cg (f9 (kQ dY (aE (pv 0)) (aE (pv 1)) (cu i5 (aE (pv 0)) (aE (pv 1))))))),?_⟩
 refine (aa U (aD a U (aa U (aD b U ⟨U,ct ?_⟩))));rw [oM]
 by_cases c:x.b=y.a
 ·refine qW c ?_;have d:aB x y=some ⟨true,x.a,y.b,x.v+y.v⟩:=if_pos ⟨g,i,c⟩;exact (aa U (aD a U (aa U (aD b U (aa U (aD a U (aa U (aD b U (ri ⟨eH U,λr e=>G.yes d e⟩)))))))))
 ·exact SU c (G.no (if_neg λz=>c z.2.2))
theorem Hr {a b:Int}:(if b<a then b else a)=min a b:=by
 rw [Int.min_def]
 by_cases c:b<a
 ·rw [if_pos c,if_neg (by exact Int.not_le.mpr c)]
 ·rw [if_neg c,if_pos (o_ c)]
theorem Pf:bR ["falls","wait","fall"] Ĉ (aF ef):=cD
theorem rX (F:Fn K mg "by_sure" ef Ĉ f fd) (T:JS mg):aq P w K mg base aw 1 f fd Ĉ NU:=by
 refine F.F.cY Pf λ_ A _ s H _ Q E o h=>?_;obtain ⟨d,q,i,x,c,rfl,g,a,u,e,G⟩:=h;have v:=jl o;refine ⟨_,cv (cx 2 Pf.nd (jF v (pv 0) (aE (pv 1)) (λ_ _=>rfl)))
  (au (cg (f9 (kQ dY (aE (pv 1)) (aE (pv 2)) (uV uY (i7 (zT U) (by rfl) T.min (by decide+kernel) (bo (aE (pv 1)) (aE (pv 2))))))))),?_⟩
 obtain ⟨y,m,_,_,l⟩:=g.at_;obtain ⟨p,j,b⟩:=l _ _ e;have n:dF i x=some ⟨true,x.a,c.1,-min x.v c.2.1⟩:=by unfold dF;rw [if_pos u,e];rfl
 refine (aa U (aa U (aD a U ⟨d,_,U,j▸eF.k (k:=Sum.inl (x.b:Int)) m,?_⟩)));refine (aa U (aD a U (aa U (aD b U (aa U (aD a U (aa U (aD b U ⟨_,_,U,_,U,eH U,λr t=>?_⟩))))))));have:=G.yes n t;rw [Hr];exact this
theorem Pe:bR ["falls","wait","tie","end"] ē (aF ej):=cD
theorem sE (F:Fn K mg "by_back" ej ē f fd) (T:JS mg):aq P w K mg base aw 1 f fd ē Tt:=by
 refine F.F.cY Pe λ_ A _ s H _ Q E v h=>?_;obtain ⟨d,p,q,j,x,y,o,rfl,i,e,b,D,I,g,G⟩:=h;have C:=jl v;refine ⟨_,cv (cx 3 Pe.nd (aE (pv 1)))
  (cv (dr (PW.pt (o6 (cG BS (aE (pv 2)) (aE (pv 1))) (rf (cG fy (aE (pv 2)) (pv 3))))) (au (cg iI)) d8)
  (au (cg (f9 (kQ dY (aE (pv 2)) (pv 3) (cu iH (i7 (zT U) (by rfl) T.min (by decide+kernel) (bo (aE (pv 1)) (aE (jF C (pv 0) (pv 3) (λ_ _=>rfl))))) (aE (pv 2)))))))),?_⟩
 obtain ⟨J,t,_,_,n⟩:=i.at_;obtain ⟨L,l,m⟩:=n _ _ g;refine (aa U (aD e U (aa U (aD b U (aa U (aD e U ⟨U,ct ?_⟩))))));rw [oM]
 by_cases c:y.b=x.a
 ·refine qW c (aa U (aD b U (aa U ⟨U,ct ?_⟩)));rw [oM]
  by_cases a:y.a=x.b
  ·exact fu a (G.no (if_neg λz=>z.2.2.2 a))
  ·refine gL a ?_;have u:bg j x y=some ⟨false,y.a,x.b,min x.v o.2.2-y.v⟩:=by
    unfold bg;rw [if_pos ⟨D,I,c,a⟩,g];rfl
   refine (aa U (aD b U (aa U (aa U (aD e U (aa U (aa U ⟨d,_,U,l▸eF.k (k:=Sum.inl (x.b:Int)) t,?_⟩)))))));refine aD m U ⟨_,_,U,aa U (aD b U (ri ⟨eH U,λr B=>?_⟩))⟩;have:=G.yes u B;rw [Hr];exact this
 ·exact SU c (G.no (if_neg λz=>c z.2.2.1))
theorem IA:bR ["falls","wait","end","other"] Ĉ (aF dE):=cD
theorem pJ (F:Fn K mg "by_cross" dE Ĉ f fd) (T:JS mg):aq P w K mg base aw 1 f fd Ĉ Pk:=by
 refine F.F.cY IA λ_ A _ s H _ Q E D h=>?_;obtain ⟨d,q,i,x,y,rfl,p,a,J,l,G⟩:=h;have g:=jl D;refine ⟨_,cv (cx 2 IA.nd (aE (pv 1)))
  (cv (dr (PW.pt (o6 (tL (zY g (aE (pv 1)) (pv 0)) (by with_unfolding_all rfl)) (o6 (cG fy (aE (pv 1)) (pv 2)) (rf (cG jN (aE (pv 1)) a7))))) (au (cg iI)) d8)
  (cv (cx 3 IA.nd (jF g (pv 0) (aE (pv 1)) (λ_ _=>rfl)))
  (au (cg (f9 (kQ dY (aE (pv 3)) (pv 2) (cu iH (i7 (zT U) (by rfl) T.min (by decide+kernel) (bo (aE (pv 1)) (aE (jF g (pv 0) (pv 2) (λ_ _=>rfl))))) (aE (pv 3))))))))),?_⟩
 obtain ⟨L,e,_,v,j⟩:=p.at_;obtain ⟨N,t,u⟩:=j _ _ l;refine (aa U (aD a U (aa U (aD a U (aa U ⟨d,_,U,eF.k (k:=Sum.inl (x.a:Int)) e,_,U,?_⟩)))))
 cases C:i x.a with
 | none=>
  rw [v _ C];refine fv (G.no ?_);unfold dt;rw [C];split<;>rfl
 | some o=>
  obtain ⟨M,m,n⟩:=j _ _ C;rw [m];refine dk (aa U (aD a U (aa U ⟨U,ct ?_⟩)));rw [oM]
  by_cases c:x.a=x.b
  ·refine fu c (G.no ?_);unfold dt;rw [if_neg λz=>z.2.1 c]
  ·refine gL c (aa U (aD a U (ri (ct ?_))))
   by_cases b:0<x.v
   ·refine gL (by exact Int.not_le.mpr b) ?_;have B:dt i x=some ⟨false,o.1,x.b,min x.v y.2.2-o.2.1⟩:=by
     unfold dt;rw [if_pos ⟨J,c,b⟩,C,l];rfl
    refine (aa U (aa U (aD a U ⟨d,_,U,m▸eF.k (k:=Sum.inl (x.a:Int)) e,?_⟩)));refine (aa U (aD n U (aa U (aa U (aD a U (aa U (aa U ⟨d,_,U,t▸eF.k (k:=Sum.inl (x.b:Int)) e,?_⟩)))))));refine aD u U ⟨_,_,U,aa U (aD n U (ri ⟨eH U,λr I=>?_⟩))⟩;have:=G.yes B I;rw [Hr];exact this
   ·refine fu (o_ b) (G.no ?_);unfold dt;rw [if_neg λz=>b z.2.2]
theorem Ϯ:bR Ĥ Ĥ (aF bh):=cD
theorem CK:decide (V.str (l8 t)=V.str "tie")=t:=by
 cases t
 ·exact eE λq=>absurd (V.str.inj q) (by decide+kernel)
 ·exact eO U
theorem sD (F:Fn K mg "bars_every_hand" bh Ĥ f fd):aq P w K mg base aw 1 f fd Ĥ OA:=by
 refine F.F.cY Ϯ λ_ A _ s H _ Q E g h=>?_;obtain ⟨q,x,rfl,a,k⟩:=h;refine ⟨_,au (cg (qZ (jJ fy (aE (pv 0)) dY) (qZ (jJ fy (aE (pv 0)) (aE (pv 0))) (q_ (jJ tF (aE (pv 0)) a7))))),?_⟩;have d:∀b:Bool,b=decide (ix x)->Q (.bl b) H:=λb e=>by rw [e];exact k
 refine (aa U (aD a U ⟨U,_,U,?_⟩));rw [CK]
 cases C:x.tie with
 | false=>exact dk (d _ (eE λz=>by have:=z.1;rw [C] at this;cases this).symm)
 | true=>
  refine fv (aa U (aD a U (aa U (aD a U ⟨U,_,U,?_⟩))));rw [oM]
  by_cases c:x.a=x.b
  ·refine fu c (aa U (aD a U (ri (d _ ?_))));exact decide_eq_decide.mpr ⟨λz=>⟨C,c,z⟩,λz=>z.2.2⟩
  ·exact gL c (d _ (eE λz=>c z.2.1).symm)
end
def Tp:List Int->Option (Nat×Int×Int)
 | [a,_,l,m]=>some (a.toNat,l,m)
 | _=>none
noncomputable def aQ (F:List (List Int)):MU.cS:=λe=>(F.find? λr=>decide (r[1]?=some (e:Int))).bind Tp
theorem JK {F:List (List Int)} {e:Nat} (h:∀r∈F,r[1]?≠some (e:Int)):aQ F e=none:=by
 unfold aQ;have:(F.find? λr=>decide (r[1]?=some (e:Int)))=none:=List.find?_eq_none.mpr λr a=>by simpa using h r a
 rw [this];rfl
theorem dn.find {n la:Int} {T F:List (List Int)} (h:dn n la T F) {e:Nat} {f:Nat×Int×Int} (c:aQ F e=some f):∃a l m:Int,[a,(e:Int),l,m]∈F/\f=(a.toNat,l,m)/\0<=a/\a<n/\0<(e:Int)/\(e:Int)<n/\a≠(e:Int)/\1<=l/\l<=m/\m<=60:=by
 unfold aQ at c
 cases q:F.find? λr=>decide (r[1]?=some (e:Int)) with
 | none=>rw [q] at c;cases c
 | some r=>
  rw [q] at c;have c:Tp r=some f:=c;have d:=Nz q;have i:=Nb q;obtain ⟨a,b,l,m,rfl,j,k,o,p,s,t,u,v⟩:=h.f r d;have g:some b=some (e:Int):=uI i;cases g;cases c;exact ⟨a,l,m,d,U,j,k,o,p,s,t,u,v⟩
theorem dn.dW {n la:Int} {T F:List (List Int)} (h:dn n la T F) {a l m:Int} {e:Nat} (d:[a,(e:Int),l,m]∈F):aQ F e=some (a.toNat,l,m):=by
 obtain ⟨i,c⟩:=tr.mp d;unfold aQ
 cases q:F.find? λr=>decide (r[1]?=some (e:Int)) with
 | none=>
  have:=List.find?_eq_none.mp q _ d;simp at this
 | some r=>
  have f:=Nz q;obtain ⟨j,b⟩:=tr.mp f;have g:r[1]?=some (e:Int):=uI (Nb (p:=λr=>decide (r[1]?=some (e:Int))) q);have k:=h.one i j _ _ c b (by rw [g];rfl);subst k;rw [c] at b;cases b;rfl
theorem dn.oG {n:Nat} {la:Int} {T F:List (List Int)} (h:dn (n:Int) la T F):jc n (aQ F) ((60:Nat):Int):=by
 refine ⟨λe f b=>?_,λe f b=>?_,λe f b=>?_⟩
 ·obtain ⟨a,l,m,_,rfl,_,o,p,q,_⟩:=h.find b;exact ⟨by show a.toNat<n;lia,by lia⟩
 ·obtain ⟨a,l,m,c,rfl,g,_⟩:=h.find b;refine JK λr d=>?_;have:=h.own _ c r d;show r[1]?≠some ((a.toNat:Nat):Int);rw [show ((a.toNat:Nat):Int)=a by exact Dg g];exact λz=>this z.symm
 ·obtain ⟨a,l,m,_,rfl,_,_,_,_,_,i,j,k⟩:=h.find b;exact ⟨i,j,k⟩
theorem WM {kvs:List (Key×V)} {k:Key} {v:V} {kv:Key×V} (h:kv∈eJ kvs k v):kv.1=k\/∃a∈kvs,kv.1=a.1:=by
 unfold eJ at h;split at h
 ·obtain ⟨a,b,rfl⟩:=fY.mp h;refine .inr ⟨a,b,?_⟩;split<;>rfl
 ·rcases jj.mp h with h | h
  ·exact .inr ⟨kv,h,U⟩
  ·rw [ig.mp h];exact .inl U
def HR (C:Addr):Sp:=λc H Q _=>∃p n b T F,c=[.ref p]/\jK C H p n b T F/\dn n b T F/\∀d a,H d=none->a0 H a->lB a d (aQ F)->Q (.ref d) a
section
noncomputable abbrev nBe:List Str:=["web","found","one","other","least","most"]
theorem yo:bR nBe Ċ (aF br):=cD
theorem pL {f C fF:Addr} {fd sV:FuncData} (F:Fn K mg "falls_by_end" br Ċ f fd) (TC:o1 K mg C) (mF:fV K C "falls" fF) (bF:dm K sV xv []) (GF:aq P w K mg base aw 1 fF sV xv (zq C λ_ F=>F)):
 aq P w K mg base aw 2 f fd Ċ (HR C):=by
 refine F.F.cY yo λ_ x6 _ x9 H _ x8 x7 m h=>?_;obtain ⟨x4,x2,la,rT,rF,rfl,W0,u,k⟩:=h;have hu:=jl m;refine ⟨_,aR (cx 1 yo.nd PX)
  (aR (iJ ja U (gP (oX (pv 0) TC.cl mF GF m bF .nil dR))
   (uX U (g9 (cf 2 yo.nd) (g9 (cf 3 yo.nd) (g9 (cf 4 yo.nd) (g9 (cf 5 yo.nd) tQ)))))
   (au (Cs hu (pv 1) (pv 3) (f9 (ia (pv 2) (pv 4) (pv 5))) U)))
  (au (cg (pv 1)))),?_⟩
 refine λN1 c1 d S=>c1 _ _ ?_;have s1:=aV (o:=.dK []) S;have e1:upd H d (.dK []) d=some (.dK []):=ai;generalize upd H d (.dK [])=H1 at*;obtain ⟨dx,ta,fa,ep,_,_⟩:=id W0;have nf:(nj x2 la ta fa).lookup ("falls":Str)=none:=DR _ _ _ _ (by decide+kernel) (by decide+kernel) (by decide+kernel) (by decide+kernel);refine λN2 c2=>(aa U (fi (s1 _ _ ep) nf ⟨x4,x2,la,rT,rF,U,W0.same s1,λl N _ s2 R2=>?_⟩));obtain ⟨qs,R⟩:=R2;have R:gx N l qs rF:=R;refine ⟨l,U,⟨_,ar.of R.1⟩,?_⟩;have fl:=u.fl;have T:N d=some (.dK []):=s2 _ _ e1;have hdH:H d=none:=S;refine lD (K:=K) (a:=l) (xs:=qs.map V.ref) (λi L M=>∃E G I J g,L=[some (.ref x4),some (.ref d),E,G,I,J]/\M d=some (.dK g)/\(g.length<=i/\∀Z∈g,∃e:Nat,Z.1=Sum.inl (e:Int))/\(∀e:Nat,(∀r∈rF.take i,r[1]?≠some (e:Int))->dJ g (.inl (e:Int))=none)/\
  (∀a b p s:Int,[a,b,p,s]∈rF.take i->∃q,dJ g (.inl b)=some (.ref q)/\M q=some (.tup [.int a,.int p,.int s]))/\∀b o,N b=some o->b≠d->M b=some o)
  ⟨none,none,none,none,[],U,T,⟨ay _,λZ h=>nomatch h⟩,(λe _=>rfl),(λa b p s h=>by simp at h),λb o e _=>e⟩ ?_ ?_ ?_
 ·rintro i L O _ ⟨E,G,I,J,g,rfl,_,_,_,_,n⟩;exact ar.of (n _ _ R.1 (aI R.1 T nofun))
 ·rintro i m8 L O hx ⟨E,G,I,J,g,rfl,v,⟨W,LS⟩,y,A,n⟩;obtain ⟨q,r,rfl,_,D,ux⟩:=R.get hx;obtain ⟨Q,b',p,s,rfl,_,_,x3,_⟩:=u.f r (eR D);have hi:i<rF.length:=(eX.mp D).1;refine ⟨q,_,U,dB.of (n _ _ ux (aI ux T nofun)),U,_,_,U,_,_,U,_,_,U,_,_,U,U,?_⟩;refine (aa U (aa U (aa U ⟨eH U,λx5 Y=>?_⟩)));have td:x5≠d:=aK (av v Y);refine (aa U (aa U ⟨d,_,U,qj.k (k:=Sum.inl b') (by rw [ah (aK td)];exact v) (fe (by lia)),?_⟩));have tk:rF.take (i+1)=rF.take i++[[Q,b',p,s]]:=by rw [jb,D];rfl
  refine ⟨_,_,_,_,_,U,ai,⟨cP (yh _ _ _) (vl W),λZ jZ=>?_⟩,λe t=>?_,λa b l2 m2 c=>?_,λb o e ne=>?_⟩
  ·rcases WM jZ with z | ⟨KY,z0,z⟩
   ·exact ⟨b'.toNat,by rw [z,k_ (by exact fq x3)]⟩
   ·rw [z];exact LS KY z0
  ·rw [tk] at t;have qG:b'≠(e:Int):=λz=>t [Q,b',p,s] (kY _ gw) (by rw [<-z];rfl);rw [zK,if_neg (λz=>qG (tf z).symm)];exact y e λr m=>t r (lg _ m)
  ·rw [tk] at c;rcases jj.mp c with c | c
   ·have Md:b≠b':=λz=>by
     obtain ⟨j,B⟩:=tr.mp c;have LV:j<i:=by have:=(eX.mp B).1;rw [hG] at this;exact IZ this
     have wC:rF[j]?=some [a,b,l2,m2]:=by rw [List.getElem?_take] at B;rw [if_pos LV] at B;exact B
     have:=u.one j i _ _ wC D (by rw [z];rfl);lia
    obtain ⟨q',X,x⟩:=A a b l2 m2 c;refine ⟨q',by rw [zK,if_neg (λz=>Md (tf z))];exact X,?_⟩;rw [ah (aI x v nofun),ah (av x Y)];exact x
   ·have c:=ig.mp c;cases c;refine ⟨x5,by rw [zK,if_pos rfl],?_⟩;rw [ah td,ai]
  ·rw [ah ne,ah (av (n _ _ e ne) Y)];exact n _ _ e ne
 ·rintro L O ⟨E,G,I,J,g,rfl,v,W,y,A,n⟩;have hle:rF.take (qs.map V.ref).length=rF:=by rw [az,R.len];exact hH
  rw [hle] at y A;rw [az,R.len] at W;refine c2 _ _ (aa U (k d O S (λb o e=>n _ _ (s2 _ _ (s1 _ _ e)) (av e hdH)) ⟨g,v,by lia,λe t=>y e λr m z=>?_,λe f hf=>?_⟩))
  ·obtain ⟨Q,b',p,s,rfl,_⟩:=u.f r m;have z:some b'=some (e:Int):=z;cases z;rw [u.dW m] at t;cases t
  ·obtain ⟨a,l',m',c,rfl,x1,_⟩:=u.find hf;obtain ⟨q,X,x⟩:=A _ _ _ _ c;refine ⟨q,X,?_⟩;rw [x];show some (HO.tup [.int a,.int l',.int m'])=some (HO.tup [.int ((a.toNat:Nat):Int),.int l',.int m']);rw [show ((a.toNat:Nat):Int)=a by exact Dg x1]
end
end Y0
namespace L2
open PySem PySem.Spec PyProof.Rows
def uR:List Value->List Str->Bool
 | [],[]=>true
 | .str x _::b,s::a=>decide (x=s) && uR b a
 | _,_=>false
theorem RI:∀{vs:List Value} {ss:List Str},uR vs ss=true->a_ (ss.map V.str) vs
 | [],[],_=>.nil
 | .str x t::vs,s::ss,h=>by have h:(decide (x=s) && uR vs ss)=true:=h;rw [mX,j9] at h;obtain ⟨e,a⟩:=h;subst e;exact .cons ⟨t,U⟩ (RI a)
 | [],_::_,h=>by cases h
 | .none::_,_,h=>nomatch (show false=true from h)
 | .bool _::_,_,h=>nomatch (show false=true from h)
 | .int _ _::_,_,h=>nomatch (show false=true from h)
 | .float _ _::_,_,h=>nomatch (show false=true from h)
 | .str _ _::_,[],h=>nomatch (show false=true from h)
 | .bytes _ _::_,_,h=>nomatch (show false=true from h)
 | .ref _::_,_,h=>nomatch (show false=true from h)
 | .builtin _::_,_,h=>nomatch (show false=true from h)
 | .type _::_,_,h=>nomatch (show false=true from h)
 | .ellipsis::_,_,h=>nomatch (show false=true from h)
 | .notImplemented::_,_,h=>nomatch (show false=true from h)
def Px (K:aO) (ss:List Str):Value->Bool
 | .ref b=>match K.lookup b with
  | some o=>(o.cls==.type "tuple") && (match o.data with
   | .seq a _=>decide (a.size<=sizeLine) && uR a.toList ss
   | _=>false)
  | none=>false
 | _=>false
theorem RM {ss:List Str} {v:Value} (h:Px K ss v=true):∃b,v=.ref b/\∀H,dB K H b (ss.map V.str):=by
 cases v with
 | ref b=>
  refine ⟨b,U,λH=>.inr ?_⟩
  have h:(match K.lookup b with
   | some o=>(o.cls==.type "tuple") && (match o.data with
    | .seq a _=>decide (a.size<=sizeLine) && uR a.toList ss
    | _=>false)
   | none=>false)=true:=h
  cases q:K.lookup b with
  | none=>rw [q] at h;cases h
  | some o=>
   rw [q] at h
   have h:((o.cls==.type "tuple") && (match o.data with
    | .seq a _=>decide (a.size<=sizeLine) && uR a.toList ss
    | _=>false))=true:=h
   rw [mX] at h;obtain ⟨e,c⟩:=h
   cases d:o.data with
   | seq a n=>
    rw [d] at c;have c:(decide (a.size<=sizeLine) && uR a.toList ss)=true:=c;rw [mX,j9] at c;exact ⟨o,a,n,U,beq_iff_eq.mp e,d,c.1,RI c.2⟩
   | _=>rw [d] at c;cases c
 | _=>cases h
abbrev JQ (K:aO) (a:Addr) (D:List (Str×List Str)):Prop:=KTD.tabLook (λd v=>Px K d v) (λb=>List.lookup b K) a D=true
section
theorem Zb (T:KTD.TabOf R s.heap a D) (j:∀d v,KTD.datumAt k D=some d->R d v->Q (some v) { s with toks:=s.toks+1 }) (m:KTD.datumAt k D=none->Q none { s with toks:=s.toks+1 }):
 wpAny (model prog w) A (dictGet a (.str k tk)) Q E s:=by
 obtain ⟨_,o,b,r,h,_,g,f⟩:=T;unfold dictGet
 try with_reducible refine kX ?_
 refine ae (wpAny_pyHash_str (ae (KTD.kt_dictFind_strs (s:={ s with toks:=s.toks+1 }) h g (by obtain ⟨l⟩:=b;simpa using f.exact) ?_)));have c:Q (findBy (λk v=>v.isStr k) b k) { s with toks:=s.toks+1 }:=by
  have n:findBy (λk v=>v.isStr k) b k=(b.toList.find? λe=>e.key.isStr k).map (·.val):=by obtain ⟨l⟩:=b;simp [findBy]
  rw [n]
  cases C:KTD.datumAt k D with
  | some d=>obtain ⟨v,q,p⟩:=f.find_some C;rw [q];exact j d v C p
  | none=>rw [f.find_none C];exact m C
 rw [findBy_of_findIdx?] at c
 cases hi:b.findIdx? λe=>e.key.isStr k with
 | none=>rw [hi] at c;exact aJ c
 | some i=>rw [hi] at c;exact ae (F7 (s:={ s with toks:=s.toks+1 }) h g (aJ c))
theorem YH:MeetsIn prog w (Builtin.«dict.get» ⟨[.ref a,.str k tk],[]⟩) (λ_ b s=>KTD.TabOf R s.heap a D/\(∀d v,KTD.datumAt k D=some d->R d v->b (.ok (.ret v)) { s with toks:=s.toks+1 })/\(KTD.datumAt k D=none->b (.ok (.ret .none)) { s with toks:=s.toks+1 })):=
 .of_wp λA b s ⟨T,c,e⟩=>by show wpAny _ _ (dictGet a (.str k tk)>>=_) _ _ s;refine ae (Zb T (λd v f h=>aJ ⟨v,U,c d v f h⟩) λg=>?_);show wpAny _ _ (Builtin.Dict.missed a (.str k tk)>>=_) _ _ _;exact ae (wpAny_missed_other T.1 (aJ ⟨.none,U,e g⟩))
end
def zA0 (K:aO) (D:List (Str×List Str)) (h i:TE):TE:=λe H Q=>h e H λx g=>∃a,x=.ref a/\JQ K a D/\i e g λy c=>∃z,y=.str z/\(∀d,KTD.datumAt z D=some d->∀b,(∀f,dB K f b (d.map V.str))->Q (.ref b) c)/\(KTD.datumAt z D=none->Q .aG c)
theorem Yw (N:PE X o td) (L:PE X e ty) (m:M1 X o "get" apos e h9):PE X (.Call (.Attribute o "get" apos) [e] [] h9) (zA0 X.K D td ty):=by
 intro q s x H x1 I h;refine wpAny_Call_method m.base m.pZ m.line PySem.F.plainAttrs_dict PySem.F.slot_dict_get PySem.F.type_dict_get (ax (N q s x H _ I h) λu r g=>?_);obtain ⟨x3,y,j,W,a,A,d,S⟩:=g;subst A;obtain rfl:u=Value.ref a:=W;have T:KTD.TabOf (λ(c:List Str) v=>∃b,v=Value.ref b/\∀H,dB X.K H b (c.map V.str)) r.heap a D:=KTD.tab_of_look (λd v z=>RM z) j.fj d;obtain ⟨_,p,es,ep,n,l,_⟩:=id T;refine ⟨⟨p,n,l.1⟩,λb e=>?_,?_⟩
 ·injection e with e
  subst e;exact ⟨p,n,l.2.1⟩
 rw [m.trees];refine Calls.callWith_builtin U (Calls.evalArgs_plain (Calls.spliced_cons (ax (L q r x y _ j S) λiv t g=>Calls.spliced_nil ?_)));obtain ⟨x4,i,f,Y,z,B,C,E⟩:=g;subst B;obtain ⟨x2,rfl⟩:=Y;have k:KTD.TabOf (λ(c:List Str) v=>∃b,v=Value.ref b/\∀H,dB X.K H b (c.map V.str)) t.heap a D:=KTD.tab_of_look (λd v z=>RM z) f.fj d;refine call_meetsIn PySem.F.slot_dict_get (show t.TypeIs (.ref a) "dict" from ?_) PySem.F.entry_dict_get (PySem.F.args_dict_get_2 _ _) (YH (D:=D)) ⟨k,λc v F Q=>?_,λM=>?_⟩
 ·obtain ⟨_,R,_,_,O,J,_⟩:=id k;exact ⟨R,O,J.1⟩
 ·obtain ⟨b,rfl,G⟩:=Q;exact ⟨.ref b,i,f.tok _,U,C c F b G⟩
 ·exact ⟨.aG,i,f.tok _,U,E M⟩
section
variable {K:aO}
end
section
variable {K:aO}
end
def xD (xs ys:List V):Bool:=((List.range (min xs.length ys.length)).all λj=>lW (xs.getD j .aG) (ys.getD j .aG)) && xs.length==ys.length
theorem WB:∀{x:V},gn x=true->lW x x=true
 | .aG,_=>rfl
 | .bl b,_=>(jI b:(b==b)=true)
 | .int i,_=>(jI i:(i==i)=true)
 | .str s,_=>(jI s:(s==s)=true)
 | .lY _,h=>by cases h
 | .wO _,h=>by cases h
 | .ref _,h=>by cases h
 | .ty _,h=>by cases h
theorem R5 (f:xs.all gn=true):xD xs xs=true:=by
 unfold xD;rw [jI,Bool.and_true,mY];intro j a;have a:=kD.mp a;rw [Nat.min_self] at a;have g:xs[j]?=some (xs.getD j .aG):=by rw [qe,gI a];rfl
 exact WB (xP f g)
section
end
def xI:V->Bool
 | .int _=>true
 | .str _=>true
 | _=>false
theorem YL:∀{xs:List V},xs.all xI=true->xs.all gn=true:=λ{xs} h=>mY.mpr λx a=>by have:=mY.mp h x a;cases x<;>first | rfl | cases this
theorem zCk (h:xI x=true) (h':xI y=true):lW x y=true↔x=y:=by
 cases x with
 | int i=>cases y with
  | int j=>show (i==j)=true↔_;rw [beq_iff_eq,V.int.injEq]
  | str s=>exact ⟨nofun,nofun⟩
  | _=>cases h'
 | str s=>cases y with
  | int j=>exact ⟨nofun,nofun⟩
  | str a=>show (s==a)=true↔_;rw [beq_iff_eq,V.str.injEq]
  | _=>cases h'
 | _=>cases h
theorem Yi (h:xs.all xI=true) (h':ys.all xI=true):xD xs ys=true↔xs=ys:=by refine ⟨λe=>?_,λe=>by rw [e];exact R5 (YL h')⟩;unfold xD at e;rw [mX,mY,beq_iff_eq] at e;obtain ⟨c,d⟩:=e;refine List.ext_getElem d λi a b=>?_;have:=c i (kD.mpr (by lia));rw [qe,qe,gI a,gI b] at this;exact (zCk (mY.mp h _ (xi a)) (mY.mp h' _ (xi b))).mp this
section
variable {K:aO}
def Ϛ (K:aO):R2:=λx y H Q=>∃p q a b,x=.ref p/\y=.ref q/\dB K H p a/\dB K H q b/\a.all gn=true/\b.all gn=true/\Q (.bl (!xD a b)) H
theorem zBw (g:X.K=K) (j:X.A.units+64<cLine):eP X (compareOp .NotEq) (Ϛ K):=by subst g;intro t s D H x y v u Q I o r h;obtain ⟨p,q,B,C,rfl,rfl,e,f,c,d,i⟩:=h;cases o;cases r;obtain ⟨z,a,m,_⟩:=I.tuple e;obtain ⟨A,b,n,_⟩:=I.tuple f;have k:=a.length;have l:=b.length;refine SeqAt.RcNeAt.tuples m n (IP j) (HL a b c d) _ _ _ _ ⟨.bl _,H,I,U,?_⟩;rw [f_,f_,<-k,<-l];exact i
end
open PySem
theorem WC:∀{x:V},gn x=true->lW x x=true
 | .aG,_=>rfl
 | .bl b,_=>(jI b:(b==b)=true)
 | .int i,_=>(jI i:(i==i)=true)
 | .str s,_=>(jI s:(s==s)=true)
 | .lY _,h=>by cases h
 | .wO _,h=>by cases h
 | .ref _,h=>by cases h
 | .ty _,h=>by cases h
theorem YW (h:xs.all gn=true):uP xs xs=true:=by unfold uP;rw [mY];intro j a;have a:=kD.mp a;refine WC (xP h (j:=j) ?_);rw [qe,gI a];rfl
theorem Dp:∀{ss:List Str},(ss.map V.str).all gn=true
 | []=>rfl
 | s::r=>by rw [eN,yO,Dp (ss:=r)];rfl
end L2
namespace Y0
open PySem L2
seal PE PA PT PS eS PG me PI PO
seal kT i6 iA gd hQ il i9 i8 gm a8
abbrev xA:List (Str×List Str):=[("sum",["tie","tie"]),("late",["tie"]),("soon",["tie"]),("sure",["wait"]),("back",["wait","tie"]),("cross",["wait"])]
structure xk (K:aO) (mg:Str->Option Value):Prop where
 at_:∃u,mg "USED_KINDS"=some (.ref u)/\JQ K u xA
 tuple:mg "tuple"=none
def jE (xs:List ak):List Str:=xs.map λx=>l8 x.tie
inductive o3 (F:MU.cS):Str->List ak->Option ak->Prop
 | sum (x y:ak) (hx:x.tie=true) (hy:y.tie=true):o3 F "sum" [x,y] (aB x y)
 | aS (x:ak) (hx:x.tie=true):o3 F "late" [x] (du F x)
 | bp (x:ak) (hx:x.tie=true):o3 F "soon" [x] (dC F x)
 | sure (x:ak) (fa:Nat×Int×Int) (hx:x.tie=false) (hf:F x.b=some fa):o3 F "sure" [x] (dF F x)
 | back (x y:ak) (fa:Nat×Int×Int) (hx:x.tie=false) (hy:y.tie=true) (hf:F x.b=some fa):o3 F "back" [x,y] (bg F x y)
 | a6 (x:ak) (fa:Nat×Int×Int) (hx:x.tie=false) (hf:F x.b=some fa):o3 F "cross" [x] (dt F x)
theorem o3.kinds (h:o3 F word xs o):PyProof.Rows.KTD.datumAt word xA=some (jE xs)/\xs.length<=2:=by
 cases h with
 | sum x y a b=>refine ⟨?_,ay _⟩;unfold jE;rw [eN,eN,sZ,a,b];decide+kernel
 | aS x a=>refine ⟨?_,lb 1⟩;unfold jE;rw [eN,sZ,a];decide+kernel
 | bp x a=>refine ⟨?_,lb 1⟩;unfold jE;rw [eN,sZ,a];decide+kernel
 | sure x c a d=>refine ⟨?_,lb 1⟩;unfold jE;rw [eN,sZ,a];decide+kernel
 | back x y c a b d=>refine ⟨?_,ay _⟩;unfold jE;rw [eN,eN,sZ,a,b];decide+kernel
 | a6 x c a d=>refine ⟨?_,lb 1⟩;unfold jE;rw [eN,sZ,a];decide+kernel
noncomputable def zCq (H:Hp) (l:Addr) (a:List Addr) (xs:List ak):Prop:=H l=some (.lst (a.map V.ref))/\Paired (ip H) a xs
def Mis (word:Str) (xs:List ak):Prop:=xs.length<=2/\∃a,PyProof.Rows.KTD.datumAt word xA=some a/\a≠jE xs
def Ru:Sp:=λf H Q _=>∃d a c e F b o,f=[.ref d,.str a,.ref c]/\lB H d F/\zCq H c e b/\(o3 F a b o\/o=none/\Mis a b)/\mq H Q o
theorem Qy:∀{xs ys:List Str},xs.map V.str=ys.map V.str->xs=ys
 | [],[],_=>rfl
 | x::xs,y::ys,h=>by rw [eN,eN,List.cons.injEq,V.str.injEq] at h;rw [h.1,Qy h.2]
 | [],_::_,h=>by cases h
 | _::_,[],h=>by cases h
theorem RW {ss:List Str}:(ss.map V.str).all xI=true:=by rw [yM];exact mY.mpr λ_ _=>rfl
theorem mq.same (g:mq H Q o) (s:a0 H H1):mq H1 Q o:=⟨λe a b=>g.1 e a (s.trans b),λx e r a c b h=>g.2 x e r a (s.free c) (s.trans b) h⟩
section
theorem é:bR ċ ċ (aF bq):=cD
theorem ZI:hV (aF bq) ċ (j4 [(".0",.local),("what",.local)]) Ĥ [none]:=j7
theorem ZM:(Ĥ:List Str).Nodup:=by decide+kernel
theorem lN (F:Fn K mg "what_follows" bq ċ f fd) (T:xk K mg)
 (F1:Fn K mg "by_sum" ff Ė f1 d1) (G1:aq P w K mg base aw 1 f1 d1 Ė Ta)
 (F2:Fn K mg "by_late" eh č f2 d2) (G2:aq P w K mg base aw 1 f2 d2 č OE)
 (F3:Fn K mg "by_soon" eg č f3 d3) (G3:aq P w K mg base aw 1 f3 d3 č NS)
 (F4:Fn K mg "by_sure" ef Ĉ f4 d4) (G4:aq P w K mg base aw 1 f4 d4 Ĉ NU)
 (F5:Fn K mg "by_back" ej ē f5 d5) (G5:aq P w K mg base aw 1 f5 d5 ē Tt)
 (F6:Fn K mg "by_cross" dE Ĉ f6 d6) (G6:aq P w K mg base aw 1 f6 d6 Ĉ Pk):
 aq P w K mg base aw 2 f fd ċ Ru:=by
 obtain ⟨x1,mU,Ks⟩:=T.at_;refine F.F.cY é λ_ x6 _ x9 x2 _ x8 x7 l x3=>?_;obtain ⟨d,R,ul,E,n,xs,o,rfl,FA,⟨N,M⟩,A,G⟩:=x3;refine ⟨_,aR (dr (cG (zBw (K:=K) U l.units) (pe Sg (by rfl) T.tuple (by decide+kernel) (aY (oA U (gP (pv 2)) ZI (λcl ex s0 H0=>⟨cf 0 ZM,rq,aE (pv 0)⟩))))
  (Yw (D:=xA) (oV (v:=.ref x1) U mU U) (pv 1) ⟨U,U,U,U⟩)) (au (cg iI)) d8)
  (aR (dr (cG fy (pv 1) dY) (au (cg (cE G1 l F1 (bo (cV di (pv 2) a7) (cV di (pv 2) a7))))) d8)
  (aR (dr (cG fy (pv 1) dY) (au (cg (cE G2 l F2 (bo (pv 0) (cV di (pv 2) a7))))) d8)
  (aR (dr (cG fy (pv 1) dY) (au (cg (cE G3 l F3 (bo (pv 0) (cV di (pv 2) a7))))) d8)
  (aR (dr (cG fy (pv 1) dY) (au (cg (cE G4 l F4 (bo (pv 0) (cV di (pv 2) a7))))) d8)
  (aR (dr (cG fy (pv 1) dY) (au (cg (cE G5 l F5 (ia (pv 0) (cV di (pv 2) a7) (cV di (pv 2) a7))))) d8)
  (au (cg (cE G6 l F6 (bo (pv 0) (cV di (pv 2) a7)))))))))),?_⟩
 obtain ⟨m,Y,EK,A⟩:∃m,PyProof.Rows.KTD.datumAt R xA=some m/\xs.length<=2/\(m=jE xs/\o3 n R xs o\/m≠jE xs/\o=none):=by
  rcases A with a | ⟨rfl,h1,m,h2,h3⟩
  ·exact ⟨_,a.kinds.1,a.kinds.2,.inl ⟨U,a⟩⟩
  ·exact ⟨m,h2,h1,.inr ⟨h3,U⟩⟩
 have hlen:E.length=xs.length:=j8 M;refine λg c=>(aa U ⟨ul,U,⟨_,ar.of N⟩,λS X=>?_⟩);refine nt (xs:=E.map V.ref) (λj L W=>∃v,L=[v]/\W S=some (.lst ((jE (xs.take j)).map V.str))/\a0 x2 W) ⟨none,U,ai,aV X⟩ ?_ ?_ ?_
 ·rintro j L I _ ⟨v,rfl,_,u⟩;exact ar.of (u _ _ N)
 ·rintro j x L I h ⟨v,rfl,J,u⟩;rw [dA] at h
  cases q:E[j]? with
  | none=>rw [q] at h;cases h
  | some x4=>
   rw [q] at h;cases h;obtain ⟨x,UT,hw⟩:=a9 M q;have hj:j<xs.length:=(eX.mp UT).1;refine (aa U (aD (u _ _ hw) U ⟨_,J,?_,_,U,?_,λb o e=>?_⟩))
   ·unfold jE;rw [az,az,hG];exact fe (JC EK)
   ·unfold jE;rw [ai,jb,UT,dN,dN];rfl
   ·rw [ah (av e X)];exact u _ _ e
 rintro L I ⟨v,rfl,J,u⟩;have eD:xs.take (E.map V.ref).length=xs:=by rw [az,hlen];exact hH
 rw [eD] at J;refine ⟨S,_,U,.inl ⟨ar.of J,λt ht=>?_⟩⟩;have H:=u.trans (aV (o:=.tup ((jE xs).map V.str)) ht);have e3:upd I t (.tup ((jE xs).map V.str)) t=some (.tup ((jE xs).map V.str)):=ai;generalize upd I t (.tup ((jE xs).map V.str))=H3 at*;refine ⟨x1,U,Ks,aa U ⟨R,U,λss U' b hb=>?_,λhn=>by rw [Y] at hn;cases hn⟩⟩;rw [Y] at U';cases U';refine ⟨t,b,_,_,U,U,dB.of e3,hb H3,Dp,Dp,ct ?_⟩;rcases A with ⟨rfl,A⟩ | ⟨ne,rfl⟩
 case inr=>
  refine jM ?_ ((G.same H).1 U _ (a0.refl _));show (!xD ((jE xs).map V.str) (m.map V.str))=true;rw [Bool.not_eq_true'];exact Bool.eq_false_iff.mpr λx5=>ne (Qy ((Yi RW RW).mp x5)).symm
 refine gU (by rw [R5 Dp];rfl) (c _ _ ?_);clear c g;have z:=FA.same H;have p:=G.same H;have k:=H _ _ N;have s:Paired (ip H3) E xs:=dM M λx4 x e=>e.same H
 cases A with
 | sum x y h O=>
  cases s with
  | cons i r=>cases r with
   | cons Q r=>cases r
               refine λg _=>(aa U ⟨U,ct (jM (by decide+kernel) ?_)⟩);exact (aa U (lG k (je (j:=0) U) (aa U (lG k (je (j:=1) U) ⟨_,_,x,y,U,i,Q,h,O,p⟩))))
 | aS x h=>
  cases s with
  | cons i r=>cases r
              refine λg c=>(aa U ⟨U,ct (gU (by decide+kernel) (c _ _ ?_))⟩);refine λg _=>(aa U ⟨U,ct (jM (by decide+kernel) ?_)⟩);exact (aa U (aa U (lG k (je (j:=0) U) ⟨d,_,n,x,U,z,i,h,p⟩)))
 | bp x h=>
  cases s with
  | cons i r=>cases r
              refine λg c=>(aa U ⟨U,ct (gU (by decide+kernel) (c _ _ ?_))⟩);refine λg c=>(aa U ⟨U,ct (gU (by decide+kernel) (c _ _ ?_))⟩);refine λg _=>(aa U ⟨U,ct (jM (by decide+kernel) ?_)⟩);exact (aa U (aa U (lG k (je (j:=0) U) ⟨d,_,n,x,U,z,i,h,p⟩)))
 | sure x B h C=>
  cases s with
  | cons i r=>cases r
              refine λg c=>(aa U ⟨U,ct (gU (by decide+kernel) (c _ _ ?_))⟩);refine λg c=>(aa U ⟨U,ct (gU (by decide+kernel) (c _ _ ?_))⟩);refine λg c=>(aa U ⟨U,ct (gU (by decide+kernel) (c _ _ ?_))⟩);refine λg _=>(aa U ⟨U,ct (jM (by decide+kernel) ?_)⟩);exact (aa U (aa U (lG k (je (j:=0) U) ⟨d,_,n,x,B,U,z,i,h,C,p⟩)))
 | back x y B h O C=>
  cases s with
  | cons i r=>cases r with
   | cons Q r=>cases r
               refine λg c=>(aa U ⟨U,ct (gU (by decide+kernel) (c _ _ ?_))⟩);refine λg c=>(aa U ⟨U,ct (gU (by decide+kernel) (c _ _ ?_))⟩);refine λg c=>(aa U ⟨U,ct (gU (by decide+kernel) (c _ _ ?_))⟩);refine λg c=>(aa U ⟨U,ct (gU (by decide+kernel) (c _ _ ?_))⟩);refine λg _=>(aa U ⟨U,ct (jM (by decide+kernel) ?_)⟩);exact (aa U (aa U (lG k (je (j:=0) U) (aa U (lG k (je (j:=1) U) ⟨d,_,_,n,x,y,B,U,z,i,Q,h,O,C,p⟩)))))
 | a6 x B h C=>
  cases s with
  | cons i r=>cases r
              refine λg c=>(aa U ⟨U,ct (gU (by decide+kernel) (c _ _ ?_))⟩);refine λg c=>(aa U ⟨U,ct (gU (by decide+kernel) (c _ _ ?_))⟩);refine λg c=>(aa U ⟨U,ct (gU (by decide+kernel) (c _ _ ?_))⟩);refine λg c=>(aa U ⟨U,ct (gU (by decide+kernel) (c _ _ ?_))⟩);refine λg c=>(aa U ⟨U,ct (gU (by decide+kernel) (c _ _ ?_))⟩);exact (aa U (aa U (lG k (je (j:=0) U) ⟨d,_,n,x,B,U,z,i,h,C,p⟩)))
end
end Y0
namespace L2
open PySem
theorem m6 (h:¬g=f):aj f v ((g,x)::r)=(g,x)::aj f v r:=if_neg h
theorem X0:aj f v ((f,x)::r)=(f,v)::r:=if_pos U
end L2
namespace Y0
open PySem L2
seal PE PA PT PS eS PG me PI PO
seal kT i6 iA gd hQ il i9 i8 gm a8
structure o4 (K:aO) (mg:Str->Option Value) (C:Addr):Prop where
 cl:mf K C
 nM:i4 K C "many"
 nB:i4 K C "by_end"
 nR:i4 K C "rows"
 nE:i4 K C "best"
 nX:i4 K C "bar"
 len:mg "len"=none
 range:mg "range"=none
def iG (n:Nat) (c d b:Addr) (a:V):List (Str×V):=[("many",.int (n:Int)),("by_end",.ref c),("rows",.ref d),("best",.ref b),("bar",a)]
theorem cl1:(("by_end":Str)=="many")=false:=by decide+kernel
theorem cl2:(("rows":Str)=="many")=false:=by decide+kernel
theorem cl3:(("rows":Str)=="by_end")=false:=by decide+kernel
theorem cl4:(("best":Str)=="many")=false:=by decide+kernel
theorem cl5:(("best":Str)=="by_end")=false:=by decide+kernel
theorem cl6:(("best":Str)=="rows")=false:=by decide+kernel
theorem cl7:(("bar":Str)=="many")=false:=by decide+kernel
theorem cl8:(("bar":Str)=="by_end")=false:=by decide+kernel
theorem cl9:(("bar":Str)=="rows")=false:=by decide+kernel
theorem Z7:(("bar":Str)=="best")=false:=by decide+kernel
section
theorem Th:(iG n be rl bd bar).lookup ("many":Str)=some (.int (n:Int)):=by unfold iG;rw [gj,jI]
theorem SN:(iG n be rl bd bar).lookup ("by_end":Str)=some (.ref be):=by unfold iG;rw [gj,cl1,gj,jI]
theorem qY:(iG n be rl bd bar).lookup ("rows":Str)=some (.ref rl):=by unfold iG;rw [gj,cl2,gj,cl3,gj,jI]
theorem qv:(iG n be rl bd bar).lookup ("best":Str)=some (.ref bd):=by unfold iG;rw [gj,cl4,gj,cl5,gj,cl6,gj,jI]
theorem BN:(iG n be rl bd bar).lookup ("bar":Str)=some bar:=by unfold iG;rw [gj,cl7,gj,cl8,gj,cl9,gj,Z7,gj,jI]
theorem nh {m:Str} (a:autoParam ((m=="many")=false) t13._auto_1) (b:autoParam ((m=="by_end")=false) t13._auto_1) (c:autoParam ((m=="rows")=false) t13._auto_1) (d:autoParam ((m=="best")=false) t13._auto_1) (e:autoParam ((m=="bar")=false) t13._auto_1):(iG n be rl bd bar).lookup m=none:=by unfold iG;rw [gj,a,gj,b,gj,c,gj,d,gj,e];rfl
theorem ì:aj "bar" v (iG n be rl bd bar)=iG n be rl bd v:=by unfold iG;rw [m6 (by decide+kernel),m6 (by decide+kernel),m6 (by decide+kernel),m6 (by decide+kernel),X0]
end
def JT:Option Nat->V
 | none=>.aG
 | some i=>.int (i:Int)
def kJ:MU.Wd->Str
 | .told=>"told"
 | .sum=>"sum"
 | .aS=>"late"
 | .bp=>"soon"
 | .sure=>"sure"
 | .back=>"back"
 | .a6=>"cross"
def cw (k:MU.Key):List Key:=[.inr (l8 k.1),.inl (k.2.1:Int),.inl (k.2.2:Int)]
theorem QO (h:l8 a=l8 b):a=b:=by
 revert h
 cases a<;>cases b<;>decide+kernel
theorem PM (h:cw k=cw k'):k=k':=by
 obtain ⟨t,a,b⟩:=k;obtain ⟨t',a',b'⟩:=k';unfold cw at h
 injection h with f h
 injection h with g h
 injection h with i _
 have c:=QO (Sum.inr.inj f);have d:=B2 (tf g);have e:=B2 (tf i);have c:t=t':=c;have d:a=a':=d;have e:b=b':=e;rw [c,d,e]
def oP (H:Hp) (q:Addr) (r:Row):Prop:=∃b a,H q=some (.tup [.ref b,.str (kJ r.word),.ref a])/\ip H b r.cJ/\H a=some (.tup (r.used.map λi:Nat=>V.int (i:Int)))
theorem oP.same (h:oP H q r) (s:a0 H H'):oP H' q r:=by obtain ⟨e,d,a,b,c⟩:=h;exact ⟨e,d,s _ _ a,s _ _ b,s _ _ c⟩
structure gb (C:Addr) (H:Hp) (p be rl bd:Addr) (n:Nat) (F:MU.cS) (st:MU.St):Prop where
 ins:∃dx,H p=some (.ins C dx (iG n be rl bd (JT st.bar)))
 dW:lB H be F
 rows:∃qs,H rl=some (.lst (qs.map V.ref))/\Paired (oP H) qs st.rows
 best:∃kvs,H bd=some (.dT kvs)/\(kvs.length<=st.rows.length/\∀kv∈kvs,∃k:MU.Key,kv.1=cw k)/\∀k:MU.Key,dJ kvs (cw k)=(st.best k).map λi:Nat=>V.int (i:Int)
theorem gb.same (h:gb C H p be rl bd n F st) (s:a0 H H'):gb C H' p be rl bd n F st:=by obtain ⟨⟨a,b⟩,c,⟨l,d,f⟩,⟨k,g,i,j⟩⟩:=h;exact ⟨⟨a,s _ _ b⟩,c.same s,⟨l,s _ _ d,dM f λq r e=>e.same s⟩,⟨k,s _ _ g,i,j⟩⟩
noncomputable def dQ (p d c:Addr) (H a:Hp):Prop:=∀b o,H b=some o->b≠p->b≠d->b≠c->a b=some o
theorem dQ.of (s:a0 H H'):dQ p rl bd H H':=λb o e _ _ _=>s _ _ e
theorem dQ.trans (a:dQ p rl bd H H1) (b:dQ p rl bd H1 H2):dQ p rl bd H H2:=λc o e d f g=>b c o (a c o e d f g) d f g
open Classical in
def OH (C:Addr):Sp:=λf H Q _=>∃p d e c q n F a x,f=[.ref p,.ref q]/\gb C H p d e c n F a/\bV n a/\ip H q x/\∀b,a0 H b->Q (.bl (decide (gT a x))) b
theorem Cu (h:Paired (oP H) qs rows) {i:Nat} (a:(rows[i]?).map (·.cJ)=some x):∃q r c b,qs[i]?=some q/\rows[i]?=some r/\r.cJ=x/\H q=some (.tup [.ref c,.str (kJ r.word),.ref b])/\ip H c x/\H b=some (.tup (r.used.map λi:Nat=>V.int (i:Int))):=by
 cases C:rows[i]? with
 | none=>rw [C] at a;cases a
 | some r=>
  rw [C] at a;have a:some r.cJ=some x:=a;cases a;have l:=j8 h;have k:=(eX.mp C).1;obtain ⟨q,d⟩:∃q,qs[i]?=some q:=⟨_,gI (xW k l)⟩;obtain ⟨m,e,⟨c,b,f,g,j⟩⟩:=a9 h d;rw [C] at e;cases e;exact ⟨q,r,c,b,d,U,U,f,g,j⟩
theorem JV:kG (kI x) none (some 3)=(cw x.key).map kV:=by unfold kG kI;rw [gE,show (some (3:Int))=some ((3:Nat):Int) from rfl,fh];rfl
theorem Hs:¬(cn (kI x).length 0 none=0/\cn (kI x).length (kI x).length (some 3)=(kI x).length):=λz=>by have h:=z.2;rw [show (some (3:Int))=some ((3:Nat):Int) from rfl,fh] at h;have e:(kI x).length=4:=U;rw [e] at h;cases h
section
theorem J_:bR ["self","what","key","known"] ģ (aF ck):=cD
theorem sj (F:dO K "is_news" "Closing.is_news" ck f fd) (T:o4 K mg C):aq P w K mg base aw 1 f fd ģ (OH C):=by
 refine F.cY J_ λ_ x3 _ x7 H _ Q x4 hr h=>?_;obtain ⟨x2,be,rl,r,q,x5,Fa,i,x,rfl,c,g,d,k⟩:=h;have t:=jl hr;refine ⟨_,aR (dr (PW.pt (oT (cG fy (aE (pv 1)) dY) (ro (cG fy (aE (pv 1)) (aE (pv 1))))))
  (au (cg (jJ tF (aE (pv 1)) a7))) d8)
  (aR (cx 2 J_.nd (xS Cf (pv 1) xM (xN a7)))
  (aR (dr (tL (zY t (pv 2) (cI (pv 0) U)) (by with_unfolding_all rfl)) (au (cg uU)) d8)
  (aR (cx 3 J_.nd (aE (cV di (cI (pv 0) U) (jF t (cI (pv 0) U) (pv 2) (λ_ _=>rfl)))))
  (au (cg (WY (cG fy (aE (pv 1)) dY) (jJ tF (aE (pv 1)) (aE (pv 3))) (jJ zj (aE (pv 1)) (aE (pv 3))))))))),?_⟩
 obtain ⟨dx,n⟩:=c.ins;obtain ⟨qs,kS,cp⟩:=c.rows;obtain ⟨kvs,Y,_,jZ⟩:=c.best;have m:∀(H':Hp) (b:Bool),a0 H H'->(b=true↔gT i x)->Q (.bl b) H':=λH' b s' e=>by
  have:=k H' s';have R:b=decide (gT i x):=by
   by_cases z:gT i x
   ·rw [e.mpr z];simp [z]
   ·cases b with
    | true=>exact absurd (e.mp U) z
    | false=>simp [z]
  rw [R];exact this
 refine λE G=>(aa U (aD d U ⟨U,ct ?_⟩));rw [CK];have D:¬(x.tie=true/\x.a=x.b)->E (L2.gp ["self","what","key","known"] [.ref x2,.ref q]) H:=λw8=>by
  refine G _ _ ?_;refine λN2 L=>(aa U ⟨_,U,q,_,U,dB.of d,Hs,λp Z=>L _ _ ?_⟩);rw [JV];have a:=aV (o:=.tup ((cw x.key).map kV)) Z;have O:upd H p (.tup ((cw x.key).map kV)) p=some (.tup ((cw x.key).map kV)):=ai;generalize upd H p (.tup ((cw x.key).map kV))=H1 at*;have l:=eF.t (k:=cw x.key) (a _ _ Y) O;rw [jZ] at l;refine λN3 M=>(aa U (aa U (cb (a _ _ n) T.cl T.nE qv ⟨r,_,U,l,_,U,?_⟩)));have A:gT i x↔∀u,val i x.key=some u->ed x.tie x.v u:=by unfold gT;rw [if_neg w8]
  cases J:i.best x.key with
  | none=>
   refine fv (m H1 true a ⟨λ_=>A.mpr λu j=>?_,λ_=>rfl⟩);unfold val at j;rw [J] at j;cases j
  | some x1=>
   rw [J] at l;refine dk (M _ _ ?_);obtain ⟨u,v,_⟩:=g.at_ _ _ J;obtain ⟨q',x6,pw,pu,S,_,_,W,s,_⟩:=Cu cp v;have X:ic (qs.map V.ref) (x1:Int)=some (.ref q'):=je (by rw [dA,S];rfl);refine λN4 N=>(aa U (cb (a _ _ n) T.cl T.nR qY (aa U (cb (a _ _ n) T.cl T.nE qv (aa U ⟨r,_,U,l,?_⟩)))));refine (gQ (a _ _ kS) X (aD (a _ _ W) U (N _ _ ?_)));have y:=MU.oB J v;refine (aa U (aD (a _ _ d) U ⟨U,ct ?_⟩));rw [CK];have B:gT i x↔ed x.tie x.v u.v:=A.trans ⟨λz=>z _ y,λz u' j=>by rw [y] at j;cases j;exact z⟩
   cases I:x.tie with
   | true=>
    refine fv (aa U (aD (a _ _ d) U (aa U (aD (a _ _ s) U (ri (m _ _ a ?_))))));rw [B,I,j9];unfold ed;rw [if_pos rfl]
   | false=>
    refine dk (aa U (aD (a _ _ d) U (aa U (aD (a _ _ s) U (ri (m _ _ a ?_))))));rw [B,I,j9];unfold ed;rw [if_neg (by decide)]
 cases I:x.tie with
 | false=>exact dk (dk (D λz=>by rw [I] at z;cases z.1))
 | true=>
  refine fv (aa U (aD d U (aa U (aD d U ⟨U,ct ?_⟩))));rw [oM]
  by_cases e:x.a=x.b
  ·refine fu e (aa U (aD d U (ri (m H _ (a0.refl _) ?_))));rw [j9];unfold gT;rw [if_pos ⟨I,e⟩]
  ·exact gL e (D λz=>e z.2)
end
def HG (C:Addr):Sp:=λj H Q _=>∃p e d c q f n F a x h g,j=[.ref p,.ref q,.str (kJ h),.ref f]/\gb C H p e d c n F a/\bV n a/\ip H q x/\H f=some (.tup (g.map λi:Nat=>V.int (i:Int)))/\a.rows.length<=16500000/\
 ∀b,gb C b p e d c n F (take a x h g)->dQ p d c H b->Q .aG b
theorem ON:decide (JT o=V.aG)=decide (o=none):=by
 cases o with
 | none=>rfl
 | some i=>exact (eE λz=>nomatch z).trans (eE λz=>nomatch z).symm
theorem Xh (h:gT st x):take st x wd us={ rows:=st.rows++[⟨x,wd,us⟩],best:=λk=>if k=x.key then some st.rows.length else st.best k,bar:=if st.bar=none/\ix x then some st.rows.length else st.bar }:=by unfold take;rw [if_pos h]
theorem WL {kvs:List (List Key×V)} {k:List Key} {v:V} {kv:List Key×V} (h:kv∈eJ kvs k v):kv.1=k\/∃a∈kvs,kv.1=a.1:=by
 unfold eJ at h;split at h
 ·obtain ⟨a,b,rfl⟩:=fY.mp h;refine .inr ⟨a,b,?_⟩;split<;>rfl
 ·rcases jj.mp h with h | h
  ·exact .inr ⟨kv,h,U⟩
  ·rw [ig.mp h];exact .inl U
theorem z8 (h:n<=16500000):n<sizeLine:=ot h (by decide)
section
theorem æ:bR ă ă (aF dc):=cD
theorem rW {f C fN fB:Addr} {fd kh uE:FuncData} (F:dO K "take" "Closing.take" dc f fd) (T:o4 K mg C)
 (mN:fV K C "is_news" fN) (bN:dm K kh ģ []) (GN:aq P w K mg base aw 1 fN kh ģ (OH C))
 (FB:Fn K mg "bars_every_hand" bh Ĥ fB uE) (GB:aq P w K mg base aw 1 fB uE Ĥ OA):aq P w K mg base aw 2 f fd ă (HG C):=by
 refine F.cY æ λ_ x4 _ x9 x6 _ x7 x5 W x3=>?_;obtain ⟨p,be,rl,bd,q,m,x1,Fa,a,x,A,us,rfl,c,x2,hw,hpu,hlen,k⟩:=x3;have hu:=jl W;refine ⟨_,au (dr (qx (gq (pv 0) T.cl mN GN W bN .nil dR (aY (pv 1))))
  (aR (Cs hu (cI (pv 0) U) (xS Cf (pv 1) xM (xN a7)) (i7 vt (by rfl) T.len xj (aY (cI (pv 0) U))) U)
  (aR (xE (dr (PW.pt (oT (cG xG (cI (pv 0) U) iI) (ro (qx (cE GB W FB (aY (pv 1))))))) (au (kL (pv 0) (i7 vt (by rfl) T.len xj (aY (cI (pv 0) U))) U)) d8))
  (au (e_ (l9 md ma m_ lF (cI (pv 0) U) (aY (f9 (ia (pv 1) (pv 2) (pv 3))))))))) d8),?_⟩
 obtain ⟨dx,hp⟩:=c.ins;refine (aa U (fi hp (nh) (aa U ⟨p,be,rl,bd,q,x1,Fa,a,x,U,c,x2,hw,λi r=>⟨_,U,?_⟩⟩)))
 by_cases L:gT a x
 ·refine jM (by simp [L]) ?_;have B:=c.same r;have M:=r _ _ hw;have Lx:=r _ _ hpu;obtain ⟨R,g⟩:=B.ins;obtain ⟨n,l,cp⟩:=B.rows;obtain ⟨h,j,J,jZ⟩:=B.best;have S:n.length=a.rows.length:=j8 cp;refine λN2 c2=>(aa U (cb g T.cl T.nR qY ⟨rl,_,U,.inl (ar.of l),aa U (cb g T.cl T.nE qv (aa U ⟨_,U,q,_,U,dB.of M,Hs,λkt LP=>?_⟩))⟩));rw [JV,az,S];have s2:=aV (o:=.tup ((cw x.key).map kV)) LP;have e2:upd i kt (.tup ((cw x.key).map kV)) kt=some (.tup ((cw x.key).map kV)):=ai;generalize upd i kt (.tup ((cw x.key).map kV))=H2 at*;refine ⟨bd,_,U,qj.t (k:=cw x.key) (s2 _ _ j) e2 (z8 (by have:=J.1;exact rC J.1 hlen)),c2 _ _ ?_⟩;have N:∀b o,i b=some o->b≠bd->upd H2 bd (.dT (eJ h (cw x.key) (.int (a.rows.length:Int)))) b=some o:=λb o e v=>by
   rw [ah v];exact s2 _ _ e
  have e3:upd H2 bd (.dT (eJ h (cw x.key) (.int (a.rows.length:Int)))) bd=some (.dT (eJ h (cw x.key) (.int (a.rows.length:Int)))):=ai;generalize upd H2 bd (.dT (eJ h (cw x.key) (.int (a.rows.length:Int))))=H3 at*;clear c2 N2;have yr:p≠bd:=aI g j nofun;have TL:rl≠bd:=aI l j nofun;have TV:p≠rl:=aI g l nofun;have t:=N _ _ g yr;have sM:=N _ _ l TL;have hw3:=N _ _ M (aI M j nofun);refine λN4 c4=>⟨λgK H'=>gK=L2.gp ă [.ref p,.ref q,.str (kJ A),.ref m]/\(∃Fd,H' p=some (.ins C Fd (iG x1 be rl bd (JT (if a.bar=none/\ix x then some a.rows.length else a.bar)))))/\∀b o,H3 b=some o->b≠p->H' b=some o,?_,?_⟩
  ·refine (aa U (cb t T.cl T.nX BN ⟨U,ct ?_⟩));rw [ON]
   by_cases H:a.bar=none
   ·refine fu H (aa U ⟨q,x,U,hw3,_,U,?_⟩)
    by_cases G:ix x
    ·refine fu G ?_;refine (aa U (cb t T.cl T.nR qY ⟨rl,_,U,.inl (ar.of sM),aa U (kO t T.cl T.nX (by show 5<1000;decide) ⟨U,⟨R,?_⟩,λb o e v=>?_⟩)⟩))
     ·rw [ai,ì,if_pos ⟨H,G⟩,az,S];rfl
     ·rw [ah v];exact e
    ·refine gL G ⟨U,⟨R,?_⟩,λb o e _=>e⟩;rw [if_neg λz=>G z.2];exact t
   ·refine gL H (dk ⟨U,⟨R,?_⟩,λb o e _=>e⟩);rw [if_neg λz=>H z.1];exact t
  ·rintro gK H4 ⟨rfl,⟨dx4,wz⟩,k4⟩;refine c4 _ _ ?_;have X:=k4 _ _ sM (aK TV);refine (aa U (cb wz T.cl T.nR qY ⟨.inl ⟨U,_,ar.of X⟩,aa U (aa U (aa U ⟨eH U,λd Lr=>?_⟩))⟩));have y:=aV (o:=.tup [.ref q,.str (kJ A),.ref m]) Lr;have e5:upd H4 d (.tup [.ref q,.str (kJ A),.ref m]) d=some (.tup [.ref q,.str (kJ A),.ref m]):=ai;generalize upd H4 d (.tup [.ref q,.str (kJ A),.ref m])=I at*;refine (kP (y _ _ X) (by rw [az,S];exact z8 (by omega)) ?_);have O:∀b o,I b=some o->b≠rl->upd I rl (.lst (n.map V.ref++[.ref d])) b=some o:=λb o e v=>by rw [ah v];exact e
   have e6:upd I rl (.lst (n.map V.ref++[.ref d])) rl=some (.lst ((n++[d]).map V.ref)):=by rw [ai,dN];rfl
   generalize upd I rl (.lst (n.map V.ref++[.ref d]))=H6 at*;have Q:∀b o,i b=some o->b≠p->b≠rl->b≠bd->H6 b=some o:=λb o e n1 n2 n3=>O _ _ (y _ _ (k4 _ _ (N _ _ e n3) n1)) n2;have s:∀b xs,i b=some (.tup xs)->H6 b=some (.tup xs):=λb xs e=>Q _ _ e (aI e g nofun) (aI e l nofun) (aI e j nofun);refine k H6 ?_ λb o e n1 n2 n3=>Q _ _ (r _ _ e) n1 n2 n3;rw [Xh L];refine ⟨⟨dx4,O _ _ (y _ _ wz) TV⟩,?_,⟨n++[d],e6,?_⟩,⟨_,O _ _ (y _ _ (k4 _ _ e3 (aK yr))) (aK TL),?_,λu=>?_⟩⟩
   ·obtain ⟨Bf,E,f2,f3,f4⟩:=B.dW.at_;refine ⟨Bf,Q _ _ E (aI E g nofun) (aI E l nofun) (aI E j nofun),f2,f3,λe f hf=>?_⟩;obtain ⟨pp,q1,q2⟩:=f4 e f hf;exact ⟨pp,q1,s _ _ q2⟩
   ·refine yi (dM cp λqq x8 e=>?_) (.cons ?_ .nil)
    ·obtain ⟨pw,D_,r1,r2,r3⟩:=e;exact ⟨pw,D_,s _ _ r1,s _ _ r2,s _ _ r3⟩
    ·exact ⟨q,m,O _ _ e5 (aI e5 (y _ _ X) nofun),s _ _ M,s _ _ Lx⟩
   ·refine ⟨?_,λkv LO=>?_⟩
    ·show (eJ h (cw x.key) _).length<=(a.rows++[_]).length;have:=yh h (cw x.key) (.int (a.rows.length:Int));have:=J.1;rw [iD];show _<=a.rows.length+1;lia
    ·rcases WL LO with z | z
     ·exact ⟨x.key,z⟩
     ·obtain ⟨KY,h0,e0⟩:=z;obtain ⟨k0,e1⟩:=J.2 KY h0;exact ⟨k0,e0.trans e1⟩
   ·show dJ (eJ h (cw x.key) _) (cw u)=(if u=x.key then some a.rows.length else a.best u).map _;rw [zK]
    by_cases D:u=x.key
    ·rw [if_pos (by rw [D]),if_pos D];rfl
    ·rw [if_neg λz=>D (PM z),if_neg D];exact jZ u
 ·refine gU (by simp [L]) (k i ?_ (dQ.of r));rw [MU.vj L];exact c.same r
end
end Y0
namespace L2
open PySem PySem.Spec PyProof.Rows
theorem Qi {q:List (Option Nat)} {g:TG} {r:TT} {s:TE} {j:St} {H:Hp} {D:Addr} {Q:VK} {a:Addr} {xs:List V} (d:Nat->St->Hp->Prop) (h0:d 0 (qy q j) (upd H D (.lst []))) (l:∀i c b,i<=xs.length->d i c b->dB K b a xs)
 (z:∀i x c b,xs[i]?=some x->d i c b->g x c b λk u=>r k u λok n=>if ok=true then s k n λy o=>∃ys,o D=some (.lst ys)/\ys.length<sizeLine/\d (i+1) k (upd o D (.lst (ys++[y]))) else d (i+1) k n)
 (v:∀c b,d xs.length c b->Q (.ref D) b):
 xJ q g r s j Q (zd K a) H D:=by
 refine ⟨λi m j H=>m=xs.length-i/\i<=xs.length/\d i j H,⟨xs.length,by simp,dZ _,h0⟩,?_⟩;rintro i m c b ⟨rfl,f,p⟩
 by_cases h:i<xs.length
 ·refine .inr ⟨⟨xs,_,l i c b f p,gI h⟩,d (i+1),λB t A=>⟨xs.length-(i+1),rz h,U,h,A⟩,λx t y=>?_⟩;obtain ⟨e,y⟩:=y;subst e;exact z i x c _ (y xs (l i c _ f p)) p
 ·have e:i=xs.length:=rA f h;subst e;exact .inl ⟨⟨xs,l _ c b f p,ay _⟩,v c b p⟩
theorem rk {Y:Cx} {e:Expr} {f:Str} {g:Pos} {a:TE} (b:Y.K=K) (d:PE Y e a) (c:attributeBase e f Y.env (eval e Y.env)=eval e Y.env):PE Y (.Attribute e f g) (SI K a f):=by subst b;exact cI d c
end L2
namespace Y0
open PySem L2
seal PE PA PT PS eS PG me PI PO
seal kT i6 iA gd hQ il i9 i8 gm a8
def Cg (C:Addr):Sp:=λk H Q _=>∃p g d c h n F a f e j o,k=[.ref p,.str (kJ f),.ref h]/\gb C H p g d c n F a/\bV n a/\H h=some (.tup (e.map λi:Nat=>V.int (i:Int)))/\Paired (λi x=>ag a i=some x) e j/\o3 F (kJ f) j o/\a.rows.length<=16500000/\
 ∀b,gb C b p g d c n F (MU.put a o f e)->dQ p d c H b->Q .aG b
section
theorem Sz:bR ["self","word","used","what"] Đ (aF b_):=cD
theorem ZA:hV (aF b_) ["self","word","used","what"] (j4 [(".0",.local),("number",.local),("self",.free)]) ["number","self"] [none,some 0]:=j7
theorem ZO:(["number","self"]:List Str).Nodup:=by decide+kernel
theorem sA {f C L M:Addr} {N O Q:FuncData} (F:dO K "draw" "Closing.draw" b_ f N) (T:o4 K mg C)
 (mT:fV K C "take" L) (bT:dm K O ă []) (GT:aq P w K mg base aw 2 L O ă (HG C))
 (FW:Fn K mg "what_follows" bq ċ M Q) (GW:aq P w K mg base aw 2 M Q ċ Ru):aq P w K mg base aw 3 f N Đ (Cg C):=by
 refine F.cY Sz λ_ x7 _ m8 x2 _ x9 x8 S x4=>?_;obtain ⟨p,I,rl,bd,Z,x5,E,st,wd,m,xs,o,rfl,c,x3,B,W,H,hlen,k⟩:=x4;refine ⟨_,aR (cx 3 Sz.nd (cE GW S FW (ia (cI (pv 0) U) (pv 1) (oA U (Hx (pv 2)) ZA (λcl ex s0 H0=>⟨cf 0 ZO,rq,aE (cV di (rk (K:=K) U (pv 1) U) (pv 0))⟩)))))
  (au (dr (cG tP (pv 3) iI) (au (e_ (gq (pv 0) T.cl mT GT S bT .nil dR (ia (pv 3) (pv 1) (pv 2))))) d8)),?_⟩
 obtain ⟨dx,A⟩:=c.ins;obtain ⟨qs,kS,cp⟩:=c.rows;obtain ⟨_,uv⟩:=H.kinds;have UZ:m.length=xs.length:=j8 W;refine λN1 J=>(aa U (cb A T.cl T.nB SN (aa U (aa U ⟨Z,U,⟨_,dB.of B⟩,λt R=>?_⟩))));refine Qi (xs:=m.map λi:Nat=>V.int (i:Int)) (λj s u=>∃v d,s=[v,some (.ref p)]/\u t=some (.lst (d.map V.ref))/\Paired (ip u) d (xs.take j)/\a0 x2 u) ⟨none,[],U,ai,.nil,aV R⟩ ?_ ?_ ?_
 ·rintro j s n _ ⟨v,d,rfl,_,_,a⟩;exact dB.of (a _ _ B)
 ·rintro j x s n h ⟨v,d,rfl,r,g,a⟩;rw [dA] at h
  cases q:m[j]? with
  | none=>rw [q] at h;cases h
  | some i=>
   rw [q] at h;cases h;obtain ⟨x6,X,hy⟩:=a9 W q;obtain ⟨q',x1,pw,D_,g1,_,_,g4,g5,_⟩:=Cu cp hy;have nZ:ic (qs.map V.ref) (i:Int)=some (.ref q'):=je (by rw [dA,g1];rfl);have hj:j<xs.length:=(eX.mp X).1;have wy:d.length=min j xs.length:=by rw [j8 g,hG]
   refine (aa U (cb (a _ _ A) T.cl T.nR qY (yn U (a _ _ kS) nZ (aD (a _ _ g4) U ⟨_,r,?_,_,d++[pw],U,?_,?_,λb o e=>?_⟩))))
   ·rw [az,wy];exact fe (JC uv)
   ·rw [ai,dN];rfl
   ·have et:xs.take (j+1)=xs.take j++[x6]:=by rw [jb,X];rfl
    rw [et];have Y:∀b x,ip n b x->ip (upd n t (.lst (d.map V.ref++[.ref pw]))) b x:=λb x e=>by unfold ip;rw [ah (aI e r nofun)];exact e
    exact yi (dM g λb x e=>Y b x e) (.cons (Y _ _ (a _ _ g5)) .nil)
   ·rw [ah (av e R)];exact a _ _ e
 rintro s n ⟨v,d,rfl,r,g,a⟩;have eD:xs.take (m.map λi:Nat=>V.int (i:Int)).length=xs:=by rw [az,UZ];exact hH
 rw [eD] at g;have y:=c.same a;refine ⟨I,_,t,d,E,xs,o,U,y.dW,⟨r,g⟩,.inl H,λz G l=>J _ _ ?_,λx z x1 G _ l hw=>J _ _ ?_⟩
 ·refine (aa U ⟨U,ct (gU U ?_)⟩);refine k G ?_ (dQ.of (a.trans l));rw [z];exact y.same l
 ·refine (aa U ⟨U,ct (jM U ?_)⟩);have c3:=y.same l;have D:=a.trans l;refine (aa U (fi (D _ _ A) (nh) (aa U (aa U (aa U ⟨p,I,rl,bd,x1,Z,x5,E,st,x,wd,m,U,c3,x3,hw,D _ _ B,hlen,λH4 c4 k4=>?_⟩)))));refine k H4 ?_ ((dQ.of D).trans k4);rw [z];exact c4
noncomputable def fw (l:List Nat):List V:=l.map λi:Nat=>V.int (i:Int)
def P1 (C:Addr):Sp:=λg H Q _=>∃(p e f d:Addr) (n:Nat) (F:MU.cS) (c:MU.St) (t:Bool) (a:Nat),g=[.ref p,.str (l8 t),.int (a:Int)]/\gb C H p e f d n F c/\n<=8/\∀l b,H l=none->a0 H b->b l=some (.lst (fw (c_ n c t a)))->Q (.ref l) b
noncomputable def Kb (C:Addr):Sp:=λg H Q _=>∃(p e f d:Addr) (n:Nat) (F:MU.cS) (c:MU.St) (b:Nat),g=[.ref p,.int (b:Int)]/\gb C H p e f d n F c/\n<=8/\∀l a,H l=none->a0 H a->a l=some (.lst (fw (dG n c b)))->Q (.ref l) a
theorem DG:(List.range (n+1)).filterMap f=(List.range n).filterMap f++(f n).toList:=by
 rw [Fu,B6]
 cases h:f n with
 | none=>simp [h]
 | some x=>simp [h]
theorem â:bR Ē Ē (aF bb):=cD
theorem ZE:hV (aF bb) Ē (j4 [(".0",.local),("b",.local),("a",.free),("kind",.free),("self",.free)]) ["b","a","kind","self"] [none,some 2,some 1,some 0]:=j7
theorem ZR:(["b","a","kind","self"]:List Str).Nodup:=by decide+kernel
theorem pG {f C:Addr} {G:FuncData} (F:dO K "known_of" "Closing.known_of" bb f G) (T:o4 K mg C):aq P w K mg base aw 1 f G Ē (P1 C):=by
 refine F.cY â λ_ x2 _ x6 H _ x4 x3 hr h=>?_;obtain ⟨x1,be,rl,B,n,Fa,l,t,a,rfl,c,h8,k⟩:=h;have N:=jl hr;refine ⟨_,au (cg (oA U (tW U T.range (aY (cI (pv 0) U))) ZE (λcl ex s0 H0=>⟨cf 0 ZR,oW (tL (HE N (f9 (ia (pv 2) (pv 1) (pv 0))) (rk (K:=K) U (pv 3) U)) (by with_unfolding_all rfl)),jF N (rk (K:=K) U (pv 3) U) (f9 (ia (pv 2) (pv 1) (pv 0))) (λ_ _=>rfl)⟩))),?_⟩;obtain ⟨dx,r⟩:=c.ins;obtain ⟨kvs,L,_,M⟩:=c.best;refine (aa U (cb r T.cl T.nM Th ⟨_,U,by exact kW (n+Nat.succ 4611686018427387903),by lia,λm q=>?_⟩));refine DD (n:=((n:Int)).toNat) (λi z A=>∃v,z=[v,some (.int (a:Int)),some (.str (l8 t)),some (.ref x1)]/\A m=some (.lst (fw ((List.range i).filterMap λb=>l.best (t,a,b))))/\a0 H A) ⟨none,U,ai,aV q⟩ ?_ ?_
 ·rintro i z g X ⟨v,rfl,j,x⟩;have sR:i<n:=by exact X
  have W:((0:Int)+(i:Int))=(i:Int):=by lia
  refine (aa U (aa U (aa U ⟨eH U,λs Y=>?_⟩)));rw [W];have y:=aV (o:=.tup ((cw (t,a,i)).map kV)) Y;have R:upd g s (.tup ((cw (t,a,i)).map kV)) s=some (.tup ((cw (t,a,i)).map kV)):=ai;have E:(HO.tup [V.str (l8 t),V.int (a:Int),V.int (i:Int)])=.tup ((cw (t,a,i)).map kV):=U;rw [E];generalize upd g s (.tup ((cw (t,a,i)).map kV))=J at*;have d:=x.trans y;have p:=eF.t (k:=cw (t,a,i)) (d _ _ L) R;rw [M] at p;refine (aa U (cb (d _ _ r) T.cl T.nE qv ⟨B,_,U,p,_,U,?_⟩));have fl:((List.range i).filterMap λb=>l.best (t,a,b)).length<=i:=by have:=F' (λb=>l.best (t,a,b)) (List.range i);rw [uM] at this;exact this
  cases I:l.best (t,a,i) with
  | none=>
   refine dk ⟨_,U,?_,d⟩;rw [DG,I];show J m=some (.lst (fw (_++[])));rw [lZ];exact y _ _ j
  | some x5=>
   rw [I] at p;refine fv ?_;refine (aa U (cb (d _ _ r) T.cl T.nE qv (aa U (aa U (aa U ⟨eH U,λu Z=>?_⟩)))));have Q:=aV (o:=.tup ((cw (t,a,i)).map kV)) Z;have S:upd J u (.tup ((cw (t,a,i)).map kV)) u=some (.tup ((cw (t,a,i)).map kV)):=ai;rw [E];generalize upd J u (.tup ((cw (t,a,i)).map kV))=H4 at*;have O:=d.trans Q;have D:=eF.t (k:=cw (t,a,i)) (O _ _ L) S;rw [M,I] at D;refine ⟨B,_,U,D,_,Q _ _ (y _ _ j),?_,_,U,?_,λb o e=>?_⟩
   ·unfold fw;rw [az];exact fe (by lia)
   ·rw [ai,DG,I];unfold fw;rw [dN];rfl
   ·rw [ah (av e q)];exact O _ _ e
 ·rintro z g ⟨v,rfl,j,x⟩;exact k m g q x j
theorem è:bR Ę Ę (aF bj):=cD
theorem ZH:hV (aF bj) Ę (j4 [(".0",.local),("a",.local),("b",.free),("self",.free)]) ["a","b","self"] [none,some 1,some 0]:=j7
theorem ZU:(["a","b","self"]:List Str).Nodup:=by decide+kernel
theorem nG {f C:Addr} {E:FuncData} (F:dO K "ties_to" "Closing.ties_to" bj f E) (T:o4 K mg C):aq P w K mg base aw 1 f E Ę (Kb C):=by
 refine F.cY è λ_ x2 _ x7 H _ x4 x3 Z h=>?_;obtain ⟨x1,be,rl,A,n,Fa,l,b,rfl,c,h8,k⟩:=h;have M:=jl Z;refine ⟨_,au (cg (oA U (tW U T.range (aY (cI (pv 0) U))) ZH (λcl ex s0 H0=>⟨cf 0 ZU,oW (tL (HE M (f9 (ia dY (pv 0) (pv 1))) (rk (K:=K) U (pv 2) U)) (by with_unfolding_all rfl)),jF M (rk (K:=K) U (pv 2) U) (f9 (ia dY (pv 0) (pv 1))) (λ_ _=>rfl)⟩))),?_⟩;obtain ⟨dx,r⟩:=c.ins;obtain ⟨kvs,G,_,L⟩:=c.best;refine (aa U (cb r T.cl T.nM Th ⟨_,U,by exact kW (n+Nat.succ 4611686018427387903),by lia,λm q=>?_⟩));refine DD (n:=((n:Int)).toNat) (λi y z=>∃v,y=[v,some (.int (b:Int)),some (.ref x1)]/\z m=some (.lst (fw ((List.range i).filterMap λa=>l.best (true,a,b))))/\a0 H z) ⟨none,U,ai,aV q⟩ ?_ ?_
 ·rintro i y g W ⟨v,rfl,j,u⟩;have sR:i<n:=by exact W
  have S:((0:Int)+(i:Int))=(i:Int):=by lia
  refine (aa U (aa U ⟨eH U,λs X=>?_⟩));rw [S];have x:=aV (o:=.tup ((cw (true,i,b)).map kV)) X;have Q:upd g s (.tup ((cw (true,i,b)).map kV)) s=some (.tup ((cw (true,i,b)).map kV)):=ai;have D:(HO.tup [V.str "tie",V.int (i:Int),V.int (b:Int)])=.tup ((cw (true,i,b)).map kV):=U;rw [D];generalize upd g s (.tup ((cw (true,i,b)).map kV))=J at*;have d:=u.trans x;have p:=eF.t (k:=cw (true,i,b)) (d _ _ G) Q;rw [L] at p;refine (aa U (cb (d _ _ r) T.cl T.nE qv ⟨A,_,U,p,_,U,?_⟩));have fl:((List.range i).filterMap λa=>l.best (true,a,b)).length<=i:=by have:=F' (λa=>l.best (true,a,b)) (List.range i);rw [uM] at this;exact this
  cases I:l.best (true,i,b) with
  | none=>
   refine dk ⟨_,U,?_,d⟩;rw [DG,I];show J m=some (.lst (fw (_++[])));rw [lZ];exact x _ _ j
  | some x6=>
   rw [I] at p;refine fv ?_;refine (aa U (cb (d _ _ r) T.cl T.nE qv (aa U (aa U ⟨eH U,λt Y=>?_⟩))));have O:=aV (o:=.tup ((cw (true,i,b)).map kV)) Y;have R:upd J t (.tup ((cw (true,i,b)).map kV)) t=some (.tup ((cw (true,i,b)).map kV)):=ai;rw [D];generalize upd J t (.tup ((cw (true,i,b)).map kV))=H4 at*;have N:=d.trans O;have B:=eF.t (k:=cw (true,i,b)) (N _ _ G) R;rw [L,I] at B;refine ⟨A,_,U,B,_,O _ _ (x _ _ j),?_,_,U,?_,λx5 o e=>?_⟩
   ·unfold fw;rw [az];exact fe (by lia)
   ·rw [ai,DG,I];unfold fw;rw [dN];rfl
   ·rw [ah (av e q)];exact N _ _ e
 ·rintro y g ⟨v,rfl,j,u⟩;exact k m g q u j
end
end Y0
namespace MU
def Ϭ (F:cS) (st:St):Prop:=∀i w,ag st i=some w->w.tie=false->∃f,F w.b=some f
structure iV (n:Nat) (F:cS) (st:St):Prop where
 good:bV n st
 ends:Ϭ F st
def vv (n:Nat) (F:cS) (w:ak):Prop:=qQ n w/\(w.tie=false->∃f,F w.b=some f)
theorem iV.put (h:iV n F st) (b:∀w,o=some w->vv n F w):iV n F (put st o wd us):=by
 refine ⟨I0 h.good λw e=>(b w e).1,λi w d c=>?_⟩
 by_cases a:i<st.rows.length
 ·exact h.ends i w (ry (rn _ _ _ _) a d) c
 ·exact (rm (C:=λw=>w.tie=false->∃f,F w.b=some f) (λw e=>(b w e).2) i w (by exact kZ a) d) c
theorem NZ {p q w:ak} (a:p.a<n) (b:q.b<n) (h:aB p q=some w):vv n F w:=by
 unfold aB at h;split at h
 ·cases h;exact ⟨⟨a,b,λz=>nomatch z⟩,λz=>nomatch z⟩
 ·cases h
theorem zB6 {p w:ak} (a:p.a<n) (b:p.b<n) (h:du F p=some w):vv n F w:=by
 refine ⟨zM p w a b h,λ_=>?_⟩;unfold du at h;split at h
 ·cases q:F p.b with
  | none=>rw [q] at h;cases h
  | some f=>rw [q] at h;cases h;exact ⟨f,q⟩
 ·cases h
theorem zA9 (c:jc n F most) {p w:ak} (a:p.a<n) (b:p.b<n) (h:dC F p=some w):vv n F w:=by
 refine ⟨zI c p w a b h,λd=>?_⟩;unfold dC at h;split at h
 ·cases q:F p.a with
  | none=>rw [q] at h;cases h
  | some f=>rw [q] at h;cases h;cases d
 ·cases h
theorem zA6 (c:jc n F most) {p w:ak} (a:p.a<n) (b:p.b<n) (h:dF F p=some w):vv n F w:=by
 refine ⟨C9 c p w a b h,λd=>?_⟩;unfold dF at h;split at h
 ·cases q:F p.b with
  | none=>rw [q] at h;cases h
  | some f=>rw [q] at h;cases h;cases d
 ·cases h
theorem OM {p q w:ak} (a:p.a<n) (b:p.b<n) (c:q.a<n) (d:q.b<n) (h:bg F p q=some w):vv n F w:=by
 refine ⟨HY p q w a b c d h,λ_=>?_⟩;unfold bg at h;split at h
 ·cases e:F p.b with
  | none=>rw [e] at h;cases h
  | some f=>rw [e] at h;cases h;exact ⟨f,e⟩
 ·cases h
theorem W9 (c:jc n F most) {p w:ak} (a:p.a<n) (b:p.b<n) (h:dt F p=some w):vv n F w:=by
 refine ⟨Dm c p w a b h,λ_=>?_⟩;unfold dt at h;split at h
 ·cases e:F p.a with
  | none=>rw [e] at h;cases h
  | some o=>
   rw [e] at h;have h:(F p.b).map (λf=>(⟨false,o.1,p.b,min p.v f.2.2-o.2.1⟩:ak))=some w:=h
   cases C:F p.b with
   | none=>rw [C] at h;cases h
   | some f=>rw [C] at h;cases h;exact ⟨f,C⟩
 ·cases h
theorem BO (h:ag st i=some x):aH f wd i st=put st (f x) wd [i]:=by unfold aH;rw [h];rfl
theorem BQ (h:ag st i=some x) (h':ag st j=some y):ao f wd i j st=put st (f x y) wd [i,j]:=by unfold ao;rw [h];show put st ((ag st j).bind λq=>f x q) wd [i,j]=_;rw [h'];rfl
theorem Dv {l:List Nat} {i j:Nat} (h:l[i]?=some j):(l.take (i+1)).foldl f st=f ((l.take i).foldl f st) j:=by rw [jb,h,GC];rfl
end MU
open MU (iV BO Dv BQ OM NZ)
namespace Y0
open PySem L2
seal PE PA PT PS eS PG me PI PO
seal kT i6 iA gd hQ il i9 i8 gm a8
section
theorem DP {at_:Nat} {i:Nat} (a:σ[i]?=some (some (.int (at_:Int)))) (k:∀t,H t=none->R [.ref t] (upd H t (.tup ([at_].map λi:Nat=>V.int (i:Int))))):jL (Kc (jL (gm i) qp)) qp σ H R:=
 (aa a ⟨eH U,λt b=>k t b⟩)
theorem DQ {a b:Nat} {i j:Nat} (c:σ[i]?=some (some (.int (a:Int)))) (d:σ[j]?=some (some (.int (b:Int)))) (k:∀t,H t=none->R [.ref t] (upd H t (.tup ([a,b].map λi:Nat=>V.int (i:Int))))):jL (Kc (jL (gm i) (jL (gm j) qp))) qp σ H R:=
 (aa c (aa d ⟨eH U,λt e=>k t e⟩))
theorem tO (hw:word=kJ wd) (h0:σ[0]?=some (some (.ref p))) (c:gb C H p be rl bd n F st) (g:bV n st)
 (l:∀R:List V->Hp->Prop,(∀t,H t=none->R [.ref t] (upd H t (.tup (us.map λi:Nat=>V.int (i:Int)))))->I σ H R) (m:Paired (λi x=>ag st i=some x) us xs) (d:o3 F (kJ wd) xs o) (f:st.rows.length<=16500000)
 (k:∀a,gb C a p be rl bd n F (MU.put st o wd us)->dQ p rl bd H a->Q .aG a):Km C "draw" (Cg C) [] E (gm 0) (jL (tC (.str word)) I) σ H Q:=by
 subst hw;obtain ⟨r,h⟩:=c.ins;refine (aa h0 (fi h (nh) ?_));refine l _ λt j=>?_;have b:=aV (o:=.tup (us.map λi:Nat=>V.int (i:Int))) j;exact ⟨p,be,rl,bd,t,n,F,st,wd,us,xs,o,U,c.same b,g,ai,m,d,f,λa e q=>k a e ((dQ.of b).trans q)⟩
end
theorem gb.apart (c:gb C H p be rl bd n F st) (h:H la=none):la≠p/\la≠rl/\la≠bd:=by obtain ⟨e,b⟩:=c.ins;obtain ⟨g,d,_⟩:=c.rows;obtain ⟨f,a,_⟩:=c.best;exact ⟨aK (av b h),aK (av d h),aK (av a h)⟩
def Rv (C:Addr):Sp:=λg H Q _=>∃(p f e d:Addr) (n:Nat) (F:MU.cS) (a:MU.St) (b:Nat) (x:ak),g=[.ref p,.int (b:Int),.int (x.a:Int),.int (x.b:Int)]/\gb C H p f e d n F a/\iV n F a/\jc n F ((60:Nat):Int)/\ag a b=some x/\x.tie=true/\n<=8/\a.rows.length<=16000000/\
 ∀c,gb C c p f e d n F (eK n F b x.a x.b a)->iV n F (eK n F b x.a x.b a)->dQ p e d H c->Q .aG c
def RE (C:Addr):Sp:=λg H Q _=>∃(p f e d:Addr) (n:Nat) (F:MU.cS) (a:MU.St) (b:Nat) (x:ak),g=[.ref p,.int (b:Int),.int (x.a:Int)]/\gb C H p f e d n F a/\iV n F a/\jc n F ((60:Nat):Int)/\ag a b=some x/\x.tie=false/\n<=8/\a.rows.length<=16000000/\
 ∀c,gb C c p f e d n F (fC n F b x.a a)->iV n F (fC n F b x.a a)->dQ p e d H c->Q .aG c
section
noncomputable abbrev nFt:List Str:=["self","at","a","b","number"]
theorem DM:bR nFt Ě (aF aX):=cD
noncomputable abbrev nFw:List Str:=["self","at","a","number"]
theorem S3:bR nFw ġ (aF aU):=cD
theorem jW (F:dO K "draw_from_wait" "Closing.draw_from_wait" aU f fd) (T:o4 K mg C)
 (O:fV K C "draw" fD) (E:dm K MF Đ []) (A:aq P w K mg base aw 3 fD MF Đ (Cg C))
 (mZ:fV K C "ties_to" fZ) (bZ:dm K M8 Ę []) (GZ:aq P w K mg base aw 1 fZ M8 Ę (Kb C)):aq P w K mg base aw 4 f fd ġ (RE C):=by
 refine F.cY S3 λ_ x5 _ x9 x7 _ x8 x6 r x2=>?_;obtain ⟨p,Z,Q,G,n,c,st,d,x,rfl,x1,S,hF,k,s,h8,hlen,x3⟩:=x2;have g_:cR 1 _:=r.mono (by decide);refine ⟨_,aR (e_ (gq (pv 0) T.cl O A r E .nil dR (bo dY (f9 (aY (pv 1))))))
  (aR (e_ (gq (pv 0) T.cl O A r E .nil dR (bo dY (f9 (aY (pv 1))))))
  (au (iJ ja U (gP (gq (pv 0) T.cl mZ GZ g_ bZ .nil dR (aY (pv 2)))) (cf 3 S3.nd)
   (au (e_ (gq (pv 0) T.cl O A r E .nil dR (bo dY (f9 (bo (pv 1) (pv 3)))))))))),?_⟩
 obtain ⟨V,W⟩:=S.good.lt _ _ k;obtain ⟨H,M⟩:=S.ends _ _ k s;have d1:aH (dF c) .sure d st=MU.put st (dF c x) .sure [d]:=BO k;have Y:iV n c (MU.put st (dF c x) .sure [d]):=S.put λw e=>MU.zA6 hF V W e;have N:ag (MU.put st (dF c x) .sure [d]) d=some x:=bY (rn _ _ _ _) k;have l1:=gW st (dF c x) .sure [d];have goal:fC n c d x.a st=(dG n (aH (dt c) .a6 d (aH (dF c) .sure d st)) x.a).foldl (λst j=>ao (bg c) .back d j st) (aH (dt c) .a6 d (aH (dF c) .sure d st)):=U;rw [d1] at goal;refine λN1 c1=>tO (wd:=.sure) U U x1 S.good (λR z=>DP U z) (.cons k .nil) (.sure x H s M) (by lia) λH1 C1 k1=>c1 _ _ ?_;generalize MU.put st (dF c x) .sure [d]=J at*;clear c1 N1;have d2:aH (dt c) .a6 d J=MU.put J (dt c x) .a6 [d]:=BO N;have D:iV n c (MU.put J (dt c x) .a6 [d]):=Y.put λw e=>MU.W9 hF V W e;have uv:ag (MU.put J (dt c x) .a6 [d]) d=some x:=bY (rn _ _ _ _) N;have l2:=gW J (dt c x) .a6 [d];rw [d2] at goal;refine λN2 c2=>tO (wd:=.a6) U U C1 Y.good (λR z=>DP U z) (.cons N .nil) (.a6 x H s M) (by lia) λH2 m k2=>c2 _ _ ?_;generalize MU.put J (dt c x) .a6 [d]=I at*;clear c2 N2;have k02:=k1.trans k2;obtain ⟨dx,hp⟩:=m.ins;refine (aa U (fi hp (nh) (aa U ⟨p,Z,Q,G,n,c,I,x.a,U,m,h8,λla H3 hla s3 e3=>?_⟩)));obtain ⟨n1,n2,n3⟩:=m.apart hla;have C3:=m.same s3;refine ⟨la,U,⟨_,ar.of e3⟩,?_⟩;have jY:∀j∈dG n I x.a,∃y,ag I j=some y/\y.tie=true/\y.a<n/\y.b<n:=λj hj=>by obtain ⟨cc,_,hb⟩:=DC hj;obtain ⟨y,g,hk⟩:=D.good.at_ _ _ hb;obtain ⟨q1,_⟩:=iq hk;exact ⟨y,g,q1,D.good.lt _ _ g⟩
 have tl:=DB (n:=n) (st:=I) (b:=x.a);generalize dG n I x.a=L at*;refine lD (K:=K) (a:=la) (xs:=fw L) (λi u X=>∃v,u=[some (.ref p),some (.int (d:Int)),some (.int (x.a:Int)),v]/\gb C X p Z Q G n c ((L.take i).foldl (λst j=>ao (bg c) .back d j st) I)/\iV n c ((L.take i).foldl (λst j=>ao (bg c) .back d j st) I)/\Ext I ((L.take i).foldl (λst j=>ao (bg c) .back d j st) I)/\dQ p Q G H3 X) ⟨none,U,C3,D,Ext.refl _,dQ.of (a0.refl _)⟩ ?_ ?_ ?_
 ·rintro i u B _ ⟨v,rfl,_,_,_,l⟩;exact ar.of (l _ _ e3 n1 n2 n3)
 ·rintro i y u B g ⟨v,rfl,o,h,t,l⟩;unfold fw at g;rw [dA] at g
  cases q:L[i]? with
  | none=>rw [q] at g;cases g
  | some j=>
   rw [q] at g;cases g;obtain ⟨y,wo,yt,ya,yb⟩:=jY j (eR q);have fl:=pd (f:=λst j=>ao (bg c) .back d j st) (λ_ _=>gW _ _ _ _) (L.take i) I;rw [hG] at fl;rw [Dv q];have UU:=bY t uv;have US:=bY t wo;have e4:ao (bg c) .back d j ((L.take i).foldl (λst j=>ao (bg c) .back d j st) I)=MU.put ((L.take i).foldl (λst j=>ao (bg c) .back d j st) I) (bg c x y) .back [d,j]:=BQ UU US;rw [e4];generalize (L.take i).foldl (λst j=>ao (bg c) .back d j st) I=cH at*;refine tO (wd:=.back) U U o h.good (λR z=>DQ U U z) (.cons UU (.cons US .nil)) (.back x y H s yt M) (by lia) λH5 C5 k5=>⟨_,U,C5,h.put λw e=>OM V W ya yb e,t.trans (rn _ _ _ _),l.trans k5⟩
 ·rintro u B ⟨v,rfl,o,h,t,l⟩;have eD:L.take (fw L).length=L:=by unfold fw;rw [az];exact hH
  rw [eD,<-goal] at o h;exact x3 B o h ((k02.trans (dQ.of s3)).trans l)
end
section
theorem lM (F:dO K "draw_from_tie" "Closing.draw_from_tie" aX f fd) (T:o4 K mg C)
 (mD:fV K C "draw" fD) (bD:dm K MF Đ []) (GD:aq P w K mg base aw 3 fD MF Đ (Cg C))
 (mZ:fV K C "ties_to" fZ) (bZ:dm K M8 Ę []) (GZ:aq P w K mg base aw 1 fZ M8 Ę (Kb C))
 (mK:fV K C "known_of" fK) (bK:dm K MD Ē []) (GK:aq P w K mg base aw 1 fK MD Ē (P1 C)):aq P w K mg base aw 4 f fd Ě (Rv C):=by
 refine F.cY DM λ_ x9 _ Tw rE _ Ko m8 hr x7=>?_;obtain ⟨p,Y,B,u,n,d,b,c,x,rfl,x6,x5,hF,hx,ht,h8,hlen,x8⟩:=x7;have g_:cR 1 _:=hr.mono (by decide);refine ⟨_,aR (e_ (gq (pv 0) T.cl mD GD hr bD .nil dR (bo dY (f9 (aY (pv 1))))))
  (aR (e_ (gq (pv 0) T.cl mD GD hr bD .nil dR (bo dY (f9 (aY (pv 1))))))
  (aR (iJ ja U (gP (gq (pv 0) T.cl mK GK g_ bK .nil dR (bo dY (pv 3)))) (cf 4 DM.nd)
   (au (e_ (gq (pv 0) T.cl mD GD hr bD .nil dR (bo dY (f9 (bo (pv 1) (pv 4))))))))
  (aR (iJ ja U (gP (gq (pv 0) T.cl mZ GZ g_ bZ .nil dR (aY (pv 2)))) (cf 4 DM.nd)
   (au (e_ (gq (pv 0) T.cl mD GD hr bD .nil dR (bo dY (f9 (bo (pv 4) (pv 1))))))))
  (au (iJ ja U (gP (gq (pv 0) T.cl mK GK g_ bK .nil dR (bo dY (pv 3)))) (cf 4 DM.nd)
   (au (e_ (gq (pv 0) T.cl mD GD hr bD .nil dR (bo dY (f9 (bo (pv 4) (pv 1)))))))))))),?_⟩
 obtain ⟨xa,xb⟩:=x5.good.lt _ _ hx;have d1:aH (du d) .aS c b=MU.put b (du d x) .aS [c]:=BO hx;have S1:iV n d (MU.put b (du d x) .aS [c]):=x5.put λw e=>MU.zB6 xa xb e;have A2:ag (MU.put b (du d x) .aS [c]) c=some x:=bY (rn _ _ _ _) hx;have l1:=gW b (du d x) .aS [c];generalize kf:eK n d c x.a x.b b=fin at*;unfold eK at kf;dsimp only at kf;rw [d1] at kf;refine λN1 c1=>tO (wd:=.aS) U U x6 x5.good (λx3 z=>DP U z) (.cons hx .nil) (.aS x ht) (by lia) λH1 C1 k1=>c1 _ _ ?_;generalize MU.put b (du d x) .aS [c]=jq at*;clear c1 N1;have d2:aH (dC d) .bp c jq=MU.put jq (dC d x) .bp [c]:=BO A2;have S2:iV n d (MU.put jq (dC d x) .bp [c]):=S1.put λw e=>MU.zA9 hF xa xb e;have uv:ag (MU.put jq (dC d x) .bp [c]) c=some x:=bY (rn _ _ _ _) A2;have l2:=gW jq (dC d x) .bp [c];rw [d2] at kf;refine λN2 c2=>tO (wd:=.bp) U U C1 S1.good (λx3 z=>DP U z) (.cons A2 .nil) (.bp x ht) (by lia) λH2 C2 k2=>c2 _ _ ?_;generalize MU.put jq (dC d x) .bp [c]=I at*;clear c2 N2;have kA:=k1.trans k2;clear k1 k2;have v4:∃v:Option V,(none:Option V)=v:=⟨_,U⟩;obtain ⟨_,_⟩:=v4;refine λN3 c3=>?_;obtain ⟨dx,R⟩:=C2.ins;refine (aa U (fi R (nh) (aa U ⟨p,Y,B,u,n,d,I,true,x.b,U,C2,h8,λH H3 O s r=>?_⟩)));obtain ⟨S,W,X⟩:=C2.apart O;have M:=C2.same s;refine ⟨H,U,⟨_,ar.of r⟩,?_⟩;have Q:∀j∈c_ n I true x.b,∃y,ag I j=some y/\y.tie=true/\y.a<n/\y.b<n:=λj hj=>by obtain ⟨cc,_,hb⟩:=IU hj;obtain ⟨y,g,hk⟩:=S2.good.at_ _ _ hb;obtain ⟨q1,_⟩:=iq hk;exact ⟨y,g,q1,S2.good.lt _ _ g⟩
 have tl:(c_ n I true x.b).length<=n:=Dr;generalize c_ n I true x.b=L at*;refine lD (K:=K) (a:=H) (xs:=fw L) (λi k E=>∃v,k=[some (.ref p),some (.int (c:Int)),some (.int (x.a:Int)),some (.int (x.b:Int)),v]/\gb C E p Y B u n d ((L.take i).foldl (λb j=>ao aB .sum c j b) I)/\iV n d ((L.take i).foldl (λb j=>ao aB .sum c j b) I)/\Ext I ((L.take i).foldl (λb j=>ao aB .sum c j b) I)/\dQ p B u H3 E) ⟨_,U,M,S2,Ext.refl _,dQ.of (a0.refl _)⟩ ?_ ?_ ?_
 ·rintro i k t _ ⟨v,rfl,_,_,_,h⟩;exact ar.of (h _ _ r S W X)
 ·rintro i y k t g ⟨v,rfl,D,l,m,h⟩;unfold fw at g;rw [dA] at g
  cases q:L[i]? with
  | none=>rw [q] at g;cases g
  | some j=>
   rw [q] at g;cases g;obtain ⟨y,wo,yt,_,yb⟩:=Q j (eR q);have fl:=pd (f:=λb j=>ao aB .sum c j b) (λ_ _=>gW _ _ _ _) (L.take i) I;rw [hG] at fl;rw [Dv q];have G:=bY m uv;have A:=bY m wo;have e4:ao aB .sum c j ((L.take i).foldl (λb j=>ao aB .sum c j b) I)=MU.put ((L.take i).foldl (λb j=>ao aB .sum c j b) I) (aB x y) .sum [c,j]:=BQ G A;rw [e4];generalize (L.take i).foldl (λb j=>ao aB .sum c j b) I=cH at*;refine tO (wd:=.sum) U U D l.good (λx3 z=>DQ U U z) (.cons G (.cons A .nil)) (.sum x y ht yt) (by lia) λH5 o k5=>⟨_,U,o,l.put λw e=>NZ xa yb e,m.trans (rn _ _ _ _),h.trans k5⟩
 rintro k t ⟨v1,rfl,o,S5,x1,h⟩;have N:L.take (fw L).length=L:=by unfold fw;rw [az];exact hH
 rw [N] at o S5 x1;refine c3 _ _ ?_;have kB:=(kA.trans (dQ.of s)).trans h;have UW:=bY x1 uv;have lenB:(L.foldl (λb j=>ao aB .sum c j b) I).rows.length<=b.rows.length+(2+1*n):=by have:=pd (f:=λb j=>ao aB .sum c j b) (λ_ _=>gW _ _ _ _) L I;lia
 generalize L.foldl (λb j=>ao aB .sum c j b) I=J at*;clear Q tl r S W X M O s h N x1 R c3 N3;refine λN4 c4=>?_;obtain ⟨dx,R⟩:=o.ins;refine (aa U (fi R (nh) (aa U ⟨p,Y,B,u,n,d,J,x.a,U,o,h8,λH H3 O s r=>?_⟩)));obtain ⟨S,W,X⟩:=o.apart O;have M:=o.same s;refine ⟨H,U,⟨_,ar.of r⟩,?_⟩;have Q:∀j∈dG n J x.a,∃y,ag J j=some y/\y.tie=true/\y.a<n/\y.b<n:=λj hj=>by obtain ⟨cc,_,hb⟩:=DC hj;obtain ⟨y,g,hk⟩:=S5.good.at_ _ _ hb;obtain ⟨q1,_⟩:=iq hk;exact ⟨y,g,q1,S5.good.lt _ _ g⟩
 have tl:(dG n J x.a).length<=n:=DB;generalize dG n J x.a=L at*;refine lD (K:=K) (a:=H) (xs:=fw L) (λi k E=>∃v,k=[some (.ref p),some (.int (c:Int)),some (.int (x.a:Int)),some (.int (x.b:Int)),v]/\gb C E p Y B u n d ((L.take i).foldl (λb j=>ao aB .sum j c b) J)/\iV n d ((L.take i).foldl (λb j=>ao aB .sum j c b) J)/\Ext J ((L.take i).foldl (λb j=>ao aB .sum j c b) J)/\dQ p B u H3 E) ⟨_,U,M,S5,Ext.refl _,dQ.of (a0.refl _)⟩ ?_ ?_ ?_
 ·rintro i k t _ ⟨v,rfl,_,_,_,h⟩;exact ar.of (h _ _ r S W X)
 ·rintro i y k t g ⟨v,rfl,D,l,m,h⟩;unfold fw at g;rw [dA] at g
  cases q:L[i]? with
  | none=>rw [q] at g;cases g
  | some j=>
   rw [q] at g;cases g;obtain ⟨y,wo,yt,ya,_⟩:=Q j (eR q);have fl:=pd (f:=λb j=>ao aB .sum j c b) (λ_ _=>gW _ _ _ _) (L.take i) J;rw [hG] at fl;rw [Dv q];have G:=bY m UW;have A:=bY m wo;have e4:ao aB .sum j c ((L.take i).foldl (λb j=>ao aB .sum j c b) J)=MU.put ((L.take i).foldl (λb j=>ao aB .sum j c b) J) (aB y x) .sum [j,c]:=BQ A G;rw [e4];generalize (L.take i).foldl (λb j=>ao aB .sum j c b) J=cH at*;refine tO (wd:=.sum) U U D l.good (λx3 z=>DQ U U z) (.cons A (.cons G .nil)) (.sum y x yt ht) (by lia) λH5 o k5=>⟨_,U,o,l.put λw e=>NZ ya xb e,m.trans (rn _ _ _ _),h.trans k5⟩
 rintro k t ⟨v2,rfl,C6,S6,x2,h⟩;have N:L.take (fw L).length=L:=by unfold fw;rw [az];exact hH
 rw [N] at C6 S6 x2;refine c4 _ _ ?_;have kC:=(kB.trans (dQ.of s)).trans h;have Lj:=bY x2 UW;have lenC:(L.foldl (λb j=>ao aB .sum j c b) J).rows.length<=b.rows.length+(2+2*n):=by have:=pd (f:=λb j=>ao aB .sum j c b) (λ_ _=>gW _ _ _ _) L J;lia
 generalize L.foldl (λb j=>ao aB .sum j c b) J=gX at*;clear Q tl r S W X M O s h N x2 R c4 N4;obtain ⟨dx,R⟩:=C6.ins;refine (aa U (fi R (nh) (aa U ⟨p,Y,B,u,n,d,gX,false,x.b,U,C6,h8,λH H3 O s r=>?_⟩)));obtain ⟨S,W,X⟩:=C6.apart O;have M:=C6.same s;refine ⟨H,U,⟨_,ar.of r⟩,?_⟩;have Q:∀j∈c_ n gX false x.b,∃y,ag gX j=some y/\y.tie=false/\y.a<n/\y.b<n:=λj hj=>by obtain ⟨cc,_,hb⟩:=IU hj;obtain ⟨y,g,hk⟩:=S6.good.at_ _ _ hb;obtain ⟨q1,_⟩:=iq hk;exact ⟨y,g,q1,S6.good.lt _ _ g⟩
 have tl:(c_ n gX false x.b).length<=n:=Dr;generalize c_ n gX false x.b=L at*;refine lD (K:=K) (a:=H) (xs:=fw L) (λi k E=>∃v,k=[some (.ref p),some (.int (c:Int)),some (.int (x.a:Int)),some (.int (x.b:Int)),v]/\gb C E p Y B u n d ((L.take i).foldl (λb j=>ao (bg d) .back j c b) gX)/\iV n d ((L.take i).foldl (λb j=>ao (bg d) .back j c b) gX)/\Ext gX ((L.take i).foldl (λb j=>ao (bg d) .back j c b) gX)/\dQ p B u H3 E) ⟨_,U,M,S6,Ext.refl _,dQ.of (a0.refl _)⟩ ?_ ?_ ?_
 ·rintro i k t _ ⟨v,rfl,_,_,_,h⟩;exact ar.of (h _ _ r S W X)
 ·rintro i y k t g ⟨v,rfl,D,l,m,h⟩;unfold fw at g;rw [dA] at g
  cases q:L[i]? with
  | none=>rw [q] at g;cases g
  | some j=>
   rw [q] at g;cases g;obtain ⟨y,wo,yt,ya,yb⟩:=Q j (eR q);have fl:=pd (f:=λb j=>ao (bg d) .back j c b) (λ_ _=>gW _ _ _ _) (L.take i) gX;rw [hG] at fl;rw [Dv q];have G:=bY m Lj;have A:=bY m wo;have e4:ao (bg d) .back j c ((L.take i).foldl (λb j=>ao (bg d) .back j c b) gX)=MU.put ((L.take i).foldl (λb j=>ao (bg d) .back j c b) gX) ((bg d) y x) .back [j,c]:=BQ A G;rw [e4];obtain ⟨yf,Lg⟩:=l.ends _ _ A yt;generalize (L.take i).foldl (λb j=>ao (bg d) .back j c b) gX=cH at*;refine tO (wd:=.back) U U D l.good (λx3 z=>DQ U U z) (.cons A (.cons G .nil)) (.back y x yf yt ht Lg) (by lia) λH5 o k5=>⟨_,U,o,l.put λw e=>OM ya yb xa xb e,m.trans (rn _ _ _ _),h.trans k5⟩
 ·rintro k t ⟨v,rfl,D,l,m,h⟩;have N:L.take (fw L).length=L:=by unfold fw;rw [az];exact hH
  rw [N,kf] at D l;exact x8 t D l ((kC.trans (dQ.of s)).trans h)
end
structure zi (n:Nat) (F:MU.cS) (s0:MU.St) (T:Nat):Prop where
 end_:(MU.run n F s0 T).rows.length<=T\/(MU.run n F s0 T).bar≠none
 first:∀t,t<T->t<(MU.run n F s0 t).rows.length/\(MU.run n F s0 t).bar=none
 pZ:∀t,t<=T->(MU.run n F s0 t).rows.length<=16000000
def SY (C:Addr):Sp:=λf H Q _=>∃(p e d c:Addr) (n:Nat) (F:MU.cS) (a:MU.St) (T:Nat),f=[.ref p]/\gb C H p e d c n F a/\iV n F a/\jc n F ((60:Nat):Int)/\n<=8/\zi n F a T/\
 ∀b,gb C b p e d c n F (MU.run n F a T)->iV n F (MU.run n F a T)->dQ p d c H b->Q .aG b
section
theorem DJ:bR ["self","at","what"] xv (aF bU):=cD
theorem lO (F:dO K "draw_all" "Closing.draw_all" bU f fd) (T:o4 K mg C)
 (mT:fV K C "draw_from_tie" fT) (bT:dm K mS Ě []) (GT:aq P w K mg base aw 4 fT mS Ě (Rv C))
 (mW:fV K C "draw_from_wait" fW) (bW:dm K yE ġ []) (GW:aq P w K mg base aw 4 fW yE ġ (RE C)):aq P w K mg base aw 5 f fd xv (SY C):=by
 refine F.cY DJ λ_ x7 _ m8 H _ x2 x8 W x5=>?_;obtain ⟨p,u,h,g,n,a,c,Te,rfl,x4,x3,hF,h8,R,k⟩:=x5;have hu:=jl W;refine ⟨_,aR (cx 1 DJ.nd a7)
  (au (PY ja (PW.pt (oT (cG tF (pv 1) (i7 vt (by rfl) T.len xj (aY (cI (pv 0) U)))) (ro (cG xG (cI (pv 0) U) iI))))
   (aR (cx 2 DJ.nd (aE (cV di (cI (pv 0) U) (pv 1))))
   (aR (xE (dr (cG fy (jF hu (cI (pv 0) U) (xS Cf (pv 2) xM (xN a7)) (λ_ _=>rfl)) (pv 1))
    (au (dr (cG fy (aE (pv 2)) dY)
     (au (e_ (gq (pv 0) T.cl mT GT W bT .nil dR (ia (pv 1) (aE (pv 2)) (aE (pv 2))))))
     (au (e_ (gq (pv 0) T.cl mW GW W bW .nil dR (bo (pv 1) (aE (pv 2)))))))) d8))
   (au (Hz (i:=1) DJ.nd U (Or.inl U) a7 Hq)))))),?_⟩
 refine λN1 c1=>c1 _ _ ?_;refine ⟨λm l d=>∃t v,t+m=Te/\l=[some (.ref p),some (.int (t:Int)),v]/\gb C d p u h g n a (MU.run n a c t)/\iV n a (MU.run n a c t)/\dQ p h g H d,⟨Te,0,none,by lia,U,x4,x3,dQ.of (a0.refl _)⟩,?_⟩;rintro m l H1 ⟨t,v,htm,rfl,r,s,k1⟩;obtain ⟨dx,B⟩:=r.ins;obtain ⟨qs,kS,cp⟩:=r.rows;obtain ⟨kvs,Mc,AG,jZ⟩:=r.best;have Lv:qs.length=(MU.run n a c t).rows.length:=j8 cp;refine (aa U (aa U (cb B T.cl T.nR qY ⟨h,_,U,.inl (ar.of kS),ri (ct ?_)⟩)));rw [az,Lv];have p_:∀b,(MU.run n a c t).rows.length<=t\/(MU.run n a c t).bar≠none->b=false->if b=true then (∃x1:L2.St->Hp->Prop,(∀l d,x1 l d->∃M,M<m/\∃t v,t+M=Te/\l=[some (.ref p),some (.int (t:Int)),v]/\gb C d p u h g n a (MU.run n a c t)/\iV n a (MU.run n a c t)/\dQ p h g H d)/\False) else x2 .aG H1:=λb Lq A=>by
  have e:t=Te:=gh λz=>by
   have:=R.first t (by lia);rcases Lq with y | y
   ·exact zN this.1 y
   ·exact y this.2
  rw [if_neg (by rw [A];decide)];rw [e] at r s;exact k H1 r s k1
 by_cases O:t<(MU.run n a c t).rows.length
 ·refine fu (CU O) (aa U (cb B T.cl T.nX BN ⟨U,ct ?_⟩));rw [ON]
  by_cases A:(MU.run n a c t).bar=none
  ·refine fu A ?_;have htT:t<Te:=gh λz=>by
    have e:t=Te:=by lia
    rcases R.end_ with y | y
    ·rw [<-e] at y;exact zN O y
    ·rw [<-e] at y;exact y A
   refine ⟨λl d=>∃M,M<m/\∃t v,t+M=Te/\l=[some (.ref p),some (.int (t:Int)),v]/\gb C d p u h g n a (MU.run n a c t)/\iV n a (MU.run n a c t)/\dQ p h g H d,λl d z=>z,?_⟩;obtain ⟨x,q⟩:∃x,ag (MU.run n a c t) t=some x:=⟨_,by unfold ag;rw [gI O];rfl⟩;obtain ⟨q',x9,N,pu,g1,_,_,g4,I,_⟩:=Cu cp q;have nZ:ic (qs.map V.ref) (t:Int)=some (.ref q'):=je (by rw [dA,g1];rfl);refine λN2 c2=>(aa U (cb B T.cl T.nR qY (yn U kS nZ (aD g4 U (c2 _ _ ?_)))));clear c2 N2;refine λN3 c3=>⟨λl d=>l=[some (.ref p),some (.int (t:Int)),some (.ref N)]/\gb C d p u h g n a (MU.run n a c (t+1))/\iV n a (MU.run n a c (t+1))/\dQ p h g H1 d,?_,?_⟩
   ·refine (aa U (cb B T.cl T.nE qv (aa U ⟨_,U,N,_,U,dB.of I,Hs,λX LP=>?_⟩)));rw [JV];have j:=aV (o:=.tup ((cw x.key).map kV)) LP;have e3:upd H1 X (.tup ((cw x.key).map kV)) X=some (.tup ((cw x.key).map kV)):=ai;generalize upd H1 X (.tup ((cw x.key).map kV))=H3 at*;obtain ⟨x6,_,J⟩:=s.good.top t x q;have dg:=eF.t (k:=cw x.key) (j _ _ Mc) e3;rw [jZ,J] at dg;have Q:=r.same j;have pZ:=R.pZ t (by exact bf htT);have S:MU.run n a c (t+1)=MU.look n a t (MU.run n a c t):=U;refine ⟨g,_,U,dg,aa U ⟨U,ct ?_⟩⟩;rw [oM]
    by_cases e:x6=t
    ·rw [e] at J;refine fu e (aa U (aD (j _ _ I) U ⟨U,ct ?_⟩));rw [CK]
     cases ht:x.tie with
     | true=>
      have G:=MU.Cy (n:=n) (F:=a) q ht U U (by rw [<-J];unfold ak.key;rw [ht]);rw [S,G];refine fv (aa U (fi (j _ _ B) (nh) (aa U (aa U (aD (j _ _ I) U (aa U (aD (j _ _ I) U ?_)))))));exact ⟨p,u,h,g,n,a,_,t,x,U,Q,s,hF,q,ht,h8,pZ,λY D E L=>⟨U,D,E,(dQ.of j).trans L⟩⟩
     | false=>
      have G:=MU.IV (n:=n) (F:=a) q ht J;rw [S,G];refine dk (aa U (fi (j _ _ B) (nh) (aa U (aa U (aD (j _ _ I) U ?_)))));exact ⟨p,u,h,g,n,a,_,t,x,U,Q,s,hF,q,ht,h8,pZ,λY D E L=>⟨U,D,E,(dQ.of j).trans L⟩⟩
    ·have G:=MU.QQ (n:=n) (F:=a) q (by rw [J];exact λz=>e (ft z));rw [S,G];exact gL e ⟨U,Q,s,dQ.of j⟩
   ·rintro l Y ⟨rfl,D,E,L⟩;refine c3 _ _ ⟨_,U,_,_,U,U,m-1,by lia,t+1,some (.ref N),by lia,?_,D,E,k1.trans L⟩;show [some (V.ref p),some (V.int ((t:Int)+1)),some (V.ref N)]=[some (V.ref p),some (V.int ((t+1:Nat):Int)),some (V.ref N)];rfl
  ·have:=p_ false (.inr A) U;exact gL A this
 ·have:=p_ false (.inl (pb O)) U;exact gL (by lia) (dk this)
end
end Y0
namespace MU
noncomputable def empty:St:=⟨[],λ_=>none,none⟩
noncomputable def lA (rows:List ak) (st:St):St:=rows.foldl (λst w=>take st w .told []) st
theorem JH:bV n empty:=by
 have a:∀i w,ag empty i≠some w:=λi w h=>by unfold ag empty at h;simp at h
 exact ⟨λk i h=>(nomatch h),λi w h=>absurd h (a i w),λi w h=>absurd h (a i w),λ_ i w h=>absurd h (a i w),λ_ i j w b h=>absurd h (a i w)⟩
def JR (n:Nat) (w:ak):Prop:=w.a<n/\w.b<n/\w.tie=true
theorem Dz:∀(rows:List ak) (st:St),bV n st->(∀w∈rows,JR n w)->bV n (lA rows st)
 | [],_,g,_=>g
 | w::r,st,g,h=>Dz r _ (Rf g (h w gw).1 (h w gw).2.1 λz=>by rw [(h w gw).2.2] at z;cases z) λb a=>h b (iO _ a)
theorem Rh:∀(rows:List ak) (st:St),Imp st (lA rows st)
 | [],st=>Imp.refl st
 | w::r,st=>(Qn st w _ _).trans (Rh r _)
theorem IX:∀(rows:List ak) (st:St),(lA rows st).rows.length<=st.rows.length+rows.length
 | [],st=>ay _
 | w::r,st=>by have b:=IX r (take st w .told []);have a:=gW st (some w) .told [];have a:(take st w .told []).rows.length<=st.rows.length+1:=a;rw [ji];show (lA r (take st w .told [])).rows.length<=_;exact JD b a
theorem JJ:∀(rows:List ak) (st:St),(∀i w,ag st i=some w->w.tie=true)->(∀w∈rows,JR n w)->∀i w,ag (lA rows st) i=some w->w.tie=true
 | [],_,h,_=>h
 | w::r,st,h,c=>JJ r _ (λi u b=>by
  by_cases a:i<st.rows.length
  ·exact h i u (ry (zJ _ _ _ _) a b)
  ·exact Qz (C:=λu=>u.tie=true) (c w gw).2.2 i u (by exact kZ a) b) λe d=>c e (iO _ d)
theorem DF:∀(rows:List ak) (st:St) (w:ak),w∈rows->w.a≠w.b->∃u,val (lA rows st) w.key=some u/\¬ed w.tie w.v u
 | [],_,w,h,_=>nomatch h
 | x::r,st,w,h,a=>by
  rcases f'.mp h with e | h
  ·subst e;obtain ⟨u,b,d⟩:=Dy (st:=st) (w:=w) (word:=.told) (used:=[]) a;obtain ⟨g,c,f⟩:=(Rh r (take st w .told [])).2 w.key u a b;exact ⟨g,c,JL d f⟩
  ·exact DF r _ w h a
theorem R4:∀i w,ag empty i=some w->w.tie=true:=λi w h=>by unfold ag empty at h;simp at h
theorem zB0 (g:bV n st) (h:∀i w,ag st i=some w->w.tie=true) (a b:Nat):val st (false,a,b)=none:=by
 unfold val
 cases q:st.best (false,a,b) with
 | none=>rfl
 | some i=>
  obtain ⟨w,d,c⟩:=g.at_ _ _ q;have:=h i w d;have e:=(iq c).1;rw [this] at e;cases e
end MU
open MU (lA empty Dz JH JJ R4 IX DF)
namespace Y0
open PySem L2
seal PE PA PT PS eS PG me PI PO
seal kT i6 iA gd hQ il i9 i8 gm a8
def iF:List Int->ak
 | [a,b,v]=>⟨true,a.toNat,b.toNat,v⟩
 | _=>⟨true,0,0,0⟩
def DH (n:Int) (rows:List (List Int)):Prop:=∀r∈rows,∃a b v:Int,r=[a,b,v]/\0<=a/\a<n/\0<=b/\b<n/\a≠b
theorem Rq:∀{k:Nat} {n:Int},(k:Int)+1<=n->DH n (nr la k)
 | 0,_,_=>λr a=>nomatch a
 | k+1,n,h=>λr a=>by
  unfold nr at a;rcases jj.mp a with a | a
  ·exact Rq (k:=k) (by exact fq h) r a
  ·rcases f'.mp a with rfl | a
   ·exact ⟨0,(k:Int)+1,la,U,by exact kW (0+0),by lia,by exact kW (k+1+0),by exact h,by lia⟩
   ·rw [ig.mp a];exact ⟨(k:Int)+1,0,0,U,by exact kW (k+1+0),by exact h,by exact kW (0+0),by lia,by lia⟩
theorem Rx (h:∀r∈rows,∃a b l m:Int,r=[a,b,l,m]/\0<=a/\a<n/\0<=b/\b<n/\a≠b):DH n (o7 rows):=λr j=>by
 unfold o7 at j;obtain ⟨x,k,c⟩:=List.mem_flatten.mp j;obtain ⟨y,o,rfl⟩:=fY.mp k;obtain ⟨a,b,l,m,rfl,d,e,f,g,i⟩:=h y o;rcases f'.mp c with rfl | c
 ·exact ⟨a,b,m,U,d,e,f,g,i⟩
 ·rw [ig.mp c];exact ⟨b,a,-l,U,f,g,d,e,aK i⟩
theorem dn.lQ (h:dn n la T F):DH n (jC n la T F):=λr c=>by
 unfold jC at c;have k:=h.n1;rcases jj.mp c with c | c
 ·rcases jj.mp c with c | c
  ·exact Rq (by omega) r c
  ·exact Rx (λr c=>by obtain ⟨a,b,l,m,e,d,f,g,i,j,_⟩:=h.t r c;exact ⟨a,b,l,m,e,d,f,g,i,j⟩) r c
 ·exact Rx (λr c=>by obtain ⟨a,b,l,m,e,d,f,g,i,j,_⟩:=h.f r c;exact ⟨a,b,l,m,e,d,f,by exact fq g,i,j⟩) r c
theorem Ry (h:dn n la T F):(jC n la T F).length<=100:=by unfold jC;rw [iD,iD,zU,yd h.uC,yd h.pY];have:=h.tl;have:=h.fl;have:=h.n2;lia
def mu (n la:Int) (T F:List (List Int)):MU.St:=lA ((jC n la T F).map iF) empty
theorem xy {n:Nat} {rows:List (List Int)} (h:DH (n:Int) rows):∀w∈rows.map iF,MU.JR n w:=λw f=>by obtain ⟨r,e,rfl⟩:=fY.mp f;obtain ⟨a,b,v,rfl,c,d,_,g,_⟩:=h r e;exact ⟨by show a.toNat<n;exact XC c d,by show b.toNat<n;lia,U⟩
theorem Dj {n:Nat} {la:Int} {T F:List (List Int)} (h:dn (n:Int) la T F):iV n (aQ F) (mu n la T F):=by have g:=Dz ((jC (n:Int) la T F).map iF) empty JH (xy h.lQ);refine ⟨g,λi w b a=>?_⟩;have:=JJ (n:=n) _ _ R4 (xy h.lQ) i w b;rw [a] at this;cases this
theorem I1:∀{k:Nat},i<k->[0,(i:Int)+1,la]∈nr la k/\[(i:Int)+1,0,0]∈nr la k
 | 0,h=>absurd h (oJ _)
 | k+1,h=>by
  unfold nr
  by_cases e:i=k
  ·subst e;exact ⟨kY _ gw,kY _ (iO _ gw)⟩
  ·obtain ⟨a,b⟩:=I1 (la:=la) (i:=i) (k:=k) (rB h e);exact ⟨lg _ a,lg _ b⟩
theorem YY {n:Nat} {la:Int} {T F:List (List Int)} (h:dn (n:Int) la T F) (B:la<=60):∃Te,zi n (aQ F) (mu n la T F) Te:=by
 have g:=Dz ((jC (n:Int) la T F).map iF) empty JH (xy h.lQ);have s:=JJ (n:=n) _ _ R4 (xy h.lQ);have D:=h.n1;have r:=h.n2;have a:=IX ((jC (n:Int) la T F).map iF) empty;have C:=Ry h;rw [az] at a;have a:(mu n la T F).rows.length<=0+(jC (n:Int) la T F).length:=a;have t:∀i,0<i->i<n->(∃v,v<=((60:Nat):Int)/\val (mu n la T F) (true,0,i)=some v)/\∃v,v<=0/\val (mu n la T F) (true,i,0)=some v:=λi m A=>by
  have o:i-1<((n:Int)-1).toNat:=by lia
  obtain ⟨c,d⟩:=I1 (la:=la) o;have l:((i-1:Nat):Int)+1=(i:Int):=by lia
  rw [l] at c d;have p:(⟨true,0,i,la⟩:ak)∈(jC (n:Int) la T F).map iF:=fY.mpr ⟨_,lg _ (lg _ c),U⟩;have q:(⟨true,i,0,0⟩:ak)∈(jC (n:Int) la T F).map iF:=fY.mpr ⟨_,lg _ (lg _ d),U⟩;obtain ⟨u,y,e⟩:=DF _ empty _ p (by show 0≠i;lia);obtain ⟨x,z,b⟩:=DF _ empty _ q (by show i≠0;exact wZ m);unfold ed at e b;simp at e b;exact ⟨⟨u,by lia,y⟩,⟨x,b,z⟩⟩
 obtain ⟨Te,f,j,k⟩:=MU.Ze (n:=n) (F:=aQ F) (s0:=mu n la T F) (CY r) h.oG g t (MU.zB0 g s) (by lia);exact ⟨Te,f,j,k⟩
def Pj (C g:Addr):Sp:=λi H Q _=>∃(p f h:Addr) (n:Nat) (b:Int) (T F:List (List Int)),i=[.ref p,.ref f]/\H p=some (.ins C h [])/\jK g H f (n:Int) b T F/\dn (n:Int) b T F/\
 ∀a d e c,gb C a p d e c n (aQ F) (mu n b T F)->H d=none->H e=none->H c=none->bX p H a->Q .aG a
section
noncomputable abbrev nCi:List Str:=["self","web","a","b","most"]
theorem DK:bR nCi đ (aF de):=cD
theorem km1:¬(("many":Str)="by_end"):=by decide+kernel
theorem km2:¬(("many":Str)="rows"):=by decide+kernel
theorem km3:¬(("by_end":Str)="rows"):=by decide+kernel
theorem km4:¬(("many":Str)="best"):=by decide+kernel
theorem km5:¬(("by_end":Str)="best"):=by decide+kernel
theorem km6:¬(("rows":Str)="best"):=by decide+kernel
theorem km7:¬(("many":Str)="bar"):=by decide+kernel
theorem km8:¬(("by_end":Str)="bar"):=by decide+kernel
theorem km9:¬(("rows":Str)="bar"):=by decide+kernel
theorem km0:¬(("best":Str)="bar"):=by decide+kernel
theorem ë {n:Nat}:aj "bar" v (aj "best" (.ref bd) (aj "rows" (.ref rl) (aj "by_end" (.ref be) (aj "many" (.int (n:Int)) []))))=iG n be rl bd v:=by
 have a:aj "by_end" (V.ref be) [(("many":Str),V.int (n:Int))]=[(("many":Str),V.int (n:Int)),("by_end",.ref be)]:=by rw [m6 km1];rfl
 have b:aj "rows" (V.ref rl) [(("many":Str),V.int (n:Int)),("by_end",.ref be)]=[(("many":Str),V.int (n:Int)),("by_end",.ref be),("rows",.ref rl)]:=by rw [m6 km2,m6 km3];rfl
 have c:aj "best" (V.ref bd) [(("many":Str),V.int (n:Int)),("by_end",.ref be),("rows",.ref rl)]=[(("many":Str),V.int (n:Int)),("by_end",.ref be),("rows",.ref rl),("best",.ref bd)]:=by rw [m6 km4,m6 km5,m6 km6];rfl
 have d:aj "bar" v [(("many":Str),V.int (n:Int)),("by_end",.ref be),("rows",.ref rl),("best",.ref bd)]=iG n be rl bd v:=by rw [m6 km7,m6 km8,m6 km9,m6 km0];rfl
 show aj "bar" v (aj "best" (.ref bd) (aj "rows" (.ref rl) (aj "by_end" (.ref be) [(("many":Str),V.int (n:Int))])))=_;rw [a,b,c,d]
theorem pK (F:dO K "__init__" "Closing.__init__" de f fd) (T:o4 K mg C) (TC:o1 K mg I)
 (mT:fV K C "take" fT) (bT:dm K mS ă []) (GT:aq P w K mg base aw 2 fT mS ă (HG C))
 (FE:Fn K mg "falls_by_end" br Ċ fE yF) (GE:aq P w K mg base aw 2 fE yF Ċ (HR I))
 (FB:Fn K mg "told_bounds" cy Ċ fB uE) (GB:aq P w K mg base aw 3 fB uE Ċ (NW I)):aq P w K mg base aw 4 f fd đ (Pj C I):=by
 refine F.cY DK λ_ m8 _ Tw H _ Ko rE O x8=>?_;obtain ⟨p,wb,d,n,y,D,rF,rfl,h,W0,N,x7⟩:=x8;have sN:cR 2 _:=O.mono (by decide);have Lu:cR 3 _:=O;refine ⟨_,aR (kL (pv 0) (cI (pv 1) U) U)
  (aR (kL (pv 0) (cE GE sN FE (aY (pv 1))) U)
  (aR (kL (pv 0) (iW oS) U)
  (aR (kL (pv 0) WX U)
  (aR (kL (pv 0) iI U)
  (au (iJ ja U (gP (cE GB Lu FB (aY (pv 1))))
   (uX U (g9 (cf 2 DK.nd) (g9 (cf 3 DK.nd) (g9 (cf 4 DK.nd) tQ))))
   (au (e_ (gq (pv 0) T.cl mT GT sN bT .nil dR (ia (f9 (kQ dY (pv 2) (pv 3) (pv 4))) dY (f9 oS))))))))))),?_⟩
 obtain ⟨T6,Tx,T5,S,T1,Tz⟩:=id W0;have pw:p≠wb:=λz=>by rw [z,S] at h;have:=HO.ins.inj (ft h);exact absurd this.2.2 (λz=>by unfold nj aj at z;cases z)
 refine λN1 c1=>(aa U (cb S TC.cl TC.nM (Cc _ _ _ _) (aa U (kO h T.cl T.nM (by show 0<1000;decide) (c1 _ _ ?_)))));have x:∀{l:Hp} {fs:List (Str×V)} {o:HO},l p=some (.ins C d fs)->bX p l (upd l p o):=λ{l fs o} _ b o' e' g=>by rw [ah g];exact e'
 have m:bX p H (upd H p (.ins C d (aj "many" (.int (n:Int)) []))):=x h;have W:upd H p (.ins C d (aj "many" (.int (n:Int)) [])) p=some (.ins C d (aj "many" (.int (n:Int)) [])):=ai;generalize upd H p (.ins C d (aj "many" (.int (n:Int)) []))=H1 at*;clear c1 N1;have W1:jK I H1 wb (n:Int) y D rF:=⟨T6,Tx,T5,m _ _ S (aK pw),by
  obtain ⟨q,R⟩:=T1;exact ⟨q,m _ _ R.1 (aI R.1 h nofun),dM R.2 λ_ _ e=>m _ _ e (aI e h nofun)⟩,by
  obtain ⟨q,R⟩:=Tz;exact ⟨q,m _ _ R.1 (aI R.1 h nofun),dM R.2 λ_ _ e=>m _ _ e (aI e h nofun)⟩⟩
 refine λN2 c2=>(aa U ⟨wb,(n:Int),y,D,rF,U,W1,N,λc t wK s2 FA2=>(aa U (kO (s2 _ _ W) T.cl T.nB (by show 1<1000;decide) (c2 _ _ ?_)))⟩);have k2:bX p t (upd t p (.ins C d (aj "by_end" (.ref c) (aj "many" (.int (n:Int)) [])))):=x (s2 _ _ W);have p2:upd t p (.ins C d (aj "by_end" (.ref c) (aj "many" (.int (n:Int)) []))) p=some (.ins C d (aj "by_end" (.ref c) (aj "many" (.int (n:Int)) []))):=ai;have TY:=s2 _ _ W;have FA3:lB (upd t p (.ins C d (aj "by_end" (.ref c) (aj "many" (.int (n:Int)) [])))) c (aQ rF):=by obtain ⟨Bf,u,f2,f3,f4⟩:=FA2.at_;refine ⟨Bf,k2 _ _ u (aI u TY nofun),f2,f3,λe f hf=>?_⟩;obtain ⟨pp,q1,A⟩:=f4 e f hf;exact ⟨pp,q1,k2 _ _ A (aI A TY nofun)⟩
 generalize upd t p (.ins C d (aj "by_end" (.ref c) (aj "many" (.int (n:Int)) [])))=H3 at*;clear c2 N2;have K3:bX p H H3:=λb o e g=>k2 _ _ (s2 _ _ (m _ _ e g)) g;have free:∀{l:Hp} {b:Addr},bX p H l->l b=none->b≠p->H b=none:=λ{l b} j e g=>by
  cases x5:H b with
  | none=>rfl
  | some o=>rw [j _ _ x5 g] at e;cases e
 have beH:H c=none:=free m wK (aK (av W wK));refine λN3 c3=>⟨dZ _,λrl Q=>(aa U (kO (aV Q _ _ p2) T.cl T.nR (by show 2<1000;decide) (c3 _ _ ?_)))⟩;have s4:=aV (o:=.lst []) Q;have r4:upd H3 rl (.lst []) rl=some (.lst []):=ai;have FA4:=FA3.same s4;have p4:=s4 _ _ p2;generalize upd H3 rl (.lst [])=J at*;have X:p≠rl:=av p2 Q;have D':H rl=none:=free K3 Q (aK X);have k5:bX p J (upd J p (.ins C d (aj "rows" (.ref rl) (aj "by_end" (.ref c) (aj "many" (.int (n:Int)) []))))):=x p4;have p5:upd J p (.ins C d (aj "rows" (.ref rl) (aj "by_end" (.ref c) (aj "many" (.int (n:Int)) [])))) p=some (.ins C d (aj "rows" (.ref rl) (aj "by_end" (.ref c) (aj "many" (.int (n:Int)) [])))):=ai;have r5:=k5 _ _ r4 (aK X);generalize upd J p (.ins C d (aj "rows" (.ref rl) (aj "by_end" (.ref c) (aj "many" (.int (n:Int)) []))))=H5 at*;clear c3 N3;have K5:bX p H H5:=λb o e g=>k5 _ _ (s4 _ _ (K3 _ _ e g)) g;refine λN4 c4 bd M=>(aa U (kO (aV M _ _ p5) T.cl T.nE (by show 3<1000;decide) (c4 _ _ ?_)));have s6:=aV (o:=.dT []) M;have b6:upd H5 bd (.dT []) bd=some (.dT []):=ai;have p6:=s6 _ _ p5;have r6:=s6 _ _ r5;generalize upd H5 bd (.dT [])=H6 at*;have yr:p≠bd:=av p5 M;have Ff:H bd=none:=free K5 M (aK yr);have k7:bX p H6 (upd H6 p (.ins C d (aj "best" (.ref bd) (aj "rows" (.ref rl) (aj "by_end" (.ref c) (aj "many" (.int (n:Int)) [])))))):=x p6;have p7:upd H6 p (.ins C d (aj "best" (.ref bd) (aj "rows" (.ref rl) (aj "by_end" (.ref c) (aj "many" (.int (n:Int)) []))))) p=some (.ins C d (aj "best" (.ref bd) (aj "rows" (.ref rl) (aj "by_end" (.ref c) (aj "many" (.int (n:Int)) []))))):=ai;have r7:=k7 _ _ r6 (aK X);have b7:=k7 _ _ b6 (aK yr);generalize upd H6 p (.ins C d (aj "best" (.ref bd) (aj "rows" (.ref rl) (aj "by_end" (.ref c) (aj "many" (.int (n:Int)) [])))))=H7 at*;clear c4 N4;refine λN5 c5=>(aa U (kO p7 T.cl T.nX (by show 4<1000;decide) (c5 _ _ ?_)));rw [ë];have k8:bX p H7 (upd H7 p (.ins C d (iG n c rl bd .aG))):=x p7;have p8:upd H7 p (.ins C d (iG n c rl bd .aG)) p=some (.ins C d (iG n c rl bd .aG)):=ai;have r8:=k8 _ _ r7 (aK X);have b8:=k8 _ _ b7 (aK yr);generalize upd H7 p (.ins C d (iG n c rl bd .aG))=H8 at*;clear c5 N5;have La:bX p J H8:=λb o e g=>k8 _ _ (k7 _ _ (s6 _ _ (k5 _ _ e g)) g) g;have r:bX p H H8:=λb o e g=>La _ _ (s4 _ _ (K3 _ _ e g)) g;have FA8:lB H8 c (aQ rF):=by obtain ⟨Bf,u,f2,f3,f4⟩:=FA4.at_;refine ⟨Bf,La _ _ u (aI u p4 nofun),f2,f3,λe f hf=>?_⟩;obtain ⟨pp,q1,A⟩:=f4 e f hf;exact ⟨pp,q1,La _ _ A (aI A p4 nofun)⟩
 have C8:gb C H8 p c rl bd n (aQ rF) empty:=⟨⟨d,p8⟩,FA8,⟨[],r8,.nil⟩,⟨[],b8,⟨ay _,λ_ z=>nomatch z⟩,λx7=>rfl⟩⟩;have W8:jK I H8 wb (n:Int) y D rF:=⟨T6,Tx,T5,r _ _ S (aK pw),by
  obtain ⟨q,R⟩:=T1;exact ⟨q,r _ _ R.1 (aI R.1 h nofun),dM R.2 λ_ _ e=>r _ _ e (aI e h nofun)⟩,by
  obtain ⟨q,R⟩:=Tz;exact ⟨q,r _ _ R.1 (aI R.1 h nofun),dM R.2 λ_ _ e=>r _ _ e (aI e h nofun)⟩⟩
 refine (aa U ⟨wb,(n:Int),y,D,rF,U,W8,N,λx4 L hl s9 R9=>?_⟩);obtain ⟨qs,R⟩:=R9;have E:=C8.same s9;obtain ⟨n1,n2,n3⟩:=C8.apart hl;have idx:=N.lQ;have sh:=Ry N;refine ⟨x4,U,⟨_,ar.of R.1⟩,?_⟩;have stays:∀{k:Hp},dQ p rl bd L k->k x4=some (.lst (qs.map V.ref)):=λj=>j _ _ R.1 n1 n2 n3;obtain ⟨VJ,p9⟩:=E.ins;obtain ⟨q9,r9,_⟩:=E.rows;obtain ⟨kv9,b9,_⟩:=E.best;have fJ:∀{k:Hp} {b:Addr} {xs:List V},dQ p rl bd L k->L b=some (.tup xs)->k b=some (.tup xs):=λj e=>j _ _ e (aI e p9 nofun) (aI e r9 nofun) (aI e b9 nofun);generalize hB:jC (n:Int) y D rF=B at*;refine lD (K:=K) (a:=x4) (xs:=qs.map V.ref) (λi gK k=>∃v2 v3 v4,gK=[some (.ref p),some (.ref wb),v2,v3,v4]/\gb C k p c rl bd n (aQ rF) (lA ((B.take i).map iF) empty)/\dQ p rl bd L k) ⟨none,none,none,U,E,dQ.of (a0.refl _)⟩ ?_ ?_ ?_
 ·rintro i gK k _ ⟨v2,v3,v4,rfl,_,j⟩;exact ar.of (stays j)
 ·rintro i x14 gK G hy ⟨v2,v3,v4,rfl,s,j⟩;obtain ⟨x5,x6,rfl,_,wu,ux⟩:=R.get hy;obtain ⟨a,b,v,rfl,x1,_,x3,_⟩:=idx x6 (eR wu);have hi:i<B.length:=(eX.mp wu).1;refine ⟨x5,_,U,dB.of (fJ j ux),U,_,_,U,_,_,U,_,_,U,U,?_⟩;obtain ⟨dx10,p10⟩:=s.ins;have gi:=Dz ((B.take i).map iF) empty (JH (n:=n)) (xy λx6 O=>idx x6 (FH O));have li:=IX ((B.take i).map iF) empty;rw [az,hG] at li;have li:(lA ((B.take i).map iF) empty).rows.length<=0+min i B.length:=li;have et:lA ((B.take (i+1)).map iF) empty=take (lA ((B.take i).map iF) empty) (iF [a,b,v]) .told []:=by
   unfold lA;rw [jb,wu,dN,GC];rfl
  rw [et];generalize lA ((B.take i).map iF) empty=sti at*;refine (aa U (fi p10 (nh) (aa U (aa U (aa U ⟨eH U,λx2 ht=>⟨dZ _,λx9 hu'=>?_⟩⟩)))));have K6:=aV (o:=.tup [V.str "tie",V.int a,V.int b,V.int v]) ht;have w11:ip (upd G x2 (.tup [V.str "tie",V.int a,V.int b,V.int v])) x2 (iF [a,b,v]):=by unfold ip;rw [ai];show some (HO.tup [V.str "tie",V.int a,V.int b,V.int v])=some (HO.tup [V.str "tie",V.int ((a.toNat:Nat):Int),V.int ((b.toNat:Nat):Int),V.int v]);rw [show ((a.toNat:Nat):Int)=a by exact Dg x1,show ((b.toNat:Nat):Int)=b by exact Dg x3]
  generalize upd G x2 (.tup [V.str "tie",V.int a,V.int b,V.int v])=NJ at*;have K4:=aV (o:=.tup []) hu';refine ⟨p,c,rl,bd,x2,x9,n,_,_,iF [a,b,v],.told,[],U,(s.same K6).same K4,gi,w11.same K4,ai,by lia,λH13 C13 k13=>⟨_,_,_,U,C13,?_⟩⟩;exact (j.trans (dQ.of (K6.trans K4))).trans k13
 ·rintro gK G ⟨v2,v3,v4,rfl,s,j⟩;have eD:B.take (qs.map V.ref).length=B:=by rw [az,R.len];exact hH
  rw [eD] at s;refine x7 G c rl bd ?_ beH D' Ff λb o e g=>j _ _ (s9 _ _ (r _ _ e g)) g (av e D') (av e Ff);unfold mu;rw [hB];exact s
end
end Y0
namespace L2
open PySem PySem.Spec PyProof.Rows
section
theorem P_ (g:(d==sysModules)=false) (b:s.heap.get? d=some o) (f:o.ExactDict) (c:o.data=.dict I C)
 (e:Q (.ref s.heap.objs.size) { s with heap:=s.heap.push { cls:=.type "dict_keyiterator",data:=.fields #[.ref d,.int 0 0,.int I.size 0,.int C 0] } }):
 wpAny (model prog w) A (pyIter (.ref d)) Q E s:=by
 have a:s.TypeIs (.ref d) "dict":=⟨o,b,f.1⟩;refine wpAny_pyIter_slot a F.slot_dict_iter (uG F.slot_dict_iter a F.entry_dict_iter ?_ (F.args_dict_iter_1 _));unfold Builtin.«dict.__iter__» Builtin.Dict.dictSlotNone;refine ae (ae (wpAny_notOrdered_dict a (show wpAny _ _ (pure (Value.ref d)) _ _ s from aJ ?_)));refine (show wpAny _ _ (Builtin.Dict.showsAll d>>=_) _ _ s from ?_);unfold Builtin.Dict.showsAll;rw [if_neg (by rw [g];exact dX)];refine ae (aJ (ae (F7 b c (ae (Nf b c (ae (qN (aJ ⟨_,U,"dict_keyiterator",_,⟨_,iT _ U,U⟩,B8.lookup,?_⟩))))))));simpa [rawInt] using e
theorem Qa (a:s.heap.IsKeyIter it d i C.size ep) (h:s.heap.get? d=some od) (f:od.data=.dict C ep) (l:C[i]?=some e)
 (j:∀h',h'.IsKeyIter it d (i+1) C.size ep->Heap.SameBut it s.heap h'->Q (some e.key) { s with heap:=h' }):wpAny (model prog w) A (pyNext (.ref it)) Q E s:=by
 obtain ⟨o,c,k,b⟩:=id a;unfold pyNext;refine ae (s_ (yW (name:=Str.ofString "__next__") a.typeIs B8 (uG B8 a.typeIs Wb ?_ (Wc _))));refine ae (aJ (ae (ae ?_)))
 first | refine ae (FY a.typeIs (aJ (ae (Fq c b ?_)))) | refine ae (F_ a.typeIs (aJ (ae (Fq c b ?_))))
 rw [show Builtin.Dict_items.ownsTuple "dict_keyiterator"=false by decide,if_neg dX];refine (show wpAny _ _ (if (Value.ref d==Value.none)=true then _ else _) _ _ s from ?_);rw [if_neg (show ¬((Value.ref d==Value.none)=true) from dX)];refine ae (aJ (ae (F7 h f ?_)));rw [if_neg (by simp)];refine ae (aJ (ae (Nf h f ?_)));rw [if_neg (by simp)];refine aJ ?_;dsimp only;rw [if_neg (show ¬((i:Int)<0) from Int.not_lt.mpr (yT i)),l_,l];dsimp only;refine ae ?_
 first | refine ae (FY a.typeIs (aJ (ae (Np a.typeIs ?_)))) | refine ae (F_ a.typeIs (aJ (ae (Np a.typeIs ?_))))
 refine (show wpAny _ _ (setField (.ref it) 1 (rawInt ((i:Int)+1))>>=_) _ _ s from ae (qJ c b (by simp) ?_));have g:(s.heap.update it (Obj.mapFields (·.setIfInBounds 1 (rawInt ((i:Int)+1))))).IsKeyIter it d (i+1) C.size ep:=
  ⟨_,qc _ c (B7 (tj b _)),(Obj.cls_mapFields ..).trans k,by rw [tj b];simp [rawInt]⟩
 refine ae (kX (ae (Np (s:={ s with heap:=s.heap.update it (Obj.mapFields (·.setIfInBounds 1 (rawInt ((i:Int)+1)))) }) g.typeIs (show wpAny _ _ (pure e.key) _ _ _ from aJ (aJ ⟨_,U,aJ (j _ g (Heap.SameBut.update ..))⟩)))))
theorem Pa (q:Hd A s.heap) (a:s.heap.IsKeyIter it d i I.size J) (j:s.heap.get? d=some od) (h:od.data=.dict I J) (n:I.size<=i)
 (l:∀h',Heap.ExtBut it s.heap h'->Q none { s with heap:=h' }):wpAny (model prog w) A (pyNext (.ref it)) Q E s:=by
 obtain ⟨o,c,m,g⟩:=id a;unfold pyNext;refine ae (s_ (yW (name:=Str.ofString "__next__") a.typeIs B8 (uG B8 a.typeIs Wb ?_ (Wc _))));refine ae (aJ (ae (ae ?_)))
 first | refine ae (FY a.typeIs (aJ (ae (Fq c g ?_)))) | refine ae (F_ a.typeIs (aJ (ae (Fq c g ?_))))
 rw [show Builtin.Dict_items.ownsTuple "dict_keyiterator"=false by decide,if_neg dX];refine (show wpAny _ _ (if (Value.ref d==Value.none)=true then _ else _) _ _ s from ?_);rw [if_neg (show ¬((Value.ref d==Value.none)=true) from dX)];refine ae (aJ (ae (F7 j h ?_)));rw [if_neg (by simp)];refine ae (aJ (ae (Nf j h ?_)));rw [if_neg (by simp)];refine aJ ?_;dsimp only;rw [if_neg (show ¬((i:Int)<0) from Int.not_lt.mpr (yT i)),l_,Array.getElem?_eq_none n];dsimp only;refine ae ?_
 first | refine ae (FY a.typeIs (aJ ?_)) | refine ae (F_ a.typeIs (aJ ?_))
 refine (show wpAny _ _ (setField (.ref it) 0 .none>>=_) _ _ s from ae (qJ c g (by simp) ?_));have k:∀b o,b≠it->s.heap.get? b=some o->(s.heap.update it (Obj.mapFields (·.setIfInBounds 0 Value.none))).get? b=some o:=λb o f e=>(iS _ _ (aK f)).trans e;refine Cv (A:=A.in1) (s:={ s with heap:=s.heap.update it (Obj.mapFields (·.setIfInBounds 0 Value.none)) }) (Hd.keep (A:=A.in1) q λb C u t x e=>k b _ (λz=>?_) e) λe h' p r=>?_
 ·rw [z,c] at e;cases e;cases m
 ·refine ae (gS (Cm (s0:=s) (λb o f z=>p b o (k b o f z)) r l) (λb v z=>?_) λ_ _ z=>z);obtain ⟨rfl,z⟩:=z;exact aJ z
end
section
theorem Inv.freeze (I:Inv X pins σ H s) (c:H a=some u) (f:y_ (some u)) (g:s.heap.get? a=some o):Inv X pins σ (upd H a (.dh o u)) s:=by
 have i:∀b d,H b=some (.tup d)->b≠a:=λb d r z=>by subst z;rw [c] at r;cases r;exact f
 have h:∀b y,H b=some (.own y)->b≠a:=λb y r z=>by subst z;rw [c] at r;cases r;exact f
 exact I.write (h':=s.heap) (t':=s.toks) (x:=a) (e:=a) (by rw [c];exact f) (.inl U) (λb v _ e=>e) ⟨o,g⟩
  ⟨g,(I.aA a u c).fQ (λb v _ e=>e) (λb e=>by rw [ah (h b a e)];exact e) λb d e=>by rw [ah (i b d e)];exact e⟩
theorem Inv.rM (I:Inv X pins σ H s) (h:H a=some (.dh o u)) (h0:∀o u,X.gk a≠some (.dh o u)):Inv X pins σ (upd H a u) s:=by
 have d:∀{b:Addr} {x:Option HO},H b=x->(∀o u,x≠some (.dh o u))->b≠a:=λ{b x} e f z=>by subst z;rw [h] at e;exact f _ _ e.symm
 have k:∀b v,d_ X.prog X.w H s.heap b v->d_ X.prog X.w (upd H a u) s.heap b v:=λb v x=>
  x.fQ (λc v _ e=>e) (λc e=>by rw [ah (d e λ_ _ z=>nomatch z)];exact e) λc l e=>by rw [ah (d e λ_ _ z=>nomatch z)];exact e
 refine ⟨I.ok,I.os,I.bare,⟨I.base.keep,I.base.slot,λb v q n f=>?_,I.base.there,λb l q=>?_,λb i v q=>?_,λb A q=>?_⟩,I.loc,I.cell,?_,λx c e=>?_,λp m=>?_,λb v q=>?_,I.len⟩
 ·have e:=I.base.free b v q n f;rw [ah (d e λ_ _ z=>nomatch z)];exact e
 ·have e:=I.base.fJ b l q;rw [ah (d e λ_ _ z=>nomatch z)];exact e
 ·have e:=I.base.gf b i v q;rw [ah (λz=>by subst z;exact h0 i v q)];exact e
 ·obtain ⟨r,e⟩:=I.base.gB b A q;exact ⟨r,by rw [ah (d e λ_ _ z=>nomatch z)];exact e⟩
 ·rw [ah (d I.free λ_ _ z=>nomatch z)];exact I.free
 ·rw [ah (d (I.cq x c e) λ_ _ z=>nomatch z)];exact I.cq x c e
 ·obtain ⟨t,j,y⟩:=I.pin p m;exact ⟨t,by rw [ah (d j λ_ _ z=>nomatch z)];exact j,y⟩
 ·by_cases g:b=a
  ·subst g;rw [ai] at q;cases q;exact k b u (I.aA b _ h).2
  ·rw [ah g] at q;exact k b v (I.aA b v q)
end
def ϑ (c:Hp) (t:TE):TE:=λd H Q=>t d H λx b=>∃a o u,b a=some (.dh o u)/\(∀o u,c a≠some (.dh o u))/\Q x (upd b a u)
theorem Po (f:PE X e t):PE X e (ϑ X.gk t):=by intro g s l H Q I h;refine ax (f g s l H _ I h) λv n k=>?_;obtain ⟨x,m,b,j,i⟩:=k;obtain ⟨a,o,u,c,d,q⟩:=i;exact ⟨x,_,b.rM c d,j,q⟩
noncomputable def NH (a:Addr) (o:Obj) (kvs:List (List Key×V)):It:=
 ⟨λi H=>H a=some (.dh o (.dT kvs))/\i<kvs.length,λi H x b=>b=H/\∃q k v,x=.ref q/\kvs[i]?=some (k,v)/\H q=some (.tup (k.map kV)),λi H=>H a=some (.dh o (.dT kvs))/\kvs.length<=i⟩
theorem IW {b c:Type} {F:b->c->Prop} {l:List b} {m:List c} (h:Paired F l m) {i:Nat} {x:b} (a:l[i]?=some x):∃y,m[i]?=some y/\F x y:=by
 induction h generalizing i with
 | nil=>simp at a
 | cons r _ d=>
  cases i with
  | zero=>simp at a;subst a;exact ⟨_,U,r⟩
  | succ i=>simpa using d (by simpa using a)
theorem R_ {a b c:Type} {F:a×b->a×c->Prop} {l:List (a×b)} {m:List (a×c)} (k:Paired F l m) (h:∀p q,F p q->p.1=q.1):l.map (·.1)=m.map (·.1):=by
 induction k with
 | nil=>rfl
 | cons r t d=>rw [eN,eN,d,h _ _ r]
theorem PD {X:Cx} {r:List (Addr×Obj)} {u:St} {H:Hp} {s:Shared} {a:Addr} {o:Obj} {kvs:List (List Key×V)} {b:Array DictEntry} {l:Nat} (I:Inv X r u H s) (h:H a=some (.dh o (.dT kvs))) (m:o.data=.dict b l):
 s.heap.get? a=some o/\b.size=kvs.length/\∀(i:Nat) (k:List Key) (v:V),kvs[i]?=some (k,v)->∃(e:DictEntry) (q:Addr),b[i]?=some e/\e.key=Value.ref q/\H q=some (.tup (k.map kV)):=by
 obtain ⟨f,_,_,D,j,C,z,y,g,A,c,d,B⟩:=(show d_ X.prog X.w H s.heap a (.dh o (.dT kvs)) from I.aA a _ h);rw [f] at g;cases g;rw [m] at c;cases c;refine ⟨f,?_,λi k v n=>?_⟩
 ·rw [<-qg,d,az,j8 j]
 ·obtain ⟨x,p,_,t,_⟩:=IW j n;refine ⟨_,x.2.1,by rw [<-B5,d,dA,p];rfl,U,?_⟩;exact t
theorem Y5 {tg:Expr} (a it:Addr) (o:Obj) (kvs:List (List Key×V)) {J:Array DictEntry} {G:Nat} (j:o.data=.dict J G):
 tY P w K tg (NH a o kvs) [it] it (λi h=>h.IsKeyIter it a i J.size G) where
 mem:=by simp
 obj:=λi h c b f=>by
  have e:b=it:=by simpa using f
  subst e;obtain ⟨o,e,_,d⟩:=c;exact ⟨o,e,λv z=>by rw [d] at z;cases z⟩
 keep:=λi h g c k=>c.at λo e=>k it (by simp) o e
 item:=by intro X y F x _ i M s O H E I l c B;subst y F x;obtain ⟨A,C⟩:=B;obtain ⟨D,_,S⟩:=PD I A j;obtain ⟨⟨k,v⟩,L⟩:∃p,kvs[i]?=some p:=⟨kvs[i],by simp [C]⟩;obtain ⟨e,q,W,Y,Z⟩:=S i k v L;obtain ⟨m,n,_,r,t,u⟩:=l it (by simp);refine Qa c D j W λg N sb=>?_;have Q:Inv X M O H { s with heap:=g }:=I.turned (t':=s.toks) (λb o f e=>(sb.2 b f).trans e) m n r t u;rw [Y];exact ⟨_,U,letGo_keyiter (s':={ s with heap:=g }) N ⟨.ref q,H,Q,U,⟨U,q,k,v,U,L,Z⟩,N,λb f=>(l b f).1⟩⟩
 done:=by intro X y F x T i M s O H E I l c B;subst y F x;obtain ⟨A,C⟩:=B;obtain ⟨D,hsz,_⟩:=PD I A j;obtain ⟨m,n,_,r,t,u⟩:=l it (by simp);exact Pa (xu T I) c D j (zev hsz C) λg R=>⟨U,I.turned (t':=s.toks) (λb o f e=>R b o f e) m n r t u⟩
 self:=λ_ _ _ _ _ c h=>wpAny_pyIter_keyiter c h
section
def ö (d:TE):TI:=λe H R=>d e H λx c=>∃a b,x=.ref a/\c a=some (.dT b)/\((b.map (·.1)).Nodup->∀o,R (NH a o b) (upd c a (.dh o (.dT b))))
theorem zBo {d:Expr} {m:TE} (t:PE X d m):PI X tg d (ö m):=by
 intro C s G H R I h;refine ax (t C s G H _ I h) λv c F=>?_;obtain ⟨x,n,i,E,D⟩:=F;obtain ⟨a,g,e,l,q⟩:=D;subst e;cases E;obtain ⟨_,B,M,A,o,L,J,k,r,j,_,u⟩:=(show d_ X.prog X.w n c.heap a (.dT g) from i.aA a _ l);have y:(g.map (·.1)).Nodup:=by rw [R_ A λ_ _ z=>z.1];exact u
 refine P_ B k r j ?_;have f:=i.freeze l trivial k;refine ⟨c.heap.objs.size,[c.heap.objs.size],_,_,_,U,f.kept (t':=c.toks) λb o e=>cZ _ e,Y5 a _ o g j,⟨_,iT _ U,U,U⟩,λb p=>?_,q y o⟩;have e:b=c.heap.objs.size:=by simpa using p
 subst e;exact f.oe (ay _) (f.aA.fresh (ay _))
end
theorem XJ (d:Nat->St->Hp->Prop) (h0:d 0 (qy js l) (upd H D (.lst [])))
 (s:∀i c b,i<=kvs.length->d i c b->b a=some (.dh o (.dT kvs)))
 (B:∀i k v q c b,kvs[i]?=some (k,v)->b q=some (.tup (k.map kV))->d i c b->g (.ref q) c b λh u=>tc h u λok n=>if ok=true then I h n λy r=>∃ys,r D=some (.lst ys)/\ys.length<sizeLine/\d (i+1) h (upd r D (.lst (ys++[y]))) else d (i+1) h n)
 (z:∀c b,d kvs.length c b->Q (.ref D) b):
 xJ js g tc I l Q (NH a o kvs) H D:=by
 refine ⟨λi m l H=>m=kvs.length-i/\i<=kvs.length/\d i l H,⟨kvs.length,by simp,dZ _,h0⟩,?_⟩;rintro i m c b ⟨rfl,j,p⟩
 by_cases f:i<kvs.length
 ·refine .inr ⟨⟨s i c b j p,f⟩,d (i+1),λF t E=>⟨kvs.length-(i+1),rz f,U,f,E⟩,λx t y=>?_⟩;obtain ⟨e,q,k,v,rfl,C,A⟩:=y;subst e;exact B i k v q c _ C A p
 ·have e:i=kvs.length:=rA j f;subst e;exact .inl ⟨⟨s _ c b j p,ay _⟩,z c b p⟩
end L2
namespace TS
open PySem PyProof PyProof.Rows
noncomputable def M0:Bool->Keyed->Array Keyed->Nat->Nat->Nat->StateT SortSt Sem (Option Nat):=sortPriv% PySem.Builtin.gallop
class SK where
 num:Keyed->Int
 ok:Keyed->Prop
 kind:SortKind
noncomputable def N [SK] (p:Keyed):Int:=SK.num p
def eL [SK] (p:Keyed):Prop:=SK.ok p
noncomputable def Kk [SK] (xs:Array Keyed) (i:Nat):Int:=match xs[i]? with
 | some p=>N p
 | none=>0
class gJ [SK] (prog:Program) (w:World) (A:Around) (E:Value->Shared->Prop) (s:Shared):Prop where
 lt:∀{st:SortSt} {p q:Keyed} {Q:Option Bool->SortSt->Prop},kindOf st=SK.kind->eL p->eL q->Q (some (decide (N p<N q))) st->wpS (model prog w) A E s (lt' p q) Q st
section
variable [SK]
theorem u_ (h:xs[i]?=ys[j]?):Kk xs i=Kk ys j:=by unfold Kk;rw [h]
theorem Wy (f:src<xs.size) (c:d<=src) (k:Nat):
 Kk (bubble xs src d) k=if k=src-d then Kk xs src else if src-d<k/\k<=src then Kk xs (k-1) else Kk xs k:=by
 have e:=getElem?_bubble f d c k
 by_cases a:k=src-d
 ·rw [if_pos a] at*;exact u_ e
 rw [if_neg a] at*
 by_cases b:src-d<k/\k<=src
 ·rw [if_pos b] at*;exact u_ e
 ·rw [if_neg b] at*;exact u_ e
theorem CD (b:j<=xs.size) (k:Nat):Kk (mirror xs i j ((j-i) / 2)) k=if i<=k/\k<j then Kk xs (i+j-1-k) else Kk xs k:=by
 have e:=getElem?_mirror_all (i:=i) b k
 by_cases a:i<=k/\k<j
 ·rw [if_pos a] at*;exact u_ e
 ·rw [if_neg a] at*;exact u_ e
theorem JN (b:j<=xs.size) (a:∀k,i<=k->k<j->Kk xs k=Kk xs (j-1)) (k:Nat):Kk (mirror xs i j ((j-i) / 2)) k=Kk xs k:=by
 rw [CD b];split
 ·rename_i h;rw [a k h.1 h.2,a (i+j-1-k) (QX h.2) (by omega)]
 ·rfl
end
noncomputable def eI (left:Bool) (kv x:Int):Bool:=if left then decide (x<kv) else !decide (kv<x)
theorem zF (h:x<=y) (a:eI l kv y=true):eI l kv x=true:=by unfold eI at*;cases l<;>simp_all<;>lia
theorem OO (h:x<=y) (a:eI l kv x=false):eI l kv y=false:=by
 cases e:eI l kv y with
 | false=>rfl
 | true=>rw [zF h e] at a;exact a
section
variable [SK] [gJ prog w A E s] {st:SortSt}
theorem mx (b:a[i]?=some p) (h:Q p st):
 wpS (model prog w) A E s (elem' a i) Q st:=by
 rw [elem'_eq,b];exact aZ h
theorem BZ (a:kindOf st=SK.kind) (b:eL p) (c:eL q)
 (h:Q (some (decide (N p<N q))) st):wpS (model prog w) A E s (lt' p q) Q st:=gJ.lt a b c h
theorem zz (b:kindOf st=SK.kind)
 (e:a[i]?=some p) (c:eL p) (d:eL key) (h:Q (some (eI l (N key) (N p))) st):
 wpS (model prog w) A E s (do
  let x <-elem' a i
  if l=true then lt' x key else do
   let r <-lt' key x
   pure (Option.map (λx=> !x) r)) Q st:=by
 refine bc (mx e ?_);cases l
 ·exact bc (BZ b d c (aZ h))
 ·exact BZ b c d h
theorem qt (c:∀p,p∈a.toList->eL p) (b:i<a.size):∃p,a[i]?=some p/\eL p/\Kk a i=N p:=
 ⟨a[i],qb _ i b,c _ (by simp),by unfold Kk;rw [qb a i b]⟩
abbrev G_:=Option (Option Nat)×Nat×Nat
theorem RP {P:Nat->Bool} {n a hi:Nat} {f:Nat->G_->StateT SortSt Sem (ForInStep G_)}
 (p:∀i j,i<=j->j<n->P j=true->P i=true)
 (u:∀x a hi,hi<=n->∀Q:ForInStep G_->SortSt->Prop,(hi<=a->Q (.done (none,a,hi)) st)->
  (a<hi->P (a+(hi-a) / 2)=true->Q (.yield (none,a+(hi-a) / 2+1,hi)) st)->
  (a<hi->P (a+(hi-a) / 2)=false->Q (.yield (none,a,a+(hi-a) / 2)) st)->
  wpS (model prog w) A E s (f x (none,a,hi)) Q st)
 (z:a<=hi) (v:hi<=n) (r:∀i,i<a->P i=true) (t:∀i,hi<=i->i<n->P i=false):
 wpS (model prog w) A E s (forIn [:n] ((none,a,hi):G_) f)
  (λc d=>d=st/\∃k,c=(none,k,k)/\k<=n/\(∀i,i<k->P i=true)/\(∀i,k<=i->i<n->P i=false)) st:=by
 refine B1
  (I:=λx c d=>d=st/\∃a hi,c=(none,a,hi)/\a<=hi/\hi<=n/\hi-a<=n-x/\
   (∀i,i<a->P i=true)/\(∀i,hi<=i->i<n->P i=false))
  ?_ ?_ ⟨U,a,hi,U,z,v,by lia,r,t⟩
 ·rintro x c d _ D ⟨rfl,a,hi,rfl,q,b,o,g,h⟩;refine u x a hi b _ (λC=>?_) (λB l=>?_) (λB l=>?_)
  ·obtain rfl:a=hi:=by lia
   exact ⟨U,a,U,b,g,h⟩
  ·exact ⟨U,_,hi,U,by lia,b,by omega,λi m=>p i _ (QE m) (by lia) l,h⟩
  ·refine ⟨U,a,_,U,jf,by lia,by omega,g,λi m y=>?_⟩
   cases e:P i with
   | false=>rfl
   | true=>rw [p _ i m y e] at l;exact l
 ·rintro c d ⟨rfl,a,hi,rfl,q,b,o,g,h⟩;obtain rfl:a=hi:=by simp at o;lia
  exact ⟨U,a,U,b,g,h⟩
theorem Cd (D:kindOf st=SK.kind)
 (C:∀p,p∈a.toList->eL p) (F:eL key) (X:b+n<=a.size) (z:∀i j,i<=j->j<n->Kk a (b+i)<=Kk a (b+j)) (Y:hint<n)
 (h:∀k,k<=n->(∀i,i<k->eI l (N key) (Kk a (b+i))=true)->(∀i,k<=i->i<n->eI l (N key) (Kk a (b+i))=false)->Q (some k) st):
 wpS (model prog w) A E s (M0 l key a b n hint) Q st:=by
 refine bc ?_;obtain ⟨p,u,v,y⟩:=qt C (i:=b+hint) (oC X Y);refine zz D u v F ?_;rw [<-y]
 cases e:eI l (N key) (Kk a (b+hint)) with
 | true=>
  dsimp only;rw [if_pos rfl];refine bc (kU (B1
   (I:=λx c m=>m=st/\∃d f,c=(none,d,f)/\d<f/\x<f/\hint+d<n/\eI l (N key) (Kk a (b+(hint+d)))=true)
   (Q:=λc m=>m=st/\∃d f,c=(none,d,f)/\d<f/\hint+d<n/\eI l (N key) (Kk a (b+(hint+d)))=true/\
    (hint+f<n->eI l (N key) (Kk a (b+(hint+f)))=false))
   ?_ ?_ ⟨U,0,1,U,by exact gR,by exact gR,by omega,e⟩) ?_)
  ·rintro x c m _ _ ⟨rfl,d,f,rfl,t,B,q,o⟩;dsimp only
   by_cases g:f>=n-hint
   ·rw [if_pos g];exact aZ ⟨U,d,f,U,t,q,o,λh=>absurd h (by lia)⟩
   ·rw [if_neg g];obtain ⟨p,u,v,y⟩:=qt C (i:=b+(hint+f)) (by lia);refine bc (zz D u v F ?_);rw [<-y]
    cases e':eI l (N key) (Kk a (b+(hint+f))) with
    | true=>exact aZ ⟨U,f,2*f+1,U,by lia,by lia,by lia,e'⟩
    | false=>exact aZ ⟨U,d,f,U,t,q,o,λ_=>e'⟩
  ·rintro c m ⟨rfl,d,f,rfl,t,B,q,o⟩;exact ⟨U,d,f,U,t,q,o,λh=>absurd h (by simp at B;lia)⟩
  ·rintro c m ⟨rfl,d,f,rfl,t,q,o,G⟩;dsimp only;refine bc (kU (RP (P:=λi=>eI l (N key) (Kk a (b+i))) (λi j T W e=>zF (z i j T W) e)
    ?_ (by omega) (by omega) (λi r=>?_) (λi r V=>?_)) ?_)
   ·intro _ d r S Z M O R;dsimp only
    by_cases g:d>=r
    ·rw [if_pos g];exact aZ (M g)
    ·rw [if_neg g];obtain ⟨p,u,v,y⟩:=qt C (i:=b+(d+(r-d) / 2)) (Q5 X S g);refine bc (zz D u v F ?_);rw [<-y]
     cases e':eI l (N key) (Kk a (b+(d+(r-d) / 2))) with
     | true=>exact aZ (O (vp g) e')
     | false=>exact aZ (R (vp g) e')
   ·exact zF (z i (hint+d) (QE r) (Di q)) o
   ·exact OO (z (hint+f) i (by omega) (Di V)) (G (by lia))
   ·rintro c m ⟨rfl,k,rfl,H,J,L⟩;exact aZ (h k H J L)
 | false=>
  dsimp only;rw [if_neg (by decide)];refine bc (kU (B1
   (I:=λx c m=>m=st/\∃d f,c=(none,d,f)/\d<f/\x<f/\d<=hint/\eI l (N key) (Kk a (b+(hint-d)))=false)
   (Q:=λc m=>m=st/\∃d f,c=(none,d,f)/\d<f/\d<=hint/\eI l (N key) (Kk a (b+(hint-d)))=false/\
    (f<=hint->eI l (N key) (Kk a (b+(hint-f)))=true))
   ?_ ?_ ⟨U,0,1,U,by exact gR,by exact gR,by lia,e⟩) ?_)
  ·rintro x c m _ _ ⟨rfl,d,f,rfl,t,B,q,o⟩;dsimp only
   by_cases g:f>=hint+1
   ·rw [if_pos g];exact aZ ⟨U,d,f,U,t,q,o,λh=>absurd h (by exact Nat.not_le_of_lt g)⟩
   ·rw [if_neg g];obtain ⟨p,u,v,y⟩:=qt C (i:=b+(hint-f)) (by lia);refine bc (zz D u v F ?_);rw [<-y]
    cases e':eI l (N key) (Kk a (b+(hint-f))) with
    | true=>exact aZ ⟨U,d,f,U,t,q,o,λ_=>e'⟩
    | false=>exact aZ ⟨U,f,2*f+1,U,by lia,by lia,by lia,e'⟩
  ·rintro c m ⟨rfl,d,f,rfl,t,B,q,o⟩;exact ⟨U,d,f,U,t,q,o,λh=>absurd h (by simp at B;lia)⟩
  ·rintro c m ⟨rfl,d,f,rfl,t,q,o,G⟩;dsimp only;refine bc (kU (RP (P:=λi=>eI l (N key) (Kk a (b+i))) (λi j T W e=>zF (z i j T W) e)
    ?_ (by omega) (by lia) (λi r=>?_) (λi r V=>?_)) ?_)
   ·intro _ d r S Z M O R;dsimp only
    by_cases g:d>=r
    ·rw [if_pos g];exact aZ (M g)
    ·rw [if_neg g];obtain ⟨p,u,v,y⟩:=qt C (i:=b+(d+(r-d) / 2)) (Q5 X S g);refine bc (zz D u v F ?_);rw [<-y]
     cases e':eI l (N key) (Kk a (b+(d+(r-d) / 2))) with
     | true=>exact aZ (O (vp g) e')
     | false=>exact aZ (R (vp g) e')
   ·exact zF (z i (hint-f) (by omega) (XY Y)) (G (by omega))
   ·exact OO (z (hint-d) i (by omega) (Di V)) o
   ·rintro c m ⟨rfl,k,rfl,H,J,L⟩;exact aZ (h k H J L)
end
structure Iv (r:Keyed->Keyed->Prop) (W O X Y:List Keyed):Prop where
 perm:(O++(X++Y)).Perm W
 Kz:O.Pairwise r
 sx:X.Pairwise r
 sy:Y.Pairwise r
 lx:∀p∈O,∀q∈X,r p q
 ly:∀p∈O,∀q∈Y,r p q
def Out (r:Keyed->Keyed->Prop) (W R:List Keyed):Prop:=R.Perm W/\R.Pairwise r
theorem Iv.symm {r W O X Y} (h:Iv r W O X Y):Iv r W O Y X:=
 ⟨((Nn (l₁:=Y) (l₂:=X)).append_left O).trans h.perm,h.Kz,h.sy,h.sx,h.ly,h.lx⟩
theorem Iv.jR {r W O u v Y} (h:Iv r W O (u++v) Y) (e:∀p∈u,∀q∈Y,r p q):Iv r W (O++u) v Y:=by
 have d:=List.pairwise_append.mp h.sx;refine ⟨by simpa [uL] using h.perm,?_,d.2.1,h.sy,?_,?_⟩
 ·exact List.pairwise_append.mpr ⟨h.Kz,d.1,λp c q b=>h.lx p c q (lg _ b)⟩
 ·intro p c q b;rcases jj.mp c with a | a
  ·exact h.lx p a q (kY _ b)
  ·exact d.2.2 p a q b
 ·intro p c q b;rcases jj.mp c with a | a
  ·exact h.ly p a q b
  ·exact e p a q b
theorem Iv.mH {r W O X u v} (h:Iv r W O X (u++v)) (a:∀p∈u,∀q∈X,r p q):Iv r W (O++u) X v:=(h.symm.jR a).symm
theorem Iv.fin {r W O X Y R} (h:Iv r W O X Y) (b:R.Perm (X++Y)) (e:R.Pairwise r):Out r W (O++R):=by
 refine ⟨(b.append_left O).trans h.perm,List.pairwise_append.mpr ⟨h.Kz,e,λp c q d=>?_⟩⟩;rcases jj.mp (b.mem_iff.mp d) with a | a
 ·exact h.lx p c q a
 ·exact h.ly p c q a
section
variable [SK]
def le (p q:Keyed):Prop:=N p<=N q
def ge (p q:Keyed):Prop:=N q<=N p
theorem xZ {a:Array Keyed} {i k:Nat} (h:i+k<=a.size):a.toList.drop i=(a.extract i (i+k)).toList++a.toList.drop (i+k):=by rw [yU,yZ,Nat.add_sub_cancel_left,<-List.drop_drop,FJ]
theorem QI {a:Array Keyed} {i:Nat} {p:Keyed} (h:a[i]?=some p):a.toList.drop i=[p]++a.toList.drop (i+1):=by obtain ⟨b,rfl⟩:=yX.mp h;rw [Ny (by simpa using b)];simp
theorem HV (h:p∈(a.extract i j).toList):∃m,i<=m/\m<j/\m<a.size/\Kk a m=N p:=by
 obtain ⟨m,b,e⟩:=xh h;simp only [qg,Array.size_extract] at b;refine ⟨i+m,jf,QW b,CO b,?_⟩;have:a[i+m]?=some p:=by rw [qb a (i+m) (CO b)];simp only [Array.getElem_toList,Array.getElem_extract] at e;rw [e]
 unfold Kk;rw [this]
theorem qX (h:a[i]?=some p):Kk a i=N p:=by unfold Kk;rw [h]
theorem yl (f:a.toList.Pairwise le) (e:i<=j) (b:j<a.size):Kk a i<=Kk a j:=by
 rcases F9 e with h | rfl
 ·have c:=qb a i (CQ h b);have d:=qb a j b;rw [qX c,qX d];have:=BE.mp f i j (by simp;exact CQ h b) (by simp;exact Di b) h;exact (by simpa using this:le a[i] a[j])
 ·exact kE _
theorem PN (h:p∈a.toList.drop i):∃m,i<=m/\m<a.size/\Kk a m=N p:=by obtain ⟨m,b,e⟩:=xh h;simp only [NA,qg] at b;refine ⟨i+m,jf,vn b,qX ?_⟩;rw [qb a (i+m) (vn b)];simpa using e
theorem II (h:p∈a.toList.take i):∃m,m<i/\m<a.size/\Kk a m=N p:=by obtain ⟨m,b,e⟩:=xh h;simp only [hG,qg] at b;refine ⟨m,IZ b,by lia,qX ?_⟩;rw [qb a m (by lia)];simpa using e
section lo
abbrev Fv (W:List Keyed) (a b e:Array Keyed) (c d:Nat):Prop:=Iv le W e.toList (a.toList.drop c) (b.toList.drop d)
theorem Fv.vP (h:Fv W a b out C ib) {k:Nat} (d:C+k<=a.size) (c:∀p∈(a.extract C (C+k)).toList,∀q∈b.toList.drop ib,le p q):
 Fv W a b (out++a.extract C (C+k)) (C+k) ib:=by
 unfold Fv at*;rw [xZ d] at h;rw [oK];exact h.jR c
theorem Fv.vO (h:Fv W a b out I C) {k:Nat} (d:C+k<=b.size) (c:∀p∈(b.extract C (C+k)).toList,∀q∈a.toList.drop I,le p q):
 Fv W a b (out++b.extract C (C+k)) I (C+k):=by
 unfold Fv at*;rw [xZ d] at h;rw [oK];exact h.mH c
theorem Fv.nA (h:Fv W a b out C ib) {p:Keyed} (e:a[C]?=some p) (c:∀q∈b.toList.drop ib,le p q):Fv W a b (out.push p) (C+1) ib:=by unfold Fv at*;rw [QI e] at h;rw [Fz];exact h.jR (by simpa using c)
theorem Fv.n9 (h:Fv W a b out C I) {p:Keyed} (e:b[I]?=some p) (c:∀q∈a.toList.drop C,le p q):Fv W a b (out.push p) C (I+1):=by unfold Fv at*;rw [QI e] at h;rw [Fz];exact h.mH (by simpa using c)
theorem Ct (a:Array Keyed) (i:Nat):(a.extract i a.size).toList=a.toList.drop i:=by rw [yU,yZ];exact Nq (by simp)
theorem Fv.iN (h:Fv W a b out C I) (c:C=a.size\/I=b.size):Out le W (out++a.extract C a.size++b.extract I b.size).toList:=by
 rw [oK,oK,Ct,Ct,uL];refine h.fin (List.Perm.refl _) ?_;rcases c with rfl | rfl
 ·rw [List.drop_of_length_le (by simp)];exact h.sy
 ·rw [show b.toList.drop b.size=[] from List.drop_of_length_le (by simp),lZ];exact h.sx
theorem Fv.j6 (h:Fv W a b out C I) (c:∀p∈b.toList.drop I,∀q∈a.toList.drop C,le p q):Out le W (out++b.extract I b.size++a.extract C a.size).toList:=by rw [oK,oK,Ct,Ct,uL];exact h.fin Nn (List.pairwise_append.mpr ⟨h.sy,h.sx,c⟩)
end lo
section hi
abbrev Bv (W:List Keyed) (a b e:Array Keyed) (c d:Nat):Prop:=Iv ge W e.toList (a.toList.take c).reverse (b.toList.take d).reverse
theorem RK {a:Array Keyed} {i n:Nat} (h:i<=n):(a.toList.take n).reverse=(a.extract i n).reverse.toList++(a.toList.take i).reverse:=by
 rw [Nj,yU,yZ,<-List.reverse_append];congr 1;rw [<-List.drop_take,]
 conv=>lhs;rw [<-FJ i (a.toList.take n)]
 rw [List.take_take,Nat.min_eq_left h]
theorem Rc {a:Array Keyed} {i:Nat} {p:Keyed} (h:a[i]?=some p):(a.toList.take (i+1)).reverse=[p]++(a.toList.take i).reverse:=by obtain ⟨b,rfl⟩:=yX.mp h;rw [Wg (by simpa using b),List.reverse_append];simp
theorem Bv.vP (h:Bv W a b out na nb) {i:Nat} (d:i<=na) (c:∀p∈(a.extract i na).toList,∀q∈b.toList.take nb,ge p q):
 Bv W a b (out++(a.extract i na).reverse) i nb:=by
 unfold Bv at*;rw [RK d] at h;rw [oK];exact h.jR (by simpa using c)
theorem Bv.vO (h:Bv W a b out na nb) {i:Nat} (d:i<=nb) (c:∀p∈(b.extract i nb).toList,∀q∈a.toList.take na,ge p q):
 Bv W a b (out++(b.extract i nb).reverse) na i:=by
 unfold Bv at*;rw [RK d] at h;rw [oK];exact h.mH (by simpa using c)
theorem Bv.nA (h:Bv W a b out (na+1) nb) {p:Keyed} (e:a[na]?=some p) (c:∀q∈b.toList.take nb,ge p q):Bv W a b (out.push p) na nb:=by unfold Bv at*;rw [Rc e] at h;rw [Fz];exact h.jR (by simpa using c)
theorem Bv.n9 (h:Bv W a b out na (nb+1)) {p:Keyed} (e:b[nb]?=some p) (c:∀q∈a.toList.take na,ge p q):Bv W a b (out.push p) na nb:=by unfold Bv at*;rw [Rc e] at h;rw [Fz];exact h.mH (by simpa using c)
theorem CI (a:Array Keyed) (i:Nat):(a.extract 0 i).toList=a.toList.take i:=by rw [yU,yZ];simp
theorem Out.rev (h:Out ge W R):Out le W R.reverse:=⟨(Nu R).trans h.1,List.pairwise_reverse.mpr h.2⟩
theorem Bv.iN (h:Bv W a b out na nb) (c:na=0\/nb=0):Out le W (a.extract 0 na++b.extract 0 nb++out.reverse).toList:=by
 have:(a.extract 0 na++b.extract 0 nb++out.reverse).toList=(out.toList++((b.toList.take nb).reverse++(a.toList.take na).reverse)).reverse:=by rw [oK,oK,CI,CI,Nj];simp
 rw [this];refine (h.fin Nn ?_).rev;rcases c with rfl | rfl
 ·simpa using h.sy
 ·simpa using h.sx
theorem Bv.j6 (h:Bv W a b out na nb) (c:∀p∈a.toList.take na,∀q∈b.toList.take nb,ge p q):Out le W (b.extract 0 nb++a.extract 0 na++out.reverse).toList:=by
 have:(b.extract 0 nb++a.extract 0 na++out.reverse).toList=(out.toList++((a.toList.take na).reverse++(b.toList.take nb).reverse)).reverse:=by rw [oK,oK,CI,CI,Nj];simp
 rw [this];exact (h.fin (List.Perm.refl _) (List.pairwise_append.mpr ⟨h.sx,h.sy,by simpa using c⟩)).rev
end hi
end
noncomputable def mlo:Array Keyed->Array Keyed->StateT SortSt Sem (Array Keyed):=sortPriv% PySem.Builtin.mergeLo
noncomputable def mhi:Array Keyed->Array Keyed->StateT SortSt Sem (Array Keyed):=sortPriv% PySem.Builtin.mergeHi
structure Sm (st cQ:SortSt):Prop where
 kind:kindOf cQ=kindOf st
 arr:arrOf cQ=arrOf st
 pend:pendingOf cQ=pendingOf st
 fail:failedOf cQ=failedOf st
theorem Sm.refl (st:SortSt):Sm st st:=⟨U,U,U,U⟩
noncomputable def smg:Nat->StateT SortSt Sem Unit:=sortPriv% PySem.Builtin.setMinGallop
section
variable [SK] [gJ prog w A E s] {st pq:SortSt}
theorem uZ (a:c) (h:wpS (model prog w) A E s m Q st):
 wpS (model prog w) A E s (@ite _ c inst m n) Q st:=by rw [if_pos a];exact h
theorem uT (a:¬c) (h:wpS (model prog w) A E s n Q st):
 wpS (model prog w) A E s (@ite _ c inst m n) Q st:=by rw [if_neg a];exact h
theorem Ce (a:Sm pq st) (h:∀b,Sm pq b->Q () b):wpS (model prog w) A E s (smg g) Q st:=
 Br (h _ ⟨a.kind,a.arr,a.pend,a.fail⟩)
theorem Ss (j:kindOf st=SK.kind)
 (f:∀p,p∈a.toList->eL p) (o:a.toList.Pairwise le) (n:eL key) (g:i<a.size)
 (h:∀k,i+k<=a.size->(∀m,i<=m->m<i+k->eI l (N key) (Kk a m)=true)->(∀m,i+k<=m->m<a.size->eI l (N key) (Kk a m)=false)->Q (some k) st):
 wpS (model prog w) A E s (M0 l key a i (a.size-i) 0) Q st:=by
 refine Cd j f n (by lia) (λx y q r=>yl o (vo q) (vn r)) (X6 g) λk t d e=>?_;refine h k (by lia) (λm b c=>?_) (λm b c=>?_)
 ·have:=d (m-i) (JF c b);rwa [show i+(m-i)=m by exact mz b] at this
 ·have:=e (m-i) (CP b) (by omega);rwa [show i+(m-i)=m by exact IM b] at this
def SQ {a:Type} (Q I:a->SortSt->Prop):ForInStep a->SortSt->Prop
 | .done c,st=>Q c st
 | .yield c,st=>I c st
theorem zD (I:Nat->β->SortSt->Prop)
 (g:∀i c st,i<n->I i c st->wpS (model prog w) A E s (f i c) (SQ Q (I (i+1))) st)
 (d:∀c st,I n c st->Q c st) (h:I 0 c st):wpS (model prog w) A E s (forIn [:n] c f) Q st:=
 B1 I (λi c st _ e b=>kU (g i c st e b) λr j a=>by cases r<;>exact a)
  (λc st a=>d c st (by rwa [Nat.max_eq_right (dZ _)] at a)) h
theorem VU (h:eI true k x=true):x<k:=by simpa [eI] using h
theorem MS (h:eI true k x=false):k<=x:=by simpa [eI] using h
theorem VT (h:eI false k x=true):x<=k:=by simpa [eI] using h
theorem by4 (h:eI false k x=false):k<x:=by simpa [eI] using h
theorem nk (a:c->wpS (model prog w) A E s m Q st)
 (b:¬c->wpS (model prog w) A E s n Q st):wpS (model prog w) A E s (@ite _ c inst m n) Q st:=by
 by_cases h:c
 ·exact uZ h (a h)
 ·exact uT h (b h)
theorem jD {a:Type} {x y:Nat} {d:Decidable ((x==y)=true)} {m n:StateT SortSt Sem a} {Q:a->SortSt->Prop} (b:x=y->wpS (model prog w) A E s m Q st)
 (c:¬x=y->wpS (model prog w) A E s n Q st):wpS (model prog w) A E s (@ite _ ((x==y)=true) d m n) Q st:=
 nk (λh=>b (beq_iff_eq.mp h)) λh=>c λe=>h (beq_iff_eq.mpr e)
theorem qu (d:∀p,p∈a.toList->eL p) (g:i<a.size)
 (h:∀p,a[i]?=some p->eL p->Kk a i=N p->wpS (model prog w) A E s (f p) Q st):wpS (model prog w) A E s (elem' a i>>=f) Q st:=by
 obtain ⟨p,e,b,c⟩:=qt d g;exact bc (mx e (h p e b c))
theorem Pz (c:kindOf st=SK.kind) (d:eL y) (e:eL z)
 (a:N y<=N z->wpS (model prog w) A E s (f (some true)) Q st) (b:N z<=N y->wpS (model prog w) A E s (f (some false)) Q st):
 wpS (model prog w) A E s (lt' y z>>=f) Q st:=by
 refine bc (BZ c d e ?_)
 by_cases h:N y<N z
 ·rw [eO h];exact a (fq h)
 ·rw [eE h];exact b (Int.not_lt.mp h)
theorem vc (f:b.toList.Pairwise le) (h:N p<=Kk b j) (q:Keyed) (a:q∈b.toList.drop j):le p q:=by obtain ⟨m,c,d,e⟩:=PN a;unfold le;rw [<-e];exact nc h (yl f c d)
theorem Qe (n:b.toList.Pairwise le) (e:Kk b j=N y) (h:∀m,i<=m->m<i+k->Kk a m<=N y)
 (p:Keyed) (c:p∈(a.extract i (i+k)).toList) (q:Keyed) (d:q∈b.toList.drop j):le p q:=by
 obtain ⟨m,f,g,_,l⟩:=HV c;exact vc n (by rw [e,<-l];exact h m f g) q d
section
def LQ (F:R->SortSt->Prop) (L I:C->J->T3->SortSt->Prop) (c:ForInStep (Option R×C×J×T3×γ)) (st:SortSt):Prop:=
 ForInStep.casesOn (motive:=λ_=>Prop) c (λc=>(∃r,c.1=some r/\F r st)\/∃x y z e,c=(none,x,y,z,e)/\L x y z st)
  λc=>∃x y z e,c=(none,x,y,z,e)/\I x y z st
theorem LQ.ret (h:F r st):LQ F L I (.done (some r,g)) st:=.inl ⟨r,U,h⟩
theorem LQ.brk {x y z} (h:L x y z st):LQ F L I (.done (none,x,y,z,e)) st:=.inr ⟨x,y,z,e,U,h⟩
theorem LQ.go {x y z} (h:I x y z st):LQ F L I (.yield (none,x,y,z,e)) st:=⟨x,y,z,e,U,h⟩
theorem xU {n:Nat} {f:Nat->Option R×C×J×T3×γ->StateT SortSt Sem (ForInStep (Option R×C×J×T3×γ))}
 {k:Option R×C×J×T3×γ->StateT SortSt Sem α} {Q:α->SortSt->Prop} (I:Nat->C->J->T3->SortSt->Prop) (L:C->J->T3->SortSt->Prop)
 (m:∀i x y z e st,I i x y z st->wpS (model prog w) A E s (f i (none,x,y,z,e)) (LQ F L (I (i+1))) st)
 (l:∀x y z st,I n x y z st->L x y z st) {x y z e} (h0:I 0 x y z st) (b:∀r g a,F r a->wpS (model prog w) A E s (k (some r,g)) Q a)
 (j:∀x y z e a,L x y z a->wpS (model prog w) A E s (k (none,x,y,z,e)) Q a):wpS (model prog w) A E s (forIn [:n] (none,x,y,z,e) f>>=k) Q st:=by
 refine bc (kU (zD (Q:=λc st=>LQ F L L (.done c) st) (λi c st=>∃x y z e,c=(none,x,y,z,e)/\I i x y z st) ?_ ?_ ⟨x,y,z,e,U,h0⟩) ?_)
 ·rintro i c st _ ⟨x,y,z,e,rfl,h⟩;exact kU (m i x y z e st h) λc a h=>by cases c<;>exact h
 ·rintro c st ⟨x,y,z,e,rfl,h⟩;exact .inr ⟨x,y,z,e,U,l x y z st h⟩
 ·rintro ⟨c,d⟩ st (⟨r,rfl,h⟩ | ⟨x,y,z,e,q,h⟩)
  ·exact b r d st h
  ·exact q▸j x y z e st h
end
theorem zC8 {Q:Array Keyed->SortSt->Prop} {W:List Keyed} (hW:W=a.toList++b.toList) (S:kindOf st=SK.kind)
 (R:∀p,p∈a.toList->eL p) (G:∀p,p∈b.toList->eL p) (sa:a.toList.Pairwise le) (t:b.toList.Pairwise le)
 (na:0<a.size) (nb:0<b.size) (h0:Kk b 0<=Kk a 0) (hl:Kk b (b.size-1)<=Kk a (a.size-1))
 (h:∀r cQ,Sm st cQ->Out le W r.toList->Q r cQ):wpS (model prog w) A E s (mlo a b) Q st:=by
 have H:∀{i j:Nat},i+1=a.size->∀p∈b.toList.drop j,∀q∈a.toList.drop i,le p q:=by intro i j hi p hp;obtain ⟨x,_,x2,x3⟩:=PN hp;refine vc sa ?_;rw [<-x3,show i=a.size-1 by lia];exact nc (yl t (JA x2) (Q8 nb)) hl
 let J:Array Keyed->Nat->Nat->SortSt->Prop:=λf d c cQ=>Fv W a b f d c/\d+1<a.size/\c<b.size/\Sm st cQ
 let F:Array Keyed->SortSt->Prop:=λr cQ=>Out le W r.toList/\Sm st cQ
 refine bc (uF (qL ⟨U,qu G nb λy0 e0 _ k0=>?_⟩));have gp:Fv W a b #[y0] 0 1:=by have:Fv W a b #[] 0 0:=⟨by simp [hW],List.Pairwise.nil,sa,t,by simp,by simp⟩;exact this.n9 e0 (vc sa (k0▸h0))
 refine jD (λc1=>aZ (h _ _ (Sm.refl st) (gp.iN (.inr c1)))) λc1=>jD (λM=>aZ (h _ _ (Sm.refl st) (gp.j6 (H M)))) λM=>bc (qa
  (xU (F:=F) (λx f d c cQ=>J f d c cQ/\x<=d+c) (λ_ _ _ _=>False) ?outer
   (λd c f cQ q=>by obtain ⟨⟨_,j2,j3,_⟩,hx⟩:=q;lia) ⟨⟨gp,xV na M,by lia,Sm.refl st⟩,dZ _⟩ (λr _ cQ o=>aZ (h r cQ o.2 o.1)) λ_ _ _ _ _ z=>z.elim))
 intro x _ p0 q0 mg cQ hJ;have hx:=hJ.2
 let L:Array Keyed->Nat->Nat->SortSt->Prop:=λf d c cQ=>J f d c cQ/\x+1<=d+c
 refine xU (F:=F) (λx f d c cQ=>J f d c cQ/\p0+q0+x<=d+c) L ?one
  (λd c f cQ q=>⟨q.1,by have:=q.2;omega⟩) ⟨hJ.1,ay _⟩ (λr _ cQ o=>aZ (LQ.ret o)) ?two
 case one=>
  intro x' f d c e cQ q;refine qu G q.1.2.2.1 λx4 y X Z=>qu R (bf q.1.2.1) λz B Y kz=>Pz (q.1.2.2.2.kind.trans S) X Y
   (λT=>bc (mx y ?_)) (λT=>bc (mx B ?_))
  ·have D:=q.1.1.n9 y (vc sa (kz.symm▸T));refine jD (λg=>aZ (LQ.ret ⟨D.iN (.inr g),q.1.2.2.2⟩)) λg=>?_;have m:J (f.push x4) d (c+1) cQ:=⟨D,q.1.2.1,by have:=q.1.2.2.1;exact xV q.1.2.2.1 g,q.1.2.2.2⟩;have:=q.2;exact nk (λ_=>aZ (LQ.brk ⟨m,by lia⟩)) λ_=>aZ (LQ.go ⟨m,by lia⟩)
  ·have D:=q.1.1.nA B (vc t (Z.symm▸T));refine jD (λg=>aZ (LQ.ret ⟨D.j6 (H g),q.1.2.2.2⟩)) λg=>?_;have m:J (f.push z) (d+1) c cQ:=⟨D,by have:=q.1.2.1;exact xV q.1.2.1 g,q.1.2.2.1,q.1.2.2.2⟩;have:=q.2;exact nk (λ_=>aZ (LQ.brk ⟨m,by lia⟩)) λ_=>aZ (LQ.go ⟨m,by lia⟩)
 case two=>
  intro f d c e fU q;refine bc (uF (qL ⟨U,xU (F:=F) (λ_=>L) L ?_
   (λ_ _ _ _ q=>q) q (λr _ cQ o=>aZ (LQ.ret o)) λf d c e mJ q=>bc (Ce q.1.2.2.2 λcH l=>aZ (LQ.go ⟨⟨q.1.1,q.1.2.1,q.1.2.2.1,l⟩,q.2⟩))⟩))
  intro x' f d c e mJ q
  extract_lets-underBinder+onlyGivenNames _ rQ _ ia1 _ ib1 _ mg1 _ ac1 bc1 jp
  have pV:∀(u:Unit) (x5:Nat),wpS (model prog w) A E s (jp u x5) (LQ F L L) mJ:=by
   intro _ x5;refine bc (Ce q.1.2.2.2 λcH l=>qu G q.1.2.2.1 λx4 y X Z=>bc (Ss (l.kind.trans S) R sa X (i:=d) (bf q.1.2.1) λk g1 g2 g3=>?_));dsimp-zeta only
   extract_lets-underBinder+onlyGivenNames ac2 wk
   have V:=q.1.1.vP g1 (Qe t Z λx1 m1 m2=>VT (g2 x1 m1 m2));have j_:∀(u:Unit) (f:Array Keyed) (i:Nat),Fv W a b f i c->i+1<a.size->d<=i->N x4<=Kk a i->wpS (model prog w) A E s (wk u f i) (LQ F L L) cH:=by
    intro _ f i f1 f2 f3 f4;refine bc (mx y ?_);have O:=f1.n9 y (vc sa f4);refine jD (λg=>aZ (LQ.ret ⟨O.iN (.inr g),l⟩)) λg=>qu R (bf f2) λz B Y kz=>
     bc (Ss (l.kind.trans S) G t Y (i:=c+1) (by have:=q.1.2.2.1;exact xV q.1.2.2.1 g) λI M6 M5 M4=>?_)
    dsimp-zeta only
    extract_lets-underBinder+onlyGivenNames bc2 Lb
    have jg:=O.vO M6 (Qe sa kz λx1 m1 m2=>fq (VU (M5 x1 m1 m2)));have pU:∀(u:Unit) (f:Array Keyed) (j:Nat),Fv W a b f i j->j<b.size->c+1<=j->N z<=Kk b j->wpS (model prog w) A E s (Lb u f j) (LQ F L L) cH:=by intro _ f j d1 d2 d3 d4;refine bc (mx B ?_);have d5:=d1.nA B (vc t d4);refine jD (λg=>aZ (LQ.ret ⟨d5.j6 (H g),l⟩)) λg=>?_;have m:L (f.push z) (i+1) j cH:=⟨⟨d5,xV f2 g,d2,l⟩,by have:=q.2;lia⟩;exact nk (λ_=>aZ (LQ.brk m)) λ_=>aZ (LQ.go m)
    have C:=M4 (c+1+I) (ay _);refine nk (λv=>jD (λn=>aZ (LQ.ret ⟨jg.iN (.inr n),l⟩)) λn=>?_) λv=>?_
    ·have:c+1+I<b.size:=zR M6 n;exact pU () _ (c+1+I) jg this (oq ..) (MS (C this))
    ·obtain rfl:I=0:=Nat.eq_zero_of_not_pos v;have:c+1<b.size:=by have:=q.1.2.2.1;exact xV q.1.2.2.1 g
     exact pU () _ (c+1) O this (ay _) (MS (C this))
   have C:=g3 (d+k) (ay _);refine nk (λv=>jD (λn=>aZ (LQ.ret ⟨V.j6 (H n),l⟩)) λn=>jD (λc6=>aZ (LQ.ret ⟨V.iN (.inl c6),l⟩)) λc6=>?_) λv=>?_
   ·have:d+k+1<a.size:=by lia
    exact j_ () _ (d+k) V this (oq ..) (fq (by4 (C (Nv this))))
   ·obtain rfl:k=0:=Nat.eq_zero_of_not_pos v;exact j_ () _ d q.1.1 q.1.2.1 (ay _) (fq (by4 (C (Nv q.1.2.1))))
  exact nk (λ_=>pV () _) λ_=>pV () _
end
section
variable [SK] [gJ prog w A E s] {st pq:SortSt}
theorem Su (g:kindOf st=SK.kind)
 (f:∀p,p∈a.toList->eL p) (j:a.toList.Pairwise le) (i:eL key) (r:n<=a.size) (h0:0<n)
 (h:∀k,k<=n->(∀m,m<k->eI l (N key) (Kk a m)=true)->(∀m,k<=m->m<n->eI l (N key) (Kk a m)=false)->Q (some k) st):
 wpS (model prog w) A E s (M0 l key a 0 n (n-1)) Q st:=by
 refine Cd g f i (by lia) (λx y o t=>yl j (vo o) (by lia)) (Q8 h0) λk c d e=>?_;refine h k c (λm b=>?_) (λm b q=>?_)
 ·have:=d m b;rwa [Fm] at this
 ·have:=e m b q;rwa [Fm] at this
theorem z9 (f:b.toList.Pairwise le) (a:j<b.size) (h:Kk b j<=N p) (q:Keyed) (c:q∈b.toList.take (j+1)):ge p q:=by obtain ⟨m,d,_,e⟩:=II c;unfold ge;rw [<-e];exact nc (yl f (uH d) a) h
theorem Qs (o:b.toList.Pairwise le) (c:j<b.size) (e:Kk b j=N y) (h:∀m,i<=m->m<k->N y<=Kk a m)
 (p:Keyed) (d:p∈(a.extract i k).toList) (q:Keyed) (f:q∈b.toList.take (j+1)):ge p q:=by
 obtain ⟨m,g,l,_,n⟩:=HV d;exact z9 o c (by rw [e,<-n];exact h m g l) q f
theorem PH (h:∀m,m<j->Kk b m<=N p) (q:Keyed) (a:q∈b.toList.take j):ge p q:=by obtain ⟨m,c,_,d⟩:=II a;unfold ge;rw [<-d];exact h m c
theorem zC9 (hW:W=a.toList++b.toList) (hk:kindOf st=SK.kind)
 (M:∀p,p∈a.toList->eL p) (hb:∀p,p∈b.toList->eL p) (sa:a.toList.Pairwise le) (C:b.toList.Pairwise le)
 (pa:0<a.size) (R:0<b.size) (h0:Kk b 0<=Kk a 0) (hl:Kk b (b.size-1)<=Kk a (a.size-1))
 (h:∀r cQ,Sm st cQ->Out le W r.toList->Q r cQ):wpS (model prog w) A E s (mhi a b) Q st:=by
 have O:∀{i j:Nat},j=1->∀p∈a.toList.take i,∀q∈b.toList.take j,ge p q:=by rintro i _ rfl p hp;obtain ⟨x,_,x2,x3⟩:=II hp;exact z9 C R (x3▸nc h0 (yl sa (dZ _) x2))
 let J:Array Keyed->Nat->Nat->SortSt->Prop:=λc na nb cQ=>Bv W a b c na nb/\(0<na/\na<=a.size)/\(1<nb/\nb<=b.size)/\Sm st cQ
 let F:Array Keyed->SortSt->Prop:=λr cQ=>Out le W r.toList/\Sm st cQ
 refine bc (uF (qL ⟨U,qu M (Nat.sub_lt pa Nat.zero_lt_one) λy0 e0 _ k0=>?_⟩));have gp:Bv W a b #[y0] (a.size-1) b.size:=by
  have:Bv W a b #[] (a.size-1+1) (b.size-1+1):=by rw [xc pa,xc R];unfold Bv;rw [Nq (by simp),Nq (by simp)];refine ⟨?_,List.Pairwise.nil,List.pairwise_reverse.mpr sa,List.pairwise_reverse.mpr C,by simp,by simp⟩;rw [hW];exact (Nu _).append (Nu _)
  exact xc R▸this.nA e0 (z9 C (Nat.sub_lt R Nat.zero_lt_one) (k0▸hl))
 refine jD (λS=>aZ (h _ _ (Sm.refl st) (gp.iN (.inl S)))) λS=>jD (λc2=>aZ (h _ _ (Sm.refl st) (gp.j6 (O c2)))) λc2=>bc (qa
  (xU (F:=F) (λx na nb c cQ=>J c na nb cQ/\na+nb+x<=a.size+b.size) (λ_ _ _ _=>False) ?outer
   (λna nb c cQ q=>by have:=q.1.2.1.1;have:=q.2;lia) ⟨⟨gp,⟨FC S,ZGo ..⟩,⟨by lia,ay _⟩,Sm.refl st⟩,yV (ZGo ..) _⟩
   (λr _ cQ B=>aZ (h r cQ B.2 B.1)) λ_ _ _ _ _ z=>z.elim))
 intro x p0 q0 _ mg cQ hJ;have hx:=hJ.2
 let L:Nat->Nat->Array Keyed->SortSt->Prop:=λna nb c cQ=>J c na nb cQ/\na+nb+(x+1)<=a.size+b.size
 refine xU (F:=F) (λx' na nb c cQ=>J c na nb cQ/\na+nb+x'<=p0+q0) L ?one
  (λna nb c cQ q=>⟨q.1,by have:=q.2;lia⟩) ⟨hJ.1,ay _⟩ (λr _ cQ B=>aZ (LQ.ret B)) ?two
 case one=>
  intro x' na nb c e cQ q;have T:na-1+1=na:=xc q.1.2.1.1;have o:=xc (bf q.1.2.2.1.1);have la:na-1<a.size:=cP (qI T) q.1.2.1.2;have l:nb-1<b.size:=cP (qI o) q.1.2.2.1.2;have q2:=q.2;refine qu hb l λy G iy ky=>qu M la λz H iz kz=>Pz (q.1.2.2.2.kind.trans hk) iy iz
   (λwB=>bc (mx H ?_)) (λwB=>bc (mx G ?_))
  ·have I:Bv W a b (c.push z) (na-1) nb:=Bv.nA (T.symm▸q.1.1) H (o▸z9 C l (ky.symm▸wB));refine jD (λd=>aZ (LQ.ret ⟨I.iN (.inl d),q.1.2.2.2⟩)) λd=>?_;have g:J (c.push z) (na-1) nb cQ:=⟨I,⟨FC d,bf la⟩,q.1.2.2⟩;exact nk (λ_=>aZ (LQ.brk ⟨g,by lia⟩)) λ_=>aZ (LQ.go ⟨g,by lia⟩)
  ·have I:Bv W a b (c.push y) na (nb-1):=Bv.n9 (o.symm▸q.1.1) G (T▸z9 sa la (kz.symm▸wB));refine jD (λd=>aZ (LQ.ret ⟨I.j6 (O d),q.1.2.2.2⟩)) λd=>?_;have g:J (c.push y) na (nb-1) cQ:=⟨I,q.1.2.1,⟨by have:=q.1.2.2.1.1;exact Q7 q.1.2.2.1.1 d,bf l⟩,q.1.2.2.2⟩;exact nk (λ_=>aZ (LQ.brk ⟨g,by lia⟩)) λ_=>aZ (LQ.go ⟨g,by lia⟩)
 case two=>
  intro na nb c e fU q;refine bc (uF (qL ⟨U,xU (F:=F) (λ_=>L) L ?_
   (λ_ _ _ _ q=>q) q (λr _ cQ B=>aZ (LQ.ret B)) λna nb c e mJ q=>bc (Ce q.1.2.2.2 λcH f=>aZ (LQ.go ⟨⟨q.1.1,q.1.2.1,q.1.2.2.1,f⟩,q.2⟩))⟩))
  intro x' na nb c e mJ q;have o:=xc (bf q.1.2.2.1.1);have l:nb-1<b.size:=cP (qI o) q.1.2.2.1.2;have Mf:=q.1.2.2.1.1;have q2:=q.2
  extract_lets-underBinder+onlyGivenNames _ na1 _ nb1 _ rQ _ mg1 _ ac1 bc1 jp
  have pV:∀(u:Unit) (x1:Nat),wpS (model prog w) A E s (jp u x1) (LQ F L L) mJ:=by
   intro _ x1;refine bc (Ce q.1.2.2.2 λcH f=>qu hb l λy G iy ky=>bc (Su (f.kind.trans hk) M sa iy (n:=na) q.1.2.1.2 q.1.2.1.1 λk Y g2 g3=>?_));dsimp-zeta only
   extract_lets-underBinder+onlyGivenNames kk ac2 wk
   have A6:=q.1.1.vP Y (o▸Qs C l ky λm t m2=>fq (by4 (g3 m t m2)));have j_:∀(u:Unit) (i:Nat) (c:Array Keyed),Bv W a b c i nb->0<i->i<=na->(∀m,m<i->Kk a m<=N y)->wpS (model prog w) A E s (wk u i c) (LQ F L L) cH:=by
    intro _ i c f1 f2 f3 f4;have V:i-1+1=i:=xc f2;have li:i-1<a.size:=cP (qI V) (cP f3 q.1.2.1.2);refine bc (mx G ?_);have X:Bv W a b (c.push y) i (nb-1):=Bv.n9 (o.symm▸f1) G (PH f4);refine jD (λd=>aZ (LQ.ret ⟨X.j6 (O d),f⟩)) λd=>qu M li λz H iz kz=>
     bc (Su (f.kind.trans hk) hb C iz (n:=nb-1) (bf l) (Nat.sub_pos_of_lt Mf) λk' Z M5 M4=>?_)
    dsimp-zeta only
    extract_lets-underBinder+onlyGivenNames KZ bc2 Lb
    have jg:=X.vO Z (V▸Qs sa li kz λm t m2=>MS (M4 m t m2));have pU:∀(u:Unit) (j:Nat) (c:Array Keyed),Bv W a b c i j->1<j->j<=nb-1->(∀m,m<j->Kk b m<=N z)->wpS (model prog w) A E s (Lb u j c) (LQ F L L) cH:=by intro _ j c d1 d2 d3 d4;refine bc (mx H ?_);have d5:Bv W a b (c.push z) (i-1) j:=Bv.nA (V.symm▸d1) H (PH d4);refine jD (λd=>aZ (LQ.ret ⟨d5.iN (.inl d),f⟩)) λd=>?_;have g:L (i-1) j (c.push z) cH:=⟨⟨d5,⟨FC d,bf li⟩,⟨d2,cP d3 (bf l)⟩,f⟩,by lia⟩;exact nk (λ_=>aZ (LQ.brk g)) λ_=>aZ (LQ.go g)
    have hz:∀m,m<k'->Kk b m<=N z:=λm t=>fq (VU (M5 m t));refine nk (λD=>jD (λv=>aZ (LQ.ret ⟨jg.j6 (O v),f⟩)) λv=>jD (λc6=>aZ (LQ.ret ⟨jg.iN (.inr c6),f⟩)) λc6=>?_) λD=>?_
    ·exact pU () k' _ jg (by lia) Z hz
    ·obtain rfl:k'=nb-1:=QD Z D;exact pU () (nb-1) _ X (Q7 q.1.2.2.1.1 d) (ay _) hz
   have hy:∀m,m<k->Kk a m<=N y:=λm t=>VT (g2 m t);refine nk (λD=>jD (λv=>aZ (LQ.ret ⟨A6.iN (.inl v),f⟩)) λv=>?_) λD=>?_
   ·exact j_ () k _ A6 (FC v) Y hy
   ·obtain rfl:k=na:=QD Y D;exact j_ () k _ q.1.1 q.1.2.1.1 (ay _) hy
  exact nk (λ_=>pV () _) λ_=>pV () _
end
section
variable [SK]
def eY (xs:Array Keyed) (a b:Nat):Prop:=∀i j,a<=i->i<=j->j<b->Kk xs i<=Kk xs j
theorem Ro (sa:Nat):∀(l:List Keyed) (n:Nat) (xs:Array Keyed),sa+n+l.length<=xs.size->
 ((l.zipIdx n).foldl (λa (b:Keyed×Nat)=>a.setIfInBounds (sa+b.2) b.1) xs).toList
   =xs.toList.take (sa+n)++(l++xs.toList.drop (sa+n+l.length))
 | [],n,xs,_=>by simp
 | p::t,n,xs,h=>by
  simp only [ji] at h;rw [List.zipIdx_cons,List.foldl_cons,Ro sa t (n+1) _ (by simp;lia)];simp only [Array.toList_setIfInBounds];rw [show sa+(n+1)=sa+n+1 by exact Eq.refl (sa+(n+1)),List.drop_set_of_lt (by lia),ji,
   show sa+n+1+t.length=sa+n+(t.length+1) by lia]
  have:(xs.toList.set (sa+n) p).take (sa+n+1)=xs.toList.take (sa+n)++[p]:=by rw [Wg (by simp;lia),List.take_set_of_le (ay _)];simp
  rw [this];simp
section seg
variable {xs ys:Array Keyed}
theorem ü (h:ys.toList=xs.toList.take a++(M++xs.toList.drop (a+M.length))) (d:a+M.length<=xs.size):
 (∀m,m<a\/a+M.length<=m->Kk ys m=Kk xs m)/\∀m,(b:m<M.length)->Kk ys (a+m)=N M[m]:=by
 have c:(xs.toList.take a).length=a:=by simp;lia
 refine ⟨λm b=>?_,λm b=>?_⟩
 ·refine u_ ?_;rw [<-B5,<-B5,h];rcases b with b | b
  ·rw [oI (xW b c),FZ b]
  ·rw [oz (by lia),c,oz (CP b),List.getElem?_drop];congr 1;lia
 ·refine qX ?_;rw [<-B5,h,oz (by lia),c,Nat.add_sub_cancel_left,oI b,gI b]
theorem X3 (h:ys.toList=xs.toList.take a++(M++xs.toList.drop (a+M.length))) (c:M.Perm (xs.extract a b).toList) (f:b<=xs.size) (d:a<=b):ys.Perm xs:=by
 have g:M.length=b-a:=by rw [c.length_eq];simp;lia
 refine Array.perm_iff_toList_perm.mpr ?_;rw [h];have e:xs.toList=xs.toList.take a++((xs.extract a b).toList++xs.toList.drop (a+M.length)):=by
  conv=>lhs;rw [<-FJ a xs.toList]
  congr 1;have:=xZ (a:=xs) (i:=a) (k:=b-a) (CS d f);rw [show a+(b-a)=b by exact mz d] at this;rw [this,show a+M.length=b by lia]
 conv=>rhs;rw [e]
 exact (c.append_right _).append_left _
end seg
structure Bs (a₀:Array Keyed) (st:SortSt):Prop where
 perm:(arrOf st).Perm a₀
 kind:kindOf st=SK.kind
 fail:failedOf st=none
theorem Bs.size {a₀:Array Keyed} {st:SortSt} (h:Bs a₀ st):(arrOf st).size=a₀.size:=h.perm.size_eq
theorem Bs.nums {a₀:Array Keyed} {st:SortSt} (h:Bs a₀ st) (h0:∀p,p∈a₀.toList->eL p):∀p,p∈(arrOf st).toList->eL p:=
 λp a=>h0 p ((Array.perm_iff_toList_perm.mp h.perm).mem_iff.mp a)
theorem PR (e:eY xs a b) (f:b<=xs.size):(xs.extract a b).toList.Pairwise le:=by rw [BE];intro i j d c g;simp only [qg,Array.size_extract] at d c;simp only [Array.getElem_toList,Array.getElem_extract];have:=e (a+i) (a+j) jf (by lia) (QW c);rw [qX (qb xs (a+i) (CO d)),qX (qb xs (a+j) (CO c))] at this;exact this
theorem BM (c:a+m<b) (_hb:b<=xs.size):Kk (xs.extract a b) m=Kk xs (a+m):=by refine u_ ?_;rw [Array.getElem?_extract,if_pos (by lia)]
end
section
variable [SK] [gJ prog w A E s] {st:SortSt}
theorem zAr (h:Q ⟨⟩ a):wpS (model prog w) A E s (set a:StateT SortSt Sem PUnit) Q st:=by unfold wpS;rw [StateT.run_set];exact aJ ⟨U,h⟩
theorem Ϻ (h0:∀p,p∈a₀.toList->eL p) (H:Bs a₀ st)
 (hp:pendingOf st=(L++(sa,na,p)::(sb,nb,p')::T).toArray) (N:i=L.length) (X:sb=sa+na) (LD:1<=na) (hnb:1<=nb)
 (hsz:sb+nb<=a₀.size) (s1:eY (arrOf st) sa sb) (B:eY (arrOf st) sb (sb+nb))
 (h:∀R,Bs a₀ R->pendingOf R=(L++(sa,na+nb,p)::T).toArray->eY (arrOf R) sa (sb+nb)->
  (∀m,m<sa\/sb+nb<=m->Kk (arrOf R) m=Kk (arrOf st) m)->Q true R):
 wpS (model prog w) A E s (mergeAt' i) Q st:=by
 subst N;have I:=H.nums h0;have y:=H.size;refine bc (qa ?_);have g1:(pendingOf st)[L.length]?=some (sa,na,p):=by rw [hp];simp
 have g2:(pendingOf st)[L.length+1]?=some (sb,nb,p'):=by rw [hp];simp
 have g3:((pendingOf st).setIfInBounds L.length (sa,na+nb,p)).eraseIdxIfInBounds (L.length+1)=(L++(sa,na+nb,p)::T).toArray:=by rw [hp];apply Array.toList_inj.mp;simp [List.eraseIdx_append_of_length_le]
 refine (show ((pendingOf st)[L.length]?,(pendingOf st)[L.length+1]?)=(some (sa,na,p),some (sb,nb,p')) by rw [g1,g2]).symm▸?_;refine bc (zAr (g3.symm▸?_));refine (λ(x3:∀jq:SortSt,jq=SortSt.mk' (kindOf st) (arrOf st) ((L++(sa,na+nb,p)::T).toArray) (gallopOf st) (failedOf st)->
  wpS (model prog w) A E s _ Q jq)=>x3 _ U) ?_
 intro jq f;have v:Bs a₀ jq:=by rw [f];exact ⟨H.perm,H.kind,H.fail⟩
 have S:arrOf jq=arrOf st:=by rw [f]
 have p1:pendingOf jq=(L++(sa,na+nb,p)::T).toArray:=by rw [f]
 have keep:eY (arrOf st) sa (sb+nb)->Q true jq:=λhs=>h jq v p1 (by rw [S];exact hs) (λm _=>by rw [S]);clear f;obtain ⟨x4,ey,iy,ky⟩:=qt I (i:=sb) (by lia);refine bc (mx ey (bc (Cd (a:=arrOf st) v.kind I iy (n:=na) (by lia) (λi j EO F=>s1 _ _ jf (vo EO) (by lia)) (by exact LD)
  λk k1 k2 k3=>?_)))
 have UP:∀m,sa<=m->m<sa+k->Kk (arrOf st) m<=Kk (arrOf st) sb:=λm d G=>by have:=k2 (m-sa) (JF G d);rw [show sa+(m-sa)=m by exact mz d] at this;rw [ky];simpa [eI] using this
 have UO:∀m,sa+k<=m->m<sb->Kk (arrOf st) sb<Kk (arrOf st) m:=λm d G=>by have:=k3 (m-sa) (CP d) (by lia);rw [show sa+(m-sa)=m by exact IM d] at this;rw [ky];simpa [eI] using this
 dsimp-zeta only
 by_cases M:na-k=0
 ·refine uZ (c:=(na-k==0)=true) (by simpa using M) ?_;refine aZ (keep λi j o e g=>?_)
  by_cases F:j<sb
  ·exact s1 i j o e F
  by_cases N:sb<=i
  ·exact B i j N e g
  exact nc (UP i o (by lia)) (B sb j (ay _) (pb F) g)
 refine uT (c:=(na-k==0)=true) (by simpa using M) ?_;obtain ⟨x5,ez,iz,kz⟩:=qt I (i:=sa+k+(na-k)-1) (by lia);have V9:sa+k+(na-k)-1=sb-1:=by lia
 refine bc (mx ez (bc (Cd (a:=arrOf st) v.kind I iz (b:=sb) (n:=nb) (by lia) (λi j EO F=>B _ _ jf (vo EO) (qB F)) (X9 hnb)
  λiR O q2 q3=>?_)))
 rw [V9] at kz;have TQ:∀m,sb<=m->m<sb+iR->Kk (arrOf st) m<Kk (arrOf st) (sb-1):=λm d G=>by have:=q2 (m-sb) (JF G d);rw [show sb+(m-sb)=m by exact mz d] at this;rw [kz];simpa [eI] using this
 have TM:∀m,sb+iR<=m->m<sb+nb->Kk (arrOf st) (sb-1)<=Kk (arrOf st) m:=λm d G=>by have:=q3 (m-sb) (CP d) (by lia);rw [show sb+(m-sb)=m by exact IM d] at this;rw [kz];simpa [eI] using this
 dsimp-zeta only
 by_cases c2:iR=0
 ·refine uZ (c:=(iR==0)=true) (by simpa using c2) ?_;refine aZ (keep λi j o e g=>?_)
  by_cases F:j<sb
  ·exact s1 i j o e F
  by_cases N:sb<=i
  ·exact B i j N e g
  exact nc (s1 i (sb-1) o (by lia) (Q0 LD X)) (TM j (by lia) g)
 refine uT (c:=(iR==0)=true) (by simpa using c2) ?_
 extract_lets-underBinder+onlyGivenNames x C jp
 have szx:x.size=na-k:=by show ((arrOf st).extract (sa+k) sb).size=_;rw [Array.size_extract];lia
 have szy:C.size=iR:=by show ((arrOf st).extract sb (sb+iR)).size=_;rw [Array.size_extract];lia
 have hx:∀q,q∈x.toList->eL q:=λq hq=>I q (by
  have:q∈((arrOf st).extract (sa+k) sb).toList:=hq;rw [yU,yZ] at this;exact List.mem_of_mem_drop (FH this))
 have hy:∀q,q∈C.toList->eL q:=λq hq=>I q (by
  have:q∈((arrOf st).extract sb (sb+iR)).toList:=hq;rw [yU,yZ] at this;exact List.mem_of_mem_drop (FH this))
 have ox:x.toList.Pairwise le:=PR (xs:=arrOf st) (λi j o e g=>s1 i j (by lia) e g) (I_ hsz y);have oy:C.toList.Pairwise le:=PR (xs:=arrOf st) (λi j o e g=>B i j o e (by lia)) (zQ hsz y O);have hf:Kk C 0<=Kk x 0:=by show Kk ((arrOf st).extract sb (sb+iR)) 0<=Kk ((arrOf st).extract (sa+k) sb) 0;rw [BM (by lia) (zQ hsz y O),BM (by lia) (I_ hsz y)];exact fq (UO _ (by exact gR) (by lia))
 have hl:Kk C (C.size-1)<=Kk x (x.size-1):=by rw [szx,szy];show Kk ((arrOf st).extract sb (sb+iR)) _<=Kk ((arrOf st).extract (sa+k) sb) _;rw [BM (by lia) (zQ hsz y O),BM (by lia) (I_ hsz y),show sa+k+(na-k-1)=sb-1 by exact XE V9 M];exact fq (TQ _ jf (by lia))
 have hW:x.toList++C.toList=((arrOf st).extract (sa+k) (sb+iR)).toList:=by have f:=xZ (a:=(arrOf st)) (i:=sa+k) (k:=na-k) (by omega);have V:=xZ (a:=(arrOf st)) (i:=sb) (k:=iR) (zQ hsz y O);have e3:=xZ (a:=(arrOf st)) (i:=sa+k) (k:=na-k+iR) (by omega);rw [show sa+k+(na-k)=sb by omega] at f;rw [show sa+k+(na-k+iR)=sb+iR by omega] at e3;rw [V] at f;rw [e3,<-uL] at f;exact (List.append_cancel_right f).symm
 have pV:∀r fU,Sm jq fU->Out le (x.toList++C.toList) r.toList->wpS (model prog w) A E s (jp r) Q fU:=by
  intro r fU t u;rw [hW] at u;have rl:r.toList.length=na-k+iR:=by rw [u.1.length_eq];simp;lia
  refine bc (Br (bc (qa (aZ ?_))));have W:=Ro (sa+k) r.toList 0 (arrOf fU) (by rw [t.arr,S];omega);rw [t.arr,S,Nat.add_zero] at W;have D:=ü W (by omega);have hP:=X3 W u.1 (zQ hsz y O) (by lia);have jY:∀m,sa+k<=m->m<sb+iR->∀x2,x2=Kk (List.foldl (λa (z:Keyed×Nat)=>a.setIfInBounds (sa+k+z.2) z.1) (arrOf st) (r.toList.zipIdx 0)) m->Kk (arrOf st) sb<=x2/\x2<=Kk (arrOf st) (sb-1):=by
   rintro m d G x2 rfl;have:=D.2 (m-(sa+k)) (by omega);rw [show sa+k+(m-(sa+k))=m by exact mz d] at this;rw [this];obtain ⟨m',n1,n2,_,n4⟩:=HV (u.1.mem_iff.mp (xi (l:=r.toList) (n:=m-(sa+k)) (QB G X rl M)));rw [<-n4]
   by_cases Z:m'<sb
   ·exact ⟨fq (UO m' n1 Z),s1 _ _ (by lia) (JA Z) (Q0 LD X)⟩
   ·exact ⟨B _ _ (by exact gR) (pb Z) (by lia),fq (TQ m' (pb Z) n2)⟩
  have AM:(failedOf fU).isNone=true:=by rw [t.fail,v.fail];rfl
  have u5:List.foldl (λa x=>match x with | (p,j)=>a.setIfInBounds (sa+k+j) p) (arrOf fU) r.toList.zipIdx
   =List.foldl (λa (z:Keyed×Nat)=>a.setIfInBounds (sa+k+z.2) z.1) (arrOf st) (r.toList.zipIdx 0):=by rw [t.arr,S]
  generalize List.foldl (λa (z:Keyed×Nat)=>a.setIfInBounds (sa+k+z.2) z.1) (arrOf st) (r.toList.zipIdx 0)=Y at u5 W D hP jY;refine (show Q (failedOf fU).isNone (SortSt.mk' (kindOf fU) (List.foldl (λa x=>match x with | (p,j)=>a.setIfInBounds (sa+k+j) p) (arrOf fU) r.toList.zipIdx) (pendingOf fU) (gallopOf fU) (failedOf fU)) from ?_);rw [u5,AM];refine h _ ⟨hP.trans H.perm,t.kind.trans v.kind,t.fail.trans v.fail⟩ (t.pend.trans p1) ?_ ?_
  ·show eY Y sa (sb+nb);have rQ:∀m,m<sa+k->Kk Y m=Kk (arrOf st) m:=λm d=>D.1 m (.inl d);have rP:∀m,sb+iR<=m->Kk Y m=Kk (arrOf st) m:=λm d=>D.1 m (.inr (by omega));intro i j o e g
   by_cases i1:i<sa+k
   ·rw [rQ i i1]
    by_cases j1:j<sa+k
    ·rw [rQ j j1];exact s1 i j o e (by lia)
    have:=UP i o i1
    by_cases J:j<sb+iR
    ·exact nc this (jY j (pb j1) J _ U).1
    ·rw [rP j (pb J)];exact nc this (B _ _ (ay _) (by lia) g)
   by_cases i2:i<sb+iR
   ·by_cases J:j<sb+iR
    ·rcases F9 e with EO | rfl
     ·have f:=D.2 (i-(sa+k)) (by omega);have V:=D.2 (j-(sa+k)) (QB J X rl M);rw [show sa+k+(i-(sa+k))=i by exact Xq i1] at f;rw [show sa+k+(j-(sa+k))=j by lia] at V;rw [f,V];exact BE.mp u.2 _ _ _ _ (by lia)
     ·exact kE _
    ·rw [rP j (pb J)];exact nc (jY i (pb i1) i2 _ U).2 (TM j (pb J) g)
   ·rw [rP i (pb i2),rP j (by lia)];exact B i j (by lia) e g
  ·intro m hm';exact D.1 m (by omega)
 by_cases c3:na-k<=iR
 ·refine uZ c3 ?_;exact bc (zC8 U v.kind hx hy ox oy (by lia) (by lia) hf hl λr fU t u=>pV r fU t u)
 ·refine uT c3 ?_;exact bc (zC9 U v.kind hx hy ox oy (by lia) (by lia) hf hl λr fU t u=>pV r fU t u)
end
section
variable [SK]
def Dec (xs:Array Keyed) (a b:Nat):Prop:=∀i j,a<=i->i<=j->j<b->Kk xs j<=Kk xs i
structure Go (a₀:Array Keyed) (lo:Nat) (st cQ:SortSt):Prop where
 base:Bs a₀ cQ
 pend:pendingOf cQ=pendingOf st
 low:∀m,m<lo->Kk (arrOf cQ) m=Kk (arrOf st) m
theorem Go.refl {a₀:Array Keyed} {a:Nat} {st:SortSt} (h:Bs a₀ st):Go a₀ a st st:=⟨h,U,λ_ _=>rfl⟩
theorem Go.put {a₀:Array Keyed} {b:Nat} {st a:SortSt} (h:Go a₀ b st a) {xs:Array Keyed} (e:xs.Perm (arrOf a)) (d:∀m,m<b->Kk xs m=Kk (arrOf a) m):
 Go a₀ b st (setArr a xs):=⟨⟨e.trans h.base.perm,h.base.kind,h.base.fail⟩,h.pend,λm c=>(d m c).trans (h.low m c)⟩
theorem eY.snoc (h:eY xs a b) (g:a<b->Kk xs (b-1)<=Kk xs b):eY xs a (b+1):=by
 intro i j c d k
 by_cases f:j<b
 ·exact h i j c d f
 obtain rfl:j=b:=by lia
 by_cases e:i=j
 ·rw [e];exact kE _
 ·exact nc (h i (j-1) c (by lia) (by lia)) (g (by lia))
theorem Dec.snoc (h:Dec xs a b) (g:a<b->Kk xs b<=Kk xs (b-1)):Dec xs a (b+1):=by
 intro i j c d k
 by_cases f:j<b
 ·exact h i j c d f
 obtain rfl:j=b:=by lia
 by_cases e:i=j
 ·rw [e];exact kE _
 ·exact nc (g (by lia)) (h i (j-1) c (by lia) (by lia))
theorem eY.one (xs:Array Keyed) (a:Nat):eY xs a (a+1):=λi j b c d=>by
 obtain rfl:i=j:=by lia
 exact kE _
theorem Dec.rev (h:Dec xs a b) (f:b<=xs.size):eY (mirror xs a b ((b-a) / 2)) a b:=by intro i j c d e;rw [CD f,CD f,if_pos ⟨c,by lia⟩,if_pos ⟨rC c d,e⟩];exact h _ _ (QX e) (Xv d) (by omega)
end
section
variable [SK] [gJ prog w A E s] {st:SortSt}
theorem CC (I:Nat->β->SortSt->Prop) (g:a<=n)
 (l:∀i c st,a<=i->i<n->I i c st->wpS (model prog w) A E s (f i c) (SQ Q (I (i+1))) st)
 (j:∀c st,I n c st->Q c st) (h:I a c st):wpS (model prog w) A E s (forIn [a:n] c f) Q st:=
 B1 I (λi c st e k d=>kU (l i c st e k d) λr m b=>by cases r<;>exact b)
  (λc st b=>j c st (by rwa [Nat.max_eq_right g] at b)) h
theorem xC (h0:∀p,p∈a₀.toList->eL p) (a:Bs a₀ st) (e:i<a₀.size) (f:j<a₀.size)
 (h:Q (some (decide (Kk (arrOf st) i<Kk (arrOf st) j))) st):wpS (model prog w) A E s (ltAt' i j) Q st:=by
 have b:=a.nums h0;obtain ⟨p,c,g,l⟩:=qt b (i:=i) (by rw [a.size];exact e);obtain ⟨q,d,k,m⟩:=qt b (i:=j) (by rw [a.size];exact f);rw [ltAt'_eq];refine bc (qa (bc (mx c (bc (mx d (BZ a.kind g k ?_))))))
 rwa [l,m] at h
theorem Xp {a q:Nat} {Q:Option Nat->SortSt->Prop} (h0:∀p,p∈a₀.toList->eL p) (F:Bs a₀ st) (z:a+q<=a₀.size) (T:1<=q)
 (h:∀m b,1<=m->m<=q->Go a₀ a st b->eY (arrOf b) a (a+m)->Q (some m) b):
 wpS (model prog w) A E s (countRun' a q) Q st:=by
 refine bc (kU (CC
  (I:=λx c b=>b=st/\c=(none,x)/\eY (arrOf st) a (a+x))
  (Q:=λc b=>b=st/\∃n,c=(none,n)/\1<=n/\n<=q/\eY (arrOf st) a (a+n)/\(n=q\/Kk (arrOf st) (a+n)<Kk (arrOf st) (a+n-1)))
  T ?_ ?_ ⟨U,U,eY.one _ _⟩) ?_)
 ·rintro x c b A2 Y ⟨rfl,rfl,o⟩;refine bc (xC h0 F (by show a+x<_;exact oC z Y) (by show a+x-1<_;exact CV z Y) ?_)
  by_cases l:Kk (arrOf b) (a+x)<Kk (arrOf b) (a+x-1)
  ·rw [eO l];exact aZ ⟨U,x,U,A2,by exact bf Y,o,.inr l⟩
  ·rw [eE l];exact aZ ⟨U,U,o.snoc λ_=>Int.not_lt.mp l⟩
 ·rintro c b ⟨rfl,rfl,o⟩;exact ⟨U,q,U,T,ay _,o,.inl U⟩
 rintro c b ⟨rfl,n,rfl,Z,n2,o,hor⟩;refine (λ(H:wpS (model prog w) A E s (ite ((n==q)=true) _ _) Q b)=>H) ?_
 by_cases S:n=q
 ·rw [if_pos (by simpa using S)];exact aZ (h n _ Z n2 (Go.refl F) o)
 rw [if_neg (by simpa using S)];have l:=hor.resolve_left S
 extract_lets-underBinder+onlyGivenNames jp
 have pV:∀u fU,Go a₀ a b fU->Dec (arrOf fU) a (a+(n+1))->wpS (model prog w) A E s (jp u) Q fU:=by
  intro _ fU f g;refine bc (uF (qL ⟨U,?_⟩));refine bc (kU (CC
   (I:=λx c d=>∃e,c=(none,x,e)/\Go a₀ a b d/\Dec (arrOf d) a (a+x)/\e+1<=x/\∀i,a+x-(e+1)<=i->i<a+x->Kk (arrOf d) i=Kk (arrOf d) (a+x-1))
   (Q:=λc d=>∃x e,c=(none,x,e)/\n+1<=x/\x<=q/\Go a₀ a b d/\Dec (arrOf d) a (a+x)/\e+1<=x/\∀i,a+x-(e+1)<=i->i<a+x->Kk (arrOf d) i=Kk (arrOf d) (a+x-1))
   (show n+1<=q by lia) ?_ ?_ ⟨0,U,f,g,by exact iC Z,λi r t=>by congr 1;lia⟩) ?_)
  ·rintro x c d x1 J ⟨e,rfl,f,g,N,G⟩;have B:a+x<=(arrOf d).size:=by rw [f.base.size];lia
   refine bc (xC h0 f.base (by show a+x<_;exact oC z J) (by show a+x-1<_;exact CV z J) ?_)
   by_cases l:Kk (arrOf d) (a+x)<Kk (arrOf d) (a+x-1)
   ·rw [eO l];dsimp only;rw [if_pos rfl]
    by_cases M:e>0
    ·rw [if_pos M];have v:=JN (i:=a+x-(e+1)) B G;refine bc (Fl (aZ ⟨0,U,f.put (Fi _ _ _ _) (λm _=>v m),?_,by lia,λi r t=>by congr 1;lia⟩));intro i j r t L;show Kk (mirror (arrOf d) _ _ _) j<=Kk (mirror (arrOf d) _ _ _) i;rw [v,v];exact (g.snoc λ_=>fq l) i j r t (by omega)
    ·rw [if_neg M];exact aZ ⟨0,U,f,g.snoc λ_=>fq l,by lia,λi r t=>by congr 1;lia⟩
   ·rw [eE l];dsimp only;rw [if_neg (by decide)];refine bc (xC h0 f.base (CV z J) (oC z J) ?_)
    by_cases W:Kk (arrOf d) (a+x-1)<Kk (arrOf d) (a+x)
    ·rw [eO W];exact aZ ⟨x,e,U,by omega,by exact bf J,f,g,N,G⟩
    ·rw [eE W];have heq:Kk (arrOf d) (a+x)=Kk (arrOf d) (a+x-1):=by lia
     refine aZ ⟨e+1,U,f,g.snoc λ_=>o_ W,vl N,λi r t=>?_⟩;rw [show a+(x+1)-1=a+x by exact Eq.refl (a+(x+1)-1)]
     by_cases hi:i=a+x
     ·rw [hi]
     ·rw [heq];exact G i (by lia) (by lia)
  ·rintro c d ⟨e,rfl,f,g,N,G⟩;exact ⟨q,e,U,by lia,ay _,f,g,N,G⟩
  rintro c d ⟨x,e,rfl,_,J,f,g,N,G⟩;have B:a+x<=(arrOf d).size:=by rw [f.base.size];lia
  refine (λ(H:wpS (model prog w) A E s _ Q d)=>H) ?_
  extract_lets-underBinder+onlyGivenNames r0 _ xx nn
  dsimp-zeta only [r0]
  extract_lets-underBinder+onlyGivenNames wk
  have j_:∀u cH,Go a₀ a b cH->Dec (arrOf cH) a (a+x)->wpS (model prog w) A E s (wk u) Q cH:=by
   intro _ cH f g;have B:a+x<=(arrOf cH).size:=by rw [f.base.size];lia
   refine bc (Fl ?_);have R:Go a₀ a b (setArr cH (mirror (arrOf cH) a (a+x) ((a+x-a) / 2))):=
    f.put (Fi _ _ _ _) (λm hm=>by rw [CD B,if_neg (by lia)])
   have X:eY (arrOf (setArr cH (mirror (arrOf cH) a (a+x) ((a+x-a) / 2)))) a (a+x):=g.rev B;refine (λ(H:∀C,Go a₀ a b C->eY (arrOf C) a (a+x)->wpS (model prog w) A E s _ Q C)=>H _ R X) ?_;intro C R X;refine bc (kU (CC
    (I:=λy c D=>D=C/\c=(none,y)/\eY (arrOf C) a (a+y))
    (Q:=λc D=>D=C/\∃y,c=(none,y)/\1<=y/\y<=q/\eY (arrOf C) a (a+y)) J ?_ ?_ ⟨U,U,X⟩) ?_)
   ·rintro y c D y1 O ⟨rfl,rfl,o⟩;refine bc (xC h0 R.base (by show a+y<_;exact oC z O) (by show a+y-1<_;exact CV z O) ?_)
    by_cases l:Kk (arrOf D) (a+y)<Kk (arrOf D) (a+y-1)
    ·rw [eO l];exact aZ ⟨U,y,U,by lia,by exact bf O,o⟩
    ·rw [eE l];exact aZ ⟨U,U,o.snoc λ_=>Int.not_lt.mp l⟩
   ·rintro c D ⟨rfl,rfl,o⟩;exact ⟨U,q,U,T,ay _,o⟩
   ·rintro c D ⟨rfl,y,rfl,y1,O,o⟩;exact aZ (h y _ y1 O R o)
  by_cases M:e>0
  ·refine uZ (c:=e>0) M ?_;have v:=JN (i:=a+x-(e+1)) B G;refine bc (Fl (j_ () _ (f.put (Fi _ _ _ _) (λm _=>v m)) ?_));intro i j r t L;show Kk (mirror (arrOf d) _ _ _) j<=Kk (mirror (arrOf d) _ _ _) i;rw [v,v];exact g i j r t L
  ·refine uT (c:=e>0) M ?_;exact j_ () _ f g
 have B:a+n<=(arrOf b).size:=by rw [F.size];lia
 by_cases c2:n>1
 ·refine uZ (c:=n>1) c2 ?_;refine bc (xC h0 F (by lia) (by show a+n-1<_;omega) ?_)
  by_cases hr:Kk (arrOf b) a<Kk (arrOf b) (a+n-1)
  ·rw [eO hr];exact aZ (h n _ Z n2 (Go.refl F) o)
  ·rw [eE hr];have V:∀k,a<=k->k<a+n->Kk (arrOf b) k=Kk (arrOf b) (a+n-1):=λk k1 k2=>by
    have a1:=o a k (ay _) k1 k2;have a2:=o k (a+n-1) k1 (JA k2) (by omega);lia
   have v:=JN B V;refine bc (Fl (pV () _ ((Go.refl F).put (Fi _ _ _ _) (λm _=>v m)) ?_));have g:Dec (arrOf b) a (a+n):=λi j r t L=>by rw [V i r (by lia),V j (rC r t) L];exact kE _
   intro i j r t L;show Kk (mirror (arrOf b) _ _ _) j<=Kk (mirror (arrOf b) _ _ _) i;rw [v,v];exact (g.snoc λ_=>fq l) i j r t (by omega)
 ·refine uT (c:=n>1) c2 ?_;obtain rfl:n=1:=by lia
  have g:Dec (arrOf b) a (a+1):=λi j r t L=>by
   obtain rfl:i=j:=by lia
   exact kE _
  exact pV () _ (Go.refl F) (g.snoc λ_=>fq l)
end
theorem zCa {f g:Nat->Int} {k a b:Nat} (t:k<=a) (s:a<=b) (h:∀m,m<a->g m=f m) (l:g a=f b) (r:∀m,a<m+1->m+1<=b->g (m+1)=f m) (low:∀m,k<=m->m<a->f m<=f b) (high:∀m,a<=m->m<b->f b<=f m)
 (n:∀i j,k<=i->i<=j->j<b->f i<=f j):∀i j,k<=i->i<=j->j<b+1->g i<=g j:=λi j o e p=>by
 rcases Bz j a with c | c | c
 ·rw [h j c,h i (ot e c)];exact n i j o e (ie c s)
 ·subst c;rw [l];rcases F9 e with d | d
  ·rw [h i d];exact low i o d
  ·rw [d,l];exact kE _
 ·cases j with
  | zero=>exact absurd c (oJ _)
  | succ j=>
   rw [r j c (uH p)];have q:j<b:=Nat.lt_of_succ_lt_succ p;rcases Bz i a with d | d | d
   ·rw [h i d];exact n i j o (uH (B0 d c)) q
   ·rw [d,l];exact high j (uH c) q
   ·cases i with
    | zero=>exact absurd d (oJ _)
    | succ i=>
     rw [r i d (cP e (uH p))];exact n i j (cP t (uH d)) (Nat.le_of_succ_le_succ e) q
section
variable [SK] [gJ prog w A E s] {st:SortSt}
theorem zAq {e n ok:Nat} (h0:∀p,p∈a₀.toList->eL p) (X:Bs a₀ st) (N:e+n<=a₀.size) (B:1<=ok) (aA:ok<=n)
 (hs:eY (arrOf st) e (e+ok)) (h:∀f,Go a₀ e st f->eY (arrOf f) e (e+n)->Q true f):
 wpS (model prog w) A E s (binarySort' e n ok) Q st:=by
 refine bc (kU (CC
  (I:=λk c f=>c=(none,())/\Go a₀ e st f/\eY (arrOf f) e (e+k))
  (Q:=λc f=>c=(none,())/\Go a₀ e st f/\eY (arrOf f) e (e+n)) (show max ok 1<=n by lia) ?_ ?_
  ⟨U,Go.refl X,by rw [Nat.max_eq_left B];exact hs⟩) ?_)
 ·rintro k c f _ R ⟨rfl,o,t⟩;have hsz:e+k<(arrOf f).size:=by rw [o.base.size];exact oC N R
  refine bc (kU (zD
   (I:=λx c g=>g=f/\∃l r,c=(none,l,r)/\l<=r/\r<=k/\r-l<=k-x/\(∀i,i<l->Kk (arrOf f) (e+i)<=Kk (arrOf f) (e+k))/\
    ∀i,r<=i->i<k->Kk (arrOf f) (e+k)<=Kk (arrOf f) (e+i))
   (Q:=λc g=>g=f/\∃l,c=(none,l,l)/\l<=k/\(∀i,i<l->Kk (arrOf f) (e+i)<=Kk (arrOf f) (e+k))/\
    ∀i,l<=i->i<k->Kk (arrOf f) (e+k)<=Kk (arrOf f) (e+i)) ?_ ?_ ⟨U,0,k,U,by lia,by exact gR,by exact gR,λi Z=>by exact iB (oJ i Z),λi J O=>by lia⟩) ?_)
  ·rintro x c g hx ⟨rfl,l,r,rfl,S,y,T,u,v⟩;dsimp only
   by_cases M:l>=r
   ·rw [if_pos M];obtain rfl:l=r:=by lia
    exact aZ ⟨U,l,U,y,u,v⟩
   rw [if_neg M];generalize F:(l+r) / 2=m;refine bc (xC h0 o.base (i:=e+k) (j:=e+m) (oC N R) (by lia) ?_)
   by_cases D:Kk (arrOf g) (e+k)<Kk (arrOf g) (e+m)
   ·rw [eO D];refine aZ ⟨U,l,m,U,by lia,by lia,by omega,u,λi J O=>?_⟩;exact nc (fq D) (t _ _ jf (vo J) (qB O))
   ·rw [eE D];refine aZ ⟨U,m+1,r,U,by lia,by omega,by omega,λi J=>?_,v⟩;exact nc (t _ (e+m) jf (by lia) (by lia)) (Int.not_lt.mp D)
  ·rintro c g ⟨rfl,l,r,rfl,S,y,T,u,v⟩;obtain rfl:l=r:=by lia
   exact ⟨U,l,U,y,u,v⟩
  ·rintro c g ⟨rfl,l,rfl,y,u,v⟩;refine (λ(H:wpS (model prog w) A E s (do moveDown' (e+k) (e+l);pure (ForInStep.yield (none,()))) _ g)=>H) ?_;rw [moveDown'_eq];have V:e+k-(e+k-(e+l))=e+l:=by lia
   have C:∀m,Kk (bubble (arrOf g) (e+k) (e+k-(e+l))) m=if m=e+l then Kk (arrOf g) (e+k) else if e+l<m/\m<=e+k then Kk (arrOf g) (m-1) else Kk (arrOf g) m:=λm=>by
    have:=Wy (d:=e+k-(e+l)) hsz (ZGo _ _) m
    rwa [V] at this
   refine bc (Br (aZ ⟨U,o.put (bubble_perm _ _ _) (λm F=>?_),?_⟩))
   ·rw [C,if_neg (by lia),if_neg λz=>by lia]
   ·refine zCa (a:=e+l) (b:=e+k) (oq e l) (Nh y e) (λm F=>?_) ?_ (λm B W=>?_) (λm G L=>?_) (λm G L=>?_) t
    ·rw [C,if_neg (gv F),if_neg λz=>Nat.lt_asymm F z.1]
    ·rw [C,if_pos rfl]
    ·rw [C,if_neg (wZ B),if_pos ⟨B,W⟩,Nat.add_sub_cancel]
    ·obtain ⟨q,rfl⟩:=Nat.exists_eq_add_of_le G;exact u q (VX L)
    ·obtain ⟨q,rfl⟩:=Nat.exists_eq_add_of_le (cP (oq e l) G);exact v q (Nat.le_of_add_le_add_left G) (VX L)
 ·rintro c f ⟨Y,o,t⟩;exact ⟨Y,o,t⟩
 ·rintro c f ⟨rfl,o,t⟩;exact aZ (h f o t)
end
def Run [SK] (xs:Array Keyed):Nat->List (Nat×Nat×Nat)->Nat->Prop
 | s,[],e=>s=e
 | s,r::t,e=>r.1=s/\1<=r.2.1/\eY xs s (s+r.2.1)/\Run xs (s+r.2.1) t e
section run
variable [SK]
theorem Run.le:∀{a s e},Run X s a e->s+a.length<=e
 | [],s,e,h=>by unfold Run at h;simp;lia
 | r::t,s,e,⟨_,c,_,b⟩=>by have:=b.le;simp only [ji];lia
theorem Run.congr:∀{f s e},Run X s f e->(∀m,s<=m->m<e->Kk Y m=Kk X m)->Run Y s f e
 | [],_,_,h,_=>h
 | r::t,s,e,⟨k,l,n,d⟩,b=>by have:=d.le;refine ⟨k,l,λi j a c g=>?_,d.congr λm p o=>b m (by lia) o⟩;rw [b i a (by lia),b j (rC a c) (by lia)];exact n i j a c g
theorem Run.app:∀{l r s e},Run X s (l++r) e↔∃m,Run X s l m/\Run X m r e
 | [],r,s,e=>⟨λh=>⟨s,U,h⟩,λ⟨m,b,c⟩=>by unfold Run at b;subst b;exact c⟩
 | a::l,r,s,e=>⟨λ⟨d,b,c,f⟩=>by
  obtain ⟨m,g,i⟩:=Run.app.mp f;exact ⟨m,⟨d,b,c,g⟩,i⟩,λ⟨m,⟨d,b,c,f⟩,j⟩=>⟨d,b,c,Run.app.mpr ⟨m,f,j⟩⟩⟩
theorem Run.same:∀{f g s e},Run X s f e->f.map (λr=>(r.1,r.2.1))=g.map (λr=>(r.1,r.2.1))->Run X s g e
 | [],[],_,_,h,_=>h
 | a::t,b::o,s,e,⟨k,l,m,n⟩,c=>by simp only [eN,List.cons.injEq,Prod.mk.injEq] at c;obtain ⟨⟨i,d⟩,j⟩:=c;refine ⟨i▸k,d▸l,d▸m,?_⟩;rw [<-d];exact n.same j
 | [],_::_,_,_,_,c=>by simp at c
 | _::_,[],_,_,_,c=>by simp at c
end run
theorem R' {b c:Type} {f:b->b} {g:b->c} (h:∀x,g (f x)=g x):∀(l:List b) (i:Nat),(l.modify i f).map g=l.map g
 | [],i=>by simp
 | a::t,0=>by simp [h]
 | a::t,i+1=>by simp [R' h t i]
section
variable [SK] [gJ prog w A E s] {st:SortSt}
structure Pd (a₀:Array Keyed) (lo:Nat) (rs:List (Nat×Nat×Nat)) (st:SortSt):Prop where
 base:Bs a₀ st
 pend:pendingOf st=rs.toArray
 run:Run (arrOf st) 0 rs lo
 top:lo<=a₀.size
theorem P0 {c i:Nat} (h0:∀p,p∈a₀.toList->eL p) (b:Pd a₀ c rs st) (H:i+1<rs.length)
 (h:∀x a,Pd a₀ c x a->x.length+1=rs.length->(∀m,c<=m->Kk (arrOf a) m=Kk (arrOf st) m)->Q true a):
 wpS (model prog w) A E s (mergeAt' i) Q st:=by
 obtain ⟨L,l,n,T,e,C⟩:∃L l n T,rs=L++l::n::T/\i=L.length:=by refine ⟨rs.take i,rs[i],rs[i+1],rs.drop (i+2),?_,by simp;lia⟩;rw [<-Ny,<-Ny,FJ]
 obtain ⟨d,j,p⟩:=l;obtain ⟨J,k,I⟩:=n;have u:=b.run;rw [e] at u;obtain ⟨m,D,rfl,o,q,rfl,r,t,g⟩:=Run.app.mp u;dsimp only at o q r t g;have M:=g.le;have G:=b.top;refine Ϻ h0 b.base (e▸b.pend) C U o r (by lia) q t λa y z B f=>?_;refine h _ a ⟨y,z,Run.app.mpr ⟨d,D.congr λm _ F=>f m (.inl F),U,by show 1<=j+k;lia,?_,?_⟩,G⟩ (by rw [e];simp;exact Eq.refl (L.length+(T.length+1)+1))
  (λm v=>f m (.inr (by lia)))
 ·show eY _ d (d+(j+k));rw [<-B3];exact B
 ·show Run _ (d+(j+k)) T c;rw [<-B3];exact g.congr λm v _=>f m (.inr v)
theorem zAp {Q:Unit->SortSt->Prop} (h0:∀p,p∈a₀.toList->eL p) (S:Bs a₀ st) (hp:pendingOf st= #[]) (h2:2<=a₀.size)
 (h:∀e,(arrOf e).Perm a₀->failedOf e=none->eY (arrOf e) 0 a₀.size->Q () e):wpS (model prog w) A E s sortRuns' Q st:=by
 refine bc (qa ?_);have U_:=S.size;refine bc (kU (zD
  (I:=λx c e=>∃a g,c=(none,a)/\Pd a₀ a g e/\(x<=a\/a=a₀.size))
  (Q:=λc e=>∃g,c=(none,a₀.size)/\Pd a₀ a₀.size g e) ?big ?wY ⟨0,[],U,⟨S,hp,U,dZ _⟩,.inl (ay _)⟩) ?after)
 case wY=>
  rintro c e ⟨a,g,rfl,k,hx⟩;have:=k.top
  change (arrOf st).size<=a\/a=a₀.size at hx
  obtain rfl:a=a₀.size:=by lia
  exact ⟨g,U,k⟩
 case big=>
  rintro x c e _ ⟨a,g,rfl,k,hxx⟩;refine (λ(H:wpS (model prog w) A E s (ite (a>=(arrOf st).size) _ _) _ e)=>H) ?_
  by_cases O:a>=(arrOf st).size
  ·rw [if_pos O];have:=k.top;obtain rfl:a=a₀.size:=by lia
   exact aZ ⟨g,U,k⟩
  rw [if_neg O];refine bc (Xp h0 k.base (by show a+((arrOf st).size-a)<=_;lia) (by show 1<=(arrOf st).size-a;lia) λm fU Z z v M=>?_)
  change m<=(arrOf st).size-a at z
  change Go a₀ a e fU at v
  change eY (arrOf fU) a (a+m) at M
  have B:Pd a₀ a g fU:=⟨v.base,v.pend.trans k.pend,k.run.congr λm _ z=>v.low m z,k.top⟩;refine (λ(H:wpS (model prog w) A E s _ _ fU)=>H) ?_;dsimp-zeta only
  extract_lets-underBinder+onlyGivenNames n0 jp
  have V:∀(u:Unit) n mJ,1<=n->a+n<=a₀.size->Pd a₀ a g mJ->eY (arrOf mJ) a (a+n)->
   wpS (model prog w) A E s (jp u n) (SQ (λc e=>∃g,c=(none,a₀.size)/\Pd a₀ a₀.size g e)
    (λc e=>∃a g,c=(none,a)/\Pd a₀ a g e/\(x+1<=a\/a=a₀.size))) mJ:=by
   intro u n mJ n1 n2 T D;refine bc (qa ?_)
   extract_lets-underBinder+onlyGivenNames wk
   have W:∀(u:Unit) cH b,Pd a₀ a b cH->eY (arrOf cH) a (a+n)->
    wpS (model prog w) A E s (wk u) (SQ (λc e=>∃g,c=(none,a₀.size)/\Pd a₀ a₀.size g e)
     (λc e=>∃a g,c=(none,a)/\Pd a₀ a g e/\(x+1<=a\/a=a₀.size))) cH:=by
    intro u cH b d q;refine bc (Br (aZ ⟨a+n,b++[(a,n,0)],U,⟨⟨d.base.perm,d.base.kind,d.base.fail⟩,?_,?_,n2⟩,by lia⟩))
    ·show (pendingOf cH).push (a,n,0)=_;rw [d.pend];simp
    ·exact Run.app.mpr ⟨a,d.run,U,n1,q,U⟩
   cases hb:(pendingOf mJ).back? with
   | none=>
    exact W () mJ g T D
   | some r=>
    obtain ⟨t,o,p1⟩:=r;refine bc (kU (zD
     (I:=λ_ c cH=>c=(none,())/\∃b,Pd a₀ a b cH/\eY (arrOf cH) a (a+n))
     (Q:=λc cH=>c=(none,())/\∃b,Pd a₀ a b cH/\eY (arrOf cH) a (a+n)) ?_ (λc cH hh=>hh) ⟨U,g,T,D⟩) ?_)
    ·rintro x' c cH _ ⟨rfl,b,d,q⟩;refine bc (qa ?_);have Y:(pendingOf cH).size=b.length:=by rw [d.pend];simp
     dsimp only
     by_cases l:(pendingOf cH).size>1
     ·rw [if_pos l]
      cases hq:(pendingOf cH)[(pendingOf cH).size-2]? with
      | none=>exact aZ ⟨U,b,d,q⟩
      | some r=>
       obtain ⟨x1,x2,T'⟩:=r;dsimp only;split
       ·exact aZ ⟨U,b,d,q⟩
       ·refine bc (P0 h0 d (by show (pendingOf cH).size-2+1<_;lia) λN DX G _ X=>?_);refine aZ ⟨U,N,G,λi j y F i3=>?_⟩;rw [X i y,X j (rC y F)];exact q i j y F i3
     ·rw [if_neg l];exact aZ ⟨U,b,d,q⟩
    ·rintro c cH ⟨rfl,b,d,q⟩;refine bc (Br (W () _ (b.modify (b.length-1) λr=>(r.1,r.2.1,power' (arrOf st).size (2*t+o) (2*t+o+o+n) (arrOf st).size)) ⟨⟨d.base.perm,d.base.kind,d.base.fail⟩,?_,?_,d.top⟩ q))
     ·refine (λ(H:(pendingOf cH).modify ((pendingOf cH).size-1) (λr=>(r.1,r.2.1,power' (arrOf st).size (2*t+o) (2*t+o+o+n) (arrOf st).size))=_)=>H) ?_;rw [d.pend];apply Array.toList_inj.mp;simp
     ·exact d.run.same (R' (f:=λr=>(r.1,r.2.1,power' (arrOf st).size (2*t+o) (2*t+o+o+n) (arrOf st).size)) (λ_=>rfl) _ _).symm
  by_cases l:m<minRun' (arrOf st).size (arrOf st).size 0
  ·refine uZ (c:=m<minRun' (arrOf st).size (arrOf st).size 0) l ?_;refine bc (uF (qL ⟨U,?_⟩));refine bc (zAq h0 v.base (n:=min ((arrOf st).size-a) (minRun' (arrOf st).size (arrOf st).size 0)) (by lia) Z (by omega) M λmJ J D=>?_);exact V () (min ((arrOf st).size-a) (minRun' (arrOf st).size (arrOf st).size 0)) mJ (by omega) (by lia) ⟨J.base,J.pend.trans B.pend,B.run.congr λm _ z=>J.low m z,B.top⟩ D
  ·refine uT (c:=m<minRun' (arrOf st).size (arrOf st).size 0) l ?_;exact V () m fU Z (by lia) B M
 case after=>
  rintro c e ⟨g,rfl,k⟩;refine (λ(H:wpS (model prog w) A E s _ Q e)=>H) ?_;dsimp only;have hlen:=k.run.le;refine bc (kU (zD
   (I:=λx c cH=>c=(none,())/\∃b,Pd a₀ a₀.size b cH/\(b.length+x<=a₀.size\/b.length<=1))
   (Q:=λc cH=>c=(none,())/\∃b,Pd a₀ a₀.size b cH/\b.length<=1) ?_ ?_ ⟨U,g,k,.inl (by lia)⟩) ?_)
  ·rintro x' c cH _ ⟨rfl,b,d,C⟩;refine bc (qa ?_);have Y:(pendingOf cH).size=b.length:=by rw [d.pend];simp
   by_cases l:(pendingOf cH).size<=1
   ·rw [if_pos l];exact aZ ⟨U,b,d,zP Y l⟩
   rw [if_neg l];refine bc (P0 h0 d ?_ λN DX G Vk _=>aZ ⟨U,N,G,by lia⟩);have key:∀j,j<=(pendingOf cH).size-2->j+1<b.length:=by lia
   refine key _ ?_
   repeat' split
   all_goals first
    | exact ay _
    | exact ZGo _ _
  ·rintro c cH ⟨rfl,b,d,C⟩
   change b.length+(arrOf st).size<=a₀.size\/b.length<=1 at C
   exact ⟨U,b,d,by lia⟩
  ·rintro c cH ⟨rfl,b,d,C⟩;refine aZ (h cH d.base.perm d.base.fail ?_);have L:=d.run
   match b,C,L with
   | [],_,L=>unfold Run at L;lia
   | [r],_,⟨_,_,e1,R⟩=>
    unfold Run at R;intro i j i0 y F;exact e1 i j i0 y (xW F R)
end
section
variable [DecidableEq k] {knd:KeyKind prog w k}
theorem Zn (X:A.handled=none) (T:(d==sysModules)=false) (u:s.heap.DictAt knd d kvs ep) (Z:kvs.length<=sizeLine)
 (G:∀s' g,(∀b o,s.heap.get? b=some o->s'.heap.get? b=some o)->s'.gens=s.gens->s'.drawn=s.drawn->s'.os=s.os->s.toks<=s'.toks->
  ItemsOf (λi v=>∃C x,kvs[i]?=some (C,x)/\knd.is C v=true) g kvs.length->Q g.toList s'):wpAny (model prog w) A (collect (.ref d)) Q E s:=by
 let L:Obj:={ cls:=.type "list",data:=.seq ([]:List Value).toArray }
 have t:=u.lt_size;have h:s.heap.objs.size≠d:=wZ t;unfold collect;refine ae (wpAny_runValue (Nd F.entry_proto_collect ?_));rw [Around.under_plainId F.plain_proto_collect _];refine (show wpAny _ A.in1 (newList []>>=λx1=>again (.builtin "list.__iadd__" ⟨[x1,.ref d],[]⟩)) _ _ s from ae (qN (aJ ⟨plainId_quiet F.plain_list_iadd _,Nd F.entry_list_iadd ?_⟩)));rw [Around.under_plainId F.plain_list_iadd _];have m:(s.heap.push L).DictAt knd d kvs ep:=u.push _;have O:({ s with heap:=s.heap.push L }:Shared).TypeIs (.ref d) "dict":=m.dictOf.typeIs (s:={ s with heap:=s.heap.push L });have J:(s.heap.push L).get? s.heap.objs.size=some L:=iT _ U;refine (show wpAny _ A.in1 (Builtin.List.listExtendWith (.ref s.heap.objs.size) (.ref d) (.ref s.heap.objs.size)) _ _ { s with heap:=s.heap.push L } from ?_);unfold Builtin.List.listExtendWith;refine ae (Fo O ?_);rw [if_neg (by rw [show Builtin.List.listSameRef (.ref s.heap.objs.size) (.ref d)=false by simp [Builtin.List.listSameRef,h]];decide)];refine ae (wpAny_pyIter_dict T m (ae (kX ?_)));unfold Builtin.List.listLengthHint
 let I:Addr:=(s.heap.push L).objs.size
 let a:Heap:=(s.heap.push L).push { cls:=.type "dict_keyiterator",data:=.fields #[.ref d,.int 0 0,.int kvs.length 0,.int ep 0] }
 have y:a.DictAt knd d kvs ep:=m.push _;have j:({ s with heap:=a }:Shared).TypeIs (.ref d) "dict":=y.dictOf.typeIs (s:={ s with heap:=a });refine ae (wpAny_specialOf (name:=Str.ofString "__len__") j F.slot_dict_len.lookup ?_);generalize l:("dict.__len__":String)=B
 (fail_if_success (clear l B))
 wp_delta
 rw [show splitId B=some ("dict","__len__") from by subst l;decide+kernel];subst l;refine ae (wpAny_isInstance (b:=true) j (by rw [isSubtype_type];kernel_rfl) ?_);rw [if_neg (by decide)];refine (λ(H:wpAny (model prog w) A.in1 (ite _ _ _) _ _ _)=>H) ?_;rw [if_pos (by decide+kernel)];refine ae (Fo j (aJ ?_));rw [if_pos (by decide+kernel)]
 let S:Addr:=s.heap.objs.size
 have r:S≠I:=gv (show s.heap.objs.size<(s.heap.push L).objs.size by rw [Fg];exact Bx _);have V:d≠I:=gv (show d<(s.heap.push L).objs.size by rw [Fg];exact By t);have p:a.get? S=some L:=cZ _ J;have q:=qc (Obj.mapSeq (·.push Value.none)) p U;have N:=qc (Obj.mapSeq (·.pop)) q U;have n:∀b o,b≠S->a.get? b=some o->((a.update S (Obj.mapSeq (·.push Value.none))).update S (Obj.mapSeq (·.pop))).get? b=some o:=
  λb o c e=>(iS _ _ (aK c)).trans ((iS _ _ (aK c)).trans e)
 have W:=(Walks.dictKeys (knd:=knd) (prog:=prog) (w:=w) (A:=A.in1) X I d V kvs ep).toS;have Y:a.IsKeyIter I d 0 kvs.length ep:=⟨_,iT _ U,U,U⟩;refine ae (qL (ae (show wpAny _ A.in1 (updateSeq S (·.push .none)>>=λ_=>updateSeq S (·.pop)) _ _ { s with heap:=a } from ae (wpAny_updateSeq (s:={ s with heap:=a }) p U (wpAny_updateSeq (s:={ s with heap:=a.update S (Obj.mapSeq (·.push Value.none)) }) q U ?_)))));refine aJ ⟨plainId_quiet F.plain_extend_loop _,codeAny_extend_loopS W Z S (λz=>(f'.mp z).elim r λz=>h (ig.mp z)) _ kvs.length 0 _ _ _ U (dZ _)
  ⟨Y.at λo e=>n _ _ (aK r) e,y.at' λo e=>n _ _ (aK h) e⟩ N (ItemsOf.nil _) λs' g x2 f M R=>?_⟩
 refine (show wpAny _ A (load S>>=_) _ _ s' from ae (wpAny_load M (aJ (G s' g (λb o e=>?_) f.gens f.drawn f.os f.toks R))));have c:b<s.heap.objs.size:=d9 e;refine f.heap b o (λz=>?_) (n b o (gv c) (cZ _ (cZ _ e)));rcases f'.mp z with z | z
 ·exact gv c z
 ·have z:=ig.mp z;have D:I=s.heap.objs.size+1:=Fg _ _;exact jA _ (ie c (by rw [z,D];exact lb _))
end
theorem Qr (vs:List Value):(vs.toArray.zip vs.toArray).toList=vs.map λv=>(v,v):=by
 rw [Array.toList_zip];show vs.zip vs=_
 induction vs with
 | nil=>rfl
 | cons v r a=>simp [a]
section
variable [SK]
theorem HC (f:X.Perm (vs.toArray.zip vs.toArray)) (l:eY X 0 (vs.toArray.zip vs.toArray).size):
 (X.map (·.2)).toList.Perm vs/\(X.map (·.2)).toList.Pairwise λu v=>N (u,u)<=N (v,v):=by
 have a:=Array.perm_iff_toList_perm.mp f;rw [Qr] at a;have m:X.size=(vs.toArray.zip vs.toArray).size:=f.size_eq;have b:∀p∈X.toList,p=(p.2,p.2):=λp k=>by obtain ⟨v,_,rfl⟩:=fY.mp (a.mem_iff.mp k);rfl
 rw [Array.toList_map];refine ⟨by simpa [List.map_map,Function.comp_def] using a.map (·.2),?_⟩;rw [tm,BE];intro i j c d h;have g:i<X.size:=by simpa using c
 have e:j<X.size:=by simpa using d
 have:=l i j (dZ _) (bf h) (m▸e);rw [qX (qb X i g),qX (qb X j e)] at this;rw [<-b _ (xi c),<-b _ (xi d)];exact this
theorem Zz {P:PySem.Fin->Shared->Prop} (m:s.heap.get? a=some (seqObj "list" vs.toArray n)) (r:vs.length<=sizeLine)
 (J:2<=vs.length->∀(h':Heap) (Q:SortKind->Shared->Prop),(∀b o,b≠a->s.heap.get? b=some o->h'.get? b=some o)->Q SK.kind { s with heap:=h' }->
  wpAny (model prog w) A (keyKind' vs.toArray) Q E { s with heap:=h' })
 (L:∀h':Heap,(∀b o,b≠a->s.heap.get? b=some o->h'.get? b=some o)->gJ prog w A E { s with heap:=h' })
 (M:∀v∈vs,eL (v,v))
 (h:∀t:Array Value,t.toList.Perm vs->(t.toList.Pairwise λu v=>N (u,u)<=N (v,v))->P (.done (.ret .none)) { s with heap:=sortedHeap s.heap a vs t }):
 wpAny (model prog w) A (Builtin.«list.sort» ⟨[.ref a],[]⟩) P E s:=by
 rw [list_sort_plain];obtain ⟨g,y⟩:∃g,(s.heap.update a (Obj.mapSeq λ_=> #[])).get? a=some (seqObj "list" #[] g):=⟨_,get?_update_seq m (λ_=> #[])⟩
 let d:Heap:=((s.heap.update a (Obj.mapSeq λ_=> #[])).push (seqObj "tuple" vs.toArray 0)).push (seqObj "list" #[] 0)
 have B:∀b o,b≠a->s.heap.get? b=some o->d.get? b=some o:=λb o H e=>
  cZ _ (cZ _ ((iS _ _ (aK H)).trans e))
 have z:d.get? a=some (seqObj "list" #[] g):=cZ _ (cZ _ y);have O:vs.toArray.size=vs.length:=by simp
 refine ae (listItems_at m U (ae (listUpdate_at m U (ae (seqEpoch_at y U (ae (wpAny_newTuple (ae (wpAny_newList (kX ?_) (dZ _))) r)))) (by rw [O];exact r) (dZ _))));have x:∀c:SortSt,(arrOf c).Perm (vs.toArray.zip vs.toArray)->failedOf c=none->eY (arrOf c) 0 (vs.toArray.zip vs.toArray).size->
  wpAny (model prog w) A (do
   let T:=(<-seqEpoch a) !=g
   Builtin.List.listUpdate (.ref a) λ_=>(arrOf c).map (·.2)
   if let some e:=failedOf c then rule "list.sort.comparison-raised";throw e
   if T then rule "list.sort.modified";raiseError "ValueError" "list modified during sort"
   ret .none) P E { s with heap:=d }:=by
  intro c f l q;obtain ⟨C,S⟩:=HC f q;refine ae (seqEpoch_at z U (ae (listUpdate_at z U ?_ (dZ _) ?_)))
  ·rw [l];simp only [bne_self_eq_false,Bool.false_eq_true,if_false];exact aJ (h _ C S)
  ·have:=C.length_eq;rw [qg] at this;exact Nat.le_succ_of_le (this▸r)
 refine (show wpAny (model prog w) A _ P E { s with heap:=d } from ?_)
 by_cases k:vs.toArray.size<2
 ·dsimp only;rw [if_pos k,if_pos k];refine ae (aJ ?_);rw [StateT.run_pure];refine ae (aJ (x (SortSt.mk' general' (vs.toArray.zip vs.toArray) #[] 7 none) (Array.Perm.refl _) U ?_));intro i j _ V I;obtain rfl:i=j:=by simp at I;lia
  exact kE _
 ·dsimp only;rw [if_neg k,if_neg k];refine ae (J (by lia) d _ B ?_);have:=L d B;refine ae (gS (zAp (s:={ s with heap:=d }) (a₀:=vs.toArray.zip vs.toArray) (st:=SortSt.mk' SK.kind (vs.toArray.zip vs.toArray) #[] 7 none)
   (Q:=λ_ c=>(arrOf c).Perm (vs.toArray.zip vs.toArray)/\failedOf c=none/\eY (arrOf c) 0 (vs.toArray.zip vs.toArray).size)
   (λp f=>?_) ⟨Array.Perm.refl _,U,U⟩ U (by simp;lia) λc D F G=>⟨D,F,G⟩) ?_ λ_ _ e=>e)
  ·rw [Qr] at f;obtain ⟨v,R,rfl⟩:=fY.mp f;exact M v R
  ·rintro ⟨⟨⟩,c⟩ W ⟨rfl,f,l,q⟩;exact x c f l q
end
section
theorem RD {x:Value} {Q:Value->Shared->Prop} {R:Shared->List Value->Prop}
 (b:wpAny (model prog w) A.in1 (collect x) (λvs s1=>R s1 vs) E s)
 (h:∀s1 vs,R s1 vs->wpAny (model prog w) A.in1 (newList vs>>=λl=>holding [l] (call (.builtin "list.sort") [l])>>=λ_=>ret l) (λa s'=>∃r,a=.done (.ret r)/\Q r s') E s1):
 wpAny (model prog w) A (call (.builtin "sorted") [x]) Q E s:=by
 refine Calls.call_function_entry kind_sorted plain_sorted entry_sorted (args_sorted1 _) ?_;unfold Builtin.«sorted»;refine ae (m:=checkCount "sorted" 1 1 _) (aJ ?_);refine ae (gS b (λvs s1 c=>h s1 vs c) λ_ _ e=>e)
end
@[reducible] noncomputable def Aq:SK:=⟨λp=>numOf p.1,λp=>∃n t,p.1=.int n t,oneType'⟩
theorem ltI: @gJ Aq prog w A E s:=by
 refine @gJ.mk Aq prog w A E s ?_;rintro f p q Q e ⟨n,t,a⟩ ⟨n',g,b⟩ h;have c: @N Aq p=n:=by show numOf p.1=n;rw [a];rfl
 have d: @N Aq q=n':=by show numOf q.1=n';rw [b];rfl
 rw [c,d] at h;rw [lt'_eq,a,b];refine bc (qa ?_);rw [show kindOf f=oneType' from e,keyLt'_oneType];exact bc (uF (s_ (oneLt_int ⟨U,aZ h⟩)))
theorem ϕ (a:IntsAre vs ns) (b:2<=vs.length) (h:Q oneType' s):wpAny (model prog w) A (keyKind' vs.toArray) Q E s:=by
 match vs,b,a with
 | C::c::r,_,a=>rw [keyKind_ints a];exact aJ h
section
variable [sk:SK]
theorem Qt {vs:List Value} {Q:Value->Shared->Prop} (i:vs.length<=sizeLine)
 (n:2<=vs.length->∀(A:Around) (E:Value->Shared->Prop) (h':Heap) (Q:SortKind->Shared->Prop),(∀b o,s.heap.get? b=some o->h'.get? b=some o)->Q SK.kind { s with heap:=h' }->
  wpAny (model prog w) A (keyKind' vs.toArray) Q E { s with heap:=h' })
 (p:∀(A:Around) (E:Value->Shared->Prop) (h':Heap),(∀b o,s.heap.get? b=some o->h'.get? b=some o)->gJ prog w A E { s with heap:=h' })
 (q:∀v∈vs,eL (v,v))
 (h:∀(c:Array Value) (h':Heap),c.toList.Perm vs->(c.toList.Pairwise λu v=>N (u,u)<=N (v,v))->(∀b o,s.heap.get? b=some o->h'.get? b=some o)->
  (∃e,h'.get? s.heap.objs.size=some (seqObj "list" c e))->Q (.ref s.heap.objs.size) { s with heap:=h' }):
 wpAny (model prog w) A (newList vs>>=λl=>holding [l] (call (.builtin "list.sort") [l])>>=λ_=>ret l) (λk s'=>∃r,k=.done (.ret r)/\Q r s') E s:=by
 let d:Heap:=s.heap.push (seqObj "list" vs.toArray 0)
 have f:d.get? s.heap.objs.size=some (seqObj "list" vs.toArray 0):=iT _ U;have j:∀(h':Heap),(∀b o,b≠s.heap.objs.size->d.get? b=some o->h'.get? b=some o)->∀b o,s.heap.get? b=some o->h'.get? b=some o:=λh' a b o e=>
  a b o (gv (d9 e)) (cZ _ e)
 refine ae (wpAny_newList ?_ i);refine ae (kX (uG (s:={ s with heap:=d }) slot_list_sort ⟨_,f,U⟩ entry_list_sort (Zz f i (λm h' Q a t=>n m _ _ h' Q (j h' a) t) (λh' a=>p _ _ h' (j h' a)) q λc x y=>⟨_,U,?_⟩) (args_list_sort _)));refine aJ ⟨_,U,h c _ x y (λb o e=>?_) (sortedHeap_at f)⟩;have g:b<s.heap.objs.size:=d9 e;rw [sortedHeap_old (gv g) (show b<d.objs.size by show b<(s.heap.push _).objs.size;rw [Fg];exact By g)];exact cZ _ e
end
end TS
namespace L2
open PySem PySem.Spec PyProof.Rows TS
theorem PJ:∀{us:List Value} {ns:List Int},us.length=ns.length->(∀(j:Nat) v i,us[j]?=some v->ns[j]?=some i->∃t,v=.int i t)->IntsAre us ns
 | [],[],_,_=>.nil
 | u::us,n::ns,a,h=>by obtain ⟨t,rfl⟩:=h 0 u n U U;exact .cons _ _ (PJ (by simpa using a) λj v i b c=>h (j+1) v i (by simpa using b) (by simpa using c))
 | [],_::_,a,_=>by simp at a
 | _::_,[],a,_=>by simp at a
theorem Dq (h:IntsAre us ns):us.map numOf=ns/\∀u∈us,∃n t,u=.int n t:=by
 induction h with
 | nil=>exact ⟨U,λ_ h=>nomatch h⟩
 | cons n t h d=>
  obtain ⟨a,b⟩:=d;refine ⟨by rw [eN,a];rfl,λu c=>?_⟩;rcases f'.mp c with rfl | c
  ·exact ⟨n,t,U⟩
  ·exact b u c
theorem Rk:∀{us:List Value},(∀u∈us,∃n t,u=.int n t)->a_ ((us.map numOf).map V.int) us
 | [],_=>.nil
 | u::us,h=>by obtain ⟨n,t,rfl⟩:=h u gw;exact .cons ⟨t,U⟩ (Rk λv a=>h v (iO _ a))
theorem Inv.at_ (I:Inv X pins σ H s) (k:∀b o,s.heap.get? b=some o->s1.heap.get? b=some o) (c:s1.gens=s.gens) (a:s1.drawn=s.drawn) (d:s1.os=s.os):Inv X pins σ H s1:=by
 have e:s1={ s with heap:=s1.heap,toks:=s1.toks }:=by obtain ⟨h,g,f,j,i⟩:=s1;cases c;cases a;cases d;rfl
 rw [e];exact I.kept (t':=s1.toks) k
section
theorem Zl (hc:X.calm=true):oO X (.builtin "sorted") (λxs H Q=>∃(p:Addr) (kvs:List (Key×V)) (ns:List Int),xs=[.ref p]/\H p=some (.dK kvs)/\kvs.map (·.1)=ns.map Sum.inl/\
 ∀(l:Addr) (y:List Int),H l=none->y.Perm ns->y.Pairwise (·<=·)->Q (.ref l) (upd H l (.lst (y.map V.int)))):=by
 intro pins s σ H xs f Q I x2 h;obtain ⟨p,kvs,ns,rfl,hp,F,x1⟩:=h;obtain ⟨u,rfl,ru⟩:=xB x2;cases ru;obtain ⟨L,hs,vs,m,Z⟩:=(show d_ X.prog X.w H s.heap p (.dK kvs) from I.aA p _ hp);obtain ⟨ep,nZ⟩:=Z.dictAt;have hlv:kvs.length=vs.length:=j8 m;have Vi:kvs.length=ns.length:=by have:=congrArg List.length F;simpa using this
 refine RD (R:=λa f=>Inv X pins σ H a/\(∀b o,s.heap.get? b=some o->a.heap.get? b=some o)/\IntsAre f ns) (Zn (I.ok.hd hc) hs nZ (zP hlv L) λa acc k hg hd ho _ D=>?_) ?_
 ·refine ⟨I.at_ k hg hd ho,k,PJ (by rw [qg,D.1];lia) λj v i N O=>?_⟩;obtain ⟨key,x3,T,W⟩:=D.2 j v (by simpa using N);have d:(kvs.map (·.1))[j]?=some (Sum.inl i):=by rw [F,dA,O];rfl
  rw [dA] at d
  cases C:kvs[j]? with
  | none=>rw [C] at d;cases d
  | some kv=>
   rw [C] at d;obtain ⟨x4,J,B,_⟩:=IW m C;rw [T] at J;cases J;have e:kv.1=Sum.inl i:=ft d;rw [e] at B;subst B;rcases pf (show tE (Sum.inl i) v=true from W) with ⟨i',t,r,rfl⟩ | ⟨x',t,r,rfl⟩
   ·cases r;exact ⟨t,U⟩
   ·cases r
 ·rintro a f ⟨z,_,c⟩;have UZ:f.length=ns.length:=by rw [<-(Dq c).1];simp
  refine Qt (sk:=Aq) (s:=a) (vs:=f) (by lia) (λY A E g Q _ hq=>ϕ (s:={ a with heap:=g }) c Y hq) (λA E g _=>ltI) (λv m=>?_) λq g M o2 k2 x=>?_
  ·obtain ⟨n,t,e⟩:=(Dq c).2 v m;exact ⟨n,t,e⟩
  ·obtain ⟨e,x⟩:=x;have eD:∀u∈q.toList,∃n t,u=Value.int n t:=λu hu=>(Dq c).2 u (M.mem_iff.mp hu);have S:H a.heap.objs.size=none:=z.aA.fresh (ay _);have G:(q.toList.map numOf).Perm ns:=by rw [<-(Dq c).1];exact M.map numOf
   refine ⟨.ref a.heap.objs.size,_,z.laid (t':=a.toks) k2 (ay _) (show d_ X.prog X.w _ g _ (.lst ((q.toList.map numOf).map V.int)) from ⟨?_,q.toList,e,Rk eD,by rw [x]⟩),U,x1 _ _ S G ?_⟩
   ·rw [az,G.length_eq];exact zP Vi L
   ·rw [tm];exact o2
end
noncomputable def ue (a b m:Int):HO:=.tup [.int a,.int b,.int m]
noncomputable def yK (H:Hp):Value->Int
 | .ref q=>match H q with
  | some (.tup [.int a,.int b,_])=>a*64+b
  | _=>0
 | _=>0
@[reducible] noncomputable def ui (H:Hp) (g:Int->Int->Int):SK:=
 ⟨λp=>yK H p.1,λp=>∃q a b,p.1=.ref q/\H q=some (ue a b (g a b))/\0<=a/\a<64/\0<=b/\b<64,tuples' true⟩
theorem Ck (h:H q=some (ue a b m)):yK H (.ref q)=a*64+b:=by show (match H q with | some (.tup [.int a,.int b,_])=>a*64+b | _=>0)=_;rw [h];rfl
section
def vz (H:Hp) (h:Heap):Prop:=∀q a b m,H q=some (ue a b m)->∃c d e o n,h.get? q=some o/\o.cls=.type "tuple"/\o.data=.seq #[.int a c,.int b d,.int m e] n
theorem vz.keep (x:vz H h) (k:∀b o,h.get? b=some o->h'.get? b=some o):vz H h':=λq a b m e=>by obtain ⟨f,g,i,o,n,c,d⟩:=x q a b m e;exact ⟨f,g,i,o,n,k _ _ c,d⟩
theorem zAy (ok:dq P w H h):vz H h:=λq a b m e=>by obtain ⟨_,l,c,o,d,f,n,g⟩:=(show d_ P w H h q (ue a b m) from ok q _ e);rcases c with _ | ⟨⟨i,rfl⟩,c⟩;rcases c with _ | ⟨⟨j,rfl⟩,c⟩;rcases c with _ | ⟨⟨k,rfl⟩,c⟩;cases c;exact ⟨i,j,k,o,n,d,f,g⟩
theorem ltT (j:vz H s.heap): @gJ (ui H g) prog w A E s:=by
 refine @gJ.mk (ui H g) prog w A E s ?_;rintro C p q Q t ⟨x,a,b,f,k,_,_,R,T⟩ ⟨y,a',b',i,l,M,O,S,V⟩ h;have m: @N (ui H g) p=a*64+b:=by show yK H p.1=_;rw [f,Ck k]
 have o: @N (ui H g) q=a'*64+b':=by show yK H q.1=_;rw [i,Ck l]
 rw [m,o] at h;obtain ⟨D,F,G,X,n,u,_,v⟩:=j x _ _ _ k;obtain ⟨I,J,L,Y,W,z,_,B⟩:=j y _ _ _ l;rw [lt'_eq,f,i];refine bc (qa ?_);rw [show kindOf C=tuples' true from t];refine bc (uF (s_ (PySem.W.kat_lt u v z B ?_)));show PySem.W.KatLex prog w A true (decide (3<3)) _ [(.int a D,.int a' I),(.int b F,.int b' J),(.int (g a b) G,.int (g a' b') L)] 0 s;refine PySem.W.kat_cons (FV (PySem.W.kat_go (λe=>PySem.W.kat_yes ?_) λe=>PySem.W.kat_no ?_))
 ·have d:a=a':=by simpa using e
  subst d;refine PySem.W.kat_cons (FV (PySem.W.kat_go (λe=>PySem.W.kat_yes ?_) λe=>PySem.W.kat_no ?_))
  ·have r:b=b':=by simpa using e
   subst r;refine PySem.W.kat_cons (FV (PySem.W.kat_go (λ_=>PySem.W.kat_yes (PySem.W.kat_nil ⟨U,aZ ?_⟩)) λe=>absurd e (by simp)));have:decide (a*64+b<a*64+b)=decide (3<3):=by simp
   rw [<-this];exact h
  ·have:decide (a*64+b<a*64+b')=decide (b<b'):=by
    by_cases c:b<b'
    ·rw [eO c,eO (by lia)]
    ·rw [eE c,eE (by lia)]
   rw [this] at h;exact PySem.W.kat_one _ _ (lt_int (show _ from ⟨U,aZ h⟩))
 ·have d:a≠a':=by simpa using e
  have:decide (a*64+b<a'*64+b')=decide (a<a'):=by
   by_cases c:a<a'
   ·rw [eO c,eO (by lia)]
   ·rw [eE c,eE (by lia)]
  rw [this] at h;exact oneLt_int ⟨U,aZ h⟩
theorem ϖ (C:vz H s.heap) {vs:List Value} {Q:SortKind->Shared->Prop} (d:∀v∈vs,@eL (ui H g) (v,v)) (G:2<=vs.length) (h:Q (tuples' true) s):wpAny (model prog w) A (keyKind' vs.toArray) Q E s:=by
 have F:∀l:List Value,(∀v∈l,@eL (ui H g) (v,v))->∃c,W.KatTups s.heap l c/\c.length=l.length/\∀f∈c,∃n t,f=Value.int n t:=by
  intro l
  induction l with
  | nil=>exact λ_=>⟨[],W.KatTups.nil,U,λ_ h=>nomatch h⟩
  | cons v r D=>
   intro m;obtain ⟨c,j,p,k⟩:=D λv d=>m v (iO _ d);obtain ⟨q,a,b,e,B,_⟩:=m v gw;obtain rfl:v=.ref q:=e;obtain ⟨u,I,J,o,n,x,y,z⟩:=C q _ _ _ B;refine ⟨.int a u::c,W.KatTups.cons x y z U j,by simp [p],λf i=>?_⟩;rcases f'.mp i with rfl | i
   ·exact ⟨a,u,U⟩
   ·exact k f i
 obtain ⟨c,j,p,k⟩:=F vs d;exact W.kat_kind (T:=.type "int") j (by lia) (λv d=>by obtain ⟨n,t,rfl⟩:=k v d;exact W.Looks.of_pure U) (by decide) h
end
section
theorem zBi {a:List Addr} {us:List Value} (h:a_ (a.map V.ref) us):us=a.map Value.ref:=by
 induction a generalizing us with
 | nil=>cases h;rfl
 | cons p a b=>
  cases h with
  | cons r t=>
   cases r;rw [eN,b t]
theorem Rl:∀(a:List Addr),a_ (a.map V.ref) (a.map Value.ref)
 | []=>.nil
 | p::a=>.cons U (Rl a)
theorem Zm:oO X (.builtin "sorted") (λxs H Q=>∃(p:Addr) (ps:List Addr) (g:Int->Int->Int),xs=[.ref p]/\H p=some (.lst (ps.map V.ref))/\
 (∀q∈ps,∃a b,H q=some (ue a b (g a b))/\0<=a/\a<64/\0<=b/\b<64)/\
 ∀(l:Addr) (c:List Addr),H l=none->c.Perm ps->(c.Pairwise λx y=>yK H (.ref x)<=yK H (.ref y))->Q (.ref l) (upd H l (.lst (c.map V.ref)))):=by
 intro pins s σ H xs u Q I r h;obtain ⟨p,ps,g,rfl,S,T,q⟩:=h;obtain ⟨x3,rfl,ru⟩:=xB r;cases ru;obtain ⟨i,its,x1,rv,J⟩:=(show d_ X.prog X.w H s.heap p (.lst (ps.map V.ref)) from I.aA p _ S);rw [az] at i;obtain rfl:=zBi rv;refine RD (R:=λs1 u=>Inv X pins σ H s1/\u=ps.map Value.ref) (collect_list (vs:=ps.map Value.ref) ⟨_,J,U,x1,U⟩ ⟨I.at_ (s1:={ s with heap:=_ }) (λb x2 e=>?_) U U U,U⟩ (by simpa using i)) ?_
 ·have O:b<s.heap.objs.size:=d9 e;rw [Heap.get?_update_ne _ _ _ _ (gv O)];exact cZ _ e
 ·rintro s1 u ⟨j,rfl⟩;have F:vz H s1.heap:=zAy j.aA;have B:∀v∈ps.map Value.ref,@eL (ui H g) (v,v):=λv f=>by
   obtain ⟨x,Y,rfl⟩:=fY.mp f;obtain ⟨a,b,N,k⟩:=T x Y;exact ⟨x,a,b,U,N,k⟩
  refine Qt (sk:=ui H g) (s:=s1) (by simpa using i) (λk A E d Q n W=>ϖ (s:={ s1 with heap:=d }) (F.keep n) B k W) (λA E d n=>ltT (s:={ s1 with heap:=d }) (F.keep n)) B λG d o t k2 m=>?_;obtain ⟨e,m⟩:=m;obtain ⟨c,D⟩:∃c:List Addr,G.toList=c.map Value.ref:=by
   have:∀l:List Value,(∀v∈l,v∈ps.map Value.ref)->∃c:List Addr,l=c.map Value.ref:=by
    intro l
    induction l with
    | nil=>exact λ_=>⟨[],U⟩
    | cons v r Z=>
     intro z;obtain ⟨c,e⟩:=Z λv f=>z v (iO _ f);obtain ⟨x,_,L⟩:=fY.mp (z v gw);exact ⟨x::c,by rw [eN,e,L]⟩
   exact this _ λv f=>o.mem_iff.mp f
  rw [D] at o t;have hinj:Function.Injective Value.ref:=λa b e=>by cases e;rfl
  have C:c.Perm ps:=by have:=o.map (λv:Value=>match v with | .ref a=>a | _=>0);simpa [List.map_map,Function.comp_def] using this
  have M:H s1.heap.objs.size=none:=j.aA.fresh (ay _);refine ⟨.ref s1.heap.objs.size,_,j.laid (t':=s1.toks) k2 (ay _) (show d_ X.prog X.w _ d _ (.lst (c.map V.ref)) from ⟨?_,G.toList,e,by rw [D];exact Rl c,by rw [m]⟩),U,q _ _ M C ?_⟩
  ·rw [az,C.length_eq];exact i
  ·rw [tm] at t;exact t
end
open PySem PySem.Spec PyProof.Rows
def Ϝ:V->Option Int->Option Int->Hp->VK->Prop:=λx d c H Q=>∃a b,x=.ref a/\H a=some (.tup b)/\
 ¬(cn b.length 0 d=0/\cn b.length b.length c=b.length)/\∀p,H p=none->Q (.ref p) (upd H p (.tup (kG b d c)))
theorem zBa:GU X Ϝ:=by intro i s r H x v n o g d m Q I l f j k h;obtain ⟨a,p,e,b,c,q⟩:=h;exact Cf i s r H x v n o g d m Q I l f j k ⟨a,p,e,dB.of b,c,q⟩
end L2
namespace Y0
open PySem L2
seal PE PA PT PS eS PG me PI PO
seal kT i6 iA gd hQ il i9 i8 gm a8
abbrev iU:=Nat×Nat×Int
def ik (H:Hp) (q:Addr) (x:iU):Prop:=H q=some (ue x.1 x.2.1 x.2.2)
theorem ik.same (h:ik H q x) (s:a0 H H'):ik H' q x:=s _ _ h
def tZ (H:Hp) (q:Addr):iU:=match H q with
 | some (.tup [.int a,.int b,.int v])=>(a.toNat,b.toNat,v)
 | _=>(0,0,0)
theorem OW (h:ik H q x):tZ H q=x:=by unfold tZ;rw [h];obtain ⟨a,b,v⟩:=x;rfl
theorem Xj {a:List Addr} {L:List iU} (h:Paired (ik H) a L):L=a.map (tZ H):=by
 induction h with
 | nil=>rfl
 | cons r t b=>rw [eN,<-b,OW r]
theorem Pw:∀{a:List Addr},(∀q∈a,ik H q (tZ H q))->Paired (ik H) a (a.map (tZ H))
 | [],_=>.nil
 | q::_,h=>.cons (h q gw) (Pw λr b=>h r (iO _ b))
theorem YJ {l:List α} {m:List β} (k:Paired F l m):∀x∈l,∃y∈m,F x y:=by
 induction k with
 | nil=>intro x h;cases h
 | cons r t b=>
  intro x h;rcases f'.mp h with rfl | h
  ·exact ⟨_,gw,r⟩
  ·obtain ⟨y,a,c⟩:=b x h;exact ⟨y,iO _ a,c⟩
def vC (st:MU.St) (t:Bool) (k:MU.Key):Option iU:=if k.1=t then (val st k).map λv=>(k.2.1,k.2.2,v) else none
structure jB (st:MU.St) (t:Bool) (L:List iU):Prop where
 up:L.Pairwise λx y=>((x.1:Int)*64+x.2.1)<=((y.1:Int)*64+y.2.1)
 has:∀a b v,(a,b,v)∈L↔val st (t,a,b)=some v
 once:(L.map λx=>(x.1,x.2.1)).Nodup
def OB (C:Addr):Sp:=λg H Q _=>∃(p e f d:Addr) (n:Nat) (F:MU.cS) (b:MU.St) (t:Bool),g=[.ref p,.str (l8 t)]/\gb C H p e f d n F b/\bV n b/\n<=8/\b.rows.length<=16500000/\
 ∀l a c L,H l=none->a0 H a->a l=some (.lst (c.map V.ref))->Paired (ik a) c L->jB b t L->Q (.ref l) a
theorem zB7 {kvs:List (List Key×V)} (h:∀kv∈kvs,∃k:MU.Key,kv.1=cw k):∃a:List MU.Key,kvs.map (·.1)=a.map cw:=by
 induction kvs with
 | nil=>exact ⟨[],U⟩
 | cons kv r d=>
  obtain ⟨a,e⟩:=d λkv c=>h kv (iO _ c);obtain ⟨k,b⟩:=h kv gw;exact ⟨k::a,by rw [eN,eN,e,b]⟩
theorem È:kG (kI x) (some 1) none=[V.int (x.a:Int),V.int (x.b:Int),V.int x.v]:=by unfold kG kI;rw [gE,show (some (1:Int))=some ((1:Nat):Int) from rfl,fh];rfl
theorem ϫ:¬(cn (kI x).length 0 (some 1)=0/\cn (kI x).length (kI x).length none=(kI x).length):=λz=>by have h:=z.1;rw [show (some (1:Int))=some ((1:Nat):Int) from rfl,fh] at h;have e:(kI x).length=4:=U;rw [e] at h;cases h
theorem Se:∀{l:List α},(l.map f).Nodup->l.Nodup
 | [],_=>xg
 | a::l,h=>by rw [eN,List.nodup_cons] at h;exact List.nodup_cons.mpr ⟨λz=>h.1 (BB z),Se h.2⟩
theorem ϔ:decide (V.str (l8 a)=V.str (l8 b))=decide (a=b):=decide_eq_decide.mpr ⟨λq=>QO (V.str.inj q),λq=>by rw [q]⟩
section
theorem Ã:bR ě ě (aF aP):=cD
theorem Z9:hV (aF aP) ě (j4 [(".0",.local),("key",.local),("kind",.free),("self",.free)]) ["key","kind","self"] [none,some 1,some 0]:=j7
theorem ZN:(["key","kind","self"]:List Str).Nodup:=by decide+kernel
theorem sC {f C:Addr} {fd:FuncData} (F:dO K "best_drawn" "Closing.best_drawn" aP f fd) (T:o4 K mg C) (hS:mg "sorted"=none):aq P w K mg base aw 1 f fd ě (OB C):=by
 refine F.cY Ã λ_ x6 _ rE H _ x8 x7 hr x3=>?_;obtain ⟨p,be,rl,bd,x9,Fa,d,t,rfl,x1,x2,h8,hlen,x4⟩:=x3;have hu:=jl hr;refine ⟨_,au (cg (i7 Zm (by rfl) hS PyProof.Rows.boot_sorted (aY (Po (oA U (zBo (cI (pv 0) U)) Z9 (λcl ex s0 H0=>⟨cf 0 ZN,oW (cG fy (aE (pv 0)) (pv 1)),xS zBa (aE (cV di (rk (K:=K) U (pv 2) U) (jF hu (rk (K:=K) U (pv 2) U) (pv 0) (λ_ _=>rfl)))) (xN a7) xM⟩)))))),?_⟩;obtain ⟨dx,hp⟩:=x1.ins;obtain ⟨qs,kS,cp⟩:=x1.rows;obtain ⟨kvs,N,AG,jZ⟩:=x1.best;obtain ⟨ks,S⟩:=zB7 AG.2;have hkn:kvs.length=ks.length:=by have:=congrArg List.length S;simpa using this
 refine (aa U (cb hp T.cl T.nE qv ⟨bd,kvs,U,N,λpR o G jG=>?_⟩));rw [S] at pR;have knd:ks.Nodup:=Se pR;have known:∀kk∈ks,∃j x,d.best kk=some j/\ag d j=some x/\x.key=kk:=λkk R=>by
  have:(dJ kvs (cw kk)).isSome=true:=by
   rw [<-vk];have hm:cw kk∈kvs.map (·.1):=by rw [S];exact BB R
   obtain ⟨kv,n,r⟩:=fY.mp hm;exact List.any_eq_true.mpr ⟨kv,n,by simpa using r⟩
  rw [jZ] at this
  cases c:d.best kk with
  | none=>rw [c] at this;cases this
  | some j=>
   obtain ⟨x,n,r⟩:=x2.at_ _ _ c;exact ⟨j,x,U,n,r⟩
 have VW:bd≠p:=aI N hp nofun;have bdr:bd≠rl:=aI N kS nofun;have Wt:G≠bd:=λz=>by rw [z,ai] at jG;cases jG
 have V1:H G=none:=by rwa [ah Wt] at jG
 refine XJ (a:=bd) (o:=o) (kvs:=kvs) (λi gK Z=>∃v g L,gK=[v,some (.str (l8 t)),some (.ref p)]/\Z G=some (.lst (g.map V.ref))/\Paired (ik Z) g L/\L=(ks.take i).filterMap (vC d t)/\g.length<=i/\Z bd=some (.dh o (.dT kvs))/\∀b x,H b=some x->b≠bd->Z b=some x)
  ⟨none,[],[],U,ai,.nil,U,dZ _,by rw [ah (aK Wt),ai],λb x e D=>by rw [ah (av e V1),ah D];exact e⟩ ?_ ?_ ?_
 ·rintro i gK m _ ⟨v,g,L,rfl,_,_,_,_,e,_⟩;exact e
 ·rintro i kx vx q gK m hi k ⟨v,g,L,rfl,e2,sP,M,wy,J,A⟩;obtain ⟨kk,LR,rfl⟩:∃kk,ks[i]?=some kk/\kx=cw kk:=by
   have:=congrArg (λl=>l[i]?) S;simp only [dA,hi] at this
   cases R:ks[i]? with
   | none=>rw [R] at this;cases this
   | some kk=>rw [R] at this;exact ⟨kk,U,ft this⟩
  have hil:i<ks.length:=(eX.mp LR).1;have et:ks.take (i+1)=ks.take i++[kk]:=by rw [jb,LR];rfl
  obtain ⟨Y,a,b⟩:=kk;obtain ⟨j,x,AV,s,hxk⟩:=known _ (eR LR);have Ln:val d (Y,a,b)=some x.v:=by unfold val;rw [AV];show (ag d j).map _=_;rw [s];rfl
  refine (aa U (aD k U (aa U ⟨U,ct ?_⟩)));refine (show if decide (V.str (l8 Y)=V.str (l8 t))=true then _ else _ from ?_);rw [ϔ]
  by_cases ht:Y=t
  ·refine fu ht ?_;obtain ⟨q',m8,pw,pu,g1,_,_,g4,g5,_⟩:=Cu cp s;have nZ:ic (qs.map V.ref) (j:Int)=some (.ref q'):=je (by rw [dA,g1];rfl);have dg:eF m bd (.ref q) (some (.int (j:Int))):=.inr ⟨kvs,_,q,.inr ⟨o,J⟩,U,k,by rw [jZ,AV];rfl⟩;have Al:∀{b:Addr} {xs:List V},H b=some (.tup xs)->m b=some (.tup xs):=λe=>A _ _ e (aI e N nofun);refine (aa U (cb (A _ _ hp (aK VW)) T.cl T.nR qY (aa U (cb (A _ _ hp (aK VW)) T.cl T.nE qv (aa U ⟨bd,_,U,dg,gQ (A _ _ kS (aK bdr)) nZ (aD (Al g4) U ⟨_,U,pw,_,U,Al g5,ϫ,λB W=>?_⟩)⟩)))));rw [È];have Vl:=iq hxk;have e3:upd m B (.tup [V.int (x.a:Int),V.int (x.b:Int),V.int x.v]) B=some (.tup [V.int (x.a:Int),V.int (x.b:Int),V.int x.v]):=ai;have E:=aV (o:=.tup [V.int (x.a:Int),V.int (x.b:Int),V.int x.v]) W;generalize upd m B (.tup [V.int (x.a:Int),V.int (x.b:Int),V.int x.v])=I at*;have VI:=E _ _ e2;have nD:∀{b:Addr} {o:HO},I b=some o->o≠.lst (g.map V.ref)->upd I G (.lst (g.map V.ref++[.ref B])) b=some o:=λ{b o} e D=>by rw [ah (aI e VI D)];exact e
   have keep:∀b y,ik m b y->ik (upd I G (.lst (g.map V.ref++[.ref B]))) b y:=λb y e=>nD (E _ _ e) nofun;refine ⟨_,VI,?_,_,g++[B],L++[(a,b,x.v)],U,?_,?_,?_,?_,?_,λb' y e D=>?_⟩
   ·rw [az];have:=AG.1;exact ot (show g.length<=16500000 by lia) (by decide)
   ·rw [ai,dN];rfl
   ·refine yi (dM sP keep) (.cons ?_ .nil);have:ik I B (a,b,x.v):=by
     unfold ik ue;rw [e3,Vl.2.1,Vl.2.2]
    exact nD this nofun
   ·rw [et,B6,M];have:vC d t (Y,a,b)=some (a,b,x.v):=by
     unfold vC;rw [if_pos ht,Ln];rfl
    simp [this]
   ·rw [iD];show g.length+1<=i+1;exact vl wy
   ·exact nD (E _ _ J) nofun
   ·rw [ah (av e V1)];exact E _ _ (A _ _ e D)
  ·refine gL ht ⟨_,g,L,U,e2,sP,?_,by exact iC wy,J,A⟩;rw [et,B6,M];have:vC d t (Y,a,b)=none:=if_neg ht;simp [this]
 ·rintro gK m ⟨v,g,L,rfl,e2,sP,M,wy,J,A⟩;refine ⟨bd,o,_,J,λo x5 z=>?_,?_⟩
  ·have z:H bd=some (.dh o x5):=z;rw [N] at z;cases z
  have E:a0 H (upd m bd (.dT kvs)):=λb x e=>by
   by_cases c:b=bd
   ·subst c;rw [N] at e;cases e;exact ai
   ·rw [ah c];exact A _ _ e c
  have nb:∀{b:Addr} {x:HO},m b=some x->x≠.dh o (.dT kvs)->upd m bd (.dT kvs) b=some x:=λ{b x} e D=>by rw [ah (aI e J D)];exact e
  have e3:=nb e2 nofun;have A8:Paired (ik (upd m bd (.dT kvs))) g L:=dM sP λb y e=>nb e nofun;generalize upd m bd (.dT kvs)=I at*;have eD:ks.take kvs.length=ks:=by rw [hkn];exact hH
  rw [eD] at M;have Ld:∀a b v,(a,b,v)∈L↔val d (t,a,b)=some v:=λa b v=>by
   rw [M,qM]
   constructor
   ·rintro ⟨kk,R,e⟩;unfold vC at e
    by_cases W:kk.1=t
    ·rw [if_pos W] at e
     cases h:val d kk with
     | none=>rw [h] at e;cases e
     | some v'=>
      rw [h] at e;cases e;obtain ⟨t',Q,b'⟩:=kk;cases W;exact h
    ·rw [if_neg W] at e;cases e
   ·intro h;have c:∃j,d.best (t,a,b)=some j:=by
     unfold val at h
     cases k:d.best (t,a,b) with
     | none=>rw [k] at h;cases h
     | some j=>exact ⟨j,U⟩
    obtain ⟨j,hj⟩:=c;have:(dJ kvs (cw (t,a,b))).isSome=true:=by rw [jZ,hj];rfl
    rw [<-vk] at this;obtain ⟨kv,n,r⟩:=List.any_eq_true.mp this;have hm:cw (t,a,b)∈ks.map cw:=by rw [<-S];exact fY.mpr ⟨kv,n,by simpa using r⟩
    obtain ⟨kk,h3,h4⟩:=fY.mp hm;refine ⟨(t,a,b),PM h4▸h3,?_⟩;unfold vC;rw [if_pos rfl,h];rfl
  have small:∀q∈g,∃x∈L,ik I q x/\x.1<8/\x.2.1<8:=λq k=>by
   obtain ⟨x,s,O⟩:=YJ A8 q k;refine ⟨x,s,O,?_⟩;obtain ⟨a,b,v⟩:=x;have h:=(Ld a b v).mp s;unfold val at h
   cases k:d.best (t,a,b) with
   | none=>rw [k] at h;cases h
   | some j=>
    obtain ⟨w',n,r⟩:=x2.at_ _ _ k;have h3:=x2.lt _ _ n;have h4:=iq r;exact ⟨by show a<8;have:=h4.2.1;lia,by show b<8;have:=h4.2.2;lia⟩
  refine ⟨G,g,λa b=>(val d (t,a.toNat,b.toNat)).getD 0,U,e3,λq k=>?_,λl X hl AA Lo=>?_⟩
  ·obtain ⟨⟨a,b,v⟩,s,O,ha,c⟩:=small q k;refine ⟨a,b,?_,by exact kW (a+0),by lia,by exact kW (b+0),by lia⟩;show I q=some (ue a b ((val d (t,((a:Int)).toNat,((b:Int)).toNat)).getD 0));rw [l_,l_,(Ld a b v).mp s];exact O
  ·have LK:H l=none:=by
    cases q:H l with
    | none=>rfl
    | some x=>rw [E _ _ q] at hl;cases hl
   have s4:=aV (o:=.lst (X.map V.ref)) hl;have wI:∀q∈X,ik I q (tZ I q):=λq k=>by obtain ⟨x,_,O,_⟩:=small q (AA.mem_iff.mp k);rw [OW O];exact O
   have Vz:(X.map (tZ I)).Perm L:=by rw [Xj A8];exact AA.map _
   refine x4 l _ X (X.map (tZ I)) LK (E.trans s4) ai (dM (Pw wI) λq x e=>e.same s4) ⟨?_,λa b v=>?_,?_⟩
   ·rw [tm];refine N7 (λ{x y} s hy e=>?_) Lo;rw [Ck (wI x s),Ck (wI y hy)] at e;exact e
   ·rw [Vz.mem_iff];exact Ld a b v
   ·refine ((Vz.map _).nodup_iff).mpr ?_;rw [M];unfold List.Nodup;rw [tm];refine List.Pairwise.filterMap _ (λa Q qG b c b' u e=>qG ?_) knd;unfold vC at c u
    by_cases n:a.1=t
    ·by_cases r:Q.1=t
     ·rw [if_pos n] at c;rw [if_pos r] at u
      cases h:val d a with
      | none=>rw [h] at c;cases c
      | some v1=>
       cases UY:val d Q with
       | none=>rw [UY] at u;cases u
       | some v2=>
        rw [h] at c;rw [UY] at u;cases c;cases u;have e:(a.2.1,a.2.2)=(Q.2.1,Q.2.2):=e;exact Prod.ext (n.trans r.symm) e
     ·rw [if_neg r] at u;cases u
    ·rw [if_neg n] at c;cases c
end
end Y0
namespace L2
open PySem PySem.Spec PyProof.Rows
theorem OP:∀{bs:List Bool} {us:List Value} {i:Nat} {v:Value},a_ (bs.map V.bl) us->us[i]?=some v->∃b,bs[i]?=some b/\v=.bool b
 | [],_,i,v,h,e=>by cases h;simp at e
 | b::r,_,0,v,h,e=>by
  cases h with
  | cons q a=>simp at e;subst e;exact ⟨b,U,q⟩
 | b::r,_,i+1,v,h,e=>by
  cases h with
  | cons q a=>simp at e;simpa using OP a e
section
theorem QG (j:X.calm=true):oO X (.builtin "all") (λxs H Q=>∃(p:Addr) (bs:List Bool),xs=[.ref p]/\H p=some (.lst (bs.map V.bl))/\Q (.bl (bs.all id)) H):=by
 intro D s J H xs G Q I r h;obtain ⟨p,bs,rfl,t,q⟩:=h;obtain ⟨u,rfl,x⟩:=xB r;obtain rfl:u=Value.ref p:=x;obtain ⟨C,a,n,f,e⟩:=I.aA p _ t;have d:s.heap.IsList p a.toArray:=⟨_,e,U,n,U⟩;have o:p<s.heap.objs.size:=d9 e;have k:=I.ok.hd j;have m:a.length=bs.length:=by rw [<-f.length,az]
 refine call_all_walk (wpAny_pyIter_list d ?_);refine ⟨s.heap.objs.size,[s.heap.objs.size,p],[s.heap.objs.size],a.toArray.size,_,_,λi=>(bs[i]?).getD true,U,Walks.list (A:=X.A.in1) k _ p (gv o) a.toArray,
  ⟨⟨_,iT _ U,U,U⟩,d.push _⟩,λi v E z y g c=>?_,λB F l=>?_⟩
 ·obtain ⟨b,e,rfl⟩:=OP f (by simpa using g);simp only [e,Option.getD_some] at c;exact oH c
 ·have e:((List.range a.toArray.size).all λi=>(bs[i]?).getD true)=bs.all id:=by
   rw [f_,m];exact PyProof.Rows.LSm.range_all bs
  rw [e];exact ⟨.bl (bs.all id),H,I.kept (PyProof.Rows.LSm.kept_iter l),U,q⟩
end
end L2
namespace Y0
open PySem L2
seal kT i6 iA gd hQ il i9 i8 gm a8
def qU (N:Nat) (F:List (List Int)):List Int:=((List.range N).filter λ(i:Nat)=>decide (¬(i:Int)∈F.map oN)).map λ(i:Nat)=>(i:Int)
def S_ (C:Addr):Sp:=λc H Q _=>∃(p:Addr) (N:Nat) (b:Int) (T F:List (List Int)),c=[.ref p]/\jK C H p (N:Int) b T F/\dn (N:Int) b T F/\∀l a,H l=none->a0 H a->a l=some (.lst ((qU N F).map V.int))->Q (.ref l) a
section
theorem SE:bR ["self","ends"] xv (aF dz):=cD
theorem ñ:hV (aF dz) ["self","ends"] (j4 [(".0",.local),("fall",.local)]) ["fall"] [none]:=j7
theorem ò:hV (aF dz) ["self","ends"] (j4 [(".0",.local),("moment",.local),("ends",.free)]) ["moment","ends"] [none,some 1]:=j7
theorem ZS:(["moment","ends"]:List Str).Nodup:=by decide+kernel
theorem WT:qU (j+1) F=qU j F++(if (j:Int)∈F.map oN then [] else [(j:Int)]):=by
 unfold qU;rw [Fu,qO,dN]
 by_cases e:(j:Int)∈F.map oN
 ·rw [if_pos e,B9 (by simpa using e)];rfl
 ·rw [if_neg e,BA (by simpa using e)];rfl
theorem zBu:(qU j F).length<=j:=by unfold qU;rw [az];exact cP (ou _ _) (qI uM)
theorem vV (F:dO K "own" "Web.own" dz f fd) (X:mg "range"=none) (m:o1 K mg C):aq P w K mg base aw 1 f fd xv (S_ C):=by
 refine F.cY SE λ_ A _ x7 H _ x2 x1 hr h=>?_;obtain ⟨x5,N,la,rT,rF,rfl,⟨dx,ta,O,D,_,⟨G,R⟩⟩,y,k⟩:=h;have n8:=y.n2;refine ⟨_,cv (ra (i:=1) SE.nd U (Or.inr U) (oA U (gP (cI (pv 0) U)) ñ (λL M Y I=>⟨cf 0 UC,rq,cV (zB8 (K:=K) U) (pv 0) a7⟩)))
  (au (cg (oA U (tW U X (aY (cI (pv 0) U))) ò (λL M Y I=>⟨cf 0 ZS,oW (xO (Yt (K:=K) U) (pv 0) (pv 1) (by with_unfolding_all rfl)),pv 0⟩)))),?_⟩
 refine (aa U (cb D m.cl m.nF (Py _ _ _ _) ⟨O,U,⟨_,ar.of R.1⟩,λq B=>?_⟩));refine nt (xs:=G.map V.ref) (λj c d=>∃v,c=[v]/\d q=some (.lst (((rF.take j).map oN).map V.int))/\a0 H d) ⟨none,U,ai,aV B⟩ ?_ ?_ ?_
 ·rintro j c s _ ⟨v,rfl,_,a⟩;exact ar.of (a _ _ R.1)
 ·rintro j x8 c s W ⟨v,rfl,p,a⟩;obtain ⟨x6,r,rfl,_,E,T⟩:=R.get W;obtain ⟨a',b',x3,x4,rfl,_⟩:=y.f r (eR E);refine (aa U ⟨_,_,_,_,U,U,dB.of (a _ _ T),U,_,p,?_,_,U,?_,λb o e=>?_⟩)
  ·rw [az,az,hG];have:=y.fl;exact fe (by lia)
  ·rw [ai,jb,E,dN,dN];rfl
  ·rw [ah (av e B)];exact a _ _ e
 ·rintro c s ⟨v,rfl,p,a⟩;have S:rF.take (G.map V.ref).length=rF:=by
   rw [az,R.len];exact hH
  rw [S] at p;refine (aa U (cb (a _ _ D) m.cl m.nM (Cc _ _ _ _) ⟨(N:Int),U,by exact kW (N+Nat.succ 4611686018427387903),by lia,λz t=>?_⟩));refine DD (n:=((N:Nat):Int).toNat) (λj c d=>∃v,c=[v,some (.ref q)]/\d z=some (.lst ((qU j rF).map V.int))/\a0 s d) ⟨none,U,ai,aV t⟩ ?_ ?_
  ·rintro j c J Q ⟨v,rfl,g,l⟩;rw [l_] at Q;have Z:(0:Int)+(j:Int)=(j:Int):=by lia
   rw [Z];refine (aa U (aa U ⟨q,_,U,.inl (ar.of (l _ _ p)),U,Dn,ct ?_⟩));show if (!kR (V.int (j:Int)) ((rF.map oN).map V.int))=true then _ else _;rw [rp,WT];refine mi (λu=>?_) (λu=>?_)
   ·have x:¬(j:Int)∈rF.map oN:=by simpa using u
    refine (aa U ⟨_,g,?_,_,U,?_,λb o e=>?_⟩)
    ·rw [az];exact fe (by have:=zBu (j:=j) (F:=rF);lia)
    ·rw [ai,if_neg x,dN];rfl
    ·rw [ah (av e t)];exact l _ _ e
   ·have x:(j:Int)∈rF.map oN:=by simpa using u
    refine ⟨_,U,?_,l⟩;rw [if_pos x,lZ];exact g
  ·rintro c J ⟨v,rfl,g,l⟩;rw [l_] at g;exact k z _ (a.free t) (a.trans l) g
end
end Y0
namespace HD
abbrev Tr:=Nat×Nat×Int
noncomputable def cm (c:List (Option Int)) (i:Nat):Option Int:=(c[i]?).getD none
noncomputable def jn (c:List (Option Int)) (d:Int) (a:List Nat) (b:Nat) (v:Int):Bool:=match cm c b with
 | some t=>decide (t<=d+v)
 | none=>decide (0<v) || (decide (v=0) && decide (b∈a))
noncomputable def hY (c:List (Option Int)) (a:Int) (F:MU.cS) (e:Nat) (v:Int):Bool:=(cm c e).isSome || match F e with
 | some f=>match cm c f.1 with
  | some t=>decide (v<=a-t)
  | none=>false
 | none=>false
noncomputable def lets (T M:List Tr) (F:MU.cS) (c:List (Option Int)) (a:Int) (m:Nat) (b:List Nat):Bool:=
 (T.filter λx=>decide (x.1=m)).all (λx=>jn c a b x.2.1 x.2.2) && (M.filter λx=>decide (x.1=m)).all λx=>hY c a F x.2.1 x.2.2
noncomputable def step (T M:List Tr) (F:MU.cS) (c:List (Option Int)) (a:Int) (l:List Nat):List Nat:=l.filter λm=>lets T M F c a m l
noncomputable def iter (f:List Nat->List Nat):Nat->List Nat->List Nat
 | 0,l=>l
 | k+1,l=>iter f k (f l)
theorem cO (f:List Nat->List Nat):∀(k:Nat) (l:List Nat),iter f (k+1) l=f (iter f k l)
 | 0,_=>rfl
 | k+1,l=>cO f k (f l)
theorem IF (f:List Nat->List Nat):∀(j k:Nat) (l:List Nat),iter f (j+k) l=iter f j (iter f k l)
 | j,0,l=>rfl
 | j,k+1,l=>IF f j k (f l)
theorem IG (h:f l=l):∀k,iter f k l=l
 | 0=>rfl
 | k+1=>by rw [cO,IG h k,h]
section
theorem jQ (l:List Nat):(step T M F c now l).length<=l.length:=ou _ _
theorem step_same (h:(step T M F c now l).length=l.length):step T M F c now l=l:=List.filter_sublist.eq_of_length h
theorem sU (d:step T M F c now (iter (step T M F c now) j l)=iter (step T M F c now) j l) (e:step T M F c now (iter (step T M F c now) k l)=iter (step T M F c now) k l):iter (step T M F c now) j l=iter (step T M F c now) k l:=by
 have a:iter (step T M F c now) (j+k) l=iter (step T M F c now) k l:=by rw [IF,IG e]
 have b:iter (step T M F c now) (k+j) l=iter (step T M F c now) j l:=by rw [IF,IG d]
 rw [<-b,Fx,a]
theorem gF:∀(k:Nat) (l:List Nat),∀m∈iter (step T M F c now) k l,m∈l
 | 0,_,_,h=>h
 | k+1,l,m,h=>(List.mem_filter.mp (gF k _ m h)).1
end
noncomputable def af (l:List Nat) (t:Int) (c:List (Option Int)):List (Option Int):=l.foldl (λc e=>c.set e (some t)) c
theorem aW (t:Int):∀(l:List Nat) (c:List (Option Int)),(af l t c).length=c.length
 | [],_=>rfl
 | e::l,c=>by show (af l t (c.set e (some t))).length=_;rw [aW t l,Nc]
theorem iY:af (l++m) t c=af m t (af l t c):=GC
theorem Ϡ (h:e<c.length):cm (c.set e o) i=if i=e then o else cm c i:=by
 unfold cm
 by_cases a:i=e
 ·subst a;rw [if_pos rfl,FL h];rfl
 ·rw [if_neg a,Nk (λz=>a z.symm)]
theorem fm:∀{l:List Nat} {c:List (Option Int)},(∀e∈l,e<c.length)->cm (af l t c) i=if i∈l then some t else cm c i
 | [],_,_=>by rw [if_neg nofun];rfl
 | e::l,c,h=>by
  show cm (af l t (c.set e (some t))) i=_;rw [fm λx d=>by rw [Nc];exact h x (iO _ d),Ϡ (h e gw)]
  by_cases a:i∈l
  ·rw [if_pos a,if_pos (iO _ a)]
  ·rw [if_neg a]
   by_cases b:i=e
   ·rw [if_pos b,if_pos (by rw [b];exact gw)]
   ·rw [if_neg b,if_neg λz=>by rcases f'.mp z with y | y;exact b y;exact a y]
end HD
namespace L2
open PySem PySem.Spec PyProof.Rows
noncomputable def Itm (a:Addr) (o:Obj) (kvs:List (Key×V)):It:=
 ⟨λi H=>H a=some (.dh o (.dK kvs))/\i<kvs.length,λi H x b=>b=H/\∃k v,x=kV k/\kvs[i]?=some (k,v),λi H=>H a=some (.dh o (.dK kvs))/\kvs.length<=i⟩
theorem WU (h:Pairs (kM P w) C vs):∀{i:Nat} {x:Key×Value},vs[i]?=some x->∃e,C[i]?=some e/\tE x.1 e.key=true:=by
 induction h with
 | nil=>intro i x a;simp at a
 | cons b d _ c=>
  intro i x a
  cases i with
  | zero=>simp at a;subst a;exact ⟨_,U,b⟩
  | succ i=>simpa using c (by simpa using a)
theorem QL (I:Inv X pins σ H s) (h:H a=some (.dh o (.dK kvs))) (n:o.data=.dict C J):
 s.heap.get? a=some o/\C.size=kvs.length/\∀(i:Nat) (k:Key) (v:V),kvs[i]?=some (k,v)->∃(e:DictEntry),C[i]?=some e/\bQ (kV k) e.key:=by
 obtain ⟨g,_,_,E,l,B,u,r,j,z,c,d,m,A⟩:=(show d_ X.prog X.w H s.heap a (.dh o (.dK kvs)) from I.aA a _ h);rw [g] at j;cases j;rw [n] at c;cases c;refine ⟨g,?_,λi k v p=>?_⟩
 ·rw [<-qg,m.length,<-j8 l]
 ·obtain ⟨x,q,b,D⟩:=IW l p;obtain ⟨e,d,f⟩:=WU m q;refine ⟨e,by rw [<-B5];exact d,?_⟩;have b:k=x.1:=b;rw [<-b] at f;rcases pf f with ⟨i,t,rfl,e⟩ | ⟨y,t,rfl,e⟩
  ·exact ⟨t,e⟩
  ·exact ⟨t,e⟩
theorem YP {tg:Expr} (a it:Addr) (o:Obj) (kvs:List (Key×V)) {G:Array DictEntry} {F:Nat} (j:o.data=.dict G F):
 tY P w K tg (Itm a o kvs) [it] it (λi h=>h.IsKeyIter it a i G.size F) where
 mem:=by simp
 obj:=λi h c b f=>by
  have e:b=it:=by simpa using f
  subst e;obtain ⟨o,e,x1,d⟩:=c;exact ⟨o,e,λv z=>by rw [d] at z;cases z⟩
 keep:=λi h g c k=>c.at λo e=>k it (by simp) o e
 item:=by intro X x D u J i N s Q H E I l c A;subst x D u;obtain ⟨y,B⟩:=A;obtain ⟨C,L,W⟩:=QL I y j;obtain ⟨⟨k,v⟩,M⟩:∃p,kvs[i]?=some p:=⟨kvs[i],by simp [B]⟩;obtain ⟨e,Y,Z⟩:=W i k v M;obtain ⟨m,n,T,q,r,t⟩:=l it (by simp);refine Qa c C j Y λg O sb=>?_;have R:Inv X N Q H { s with heap:=g }:=I.turned (t':=s.toks) (λb o f e=>(sb.2 b f).trans e) m n q r t;exact ⟨_,U,letGo_keyiter (s':={ s with heap:=g }) O ⟨kV k,H,R,Z,⟨U,k,v,U,M⟩,O,λb f=>(l b f).1⟩⟩
 done:=by intro X x D u J i N s Q H E I l c A;subst x D u;obtain ⟨y,B⟩:=A;obtain ⟨C,L,_⟩:=QL I y j;obtain ⟨m,n,T,q,r,t⟩:=l it (by simp);exact Pa (xu J I) c C j (zev L B) λg S=>⟨U,I.turned (t':=s.toks) (λb o f e=>S b o f e) m n q r t⟩
 self:=λ_ _ _ _ _ c h=>wpAny_pyIter_keyiter c h
section
def ϣ (d:TE):TI:=λe H R=>d e H λx c=>∃a b,x=.ref a/\c a=some (.dK b)/\((b.map (·.1)).Nodup->∀o,R (Itm a o b) (upd c a (.dh o (.dK b))))
theorem W_ {d:Expr} {m:TE} (t:PE X d m):PI X tg d (ϣ m):=by
 intro C s G H R I h;refine ax (t C s G H _ I h) λv c F=>?_;obtain ⟨x,n,i,E,D⟩:=F;obtain ⟨a,g,e,l,q⟩:=D;subst e;cases E;obtain ⟨_,B,O,A,o,L,J,k,r,j,M,N,u⟩:=(show d_ X.prog X.w n c.heap a (.dK g) from i.aA a _ l);have y:(g.map (·.1)).Nodup:=by rw [R_ A λ_ _ z=>z.1];exact u
 refine P_ B k r j ?_;have f:=i.freeze l trivial k;refine ⟨c.heap.objs.size,[c.heap.objs.size],_,_,_,U,f.kept (t':=c.toks) λb o e=>cZ _ e,YP a _ o g j,⟨_,iT _ U,U,U⟩,λb p=>?_,q y o⟩;have e:b=c.heap.objs.size:=by simpa using p
 subst e;exact f.oe (ay _) (f.aA.fresh (ay _))
end
theorem XZ {a:Addr} {o:Obj} {kvs:List (Key×V)} {g:TG} {s:TS} {D:qR} {b:St} {H:Hp} (c:Nat->St->Hp->Prop) (h0:c 0 b H) (u:∀i b H,i<=kvs.length->c i b H->H a=some (.dh o (.dK kvs)))
 (z:∀i k v b H,kvs[i]?=some (k,v)->c i b H->g (kV k) b H λl h=>s { D with nx:=c (i+1),ct:=c (i+1),bk:=D.nx } l h) (t:∀b H,c kvs.length b H->D.nx b H):
 ∃W:Nat->Nat->St->Hp->Prop,(∃m,W 0 m b H)/\∀i m b H,W i m b H->
  ((Itm a o kvs).stop i H/\D.nx b H)\/((Itm a o kvs).go i H/\∃N:St->Hp->Prop,(∀j d,N j d->∃r,r<m/\W (i+1) r j d)/\∀x d,(Itm a o kvs).ub i H x d->g x b d λl h=>s { D with nx:=N,ct:=N,bk:=D.nx } l h):=by
 refine ⟨λi m b H=>m=kvs.length-i/\i<=kvs.length/\c i b H,⟨kvs.length,by simp,dZ _,h0⟩,?_⟩;rintro i m b H ⟨rfl,n,p⟩;have q:=u i b H n p
 by_cases f:i<kvs.length
 ·refine .inr ⟨⟨q,f⟩,c (i+1),λj d B=>⟨kvs.length-(i+1),rz f,U,f,B⟩,λx d y=>?_⟩;obtain ⟨e,k,v,rfl,A⟩:=y;subst e;exact z i k v b _ A p
 ·have e:i=kvs.length:=rA n f;subst e;exact .inl ⟨⟨q,ay _⟩,t b H p⟩
noncomputable def BI (b:Int) (n:Nat):It:=⟨λi _=>i<n,λi H x a=>a=H/\x=.int (b-i),λi _=>n<=i⟩
theorem Zu {a:Int} {i n:Nat} (l:i<n) (st:IsRangeIter s.heap it (a-(i:Nat)) ((n:Int)-(i:Nat)) (-1))
 (f:∀(t:Tok) h' k,IsRangeIter h' it (a-((i+1:Nat):Int)) ((n:Int)-((i+1:Nat):Int)) (-1)->(∀b o,b∉[it]->s.heap.get? b=some o->h'.get? b=some o)->Q (some (.int (a-(i:Nat)) t)) { s with heap:=h',toks:=k }):
 wpAny (model prog w) A (pyNext (.ref it)) Q E s:=by
 refine wpAny_pyNext_range_item st (by lia) λh' j h=>?_;refine f _ h' _ ?_ λb o g e=>h.extBut b o (λz=>g (by simp [z])) e;have c:a-((i+1:Nat):Int)=a-(i:Int)+ -1:=by lia
 have d:(n:Int)-((i+1:Nat):Int)=(n:Int)-(i:Int)-1:=by lia
 rw [c,d];exact j
theorem Y4 {M:Expr} (it:Addr) (y:Int) (n:Nat):tY P w K M (BI y n) [it] it (λi h=>IsRangeIter h it (y-(i:Nat)) ((n:Int)-(i:Nat)) (-1)) where
 mem:=by simp
 obj:=λi h a b c=>by
  have e:b=it:=by simpa using c
  subst e;exact ⟨_,a,λv z=>by
   have N:Data.fields _=Data.cell v:=z;cases N⟩
 keep:=λi h d a k=>k it (by simp) _ a
 item:=by intro X r x q _ i A s D H E I f a u;subst r x q;obtain ⟨g,j,_,l,m,p⟩:=f it (by simp);refine Zu u a λt d C B L=>?_;have F:Inv X A D H { s with heap:=d,toks:=C }:=I.turned (λb o c e=>L b o (by simpa using c) e) g j l m p;exact ⟨_,U,BW (s:={ s with heap:=d,toks:=C }) (n:="range_iterator") B U U (by decide) ⟨.int (y-i),H,F,⟨t,U⟩,⟨U,U⟩,B,λb c=>(f b c).1⟩⟩
 done:=by intro X r x q J i A s D H E I f a u;subst r x q;obtain ⟨g,j,_,l,m,p⟩:=f it (by simp);exact Sf (xu J I) a (by have:n<=i:=u;lia) λd G=>⟨U,I.turned (t':=s.toks) (λb o c e=>G b o c e) g j l m p⟩
 self:=λ_ _ _ _ _ a h=>wpAny_pyIter_rangeiter a h
theorem Xd {f:Int} {n:Nat} {g:TG} {o:TS} {D:qR} {a:St} {H:Hp} (c:Nat->St->Hp->Prop) (h0:c 0 a H)
 (s:∀i a H,i<n->c i a H->g (.int (f-i)) a H λk h=>o { D with nx:=c (i+1),ct:=c (i+1),bk:=D.nx } k h) (q:∀a H,c n a H->D.nx a H):
 ∃W:Nat->Nat->St->Hp->Prop,(∃m,W 0 m a H)/\∀i m a H,W i m a H->
  ((BI f n).stop i H/\D.nx a H)\/((BI f n).go i H/\∃N:St->Hp->Prop,(∀j b,N j b->∃l,l<m/\W (i+1) l j b)/\∀x b,(BI f n).ub i H x b->g x a b λk h=>o { D with nx:=N,ct:=N,bk:=D.nx } k h):=by
 refine ⟨λi m a H=>m=n-i/\i<=n/\c i a H,⟨n,by simp,dZ _,h0⟩,?_⟩;rintro i m a H ⟨rfl,r,p⟩
 by_cases d:i<n
 ·refine .inr ⟨d,c (i+1),λj b t=>⟨n-(i+1),rz d,U,d,t⟩,λx b y=>?_⟩;obtain ⟨e,y⟩:=y;subst e y;exact s i a _ d p
 ·have e:i=n:=rA r d;subst e;exact .inl ⟨ay _,q a H p⟩
theorem Pg (n:Nat):Builtin.Range.rangeSize ((n:Int)-1) (-1) (-1)=(n:Int):=by
 unfold Builtin.Range.rangeSize;rw [if_neg (by decide)]
 by_cases h:0<n
 ·rw [if_pos (by lia)];show ((n:Int)-1- -1-1) / 1+1=n;rw [Int.ediv_one];lia
 ·rw [if_neg (by lia)];lia
theorem X4 {n:Nat} (h:n<=20000000):Builtin.Range.small ((n:Int)-1) (-1) (-1)=true:=by unfold Builtin.Range.small;rw [Pg];simp [Builtin.Range.rangeFitsLong];lia
section
def iDn (b:TA):TI:=λd H R=>b d H λc a=>∃n:Nat,c=[.int ((n:Int)-1),.int (-1),.int (-1)]/\n<=20000000/\R (BI ((n:Int)-1) n) a
theorem Ym (y:Gl X "range") (z:X.mg "range"=none) (v:PA X [a,b,c] ta) (B:autoParam (starEach [a,b,c] X.env=[(false,eval a X.env),(false,eval b X.env),(false,eval c X.env)]) t10._auto_1) (k:autoParam (starEach [b,c] X.env=[(false,eval b X.env),(false,eval c X.env)]) t10._auto_1):
 PI X tg (.Call (.Name "range" p) [a,b,c] [] pos) (iDn ta):=by
 intro l s m H R I h;refine Call_ (xF I y z boot_range (Ga (ax (v pos l s m H _ I h) λJ d G=>?_) (by rw [B,k]) (by rw [k];rfl)));obtain ⟨L,j,u,F,C⟩:=G;obtain ⟨n,e,A,q⟩:=C;subst e
 cases F with
 | cons r f=>
  cases f with
  | cons D f=>
   cases f with
   | cons E f=>
    cases f;obtain ⟨t,rfl⟩:=r;obtain ⟨t',rfl⟩:=D;obtain ⟨g,rfl⟩:=E;refine call_range_3 (by decide) ?_ (Or.inl (PyProof.noPylong_small (by lia)));refine wpAny_pyIter_range (IsRange.new ..) (X4 A) ?_;have i:Inv X l m j { d with heap:=d.heap.push { cls:=.type "range",data:=.fields #[.int ((n:Int)-1) t,.int (-1) t',.int (-1) g] },toks:=d.toks }:=u.kept λb o e=>cZ _ e;refine ⟨(d.heap.push { cls:=.type "range",data:=.fields #[.int ((n:Int)-1) t,.int (-1) t',.int (-1) g] }).objs.size,[(d.heap.push { cls:=.type "range",data:=.fields #[.int ((n:Int)-1) t,.int (-1) t',.int (-1) g] }).objs.size],_,_,j,U,
     i.kept (t':=d.toks) λb o e=>cZ _ e,Y4 _ ((n:Int)-1) n,?_,λb x=>?_,q⟩
    ·show IsRangeIter _ _ (((n:Int)-1)-((0:Nat):Int)) ((n:Int)-((0:Nat):Int)) (-1);rw [show ((n:Int)-1)-((0:Nat):Int)=(n:Int)-1 by lia,show (n:Int)-((0:Nat):Int)=Builtin.Range.rangeSize ((n:Int)-1) (-1) (-1) by rw [Pg];lia];exact iT _ U
    ·have e:b=(d.heap.push { cls:=.type "range",data:=.fields #[.int ((n:Int)-1) t,.int (-1) t',.int (-1) g] }).objs.size:=by simpa using x
     subst e;exact i.oe (ay _) (i.aA.fresh (ay _))
end
section
end
section
theorem Sd:∀{ns:List Int} {us:List Value},a_ (ns.map V.int) us->IntsAre us ns
 | [],us,h=>by cases h;exact .nil
 | n::r,us,h=>by
  cases h with
  | cons q a=>
   obtain ⟨b,rfl⟩:=q;exact .cons _ _ (Sd a)
end
theorem WN:Wl X "list.count" (λx vs H Q=>∃(p:Addr) (ns:List Int) (k:Int),x=.ref p/\vs=[.int k]/\H p=some (.lst (ns.map V.int))/\Q (.int (ns.count k:Nat)) H):=by intro f s i H x vs v g Q I d c h;obtain ⟨p,ns,k,rfl,rfl,a,q⟩:=h;cases d;obtain ⟨u,rfl,t,rfl⟩:=c.one;obtain ⟨e,r,b,_⟩:=I.list (ar.of a);exact count_list_ints b.isList (Sd r) ⟨.int _,H,I.tok _,⟨_,U⟩,q⟩
end L2
namespace Y0
open PySem L2
seal PE PA PT PS eS PG me PI PO
seal kT i6 iA gd hQ il i9 i8 gm a8
structure mj (K:aO) (mg:Str->Option Value) (C:Addr):Prop where
 cl:mf K C
 nT:i4 K C "rule_ties"
 nW:i4 K C "rule_waits"
 nB:i4 K C "by_end"
 nO:i4 K C "own_moments"
 nC:i4 K C "came"
 nN:i4 K C "now"
def lz (c d a f b:Addr) (e:Int):List (Str×V):=[("rule_ties",.ref c),("rule_waits",.ref d),("by_end",.ref a),("own_moments",.ref f),("came",.ref b),("now",.int e)]
section
theorem h_t:(lz lt lw be ow ca now).lookup ("rule_ties":Str)=some (.ref lt):=by with_unfolding_all rfl
theorem h_w:(lz lt lw be ow ca now).lookup ("rule_waits":Str)=some (.ref lw):=by with_unfolding_all rfl
theorem wM:(lz lt lw be ow ca now).lookup ("by_end":Str)=some (.ref be):=by with_unfolding_all rfl
theorem h_o:(lz lt lw be ow ca now).lookup ("own_moments":Str)=some (.ref ow):=by with_unfolding_all rfl
theorem n_:(lz lt lw be ow ca now).lookup ("came":Str)=some (.ref ca):=by with_unfolding_all rfl
theorem wL:(lz lt lw be ow ca now).lookup ("now":Str)=some (.int now):=by with_unfolding_all rfl
theorem õ:aj "now" (.int v) (lz lt lw be ow ca now)=lz lt lw be ow ca v:=by with_unfolding_all rfl
end
def B' (H:Hp) (d:Addr) (F:MU.cS):Prop:=∃a:List (Key×V),Rd H d (.dK a)/\(a.length<=100/\∀b∈a,∃e:Nat,b.1=Sum.inl (e:Int))/\(∀e:Nat,F e=none->dJ a (.inl (e:Int))=none)/\∀(e:Nat) f,F e=some f->∃p,dJ a (.inl (e:Int))=some (.ref p)/\H p=some (.tup [.int (f.1:Int),.int f.2.1,.int f.2.2])
theorem Rd.same (h:Rd H a u) (s:a0 H H'):Rd H' a u:=by
 rcases h with h | ⟨o,h⟩
 ·exact .inl (s _ _ h)
 ·exact .inr ⟨o,s _ _ h⟩
theorem B'.same (h:B' H d F) (s:a0 H H'):B' H' d F:=by obtain ⟨j,a,b,c,g⟩:=h;refine ⟨j,Rd.same a s,b,c,λe f i=>?_⟩;obtain ⟨p,k,l⟩:=g e f i;exact ⟨p,k,s _ _ l⟩
noncomputable def ov:Option Int->V
 | none=>.aG
 | some t=>.int t
structure iQ (C:Addr) (H:Hp) (p lt lw be ow ca:Addr) (F:MU.cS) (T M:List iU) (own:List Nat) (c:List (Option Int)) (now:Int):Prop where
 ins:∃dx,H p=some (.ins C dx (lz lt lw be ow ca now))
 vH:∃ps,H lt=some (.lst (ps.map V.ref))/\Paired (ik H) ps T
 pj:∃ps,H lw=some (.lst (ps.map V.ref))/\Paired (ik H) ps M
 dW:B' H be F
 own:H ow=some (.lst (own.map λi:Nat=>V.int (i:Int)))
 cU:H ca=some (.lst (c.map ov))
theorem iQ.same {a:List Nat} {now:Int} (h:iQ C H p lt lw be ow ca F T M a c now) (s:a0 H H'):iQ C H' p lt lw be ow ca F T M a c now:=by obtain ⟨⟨b,d⟩,⟨n,f,g⟩,⟨o,i,j⟩,k,l,m⟩:=h;exact ⟨⟨b,s _ _ d⟩,⟨n,s _ _ f,dM g λq r e=>e.same s⟩,⟨o,s _ _ i,dM j λq r e=>e.same s⟩,k.same s,s _ _ l,s _ _ m⟩
theorem o8 {i:Nat} (h:i<c.length):ic (c.map ov) (i:Int)=some (ov (HD.cm c i)):=by refine je ?_;rw [dA,gI h];unfold HD.cm;rw [gI h];rfl
theorem qw:decide (ov o=V.aG)=o.isNone:=by
 cases o with
 | none=>rfl
 | some t=>exact eE λz=>nomatch z
structure dP where
 p:Addr
 lt:Addr
 lw:Addr
 be:Addr
 ow:Addr
 ca:Addr
 F:MU.cS
 T:List iU
 M:List iU
 own:List Nat
 c:List (Option Int)
 now:Int
def dP.At (C:Addr) (H:Hp) (a:dP):Prop:=iQ C H a.p a.lt a.lw a.be a.ow a.ca a.F a.T a.M a.own a.c a.now
theorem dP.At.same {C:Addr} {H H':Hp} {a:dP} (h:a.At C H) (s:a0 H H'):a.At C H':=iQ.same h s
def P7 (C:Addr):Sp:=λc H Q _=>∃a:dP,c=[.ref a.p]/\a.At C H/\∀l b,H l=none->a0 H b->b l=some (.lst (a.c.map ov))->Q (.ref l) b
def IC (C:Addr):Sp:=λb H Q _=>∃(a:dP) (e:Nat) (f:Nat×Int×Int),b=[.ref a.p,.int (e:Int)]/\a.At C H/\a.F e=some f/\e<a.c.length/\f.1<a.c.length/\Q (.bl ((HD.cm a.c e).isNone && (HD.cm a.c f.1).isSome)) H
def Rw (C:Addr):Sp:=λe H Q _=>∃(a:dP) (b:Nat) (v:Int) (c:Addr) (d:List Nat),e=[.ref a.p,.int (b:Int),.int v,.ref c]/\a.At C H/\b<a.c.length/\H c=some (.lst (d.map λi:Nat=>V.int (i:Int)))/\Q (.bl (HD.jn a.c a.now d b v)) H
def RH (C:Addr):Sp:=λb H Q _=>∃(a:dP) (e:Nat) (v:Int) (f:Nat×Int×Int),b=[.ref a.p,.int (e:Int),.int v]/\a.At C H/\a.F e=some f/\e<a.c.length/\f.1<a.c.length/\Q (.bl (HD.hY a.c a.now a.F e v)) H
section
theorem á:bR xv xv (aF dH):=cD
theorem Ç:bR Č Č (aF cj):=cD
theorem JY:bR ["self","end","now","fall"] Č (aF bw):=cD
theorem à:bR ď ď (aF cL):=cD
theorem S9:bR ["self","end","least","begun"] ė (aF c9):=cD
theorem pC (F:dO K "times" "Hand.times" dH f fd) (T:mj K mg C) (d:mg "list"=none):aq P w K mg base aw 1 f fd xv (P7 C):=by refine F.cY á λ_ A _ s H _ Q E i h=>?_;obtain ⟨a,rfl,b,k⟩:=h;refine ⟨_,au (cg (pe rD (by rfl) d (by decide+kernel) (aY (cI (pv 0) U)))),?_⟩;obtain ⟨g,e⟩:=b.ins;exact (aa U (cb e T.cl T.nC n_ ⟨a.ca,_,U,.inl (ar.of b.cU),λl c=>k l _ c (aV c) ai⟩))
theorem nQ (F:dO K "is_in_fall" "Hand.is_in_fall" cj f fd) (T:mj K mg C):aq P w K mg base aw 1 f fd Č (IC C):=by
 refine F.cY Ç λ_ A _ s H _ Q E m h=>?_;obtain ⟨a,e,d,rfl,b,l,j,i,k⟩:=h;have n:=jl m;refine ⟨_,au (cg (qZ (jJ xG (cV di (cI (pv 0) U) (pv 1)) iI)
  (q_ (jJ tP (cV di (cI (pv 0) U) (aE (jF n (cI (pv 0) U) (pv 1) (λ_ _=>rfl)))) iI)))),?_⟩
 obtain ⟨x,c⟩:=b.ins;obtain ⟨o,u,y,z,v⟩:=b.dW;obtain ⟨q,p,r⟩:=v e d l;have g:eF H a.be (.int (e:Int)) (some (.ref q)):=.inl ⟨o,.inl (e:Int),u,U,p.symm⟩;refine (aa U (cb c T.cl T.nC n_ (aa U (gQ b.cU (o8 j) ⟨U,_,U,?_⟩))));rw [qw]
 cases I:HD.cm a.c e with
 | some t=>exact dk (nq k (by rw [I];rfl))
 | none=>
  refine fv (aa U (cb c T.cl T.nC n_ (aa U (cb c T.cl T.nB wM (aa U ⟨a.be,_,U,g,aD r U (gQ b.cU (o8 i) ⟨U,?_⟩)⟩)))));rw [qw];refine nq k ?_;rw [I];cases HD.cm a.c d.1<;>rfl
end
theorem xQ {a:List Nat}:(a.map λi:Nat=>V.int (i:Int))=(a.map λi:Nat=>(i:Int)).map V.int:=by rw [List.map_map];rfl
theorem zCb {b:Nat} {a:List Nat}:kR (V.int (b:Int)) (a.map λi:Nat=>V.int (i:Int))=decide (b∈a):=by
 rw [xQ,rp];refine decide_eq_decide.mpr ⟨λh=>?_,λh=>BB h⟩;obtain ⟨x,c,e⟩:=fY.mp h;have e:x=b:=by lia
 exact e▸c
theorem Yk {a:List Nat}:(a.map λi:Nat=>V.int (i:Int)).all gn=true:=by rw [yM];exact mY.mpr λ_ _=>rfl
section
theorem lK (F:dO K "tie_lets" "Hand.tie_lets" cL f fd) (T:mj K mg C):aq P w K mg base aw 1 f fd ď (Rw C):=by
 refine F.cY à λ_ A _ s H _ Q E r h=>?_;obtain ⟨a,b,v,l,p,rfl,e,m,n,k⟩:=h;refine ⟨_,aR (dr (cG tP (cV di (cI (pv 0) U) (pv 1)) iI) (au (cg (jJ jN (cV di (cI (pv 0) U) (pv 1)) (cu i5 (cI (pv 0) U) (pv 2))))) d8)
  (au (cg (Tf (jJ zj (pv 2) a7) (q_ (qZ (jJ fy (pv 2) a7) (q_ (Cq Dk (pv 1) (pv 3) (by with_unfolding_all rfl)))))))),?_⟩
 obtain ⟨q,i⟩:=e.ins;have g:=o8 m;unfold HD.jn at k;refine λo j=>(aa U (cb i T.cl T.nC n_ (aa U (gQ e.cU g ⟨U,ct ?_⟩))));rw [qw]
 cases I:HD.cm a.c b with
 | some t=>
  rw [I] at g k;exact fv (aa U (cb i T.cl T.nC n_ (aa U (gQ e.cU g (aa U (cb i T.cl T.nN wL (aa U (ri (ri k)))))))))
 | none=>
  rw [I] at k;refine dk (j _ _ ?_);refine (aa U (ri ⟨_,U,?_⟩))
  by_cases c:0<v
  ·exact fu c (nq k (by rw [eO c];rfl))
  ·refine gL c (aa U ⟨U,_,U,?_⟩);rw [JW]
   by_cases d:v=0
   ·refine fu d (aa U (aa U ⟨l,_,U,.inl (ar.of n),U,Yk,?_⟩));refine nq k ?_;rw [eE c,eO d,zCb];rfl
   ·exact gL d (nq k (by rw [eE c,eE d];rfl))
theorem jU (F:dO K "wait_lets" "Hand.wait_lets" c9 f fd) (T:mj K mg C):aq P w K mg base aw 1 f fd ė (RH C):=by
 refine F.cY S9 λ_ A _ s H _ Q E m h=>?_;obtain ⟨a,e,v,d,rfl,b,g,l,j,k⟩:=h;have n:=jl m;refine ⟨_,cv (cx 3 S9.nd (cV di (cI (pv 0) U) (aE (jF n (cI (pv 0) U) (pv 1) (λ_ _=>rfl)))))
  (au (cg (Tf (jJ tP (cV di (cI (pv 0) U) (pv 1)) iI) (q_ (qZ (jJ tP (pv 3) iI) (q_ (jJ Kf (cu iH (cI (pv 0) U) (pv 3)) (pv 2)))))))),?_⟩
 obtain ⟨y,c⟩:=b.ins;obtain ⟨o,u,z,B,x⟩:=b.dW;obtain ⟨q,p,r⟩:=x e d g;have i:eF H a.be (.int (e:Int)) (some (.ref q)):=.inl ⟨o,.inl (e:Int),u,U,p.symm⟩;unfold HD.hY at k;rw [g] at k;have k:Q (.bl ((HD.cm a.c e).isSome || match HD.cm a.c d.1 with | some t=>decide (v<=a.now-t) | none=>false)) H:=k;refine (aa U (cb c T.cl T.nC n_ (aa U (cb c T.cl T.nB wM (aa U ⟨a.be,_,U,i,aD r U (gQ b.cU (o8 j) ?_)⟩)))));refine (aa U (cb c T.cl T.nC n_ (aa U (gQ b.cU (o8 l) ⟨U,_,U,?_⟩))));rw [qw]
 cases I:HD.cm a.c e with
 | some t=>rw [I] at k;exact fv (nq k U)
 | none=>
  rw [I] at k;refine dk (aa U ⟨U,_,U,?_⟩);rw [qw]
  cases hd:HD.cm a.c d.1 with
  | none=>rw [hd] at k;exact dk (nq k U)
  | some t=>
   rw [hd] at k;exact fv (aa U (cb c T.cl T.nN wL (aa U (ri (aa U (ri k))))))
end
structure dq (a:dP):Prop where
 t:∀x∈a.T,x.2.1<a.c.length
 m:∀x∈a.M,∃f,a.F x.2.1=some f/\x.2.1<a.c.length/\f.1<a.c.length
 tl:a.T.length<=100
 ml:a.M.length<=100
 own:∀m∈a.own,m<a.c.length
 ol:a.own.length<=100
def OF (C:Addr):Sp:=λe H Q _=>∃(a:dP) (m:Nat) (c:Addr) (d:List Nat),e=[.ref a.p,.int (m:Int),.ref c]/\a.At C H/\dq a/\H c=some (.lst (d.map λi:Nat=>V.int (i:Int)))/\∀b,a0 H b->Q (.bl (HD.lets a.T a.M a.F a.c a.now m d)) b
section
noncomputable abbrev KP:List Str:=["self","moment","coming","ties","waits"]
theorem JX:bR KP ĕ (aF cC):=cD
theorem î:hV (aF cC) KP (j4 [(".0",.local),("a",.local),("b",.local),("most",.local),("coming",.free),("moment",.free),("self",.free)]) Ģ [none,none,none,some 2,some 1,some 0]:=j7
theorem ï:hV (aF cC) KP (j4 [(".0",.local),("a",.local),("end",.local),("least",.local),("moment",.free),("self",.free)]) ĥ [none,none,none,some 1,some 0]:=j7
theorem Kg:(Ģ:List Str).Nodup:=by decide+kernel
theorem Kh:(ĥ:List Str).Nodup:=by decide+kernel
theorem so (F:dO K "lets" "Hand.lets" cC f fd) (T:mj K mg C) (W:mg "all"=none)
 (mT:fV K C "tie_lets" fT) (bT:dm K mS ď []) (GT:aq P w K mg base aw 1 fT mS ď (Rw C))
 (mW:fV K C "wait_lets" fW) (bW:dm K yE ė []) (GW:aq P w K mg base aw 1 fW yE ė (RH C)):aq P w K mg base aw 2 f fd ĕ (OF C):=by
 refine F.cY JX λ_ x6 _ x9 x1 _ x8 x7 X x3=>?_;obtain ⟨a,m,E,M,rfl,z,G,AO,k⟩:=x3;refine ⟨_,aR (vd (i:=3) JX.nd U U U (gP (cI (pv 0) U)) î (λE ex s0 H0=>⟨O' (K:=K) (n:=3) U U (g9 (cf 0 Kg) (g9 (cf 1 Kg) (g9 (cf 2 Kg) tQ))),oW (cG fy (pv 0) (pv 4)),gq (pv 5) T.cl mT GT X bT .nil dR (ia (pv 1) (pv 2) (pv 3))⟩))
  (aR (vd (i:=4) JX.nd U U U (gP (cI (pv 0) U)) ï (λE ex s0 H0=>⟨O' (K:=K) (n:=3) U U (g9 (cf 0 Kh) (g9 (cf 1 Kh) (g9 (cf 2 Kh) tQ))),oW (cG fy (pv 0) (pv 3)),gq (pv 4) T.cl mW GW X bW .nil dR (bo (pv 1) (pv 2))⟩))
  (au (cg (qZ (i7 (QG U) (by rfl) W (by decide+kernel) (aY (pv 3))) (q_ (i7 (QG U) (by rfl) W (by decide+kernel) (aY (pv 4)))))))),?_⟩
 obtain ⟨dx,H⟩:=z.ins;obtain ⟨ps,Y,Z⟩:=z.vH;obtain ⟨qs,sL,yx⟩:=z.pj;refine λL t=>(aa U (cb H T.cl T.nT h_t ⟨a.lt,U,⟨_,ar.of Y⟩,λO R=>?_⟩));refine nt (K:=K) (a:=a.lt) (xs:=ps.map V.ref) (λj o s=>∃g h l,o=[g,h,l,some (.ref E),some (.int (m:Int)),some (.ref a.p)]/\s O=some (.lst ((((a.T.take j).filter λx=>decide (x.1=m)).map λx=>HD.jn a.c a.now M x.2.1 x.2.2).map V.bl))/\a0 x1 s) ⟨none,none,none,U,ai,aV R⟩ ?_ ?_ ?_
 ·rintro j o B _ ⟨g,h,l,rfl,_,b⟩;exact ar.of (b _ _ Y)
 ·rintro j x5 o B d ⟨g,h,l,rfl,u,b⟩;rw [dA] at d
  cases I:ps[j]? with
  | none=>rw [I] at d;cases d
  | some q=>
   rw [I] at d;cases d;obtain ⟨x,A,r⟩:=a9 Z I;have r:B q=some (.tup [.int (x.1:Int),.int (x.2.1:Int),.int x.2.2]):=b _ _ r;have y:a.T.take (j+1)=a.T.take j++[x]:=by rw [jb,A];rfl
   refine ⟨q,_,U,dB.of r,U,_,_,U,_,_,U,_,_,U,U,aa U (aa U ⟨U,ct ?_⟩)⟩;rw [oM]
   by_cases c:x.1=m
   ·refine fu c (aa U (fi (b _ _ H) (by with_unfolding_all rfl) (aa U (aa U (aa U ⟨a,x.2.1,x.2.2,E,M,U,z.same b,G.t x (eR A),b _ _ AO,_,u,?_,_,_,_,U,?_,λx2 x4 e=>?_⟩)))))
    ·rw [az,az];have:=ou (λx:iU=>decide (x.1=m)) (a.T.take j);rw [hG] at this;have:=G.tl;exact fe (by lia)
    ·rw [ai,y,qO,BA (by exact eO c),Bw,dN,dN];rfl
    ·rw [ah (av e R)];exact b _ _ e
   ·refine gL c ⟨_,_,_,U,?_,b⟩;rw [y,qO,B9 (by rw [j9];exact c),Bw,lZ];exact u
 rintro o B ⟨g,h,l,rfl,u,b⟩;rw [az,j8 Z,hH] at u;refine t _ _ ?_;clear t L;refine λL t=>(aa U (cb (b _ _ H) T.cl T.nW h_w ⟨a.lw,U,⟨_,ar.of (b _ _ sL)⟩,λQ S=>?_⟩));refine nt (K:=K) (a:=a.lw) (xs:=qs.map V.ref) (λj o s=>∃g h l,o=[g,h,l,some (.int (m:Int)),some (.ref a.p)]/\s Q=some (.lst ((((a.M.take j).filter λx=>decide (x.1=m)).map λx=>HD.hY a.c a.now a.F x.2.1 x.2.2).map V.bl))/\a0 B s) ⟨none,none,none,U,ai,aV S⟩ ?_ ?_ ?_
 ·rintro j o D _ ⟨g,h,l,rfl,_,p⟩;exact ar.of (p _ _ (b _ _ sL))
 ·rintro j x5 o D d ⟨g,h,l,rfl,v,p⟩;rw [dA] at d
  cases I:qs[j]? with
  | none=>rw [I] at d;cases d
  | some q=>
   rw [I] at d;cases d;obtain ⟨x,A,r⟩:=a9 yx I;have N:=b.trans p;have r:D q=some (.tup [.int (x.1:Int),.int (x.2.1:Int),.int x.2.2]):=N _ _ r;have y:a.M.take (j+1)=a.M.take j++[x]:=by rw [jb,A];rfl
   obtain ⟨fx,f1,f2,f3⟩:=G.m x (eR A);refine ⟨q,_,U,dB.of r,U,_,_,U,_,_,U,_,_,U,U,aa U (aa U ⟨U,ct ?_⟩)⟩;rw [oM]
   by_cases c:x.1=m
   ·refine fu c (aa U (fi (N _ _ H) (by with_unfolding_all rfl) (aa U (aa U ⟨a,x.2.1,x.2.2,fx,U,z.same N,f1,f2,f3,_,v,?_,_,_,_,U,?_,λx2 x4 e=>?_⟩))))
    ·rw [az,az];have:=ou (λx:iU=>decide (x.1=m)) (a.M.take j);rw [hG] at this;have:=G.ml;exact fe (by lia)
    ·rw [ai,y,qO,BA (by exact eO c),Bw,dN,dN];rfl
    ·rw [ah (av e S)];exact p _ _ e
   ·refine gL c ⟨_,_,_,U,?_,p⟩;rw [y,qO,B9 (by rw [j9];exact c),Bw,lZ];exact v
 rintro o D ⟨g,h,l,rfl,v,p⟩;rw [az,j8 yx,hH] at v;refine t _ _ ?_;clear t L;have k:=k D (b.trans p);unfold HD.lets at k;refine (aa U ⟨O,_,U,p _ _ u,_,U,?_⟩);rw [yM]
 cases J:((a.T.filter λx=>decide (x.1=m)).all λx=>HD.jn a.c a.now M x.2.1 x.2.2) with
 | false=>
  rw [J] at k;exact gU J (nq k U)
 | true=>
  rw [J] at k;refine jM J (aa U ⟨Q,_,U,v,?_⟩);rw [yM];exact nq k (Bool.true_and _)
end
abbrev dP.S (a:dP):List Nat->List Nat:=HD.step a.T a.M a.F a.c a.now
def dP.l0 (a:dP):List Nat:=a.own.filter λm=>(HD.cm a.c m).isNone
def Qu (C:Addr):Sp:=λc H Q _=>∃a:dP,c=[.ref a.p]/\a.At C H/\dq a/\∀l b r j,H l=none->a0 H b->b l=some (.lst (r.map λi:Nat=>V.int (i:Int)))->r=HD.iter a.S j a.l0->a.S r=r->Q (.ref l) b
theorem xX {l:List Nat} {j:Nat} {m:Nat} (h:l[j]?=some m):(l.take (j+1)).filter p=(l.take j).filter p++if p m=true then [m] else []:=by
 rw [jb,h,qO];show _++[m].filter p=_
 by_cases c:p m=true
 ·rw [if_pos c,BA c];rfl
 ·rw [if_neg c,B9 c];rfl
theorem PK (h:dq a) (j:Nat):(HD.iter a.S j a.l0).length<=100:=by
 have b:a.l0.length<=100:=cP (ou _ _) h.ol
 induction j with
 | zero=>exact b
 | succ j c=>rw [HD.cO];exact cP (HD.jQ _) c
section
noncomputable abbrev KO:List Str:=["self","coming","left"]
theorem Ad:bR KO xv (aF bt):=cD
theorem ð:hV (aF bt) KO (j4 [(".0",.local),("moment",.local),("self",.free)]) ["moment","self"] [none,some 0]:=j7
theorem SO:hV (aF bt) KO (j4 [(".0",.local),("moment",.local),("coming",.free),("self",.free)]) ["moment","coming","self"] [none,some 1,some 0]:=j7
theorem ϗ:(["moment","self"]:List Str).Nodup:=by decide+kernel
theorem SV:(["moment","coming","self"]:List Str).Nodup:=by decide+kernel
theorem nY (F:dO K "all_let" "Hand.all_let" bt f fd) (T:mj K mg C)
 (mL:fV K C "lets" fL) (Z:dm K MC ĕ []) (X:aq P w K mg base aw 2 fL MC ĕ (OF C)):aq P w K mg base aw 3 f fd xv (Qu C):=by
 refine F.cY Ad λ_ x6 _ x9 H _ x8 x7 S x4=>?_;obtain ⟨a,rfl,x,y,x5⟩:=x4;refine ⟨_,aR (ra (i:=1) Ad.nd U (Or.inr U) (oA U (gP (cI (pv 0) U)) ð (λn ex s0 Y=>⟨cf 0 ϗ,oW (cG xG (cV di (rk (K:=K) U (pv 1) U) (pv 0)) iI),pv 0⟩)))
  (aR (vd (i:=2) Ad.nd U U U (gP (pv 1)) SO (λn ex s0 Y=>⟨cf 0 SV,oW (qx (gq (pv 2) T.cl mL X S Z .nil dR (bo (pv 0) (pv 1)))),pv 0⟩))
  (aR (PY ja (cG (Hv S.units) (pv 2) (pv 1))
   (aR (ra (i:=1) Ad.nd U (Or.inr U) (pv 2))
   (au (vd (i:=2) Ad.nd U U U (gP (pv 1)) SO (λn ex s0 Y=>⟨cf 0 SV,oW (qx (gq (pv 2) T.cl mL X S Z .nil dR (bo (pv 0) (pv 1)))),pv 0⟩)))))
  (au (cg (pv 2))))),?_⟩
 obtain ⟨dx,M⟩:=x.ins;refine λL u=>(aa U (cb M T.cl T.nO h_o ⟨a.ow,U,⟨_,ar.of x.own⟩,λt O=>?_⟩));refine nt (K:=K) (a:=a.ow) (xs:=a.own.map λi:Nat=>V.int (i:Int)) (λj c d=>∃v,c=[v,some (.ref a.p)]/\d t=some (.lst (((a.own.take j).filter λm=>(HD.cm a.c m).isNone).map λi:Nat=>V.int (i:Int)))/\a0 H d) ⟨none,U,ai,aV O⟩ ?_ ?_ ?_
 ·rintro j c E _ ⟨v,rfl,_,p⟩;exact ar.of (p _ _ x.own)
 ·rintro j x3 c E g ⟨v,rfl,o,p⟩;rw [dA] at g
  cases I:a.own[j]? with
  | none=>rw [I] at g;cases g
  | some m=>
   rw [I] at g;cases g;have hj:=(eX.mp I).1;have hm:=y.own m (eR I);have oE:=y.ol;refine (aa U (cb (p _ _ M) T.cl T.nC n_ (aa U (gQ (p _ _ x.cU) (o8 hm) ⟨U,ct ?_⟩))));rw [qw]
   cases J:(HD.cm a.c m).isNone with
   | true=>
    refine fv (aa U ⟨_,o,?_,_,U,?_,λb x2 e=>?_⟩)
    ·rw [az];have:=ou (λm=>(HD.cm a.c m).isNone) (a.own.take j);rw [hG] at this;exact fe (CZ this oE)
    ·rw [ai,xX I,if_pos J,dN];rfl
    ·rw [ah (av e O)];exact p _ _ e
   | false=>
    refine dk ⟨_,U,?_,p⟩;rw [xX I,if_neg (by rw [J];exact dX),lZ];exact o
 rintro c E ⟨v,rfl,o,p⟩;rw [az,hH] at o;have o:E t=some (.lst (a.l0.map λi:Nat=>V.int (i:Int))):=o;have pX:=O;refine u _ _ ?_;clear u L;have ll0:a.l0.length<=100:=PK y 0;refine λL u=>(aa U ⟨t,U,⟨_,ar.of o⟩,λN Q=>?_⟩);refine nt (K:=K) (a:=t) (xs:=a.l0.map λi:Nat=>V.int (i:Int)) (λj c d=>∃v,c=[v,some (.ref t),some (.ref a.p)]/\d N=some (.lst (((a.l0.take j).filter λm=>HD.lets a.T a.M a.F a.c a.now m a.l0).map λi:Nat=>V.int (i:Int)))/\a0 E d) ⟨none,U,ai,aV Q⟩ ?_ ?_ ?_
 ·rintro j c A _ ⟨v,rfl,_,h⟩;exact ar.of (h _ _ o)
 ·rintro j x3 c A g ⟨v,rfl,r,h⟩;rw [dA] at g
  cases I:a.l0[j]? with
  | none=>rw [I] at g;cases g
  | some m=>
   rw [I] at g;cases g;have hj:=(eX.mp I).1;have D:=p.trans h;refine (aa U (fi (D _ _ M) (by with_unfolding_all rfl) (aa U (aa U ⟨a,m,t,a.l0,U,x.same D,y,h _ _ o,λG l=>⟨_,U,?_⟩⟩))));have q:=l _ _ r
   cases J:HD.lets a.T a.M a.F a.c a.now m a.l0 with
   | true=>
    refine fv (aa U ⟨_,q,?_,_,U,?_,λb x2 e=>?_⟩)
    ·rw [az];have:=ou (λm=>HD.lets a.T a.M a.F a.c a.now m a.l0) (a.l0.take j);rw [hG] at this;exact fe (CZ this ll0)
    ·rw [ai,xX I,if_pos J,dN];rfl
    ·rw [ah (av e Q)];exact l _ _ (h _ _ e)
   | false=>
    refine dk ⟨_,U,?_,h.trans l⟩;rw [xX I,if_neg (by rw [J];exact dX),lZ];exact q
 rintro c A ⟨v,rfl,r,h⟩;rw [az,hH] at r;have r:A N=some (.lst ((a.S a.l0).map λi:Nat=>V.int (i:Int))):=r;refine u _ _ ?_;clear u L;refine λL u=>⟨λx1 c d=>∃j n k,x1=(HD.iter a.S j a.l0).length/\c=[some (.ref a.p),some (.ref n),some (.ref k)]/\d n=some (.lst ((HD.iter a.S j a.l0).map λi:Nat=>V.int (i:Int)))/\d k=some (.lst ((HD.iter a.S (j+1) a.l0).map λi:Nat=>V.int (i:Int)))/\H k=none/\a0 H d,
  ⟨_,0,t,N,U,U,h _ _ o,r,p.free Q,p.trans h⟩,?_⟩
 rintro x1 c G ⟨j,n,k,rfl,rfl,q,s,hll,l⟩;rw [xQ] at q s;refine (aa U (aa U ⟨k,n,_,_,U,U,ar.of s,ar.of q,ct ?_⟩));rw [<-xQ] at q s
 by_cases B:HD.iter a.S (j+1) a.l0=HD.iter a.S j a.l0
 ·refine gU (show (!decide _)=false by rw [B,eO rfl];rfl) (u _ _ (aa U (x5 k G _ (j+1) hll l s U ?_)));rw [B];exact (HD.cO a.S j a.l0).symm.trans B
 ·have wB:(HD.iter a.S (j+1) a.l0).length<(HD.iter a.S j a.l0).length:=gh λz=>B (by
   rw [HD.cO] at z ⊢;exact HD.step_same (Nat.le_antisymm (HD.jQ _) (kZ z)))
  refine jM (show (!decide _)=true by
   rw [eE λz=>B ?_];rfl;have z:=congrArg (List.map Int.toNat) z;rw [List.map_map,List.map_map,show (Int.toNat ∘ λi:Nat=>(i:Int))=id from funext λi=>l_ i,Bt,Bt] at z;exact z) ⟨λc d=>∃n',n'<(HD.iter a.S j a.l0).length/\∃j n k,n'=(HD.iter a.S j a.l0).length/\c=[some (.ref a.p),some (.ref n),some (.ref k)]/\d n=some (.lst ((HD.iter a.S j a.l0).map λi:Nat=>V.int (i:Int)))/\d k=some (.lst ((HD.iter a.S (j+1) a.l0).map λi:Nat=>V.int (i:Int)))/\H k=none/\a0 H d,λc d z=>z,?_⟩
  have lj:=PK y (j+1);refine λN2 c2=>(aa U (c2 _ _ ?_));clear c2 N2;refine (aa U ⟨k,U,⟨_,ar.of s⟩,λW R=>?_⟩);refine nt (K:=K) (a:=k) (xs:=(HD.iter a.S (j+1) a.l0).map λi:Nat=>V.int (i:Int)) (λi c d=>∃v,c=[v,some (.ref k),some (.ref a.p)]/\d W=some (.lst ((((HD.iter a.S (j+1) a.l0).take i).filter λm=>HD.lets a.T a.M a.F a.c a.now m (HD.iter a.S (j+1) a.l0)).map λi:Nat=>V.int (i:Int)))/\a0 G d) ⟨none,U,ai,aV R⟩ ?_ ?_ ?_
  ·rintro i c A _ ⟨v,rfl,_,h⟩;exact ar.of (h _ _ s)
  ·rintro i x3 c A g ⟨v,rfl,r,h⟩;rw [dA] at g
   cases I:(HD.iter a.S (j+1) a.l0)[i]? with
   | none=>rw [I] at g;cases g
   | some m=>
    rw [I] at g;cases g;have hj:=(eX.mp I).1;have D:=l.trans h;refine (aa U (fi (D _ _ M) (by with_unfolding_all rfl) (aa U (aa U ⟨a,m,k,(HD.iter a.S (j+1) a.l0),U,x.same D,y,h _ _ s,λG l=>⟨_,U,?_⟩⟩))));have q:=l _ _ r
    cases J:HD.lets a.T a.M a.F a.c a.now m (HD.iter a.S (j+1) a.l0) with
    | true=>
     refine fv (aa U ⟨_,q,?_,_,U,?_,λb x2 e=>?_⟩)
     ·rw [az];have:=ou (λm=>HD.lets a.T a.M a.F a.c a.now m (HD.iter a.S (j+1) a.l0)) ((HD.iter a.S (j+1) a.l0).take i);rw [hG] at this;exact fe (CZ this lj)
     ·rw [ai,xX I,if_pos J,dN];rfl
     ·rw [ah (av e R)];exact l _ _ (h _ _ e)
    | false=>
     refine dk ⟨_,U,?_,h.trans l⟩;rw [xX I,if_neg (by rw [J];exact dX),lZ];exact q
  rintro c H4 ⟨v,rfl,e5,s4⟩;rw [az,hH] at e5;refine ⟨_,wB,j+1,k,W,U,U,s4 _ _ s,?_,l.free R,l.trans s4⟩;rw [HD.cO a.S (j+1)];exact e5
end
theorem Y7 {kvs:List (Key×V)} {k:Key} {v:V} {i:Nat} (h:kvs[i]?=some (k,v)):dJ kvs k≠none:=λz=>by unfold dJ at z;rw [Option.map_eq_none_iff,List.find?_eq_none] at z;exact z (k,v) (eR h) (eO U)
theorem iQ.dh {t:List Nat} {now:Int} (h:iQ C H p lt lw be ow ca F T M t c now) (a:H be=some (.dK kvs)) (B:Rd H' be (.dK kvs)) (k:∀b u,H b=some u->b≠be->H' b=some u):iQ C H' p lt lw be ow ca F T M t c now:=by
 obtain ⟨⟨x,i⟩,⟨D,j,y⟩,⟨I,l,z⟩,⟨s,d,J,L,N⟩,m,n⟩:=h;have g:∀{q v},H q=some (.tup v)->H' q=some (.tup v):=λe=>k _ _ e (aI e a nofun);have e:s=kvs:=by
  rcases d with d | ⟨o,d⟩
  ·rw [a] at d;cases d;rfl
  ·rw [a] at d;cases d
 subst e;refine ⟨⟨x,k _ _ i (aI i a nofun)⟩,⟨D,k _ _ j (aI j a nofun),dM y λq r e=>g e⟩,⟨I,k _ _ l (aI l a nofun),dM z λq r e=>g e⟩,⟨s,B,J,L,λe f A=>?_⟩,k _ _ m (aI m a nofun),k _ _ n (aI n a nofun)⟩;obtain ⟨q,E,G⟩:=N e f A;exact ⟨q,E,g G⟩
structure HH (a:dP) (fs:List Nat):Prop where
 nd:fs.Nodup
 ok:∀e∈fs,∃f t,a.F e=some f/\HD.cm a.c e=none/\HD.cm a.c f.1=some t/\f.2.1<=a.now-t/\a.now-t<=f.2.2
 all:∀e f t,a.F e=some f->HD.cm a.c e=none->HD.cm a.c f.1=some t->f.2.2<=a.now-t->e∈fs
 lt:∀e f,a.F e=some f->e<a.c.length/\f.1<a.c.length
section
noncomputable abbrev nHo:List Str:=["self","fallen","now","end","fall"]
theorem Ae:bR nHo Ć (aF cA):=cD
end
end Y0
namespace MU
def iE (st:St):Prop:=(∀(i:Nat) (r:Row),st.rows[i]?=some r->r.used.length<=2/\∀j∈r.used,j<i)/\∀b,st.bar=some b->∃r,st.rows[b]?=some r/\ix r.cJ
theorem Rg {w:ak} (h:iE st) (f:us.length<=2/\∀j∈us,j<st.rows.length):iE (take st w word us):=by
 unfold take;split
 ·refine ⟨λi r a=>?_,λb c=>?_⟩
  ·have a:(st.rows++[⟨w,word,us⟩])[i]?=some r:=a
   by_cases e:i<st.rows.length
   ·rw [oI e] at a;exact h.1 i r a
   ·rw [oz (by exact kZ e)] at a
    cases C:i-st.rows.length with
    | zero=>
     rw [C] at a;cases a;exact ⟨f.1,λj l=>by have:=f.2 j l;lia⟩
    | succ k=>rw [C] at a;cases a
  ·have c:(if st.bar=none/\ix w then some st.rows.length else st.bar)=some b:=c;show ∃r,(st.rows++[(⟨w,word,us⟩:Row)])[b]?=some r/\ix r.cJ
   by_cases d:st.bar=none/\ix w
   ·rw [if_pos d] at c;cases c;exact ⟨_,by rw [oz (ay _),Fy];rfl,d.2⟩
   ·rw [if_neg d] at c;obtain ⟨r,a,g⟩:=h.2 b c;exact ⟨r,by rw [oI (eX.mp a).1];exact a,g⟩
 ·exact h
theorem PZ (h:iE st) (a:∀x,o=some x->us.length<=2/\∀j∈us,j<st.rows.length):iE (put st o word us):=by
 cases o with
 | none=>exact h
 | some x=>exact Rg h (a x U)
theorem Dt (h:iE st):iE (aH f word i st):=by
 refine PZ h λx a=>⟨by show 1<=2;exact iC gR,λj b=>?_⟩
 cases hw:ag st i with
 | none=>rw [hw] at a;cases a
 | some y=>rw [ig.mp b];exact mv hw
theorem Du (h:iE st):iE (ao f word i j st):=by
 refine PZ h λx a=>⟨ay 2,λk b=>?_⟩
 cases hw:ag st i with
 | none=>rw [hw] at a;cases a
 | some y=>
  rw [hw] at a
  cases C:ag st j with
  | none=>rw [show ((some y).bind λp=>(ag st j).bind λq=>f p q)=(ag st j).bind λq=>f y q from rfl,C] at a;cases a
  | some z=>
   rcases f'.mp b with rfl | b
   ·exact mv hw
   ·rw [ig.mp b];exact mv C
theorem xY {c:Type} {g:St->c->St} (b:∀st a,iE st->iE (g st a)):∀(l:List c) (st:St),iE st->iE (l.foldl g st)
 | [],_,h=>h
 | a::l,st,h=>xY b l _ (b st a h)
theorem YN (rows:List ak) (st:St) (h:iE st):iE (lA rows st):=xY (λst w h=>Rg h ⟨dZ _,λj a=>absurd a (by simp)⟩) rows st h
theorem Y_:iE empty:=⟨λi r h=>by simp [empty] at h,λb h=>by simp [empty] at h⟩
theorem Zo {n:Nat} {F:cS} {at_ a b:Nat} {st:St} (h:iE st):iE (eK n F at_ a b st):=
 xY (λ_ _ h=>Du h) _ _ (xY (λ_ _ h=>Du h) _ _ (xY (λ_ _ h=>Du h) _ _ (Dt (Dt h))))
theorem Zy {n:Nat} {F:cS} {at_ a:Nat} {st:St} (h:iE st):iE (fC n F at_ a st):=
 xY (λ_ _ h=>Du h) _ _ (Dt (Dt h))
theorem Qd (h:iE st):∀t,iE (run n F st t)
 | 0=>h
 | t+1=>by
  have a:=Qd (n:=n) (F:=F) h t;show iE (look n F t (run n F st t));unfold look;split
  ·split
   ·split
    ·exact Zo a
    ·exact Zy a
   ·exact a
  ·exact a
end MU
namespace Y0
open PySem L2
seal PE PA PT PS eS PG me PI PO
seal kT i6 iA gd hQ il i9 i8 gm a8
def SM (rows:List Row):Prop:=∀(i:Nat) (r:Row),rows[i]?=some r->r.used.length<=2/\∀j∈r.used,j<i
structure JP (rows:List Row) (last:Nat) (ns:List Nat):Prop where
 up:ns.Pairwise (·<·)
 le:∀i∈ns,i<=last
 has:last∈ns
 uses:∀i∈ns,∀r,rows[i]?=some r->∀j∈r.used,j∈ns
 why:∀i∈ns,i=last\/∃k∈ns,∃r,rows[k]?=some r/\i∈r.used
structure NI (rows:List Row) (last:Nat) (P:Nat->Prop) (ks:List Nat):Prop where
 once:ks.Nodup
 le:∀k∈ks,k<=last
 has:last∈ks
 why:∀i∈ks,i=last\/∃k∈ks,∃r,rows[k]?=some r/\i∈r.used
 fin:∀k∈ks,P k->∀r,rows[k]?=some r->∀j∈r.used,j∈ks
def vA (a:List Nat) (j:Nat):List Nat:=if j∈a then a else a++[j]
theorem qD:k∈vA ks j↔k∈ks\/k=j:=by
 unfold vA;split
 ·exact ⟨.inl,λh=>h.elim id λe=>e▸‹j∈ks›⟩
 ·simp
theorem NI.add {P:Nat->Prop} (h:NI rows last P ks) (g:m∈ks) (y:rows[m]?=some r) (t:j∈r.used) (v:j<=m) (p:¬P j):NI rows last P (vA ks j):=by
 refine ⟨?_,λk c=>?_,qD.mpr (.inl h.has),λi d=>?_,λk c l f z A u=>?_⟩
 ·unfold vA;split
  ·exact h.once
  ·rename_i x
   exact List.nodup_append.mpr ⟨h.once,List.nodup_cons.mpr ⟨nofun,xg⟩,λa q b s e=>x (by rw [ig.mp s] at e;rw [<-e];exact q)⟩
 ·rcases qD.mp c with c | rfl
  ·exact h.le k c
  ·have:=h.le m g;exact rC v this
 ·rcases qD.mp d with d | rfl
  ·rcases h.why i d with e | ⟨k,c,f,n,o⟩
   ·exact .inl e
   ·exact .inr ⟨k,qD.mpr (.inl c),f,n,o⟩
  ·exact .inr ⟨m,qD.mpr (.inl g),r,y,t⟩
 ·rcases qD.mp c with c | rfl
  ·exact qD.mpr (.inl (h.fin k c l f z A u))
  ·exact absurd l p
noncomputable def qT (a:List Nat):List Key:=a.map λi:Nat=>Sum.inl (i:Int)
theorem IH {ks:List Nat} {j:Nat}:(Sum.inl (j:Int):Key)∈qT ks↔j∈ks:=by
 unfold qT;rw [fY]
 constructor
 ·rintro ⟨k,a,e⟩;have:=B2 (tf e);exact this▸a
 ·exact λh=>⟨j,h,U⟩
theorem WG {ks:List Nat} {j:Nat} (h:kvs.map (·.1)=qT ks):(eJ kvs (Sum.inl (j:Int)) v).map (·.1)=qT (vA ks j):=by
 have e:(kvs.any λa=>decide (a.1=Sum.inl (j:Int)))=true↔j∈ks:=by
  rw [List.any_eq_true,<-IH,<-h,fY]
  constructor
  ·rintro ⟨a,c,d⟩;exact ⟨a,c,by simpa using d⟩
  ·rintro ⟨a,c,d⟩;exact ⟨a,c,by simpa using d⟩
 unfold eJ vA
 by_cases b:j∈ks
 ·rw [if_pos (e.mpr b),if_pos b,<-h,List.map_map];refine FG λa _=>?_;show (if a.1=Sum.inl (j:Int) then (a.1,v) else a).1=a.1;split<;>rfl
 ·rw [if_neg (λz=>b (e.mp z)),if_neg b,dN,h];unfold qT;rw [dN];rfl
theorem YS {c:List Nat} {j:Nat} (h:kvs.map (·.1)=qT c):(dJ kvs (Sum.inl (j:Int))).isSome=decide (j∈c):=by
 rw [<-vk]
 by_cases a:j∈c
 ·rw [eO a];have:(Sum.inl (j:Int):Key)∈kvs.map (·.1):=by rw [h];exact IH.mpr a
  obtain ⟨d,b,e⟩:=fY.mp this;exact List.any_eq_true.mpr ⟨d,b,by simpa using e⟩
 ·rw [eE a];refine List.any_eq_false.mpr λd b=>?_;intro z;have:(Sum.inl (j:Int):Key)∈kvs.map (·.1):=fY.mpr ⟨d,b,by simpa using z⟩;rw [h] at this;exact a (IH.mp this)
def OG:Sp:=λg H Q _=>∃(f:Addr) (e:List Addr) (a:List Row) (c:Nat),g=[.ref f,.int (c:Int)]/\H f=some (.lst (e.map V.ref))/\Paired (oP H) e a/\SM a/\c<a.length/\a.length<=16500000/\
 ∀l b d,H l=none->a0 H b->b l=some (.lst (fw d))->JP a c d->Q (.ref l) b
section
noncomputable abbrev nNn:List Str:=["rows","last","needed","at","number"]
theorem DO:bR nNn Ď (aF bz):=cD
theorem nH (F:Fn K mg "numbers_needed" bz Ď f fd) (hR:mg "range"=none) (hS:mg "sorted"=none):aq P w K mg base aw 1 f fd Ď OG:=by
 refine F.F.cY DO λ_ x2 _ x5 H _ x4 x3 hr h=>?_;obtain ⟨rl,T,W,last,rfl,kS,cp,hU,uz,hlen,k⟩:=h;have hu:=jl hr;refine ⟨_,aR (cx 2 DO.nd (zBp (Xx (pv 1) uU zBm) U U (by simp) (by simp)))
  (aR (iJ ja U (Ym U hR (ia (pv 1) (uV uY a7) (uV uY a7))) (cf 3 DO.nd)
   (au (dr (tL (HE hu (pv 3) (pv 2)) (by with_unfolding_all rfl))
    (au (iJ ja U (Hx (aE (cV di (pv 0) (pv 3)))) (cf 4 DO.nd)
     (au (Cs hu (pv 2) (pv 4) uU U)))) d8)))
  (au (cg (i7 (Zl U) (by rfl) hS PyProof.Rows.boot_sorted (aY (pv 2)))))),?_⟩
 refine λN1 Z d hd=>(aa U ⟨ai,[(Sum.inl (last:Int),.bl true)],U,by simp,Z _ _ ?_⟩);rw [HU];have Lv:T.length=W.length:=j8 cp;have e1:upd H d (.dK (tH [] [(Sum.inl (last:Int),.bl true)])) d=some (.dK [(Sum.inl (last:Int),.bl true)]):=ai;have s1:=aV (o:=.dK (tH [] [(Sum.inl (last:Int),.bl true)])) hd;generalize upd H d (.dK (tH [] [(Sum.inl (last:Int),.bl true)]))=H1 at*;clear Z N1;have ev:[V.int (last:Int),V.int (-1),V.int (-1)]=[V.int (((last+1:Nat):Int)-1),V.int (-1),V.int (-1)]:=by rw [show ((last+1:Nat):Int)-1=(last:Int) by lia]
 refine λN2 c2=>(aa U ⟨_,U,_,U,last+1,ev,by lia,?_⟩);refine Xd (λi A I=>∃X y g ks,A=[some (.ref rl),some (.int (last:Int)),some (.ref d),X,y]/\I d=some (.dK g)/\g.map (·.1)=qT ks/\NI W last (λk=>last<k+i) ks/\∀b o,H b=some o->I b=some o)
  ⟨none,none,_,[last],U,e1,U,⟨List.nodup_cons.mpr ⟨nofun,xg⟩,λk p=>by rw [ig.mp p];exact ay _,ig.mpr U,λk p=>.inl (ig.mp p),λk p hp=>by have:=ig.mp p;lia⟩,λb o e=>s1 _ _ e⟩ ?_ ?_
 ·rintro i A S E ⟨X,y,g,ks,rfl,t,s,c,u⟩;obtain ⟨at_,nZ⟩:∃at_,at_+i=last:=⟨last-i,by lia⟩;have ex:V.int ((((last+1:Nat):Int)-1)-(i:Int))=V.int (at_:Int):=by rw [show (((last+1:Nat):Int)-1)-(i:Int)=(at_:Int) by lia]
  rw [ex];have dg:eF S d (.int (at_:Int)) (dJ g (Sum.inl (at_:Int))):=eF.k (k:=Sum.inl (at_:Int)) t;refine (aa U (aa U ⟨d,_,U,dg,_,U,?_⟩));rw [YS s]
  by_cases v:at_∈ks
  ·refine fu v ?_;obtain ⟨q,hq⟩:∃q,T[at_]?=some q:=⟨_,gI (by lia)⟩;obtain ⟨r,J,pw,pu,g4,_,g6⟩:=a9 cp hq;have Mh:ic (T.map V.ref) (at_:Int)=some (.ref q):=je (by rw [dA,hq];rfl);refine (aa U (yn U (u _ _ kS) Mh (aD (u _ _ g4) U ⟨pu,U,⟨_,dB.of (u _ _ g6)⟩,?_⟩)));refine zCg (K:=K) (a:=pu) (xs:=r.used.map λi:Nat=>V.int (i:Int)) (λm A I=>∃y g ks,A=[some (.ref rl),some (.int (last:Int)),some (.ref d),some (.int (at_:Int)),y]/\I d=some (.dK g)/\g.map (·.1)=qT ks/\NI W last (λk=>last<k+i) ks/\at_∈ks/\(∀j∈r.used.take m,j∈ks)/\∀b o,H b=some o->I b=some o)
    ⟨y,g,ks,U,t,s,c,v,λj n=>by simp at n,u⟩ ?_ ?_ ?_
   ·rintro m A Y _ ⟨_,_,_,rfl,_,_,_,_,_,O⟩;exact dB.of (O _ _ g6)
   ·rintro m x1 A Y M ⟨y,g,ks,rfl,t,s,c,v,R,O⟩;rw [dA] at M
    cases n:r.used[m]? with
    | none=>rw [n] at M;cases M
    | some j=>
     rw [n] at M;cases M;have AI:=eR n;have hja:=(hU at_ r J).2 j AI;have Q:g.length<=last+1:=by
      have B:=congrArg List.length s;unfold qT at B;rw [az,az] at B;have:=MH.vh (last+1) ks c.once λz N=>by have:=c.le z N;exact IK this
      exact zev B this
     refine (aa U (aa U ⟨d,_,U,qj.k (k:=Sum.inl (j:Int)) t (z8 (by lia)),?_⟩));refine ⟨_,_,vA ks j,U,ai,WG s,c.add v J AI (bf hja) (by lia),qD.mpr (.inl v),λj' G=>?_,λb o e=>?_⟩
     ·rw [jb,n] at G;rcases jj.mp G with G | G
      ·exact qD.mpr (.inl (R j' G))
      ·exact qD.mpr (.inr (by simpa using G))
     ·rw [ah (av e hd)];exact O _ _ e
   ·rintro A Y ⟨y,g,ks,rfl,t,s,c,v,R,O⟩;have eD:r.used.take (r.used.map λi:Nat=>V.int (i:Int)).length=r.used:=by rw [az];exact hH
    rw [eD] at R;refine ⟨_,_,g,ks,U,t,s,⟨c.once,c.le,c.has,c.why,λk p hp D L j n=>?_⟩,O⟩
    by_cases e:k=at_
    ·subst e;rw [J] at L;cases L;exact R j n
    ·exact c.fin k p (by lia) D L j n
  ·refine gL v ⟨_,_,g,ks,U,t,s,⟨c.once,c.le,c.has,c.why,λk p hp D L j n=>?_⟩,u⟩;exact c.fin k p (by have:k≠at_:=λe=>v (e▸p);lia) D L j n
 ·rintro A S ⟨X,y,g,ks,rfl,t,s,c,u⟩;refine c2 _ _ (aa U ⟨d,g,ks.map λi:Nat=>(i:Int),U,t,by rw [s,List.map_map];rfl,λl x Q AA Lo=>?_⟩);have LK:H l=none:=by
   cases q:H l with
   | none=>rfl
   | some x1=>rw [u _ _ q] at Q;cases Q
  have AZ:∀{l:List Int},(∀z∈l,0<=z)->(l.map Int.toNat).map (λi:Nat=>(i:Int))=l:=λ{l} h=>by
   rw [List.map_map]
   conv=>rhs;rw [<-Bt l]
   exact FG λz N=>k_ (h z N)
  have hnn:∀z∈x,0<=z:=λz N=>by obtain ⟨k,_,rfl⟩:=fY.mp (AA.mem_iff.mp N);exact kW (k+0)
  have C:(x.map Int.toNat).Perm ks:=by
   have:=AA.map Int.toNat;rw [List.map_map] at this;have e:ks.map (Int.toNat ∘ λi:Nat=>(i:Int))=ks:=by
    conv=>rhs;rw [<-Bt ks]
    exact FG λz _=>l_ z
   rw [e] at this;exact this
  have s3:a0 H (upd S l (.lst (x.map V.int))):=λb o e=>by rw [ah (av (u _ _ e) Q)];exact u _ _ e
  refine k l _ (x.map Int.toNat) LK s3 ?_ ⟨?_,λi E=>c.le i (C.mem_iff.mp E),C.mem_iff.mpr c.has,λi E D J j n=>?_,λi E=>?_⟩
  ·rw [ai];unfold fw;have e:x.map V.int=(x.map Int.toNat).map λi:Nat=>V.int (i:Int):=by
    conv=>lhs;rw [<-AZ hnn]
    rw [List.map_map];rfl
   rw [e]
  ·have pR:(x.map Int.toNat).Nodup:=C.nodup_iff.mpr c.once;have B:(x.map Int.toNat).Pairwise (·<=·):=by
    rw [tm];exact Lo.imp λh=>Int.toNat_le_toNat h
   exact B.imp₂ (λa b h h'=>Ng h h') pR
  ·have y8:=C.mem_iff.mp E;have:=c.le i y8;exact C.mem_iff.mpr (c.fin i y8 (by lia) D J j n)
  ·rcases c.why i (C.mem_iff.mp E) with e | ⟨k',u1,D,B,h2⟩
   ·exact .inl e
   ·exact .inr ⟨k',C.mem_iff.mpr u1,D,B,h2⟩
end
def xR (rows:List Row) (ns:List Nat) (i:Nat):Option Row:=(rows[i]?).map λr=>⟨r.cJ,r.word,r.used.map λj=>ns.idxOf j⟩
def Pn (rows:List Row) (ns:List Nat):List Row:=ns.filterMap (xR rows ns)
theorem Ϥ {ns:List Nat} {m x:Nat} (b:ns.Nodup) (h:ns[m]?=some x):ns.idxOf x=m:=by obtain ⟨a,rfl⟩:=eX.mp h;exact List.Nodup.idxOf_getElem b m a
theorem Xk {ns:List Nat} (h:ns.Pairwise (·<·)):ns.Nodup:=h.imp λh=>gv h
theorem zAx {ns:List Nat} (h:ns.Pairwise (·<·)) {m x j:Nat} (d:ns[m]?=some x) (b:j∈ns) (k:j<x):j∈ns.take m:=by
 obtain ⟨i,a,e⟩:=xh b;obtain ⟨c,f⟩:=eX.mp d;have g:i<m:=gh λz=>by
  rcases F9 (kZ z) with z | z
  ·have:=BE.mp h m i c a z;lia
  ·subst z;lia
 rw [<-e];exact List.mem_take_iff_getElem.mpr ⟨i,by lia,U⟩
def P6:Sp:=λh H Q _=>∃(g:Addr) (f:List Addr) (a:List Row) (c:Nat),h=[.ref g,.int (c:Int)]/\H g=some (.lst (f.map V.ref))/\Paired (oP H) f a/\SM a/\c<a.length/\a.length<=16500000/\
 ∀l b d e,H l=none->a0 H b->JP a c d->b l=some (.lst (e.map V.ref))->Paired (oP b) e (Pn a d)->Q (.ref l) b
section
noncomputable abbrev UE:List Str:=["rows","last","places","paper","number","row"]
theorem Af:bR UE Ď (aF bP):=cD
theorem ZG:hV (aF bP) UE (j4 [(".0",.local),("used",.local),("places",.free)]) ["used","places"] [none,some 2]:=j7
theorem ZT:(["used","places"]:List Str).Nodup:=by decide+kernel
theorem lL (F:Fn K mg "paper_up_to" bP Ď f fd) (hL:mg "len"=none) (hT:mg "tuple"=none)
 (FN:Fn K mg "numbers_needed" bz Ď fN kh) (GN:aq P w K mg base aw 1 fN kh Ď OG):aq P w K mg base aw 2 f fd Ď P6:=by
 refine F.F.cY Af λ_ x4 _ x7 H _ x6 x5 hr h=>?_;obtain ⟨rl,qs,C,Y,rfl,kS,cp,hU,uz,hlen,k⟩:=h;have hu:=jl hr;refine ⟨_,aR (ra (i:=2) Af.nd U (Or.inr U) PX)
  (aR (cx 3 Af.nd (iW oS))
  (aR (iJ ja U (gP (cE GN hr FN (bo (pv 0) (pv 1)))) (cf 4 Af.nd)
   (aR (cx 5 Af.nd (cV di (pv 0) (pv 4)))
   (aR (Cs hu (pv 2) (pv 4) (i7 vt (by rfl) hL xj (aY (pv 3))) U)
   (au (e_ (l9 md ma m_ lF (pv 3) (aY (f9 (ia (aE (pv 5)) (aE (pv 5)) (pe Sg (by rfl) hT (by decide+kernel) (aY (oA U (Hx (aE (pv 5))) ZG (λcl ex s0 H0=>⟨cf 0 ZT,rq,jF hu (pv 1) (pv 0) (λ_ _=>rfl)⟩)))))))))))))
  (au (cg (pv 3))))),?_⟩
 refine λN1 c1 d hd=>c1 _ _ ?_;have s1:=aV (o:=.dK []) hd;have e1:upd H d (.dK []) d=some (.dK []):=ai;generalize upd H d (.dK [])=H1 at*;clear c1 N1;refine λN2 c2=>⟨dZ _,λpl T=>c2 _ _ ?_⟩;have s2:=aV (o:=.lst []) T;have e2:upd H1 pl (.lst []) pl=some (.lst []):=ai;have TX:H pl=none:=by
  cases q:H pl with
  | none=>rfl
  | some x2=>rw [s1 _ _ q] at T;cases T
 have VM:d≠pl:=av e1 T;generalize upd H1 pl (.lst [])=H2 at*;clear c2 N2;have DZ:=s1.trans s2;have Lv:qs.length=C.length:=j8 cp;refine λN3 c3=>(aa U (aa U ⟨rl,qs,C,Y,U,DZ _ _ kS,dM cp λq r e=>e.same DZ,hU,uz,hlen,λl H3 ns S s3 el A=>?_⟩));have pR:=Xk A.up;have hnl:ns.length<=Y+1:=MH.vh (Y+1) ns pR λx3 hz=>by have:=A.le x3 hz;exact IK this
 have s03:=DZ.trans s3;have ed3:=s3 _ _ (s2 _ _ e1);have ep3:=s3 _ _ e2;have lH:H l=none:=by
  cases q:H l with
  | none=>rfl
  | some x2=>rw [DZ _ _ q] at S;cases S
 have ld:l≠d:=aK (av (s2 _ _ e1) S);have lp:l≠pl:=aK (av e2 S);refine ⟨l,U,⟨_,ar.of el⟩,?_⟩;refine lD (K:=K) (a:=l) (xs:=fw ns) (λm t u=>∃v4 v5 g p,t=[some (.ref rl),some (.int (Y:Int)),some (.ref d),some (.ref pl),v4,v5]/\u d=some (.dK g)/\g.length<=m/\
  (∀j:Nat,j∈ns.take m->dJ g (Sum.inl (j:Int))=some (.int (ns.idxOf j:Int)))/\u pl=some (.lst (p.map V.ref))/\p.length=m/\Paired (oP u) p ((ns.take m).filterMap (xR C ns))/\u l=some (.lst (fw ns))/\a0 H u)
  ⟨none,none,[],[],U,ed3,ay _,λj n=>by simp at n,ep3,U,.nil,el,s03⟩ ?_ ?_ ?_
 ·rintro m t s _ ⟨_,_,_,_,rfl,_,_,_,_,_,_,e,_⟩;exact ar.of e
 ·rintro m x2 t s c ⟨v4,v5,g,p,rfl,M,AG,jZ,N,wx,W,VE,s4⟩;unfold fw at c;rw [dA] at c
  cases n:ns[m]? with
  | none=>rw [n] at c;cases c
  | some num=>
   rw [n] at c;cases c;have hmn:m<ns.length:=(eX.mp n).1;have LA:=A.le num (eR n);obtain ⟨q,hq⟩:∃q,qs[num]?=some q:=⟨_,gI (by lia)⟩;obtain ⟨r,wu,y,pu,g4,g5,g6⟩:=a9 cp hq;have nZ:ic (qs.map V.ref) (num:Int)=some (.ref q):=je (by rw [dA,hq];rfl);refine λN5 c5=>(aa U (yn U (s4 _ _ kS) nZ (c5 _ _ ?_)));clear c5 N5;refine λN6 c6=>(aa U ⟨pl,_,U,.inl (ar.of N),aa U (aa U ⟨d,_,U,qj.k (k:=Sum.inl (num:Int)) M (z8 (by lia)),c6 _ _ ?_⟩)⟩);rw [az,wx];clear c6 N6;have B:∀{b:Addr} {o:HO},s b=some o->b≠d->upd s d (.dK (eJ g (Sum.inl (num:Int)) (.int (m:Int)))) b=some o:=λe ne=>by rw [ah ne];exact e
   have VH:upd s d (.dK (eJ g (Sum.inl (num:Int)) (.int (m:Int)))) d=some (.dK (eJ g (Sum.inl (num:Int)) (.int (m:Int)))):=ai;have z:a0 H (upd s d (.dK (eJ g (Sum.inl (num:Int)) (.int (m:Int))))):=λb o e=>B (s4 _ _ e) (av e hd);have VB:=B N (aK VM);have eQ:=B VE ld;have Lz:Paired (oP (upd s d (.dK (eJ g (Sum.inl (num:Int)) (.int (m:Int)))))) p ((ns.take m).filterMap (xR C ns)):=dM W λq r ⟨y,pu,O,Q,R⟩=>
    ⟨y,pu,B O (aI O M nofun),B Q (aI Q M nofun),B R (aI R M nofun)⟩
   generalize upd s d (.dK (eJ g (Sum.inl (num:Int)) (.int (m:Int))))=H5 at*;have et:ns.take (m+1)=ns.take m++[num]:=by rw [jb,n];rfl
   have AF:∀j:Nat,j∈ns.take (m+1)->dJ (eJ g (Sum.inl (num:Int)) (.int (m:Int))) (Sum.inl (j:Int))=some (.int (ns.idxOf j:Int)):=λj wC=>by
    rw [zK]
    by_cases e:j=num
    ·subst e;rw [if_pos rfl,Ϥ pR n]
    ·rw [if_neg (show ¬((Sum.inl (j:Int):Key)=Sum.inl (num:Int)) from λx3=>e (B2 (tf x3)))];rw [et] at wC;rcases jj.mp wC with h | h
     ·exact jZ j h
     ·exact absurd (ig.mp h) e
   have A3:=hU num r wu;refine (aa U ⟨.inl ⟨U,_,ar.of VB⟩,aa U (aD (z _ _ g4) U (aa U (aD (z _ _ g4) U (aa U (aD (z _ _ g4) U ⟨pu,U,⟨_,dB.of (z _ _ g6)⟩,λDa jG=>?_⟩)))))⟩);refine Qi (xs:=r.used.map λi:Nat=>V.int (i:Int)) (λa t u=>∃x1,t=[x1,some (.ref d)]/\u Da=some (.lst (((r.used.take a).map λj=>ns.idxOf j).map λi:Nat=>V.int (i:Int)))/\a0 H5 u) ⟨none,U,ai,aV jG⟩ ?_ ?_ ?_
   ·rintro a t I _ ⟨x1,rfl,_,E⟩;exact dB.of (E _ _ (z _ _ g6))
   ·rintro a x2 t I c ⟨x1,rfl,L,E⟩;rw [dA] at c
    cases EN:r.used[a]? with
    | none=>rw [EN] at c;cases c
    | some j=>
     rw [EN] at c;cases c;have AI:=eR EN;have hjn:=A.uses num (eR n) r wu j AI;have sR:j∈ns.take (m+1):=by rw [et];exact lg _ (zAx A.up n hjn (A3.2 j AI))
     have dg:eF I d (.int (j:Int)) (some (.int (ns.idxOf j:Int))):=by have:=eF.k (k:=Sum.inl (j:Int)) (E _ _ VH);rw [AF j sR] at this;exact this
     refine (aa U (aa U ⟨d,_,U,dg,_,L,?_,_,U,?_,λb o e=>?_⟩))
     ·rw [az,az,hG];exact fe (JC A3.1)
     ·rw [ai,jb,EN,dN,dN];rfl
     ·rw [ah (av e jG)];exact E _ _ e
   ·rintro t I ⟨x1,rfl,L,E⟩;have eD:r.used.take (r.used.map λi:Nat=>V.int (i:Int)).length=r.used:=by rw [az];exact hH
    rw [eD] at L;refine ⟨Da,_,U,.inl ⟨ar.of L,λx htu=>⟨eH U,λD Lr=>?_⟩⟩⟩;have s7:=aV (o:=.tup ((r.used.map λj=>ns.idxOf j).map λi:Nat=>V.int (i:Int))) htu;have e7:upd I x (.tup ((r.used.map λj=>ns.idxOf j).map λi:Nat=>V.int (i:Int))) x=some (.tup ((r.used.map λj=>ns.idxOf j).map λi:Nat=>V.int (i:Int))):=ai;generalize upd I x (.tup ((r.used.map λj=>ns.idxOf j).map λi:Nat=>V.int (i:Int)))=H7 at*;have s8:=aV (o:=.tup [.ref y,.str (kJ r.word),.ref x]) Lr;have e8:upd H7 D (.tup [.ref y,.str (kJ r.word),.ref x]) D=some (.tup [.ref y,.str (kJ r.word),.ref x]):=ai;generalize upd H7 D (.tup [.ref y,.str (kJ r.word),.ref x])=J at*;have v:=(E.trans s7).trans s8;have VA:=v _ _ VB;refine (kP VA (by rw [az,wx];exact z8 (by lia)) ?_);have X:∀{b:Addr} {o:HO},J b=some o->b≠pl->upd J pl (.lst (p.map V.ref++[.ref D])) b=some o:=λe ne=>by rw [ah ne];exact e
    have G:∀{b:Addr} {xs:List V},J b=some (.tup xs)->upd J pl (.lst (p.map V.ref++[.ref D])) b=some (.tup xs):=λe=>X e (aI e VA nofun);refine ⟨_,_,_,p++[D],U,X (v _ _ VH) VM,cP (yh _ _ _) (vl AG),AF,?_,by rw [iD,wx];rfl,?_,X (v _ _ eQ) lp,λb o e=>X (v _ _ (z _ _ e)) (av e TX)⟩
    ·rw [ai,dN];rfl
    ·rw [et,B6];refine yi (dM Lz λq r' ⟨pw',D_,O,Q,R⟩=>⟨pw',D_,G (v _ _ O),G (v _ _ Q),G (v _ _ R)⟩) ?_;have er:xR C ns num=some ⟨r.cJ,r.word,r.used.map λj=>ns.idxOf j⟩:=by unfold xR;rw [wu];rfl
     rw [show [num].filterMap (xR C ns)=[⟨r.cJ,r.word,r.used.map λj=>ns.idxOf j⟩] by simp [er]];exact .cons ⟨y,x,G e8,G (v _ _ (z _ _ g5)),G (s8 _ _ e7)⟩ .nil
 ·rintro t s ⟨v4,v5,g,p,rfl,_,_,_,N,_,W,VE,s4⟩;have eD:ns.take (fw ns).length=ns:=by unfold fw;rw [az];exact hH
  rw [eD] at W;exact c3 _ _ (aa U (k pl s ns p TX s4 A N W))
end
noncomputable def dD (F:MU.cS) (x:iU):Bool:=match F x.2.1 with
 | some f=>decide (f.2.1<x.2.2) && decide (x.2.2<=f.2.2)
 | none=>false
def P8:Sp:=λa H Q _=>∃(d q:Addr) (F:MU.cS) (x:iU) (f:Nat×Int×Int),a=[.ref d,.ref q]/\lB H d F/\ik H q x/\F x.2.1=some f/\Q (.bl (dD F x)) H
section
theorem SA:bR ["by_end","wait","fall"] Ĝ (aF ee):=cD
theorem nJ (F:Fn K mg "is_told" ee Ĝ f fd):aq P w K mg base aw 1 f fd Ĝ P8:=by
 refine F.F.cY SA λ_ A _ s H _ Q E r h=>?_;obtain ⟨d,q,j,x,a,rfl,i,g,e,k⟩:=h;have t:=jl r;refine ⟨_,cv (cx 2 SA.nd (jF t (pv 0) (aE (pv 1)) (λ_ _=>rfl)))
  (au (cg (H_ tF jN (aE (pv 2)) (aE (pv 1)) (aE (pv 2))))),?_⟩
 obtain ⟨y,o,v,u,n⟩:=i.at_;obtain ⟨p,l,b⟩:=n _ _ e;have m:dD j x=(decide (a.2.1<x.2.2) && decide (x.2.2<=a.2.2)):=by unfold dD;rw [e]
 rw [m] at k;refine (aa U (aa U (aD g U ⟨d,_,U,l▸eF.k (k:=Sum.inl (x.2.1:Int)) o,?_⟩)));refine (aa U (aD b U (aa U (aD g U (ri ⟨_,U,?_⟩)))))
 by_cases c:a.2.1<x.2.2
 ·rw [eO c] at k;refine fu c (aa U (aD b U (ri ?_)));exact k
 ·rw [eE c] at k;exact gL c k
def ϟ (H:Hp) (r:Addr) (st:MU.St) (F:MU.cS):Prop:=∃a b c d L M,H r=some (.tup [.str "rule",.ref a,.ref b])/\H a=some (.lst (c.map V.ref))/\Paired (ik H) c L/\jB st true L/\
 H b=some (.lst (d.map V.ref))/\Paired (ik H) d (M.filter (dD F))/\jB st false M
def zCu (H:Hp) (r:Addr) (st:MU.St) (b:Nat):Prop:=∃l a c,H r=some (.tup [.str "paper",.ref l])/\H l=some (.lst (c.map V.ref))/\Paired (oP H) c (Pn st.rows a)/\JP st.rows b a
def gO (n:Nat) (la:Int) (T F:List (List Int)) (Te:Nat):MU.St:=MU.run n (aQ F) (mu n la T F) Te
def OD (f:Addr):Sp:=λg H Q _=>∃(e:Addr) (n:Nat) (a:Int) (T F:List (List Int)) (d:Nat),g=[.ref e]/\jK f H e (n:Int) a T F/\dn (n:Int) a T F/\zi n (aQ F) (mu n a T F) d/\
 ∀r c,H r=none->a0 H c->(∀b,(gO n a T F d).bar=some b->zCu c r (gO n a T F d) b->Q (.ref r) c)/\((gO n a T F d).bar=none->ϟ c r (gO n a T F d) (aQ F)->Q (.ref r) c)
theorem J':bR ["web","closing","waits"] Ċ (aF gD):=cD
theorem ZD:hV (aF gD) ["web","closing","waits"] (j4 [(".0",.local),("wait",.local),("is_told",.globalImplicit),("closing",.free)]) ["wait","closing"] [none,some 1]:=j7
theorem ZQ:(["wait","closing"]:List Str).Nodup:=by decide+kernel
theorem su (F:Fn K mg "kept" gD Ċ f fd) (T:o4 K mg C) (M:Mk K C fI) (hC:mg "Closing"=some (.ref C))
 (bI:dm K wU đ []) (GI:aq P w K mg base aw 4 fI wU đ (Pj C CW))
 (mA:fV K C "draw_all" fA) (bA:dm K MG xv []) (GA:aq P w K mg base aw 5 fA MG xv (SY C))
 (mB:fV K C "best_drawn" fB) (bB:dm K uE ě []) (GB:aq P w K mg base aw 1 fB uE ě (OB C))
 (FP:Fn K mg "paper_up_to" bP Ď fP fdP) (GP:aq P w K mg base aw 2 fP fdP Ď P6)
 (FT:Fn K mg "is_told" ee Ĝ fT mS) (GT:aq P w K mg base aw 1 fT mS Ĝ P8):aq P w K mg base aw 6 f fd Ċ (OD CW):=by
 refine F.F.cY J' λ_ x5 _ x8 H _ x7 x6 hr x3=>?_;obtain ⟨wb,n,s,t,rF,Te,rfl,W0,W,hE,x2⟩:=x3;have g_:cR 1 _:=hr.mono (by decide);have sN:cR 2 _:=hr.mono (by decide);refine ⟨_,aR (ra (i:=1) J'.nd U (Or.inr U) (Cr M GI hr U hC bI .nil dR (aY (pv 0))))
  (aR (e_ (oX (pv 1) T.cl mA GA hr bA .nil dR))
  (aR (dr (cG tP (cI (pv 1) U) iI) (au (cg (f9 (bo dY (cE GP sN FP (bo (cI (pv 1) U) (cI (pv 1) U))))))) d8)
  (aR (vd (i:=2) J'.nd U U U (gP (gq (pv 1) T.cl mB GB g_ bB .nil dR (aY dY))) ZD (λcl ex s0 H0=>⟨cf 0 ZQ,oW (qx (cE GT g_ FT (bo (rk (K:=K) U (pv 1) U) (pv 0)))),pv 0⟩))
  (au (cg (f9 (ia dY (gq (pv 1) T.cl mB GB g_ bB .nil dR (aY dY)) (pv 2)))))))),?_⟩
 have n2:=W.n2;refine λN1 c1=>(aa U (λp m X Vs _=>?_));have W1:jK CW (upd (upd H m (.own p)) p (.ins C m [])) wb (n:Int) s t rF:=W0.same λb o e=>by rw [ah (av e X),ah (av e Vs)];exact e
 have ur:∀b o,H b=some o->upd (upd H m (.own p)) p (.ins C m []) b=some o:=λb o e=>by rw [ah (av e X),ah (av e Vs)];exact e
 refine ⟨p,wb,m,n,s,t,rF,U,ai,W1,W,λH2 R rl bd c2 _ kS Mc k2=>⟨U,c1 _ _ ?_⟩⟩;have s2:a0 H H2:=λb o e=>k2 _ _ (ur _ _ e) (av e X);have um:∀{b:Addr},upd (upd H m (.own p)) p (.ins C m []) b=none->H b=none:=λ{b} e=>by
  cases q:H b with
  | none=>rfl
  | some x=>rw [ur _ _ q] at e;cases e
 have D':=um kS;have Ff:=um Mc;clear c1 N1;obtain ⟨dx2,lT⟩:=c2.ins;refine λN2 VR=>(aa U (fi lT (nh) ⟨p,R,rl,bd,n,_,_,Te,U,c2,Dj W,W.oG,CY n2,hE,λH3 z h k3=>VR _ _ ?_⟩));clear VR;have AO:MU.run n (aQ rF) (mu n s t rF) Te=gO n s t rF Te:=U;rw [AO] at z h;have s3:a0 H H3:=λb o e=>k3 _ _ (s2 _ _ e) (av e X) (av e D') (av e Ff);have hU:MU.iE (gO n s t rF Te):=MU.Qd (MU.YN _ _ MU.Y_) Te;have pZ:(gO n s t rF Te).rows.length<=16000000:=hE.pZ Te (ay _);generalize gO n s t rF Te=st at*;obtain ⟨VL,Y⟩:=z.ins;obtain ⟨qs,sM,cp⟩:=z.rows;refine λN3 VQ=>(aa U (cb Y T.cl T.nX BN ⟨U,ct ?_⟩));have uo:∀{k:Hp} {b:Addr},a0 H k->k b=none->H b=none:=λ{k b} ss e=>by
  cases q:H b with
  | none=>rfl
  | some x=>rw [ss _ _ q] at e;cases e
 cases jy:st.bar with
 | some b=>
  obtain ⟨r0,hr0,_⟩:=hU.2 b jy;have hb:=(eX.mp hr0).1;refine jM U (aa U (cb Y T.cl T.nR qY (aa U (cb Y T.cl T.nX BN ⟨rl,qs,st.rows,b,by rw [jy];rfl,sM,cp,hU.1,hb,by lia,λl H4 ns u _ G hN S sP=>⟨eH U,λx1 E=>?_⟩⟩))));have c:=aV (o:=.tup [.str "paper",.ref l]) E;have DY:=(s3.trans G).trans c;exact (x2 x1 _ (uo (s3.trans G) E) DY).1 b jy ⟨l,ns,u,ai,c _ _ S,dM sP λq x1 e=>e.same c,hN⟩
 | none=>
  refine gU U (VQ _ _ ?_);clear VQ N3;have inB:∀{J:Bool} {L:List iU},jB st J L->L.length<=64/\∀x∈L,∃w',w'.tie=J/\w'.b=x.2.1/\∃j,ag st j=some w':=λ{J L} hB=>by
   have mem:∀x∈L,∃w',w'.tie=J/\w'.a=x.1/\w'.b=x.2.1/\∃j,ag st j=some w':=λx d=>by
    obtain ⟨a,b,v⟩:=x;have hv:=(hB.has a b v).mp d;unfold val at hv
    cases I:st.best (J,a,b) with
    | none=>rw [I] at hv;cases hv
    | some j=>
     obtain ⟨w',h1,h2⟩:=h.good.at_ _ _ I;have h4:=iq h2;exact ⟨w',h4.1,h4.2.1,h4.2.2,j,h1⟩
   refine ⟨?_,λx d=>?_⟩
   ·have pR:(L.map λx=>x.1*8+x.2.1).Nodup:=by
     have h0:=hB.once;unfold List.Nodup at h0 ⊢;rw [tm] at h0 ⊢;refine N7 (λ{x y} d r e x4=>e ?_) h0;obtain ⟨N,_,_,b1,j1,e1⟩:=mem x d;obtain ⟨w2,_,_,b2,j2,e2⟩:=mem y r;have l1:=h.good.lt _ _ e1;have l2:=h.good.lt _ _ e2;exact Prod.ext (by show x.1=y.1;lia) (by show x.2.1=y.2.1;lia)
    have:=MH.vh 64 _ pR λx4 hz=>by obtain ⟨x,d,rfl⟩:=fY.mp hz;obtain ⟨N,_,a1,b1,j1,e1⟩:=mem x d;have l1:=h.good.lt _ _ e1;show x.1*8+x.2.1<64;lia
    rwa [az] at this
   ·obtain ⟨N,h1,_,h2,h3⟩:=mem x d;exact ⟨N,h1,h2,h3⟩
  refine λN4 c4=>(aa U (fi Y (nh) ⟨p,R,rl,bd,n,_,st,false,U,z,h.good,CY n2,by lia,λl H4 u M _ G S sP hM=>⟨l,U,⟨_,ar.of S⟩,λO jG=>?_⟩⟩));obtain ⟨hM64,hMw⟩:=inB hM;have wy:u.length=M.length:=j8 sP;have VP:=z.same G;refine nt (K:=K) (a:=l) (xs:=u.map V.ref) (λi gK k=>∃v g,gK=[v,some (.ref p)]/\k O=some (.lst (g.map V.ref))/\Paired (ik k) g ((M.take i).filter (dD (aQ rF)))/\g.length<=i/\a0 H4 k) ⟨none,[],U,ai,.nil,ay _,aV jG⟩ ?_ ?_ ?_
  ·rintro i gK Q _ ⟨v,g,rfl,_,_,_,c⟩;exact ar.of (c _ _ S)
  ·rintro i y gK Q r ⟨v,g,rfl,B,D,LN,c⟩;rw [dA] at r
   cases I:u[i]? with
   | none=>rw [I] at r;cases r
   | some q=>
    rw [I] at r;cases r;obtain ⟨x,d,Vd⟩:=a9 sP I;have hi:i<M.length:=(eX.mp d).1;obtain ⟨N,t1,b1,j1,g1⟩:=hMw x (eR d);obtain ⟨fa,wH⟩:=h.ends j1 N g1 t1;rw [b1] at wH;have A:=VP.same c;obtain ⟨dx5,L5⟩:=A.ins;have et:M.take (i+1)=M.take i++[x]:=by rw [jb,d];rfl
    refine (aa U (cb L5 T.cl T.nB SN (aa U ⟨R,q,_,x,fa,U,A.dW,Vd.same c,wH,_,U,?_⟩)))
    cases ht:dD (aQ rF) x with
    | true=>
     refine fv (aa U ⟨_,B,?_,_,g++[q],U,?_,?_,?_,λb o e=>?_⟩)
     ·rw [az];exact fe (by lia)
     ·rw [ai,dN];rfl
     ·rw [et,qO];have kp:∀b y,ik Q b y->ik (upd Q O (.lst (g.map V.ref++[.ref q]))) b y:=λb y e=>by
       unfold ik;rw [ah (aI e B nofun)];exact e
      refine yi (dM D kp) ?_;rw [show [x].filter (dD (aQ rF))=[x] by simp [ht]];exact .cons (kp _ _ (Vd.same c)) .nil
     ·rw [iD];show g.length+1<=i+1;exact vl LN
     ·rw [ah (av e jG)];exact c _ _ e
    | false=>
     refine dk ⟨_,g,U,B,?_,by exact iC LN,c⟩;rw [et,qO];rw [show [x].filter (dD (aQ rF))=[] by simp [ht],lZ];exact D
  ·rintro gK Q ⟨v,g,rfl,B,D,LN,c⟩;have eD:M.take (u.map V.ref).length=M:=by rw [az,wy];exact hH
   rw [eD] at D;refine c4 _ _ ?_;have A:=VP.same c;obtain ⟨dx5,L5⟩:=A.ins;have DY:=(s3.trans G).trans c;refine (aa U (fi L5 (nh) ⟨p,R,rl,bd,n,_,st,true,U,A,h.good,CY n2,by lia,λl6 H6 ps6 L _ s6 el6 Ly hL=>(aa U ⟨eH U,λx1 E=>?_⟩)⟩));have s7:=aV (o:=.tup [.str "rule",.ref l6,.ref O]) E;have K1:=s6.trans s7;exact (x2 x1 _ (uo (DY.trans s6) E) (DY.trans K1)).2 jy ⟨l6,O,ps6,g,L,M,ai,s7 _ _ el6,dM Ly λq x e=>e.same s7,hL,K1 _ _ B,dM D λq x e=>e.same K1,hM⟩
end
theorem OT (h:i<n):sJ n (i:Int)=some i:=by
 unfold sJ;rw [if_pos (by exact kW (i+0))]
 first
 | rw [if_pos (CU h)];simp
 | simp [h]
def dP.with (a:dP) (c:List (Option Int)) (now:Int):dP:={ a with c:=c,now:=now }
def Ke (p c:Addr) (H a:Hp):Prop:=∀b u,H b=some u->b≠p->b≠c->a b=some u
theorem dq.with (h:dq a) (e:c.length=a.c.length):dq (a.with c now):=
 ⟨λx b=>e▸h.t x b,λx b=>by obtain ⟨f,d,g,i⟩:=h.m x b;exact ⟨f,d,e▸g,e▸i⟩,h.tl,h.ml,λm j=>e▸h.own m j,h.ol⟩
theorem iQ.ki {l:List Nat} {now:Int} (h:iQ C H p lt lw be ow ca F T M l c now) (k:∃kvs,H be=some (.dK kvs)) (D:lt≠ca) (E:lw≠ca) (G:ow≠ca):iQ C (upd H ca (.lst (I.map ov))) p lt lw be ow ca F T M l I now:=by
 obtain ⟨⟨s,j⟩,⟨J,t,v⟩,⟨O,x,y⟩,⟨B,d,Q,R,S⟩,z,g⟩:=h;obtain ⟨kvs,k⟩:=k;have a:∀b u,H b=some u->b≠ca->upd H ca (.lst (I.map ov)) b=some u:=λb u e n=>by rw [ah n];exact e
 have i:∀{q m},H q=some (.tup m)->upd H ca (.lst (I.map ov)) q=some (.tup m):=λe=>a _ _ e (aI e g nofun);refine ⟨⟨s,a _ _ j (aI j g nofun)⟩,⟨J,a _ _ t D,dM v λq r e=>i e⟩,⟨O,a _ _ x E,dM y λq r e=>i e⟩,⟨B,?_,Q,R,λe f A=>?_⟩,a _ _ z G,ai⟩
 ·rcases d with d | ⟨o,d⟩
  ·exact .inl (a _ _ d (aI d g nofun))
  ·exact .inr ⟨o,a _ _ d (aI d g nofun)⟩
 ·obtain ⟨q,L,N⟩:=S e f A;exact ⟨q,L,i N⟩
theorem iQ.sG {s:List Nat} {B v:Int} (h:iQ C H p lt lw be ow ca F T M s c B) (a:∃fs,H p=some (.ins C dx fs)):iQ C (upd H p (.ins C dx (lz lt lw be ow ca v))) p lt lw be ow ca F T M s c v:=by
 obtain ⟨_,⟨D,j,x⟩,⟨I,k,y⟩,⟨A,g,J,L,N⟩,l,m⟩:=h;obtain ⟨fs,a⟩:=a;have d:∀b u,H b=some u->b≠p->upd H p (.ins C dx (lz lt lw be ow ca v)) b=some u:=λb u e n=>by rw [ah n];exact e
 have i:∀{q t},H q=some (.tup t)->upd H p (.ins C dx (lz lt lw be ow ca v)) q=some (.tup t):=λe=>d _ _ e (aI e a nofun);refine ⟨⟨dx,ai⟩,⟨D,d _ _ j (aI j a nofun),dM x λq r e=>i e⟩,⟨I,d _ _ k (aI k a nofun),dM y λq r e=>i e⟩,⟨A,?_,J,L,λe f z=>?_⟩,d _ _ l (aI l a nofun),d _ _ m (aI m a nofun)⟩
 ·rcases g with g | ⟨o,g⟩
  ·exact .inl (d _ _ g (aI g a nofun))
  ·exact .inr ⟨o,d _ _ g (aI g a nofun)⟩
 ·obtain ⟨q,E,G⟩:=N e f z;exact ⟨q,E,i G⟩
section
noncomputable abbrev nHg:List Str:=["self","fallen","end","coming","moment"]
theorem DN:bR nHg Ć (aF eB):=cD
end
def qm (N:Nat) (F:List (List Int)):List Nat:=(List.range N).filter λ(i:Nat)=>decide (¬(i:Int)∈F.map oN)
theorem zBt:(qU N F).map V.int=(qm N F).map λi:Nat=>V.int (i:Int):=by unfold qU qm;rw [List.map_map];rfl
theorem zBh:(List.replicate ((n:Nat):Int).toNat [V.aG]).flatten=(List.replicate n (none:Option Int)).map ov:=by
 rw [l_,List.map_replicate]
 induction n with
 | zero=>rfl
 | succ n a=>rw [uK,yS,a,uK];rfl
section
noncomputable abbrev nHi:List Str:=["self","web","answer"]
theorem S7:bR nHi đ (aF eA):=cD
end
theorem CM:HD.lets T M F c now m co=true↔(∀x∈T,x.1=m->HD.jn c now co x.2.1 x.2.2=true)/\∀x∈M,x.1=m->HD.hY c now F x.2.1 x.2.2=true:=by
 unfold HD.lets;rw [mX,mY,mY];refine ⟨λh=>⟨λx a e=>h.1 x (List.mem_filter.mpr ⟨a,eO e⟩),λx a e=>h.2 x (List.mem_filter.mpr ⟨a,eO e⟩)⟩,λh=>⟨λx a=>?_,λx a=>?_⟩⟩
 ·have a:=List.mem_filter.mp a;exact h.1 x a.1 (uI a.2)
 ·have a:=List.mem_filter.mp a;exact h.2 x a.1 (uI a.2)
noncomputable def Bj (n:Nat) (F:List (List Int)) (c:List (Option Int)):List Nat:=(qm n F).filter λm=>(HD.cm c m).isNone
def lu (c:List (Option Int)) (a:Int) (d:List Int) (F:List (List Int)) (k:Nat):Bool:=match F[k]? with
 | some [b,e,_,_]=>(HD.cm c e.toNat).isNone && match HD.cm c b.toNat with
  | some t=>decide (a=t+d.getD k 0)
  | none=>false
 | _=>false
def Ac (F:List (List Int)) (k:Nat):Nat:=(((F[k]?).getD []).getD 1 0).toNat
noncomputable def dj (c:List (Option Int)) (a:Int) (b:List Int) (F:List (List Int)) (k:Nat):List Nat:=((List.range k).filter (lu c a b F)).map (Ac F)
section
variable {c:List (Option Int)} {now:Int} {outs:List Int} {n:Nat}
theorem IE:dj c now outs F (k+1)=dj c now outs F k++if lu c now outs F k=true then [Ac F k] else []:=by
 unfold dj;rw [Fu,qO,dN]
 by_cases h:lu c now outs F k=true
 ·rw [if_pos h,BA h];rfl
 ·rw [if_neg h,B9 h];rfl
theorem xK:e∈dj c now outs F k↔∃j,j<k/\lu c now outs F j=true/\Ac F j=e:=by unfold dj;rw [fY];refine ⟨λ⟨j,h,e⟩=>?_,λ⟨j,a,b,d⟩=>⟨j,List.mem_filter.mpr ⟨kD.mpr a,b⟩,d⟩⟩;have h:=List.mem_filter.mp h;exact ⟨j,kD.mp h.1,h.2,e⟩
theorem zW (f:dn (n:Int) la T F) (h:lu c now outs F k=true):∃b e l m,F[k]?=some [b,e,l,m]/\HD.cm c e.toNat=none/\∃t,HD.cm c b.toNat=some t/\now=t+outs.getD k 0:=by
 unfold lu at h
 cases C:F[k]? with
 | none=>rw [C] at h;cases h
 | some r=>
  obtain ⟨b,e,l,m,rfl,_⟩:=f.f r (eR C);rw [C] at h;obtain ⟨d,a⟩:=Bool.and_eq_true_iff.mp h;refine ⟨b,e,l,m,U,Option.isNone_iff_eq_none.mp d,?_⟩
  cases I:HD.cm c b.toNat with
  | none=>rw [I] at a;cases a
  | some t=>rw [I] at a;exact ⟨t,U,uI a⟩
theorem PB (h:F[k]?=some [b,e,l,m]) (a:HD.cm c e.toNat=none) (d:HD.cm c b.toNat=some t) (f:now=t+outs.getD k 0):lu c now outs F k=true:=by unfold lu;rw [h];show ((HD.cm c e.toNat).isNone && match HD.cm c b.toNat with | some t=>decide (now=t+outs.getD k 0) | none=>false)=true;rw [a,d];exact eO f
theorem tR (h:F[k]?=some [b,e,l,m]):Ac F k=e.toNat:=by unfold Ac;rw [h];rfl
theorem oR (i:dn (n:Int) la T F) {k:Nat} {r:List Int} (h:F[k]?=some r):∃b e l m,r=[b,e,l,m]/\0<=b/\b<n/\0<e/\e<n/\1<=l:=by obtain ⟨b,e,l,m,rfl,a,d,j,f,o,g,_⟩:=i.f r (eR h);exact ⟨b,e,l,m,U,a,d,by omega,f,JB g⟩
theorem Hm (d:dn (n:Int) la T F) {k e:Nat} (h:e∈dj c now outs F k):e<n:=by obtain ⟨j,_,g,rfl⟩:=xK.mp h;obtain ⟨b,e,l,m,a,_⟩:=zW d g;obtain ⟨_,_,_,_,f,_,_,i,o,_⟩:=oR d a;cases f;rw [tR a];omega
theorem zCe (a:dn (n:Int) la T F) {k i:Nat} {b e l m:Int} (h:F[i]?=some [b,e,l,m]):b.toNat∉dj c now outs F k:=λz=>by
 obtain ⟨j,_,o,p⟩:=xK.mp z;obtain ⟨q,e',v,x,f,_⟩:=zW a o;obtain ⟨_,_,_,_,d,r,_,s,_⟩:=oR a f;cases d;obtain ⟨_,_,_,_,d,t,_,u,_⟩:=oR a h;cases d;rw [tR f] at p;have g:b=e':=by lia
 exact a.own _ (eR h) _ (eR f) (by rw [g];rfl)
theorem zBg (f:dn (n:Int) la T F) {i j:Nat} {b e l m g a k o:Int} (h:F[i]?=some [b,e,l,m]) (h':F[j]?=some [g,a,k,o]) (r:e.toNat=a.toNat):i=j:=by obtain ⟨_,_,_,_,d,_,_,p,_⟩:=oR f h;cases d;obtain ⟨_,_,_,_,d,_,_,q,_⟩:=oR f h';cases d;exact f.one i j _ _ h h' (by show some e=some a;rw [show e=a by lia])
theorem zCf (f:dn (n:Int) la T F) {k:Nat} {b e l m:Int} (h:F[k]?=some [b,e,l,m]):e.toNat∉dj c now outs F k:=λz=>by obtain ⟨j,p,g,a⟩:=xK.mp z;obtain ⟨i,o,q,r,d,_⟩:=zW f g;rw [tR d] at a;have:=zBg f d h a;lia
theorem QM (a:dn (n:Int) la T F):∀k,k<=F.length->(dj c now outs F k).Nodup
 | 0,_=>xg
 | k+1,g=>by
  rw [IE];have f:=QM a k (by exact bf g)
  by_cases h:lu c now outs F k=true
  ·rw [if_pos h];obtain ⟨b,e,l,m,d,_⟩:=zW a h;refine List.nodup_append.mpr ⟨f,List.nodup_cons.mpr ⟨nofun,xg⟩,λx i y j z=>?_⟩;rw [ig.mp j,tR d] at z;exact zCf a d (z▸i)
  ·rw [if_neg h,lZ];exact f
structure Cb (F:List (List Int)) (outs:List Int):Prop where
 len:outs.length=F.length
 at_:∀k b e l m,F[k]?=some [b,e,l,m]->l<=outs.getD k 0/\outs.getD k 0<=m
def Jt (F:List (List Int)) (outs:List Int) (c:List (Option Int)) (now:Int):Prop:=∀k b e l m t,F[k]?=some [b,e,l,m]->HD.cm c e.toNat=none->HD.cm c b.toNat=some t->now<=t+outs.getD k 0
theorem zL (i:dn (n:Int) la T F) (h:aQ F e=some f):∃(k:Nat) (b:Int),F[k]?=some [b,(e:Int),f.2.1,f.2.2]/\f.1=b.toNat/\e<n/\f.1<n:=by obtain ⟨a,l,m,g,rfl,j,o,p,q,_⟩:=i.find h;obtain ⟨k,d⟩:=tr.mp g;exact ⟨k,a,d,U,by lia,by show a.toNat<n;lia⟩
theorem P9 (o:dn (n:Int) la T F) (x:Cb F outs) (E:Jt F outs c now) (a:dP) (r:a.F=aQ F) (s:a.c=c) (u:a.now=now) (z:c.length=n):HH a (dj c now outs F F.length):=by
 refine ⟨QM o _ (ay _),λe G=>?_,λe f t p d g D=>?_,λe f h=>?_⟩
 ·obtain ⟨j,p,d,g⟩:=xK.mp G;obtain ⟨b,y,l,m,q,B,t,C,J⟩:=zW o d;obtain ⟨_,_,_,_,A,_,_,L,_⟩:=oR o q;cases A;rw [tR q] at g;have H:=o.dW (eR (show F[j]?=some [b,((e:Nat):Int),l,m] by rw [q,show y=(e:Int) by lia]));have I:=x.at_ j _ _ _ _ q;rw [r,s,u];refine ⟨_,t,H,by rw [<-g];exact B,C,?_,?_⟩
  ·show l<=now-t;lia
  ·show now-t<=m;lia
 ·rw [r] at p;rw [s] at d g;rw [u] at D;obtain ⟨k,b,i,v,_⟩:=zL o p;have I:=x.at_ k _ _ _ _ i;rw [v] at g;have:=E k _ _ _ _ t i d g;refine xK.mpr ⟨k,(eX.mp i).1,PB i d g (by lia),by rw [tR i];rfl⟩
 ·rw [r] at h;rw [s,z];obtain ⟨k,b,i,v,p,d⟩:=zL o h;exact ⟨p,d⟩
theorem Jt.next (h:dn (n:Int) la T F) (v:Cb F outs) (s:Jt F outs c now) {r:List Nat} (y:∀m∈r,m<c.length) (u:c.length=n):Jt F outs (HD.af r now (HD.af (dj c now outs F F.length) now c)) (now+1):=by
 intro k b e l m t f a d;have A:∀x∈dj c now outs F F.length,x<c.length:=λx i=>by rw [u];exact Hm h i
 have B:∀x∈r,x<(HD.af (dj c now outs F F.length) now c).length:=λx i=>by rw [HD.aW];exact y x i
 rw [HD.fm B,HD.fm A] at a d;have E:=v.at_ k _ _ _ _ f;obtain ⟨_,_,_,_,q,_,_,_,_,C⟩:=oR h f;cases q
 by_cases j:b.toNat∈r
 ·rw [if_pos j] at d;cases d;lia
 rw [if_neg j] at d
 by_cases o:b.toNat∈dj c now outs F F.length
 ·exact absurd o (zCe h f)
 rw [if_neg o] at d
 by_cases p:e.toNat∈r
 ·rw [if_pos p] at a;cases a
 rw [if_neg p] at a
 by_cases g:e.toNat∈dj c now outs F F.length
 ·rw [if_pos g] at a;cases a
 rw [if_neg g] at a;have:=s k _ _ _ _ t f a d;have D:now≠t+outs.getD k 0:=λz=>g (xK.mpr ⟨k,(eX.mp f).1,PB f a d z,tR f⟩);lia
end
end Y0
namespace MU
def Kn (st:St) (w:ak):Prop:=(w.a≠w.b->∃u,val st w.key=some u/\¬ed w.tie w.v u)/\(ix w->st.bar≠none)
theorem Kn.imp {w:ak} (h:Kn s w) (i:Imp s s'):Kn s' w:=by refine ⟨λa=>?_,λb=>i.1.bar (h.2 b)⟩;obtain ⟨u,c,e⟩:=h.1 a;obtain ⟨g,d,f⟩:=i.2 w.key u a c;exact ⟨g,d,JL e f⟩
theorem Pr (s:St) (w:ak) (word:Wd) (us:List Nat):Kn (take s w word us) w:=⟨λh=>Dy h,λh=>Rb h⟩
theorem BP {p w:ak} (b:ag s i=some p) (a:f p=some w):Kn (aH f word i s) w:=by unfold aH;rw [b];show Kn (put s (f p) word [i]) w;rw [a];exact Pr _ _ _ _
theorem BR {p q w:ak} (b:ag s i=some p) (c:ag s j=some q) (a:f p q=some w):Kn (ao f word i j s) w:=by unfold ao;rw [b];show Kn (put s ((ag s j).bind λq=>f p q) word [i,j]) w;rw [c];show Kn (put s (f p q) word [i,j]) w;rw [a];exact Pr _ _ _ _
theorem Cw (a:∀s j,Imp s (f s j)) {l:List Nat} {j:Nat} {w:ak} (b:j∈l) (h:∀s1,Imp s s1->Kn (f s1 j) w):Kn (l.foldl f s) w:=by obtain ⟨s1,c,d⟩:=IS a l s j b;exact (h s1 c).imp d
theorem zS (e:Ext s s') (h:s'.best k=some j) (c:j<s.rows.length):s.best k=some j:=by
 rcases e.best k with a | ⟨i,a,b⟩
 ·rw [<-a];exact h
 ·rw [h] at a;cases a;exact (zN c b).elim
section
variable (hp:ag s at_=some p) (hZ:Imp (eK n F at_ a b s) fs)
theorem Yy {w:ak} (hp:ag s at_=some p) (h:du F p=some w):Kn (eK n F at_ a b s) w:=
 (BP hp h).imp ((gc _ _ _ _).trans ((dS (λ_ _=>cW ..) _ _).trans ((dS (λ_ _=>cW ..) _ _).trans (dS (λ_ _=>cW ..) _ _))))
theorem Yz {w:ak} (hp:ag s at_=some p) (h:dC F p=some w):Kn (eK n F at_ a b s) w:=
 (BP (bY (gc _ _ _ _).1 hp) h).imp ((dS (λ_ _=>cW ..) _ _).trans ((dS (λ_ _=>cW ..) _ _).trans (dS (λ_ _=>cW ..) _ _)))
theorem Y1 {w q:ak} {c j:Nat} (hp:ag s at_=some p) (hZ:Imp (eK n F at_ a b s) fs) (o:c<n) (m:fs.best (true,b,c)=some j) (r:j<s.rows.length) (t:ag fs j=some q) (h:aB p q=some w):Kn (eK n F at_ a b s) w:=by have k:Imp s (aH (dC F) .bp at_ (aH (du F) .aS at_ s)):=(gc _ _ _ _).trans (gc _ _ _ _);unfold eK at hZ ⊢;dsimp only at hZ ⊢;generalize aH (dC F) .bp at_ (aH (du F) .aS at_ s)=s2 at*;have l:=(dS (f:=λd j=>ao aB .sum j at_ d) (λ_ _=>cW ..) (dG n ((c_ n s2 true b).foldl (λd j=>ao aB .sum at_ j d) s2) a) ((c_ n s2 true b).foldl (λd j=>ao aB .sum at_ j d) s2)).trans (dS (f:=λd j=>ao (bg F) .back j at_ d) (λ_ _=>cW ..) (c_ n ((dG n ((c_ n s2 true b).foldl (λd j=>ao aB .sum at_ j d) s2) a).foldl (λd j=>ao aB .sum j at_ d) ((c_ n s2 true b).foldl (λd j=>ao aB .sum at_ j d) s2)) false b) _);have e:Imp s2 fs:=((dS (f:=λd j=>ao aB .sum at_ j d) (λ_ _=>cW ..) (c_ n s2 true b) s2).trans l).trans hZ;have g:j<s2.rows.length:=ie r k.1.len;refine Kn.imp (Cw (λ_ _=>cW ..) (j:=j) (qM.mpr ⟨c,kD.mpr o,zS e.1 m g⟩) λu i=>?_) l;exact BR (bY (k.1.trans i.1) hp) (bY i.1 (ry e.1 g t)) h
theorem Y2 {w q:ak} {c j:Nat} (hp:ag s at_=some p) (hZ:Imp (eK n F at_ a b s) fs) (o:c<n) (m:fs.best (true,c,a)=some j) (r:j<s.rows.length) (t:ag fs j=some q) (h:aB q p=some w):Kn (eK n F at_ a b s) w:=by have u:Imp s (aH (dC F) .bp at_ (aH (du F) .aS at_ s)):=(gc _ _ _ _).trans (gc _ _ _ _);unfold eK at hZ ⊢;dsimp only at hZ ⊢;generalize aH (dC F) .bp at_ (aH (du F) .aS at_ s)=s2 at*;have k:=u.trans (dS (f:=λd j=>ao aB .sum at_ j d) (λ_ _=>cW ..) (c_ n s2 true b) s2);generalize (c_ n s2 true b).foldl (λd j=>ao aB .sum at_ j d) s2=s3 at*;have l:=dS (f:=λd j=>ao (bg F) .back j at_ d) (λ_ _=>cW ..) (c_ n ((dG n s3 a).foldl (λd j=>ao aB .sum j at_ d) s3) false b) ((dG n s3 a).foldl (λd j=>ao aB .sum j at_ d) s3);have e:Imp s3 fs:=((dS (f:=λd j=>ao aB .sum j at_ d) (λ_ _=>cW ..) (dG n s3 a) s3).trans l).trans hZ;have g:j<s3.rows.length:=ie r k.1.len;refine Kn.imp (Cw (λ_ _=>cW ..) (j:=j) (qM.mpr ⟨c,kD.mpr o,zS e.1 m g⟩) λv i=>?_) l;exact BR (bY i.1 (ry e.1 g t)) (bY (k.1.trans i.1) hp) h
theorem Yx {w q:ak} {e j:Nat} (hp:ag s at_=some p) (hZ:Imp (eK n F at_ a b s) fs) (m:e<n) (l:fs.best (false,b,e)=some j) (o:j<s.rows.length) (r:ag fs j=some q) (h:bg F q p=some w):Kn (eK n F at_ a b s) w:=by have t:Imp s (aH (dC F) .bp at_ (aH (du F) .aS at_ s)):=(gc _ _ _ _).trans (gc _ _ _ _);unfold eK at hZ ⊢;dsimp only at hZ ⊢;generalize aH (dC F) .bp at_ (aH (du F) .aS at_ s)=s2 at*;have u:=t.trans (dS (f:=λc j=>ao aB .sum at_ j c) (λ_ _=>cW ..) (c_ n s2 true b) s2);generalize (c_ n s2 true b).foldl (λc j=>ao aB .sum at_ j c) s2=s3 at*;have k:=u.trans (dS (f:=λc j=>ao aB .sum j at_ c) (λ_ _=>cW ..) (dG n s3 a) s3);generalize (dG n s3 a).foldl (λc j=>ao aB .sum j at_ c) s3=s4 at*;have d:Imp s4 fs:=(dS (f:=λc j=>ao (bg F) .back j at_ c) (λ_ _=>cW ..) (c_ n s4 false b) s4).trans hZ;have g:j<s4.rows.length:=ie o k.1.len;refine Cw (λ_ _=>cW ..) (j:=j) (qM.mpr ⟨e,kD.mpr m,zS d.1 l g⟩) λv i=>?_;exact BR (bY i.1 (ry d.1 g r)) (bY (k.1.trans i.1) hp) h
theorem YU {w:ak} (hp:ag s at_=some p) (h:dF F p=some w):Kn (fC n F at_ a s) w:=
 (BP hp h).imp ((gc _ _ _ _).trans (dS (λ_ _=>cW ..) _ _))
theorem Zg {w:ak} (hp:ag s at_=some p) (h:dt F p=some w):Kn (fC n F at_ a s) w:=
 (BP (bY (gc _ _ _ _).1 hp) h).imp (dS (λ_ _=>cW ..) _ _)
theorem YT {w q:ak} {c j:Nat} (hp:ag s at_=some p) (hZ:Imp (fC n F at_ a s) fs) (l:c<n) (k:fs.best (true,c,a)=some j) (m:j<s.rows.length) (o:ag fs j=some q) (h:bg F p q=some w):Kn (fC n F at_ a s) w:=by have i:Imp s (aH (dt F) .a6 at_ (aH (dF F) .sure at_ s)):=(gc _ _ _ _).trans (gc _ _ _ _);unfold fC at hZ ⊢;dsimp only at hZ ⊢;generalize aH (dt F) .a6 at_ (aH (dF F) .sure at_ s)=s2 at*;have d:Imp s2 fs:=(dS (f:=λr j=>ao (bg F) .back at_ j r) (λ_ _=>cW ..) (dG n s2 a) s2).trans hZ;have e:j<s2.rows.length:=ie m i.1.len;refine Cw (λ_ _=>cW ..) (j:=j) (qM.mpr ⟨c,kD.mpr l,zS d.1 k e⟩) λt g=>?_;exact BR (bY (i.1.trans g.1) hp) (bY g.1 (ry d.1 e o)) h
end
structure Fin (n:Nat) (F:cS) (most:Int) (s0:St) (T:Nat):Prop where
 oG:jc n F most
 good:bV n s0
 first:∀t,t<T->t<(run n F s0 t).rows.length
 stop:(run n F s0 T).rows.length<=T
variable {n:Nat}
theorem Fin.ev (h:Fin n F most s0 T) (d:(run n F s0 T).best k=some i) (c:ag (run n F s0 T) i=some p):
 i<(run n F s0 i).rows.length/\ag (run n F s0 i) i=some p/\(run n F s0 i).best k=some i/\Imp (run n F s0 (i+1)) (run n F s0 T):=by
 have f:=mv c;have b:i<T:=ie f h.stop;have a:=h.first i b;have e:=rx (n:=n) (F:=F) (s:=s0) (bf b);exact ⟨a,ry e.1 a c,zS e.1 d a,rx b⟩
theorem Fin.row (h:Fin n F most s0 T) (j:val (run n F s0 T) (t,a,b)=some v):∃i p,(run n F s0 T).best (t,a,b)=some i/\ag (run n F s0 T) i=some p/\p.tie=t/\p.a=a/\p.b=b/\p.v=v/\a<n/\b<n:=by have g:=vi h.oG h.good T;obtain ⟨i,p,d,c,e,f⟩:=zE g j;obtain ⟨k,m,o⟩:=iq e;have l:=g.lt _ _ c;exact ⟨i,p,d,c,k,m,o,f,by lia,by lia⟩
theorem Fin.tie (h:Fin n F most s0 T) (f:(run n F s0 T).best (true,a,b)=some i) (g:ag (run n F s0 T) i=some p) (l:p.tie=true) (j:p.a=a) (k:p.b=b):
 Imp (eK n F i a b (run n F s0 i)) (run n F s0 T):=by
 obtain ⟨_,c,d,e⟩:=h.ev f g;have:run n F s0 (i+1)=eK n F i a b (run n F s0 i):=Cy c l j k d;rw [<-this];exact e
theorem Fin.aS (h:Fin n F most s0 T) (o:val (run n F s0 T) (true,a,b)=some v) (l:a≠b) (m:F b=some f):Kn (run n F s0 T) ⟨false,a,b,f.2.2-v⟩:=by obtain ⟨i,p,e,g,j,c,d,q,_⟩:=h.row o;obtain ⟨_,k,_⟩:=h.ev e g;refine (Yy k ?_).imp (h.tie e g j c d);unfold du;rw [if_pos ⟨j,by rw [c,d];exact l⟩,d,m,c,q];rfl
theorem Fin.bp (h:Fin n F most s0 T) (r:val (run n F s0 T) (true,a,b)=some v) (m:a≠b) (q:v<0) (o:F a=some f):Kn (run n F s0 T) ⟨true,f.1,b,f.2.1+v⟩:=by obtain ⟨i,p,e,g,j,c,d,k,_⟩:=h.row r;obtain ⟨_,l,_⟩:=h.ev e g;refine (Yz l ?_).imp (h.tie e g j c d);unfold dC;rw [if_pos ⟨j,by rw [c,d];exact m,by rw [k];exact q⟩,c,o,d,k];rfl
theorem Fin.sum (h:Fin n F most s0 T) (E:val (run n F s0 T) (true,a,b)=some v) (D:val (run n F s0 T) (true,b,c)=some u):Kn (run n F s0 T) ⟨true,a,c,v+u⟩:=by
 obtain ⟨i,p,e,f,r,m,o,I,y,_⟩:=h.row E;obtain ⟨j,q,g,k,x,s,t,J,_,z⟩:=h.row D;have l:aB p q=some ⟨true,a,c,v+u⟩:=by unfold aB;rw [if_pos ⟨r,x,by rw [o,s]⟩,m,t,I,J]
 obtain ⟨G,A,_⟩:=h.ev e f;obtain ⟨H,B,_⟩:=h.ev g k
 by_cases C:j<=i
 ·have d:=h.tie e f r m o;exact (Y1 A d z g (ot C G) k l).imp d
 ·have d:=h.tie g k x s t;exact (Y2 B d y e (ot (by lia) H) f l).imp d
theorem Fin.wait (h:Fin n F most s0 T) (j:(run n F s0 T).best (false,a,b)=some i) (k:ag (run n F s0 T) i=some p) (d:p.tie=false) (c:p.a=a) (l:p.b=b):
 Imp (fC n F i a (run n F s0 i)) (run n F s0 T):=by
 obtain ⟨_,e,f,g⟩:=h.ev j k;have:run n F s0 (i+1)=fC n F i a (run n F s0 i):=by rw [<-c];exact IV e d (by unfold ak.key;rw [d,c,l];exact f)
 rw [<-this];exact g
theorem Fin.sure (h:Fin n F most s0 T) (m:val (run n F s0 T) (false,a,b)=some v) (l:F b=some f):Kn (run n F s0 T) ⟨true,a,f.1,-min v f.2.1⟩:=by obtain ⟨i,p,c,d,j,e,g,o,_⟩:=h.row m;obtain ⟨_,k,_⟩:=h.ev c d;refine (YU k ?_).imp (h.wait c d j e g);unfold dF;rw [if_pos j,g,l,e,o];rfl
theorem Fin.a6 (h:Fin n F most s0 T) (s:val (run n F s0 T) (false,a,b)=some v) (m:a≠b) (h0:0<v) (r:F a=some o) (q:F b=some f):Kn (run n F s0 T) ⟨false,o.1,b,min v f.2.2-o.2.1⟩:=by obtain ⟨i,p,e,g,j,c,d,k,_⟩:=h.row s;obtain ⟨_,l,_⟩:=h.ev e g;refine (Zg l ?_).imp (h.wait e g j c d);unfold dt;rw [if_pos ⟨j,by rw [c,d];exact m,by rw [k];exact h0⟩,c,r,d,q,k];rfl
theorem Fin.back (h:Fin n F most s0 T) (I:val (run n F s0 T) (false,a,b)=some v) (H:val (run n F s0 T) (true,c,a)=some u) (D:c≠b) (E:F b=some f):Kn (run n F s0 T) ⟨false,c,b,min v f.2.2-u⟩:=by
 obtain ⟨i,p,e,g,t,s,m,M,_,z⟩:=h.row I;obtain ⟨j,q,k,l,y,o,x,N,A,_⟩:=h.row H;have r:bg F p q=some ⟨false,c,b,min v f.2.2-u⟩:=by unfold bg;rw [if_pos ⟨t,y,by rw [x,s],by rw [o,m];exact D⟩,m,E,o,M,N];rfl
 obtain ⟨J,B,_⟩:=h.ev e g;obtain ⟨L,C,_⟩:=h.ev k l
 by_cases G:j<=i
 ·have d:=h.wait e g t s m;exact (YT B d A k (ot G J) l r).imp d
 ·have d:=h.tie k l y o x;exact (Yx C d z e (ot (by lia) L) g r).imp d
def tX (F:cS) (D:ak->Prop) (st:St) (r:Row):Prop:=
 (r.word=.told/\r.used=[]/\D r.cJ)\/
 (r.word=.aS/\∃i p,r.used=[i]/\ag st i=some p/\du F p=some r.cJ)\/
 (r.word=.bp/\∃i p,r.used=[i]/\ag st i=some p/\dC F p=some r.cJ)\/
 (r.word=.sure/\∃i p,r.used=[i]/\ag st i=some p/\dF F p=some r.cJ)\/
 (r.word=.a6/\∃i p,r.used=[i]/\ag st i=some p/\dt F p=some r.cJ)\/
 (r.word=.sum/\∃i j p q,r.used=[i,j]/\ag st i=some p/\ag st j=some q/\aB p q=some r.cJ)\/
 (r.word=.back/\∃i j p q,r.used=[i,j]/\ag st i=some p/\ag st j=some q/\bg F p q=some r.cJ)
variable {n:Nat}
theorem tX.ext (h:tX F D s r) (e:Ext s s'):tX F D s' r:=by
 have o:∀{f:ak->Option ak},(∃i p,r.used=[i]/\ag s i=some p/\f p=some r.cJ)->∃i p,r.used=[i]/\ag s' i=some p/\f p=some r.cJ:=λh=>by obtain ⟨i,p,a,b,c⟩:=h;exact ⟨i,p,a,bY e b,c⟩
 have t:∀{f:ak->ak->Option ak},(∃i j p q,r.used=[i,j]/\ag s i=some p/\ag s j=some q/\f p q=some r.cJ)->∃i j p q,r.used=[i,j]/\ag s' i=some p/\ag s' j=some q/\f p q=some r.cJ:=λh=>by obtain ⟨i,j,p,q,a,b,c,d⟩:=h;exact ⟨i,j,p,q,a,bY e b,bY e c,d⟩
 rcases h with h | ⟨w,h⟩ | ⟨w,h⟩ | ⟨w,h⟩ | ⟨w,h⟩ | ⟨w,h⟩ | ⟨w,h⟩
 ·exact .inl h
 ·exact .inr (.inl ⟨w,o h⟩)
 ·exact .inr (.inr (.inl ⟨w,o h⟩))
 ·exact .inr (.inr (.inr (.inl ⟨w,o h⟩)))
 ·exact .inr (.inr (.inr (.inr (.inl ⟨w,o h⟩))))
 ·exact .inr (.inr (.inr (.inr (.inr (.inl ⟨w,t h⟩)))))
 ·exact .inr (.inr (.inr (.inr (.inr (.inr ⟨w,t h⟩)))))
def Drawn (F:cS) (D:ak->Prop) (st:St):Prop:=∀(i:Nat) (r:Row),st.rows[i]?=some r->tX F D st r
theorem RJ {w:ak} (h:Drawn F D st) (c:tX F D st ⟨w,word,us⟩):Drawn F D (take st w word us):=λi r a=>by
 have e:=zJ st w word us;unfold take at a;split at a
 ·have a:(st.rows++[(⟨w,word,us⟩:Row)])[i]?=some r:=a
  by_cases b:i<st.rows.length
  ·rw [oI b] at a;exact (h i r a).ext e
  ·rw [oz (by exact kZ b)] at a
   cases C:i-st.rows.length with
   | zero=>rw [C] at a;cases a;exact c.ext e
   | succ k=>rw [C] at a;cases a
 ·exact (h i r a).ext e
theorem Rp (h:Drawn F D st) (a:∀w,o=some w->tX F D st ⟨w,word,us⟩):Drawn F D (put st o word us):=by
 cases o with
 | none=>exact h
 | some w=>exact RJ h (a w U)
theorem CG (h:Drawn F D st) (b:∀w,(∃a p,[i]=[a]/\ag st a=some p/\f p=some w)->tX F D st ⟨w,word,[i]⟩):Drawn F D (aH f word i st):=Rp h λw e=>by
 cases C:ag st i with
 | none=>rw [C] at e;cases e
 | some p=>rw [C] at e;exact b w ⟨i,p,U,C,e⟩
theorem Qk (h:Drawn F D st) (c:∀w,(∃a b p q,[i,j]=[a,b]/\ag st a=some p/\ag st b=some q/\f p q=some w)->tX F D st ⟨w,word,[i,j]⟩):Drawn F D (ao f word i j st):=Rp h λw e=>by
 cases C:ag st i with
 | none=>rw [C] at e;cases e
 | some p=>
  rw [C] at e;have e:((ag st j).bind λq=>f p q)=some w:=e
  cases I:ag st j with
  | none=>rw [I] at e;cases e
  | some q=>rw [I] at e;exact c w ⟨i,j,p,q,U,C,I,e⟩
theorem zV (b:∀s j,Drawn F D s->Drawn F D (g s j)):∀(l:List Nat) (s:St),Drawn F D s->Drawn F D (l.foldl g s)
 | [],_,h=>h
 | a::l,s,h=>zV b l _ (b s a h)
theorem Rt (h:Drawn F D s):∀t,Drawn F D (run n F s t)
 | 0=>h
 | t+1=>by
  have a:=Rt h t;show Drawn F D (look n F t (run n F s t));unfold look;have c:∀i j s,Drawn F D s->Drawn F D (ao aB .sum i j s):=λi j s h=>Qk h λw e=>.inr (.inr (.inr (.inr (.inr (.inl ⟨U,e⟩)))));have b:∀i j s,Drawn F D s->Drawn F D (ao (bg F) .back i j s):=λi j s h=>Qk h λw e=>.inr (.inr (.inr (.inr (.inr (.inr ⟨U,e⟩)))));split
  ·split
   ·split
    ·exact zV (λs j h=>b j t s h) _ _ (zV (λs j h=>c j t s h) _ _ (zV (λs j h=>c t j s h) _ _ (CG (CG a λw e=>.inr (.inl ⟨U,e⟩)) λw e=>.inr (.inr (.inl ⟨U,e⟩)))))
    ·exact zV (λs j h=>b t j s h) _ _ (CG (CG a λw e=>.inr (.inr (.inr (.inl ⟨U,e⟩)))) λw e=>.inr (.inr (.inr (.inr (.inl ⟨U,e⟩)))))
   ·exact a
  ·exact a
theorem Sb:∀(rows:List ak) (s:St),Drawn F D s->(∀w∈rows,D w)->Drawn F D (lA rows s)
 | [],_,h,_=>h
 | w::r,_,h,a=>Sb r _ (RJ h (.inl ⟨U,U,a w gw⟩)) λc b=>a c (iO _ b)
theorem Zd:Drawn F D empty:=λi r h=>by simp [empty] at h
end MU
namespace HK
abbrev cS:=Nat->Option (Nat×Int×Int)
structure Cl (F:cS) (u wt:Nat->Nat->Option Int):Prop where
 irr:∀a,u a a=none
 loop:∀{a b v v'},u a b=some v->u b a=some v'->0<=v+v'
 sum:∀{a b c v v'},u a b=some v->u b c=some v'->a≠c->∃z,u a c=some z/\z<=v+v'
 aS:∀{a e v f},u a e=some v->F e=some f->∃z,wt a e=some z/\f.2.2-v<=z
 bp:∀{e b v f},u e b=some v->v<0->F e=some f->(b=f.1/\0<=f.2.1+v)\/∃z,u f.1 b=some z/\z<=f.2.1+v
 sure:∀{a e x f},wt a e=some x->F e=some f->(a=f.1/\min x f.2.1<=0)\/∃z,u a f.1=some z/\z<=-min x f.2.1
 back:∀{x e a k v f},wt x e=some k->u a x=some v->F e=some f->a≠e->∃z,wt a e=some z/\min k f.2.2-v<=z
 a6:∀{e' e k g f},wt e' e=some k->0<k->F e'=some g->F e=some f->∃z,wt g.1 e=some z/\min k f.2.2-g.2.1<=z
 long:∀{x e k f},wt x e=some k->F e=some f->f.2.2<k->(∃v,u x e=some v/\v<0)\/∃y k0 v v' k1,u x y=some v'/\v'<=v/\wt y e=some k1/\k0<=k1/\k=min k0 f.2.2-v
 iM:∀{e f},F e=some f->1<=f.2.1/\f.2.1<=f.2.2/\F f.1=none
structure Inv (F:cS) (u wt:Nat->Nat->Option Int) (c:Nat->Option Int) (i:Int):Prop where
 past:∀{x s},c x=some s->s<i
 K:∀{x y s t v},c x=some s->c y=some t->u x y=some v->t<=s+v
 dl:∀{x y s v},c x=some s->c y=none->u x y=some v->i<=s+v
 W:∀{x e s k f},c x=some s->wt x e=some k->F e=some f->f.2.1<k->(∃t,c e=some t/\t<=s)\/∃t,c f.1=some t/\t+k<=s
 fel:∀{e f t},F e=some f->c e=some t->∃s,c f.1=some s/\s+f.2.1<=t/\t<=s+f.2.2
 due:∀{e f s},F e=some f->c e=none->c f.1=some s->i<=s+f.2.2
def Sl (F:cS) (u a:Nat->Nat->Option Int) (c:Nat->Option Int) (i:Int) (R:Nat->Prop) (y:Nat):Prop:=
 (∀z v,u y z=some v->(∀t,c z=some t->t<=i+v)/\(c z=none->0<v\/(v=0/\R z)))/\
 ∀e k f,a y e=some k->F e=some f->f.2.1<k->k<=f.2.2->(∃t,c e=some t)\/∃t,c f.1=some t/\t+k<=i
structure Out (F:cS) (c:Nat->Option Int) (i:Int) (S:Nat->Prop):Prop where
 ok:∀{e},S e->∃f s,F e=some f/\c e=none/\c f.1=some s/\s+f.2.1<=i/\i<=s+f.2.2
 all:∀{e f s},F e=some f->c e=none->c f.1=some s->s+f.2.2<=i->S e
open Classical in
def put (c:Nat->Option Int) (i:Int) (S:Nat->Prop):Nat->Option Int:=λx=>if S x then some i else c x
theorem gZ (h:S x):put c i S x=some i:=if_pos h
theorem bM (h:¬S x):put c i S x=c x:=if_neg h
theorem jm (h:put c i S x=some t):(S x/\t=i)\/(¬S x/\c x=some t):=by
 by_cases e:S x
 ·rw [gZ e] at h;cases h;exact .inl ⟨e,U⟩
 ·rw [bM e] at h;exact .inr ⟨e,h⟩
theorem zH (h:put c i S x=none):¬S x/\c x=none:=by
 by_cases e:S x
 ·rw [gZ e] at h;cases h
 ·rw [bM e] at h;exact ⟨e,h⟩
section
theorem cU (I:Inv F u wt c i) (a:c x=some s) (h:u x y=some v) (b:s+v<i):∃t,c y=some t/\t<=s+v:=by
 cases hy:c y with
 | none=>have:=I.dl a hy h;lia
 | some t=>exact ⟨t,U,I.K a hy h⟩
theorem Ϙ (C:Cl F u wt) (I:Inv F u wt c i) (O:Out F c i S) (p:S e) (h:u e z=some v):(∀t,put c i S z=some t->t<=i+v)/\(put c i S z=none->0<=v):=by
 obtain ⟨f,s,d,_,b,x,A⟩:=O.ok p
 by_cases k:0<=v
 ·refine ⟨λt a=>?_,λ_=>k⟩;rcases jm a with ⟨_,rfl⟩ | ⟨_,a⟩
  ·exact lE k
  ·have:=I.past a;lia
 ·rcases C.bp h (tU k) d with ⟨rfl,m⟩ | ⟨y,m,B⟩
  ·refine ⟨λt a=>?_,λa=>?_⟩
   ·rcases jm a with ⟨j,_⟩ | ⟨_,a⟩
    ·obtain ⟨n,r,l,_⟩:=O.ok j;rw [(C.iM d).2.2] at l;cases l
    ·rw [b] at a;cases a;lia
   ·rw [(zH a).2] at b;cases b
  ·have E:=C.iM d;obtain ⟨t,g,D⟩:=cU I b m (by lia);have q:¬S z:=λj=>by
    obtain ⟨n,r,_,o,_⟩:=O.ok j;rw [o] at g;cases g
   rw [bM q,g];exact ⟨λG e=>by cases e;lia,λe=>nomatch e⟩
structure iP (F:cS) (u wt:Nat->Nat->Option Int) (n:Nat) (c1:Nat->Option Int) (i:Int) (r:Nat->Prop):Prop where
 own:∀{y},r y->F y=none/\c1 y=none
 lt:∀{y},r y->y<n
 lets:∀{y},r y->Sl F u wt c1 i r y
 most:∀R:Nat->Prop,(∀y,R y->F y=none/\c1 y=none/\y<n)->(∀y,R y->Sl F u wt c1 i R y)->∀y,R y->r y
theorem HX (O:Out F c i S) (h:F x=none):¬S x:=λb=>by obtain ⟨f,s,a,_⟩:=O.ok b;rw [h] at a;cases a
theorem up1 (O:Out F c i S) (h:c x=some t):put c i S x=some t:=by refine (bM λb=>?_).trans h;obtain ⟨f,s,_,a,_⟩:=O.ok b;rw [h] at a;cases a
theorem KK (C:Cl F u wt) (I:Inv F u wt c i) (O:Out F c i S) (R:iP F u wt n (put c i S) i r) (a:put (put c i S) i r x=some s) (h:u x z=some v):(∀t,put c i S z=some t->t<=s+v)/\(put c i S z=none->i<=s+v):=by
 rcases jm a with ⟨p,d⟩ | ⟨_,a⟩
 ·obtain ⟨e,g⟩:=(R.lets p).1 z v h;rw [d];refine ⟨e,λb=>?_⟩;rcases g b with o | o<;>lia
 ·rcases jm a with ⟨j,d⟩ | ⟨_,a⟩
  ·obtain ⟨e,g⟩:=Ϙ C I O j h;rw [d];exact ⟨e,λb=>by have:=g b;lia⟩
  ·refine ⟨λt k=>?_,λb=>I.dl a (zH b).2 h⟩;rcases jm k with ⟨j,l⟩ | ⟨_,k⟩
   ·obtain ⟨f,q,_,m,_⟩:=O.ok j;rw [l];exact I.dl a m h
   ·exact I.K a k h
theorem RO (C:Cl F u wt) (I:Inv F u wt c i) (O:Out F c i S) (R:iP F u wt n (put c i S) i r) (a:put (put c i S) i r x=some s) (h:wt x e=some k) (g:F e=some f) (q:k<=f.2.1) (v:s-k<i):∃t,c f.1=some t/\t<=s-k:=by
 have j:min k f.2.1=k:=by lia
 have d:=HX O (C.iM g).2.2;rcases C.sure h g with ⟨l,b⟩ | ⟨z,b,p⟩
 ·rw [j] at b;rw [l] at a;rcases jm a with ⟨_,rfl⟩ | ⟨_,a⟩
  ·lia
  ·rw [bM d] at a;exact ⟨s,a,by lia⟩
 ·rw [j] at p;obtain ⟨m,o⟩:=KK C I O R a b
  cases J:c f.1 with
  | none=>
   have:=o (by rw [bM d];exact J);lia
  | some t=>exact ⟨t,U,by have:=m t (by rw [bM d];exact J);lia⟩
theorem Rn (C:Cl F u wt) (I:Inv F u wt c i) (O:Out F c i S) (R:iP F u wt n (put c i S) i r) (p:put (put c i S) i r x=some s) (h:wt x e=some k) (g:F e=some f) (G:f.2.1<k):(∃t,put c i S e=some t/\t<=s)\/∃t,c f.1=some t/\t+k<=s:=by
 have T:=C.iM g;have W:=HX O T.2.2;have over:∀{t},c f.1=some t->t+f.2.2<=i->∃q,put c i S e=some q/\q<=i:=λ{t} Y m=>by
  cases he:c e with
  | some q=>exact ⟨q,up1 O he,by have:=I.past he;exact fq this⟩
  | none=>exact ⟨i,gZ (O.all g he Y m),kE _⟩
 have L:∀{y sy ky},c y=some sy->wt y e=some ky->sy-ky<i->(∃t,put c i S e=some t/\t<=sy)\/∃t,c f.1=some t/\t<=sy-ky:=λ{y sy ky} d J V=>by
  by_cases H:f.2.1<ky
  ·rcases I.W d J g H with ⟨t,a,l⟩ | ⟨t,a,l⟩
   ·exact .inl ⟨t,up1 O a,l⟩
   ·exact .inr ⟨t,a,by lia⟩
  ·refine .inr ?_;have Z:put (put c i S) i r y=some sy:=by
    refine (bM λo=>?_).trans (up1 O d);have:=(R.own o).2;rw [up1 O d] at this;cases this
   exact RO C I O R Z J g (o_ H) V
 rcases jm p with ⟨o,z⟩ | ⟨_,p⟩
 ·
  rw [z]
  by_cases m:k<=f.2.2
  ·rcases (R.lets o).2 e k f h g G m with ⟨t,a⟩ | ⟨t,a,l⟩
   ·refine .inl ⟨t,a,?_⟩;rcases jm a with ⟨_,M⟩ | ⟨_,a⟩
    ·lia
    ·have:=I.past a;exact fq this
   ·rw [bM W] at a;exact .inr ⟨t,a,l⟩
  ·rcases C.long h g (tU m) with ⟨v,a,l⟩ | ⟨y,k0,v,v',k1,a,l,D,N,h5⟩
   ·obtain ⟨A,B⟩:=(R.lets o).1 e v a
    cases he:put c i S e with
    | none=>have:=B he;omega
    | some t=>exact .inl ⟨t,U,by have:=A t he;lia⟩
   ·obtain ⟨A,B⟩:=(R.lets o).1 y v' a;have hv:v<0:=by omega
    cases d:put c i S y with
    | none=>have:=B d;omega
    | some sy=>
     have hsy:=A sy d;have hyc:c y=some sy:=by
      rcases jm d with ⟨_,M⟩ | ⟨_,d⟩
      ·lia
      ·exact d
     by_cases E:sy-k1<i
     ·rcases L hyc D E with ⟨t,b,j⟩ | ⟨t,b,j⟩
      ·exact .inl ⟨t,b,by lia⟩
      ·exact .inr ⟨t,b,by lia⟩
     ·omega
 ·rcases jm p with ⟨X,z⟩ | ⟨_,p⟩
  ·
   rw [z];obtain ⟨x2,sb,a,_,D,N,_⟩:=O.ok X;have hg:=C.iM a;obtain ⟨x1,Q,h7⟩:=C.a6 h (by lia) a g
   by_cases E:sb-x1<i
   ·rcases L D Q E with ⟨t,b,j⟩ | ⟨t,b,j⟩
    ·exact .inl ⟨t,b,by lia⟩
    ·by_cases m:k<=f.2.2
     ·exact .inr ⟨t,b,by lia⟩
     ·exact .inl (over b (by lia))
   ·omega
  ·rcases I.W p h g G with ⟨t,b,j⟩ | ⟨t,b,j⟩
   ·exact .inl ⟨t,up1 O b,j⟩
   ·exact .inr ⟨t,b,j⟩
theorem Qq (C:Cl F u wt) (I:Inv F u wt c i) (O:Out F c i S) (R:iP F u wt n (put c i S) i r) (d:put (put c i S) i r x=some s) (h:wt x e=some k) (a:F e=some f) (j:s-k<i):(∃t,put c i S e=some t/\t<=s)\/∃t,c f.1=some t/\t<=s-k:=by
 by_cases b:f.2.1<k
 ·rcases Rn C I O R d h a b with h | ⟨t,g,l⟩
  ·exact .inl h
  ·exact .inr ⟨t,g,by lia⟩
 ·exact .inr (RO C I O R d h a (o_ b) j)
theorem Qm (C:Cl F u wt) (I:Inv F u wt c i) (O:Out F c i S) (R:iP F u wt n (put c i S) i r) (e:put (put c i S) i r x=some s) (h:u x z=some v) (a:F z=some f) (m:s+v<=i):∃t,put c i S z=some t:=by
 obtain ⟨k,d,j⟩:=C.aS h a;have o:=C.iM a;rcases Qq C I O R e d a (by lia) with ⟨t,b,_⟩ | ⟨t,b,l⟩
 ·exact ⟨t,b⟩
 ·cases J:c z with
  | some g=>exact ⟨g,up1 O J⟩
  | none=>exact ⟨i,gZ (O.all a J b (by lia))⟩
theorem WQ (C:Cl F u wt) (I:Inv F u wt c i) (O:Out F c i S) (R:iP F u wt n (put c i S) i r) (W:∀{a b v},u a b=some v->b<n) (d:put (put c i S) i r x=some s) (h:u x y=some v) (k:F y=none) (V:put c i S y=none) (J:s+v<=i):r y:=by
 refine R.most (λy=>r y\/(F y=none/\put c i S y=none/\∃x s v,put (put c i S) i r x=some s/\u x y=some v/\s+v<=i)) ?_ ?_ y (.inr ⟨k,V,x,s,v,d,h,J⟩)
 ·rintro y (h | ⟨G,A,x,s,v,_,m,_⟩)
  ·obtain ⟨G,A⟩:=R.own h;exact ⟨G,A,R.lt h⟩
  ·exact ⟨G,A,W m⟩
 ·rintro y (l | ⟨_,A,x,s,v,d,m,J⟩)
  ·obtain ⟨q,D⟩:=R.lets l;refine ⟨λz v p=>⟨(q z v p).1,λj=>?_⟩,D⟩;rcases (q z v p).2 j with h | ⟨h,M⟩
   ·exact .inl h
   ·exact .inr ⟨h,.inl M⟩
  ·refine ⟨λz L p=>?_,λe x1 f T k hk hm=>?_⟩
   ·by_cases e:x=z
    ·subst e;have Q:=C.loop m p;refine ⟨λt g=>?_,λj=>?_⟩
     ·rcases jm d with ⟨l,rfl⟩ | ⟨_,d⟩
      ·rw [(R.own l).2] at g;cases g
      ·rw [d] at g;cases g;lia
     ·rcases jm d with ⟨l,rfl⟩ | ⟨_,d⟩
      ·by_cases E:L=0
       ·exact .inr ⟨E,.inl l⟩
       ·exact .inl (by lia)
      ·rw [d] at j;cases j
    ·obtain ⟨X,o,N⟩:=C.sum m p e;obtain ⟨q,D⟩:=KK C I O R d o;refine ⟨λt g=>by have:=q t g;lia,λj=>?_⟩;have:=D j
     by_cases E:L=0
     ·cases Vo:F z with
      | some f=>
       obtain ⟨t,g⟩:=Qm C I O R d o Vo (by lia);rw [j] at g;cases g
      | none=>exact .inr ⟨E,.inr ⟨Vo,j,x,s,X,d,o,by lia⟩⟩
     ·exact .inl (by lia)
   ·by_cases H:x=e
    ·subst H;rcases jm d with ⟨l,_⟩ | ⟨_,d⟩
     ·rw [(R.own l).1] at k;cases k
     ·exact .inl ⟨s,d⟩
    ·obtain ⟨k1,o,N⟩:=C.back T m k H;have Q:=C.iM k;rcases Qq C I O R d o k (by lia) with ⟨t,B,_⟩ | ⟨t,B,Y⟩
     ·exact .inl ⟨t,B⟩
     ·exact .inr ⟨t,up1 O B,by lia⟩
theorem Inv.next (C:Cl F u wt) (I:Inv F u wt c i) (O:Out F c i S) (R:iP F u wt n (put c i S) i r) (V:∀{a b v},u a b=some v->b<n):Inv F u wt (put (put c i S) i r) (i+1):=by
 have A:∀{x t},put c i S x=some t->put (put c i S) i r x=some t:=λ{x t} h=>by refine (bM λq=>?_).trans h;rw [(R.own q).2] at h;cases h
 have T:∀{x s},put c i S x=some s->s<=i:=λ{x s} h=>by
  rcases jm h with ⟨_,rfl⟩ | ⟨_,h⟩
  ·exact kE _
  ·have:=I.past h;exact fq this
 refine ⟨λ{x s} h=>?_,λ{x y s t v} m j h=>?_,λ{x y s v} m j h=>?_,λ{x e s k f} m h d M=>?_,λ{e f t} d g=>?_,λ{e f s} d g p=>?_⟩
 ·rcases jm h with ⟨_,rfl⟩ | ⟨_,h⟩
  ·lia
  ·have:=T h;lia
 ·obtain ⟨E,G⟩:=KK C I O R m h;rcases jm j with ⟨q,rfl⟩ | ⟨_,j⟩
  ·exact G (R.own q).2
  ·exact E t j
 ·obtain ⟨Q,j⟩:=zH j;have:=(KK C I O R m h).2 j
  by_cases z:s+v<=i
  ·cases d:F y with
   | some f=>
    obtain ⟨t,D⟩:=Qm C I O R m h d z;rw [j] at D;cases D
   | none=>exact absurd (WQ C I O R V m h d j z) Q
  ·lia
 ·rcases Rn C I O R m h d M with ⟨t,l,o⟩ | ⟨t,l,o⟩
  ·exact .inl ⟨t,A l,o⟩
  ·exact .inr ⟨t,A (up1 O l),o⟩
 ·rcases jm g with ⟨q,_⟩ | ⟨_,g⟩
  ·rw [(R.own q).1] at d;cases d
  ·rcases jm g with ⟨B,rfl⟩ | ⟨_,g⟩
   ·obtain ⟨W,s,l,o,H,J,L⟩:=O.ok B;rw [d] at l;cases l;exact ⟨s,A (up1 O H),J,L⟩
   ·obtain ⟨s,l,o⟩:=I.fel d g;exact ⟨s,A (up1 O l),o⟩
 ·obtain ⟨_,g⟩:=zH g;obtain ⟨B,g⟩:=zH g;have N:=C.iM d;rcases jm p with ⟨_,rfl⟩ | ⟨_,p⟩
  ·lia
  ·rw [bM (HX O N.2.2)] at p;have:=I.due d g p
   by_cases z:s+f.2.2<=i
   ·exact absurd (O.all d g p z) B
   ·lia
end
end HK
namespace MU
theorem I3 (g:bV n st) (h:st.bar=none) (b:ag st i=some p):∃z,val st p.key=some z/\¬ed p.tie p.v z:=by
 obtain ⟨j,k,c⟩:=g.top i p b;obtain ⟨d,a,f⟩:=g.at_ _ _ c;refine ⟨d.v,oB c a,?_⟩
 by_cases e:i=j
 ·subst e;rw [b] at a;cases a;exact yg _ _
 ·exact Rz (g.drop h i j p d b a f.symm (zR k e))
theorem B_ (g:st.bar=none) (h:Kn st ⟨true,a,b,v⟩):(a=b/\0<=v)\/∃z,val st (true,a,b)=some z/\z<=v:=by
 by_cases e:a=b
 ·refine .inl ⟨e,?_⟩
  by_cases d:v<0
  ·exact absurd g (h.2 ⟨U,e,d⟩)
  ·exact o_ d
 ·obtain ⟨z,f,c⟩:=h.1 e;refine .inr ⟨z,f,?_⟩;unfold ed at c;rw [if_pos rfl] at c;exact o_ c
theorem HQ (e:a≠b) (h:Kn st ⟨false,a,b,v⟩):∃z,val st (false,a,b)=some z/\v<=z:=by obtain ⟨z,d,c⟩:=h.1 e;refine ⟨z,d,?_⟩;unfold ed at c;rw [if_neg dX] at c;exact o_ c
theorem Fin.cl (h:Fin n F most s0 T) (o:(run n F s0 T).bar=none) (hD:Drawn F D (run n F s0 T)) (hT:∀x,D x->x.tie=true):HK.Cl F (λa b=>val (run n F s0 T) (true,a,b)) (λa b=>val (run n F s0 T) (false,a,b)):=by
 have g:=vi h.oG h.good T;have t:∀{x1 a b v},val (run n F s0 T) (x1,a,b)=some v->a≠b:=λ{x1 a b v} B=>by obtain ⟨i,p,_,j,_,L,G,_⟩:=h.row B;have:=g.ne o i p j;rw [L,G] at this;exact this
 refine ⟨λa=>?_,λ{a b v v'} l j=>?_,λ{a b c v v'} l j Mi=>?_,λ{a e v f} l d=>?_,λ{e b v f} l B d=>?_,λ{a e x f} l d=>?_,λ{x e a k v f} l j d X=>?_,λ{e' e k g' f} l hk hg d=>?_,λ{x en k f} l d hk=>?_,λ{e f} d=>?_⟩
 ·cases B:val (run n F s0 T) (true,a,a) with
  | none=>rfl
  | some v=>exact absurd U (t B)
 ·rcases B_ o (h.sum l j) with ⟨_,m⟩ | ⟨z,m,_⟩
  ·exact m
  ·exact absurd U (t m)
 ·rcases B_ o (h.sum l j) with ⟨e,_⟩ | m
  ·exact absurd e Mi
  ·exact m
 ·exact HQ (t l) (h.aS l (t l) d)
 ·rcases B_ o (h.bp l (t l) B d) with ⟨A,V⟩ | m
  ·exact .inl ⟨A.symm,V⟩
  ·exact .inr m
 ·rcases B_ o (h.sure l d) with ⟨A,V⟩ | m
  ·exact .inl ⟨A,by lia⟩
  ·exact .inr m
 ·exact HQ X (h.back l j X d)
 ·refine HQ ?_ (h.a6 l (t l) hk hg d);intro A;have:=h.oG.own _ _ hg;rw [A,d] at this;cases this
 ·obtain ⟨i,p,_,j,Q,L,G,pv,_⟩:=h.row l;have h2':=j;unfold ag at j
  cases hr:(run n F s0 T).rows[i]? with
  | none=>rw [hr] at j;cases j
  | some r=>
   rw [hr] at j;have j:r.cJ=p:=ft j;have O:∀{x y z},r.cJ=(⟨true,x,y,z⟩:ak)->False:=λ{x y z} e=>by rw [<-j,e] at Q;cases Q
   rcases hD i r hr with ⟨_,_,x2⟩ | ⟨_,E,q,_,N,e⟩ | ⟨_,E,q,_,_,e⟩ | ⟨_,E,q,_,_,e⟩ | ⟨_,E,q,_,_,e⟩ | ⟨_,E,j',q,H,_,_,_,e⟩ | ⟨_,E,j',q,H,_,N,A7,e⟩
   ·have:=hT _ x2;rw [j,Q] at this;cases this
   ·unfold du at e;split at e
    ·rename_i c
     cases C:F q.b with
     | none=>rw [C] at e;cases e
     | some W=>
      rw [C] at e;have e:=(ft e).symm;rw [j] at e;have R:q.a=x:=by rw [<-L,e]
      have s:q.b=en:=by rw [<-G,e]
      rw [s,d] at C;cases C;obtain ⟨z,I,u⟩:=I3 g o N;have M:q.key=(true,x,en):=by unfold ak.key;rw [c.1,R,s]
      rw [M] at I;unfold ed at u;rw [if_pos c.1] at u;exact .inl ⟨z,I,by lia⟩
    ·cases e
   ·unfold dC at e;split at e
    ·cases d:F q.a with
     | none=>rw [d] at e;cases e
     | some f=>rw [d] at e;exact (O (ft e).symm).elim
    ·cases e
   ·unfold dF at e;split at e
    ·cases d:F q.b with
     | none=>rw [d] at e;cases e
     | some f=>rw [d] at e;exact (O (ft e).symm).elim
    ·cases e
   ·unfold dt at e;split at e
    ·cases ho:F q.a with
     | none=>rw [ho] at e;cases e
     | some x3=>
      rw [ho] at e
      cases J:F q.b with
      | none=>rw [J] at e;cases e
      | some W=>
       rw [J] at e;have e:=(ft e).symm;rw [j] at e;have s:q.b=en:=by rw [<-G,e]
       rw [s,d] at J;cases J;have kv:k=min q.v f.2.2-x3.2.1:=by rw [<-pv,e]
       have:=h.oG.num _ _ ho;omega
    ·cases e
   ·unfold aB at e;split at e
    ·exact (O (ft e).symm).elim
    ·cases e
   ·unfold bg at e;split at e
    ·rename_i c
     cases C:F q.b with
     | none=>rw [C] at e;cases e
     | some W=>
      rw [C] at e;have e:=(ft e).symm;rw [j] at e;have R:H.a=x:=by rw [<-L,e]
      have s:q.b=en:=by rw [<-G,e]
      rw [s,d] at C;cases C;have kv:k=min q.v f.2.2-H.v:=by rw [<-pv,e]
      obtain ⟨z,I,u⟩:=I3 g o A7;obtain ⟨y,y1,S⟩:=I3 g o N;have M:H.key=(true,x,q.a):=by unfold ak.key;rw [c.2.1,R,c.2.2.1]
      have AH:q.key=(false,q.a,en):=by unfold ak.key;rw [c.1,s]
      rw [M] at I;rw [AH] at y1;unfold ed at u S;rw [if_pos c.2.1] at u;rw [if_neg (by rw [c.1];exact dX)] at S;exact .inr ⟨q.a,q.v,H.v,z,y,I,o_ u,y1,o_ S,kv⟩
    ·cases e
 ·have:=h.oG.num _ _ d;exact ⟨this.1,this.2.1,h.oG.own _ _ d⟩
end MU
namespace Y0
open PySem L2
seal kT i6 iA gd hQ il i9 i8 gm a8
theorem HA (h:∀e∈l,e<c.length):HK.put (HD.cm c) i (λx=>x∈l)=HD.cm (HD.af l i c):=by
 funext x
 rw [HD.fm h]
 by_cases e:x∈l
 ·rw [HK.gZ e,if_pos e]
 ·rw [HK.bM e,if_neg e]
theorem HC (h:HH a fs):HK.Out a.F (HD.cm a.c) a.now (λx=>x∈fs):=by refine ⟨λ{e} i=>?_,λ{e f s} b c d g=>h.all e f s b c d (by lia)⟩;obtain ⟨f,t,b,c,d,g,j⟩:=h.ok e i;exact ⟨f,t,b,c,d,by lia,by lia⟩
theorem WS {n:Nat} {la:Int} {T F:List (List Int)} (e:dn (n:Int) la T F) {y:Nat} (h:y∈qm n F):aQ F y=none:=by refine JK λr d z=>?_;have c:=(List.mem_filter.mp h).2;have c:¬(y:Int)∈F.map oN:=uI c;obtain ⟨a,b,l,m,rfl,_⟩:=e.f r d;have z:some b=some (y:Int):=z;cases z;exact c (fY.mpr ⟨_,d,U⟩)
theorem zBv {n:Nat} {la:Int} {T F:List (List Int)} (c:dn (n:Int) la T F) {y:Nat} (f:y<n) (h:aQ F y=none):y∈qm n F:=by refine List.mem_filter.mpr ⟨kD.mpr f,eO λz=>?_⟩;obtain ⟨r,d,e⟩:=fY.mp z;obtain ⟨a,b,l,m,rfl,_⟩:=c.f r d;have e:b=(y:Int):=e;subst e;rw [c.dW d] at h;cases h
section
variable {n:Nat}
theorem zB3 (E:dn (n:Int) la T F) (C:jB st true L) (D:jB st false M) {r:List Nat} {j:Nat}
 (s:r=HD.iter (HD.step L (M.filter (dD (aQ F))) (aQ F) c i) j (Bj n F c)) (Q:HD.step L (M.filter (dD (aQ F))) (aQ F) c i r=r):
 HK.iP (aQ F) (λa b=>val st (true,a,b)) (λa b=>val st (false,a,b)) n (HD.cm c) i (λx=>x∈r):=by
 have H:∀{y},y∈r->y∈Bj n F c:=λ{y} h=>HD.gF j _ y (s▸h);have tie:∀{y z v},val st (true,y,z)=some v->(y,z,v)∈L:=λh=>(C.has _ _ _).mpr h;refine ⟨λ{y} h=>?_,λ{y} h=>?_,λ{y} h=>?_,λR S B y m=>?_⟩
 ·have A:=List.mem_filter.mp (H h);exact ⟨WS E A.1,Option.isNone_iff_eq_none.mp A.2⟩
 ·exact kD.mp (List.mem_filter.mp (List.mem_filter.mp (H h)).1).1
 ·have W:HD.lets L (M.filter (dD (aQ F))) (aQ F) c i y r=true:=by
   rw [<-Q] at h;exact (List.mem_filter.mp h).2
  obtain ⟨p,q⟩:=CM.mp W;refine ⟨λz v hz=>?_,λe k f Z l V X=>?_⟩
  ·have:=p (y,z,v) (tie hz) U;have this:HD.jn c i r z v=true:=this;unfold HD.jn at this;refine ⟨λt d=>?_,λd=>?_⟩
   ·rw [d] at this;exact uI this
   ·rw [d] at this;have this:(decide (0<v) || (decide (v=0) && decide (z∈r)))=true:=this;rw [Fs,mX,j9,j9,j9] at this;exact this
  ·have Y:(y,e,k)∈M.filter (dD (aQ F)):=List.mem_filter.mpr ⟨(D.has _ _ _).mpr Z,by
    unfold dD;show (match aQ F e with | some f=>decide (f.2.1<k) && decide (k<=f.2.2) | none=>false)=true;rw [l];show (decide (f.2.1<k) && decide (k<=f.2.2))=true;rw [eO V,eO X];rfl⟩
   have:=q (y,e,k) Y U;have this:HD.hY c i (aQ F) e k=true:=this;unfold HD.hY at this;rw [l,Fs] at this;rcases this with h | h
   ·exact .inl (Option.isSome_iff_exists.mp h)
   ·have h:(match HD.cm c f.1 with | some t=>decide (k<=i-t) | none=>false)=true:=h
    cases d:HD.cm c f.1 with
    | none=>rw [d] at h;cases h
    | some t=>
     rw [d] at h;have:=uI h;exact .inr ⟨t,U,by lia⟩
 ·
  have O:∀k,∀y,R y->y∈HD.iter (HD.step L (M.filter (dD (aQ F))) (aQ F) c i) k (Bj n F c):=by
   intro k
   induction k with
   | zero=>
    intro y m;obtain ⟨I,J,N⟩:=S y m;exact List.mem_filter.mpr ⟨zBv E N I,by rw [J];rfl⟩
   | succ k G=>
    intro y m;rw [HD.cO];refine List.mem_filter.mpr ⟨G y m,CM.mpr ⟨λx o e=>?_,λx o e=>?_⟩⟩
    ·obtain ⟨p,q⟩:=(B y m).1 x.2.1 x.2.2 (by rw [<-e];exact (C.has _ _ _).mp o);unfold HD.jn
     cases d:HD.cm c x.2.1 with
     | some t=>exact eO (p t d)
     | none=>
      show (decide (0<x.2.2) || (decide (x.2.2=0) && decide _))=true;rw [Fs,mX,j9,j9,j9];rcases q d with h | ⟨h,u⟩
      ·exact .inl h
      ·exact .inr ⟨h,G _ u⟩
    ·have o:=List.mem_filter.mp o;have hxm:=o.1;have g:=o.2;unfold dD at g
     cases l:aQ F x.2.1 with
     | none=>rw [l] at g;cases g
     | some f=>
      rw [l] at g;have g:(decide (f.2.1<x.2.2) && decide (x.2.2<=f.2.2))=true:=g;rw [mX,j9,j9] at g;unfold HD.hY;rw [l,Fs];rcases (B y m).2 x.2.1 x.2.2 f (by rw [<-e];exact (D.has _ _ _).mp hxm) l g.1 g.2 with ⟨t,h⟩ | ⟨t,h,u⟩
      ·exact .inl (by rw [h];rfl)
      ·refine .inr ?_;show (match HD.cm c f.1 with | some t=>decide (x.2.2<=i-t) | none=>false)=true;rw [h];exact eO (by lia)
  show y∈r;rw [s];exact O j y m
end
end Y0
namespace HK
structure Zero (F:cS) (u:Nat->Nat->Option Int) (n:Nat) (la:Int):Prop where
 own:F 0=none
 pos:0<n
 lt:∀{a b v},u a b=some v->a<n/\b<n
 T8:∀{y},y<n->y≠0->∃v,u y 0=some v/\v<=0
 of0:∀{y},y<n->y≠0->∃v,u 0 y=some v/\v<=la
theorem Zero.nonneg (Z:Zero F u n la) (C:Cl F u wt) (h:u 0 y=some v):0<=v:=by
 have b:y≠0:=λe=>by rw [e,C.irr] at h;cases h
 obtain ⟨d,a,c⟩:=Z.T8 (Z.lt h).2 b;have:=C.loop h a;lia
theorem Zero.lP (Z:Zero F u n la) (C:Cl F u wt) (h:wt 0 e=some k) (a:F e=some f) (d:0<k):False:=by
 have g:=C.iM a;rcases C.sure h a with ⟨_,c⟩ | ⟨z,b,c⟩
 ·lia
 ·have:=Z.nonneg C b;lia
theorem Zero.Av (Z:Zero F u n la) (C:Cl F u wt) (h:u 0 e=some v) (d:v<=0):F e=none:=by
 cases hf:F e with
 | none=>rfl
 | some f=>
  obtain ⟨k,a,b⟩:=C.aS h hf;have c:=C.iM hf;exact (Z.lP C a hf (by lia)).elim
theorem YA (Z:Zero F u n la) (C:Cl F u wt) (l:∀x,c x=none) (R:iP F u wt n c 0 r):r 0:=by
 refine R.most (λy=>y=0\/∃v,u 0 y=some v/\v<=0) ?_ ?_ 0 (.inl U)
 ·rintro y (rfl | ⟨v,a,j⟩)
  ·exact ⟨Z.own,l _,Z.pos⟩
  ·exact ⟨Z.Av C a j,l _,(Z.lt a).2⟩
 ·intro y p;refine ⟨λz i h=>⟨λt m=>(by rw [l] at m;cases m),λ_=>?_⟩,λe k f o b D G=>?_⟩
  ·rcases p with rfl | ⟨v,a,j⟩
   ·have:=Z.nonneg C h
    by_cases d:i=0
    ·exact .inr ⟨d,.inr ⟨i,h,by lia⟩⟩
    ·exact .inl (by lia)
   ·by_cases e:0=z
    ·subst e;have:=C.loop a h
     by_cases d:i=0
     ·exact .inr ⟨d,.inl U⟩
     ·exact .inl (by lia)
    ·obtain ⟨B,g,s⟩:=C.sum a h e;have:=Z.nonneg C g
     by_cases d:i=0
     ·exact .inr ⟨d,.inr ⟨B,g,by lia⟩⟩
     ·exact .inl (by lia)
  ·have E:=C.iM b;refine (?_:False).elim;rcases p with rfl | ⟨v,a,j⟩
   ·exact Z.lP C o b (by lia)
   ·have A:0≠e:=λq=>by rw [<-q,Z.own] at b;cases b
    obtain ⟨H,g,s⟩:=C.back o a b A;exact Z.lP C g b (by lia)
theorem Lc (a:∀x,c x=none) (i:Int):Inv F u wt c i:=by
 refine ⟨?_,?_,?_,?_,?_,?_⟩
 ·intro x s h;rw [a] at h;cases h
 ·intro x y s t v h;rw [a] at h;cases h
 ·intro x y s v h;rw [a] at h;cases h
 ·intro x e s k f h;rw [a] at h;cases h
 ·intro e f t _ h;rw [a] at h;cases h
 ·intro e f s _ _ h;rw [a] at h;cases h
structure At (F:cS) (u wt:Nat->Nat->Option Int) (c:Nat->Option Int) (i:Int):Prop where
 inv:Inv F u wt c i
 zero:0<i->c 0=some 0
 fresh:i=0->∀x,c x=none
theorem At.next (Z:Zero F u n la) (C:Cl F u wt) (k:0<=i) (A:At F u wt c i) (O:Out F c i S) (R:iP F u wt n (put c i S) i r):At F u wt (put (put c i S) i r) (i+1):=by
 refine ⟨A.inv.next C O R (λh=>(Z.lt h).2),λ_=>?_,λh=>by lia⟩
 by_cases a:i=0
 ·have d:=A.fresh a;have e:∀x,put c i S x=none:=λx=>by
   refine (bM λj=>?_).trans (d x);obtain ⟨f,s,_,_,b,_⟩:=O.ok j;rw [d] at b;cases b
  subst a;exact gZ (YA Z C e R)
 ·have h:=up1 O (A.zero (by lia));refine (bM λg=>?_).trans h;rw [(R.own g).2] at h;cases h
theorem At.done (Z:Zero F u n la) (C:Cl F u wt) (h0:0<=la) (A:At F u wt c (la+1)) (d:y<n):∃t,c y=some t/\0<=t/\t<=la:=by
 have a:=A.zero (by lia)
 by_cases e:y=0
 ·exact ⟨0,e▸a,by exact kW (0+0),h0⟩
 ·obtain ⟨v,b,g⟩:=Z.of0 d e;obtain ⟨i,f,h⟩:=Z.T8 d e
  cases I:c y with
  | none=>have:=A.inv.dl a I b;lia
  | some t=>exact ⟨t,U,by have:=A.inv.K I a f;lia,by have:=A.inv.K a I b;lia⟩
end HK
namespace Y0
open PySem L2
seal kT i6 iA gd hQ il i9 i8 gm a8
theorem vM (o:Aa H) (h:ar K H a (ns.map V.int)):oQ K H a ns:=by
 rcases h with (h | h) | h
 ·rcases o a with z | ⟨b,c,z⟩
  ·rw [z] at h;cases h
  ·rw [z] at h;cases h
 ·exact .inl h
 ·exact .inr h
theorem jB.lt (h:jB st t L) (g:bV n st):∀x∈L,x.1<n/\x.2.1<n:=λx i=>by
 obtain ⟨a,b,v⟩:=x;have c:=(h.has a b v).mp i;unfold val at c
 cases C:st.best (t,a,b) with
 | none=>rw [C] at c;cases c
 | some j=>
  obtain ⟨o,e,f⟩:=g.at_ _ _ C;have d:=iq f;have m:=g.lt _ _ e;have k:=d.2.1;have l:=d.2.2;show a<n/\b<n;lia
theorem jB.len (h:jB st t L) (g:bV n st) (k:n<=8):L.length<=64:=by
 have b:=h.lt g;have d:(L.map λx=>x.1*8+x.2.1).Nodup:=by have a:=h.once;unfold List.Nodup at a ⊢;rw [tm] at a ⊢;refine N7 (λ{x y} c f e z=>e ?_) a;have j:=b x c;have l:=b y f;exact Prod.ext (by show x.1=y.1;lia) (by show x.2.1=y.2.1;lia)
 have:=MH.vh 64 _ d λz i=>by obtain ⟨x,c,rfl⟩:=fY.mp i;have j:=b x c;show x.1*8+x.2.1<64;lia
 rwa [az] at this
theorem Y3 {n:Nat} {la:Int} {T F:List (List Int)} (d:dn (n:Int) la T F) (h:dD (aQ F) x=true):∃f,aQ F x.2.1=some f/\x.2.1<n/\f.1<n:=by
 unfold dD at h
 cases hf:aQ F x.2.1 with
 | none=>rw [hf] at h;cases h
 | some f=>
  obtain ⟨k,b,_,_,a,c⟩:=zL d hf;exact ⟨f,U,a,c⟩
theorem Pb {sa d a:Addr} {H:Hp} {c:List Addr} (D:d7 K sa H d) (h:H a=some (.lst (c.map V.ref))):a≠d:=λe=>by
 obtain ⟨p,b⟩:=D.at_;subst e;rw [h] at b
 match c,b with
 | [],b=>cases b
 | [_],b=>cases b
 | _::_::_,b=>cases b
abbrev jd (y e f b h d:Addr) (N:Nat) (a:List (List Int)) (L M:List iU) (c:List (Option Int)) (g:Int):dP:=⟨y,e,f,b,h,d,aQ a,L,M,qm N a,c,g⟩
theorem Ts:∀m∈qm N F,m<N:=λm a=>kD.mp (List.mem_filter.mp a).1
theorem WR:(qm N F).length<=N:=cP (ou _ _) (qI uM)
theorem x_ {sa d l:Addr} {H H':Hp} {a:dP} (h:a.At l H) (D:d7 K sa H d) (k:bX d H H'):a.At l H':=by
 obtain ⟨⟨u,m⟩,⟨E,n,y⟩,⟨I,p,z⟩,⟨B,c,J,L,M⟩,g,b⟩:=h;obtain ⟨N,i⟩:=id D.at_;have j:∀{q s},H q=some (.tup s)->H' q=some (.tup s):=λe=>k _ _ e (aI e i nofun);refine ⟨⟨u,k _ _ m (aI m i nofun)⟩,⟨E,k _ _ n (Pb D n),dM y λq r e=>j e⟩,⟨I,k _ _ p (Pb D p),dM z λq r e=>j e⟩,⟨B,?_,J,L,λe f A=>?_⟩,k _ _ g λe=>?_,k _ _ b λe=>?_⟩
 ·rcases c with c | ⟨o,c⟩
  ·exact .inl (k _ _ c (aI c i nofun))
  ·exact .inr ⟨o,k _ _ c (aI c i nofun)⟩
 ·obtain ⟨q,F,G⟩:=M e f A;exact ⟨q,F,j G⟩
 ·rw [e,i] at g
  cases C:a.own with
  | nil=>rw [C] at g;cases g
  | cons x t=>rw [C] at g;cases g
 ·rw [e,i] at b
  cases C:a.c with
  | nil=>rw [C] at b;cases b
  | cons x t=>
   rw [C] at b
   cases x with
   | none=>cases b
   | some v=>cases b
end Y0
namespace L2
open PySem PySem.Spec PyProof.Rows
section
variable {env:Env}
theorem RV (f:env.frame=some L) (n:tN h0 s.heap H a C dx L) (g:Q () s):wpAny M A (noteFrame (.ref a) env) Q E s:=by obtain ⟨h,i,t,T,m,o,e,l,j,k,c,d,b⟩:=n;unfold noteFrame;simp only [f];refine ae (i_ e U (x:=.ref T) U ?_);rw [if_pos (show (Value.ref T !=Value.none)=true from by simp)];refine ae (i_ c d b ?_);rw [if_pos (show (rawInt L==rawInt L)=true from by simp)];exact aJ g
theorem Wz (r:env.frame=some L) (n:tN h0 s.heap H a C dx L) (u:∀h',tN h0 h' H a C dx L->iX [] h0 s.heap h' H->Q () { s with heap:=h' }):
 wpAny M A (do {if (<-field (.ref a) 1)==.none then {unsupported "frame.own-activation:exception-without-traceback"};setFlight (.ref a) env.frame}) Q E s:=by
 obtain ⟨l,m,t,T,y,v,d,i,g,h,f,c,p⟩:=n;have k:∀b,(H b≠none\/h0.get? b≠none)->b≠T:=λb z e=>by subst e;exact z.elim (λq=>q h) λq=>q g
 have j:3<v.size:=(yX.mp p).1;refine ae (i_ d U (x:=.ref T) U ?_);rw [if_neg (show ¬(Value.ref T==Value.none)=true from by simp)];unfold setFlight;refine ae (i_ d U (x:=.ref T) U ?_);rw [if_pos (show (Value.ref T !=Value.none)=true from by simp),r];refine qJ f c j (u _ ⟨l,m,t,T,_,_,(iS _ _ i).trans d,i,g,h,qc _ f (B7 (tj c _)),tj c _,by simp [j]⟩ ⟨λb o z _ e=>?_,λb o z e=>⟨o.slots,?_⟩⟩)
 ·exact (iS _ _ (aK (k b z))).trans e
 ·exact (iS _ _ (aK (k b z))).trans e
end
section
variable {K:aO} {s:Shared}
def BV (P:Program) (w:World) (base:Heap) (h:Str) (scope:Scope) (f:Addr) (d:Value) (A:Around) (g:List Env) (s:Shared) (H:Hp) (j:XK) (e:Value) (s':Shared):Prop:=
 ∃(a C:Addr) (i:Option Addr) (c:Hp),e=.ref a/\s'.os=s.os/\AllBare s'.gens/\Un (gr g) [] H c s.heap s'.heap/\dq P w c s'.heap/\(∀b∈gr (envOfC h scope s.heap.objs.size f d::g),c b=none)/\j (.ref C) i c/\
  ((mn s.heap s'.heap c a C i/\(A.deeper (envOfC h scope s.heap.objs.size f d)).frames=some (envOfC h scope s.heap.objs.size f d::g)/\s'.heap.FunFrames base (envOfC h scope s.heap.objs.size f d::g))\/tN s.heap s'.heap c a C i s.heap.objs.size)
theorem RN {s':Shared} {h':Heap} {c:Hp} {d:List Addr} (u:Un (gr outer) [] H c s.heap s'.heap) (k:iX d s.heap s'.heap h' c) (g:∀b∈d,b∈gr (envOfC qual scope s.heap.objs.size f cd::outer)):Un (gr outer) [] H c s.heap h':=
 u.eC k λb o e a=>by
  have a:=g b a;unfold gr at a;rw [tq] at a;rcases f'.mp a with z | z
  ·exact absurd (d9 e) (by rw [z];exact jA _)
  ·exact z
theorem Cp:PassesOwn (model P w) (A.deeper (envOfC qual scope s.heap.objs.size f cd)) (envOfC qual scope s.heap.objs.size f cd) (BV P w base qual scope f cd A outer s H I):=by
 rintro e d ⟨a,C,h,H',rfl,F,q,p,i,m,v,y⟩;have g:∀c,tN s.heap c H' a C h s.heap.objs.size->iX (gr (envOfC qual scope s.heap.objs.size f cd::outer)) s.heap d.heap c H'->cameBackBy (model P w) (A.deeper (envOfC qual scope s.heap.objs.size f cd)) (envOfC qual scope s.heap.objs.size f cd) (BV P w base qual scope f cd A outer s H I) (.ref a) { d with heap:=c }:=λc n k=>by refine Wz (s:={ d with heap:=c }) (h0:=s.heap) (L:=s.heap.objs.size) U n λu E j=>?_;have l:iX (gr (envOfC qual scope s.heap.objs.size f cd::outer)) s.heap d.heap u H':=k.trans ⟨λb o z _ e=>j.1 b o z (by simp) e,j.2⟩;exact ⟨a,C,h,H',U,F,q,RN p l (λ_ z=>z),i.eC l m,m,v,.inr E⟩
 have D:∀b o,s.heap.get? b=some o->∃o',d.heap.get? b=some o':=λb o e=>p.there b o e (by simp);rcases y with ⟨t,B,r⟩ | n
 ·exact C0 (L:=s.heap.objs.size) B r U t D (λb x=>i.fresh x) λc n k=>g c n k
 ·exact RV (L:=s.heap.objs.size) U n (g d.heap n ⟨λ_ _ _ _ e=>e,λ_ o _ e=>⟨o.slots,e⟩⟩)
theorem zCh (h:BV P w base qual scope f cd A outer s H I e s'):(lq (hI P w) P w K mg base N qual scope f cd A outer s H I).xe e s':=by
 obtain ⟨a,C,i,d,rfl,B,p,m,l,E,t,v⟩:=h;show wpAny (model P w) (A.deeper (envOfC qual scope s.heap.objs.size f cd)) (leaving (envOfC qual scope s.heap.objs.size f cd) (.ref a)) (λ_ D=>hI P w outer H s I (.ref a) D) _ s';have y:∀b o,s.heap.get? b=some o->∃o',s'.heap.get? b=some o':=λb o e=>m.there b o e (by simp);have j:∀c,mn s.heap c d a C i->iX (gr (envOfC qual scope s.heap.objs.size f cd::outer)) s.heap s'.heap c d->hI P w outer H s I (.ref a) { s' with heap:=c }:=λc g k=>⟨a,C,i,d,U,B,p,RN m k (λ_ z=>z),l.eC k E,g,t⟩;rcases v with ⟨r,x,q⟩ | n
 ·exact QP (L:=s.heap.objs.size) x q U r y (λb u=>l.fresh u) j
 ·unfold leaving;refine ae (RV (L:=s.heap.objs.size) U n ?_);exact CL n λc g k=>j c g ⟨λb o z _ e=>k.1 b o z (by simp) e,k.2⟩
abbrev BU (P:Program) (w:World) (K:aO) (mg:Str->Option Value) (base:Heap) (N:List Str) (d:Str) (scope:Scope) (f:Addr) (b:Value) (A:Around) (c:List Env) (s:Shared) (H:Hp) (a:XK):Cx:=(lq (hI P w) P w K mg base N d scope f b A c s H a).ir (BV P w base d scope f b A c s H a)
theorem tK {st:Stmt} {t:TS} (h:PS (BU P w K mg base N qual scope f cd A outer s H C) st t):PS (lq (hI P w) P w K mg base N qual scope f cd A outer s H C) st t:=λc d e a D I b=>
 gS (h c d e a D (I.ir _) b) (λ_ _ q=>q.dv) λ_ _ z=>zCh z
end
structure vu (K:aO) (C M:Addr):Prop where
 obj:∃(nm q:Str) (N:Addr) (bs:List Value) (sn:List Str) (sub:List Value) (ab:Bool) (col:Option Bool) (dd:Option Addr) (k0 k1 k2 k3 k5:Option Value),
  K.lookup C=some (excClassObj nm q C N bs (.ref M::iZ) true sn sub ab col dd k0 k1 k2 k3 k5 "ValueError.__new__")/\W.nsOkIn K N=true/\W.nsIn K N "__init__"=some none
 tail:W.tailIn K iZ (.ref M::iZ)=true
 kp:W.keepIn K (.ref C)=true
theorem vu.o {C Mo:Addr} (M:vu K C Mo):z_ K C Mo:=by obtain ⟨j,q,N,b,k,l,a,c,d,e,f,g,h,i,lk,_⟩:=M.obj;exact ⟨⟨j,q,N,b,k,l,a,c,d,e,f,g,h,i,lk⟩,M.tail⟩
theorem Z1 {prog:Program} {A:Around} {E:Value->Shared->Prop} {h:Heap} {g:Array GenState} {d:Drawn} {t:Nat} {j:OsState} {R q:Str} {C N:Addr} {bs c:List Value} {u:Bool} {S:List Str} {V:List Value} {l:Bool} {m:Option Bool} {n:Option Addr} {I J L M O:Option Value} {mN:Str->Option Value} {args:List Value} {Q:Fin->Shared->Prop} (T:OwnTail h iZ c)
 (a:h.get? C=some (excClassObj R q C N bs c u S V l m n I J L M O "ValueError.__new__")) (z:h.Ns N mN) (y:mN "__init__"=none)
 (D:wpAny (model prog w) A (call (.builtin "ValueError.__init__") (.ref (h.objs.size+1)::args)) (λr s'=>r=.none/\Q (.done (.ret (.ref (h.objs.size+1)))) s') E
  ⟨(h.push { cls:=.type "tuple",data:=.seq args.toArray }).push (cX C none (.ref h.objs.size) .none),g,d,t,j⟩) (H:args.length<=sizeLine):
 wpAny (model prog w) A (Builtin.«type.__call__» ⟨.ref C::args,[]⟩) Q E ⟨h,g,d,t,j⟩:=by
 have F:=N0
 repeat (first | with_reducible refine uJ a ?_ | with_reducible refine wpAny_madeBy_exc a ?_ | wp_step)
 refine VY (F8 _ F.quiet) (wpAny_check_new_subT F T a ?_);refine codeAny_exc_new_subT F T a ?_ H;show wpAny _ _ _ _ _ _;have f:∀b o,h.get? b=some o->((h.push { cls:=.type "tuple",data:=.seq args.toArray }).push (cX C none (.ref h.objs.size) .none)).get? b=some o:=
  λb o e=>cZ _ (cZ _ e)
 have i:=f _ _ a;have B:((h.push { cls:=.type "tuple",data:=.seq args.toArray }).push (cX C none (.ref h.objs.size) .none)).Ns N mN:=z.keeps f;have v:((h.push { cls:=.type "tuple",data:=.seq args.toArray }).push (cX C none (.ref h.objs.size) .none)).get? (h.objs.size+1)=some (cX C none (.ref h.objs.size) .none):=by heap_get
 have s:(Value.ref C::c).contains (.ref C)=true:=by simp
 have k:=T.keeps f;unfold isInstance
 repeat (first | with_reducible refine uJ v ?_ | (with_reducible refine Ni i ?_;rw [s]) | wp_step)
 show wpAny _ _ (typeLookup (.ref C) _) _ _ _;refine wpAny_typeLookup_tail i B k F.mroIs F.init.lookup ?_;rw [y];refine kX (ae (wpAny_of_eq (F.init.bind _) ?_));refine ae (gS D (λr s' G=>?_) λ_ _ x=>x);obtain ⟨rfl,p⟩:=G
 wp_walk
 exact p
theorem YZ {prog:Program} {A:Around} {E:Value->Shared->Prop} {h:Heap} {g:Array GenState} {d:Drawn} {t:Nat} {b:OsState} {y q:Str} {C N:Addr} {bs c:List Value} {k:Bool} {z:List Str} {B:List Value} {f:Bool} {i:Option Bool} {j:Option Addr} {p s u v x:Option Value} {e:Str->Option Value} {args:List Value} {Q:Value->Shared->Prop} (T:OwnTail h iZ c)
 (a:h.get? C=some (excClassObj y q C N bs c k z B f i j p s u v x "ValueError.__new__")) (m:h.Ns N e) (l:e "__init__"=none)
 (n:wpAny (model prog w) (A.under (.builtin "type.__call__" ⟨.ref C::args,[]⟩)) (call (.builtin "ValueError.__init__") (.ref (h.objs.size+1)::args)) (λr s'=>r=.none/\Q (.ref (h.objs.size+1)) s') E
  ⟨(h.push { cls:=.type "tuple",data:=.seq args.toArray }).push (cX C none (.ref h.objs.size) .none),g,d,t,b⟩) (o:args.length<=sizeLine):
 wpAny (model prog w) A (call (.ref C) args) Q E ⟨h,g,d,t,b⟩:=by
 have D:=tc_lookup;have F:=tc_bind (.ref C);have G:(⟨h,g,d,t,b⟩:Shared).TypeIs (.ref C) "type":=⟨_,a,U⟩;refine qK (codeAny_of_tree ?_);show wpAny _ _ (callAny (.ref C) _) _ _ _
 repeat (any_goals (first | assumption | with_reducible refine uJ a ?_ | wp_step))
 refine ⟨U,?_⟩;refine codeAny_call_builtin_at (F8 _ (by decide+kernel)) entry_typeCall (VZ a (Z1 T a m l ?_ o));exact n
def ϳ (C:Addr) (t:TA):TE:=λc H Q=>t c H λb a=>b.length<=sizeLine/\∀x,a x=none->Q (.ref x) (upd a x (ij x C none))
theorem Yp {X:Cx} {C j:Addr} {c:List (Addr×Obj)} {d:St} {H:Hp} {s:Shared} {Q:VK} {us:List Value} {vs:List V} (M:vu X.K C j) (I:Inv X c d H s) (r:a_ vs us) (t:vs.length<=sizeLine)
 (p:∀x,H x=none->Q (.ref x) (upd H x (ij x C none))):wpAny (model X.prog X.w) X.A (call (.ref C) us) (EP X c d Q) X.xe s:=by
 obtain ⟨Y,q,N,B,sn,sub,A,D,E,L,O,R,S,W,lk,y,u⟩:=M.obj;have a:=I.fj;have l:=a _ _ lk;have T:=PySem.W.tail_of_in a M.tail;have f:s.heap.Ns N (s.heap.nsMap N):=.of_isNs (PySem.W.isNs_of_in a y);have n:=PySem.W.ns_none_of a f u;have k:=p (s.heap.objs.size+1) (I.aA.fresh (lb _));have v:∀b o,s.heap.get? b=some o->((s.heap.push { cls:=.type "tuple",data:=.seq us.toArray }).push (cX C none (.ref s.heap.objs.size) .none)).get? b=some o:=
  λb o e=>cZ _ (cZ _ e)
 have m:((s.heap.push { cls:=.type "tuple",data:=.seq us.toArray }).push (cX C none (.ref s.heap.objs.size) .none)).get? (s.heap.objs.size+1)=some (cX C none (.ref s.heap.objs.size) .none):=by
  have z:=iT (s.heap.push { cls:=.type "tuple",data:=.seq us.toArray }) (o:=cX C none (.ref s.heap.objs.size) .none) U
  rwa [yQ] at z
 have h:Inv X c d (upd H (s.heap.objs.size+1) (ij (s.heap.objs.size+1) C none)) { s with heap:=(s.heap.push { cls:=.type "tuple",data:=.seq us.toArray }).push (cX C none (.ref s.heap.objs.size) .none) }:=
  I.laid (t':=s.toks) v (lb _) (Co m)
 have g:us.length<=sizeLine:=by rw [<-r.length];exact t
 obtain ⟨J,G,F,tt,Z⟩:=s;exact YZ T l f n (QZ h M.o ai g λs' i=>⟨U,V.ref _,_,i,U,k⟩) g
theorem zG (M:vu X.K C Mo) (f:Gl X x) (g:X.mg x=some (.ref C))
 (b:PA X (e::J) t) (c:autoParam ((x==("__debug__":Str))=false) t12._auto_1) (d:autoParam (starEach (e::J) X.env=(false,eval e X.env)::starEach J X.env) t10._auto_1) (i:autoParam ((backTo pos (starEach J X.env)).any (·.1)=false) t10._auto_1):
 PE X (.Call (.Name x p) (e::J) [] pos) (ϳ C t):=by
 intro j s l H Q I h;refine xf (rj I f g ?_ c);refine yY (h₀:=X.base) I.ok.mod.sI M.kp (ax (b pos j s l H _ I h) λo n k=>?_) d i;obtain ⟨u,m,a,r,z,q⟩:=k;refine ⟨a.fj,?_⟩;exact Yp M a r z q
def zA1 (K:aO) (e:Hp) (d:XK) (g:TE):TS:=λ_ h H=>g h H λx b=>∃a C f c,x=.ref a/\b a=some (ij a C c)/\z_ K C f/\e a=none/\d (.ref C) c (forget b a)
section
variable {K:aO}
theorem yc (y:PE (BU P w K mg base N qual scope f cd A outer s H J) x te):PS (BU P w K mg base N qual scope f cd A outer s H J) (.Raise (some x) none pos) (zA1 K H J te):=by
 intro Q S X i D I h;rw [arm_exec_Raise];refine ae (B4 (YM (I.ok.hd U) ?_));refine ae (ax (y Q S X i _ I h) λx1 s2 W=>ae (B4 (aJ ?_)));obtain ⟨x2,j,c,R,a,C,Mo,e,r,d,M,u,v⟩:=W;subst r;cases R;obtain ⟨O,q,k,m,T,V,l,n,p,B,E,F,G,L,lk⟩:=M.obj;obtain ⟨t,g⟩:=HM c.aA d;refine ⟨a,C,e,.ref t,O,q,k,m,_,_,T,V,l,n,p,B,E,F,G,L,_,U,U,c.fj _ _ lk,g,?_⟩;have b:=(c.forget d).dv;refine ⟨a,C,e,forget j a,U,b.os,b.bare,b.base,b.aA,b.gC,v,.inl ⟨⟨?_,RY,.ref t,.none,g,.inl U⟩,b.ok.frames,b.stack⟩⟩
 cases q0:s.heap.get? a with
 | none=>rfl
 | some o=>
  have z:=c.base.free a o q0 u (by intro z;exact absurd (show a∈([]:List Addr) from z) (by simp));rw [d] at z;cases z
end
def PF (X:Cx) (e:Expr) (t:St->Hp->Prop):Prop:=
 ∀(b:List (Addr×Obj)) (s:Shared) (a:St) (H:Hp) (Q:Value->Shared->Prop),Inv X b a H s->t a H->(∀y d c,y.length<=10000->Inv X b a H c->Q (.str y d) c)->wpAny (model X.prog X.w) X.A (eval e X.env) Q X.xe s
theorem xH {j pos} (h:autoParam (x.length<=10000) t12._auto_1):PF X (.Constant (.str x) j pos) (λ_ _=>True):=λ_ _ _ H _ I _ a=>Calls.Constant_str (a _ _ _ h (I.tok _))
theorem Ya {i:Int} (h:i.natAbs<128):((toString i:String):Str).length<=10000:=by
 have p:∀n:Nat,n<128->((toString (Int.ofNat n):String):Str).length<=10000:=by decide+kernel
 have q:∀n:Nat,n<128->((toString (Int.negSucc n):String):Str).length<=10000:=by decide+kernel
 cases i with
 | ofNat n=>exact p n h
 | negSucc n=>exact q n (Nv h)
theorem tJ (j:PE X e C):PF X (.FormattedValue e (-1) none pos) (λa H=>C a H λv b=>b=H/\∃i:Int,v=.int i/\i.natAbs<128):=by intro l s a H Q I h k;refine wpAny_FormattedValue_plain (ax (j l s a H _ I h) λu n m=>?_);obtain ⟨v,b,d,r,f,i,g,c⟩:=m;subst f g;obtain ⟨t,rfl⟩:=r;refine wpAny_formatField_int (ot (Nat.log2_le_self _) (B0 c (by decide))) (k _ _ _ (Ya c) ((d.tok _).tok _))
def G' (X:Cx) (c:List Expr) (t:St->Hp->Prop):Prop:=
 ∀(e:List (Addr×Obj)) (s:Shared) (a:St) (H:Hp) (b:Str) (Q:Str->Shared->Prop),Inv X e a H s->t a H->b.length+10000*c.length<=100000->(∀d f,d.length<=100000->Inv X e a H f->Q d f)->Joins (model X.prog X.w) X.A X.xe (evalEach c X.env) b Q s
theorem zB:G' X [] (λ_ _=>True):=λ_ _ _ _ _ _ I _ a b=>b _ _ a I
theorem my (h:PF X e t) (j:G' X C J):G' X (e::C) (λa H=>t a H/\J a H):=by
 intro c s a H f Q I b g i;rw [ji] at g;refine h c s a H _ I b.1 λy l k m d=>⟨y,l,U,?_,j c k a H _ Q d b.2 ?_ i⟩
 ·rw [strLen_append];exact cP (show f.length+y.length<=100000 by omega) (by decide)
 ·rw [strLen_append];omega
theorem zA {X:Cx} {e f:Expr} {a:List Expr} {k:Pos} {t:St->Hp->Prop} (h:G' X (e::f::a) t) (l:autoParam (a.length<=8) t12._auto_1):PE X (.JoinedStr (e::f::a) k) (λb H Q=>t b H/\∀y,Q (.str y) H):=by intro j s b H Q I c;refine wpAny_JoinedStr (h j s b H _ _ I c.1 ?_ λd m i g=>⟨cP i (by decide),.str d,H,g.tok _,⟨_,U⟩,c.2 d⟩);rw [ji,ji];show 0+_<=_;omega
section
variable {K:aO}
theorem WV (h:∀C dx d,E C dx d->J C dx d):kK (hI P w) (BU P w K mg base N qual scope f cd A outer s H J) E:=by intro r u q t e s' I m;obtain ⟨a,C,dx,d,rfl,n,i,p,l,j,k⟩:=m;have g:=I.dv;have c:=g.ko (s':=s') (ch:=[]) n p l i (λb z=>absurd z (by simp));exact ⟨a,C,dx,d,U,c.os,c.bare,c.base,c.aA,c.gC,h _ _ _ k,.inl ⟨j.back λb o e=>g.base.there b o e (by intro z;exact absurd (show b∈([]:List Addr) from z) (by simp)),c.ok.frames,c.stack⟩⟩
end
end L2
namespace Y0
open PySem L2
seal PE PA PT PS eS PG me PI PO
seal kT i6 iA gd hQ il i9 i8 gm a8
structure qi (K:aO) (mg:Str->Option Value) (CB Mo:Addr):Prop where
 ex:vu K CB Mo
 qF:mg "BadFall"=some (.ref CB)
theorem vf {c f:Addr} {H d:Hp} {E:XK} {y:Str} (T:qi K mg c f) (h:∀b,d b=none->H b=none) (r:∀g,a0 d g->E (.ref c) none g):
 [V.str y].length<=sizeLine/\∀x,d x=none->∃a C f dx,V.ref x=.ref a/\upd d x (ij x c none) a=some (ij a C dx)/\z_ K C f/\H a=none/\E (.ref C) dx (forget (upd d x (ij x c none)) a):=by
 refine ⟨eH U,λx j=>⟨x,c,f,none,U,ai,T.ex.o,h x j,r _ λb o e=>?_⟩⟩;have i:b≠x:=av e j;rw [tV i,ah i];exact e
def tx (a:dP) (e:Int):Prop:=∃(k:Nat) (f:Nat×Int×Int) (t:Int),e=(k:Int)/\a.F k=some f/\HD.cm a.c k=none/\HD.cm a.c f.1=some t/\f.2.1<=a.now-t/\a.now-t<=f.2.2
structure xo (a:dP):Prop where
 lt:∀e f,a.F e=some f->e<a.c.length/\f.1<a.c.length
 n0:0<=a.now
 n1:a.now<128
 len:a.c.length<128
theorem xo.nat (h:xo a):a.now.natAbs<128:=by have:=h.n0;have:=h.n1;omega
theorem zAv {kvs:List (Key×V)} {e:Int} (h:∀kv∈kvs,∃k:Nat,kv.1=Sum.inl (k:Int)) (b:∀k:Nat,e≠(k:Int)):dJ kvs (.inl e)=none:=by
 unfold dJ;rw [List.find?_eq_none.mpr λkv a=>?_]
 ·rfl
 ·obtain ⟨k,q⟩:=h kv a;rw [q,j9];exact λz=>b k (tf z).symm
def RG (C c:Addr):Sp:=λd H Q E=>∃(a:dP) (e:Int),d=[.ref a.p,.int e]/\a.At C H/\xo a/\e.natAbs<128/\(tx a e->Q .aG H)/\(¬tx a e->∀b,a0 H b->E (.ref c) none b)
section
theorem jV {f C M B Mo:Addr} {N O:FuncData} (F:dO K "look_over_end" "Hand.look_over_end" bw f N) (T:mj K mg C) (d:qi K mg B Mo)
 (mI:fV K C "is_in_fall" M) (bI:dm K O Č []) (GI:aq P w K mg base aw 1 M O Č (IC C)):aq P w K mg base (hI P w) 2 f N Č (RG C B):=by
 refine F.sF JY λ_ x3 _ x5 H _ x4 x1 S h=>?_;obtain ⟨a,e,rfl,v,o,n,kq,x⟩:=h;have V:=jl S;refine ⟨_,aR (cx 2 JY.nd (cI (pv 0) U))
  (aR (dr (tL (zY V (pv 1) (cI (pv 0) U)) (by with_unfolding_all rfl)) (au (tK (yc (zG d.ex U d.qF (aY (zA (my (tJ (pv 1)) (my xH zB)))))))) d8)
  (aR (dr (rb (qx (gq (pv 0) T.cl mI GI S bI .nil dR (aY (pv 1))))) (au (tK (yc (zG d.ex U d.qF (aY (zA (my xH (my (tJ (pv 1)) (my xH (my (tJ (pv 2)) zB)))))))))) d8)
  (aR (cx 3 JY.nd (jF V (cI (pv 0) U) (pv 1) (λ_ _=>rfl)))
  (au (dr (rb (Iz jN jN (aE (pv 3)) (cu iH (pv 2) (cV di (cI (pv 0) U) (aE (pv 3)))) (aE (pv 3))))
   (au (tK (yc (zG d.ex U d.qF (aY (zA (my (tJ (pv 1)) (my xH (my (tJ (pv 2)) zB))))))))) d8))))),?_⟩
 obtain ⟨dx,l⟩:=v.ins;obtain ⟨X,Z,r2,r3,r4⟩:=v.dW;refine λg b=>(aa U (cb l T.cl T.nN wL (b _ _ ?_)));clear b g
 by_cases D:∃(k:Nat) (c:Nat×Int×Int),e=(k:Int)/\a.F k=some c
 case neg=>
  have E:¬tx a e:=λ⟨k,c,_,u,i,_⟩=>D ⟨k,c,u,i⟩;have s:eF H a.be (.int e) none:=by
   refine .inl ⟨X,.inl e,Z,U,Eq.symm ?_⟩
   by_cases R:∃k:Nat,e=(k:Int)
   ·obtain ⟨k,rfl⟩:=R
    cases h:a.F k with
    | none=>exact r3 k h
    | some c=>exact absurd ⟨k,c,U,h⟩ D
   ·exact zAv r2.2 λk z=>R ⟨k,z⟩
  exact λg b=>(aa U (aa U (cb l T.cl T.nB wM ⟨a.be,_,U,s,_,U,fv ⟨⟨(aa U ⟨U,e,U,n⟩),trivial,trivial⟩,λy=>vf d (λ_ z=>z) (x E)⟩⟩)))
 obtain ⟨k,c,rfl,j⟩:=D;obtain ⟨l1,Y⟩:=o.lt k c j;obtain ⟨x2,q1,G⟩:=r4 k c j;have s:eF H a.be (.int (k:Int)) (some (.ref x2)):=.inl ⟨X,.inl (k:Int),Z,U,q1.symm⟩;refine λg b=>(aa U (aa U (cb l T.cl T.nB wM ⟨a.be,_,U,s,_,U,dk (b _ _ ?_)⟩)));clear b g;refine λg b=>(aa U (fi l (by with_unfolding_all rfl) (aa U ⟨a,k,c,U,v,j,l1,Y,?_⟩)))
 cases u:HD.cm a.c k with
 | some t=>
  refine ⟨_,U,fv ⟨⟨trivial,(aa U ⟨U,_,U,n⟩),trivial,(aa U ⟨U,_,U,o.nat⟩),trivial⟩,λy=>vf d (λ_ z=>z) (x λI=>?_)⟩⟩;obtain ⟨W,L,t',p,m,A,_⟩:=I;rw [<-Int.ofNat_inj.mp p,u] at A;cases A
 | none=>
  cases i:HD.cm a.c c.1 with
  | none=>
   refine ⟨_,U,fv ⟨⟨trivial,(aa U ⟨U,_,U,n⟩),trivial,(aa U ⟨U,_,U,o.nat⟩),trivial⟩,λy=>vf d (λ_ z=>z) (x λI=>?_)⟩⟩;obtain ⟨W,L,t',p,m,A,q,_⟩:=I;rw [<-Int.ofNat_inj.mp p,j] at m;cases m;rw [i] at q;cases q
  | some t=>
   refine ⟨_,U,dk (b _ _ ?_)⟩;clear b g;refine λg b=>(aa U (cb l T.cl T.nB wM (aa U ⟨a.be,_,U,s,b _ _ ?_⟩)));clear b g;have Q:=o8 Y;rw [i] at Q;have J:¬(c.2.1<=a.now-t/\a.now-t<=c.2.2)->∀H',a0 H H'->x1 (.ref B) none H':=λE=>x λ⟨W,L,t',p,m,A,q,z5,z6⟩=>by rw [<-Int.ofNat_inj.mp p,j] at m;cases m;rw [i] at q;cases q;exact E ⟨z5,z6⟩
   refine (aa U (aD G U (aa U (aa U (cb l T.cl T.nC n_ (aa U (aD G U (gQ v.cU Q (ri (ri ⟨_,U,?_⟩))))))))))
   by_cases b:c.2.1<=a.now-t
   ·refine fu b (aa U (aD G U (ri (ct ?_))))
    by_cases r:a.now-t<=c.2.2
    ·exact qW r (kq ⟨k,c,t,U,j,u,i,b,r⟩)
    ·exact jM (by rw [eE r];rfl) ⟨⟨(aa U ⟨U,_,U,n⟩),trivial,(aa U ⟨U,_,U,o.nat⟩),trivial⟩,λy=>vf d (λ_ z=>z) (J λz=>r z.2)⟩
   ·exact gL b (ct (jM U ⟨⟨(aa U ⟨U,_,U,n⟩),trivial,(aa U ⟨U,_,U,o.nat⟩),trivial⟩,λy=>vf d (λ_ z=>z) (J λz=>b z.1)⟩))
end
structure tG (a:dP) (fs:List Int):Prop where
 nd:∀e∈fs,fs.count e<=1
 ok:∀e∈fs,tx a e
 all:∀(e:Nat) f t,a.F e=some f->HD.cm a.c e=none->HD.cm a.c f.1=some t->f.2.2<=a.now-t->(e:Int)∈fs
def FB (a:dP) (H c:Hp):Prop:=(∀b u,H b=some u->b≠a.be->c b=some u)/\∀d,H a.be=some (.dK d)->Rd c a.be (.dK d)
theorem FB.of (s:a0 H H'):FB a H H':=⟨λb u e _=>s b u e,λ_ e=>.inl (s _ _ e)⟩
def P4 (C h:Addr):Sp:=λi H Q E=>∃(a:dP) (g:Addr) (d:List Int),i=[.ref a.p,.ref g]/\a.At C H/\H g=some (.lst (d.map V.int))/\xo a/\(∀e∈d,e.natAbs<128)/\(∃f,H a.be=some (.dK f))/\
 (tG a d->∀o f c,H a.be=some (.dK f)->c a.be=some (.dh o (.dK f))->(∀b u,H b=some u->b≠a.be->c b=some u)->Q .aG c)/\(¬tG a d->∀c,FB a H c->E (.ref h) none c)
theorem R8 {fs:List Int}:(fs.map V.int).all gn=true:=by rw [yM];exact mY.mpr λ_ _=>rfl
theorem zAw {kvs:List (Key×V)} {k:Key} {v:V} (h:dJ kvs k=some v):∃i:Nat,kvs[i]?=some (k,v):=by
 unfold dJ at h
 cases q:kvs.find? λa=>decide (a.1=k) with
 | none=>rw [q] at h;cases h
 | some a=>
  rw [q] at h;have h:some a.2=some v:=h;obtain ⟨i,b,e⟩:=xh (Nz q);have p:=Nb q;have p:decide (a.1=k)=true:=p;rw [j9] at p;exact ⟨i,by rw [gI b,e,<-ft h,<-p]⟩
section
theorem jv {f C fE fI CB Mo:Addr} {fd yF wU:FuncData} (F:dO K "look_over" "Hand.look_over" cA f fd) (T:mj K mg C) (p:qi K mg CB Mo)
 (mE:fV K C "look_over_end" fE) (bE:dm K yF Č []) (GE:aq P w K mg base (hI P w) 2 fE yF Č (RG C CB))
 (mI:fV K C "is_in_fall" fI) (bI:dm K wU Č []) (GI:aq P w K mg base aw 1 fI wU Č (IC C)):aq P w K mg base (hI P w) 3 f fd Ć (P4 C CB):=by
 refine F.sF Ae λ_ x5 _ x8 x3 _ x7 x6 hr h=>?_;obtain ⟨a,r,fs,rfl,hA,B,X,kg,⟨kvs,M⟩,kq,ke⟩:=h;have hu:=jl hr;have g_:cR 1 _:=hr.mono (by decide);refine ⟨_,aR (cx 2 Ae.nd (cI (pv 0) U))
  (aR (tK (iJ Cp U (gP (pv 1)) (cf 3 Ae.nd)
   (cv (e_ (gq (pv 0) T.cl mE GE hr bE .nil (WV λ_ _ _ z=>z) (aY (pv 3))))
   (au (dr (cG zj (l9 md PySem.F.slot_list_count PySem.F.type_list_count WN (pv 1) (aY (pv 3))) a7) (au (yc (zG p.ex U p.qF (aY (zA (my (tJ (pv 3)) (my xH zB))))))) d8)))))
  (au (tK (iJ Cp U (W_ (cI (pv 0) U)) (cf 3 Ae.nd)
   (aR (cx 4 Ae.nd (jF hu (cI (pv 0) U) (pv 3) (λ_ _=>rfl)))
   (au (dr (PW.pt (oT (qx (gq (pv 0) T.cl mI GI g_ bI .nil dR (aY (pv 3)))) (oT (cG Kf (cu iH (pv 2) (cV di (cI (pv 0) U) (aE (pv 4)))) (aE (pv 4))) (ro (xO JM (pv 3) (pv 1) (by with_unfolding_all rfl)))))) (au (yc (zG p.ex U p.qF (aY (zA (my (tJ (pv 3)) (my xH (my (tJ (pv 2)) zB)))))))) d8))))))),?_⟩
 obtain ⟨dx,hp⟩:=hA.ins;refine λN1 J=>(aa U (cb hp T.cl T.nN wL (J _ _ ?_)));clear J N1;refine λN1 J=>(aa U ⟨r,U,⟨_,ar.of B⟩,?_⟩);refine lD (K:=K) (a:=r) (xs:=fs.map V.int) (λi m g=>∃l,m=[some (.ref a.p),some (.ref r),some (.int a.now),l,none]/\g=x3/\∀e∈fs.take i,tx a e/\fs.count e<=1) ⟨none,U,U,λe d=>absurd d (by simp)⟩ ?_ ?_ ?_
 ·rintro i m k _ ⟨l,rfl,rfl,_⟩;exact ar.of B
 ·rintro i x2 m k Q ⟨l,rfl,rfl,N⟩;rw [dA] at Q
  cases hq:fs[i]? with
  | none=>rw [hq] at Q;cases Q
  | some e=>
   rw [hq] at Q;cases Q;have d:=eR hq;refine (aa U (fi hp (by with_unfolding_all rfl) (aa U ⟨a,e,U,hA,X,kg e d,λaA=>?_,λw8 g H=>ke (λz=>w8 (z.ok e d)) g (.of H)⟩)));refine (aa U ⟨.inl ⟨U,_,ar.of B⟩,aa U ⟨r,_,_,U,U,B,ri (ct ?_)⟩⟩)
   by_cases c:(1:Int)<((fs.count e:Nat):Int)
   ·refine fu c ⟨⟨(aa U ⟨U,e,U,kg e d⟩),trivial,trivial⟩,λx2=>vf p (λ_ z=>z) λg H=>ke (λz=>?_) g (.of H)⟩;have:=z.nd e d;lia
   ·refine gL c ⟨_,U,U,λx4 E=>?_⟩;rw [jb,hq] at E;rcases jj.mp E with E | E
    ·exact N x4 E
    ·cases ig.mp E;exact ⟨aA,by lia⟩
 rintro m k ⟨l,rfl,rfl,N⟩;rw [az,hH] at N;refine J _ _ ?_;clear J N1;refine (aa U (cb hp T.cl T.nB wM ⟨a.be,kvs,U,M,λ_ o=>?_⟩));have D:upd k a.be (.dh o (.dK kvs)) a.be=some (.dh o (.dK kvs)):=ai;have Y:∀b u,k b=some u->b≠a.be->upd k a.be (.dh o (.dK kvs)) b=some u:=λb u e x1=>by rw [ah x1];exact e
 have hn:∀b,upd k a.be (.dh o (.dK kvs)) b=none->k b=none:=λb z=>by
  by_cases c:b=a.be
  ·subst c;rw [ai] at z;cases z
  ·rwa [ah c] at z
 have S:a.At C (upd k a.be (.dh o (.dK kvs))):=iQ.dh hA M (.inr ⟨o,D⟩) Y;have LX:=Y _ _ B (aI B M nofun);generalize upd k a.be (.dh o (.dK kvs))=H2 at*;obtain ⟨dx2,lT⟩:=S.ins;obtain ⟨G,n,r2,r3,r4⟩:=S.dW;have ek:G=kvs:=by
  rcases n with n | ⟨o',n⟩
  ·rw [D] at n;cases n
  ·rw [D] at n;cases n;rfl
 subst ek;refine XZ (a:=a.be) (o:=o) (kvs:=G) (λi m g=>∃l v4,m=[some (.ref a.p),some (.ref r),some (.int a.now),l,v4]/\g=H2/\∀(j e:Nat) v f t,j<i->G[j]?=some (.inl (e:Int),v)->a.F e=some f->HD.cm a.c e=none->HD.cm a.c f.1=some t->f.2.2<=a.now-t->(e:Int)∈fs) ⟨_,_,U,U,λj _ _ _ _ z=>absurd z (oJ _)⟩ ?_ ?_ ?_
 ·rintro i m H3 _ ⟨l,v4,rfl,rfl,_⟩;exact D
 ·rintro i key v m H3 jZ ⟨l,v4,rfl,rfl,hb⟩;obtain ⟨e,d⟩:=r2.2 _ (eR jZ);have d:key=Sum.inl (e:Int):=d;subst d;obtain ⟨fa,A⟩:∃fa,a.F e=some fa:=by
   cases h:a.F e with
   | none=>exact absurd (r3 e h) (Y7 jZ)
   | some fa=>exact ⟨fa,U⟩
  have next:(∀f t,a.F e=some f->HD.cm a.c e=none->HD.cm a.c f.1=some t->f.2.2<=a.now-t->(e:Int)∈fs)->∀(j e:Nat) v f t,j<i+1->G[j]?=some (.inl (e:Int),v)->a.F e=some f->HD.cm a.c e=none->HD.cm a.c f.1=some t->f.2.2<=a.now-t->(e:Int)∈fs:=λh j e' v' f t W O=>by
   by_cases c:j=i
   ·subst c;rw [jZ] at O;have O:(Sum.inl (e:Int),v)=((Sum.inl (e':Int),v'):Key×V):=ft O;have q:(e:Int)=(e':Int):=tf (Prod.mk.inj O).1;cases Int.ofNat_inj.mp q;exact h f t
   ·exact hb j e' v' f t (rB W c) O
  obtain ⟨l1,l2⟩:=X.lt e fa A;obtain ⟨q,q1,q2⟩:=r4 e fa A;have dg:eF H3 a.be (.int (e:Int)) (some (.ref q)):=.inl ⟨G,.inl (e:Int),n,U,q1.symm⟩;refine λN2 c2=>(aa U (cb lT T.cl T.nB wM (aa U ⟨a.be,_,U,dg,c2 _ _ ?_⟩)));clear c2 N2;refine (aa U (fi lT (by with_unfolding_all rfl) (aa U ⟨a,e,fa,U,S,A,l1,l2,_,U,?_⟩)))
  cases L:HD.cm a.c e with
  | some t=>exact dk (dk ⟨_,_,U,U,next λf t I z2=>by rw [L] at z2;cases z2⟩)
  | none=>
   cases s:HD.cm a.c fa.1 with
   | none=>exact dk (dk ⟨_,_,U,U,next λf t I z2 R=>by rw [A] at I;cases I;rw [s] at R;cases R⟩)
   | some t=>
    have nZ:=o8 l2;rw [s] at nZ;refine fv (aa U (aa U (cb lT T.cl T.nC n_ (aa U (aD q2 U (gQ S.cU nZ (ri (aa U (aD q2 U (ri (ct ?_)))))))))))
    by_cases x:fa.2.2<=a.now-t
    case neg=>exact gL x (dk ⟨_,_,U,U,next λf t' I z2 R z4=>by rw [A] at I;cases I;rw [s] at R;cases R;exact absurd z4 x⟩)
    refine fu x (aa U (aa U ⟨r,_,U,.inl (ar.of LX),U,R8,ct ?_⟩))
    by_cases y:(e:Int)∈fs
    ·refine gU ?_ ⟨_,_,U,U,next λ_ _ _ _ _ _=>y⟩;show (!kR (V.int (e:Int)) _)=false;rw [rp,eO y];rfl
    ·refine jM ?_ ⟨⟨(aa U ⟨U,_,U,?_⟩),trivial,(aa U ⟨U,_,U,X.nat⟩),trivial⟩,λx2=>vf p hn λg H=>ke (λz=>y (z.all e fa t A L s x)) g ⟨λb u e x1=>H _ _ (Y b u e x1),λKU e2=>?_⟩⟩
     ·show (!kR (V.int (e:Int)) _)=true;rw [rp,eE y];rfl
     ·have:=X.len;exact B0 l1 this
     ·rw [M] at e2;cases e2;exact .inr ⟨o,H _ _ D⟩
 ·rintro m H3 ⟨l,v4,rfl,rfl,hb⟩;refine kq ⟨λe d=>(N e d).2,λe d=>(N e d).1,λe f t L s x y=>?_⟩ o G _ M D Y;obtain ⟨q,q1,_⟩:=r4 e f L;obtain ⟨j,W⟩:=zAw q1;exact hb j e _ f t (eX.mp W).1 W L s x y
end
abbrev dP.wR (a:dP) (fs:List Nat):dP:=a.with (HD.af fs a.now a.c) a.now
def HS (C g:Addr):Sp:=λk H Q E=>∃(a:dP) (f:Addr) (d:List Int),k=[.ref a.p,.ref f]/\a.At C H/\dq a/\xo a/\H f=some (.lst (d.map V.int))/\f≠a.ca/\(∀e∈d,e.natAbs<128)/\(∃h,H a.be=some (.dK h))/\a.lt≠a.ca/\a.lw≠a.ca/\a.ow≠a.ca/\
 (tG a d->∀c:List Nat,d=c.map (λi:Nat=>(i:Int))->∀l b r j,H l=none->Ke a.p a.ca H b->b l=some (.lst (r.map λi:Nat=>V.int (i:Int)))->r=HD.iter (a.wR c).S j (a.wR c).l0->(a.wR c).S r=r->
  (a.with (HD.af r a.now (HD.af c a.now a.c)) (a.now+1)).At C b->Q (.ref l) b)/\(¬tG a d->∀b,FB a H b->E (.ref g) none b)
theorem tG.nats (h:tG a fs):∃fn:List Nat,fs=fn.map λi:Nat=>(i:Int):=by refine ⟨fs.map Int.toNat,?_⟩;rw [List.map_map];refine (Bt fs).symm.trans (FG λe b=>?_);obtain ⟨k,_,_,rfl,_⟩:=h.ok e b;rfl
section
theorem pH (F:dO K "goes" "Hand.goes" eB f fd) (T:mj K mg C)
 (mL:fV K C "look_over" fL) (bL:dm K MC Ć []) (GL:aq P w K mg base (hI P w) 3 fL MC Ć (P4 C CB))
 (mA:fV K C "all_let" fA) (bA:dm K MG xv []) (GA:aq P w K mg base aw 3 fA MG xv (Qu C)):aq P w K mg base (hI P w) 4 f fd Ć (HS C CB):=by
 refine F.sF DN λ_ x4 _ x7 H _ x6 x5 hr h=>?_;obtain ⟨a,B,fs,rfl,D,aA,G,O,wQ,kg,⟨J,s⟩,S,W,n3,k,ke⟩:=h;refine ⟨_,aR (e_ (Po (gq (pv 0) T.cl mL GL hr bL .nil (ϙ λ_ _ _ z=>z) (aY (pv 1)))))
  (aR (tK (iJ Cp U (gP (pv 1)) (cf 2 DN.nd)
   (au (Hy (cI (pv 0) U) (Hw (cI (pv 0) U) (pv 2) IB)))))
  (aR (cx 3 DN.nd (oX (pv 0) T.cl mA GA hr bA .nil dR))
  (aR (tK (iJ Cp U (gP (pv 3)) (cf 4 DN.nd)
   (au (Hy (cI (pv 0) U) (Hw (cI (pv 0) U) (pv 4) IB)))))
  (aR (Yo (pv 0) a7 Ϧ)
  (au (cg (pv 3))))))),?_⟩
 obtain ⟨dx,hp⟩:=D.ins;refine λq g=>(aa U (fi hp (by with_unfolding_all rfl) (aa U ⟨a,B,fs,U,D,O,G,kg,⟨J,s⟩,λtell x1 KU H1 e1 e2 kp=>⟨a.be,x1,_,e2,λx1 u z=>?_,g _ _ ?_⟩,ke⟩)))
 ·have z:H a.be=some (.dh x1 u):=z;rw [s] at z;cases z
 clear g q;rw [s] at e1;cases e1;have s1:a0 H (upd H1 a.be (.dK J)):=λb u e=>by
  by_cases c:b=a.be
  ·subst c;rw [s] at e;cases e;exact ai
  ·rw [ah c];exact kp _ _ e c
 generalize upd H1 a.be (.dK J)=H2 at*;clear kp e2;obtain ⟨d,N⟩:=tell.nats;have k:=k tell d N;have lt_:∀e∈d,e<a.c.length:=λe E=>by obtain ⟨k,f,x8,z1,h1,_⟩:=tell.ok (e:Int) (by rw [N];exact BB E);rw [Int.ofNat_inj.mp z1];exact (G.lt k f h1).1
 rw [N,<-xQ] at O;clear N;have step:∀{l:List Nat} {c:List (Option Int)} {i e:Nat},l[i]?=some e->(HD.af (l.take i) a.now c).set e (some a.now)=HD.af (l.take (i+1)) a.now c:=λ{l c i e} h=>by rw [jb,h,HD.iY];rfl
 refine λq g=>(aa U ⟨B,U,⟨_,ar.of (s1 _ _ O)⟩,?_⟩);refine lD (K:=K) (a:=B) (xs:=d.map λi:Nat=>V.int (i:Int)) (λi p y=>∃L,p=[some (.ref a.p),some (.ref B),L,none,none]/\(a.with (HD.af (d.take i) a.now a.c) a.now).At C y/\∀b u,H b=some u->b≠a.ca->y b=some u) ⟨none,U,dP.At.same D s1,λb u e _=>s1 _ _ e⟩ ?_ ?_ ?_
 ·rintro i p H3 _ ⟨L,rfl,o,x⟩;exact ar.of (x _ _ O wQ)
 ·rintro i x3 p H3 j ⟨L,rfl,o,x⟩;rw [dA] at j
  cases I:d[i]? with
  | none=>rw [I] at j;cases j
  | some e=>
   rw [I] at j;cases j;have E:=lt_ e (eR I);obtain ⟨VL,Q⟩:=o.ins;have hl3:(((a.with (HD.af (d.take i) a.now a.c) a.now).c).map ov).length=a.c.length:=by rw [az];exact HD.aW _ _ _
   refine (aa U (cb Q T.cl T.nN wL (aa U (cb Q T.cl T.nC n_ (aa U ⟨a.ca,_,_,e,U,U,o.cU,by rw [hl3];exact OT E,?_⟩)))));have Z:(((a.with (HD.af (d.take i) a.now a.c) a.now).c).map ov).set e (.int (a.with (HD.af (d.take i) a.now a.c) a.now).now)=(HD.af (d.take (i+1)) a.now a.c).map ov:=by rw [<-step I,List.map_set];rfl
   rw [Z];exact ⟨_,U,iQ.ki o ⟨J,x _ _ s (aI s D.cU nofun)⟩ S W n3,λb u e n=>by rw [ah n];exact x _ _ e n⟩
 rintro p H3 ⟨L,rfl,o,x⟩;rw [az,hH] at o;refine g _ _ ?_;clear g q;obtain ⟨VL,Q⟩:=o.ins;have AD:dq (a.with (HD.af d a.now a.c) a.now):=aA.with (HD.aW _ _ _);refine λq g=>(aa U (fi Q (by with_unfolding_all rfl) ⟨a.with (HD.af d a.now a.c) a.now,U,o,AD,λl H4 r x2 G s4 el er es=>g _ _ ?_⟩));clear g q;have Ma:=o.cU;have UK:l≠a.ca:=(av Ma G).symm;have lH:H l=none:=by
  cases h:H l with
  | none=>rfl
  | some u=>have:=x _ _ h UK;rw [G] at this;cases this
 have hA4:=o.same s4;have k4:∀b u,H b=some u->b≠a.ca->H4 b=some u:=λb u e n=>s4 _ _ (x b u e n);have EB:∀m∈r,m<a.c.length:=λm hm=>by rw [er] at hm;have:=AD.own m (List.mem_filter.mp (HD.gF _ _ m hm)).1;have e:(a.with (HD.af d a.now a.c) a.now).c.length=a.c.length:=HD.aW _ _ _;exact C_ this e
 refine λq g=>(aa U ⟨l,U,⟨_,ar.of el⟩,?_⟩);refine lD (K:=K) (a:=l) (xs:=r.map λi:Nat=>V.int (i:Int)) (λi p y=>∃X,p=[some (.ref a.p),some (.ref B),L,some (.ref l),X]/\(a.with (HD.af (r.take i) a.now (HD.af d a.now a.c)) a.now).At C y/\y l=some (.lst (r.map λi:Nat=>V.int (i:Int)))/\∀b u,H b=some u->b≠a.ca->y b=some u) ⟨none,U,hA4,el,k4⟩ ?_ ?_ ?_
 ·rintro i p Y _ ⟨X,rfl,_,A,_⟩;exact ar.of A
 ·rintro i x3 p Y j ⟨X,rfl,t,A,R⟩;rw [dA] at j
  cases I:r[i]? with
  | none=>rw [I] at j;cases j
  | some e=>
   rw [I] at j;cases j;have E:=EB e (eR I);obtain ⟨M,v⟩:=t.ins;have Vk:(((a.with (HD.af (r.take i) a.now (HD.af d a.now a.c)) a.now).c).map ov).length=a.c.length:=by rw [az];exact (HD.aW _ _ _).trans (HD.aW _ _ _)
   refine (aa U (cb v T.cl T.nN wL (aa U (cb v T.cl T.nC n_ (aa U ⟨a.ca,_,_,e,U,U,t.cU,by rw [Vk];exact OT E,?_⟩)))));have Z:(((a.with (HD.af (r.take i) a.now (HD.af d a.now a.c)) a.now).c).map ov).set e (.int (a.with (HD.af (r.take i) a.now (HD.af d a.now a.c)) a.now).now)=(HD.af (r.take (i+1)) a.now (HD.af d a.now a.c)).map ov:=by rw [<-step I,List.map_set];rfl
   rw [Z];exact ⟨_,U,iQ.ki t ⟨J,R _ _ s (aI s D.cU nofun)⟩ S W n3,by rw [ah UK];exact A,λb u e n=>by rw [ah n];exact R _ _ e n⟩
 rintro p Y ⟨X,rfl,t,A,R⟩;rw [az,hH] at t;refine g _ _ ?_;clear g q;obtain ⟨M,v⟩:=t.ins;refine λq g=>(aa U ⟨a.p,C,M,_,_,U,v,T.cl,T.nN,wL,_,_,U,U,M,_,v,by show 6<1000;decide,g _ _ (aa U ?_)⟩);have ep:aj "now" (.int (a.now+1)) (lz a.lt a.lw a.be a.ow a.ca a.now)=lz a.lt a.lw a.be a.ow a.ca (a.now+1):=õ;have V3:iQ C (upd Y a.p (.ins C M (lz a.lt a.lw a.be a.ow a.ca (a.now+1)))) a.p a.lt a.lw a.be a.ow a.ca a.F a.T a.M a.own (HD.af r a.now (HD.af d a.now a.c)) (a.now+1):=iQ.sG t ⟨_,v⟩;rw [<-ep] at V3;refine k l _ r x2 lH (λb u e S W=>?_) ?_ er es V3
 ·rw [ah S];exact R _ _ e W
 ·have lp:l≠a.p:=aI A v nofun;rw [ah lp];exact A
end
structure tu (K:aO) (mg:Str->Option Value) (C Mo fI:Addr):Prop where
 list:mg "list"=none
 ex:qk K C Mo fI
 ba:SW K Mo
 mo:mg "MomentError"=some (.ref Mo)
 nP:W.findIn K (.ref C) "paper"=some none
 qF:mg "NoHand"=some (.ref C)
def S' (C:Addr):Sp:=λb H Q _=>∃x r c,b=[.ref x,.ref r]/\H x=some (ij x C none)/\H r=some (.lst c)/\
 ∀d a,H d=none->a x=some (ij x C (some d))->bX x H a->Q .aG a
def Qw (C l k:Addr):Sp:=λq H Q E=>∃(p j m:Addr) (n:Nat) (b:Int) (T F:List (List Int)) (c:Nat),q=[.ref p,.ref j]/\H p=some (.ins C m [])/\jK l H j (n:Int) b T F/\dn (n:Int) b T F/\zi n (aQ F) (mu n b T F) c/\
 ((gO n b T F c).bar=none->∀a g h f i e L M,iQ C a p g h f i e (aQ F) L (M.filter (dD (aQ F))) (qm n F) (List.replicate n none) 0->jB (gO n b T F c) true L->jB (gO n b T F c) false M->H e=none->(∃o,a f=some (.dK o))->g≠e->h≠e->i≠e->bX p H a->Q .aG a)/\
 ((gO n b T F c).bar≠none->∀d a,a0 H a->E (.ref k) d a)
section
theorem ã:bR ğ ğ (aF d0):=cD
theorem vW (F:dO K "__init__" "NoHand.__init__" d0 fI fd) (T:tu K mg C Mo fI):aq P w K mg base aw 1 fI fd ğ (S' C):=by
 refine F.cY ã λ_ A _ s H _ Q E q h=>?_;obtain ⟨x,r,j,rfl,i,g,k⟩:=h;refine ⟨_,cv (e_ (zBs T.ba U T.mo (bo (pv 0) (pe rD (by rfl) T.list (by decide+kernel) (aY (pv 1))))))
  (au (zBl (pv 0) (pe rD (by rfl) T.list (by decide+kernel) (aY (pv 1))) U)),?_⟩
 refine (aa U (aa U ⟨r,_,U,.inl (ar.of g),λt m=>?_⟩));have c:=aV (o:=.lst j) m;refine ⟨x,_,C,Mo,fI,none,U,c _ _ i,T.ex,eH U,?_⟩;refine (aa U ⟨r,_,U,.inl (ar.of (c _ _ g)),λu n=>?_⟩);have a:=c.trans (aV (o:=.lst j) n);refine (aa U ⟨x,C,Mo,fI,U,a _ _ i,T.ex,T.nP,λd f l=>?_⟩);refine k d _ (a.free f) ?_ λb o e p=>?_
 ·rw [ah (aK l),ai]
 ·rw [ah (av (a _ _ e) f),ah p];exact a _ _ e
theorem nS (F:dO K "__init__" "Hand.__init__" eA f fd) (T:mj K mg C) (TC:o1 K mg I) (TN:tu K mg CN Mo fN) (bN:dm K kh ğ []) (GN:aq P w K mg base aw 1 fN kh ğ (S' CN))
 (FK:Fn K mg "kept" gD Ċ fK MD) (GK:aq P w K mg base aw 6 fK MD Ċ (OD I))
 (FE:Fn K mg "falls_by_end" br Ċ fE yF) (GE:aq P w K mg base aw 2 fE yF Ċ (HR I))
 (mO:fV K I "own" fO) (bO:dm K EX xv []) (GO:aq P w K mg base aw 1 fO EX xv (S_ I)):aq P w K mg base (hI P w) 7 f fd đ (Qw C I CN):=by
 refine F.sF S7 λ_ x9 _ Ko x3 _ rE m8 hr x1=>?_;obtain ⟨p,Q,c,n,la,rT,rF,Te,rfl,hp,W0,X,hE,x2,ke⟩:=x1;have g_:cR 1 _:=hr.mono (by decide);have sN:cR 2 _:=hr.mono (by decide);refine ⟨_,aR (cx 2 S7.nd (cE GK hr FK (aY (pv 1))))
  (aR (dr (cG fy (aE (pv 2)) dY) (au (tK (yc (WZ TN.ex GN sN U TN.qF bN dR (aY (aE (pv 2))))))) d8)
  (aR (kL (pv 0) (aE (pv 2)) U)
  (aR (kL (pv 0) (aE (pv 2)) U)
  (aR (kL (pv 0) (cE GE sN FE (aY (pv 1))) U)
  (aR (kL (pv 0) (oX (pv 1) TC.cl mO GO g_ bO .nil dR) U)
  (aR (kL (pv 0) (cu zD6 (iW (aY iI)) (cI (pv 1) U)) U)
  (au (kL (pv 0) a7 U)))))))),?_⟩
 refine λi a=>(aa U ⟨Q,n,la,rT,rF,Te,U,W0,X,hE,λx4 k g_ v=>⟨λb hb hP=>a _ _ ?_,λjy hR=>a _ _ ?_⟩⟩)
 ·clear a i;obtain ⟨x7,ns,ps,r,s,_⟩:=hP;refine λi a=>(aa U (aD r U ⟨U,ct (jM (by decide+kernel) (aa U (aD r U ⟨eH U,λx hx=>⟨x,x7,_,U,ai,by rw [ah (av s hx)];exact s,λx6 R hd ex kp=>⟨U,x,CN,Mo,some x6,U,ex,TN.ex.o,v.free hx,ke (by rw [hb];exact λx8=>nomatch x8) _ _ λb o e=>?_⟩⟩⟩)))⟩));have bx:b≠x:=av (v _ _ e) hx;rw [tV bx];exact kp _ _ (by rw [ah bx];exact v _ _ e) bx
 have x2:=x2 jy;clear a i;obtain ⟨d,h,ps,qs,x5,MM,r,s,g3,hL,W,g5,hM⟩:=hR;have n8:=X.n2;refine λi a=>(aa U (aD r U ⟨U,ct (gU (by decide+kernel) (a _ _ ?_))⟩));clear a i;have Y:=v _ _ hp;refine λi a=>(aa U (aD r U (aa U (kO Y T.cl T.nT (by show 0<1000;decide) (a _ _ ?_)))));clear a i;have k2:bX p k (upd k p (.ins C c (aj "rule_ties" (.ref d) []))):=λb o e g=>by rw [ah g];exact e
 have lT:upd k p (.ins C c (aj "rule_ties" (.ref d) [])) p=some (.ins C c (aj "rule_ties" (.ref d) [])):=ai;generalize upd k p (.ins C c (aj "rule_ties" (.ref d) []))=R at*;have N:∀{q xs},k q=some (.tup xs)->q≠p:=λe=>aI e Y nofun;have A:∀{q xs},k q=some (.lst xs)->q≠p:=λe=>aI e Y nofun;refine λi a=>(aa U (aD (k2 _ _ r (N r)) U (aa U (kO lT T.cl T.nW (by show 1<1000;decide) (a _ _ ?_)))));clear a i;have k3:bX p k (upd R p (.ins C c (aj "rule_waits" (.ref h) (aj "rule_ties" (.ref d) [])))):=λb o e g=>by rw [ah g];exact k2 _ _ e g
 have AB:upd R p (.ins C c (aj "rule_waits" (.ref h) (aj "rule_ties" (.ref d) []))) p=some (.ins C c (aj "rule_waits" (.ref h) (aj "rule_ties" (.ref d) []))):=ai;generalize upd R p (.ins C c (aj "rule_waits" (.ref h) (aj "rule_ties" (.ref d) [])))=H3 at*;have DS:∀{H':Hp},bX p k H'->jK I H' Q (n:Int) la rT rF:=λ{H'} J=>by
  obtain ⟨dw,ta,fa,y,⟨ts,w2,w3⟩,⟨fs,w4,w5⟩⟩:=W0.same v;have wp:Q≠p:=λe=>by subst e;rw [Y] at y;cases y
  exact ⟨dw,ta,fa,J _ _ y wp,⟨ts,J _ _ w2 (A w2),dM w3 λq x4 e=>J _ _ e (N e)⟩,⟨fs,J _ _ w4 (A w4),dM w5 λq x4 e=>J _ _ e (N e)⟩⟩
 refine λi a=>(aa U ⟨Q,_,la,rT,rF,U,DS k3,X,λj S wK s4 FA=>(aa U (kO (s4 _ _ AB) T.cl T.nB (by show 2<1000;decide) (a _ _ ?_)))⟩);clear a i;have k4:bX p k (upd S p (.ins C c (aj "by_end" (.ref j) (aj "rule_waits" (.ref h) (aj "rule_ties" (.ref d) []))))):=λb o e g=>by rw [ah g];exact s4 _ _ (k3 _ _ e g)
 have wz:upd S p (.ins C c (aj "by_end" (.ref j) (aj "rule_waits" (.ref h) (aj "rule_ties" (.ref d) [])))) p=some (.ins C c (aj "by_end" (.ref j) (aj "rule_waits" (.ref h) (aj "rule_ties" (.ref d) [])))):=ai;have FR:lB (upd S p (.ins C c (aj "by_end" (.ref j) (aj "rule_waits" (.ref h) (aj "rule_ties" (.ref d) []))))) j (aQ rF):=by have hq:=s4 _ _ AB;obtain ⟨L,D,f2,f3,f4⟩:=FA.at_;refine ⟨L,by rw [ah (aI D hq nofun)];exact D,f2,f3,λe f G=>?_⟩;obtain ⟨q,O,m⟩:=f4 e f G;exact ⟨q,O,by rw [ah (aI m hq nofun)];exact m⟩
 generalize upd S p (.ins C c (aj "by_end" (.ref j) (aj "rule_waits" (.ref h) (aj "rule_ties" (.ref d) []))))=H5 at*;obtain ⟨dw,ta,fa,y,_,_⟩:=id (DS k4);refine λi a=>(aa U (fi y (DR _ _ _ _ (by decide+kernel) (by decide+kernel) (by decide+kernel) (by decide+kernel)) ⟨Q,n,la,rT,rF,U,DS k4,X,λl z how s6 hO=>(aa U (kO (s6 _ _ wz) T.cl T.nO (by show 3<1000;decide) (a _ _ ?_)))⟩));clear a i;rw [zBt] at hO;have L4:=s6 _ _ wz;have H:bX p k (upd z p (.ins C c (aj "own_moments" (.ref l) (aj "by_end" (.ref j) (aj "rule_waits" (.ref h) (aj "rule_ties" (.ref d) [])))))):=λb o e g=>by rw [ah g];exact s6 _ _ (k4 _ _ e g)
 have Kr:∀{b u},z b=some u->b≠p->upd z p (.ins C c (aj "own_moments" (.ref l) (aj "by_end" (.ref j) (aj "rule_waits" (.ref h) (aj "rule_ties" (.ref d) []))))) b=some u:=λe g=>by rw [ah g];exact e
 have Mj:=Kr hO (aI hO L4 nofun);obtain ⟨L,D,f2,f3,f4⟩:=(FR.same s6).at_;have V:=Kr D (aI D L4 nofun);have f47:∀(e:Nat) f,aQ rF e=some f->∃p',dJ L (.inl (e:Int))=some (.ref p')/\upd z p (.ins C c (aj "own_moments" (.ref l) (aj "by_end" (.ref j) (aj "rule_waits" (.ref h) (aj "rule_ties" (.ref d) []))))) p'=some (.tup [.int (f.1:Int),.int f.2.1,.int f.2.2]):=λe f G=>by obtain ⟨q,O,m⟩:=f4 e f G;exact ⟨q,O,Kr m (aI m L4 nofun)⟩
 have t:upd z p (.ins C c (aj "own_moments" (.ref l) (aj "by_end" (.ref j) (aj "rule_waits" (.ref h) (aj "rule_ties" (.ref d) []))))) p=some (.ins C c (aj "own_moments" (.ref l) (aj "by_end" (.ref j) (aj "rule_waits" (.ref h) (aj "rule_ties" (.ref d) []))))):=ai;generalize upd z p (.ins C c (aj "own_moments" (.ref l) (aj "by_end" (.ref j) (aj "rule_waits" (.ref h) (aj "rule_ties" (.ref d) [])))))=H7 at*;obtain ⟨dw,ta,fa,y,_,_⟩:=id (DS H);refine λi a=>⟨eH U,λl0 EM=>?_⟩;have B:=aV (o:=.lst [.aG]) EM;refine (aa U (cb (B _ _ y) TC.cl TC.nM (Cc _ _ _ _) ⟨l0,_,_,U,U,ai,by exact kW (n+Nat.succ 9223372036854775807),by lia,?_,λca E=>(aa U (kO (aV E _ _ (B _ _ t)) T.cl T.nC (by show 4<1000;decide) (a _ _ ?_)))⟩))
 ·show 1*((n:Nat):Int).toNat<=sizeLine;exact bf (fe (by lia))
 clear a i;have eca:=zBh (n:=n);rw [eca] at*;have s9:=B.trans (aV (o:=.lst ((List.replicate n (none:Option Int)).map ov)) E);have AR:upd (upd H7 l0 (.lst [.aG])) ca (.lst ((List.replicate n (none:Option Int)).map ov)) ca=some (.lst ((List.replicate n (none:Option Int)).map ov)):=ai;have Mb:x3 ca=none:=by
  cases x1:x3 ca with
  | none=>rfl
  | some u=>
   have h1:=v _ _ x1
   by_cases e:ca=p
   ·subst e;have:=B _ _ t;rw [E] at this;cases this
   ·have:=B _ _ (H _ _ h1 e);rw [E] at this;cases this
 generalize upd (upd H7 l0 (.lst [.aG])) ca (.lst ((List.replicate n (none:Option Int)).map ov))=H9 at*;have hp9:=s9 _ _ t;refine (aa U (kO ai T.cl T.nN (by show 5<1000;decide) ?_));rw [HU];have M:∀{b u},H7 b=some u->b≠p->upd H9 p (.ins C c (aj "now" (.int 0) (aj "came" (.ref ca) (aj "own_moments" (.ref l) (aj "by_end" (.ref j) (aj "rule_waits" (.ref h) (aj "rule_ties" (.ref d) []))))))) b=some u:=λe g=>by rw [ah g];exact s9 _ _ e
 have first:∀{b u},k b=some u->b≠p->upd H9 p (.ins C c (aj "now" (.int 0) (aj "came" (.ref ca) (aj "own_moments" (.ref l) (aj "by_end" (.ref j) (aj "rule_waits" (.ref h) (aj "rule_ties" (.ref d) []))))))) b=some u:=λe g=>M (H _ _ e g) g
 have KL:∀{b u},H7 b=some u->b≠ca:=λ{b u} e=>av (B _ _ e) E;refine x2 _ d h j l ca x5 MM ⟨⟨c,?_⟩,⟨ps,first s (A s),dM g3 λq x e=>first e (N e)⟩,⟨qs,first W (A W),dM g5 λq x e=>first e (N e)⟩,⟨L,.inl (M V (aI V t nofun)),f2,f3,λe f G=>?_⟩,M Mj (aI Mj t nofun),?_⟩ hL hM Mb ⟨L,M V (aI V t nofun)⟩ (KL (H _ _ s (A s))) (KL (H _ _ W (A W))) (KL Mj) (λb u e g=>first (v _ _ e) g)
 ·rw [ai]
  with_unfolding_all rfl
 ·obtain ⟨q,O,m⟩:=f47 e f G;exact ⟨q,O,M m (aI m t nofun)⟩
 ·rw [ah (aI AR hp9 nofun)];exact AR
end
structure tM (H:Hp) (wp ta fa:Addr) (n la:Int) (T F:List (List Int)):Prop where
 tup:H wp=some (.tup [.int n,.int la,.ref ta,.ref fa])
 t:fz H ta T
 f:fz H fa F
theorem tM.same (h:tM H wp ta fa n la T F) (k:a0 H H'):tM H' wp ta fa n la T F:=⟨k _ _ h.tup,h.t.same k,h.f.same k⟩
def Qv:Sp:=λm H Q _=>∃(h k j g d:Addr) (N:Nat) (e f:Int) (T F:List (List Int)) (b:List Int) (c:List (Option Int)),m=[.ref h,.ref g,.ref d,.int f]/\
 tM H h k j (N:Int) e T F/\dn (N:Int) e T F/\H g=some (.lst (c.map ov))/\c.length=N/\H d=some (.lst (b.map V.int))/\Cb F b/\
 ∀l a,H l=none->a0 H a->a l=some (.lst ((dj c f b F F.length).map λi:Nat=>V.int (i:Int)))->Q (.ref l) a
section
noncomputable abbrev nFn:List Str:=["_law_w","_law_times","_law_out","_law_now","_law_fallen_here","_law_k","_law_began"]
theorem DL:bR nFn Ă (aF fg):=cD
theorem nV (F0:Fn K mg "_law_fallen" fg Ă f fd) (lS:mg "range"=none) (hlen:mg "len"=none):
 aq P w K mg base aw 1 f fd Ă Qv:=by
 refine F0.F.cY DL λ_ x1 _ x5 H _ x4 x2 hr h=>?_;obtain ⟨wp,ta,fa,tl,Do,x3,la,g,rT,j,a,c,rfl,v,B,R,hc,eDo,ho,k⟩:=h;refine ⟨_,aR (cx 4 DL.nd (iW oS))
  (aR (iJ ja U (tW (by rfl) lS (aY (i7 vt (by rfl) hlen xj (aY (aE (pv 0)))))) (cf 5 DL.nd)
   (aR (cx 6 DL.nd (cV di (pv 1) (aE (cV di (aE (pv 0)) (pv 5)))))
   (au (dr (PW.pt (oT (cG tP (pv 6) iI) (oT (cG xG (cV di (pv 1) (aE (cV di (aE (pv 0)) (pv 5)))) iI) (ro (cG fy (pv 3) (cu i5 (pv 6) (cV di (pv 2) (pv 5))))))))
    (au (e_ (l9 md ma m_ lF (pv 4) (aY (aE (cV di (aE (pv 0)) (pv 5))))))) d8))))
  (au (cg (pv 4)))),?_⟩
 have n8:=B.n2;refine λN1 O=>⟨dZ _,λfl G=>O _ _ ?_⟩;clear O N1;have D:=aV (o:=.lst []) G;have Fb:upd H fl (.lst []) fl=some (.lst []):=ai;have X:∀{b u},H b=some u->b≠fl:=λe=>av e G;generalize upd H fl (.lst [])=H1 at*;obtain ⟨r,s⟩:=v.f;have y:r.length=j.length:=j8 s.2;have rows:∀{k:Nat} {row:List Int},j[k]?=some row->∃q,r[k]?=some q/\H q=some (.tup (row.map V.int)):=λ{k row} h=>by
  have z:=(eX.mp h).1;have W:k<r.length:=by rw [y];exact z
  obtain ⟨row',S,I⟩:=a9 s.2 (gI W);rw [h] at S;cases S;exact ⟨_,gI W,I⟩
 refine λN2 c2=>(aa U (aD (D _ _ v.tup) U ⟨fa,_,U,.inl (ar.of (D _ _ s.1)),_,U,by rw [az];exact kW (r.length+Nat.succ 4611686018427387903),by rw [az,y];have:=B.fl;lia,?_⟩));refine zX (n:=(((r.map V.ref).length:Nat):Int).toNat) (λk M N=>∃v7 v8:Option V,M=[some (.ref wp),some (.ref tl),some (.ref Do),some (.int g),some (.ref fl),v7,v8]/\
  N fl=some (.lst ((dj c g a j k).map λi:Nat=>V.int (i:Int)))/\∀b u,H1 b=some u->b≠fl->N b=some u) ⟨_,_,U,Fb,λb u e _=>e⟩ ?_ ?_
 ·rintro kk M E z ⟨v7,v8,rfl,m,p⟩;rw [l_,az] at z;have z1:(0:Int)+(kk:Int)=(kk:Int):=by lia
  rw [z1];have l:∀{b u},H b=some u->E b=some u:=λe=>p _ _ (D _ _ e) (X e);obtain ⟨row,C⟩:∃row,j[kk]?=some row:=⟨_,gI (C_ z y)⟩;obtain ⟨x,e1,l1',m1,er,Mg,Mf,T,he1,_⟩:=oR B C;subst er;obtain ⟨q,I,J⟩:=rows C;have F:ic (r.map V.ref) (kk:Int)=some (.ref q):=je (by rw [dA,I];rfl);have MZ:ic (c.map ov) x=some (ov (HD.cm c x.toNat)):=by
   have:=o8 (c:=c) (i:=x.toNat) (by lia)
   rwa [k_ Mg] at this
  have MY:ic (c.map ov) e1=some (ov (HD.cm c e1.toNat)):=by
   have:=o8 (c:=c) (i:=e1.toNat) (by lia)
   rwa [k_ (by exact fq T)] at this
  have oE:=ho.len;have ato:ic (a.map V.int) (kk:Int)=some (.int (a.getD kk 0)):=je (by
   rw [dA,qe,gI (show kk<a.length by lia)];rfl)
  have L:lu c g a j kk=false->dj c g a j (kk+1)=dj c g a j kk:=λh=>by rw [IE,if_neg (by rw [h];exact dX),lZ]
  have d:lu c g a j kk=((HD.cm c e1.toNat).isNone && match HD.cm c x.toNat with | some t=>decide (g=t+a.getD kk 0) | none=>false):=by
   unfold lu;rw [C]
   try rfl
  refine λN3 Q=>(aa U (aa U (aD (l v.tup) U (aa U (gQ (l s.1) F (aD (l J) U (gQ (l R) MZ (Q _ _ ?_))))))));clear Q N3;refine (aa U ⟨U,ct ?_⟩);rw [qw]
  cases uw:HD.cm c x.toNat with
  | none=>
   rw [uw] at d;have d:lu c g a j kk=false:=by rw [d];exact Bool.and_false _
   refine dk (dk ⟨_,_,U,?_,p⟩);rw [L d];exact m
  | some t=>
   rw [uw] at d;refine fv (aa U (aa U (aD (l v.tup) U (aa U (gQ (l s.1) F (aD (l J) U (gQ (l R) MY ⟨U,ct ?_⟩)))))));rw [qw]
   cases yy:HD.cm c e1.toNat with
   | some t'=>
    rw [yy] at d;refine dk (dk ⟨_,_,U,?_,p⟩);rw [L d];exact m
   | none=>
    rw [yy] at d;have d:lu c g a j kk=decide (g=t+a.getD kk 0):=d;refine fv (aa U (aa U (aa U (aa U (gQ (l eDo) ato (ri ⟨U,ct ?_⟩))))));rw [JW]
    by_cases A:g=t+a.getD kk 0
    ·rw [eO A] at d;have hs:dj c g a j (kk+1)=dj c g a j kk++[e1.toNat]:=by rw [IE,if_pos d,tR C]
     have e1n:((e1.toNat:Nat):Int)=e1:=k_ (by exact fq T);have flen:(dj c g a j kk).length<=kk:=by unfold dj;rw [az];exact cP (ou _ _) (qI uM)
     have:=B.fl;refine fu A ?_;refine (aa U ⟨.inl ⟨U,_,ar.of m⟩,aa U (aD (l v.tup) U (aa U (gQ (l s.1) F (aD (l J) U (kP m (by rw [az];exact fe (by lia)) ?_)))))⟩);refine ⟨_,_,U,?_,λb u e n=>?_⟩
     ·rw [ai,hs,dN,<-e1n];rfl
     ·rw [ah n];exact p _ _ e n
    ·rw [eE A] at d;refine gL A ⟨_,_,U,?_,p⟩;rw [L d];exact m
 rintro M E ⟨DU,DT,rfl,m,p⟩;rw [l_,az,y] at m;exact c2 _ _ (aa U (k fl E G (λb u e=>p _ _ (D _ _ e) (X e)) m))
end
def xq (a:dP) (fs:List Int):Prop:=¬tG a fs/\∀e∈fs,e.natAbs<128
section
variable {fs:List Int}
theorem Cj (h0:∀e∈fs,e.natAbs<128) (c:x.natAbs<128) (h:¬tx a x):xq a (fs++[x]):=by
 refine ⟨λt=>h (t.ok x (kY _ gw)),λe b=>?_⟩;rcases jj.mp b with b | b
 ·exact h0 e b
 ·rw [ig.mp b];exact c
theorem XI (h0:∀e∈fs,e.natAbs<128) (h:fs=x::r):xq a (fs++[x]):=by
 refine ⟨λt=>?_,λe b=>?_⟩
 ·have:=t.nd x (kY _ gw);rw [h,List.cons_append,List.count_cons_self,List.count_append,List.count_singleton_self] at this;omega
 ·rcases jj.mp b with b | b
  ·exact h0 e b
  ·rw [ig.mp b];exact h0 x (by rw [h];exact gw)
theorem zCn (h0:∀e∈fs,e.natAbs<128) (b:a.F e=some f) (c:HD.cm a.c e=none) (d:HD.cm a.c f.1=some t) (g:f.2.2<=a.now-t):xq a (fs.filter λo=> !decide (V.int o=V.int (e:Int))):=by refine ⟨λz=>?_,λx h=>h0 x (List.mem_filter.mp h).1⟩;have:=(List.mem_filter.mp (z.all e f t b c d g)).2;rw [eO rfl] at this;cases this
end
section
variable {a:dP} {N:Nat}
theorem HJ (c:dn (N:Int) la T F) (i:a.F=aQ F) (h:tx a x):0<x/\x<(N:Int):=by obtain ⟨k,f,t,rfl,b,_⟩:=h;rw [i] at b;obtain ⟨n,l,j,_,m,_⟩:=zL c b;obtain ⟨_,_,_,_,d,_,_,e,g,_⟩:=oR c j;cases d;exact ⟨e,g⟩
theorem Rr (f:dn (N:Int) la T F) (j:a.F=aQ F) (g:[b,e,l,m]∈F):∃k:Nat,e=(k:Int)/\a.F k=some (b.toNat,l,m):=by
 obtain ⟨i,n,c⟩:=xh g;have c:F[i]?=some [b,e,l,m]:=by rw [gI n,c]
 obtain ⟨_,_,_,_,h,_,_,d,_⟩:=oR f c;cases h;refine ⟨e.toNat,(k_ (fq d)).symm,?_⟩;rw [j];exact f.dW (by rw [k_ (fq d)];exact g)
theorem zBz (o:dn (N:Int) la T F) (j:a.F=aQ F) (p:[b,e,l,m]∈F) (h:∀t,HD.cm a.c b.toNat=some t->HD.cm a.c e.toNat=none->¬l<=a.now-t):¬tx a e:=by obtain ⟨k,rfl,n⟩:=Rr o j p;rintro ⟨q,f,t,z,c,d,g,i,_⟩;cases Int.ofNat_inj.mp z;rw [n] at c;cases c;exact h t g d i
end
theorem zCm:kG ((x::r).map V.int) none (some 1)=[V.int x]:=by unfold kG;rw [show (1:Int)=((1:Nat):Int) from rfl,fh,gE,List.drop_zero,Nat.sub_zero,<-List.take_eq_take_min];rfl
def ê (H:Hp) (a:dP) (c:Hp) (d:List Addr):Prop:=∀q∈d,c q=none/\∃b:List Int,H q=some (.lst (b.map V.int))/\xq a b
def Pq (K:aO):Sp:=λn H Q _=>∃(d j l m f k g:Addr) (N:Nat) (i:Int) (T F:List (List Int)) (a:dP) (c:List Int),n=[.ref d,.ref l,.ref k,.ref g,.int a.now]/\
 d7 K j H d/\tM H l m f (N:Int) i T F/\dn (N:Int) i T F/\H k=some (.lst (a.c.map ov))/\a.c.length=N/\H g=some (.lst (c.map V.int))/\c.length<=100/\(∀e∈c,e.natAbs<128)/\a.F=aQ F/\f≠d/\
 ∀q h b,H q=none->bX d H b->d7 K j b d->b q=some (.lst (h.map V.int))->xq a h->Q (.ref q) b
structure ng (H H':Hp) (a:dP) (ol:Addr) (qs:List Addr):Prop where
 at_:H' ol=some (.lst (qs.map V.ref))
 odd:ê H' a H qs
 same:a0 H H'
 ne:qs≠[]
 new:H ol=none
theorem ng.app (h:ng H H1 a ol qs) (s:a0 H1 C) (v:H1 p=none) (e:C p=some (.lst (fs.map V.int))) (n:xq a fs):
 ng H (upd C ol (.lst (qs.map V.ref++[V.ref p]))) a ol (qs++[p]):=by
 have t:=s _ _ h.at_;have k:∀{q:Addr} {d:List Int},C q=some (.lst (d.map V.int))->q≠ol:=λ{q d} f z=>by
  rw [z,t] at f
  cases c:qs with
  | nil=>exact h.ne c
  | cons x r=>
   rw [c] at f
   cases d with
   | nil=>cases f
   | cons g r=>cases f
 refine ⟨by rw [ai,dN];rfl,λq c=>?_,λb u j=>?_,λz=>h.ne (List.append_eq_nil_iff.mp z).1,h.new⟩
 ·rcases jj.mp c with c | c
  ·obtain ⟨m,d,l,o⟩:=h.odd q c;have i:=s _ _ l;exact ⟨m,d,by rw [ah (k i)];exact i,o⟩
  ·cases ig.mp c;exact ⟨h.same.free v,fs,by rw [ah (k e)];exact e,n⟩
 ·rw [ah (av j h.new)];exact s _ _ (h.same _ _ j)
theorem ng.mono (h:ng H H1 a ol qs) (s:a0 H1 C):ng H C a ol qs:=
 ⟨s _ _ h.at_,λq f=>by obtain ⟨d,c,b,e⟩:=h.odd q f;exact ⟨d,c,s _ _ b,e⟩,h.same.trans s,h.ne,h.new⟩
theorem ym (d:H fl=some (.lst (fs.map V.int))) (f:fs.length<=100) (k:∀p a,H p=none->a0 H a->a p=some (.lst ((fs++[x]).map V.int))->Q (.ref p) a):
 [V.int x].length<=sizeLine/\∀z,H z=none->Sx (.ref fl) (.ref z) (upd H z (.lst [V.int x])) Q:=by
 refine ⟨eH U,λz e=>?_⟩;have b:=aV (o:=.lst [V.int x]) e;refine ⟨fl,z,_,_,U,U,b _ _ d,ai,by rw [az];exact bf (fe (by show fs.length+1<=1000;omega)),λp c=>k p _ (b.free c) (b.trans (aV c)) ?_⟩;rw [ai,dN];rfl
section
noncomputable abbrev KN:List Str:=["_law_d","_law_w","_law_times","_law_fallen_here","_law_now","_law_odd","_law_one","_law_end","_law_least","_law_most","_law_began"]
theorem vE:bR KN qq (aF eT):=cD
theorem ZJ:hV (aF eT) KN (j4 [(".0",.local),("_law_other",.local),("_law_end",.free)]) ["_law_other","_law_end"] [none,some 7]:=j7
theorem ZW:(["_law_other","_law_end"]:List Str).Nodup:=by decide+kernel
theorem lJ (F0:Fn K mg "_law_wrong" eT qq f fd) (hlen:mg "len"=none)
 (FN:Fn K mg "_law_next" h_ iv fN kh) (GN:aq P w K mg base aw 1 fN kh iv (a8 K)):
 aq P w K mg base aw 2 f fd qq (Pq K):=by
 refine F0.F.cY vE λ_ rE _ x15 H _ x14 Ko hr x9=>?_;obtain ⟨d,sa,S,ta,fa,L,s,Tw,la,rT,rF,a,fs,rfl,D0,DA,x,yH,hc,C,D,G,W,EZ,m8⟩:=x9;have g_:cR 1 _:=hr.mono (by decide);refine ⟨_,aR (cx 5 vE.nd (iW (ia (cu tI (pv 3) (iW (aY a7))) (cu tI (pv 3) (iW (aY (aE (pv 1))))) (cu tI (pv 3) (iW (aY (uV uY a7)))))))
  (aR (dr (cG (Hv hr.units) (pv 3) (iW oS)) (au (e_ (l9 md ma m_ lF (pv 5) (aY (cu tI (pv 3) (xS Ph (pv 3) xM (xN a7))))))) d8)
  (aR (iJ ja U (gP (aE (pv 1)))
   (uX U (g9 (cf 6 vE.nd) (g9 (Pp (i:=7) vE.nd U (Or.inr U)) (g9 (cf 8 vE.nd) (g9 (cf 9 vE.nd) tQ)))))
   (aR (cx 10 vE.nd (cV di (pv 2) (pv 6)))
   (au (dr (PW.pt (o6 (cG xG (pv 10) iI) (o6 (cG tP (cV di (pv 2) (pv 7)) iI) (rf (cG tF (cu iH (pv 4) (pv 10)) (pv 8))))))
    (au (e_ (l9 md ma m_ lF (pv 5) (aY (cu tI (pv 3) (iW (aY (pv 7))))))))
    (au (dr (PW.pt (oT (xO Dk (pv 7) (pv 3) (by with_unfolding_all rfl)) (ro (cG fy (cu iH (pv 4) (pv 10)) (pv 9)))))
     (au (e_ (l9 md ma m_ lF (pv 5) (aY (oA U (gP (pv 3)) ZJ (λcl ex s0 H0=>⟨cf 0 ZW,oW (cG BS (pv 0) (pv 1)),pv 0⟩)))))) d8))))))
  (au (cg (cV di (pv 5) (cE GN g_ FN (bo (pv 0) (i7 vt (by rfl) hlen xj (aY (pv 5)))))))))),?_⟩
 have n8:=x.n2;refine λT B=>(aa U (ym C D λY H1 L6 y e1=>(aa U (aa U (aD (y _ _ DA.tup) U (ym (y _ _ C) D λZ H2 lT J e2=>(aa U ⟨_,U,ym (J _ _ (y _ _ C)) D λp3 H3 AB s3 e3=>⟨eH U,λk oE=>B _ _ ?_⟩⟩)))))));clear B T;have O1:ng H (upd H3 k (.lst [V.ref Y,V.ref Z,V.ref p3])) a k [Y,Z,p3]:=by
  have s4:=aV (o:=.lst [V.ref Y,V.ref Z,V.ref p3]) oE;refine ⟨ai,λx7 I=>?_,((y.trans J).trans s3).trans s4,nofun,((y.trans J).trans s3).free oE⟩;rcases f'.mp I with rfl | I
  ·exact ⟨L6,_,s4 _ _ (s3 _ _ (J _ _ e1)),Cj G (by decide) λz=>absurd (HJ x W z).1 (by decide)⟩
  rcases f'.mp I with rfl | I
  ·exact ⟨y.free lT,_,s4 _ _ (s3 _ _ e2),Cj G (by omega) λz=>absurd (HJ x W z).2 (Int.lt_irrefl _)⟩
  ·cases ig.mp I;exact ⟨(y.trans J).free AB,_,s4 _ _ e3,Cj G (by decide) λz=>absurd (HJ x W z).1 (by decide)⟩
 generalize upd H3 k (.lst [V.ref Y,V.ref Z,V.ref p3])=H4 at*;clear y J s3 e1 e2 e3 L6 lT AB oE H1 H2 H3;refine λT B=>(aa U ⟨dZ _,λz hz=>⟨s,z,fs,[],U,U,ar.of (aV hz _ _ (O1.same _ _ C)),ar.of ai,ct ?_⟩⟩);have A:=O1.mono (aV (o:=.lst []) hz);generalize upd H4 z (.lst [])=H5 at*
 suffices goal:∀m H6,ng H H6 a k m->m.length<=4->T (List.set (L2.gp KN [V.ref d,V.ref S,V.ref L,V.ref s,V.int a.now]) 5 (some (V.ref k))) H6 by
  cases oF:fs with
  | nil=>exact dk (goal _ _ A (show 3<=4 by decide))
  | cons x1 x6=>
   have LZ:kG (fs.map V.int) none (some 1)=[V.int x1]:=by rw [oF];exact zCm
   rw [<-oF];refine jM (by rw [oF];rfl) (aa U ⟨.inl ⟨U,_,ar.of A.at_⟩,aa U (aa U ⟨1,U,s,_,U,ar.of (A.same _ _ C),λp u=>?_⟩)⟩);rw [LZ];have s6:=aV (o:=.lst [V.int x1]) u;refine ⟨s,p,_,_,U,U,s6 _ _ (A.same _ _ C),ai,by rw [az];exact bf (fe (by show fs.length+1<=1000;omega)),λp' EI=>?_⟩;have s7:=s6.trans (aV (o:=.lst (fs.map V.int++[V.int x1])) EI);refine (kP (s7 _ _ A.at_) (by show 3<sizeLine;decide) (goal [Y,Z,p3,p'] _ (A.app s7 (s6.free EI) (fs:=fs++[x1]) (by rw [ai,dN];rfl) (XI G oF)) (show 4<=4 by decide)))
 intro m H6 O6 hq6;refine B _ _ ?_;clear B T O1 A hz H4 H5;obtain ⟨ps,x2⟩:=DA.f;have fl12:rF.length<=100:=by have:=x.fl;omega
 refine λT B=>(aa U (aD (O6.same _ _ DA.tup) U ⟨fa,U,⟨_,ar.of (O6.same _ _ x2.1)⟩,?_⟩));refine lD (K:=K) (a:=fa) (xs:=ps.map V.ref) (λi v H'=>∃N O Q R M m,v=[some (.ref d),some (.ref S),some (.ref L),some (.ref s),some (.int a.now),some (.ref k),N,O,Q,R,M]/\ng H H' a k m/\m.length<=4+i) ⟨none,none,none,none,none,m,U,O6,hq6⟩ ?_ ?_ ?_
 ·rintro i v E _ ⟨_,_,_,_,_,_,rfl,g,_⟩;exact ar.of (g.same _ _ x2.1)
 ·rintro i x1 v E hx ⟨N,O,Q,R,M,m,rfl,g,Vf⟩;obtain ⟨x7,row,rfl,I,lR,ux⟩:=x2.get hx;have hi:=(eX.mp lR).1;obtain ⟨b,e,x4,x5,er,Mg,Mf,he0,he1,_⟩:=oR x lR;subst er;have jY:=eR lR;obtain ⟨q,rfl,u1⟩:=Rr x W jY;have hk1:q<a.c.length:=by omega
  have MZ:ic (a.c.map ov) b=some (ov (HD.cm a.c b.toNat)):=by
   have:=o8 (c:=a.c) (i:=b.toNat) (by omega)
   rwa [k_ Mg] at this
  have MY:=o8 (c:=a.c) hk1;have MN:((q:Nat):Int).natAbs<128:=by omega
  have V8:=g.same _ _ yH;have F:=g.same _ _ C;have l7:(m.map V.ref).length<sizeLine:=by rw [az];exact fe (by omega)
  have more:∀{p:Addr} {fs':List Int} {h:Hp} {N O Q R M:Option V},ng H h a k (m++[p])->∃Kq DU DT Kp vG Ar,[some (V.ref d),some (.ref S),some (.ref L),some (.ref s),some (.int a.now),some (.ref k),N,O,Q,R,M]=[some (V.ref d),some (.ref S),some (.ref L),some (.ref s),some (.int a.now),some (.ref k),Kq,DU,DT,Kp,vG]/\ng H h a k Ar/\Ar.length<=4+(i+1):=λ{p fs' h N O Q R M} x8=>⟨_,_,_,_,_,_,U,x8,by rw [iD];show m.length+1<=_;omega⟩;refine ⟨x7,_,U,dB.of (g.same _ _ ux),U,_,_,U,_,_,U,_,_,U,_,_,U,U,?_⟩;refine λN2 c2=>(aa U (aa U (gQ V8 MZ (c2 _ _ ?_))));clear c2 N2;have app:(∀t,HD.cm a.c b.toNat=some t->HD.cm a.c ((q:Nat):Int).toNat=none->¬x4<=a.now-t)->∀p h,E p=none->a0 E h->h p=some (.lst ((fs++[((q:Nat):Int)]).map V.int))->ng H (upd h k (.lst (m.map V.ref++[V.ref p]))) a k (m++[p]):=λhn p h u l r=>g.app l u r (Cj G MN (zBz x W jY hn));refine (aa U ⟨U,ct ?_⟩);rw [qw]
  cases uw:HD.cm a.c b.toNat with
  | none=>exact fv (fv (aa U ⟨.inl ⟨U,_,ar.of g.at_⟩,aa U (aa U (ym F D λp h u l r=>(kP (l _ _ g.at_) l7 (more (fs':=[]) (app (λt z=>by rw [uw] at z;cases z) p h u l r)))))⟩))
  | some t=>
   refine dk (aa U (aa U (gQ V8 MY ⟨U,ct ?_⟩)));rw [qw]
   cases yy:HD.cm a.c q with
   | some t'=>exact fv (fv (aa U ⟨.inl ⟨U,_,ar.of g.at_⟩,aa U (aa U (ym F D λp h u l r=>(kP (l _ _ g.at_) l7 (more (fs':=[]) (app (λt _ z=>by rw [l_,yy] at z;cases z) p h u l r)))))⟩))
   | none=>
    refine dk (aa U (aa U (ri (aa U (ri (ct ?_))))))
    by_cases c3:a.now-t<x4
    ·exact fu c3 (aa U ⟨.inl ⟨U,_,ar.of g.at_⟩,aa U (aa U (ym F D λp h u l r=>(kP (l _ _ g.at_) l7 (more (fs':=[]) (app (λt1 z _=>by rw [uw] at z;cases z;omega) p h u l r)))))⟩)
    refine gL c3 (aa U (aa U ⟨s,_,U,.inl (ar.of F),U,R8,ct ?_⟩));have keep:∃Kq DU DT Kp vG Ar,[some (V.ref d),some (.ref S),some (.ref L),some (.ref s),some (.int a.now),some (.ref k),some (.int b),some (.int ((q:Nat):Int)),some (.int x4),some (.int x5),some (.int t)]=[some (V.ref d),some (.ref S),some (.ref L),some (.ref s),some (.int a.now),some (.ref k),Kq,DU,DT,Kp,vG]/\ng H E a k Ar/\Ar.length<=4+(i+1):=⟨_,_,_,_,_,_,U,g,by omega⟩
    by_cases sR:((q:Nat):Int)∈fs
    case neg=>exact gU (by show kR (V.int _) _=false;rw [rp,eE sR]) (dk keep)
    refine jM (by show kR (V.int _) _=true;rw [rp,eO sR]) (aa U (aa U (ri (aa U ⟨U,ct ?_⟩))));rw [JW]
    by_cases c4:a.now-t=x5
    case neg=>exact gL c4 keep
    refine fu c4 (aa U ⟨.inl ⟨U,_,ar.of g.at_⟩,aa U ⟨s,U,⟨_,ar.of F⟩,λDa jG=>?_⟩⟩);refine nt (K:=K) (a:=s) (xs:=fs.map V.int) (λj v H'=>∃x3,v=[x3,some (.int ((q:Nat):Int))]/\H' Da=some (.lst (((fs.take j).filter λo=> !decide (V.int o=V.int ((q:Nat):Int))).map V.int))/\a0 E H') ⟨none,U,ai,aV jG⟩ ?_ ?_ ?_
    ·rintro j v h _ ⟨x3,rfl,_,l⟩;exact ar.of (l _ _ F)
    ·rintro j x17 v h X ⟨x3,rfl,r,l⟩;rw [dA] at X
     cases A7:fs[j]? with
     | none=>rw [A7] at X;cases X
     | some o=>
      rw [A7] at X;cases X;have st:(fs.take (j+1)).filter (λo=> !decide (V.int o=V.int ((q:Nat):Int)))=(fs.take j).filter (λo=> !decide (V.int o=V.int ((q:Nat):Int)))++if (!decide (V.int o=V.int ((q:Nat):Int)))=true then [o] else []:=by rw [jb,A7,qO,Option.toList_some,List.filter_cons,Bw]
      refine (aa U (aa U ⟨U,ct ?_⟩))
      cases u:(!decide (V.int o=V.int ((q:Nat):Int))) with
      | true=>
       refine fv (aa U ⟨_,r,?_,_,U,?_,λb o e=>?_⟩)
       ·rw [az];have:=ou (λo=> !decide (V.int o=V.int ((q:Nat):Int))) (fs.take j);rw [hG] at this;exact fe (CZ this D)
       ·rw [ai,st,if_pos u,dN];rfl
       ·rw [ah (av e jG)];exact l _ _ e
      | false=>
       refine dk ⟨_,U,?_,l⟩;rw [st,if_neg (by rw [u];exact dX),lZ];exact r
    ·rintro v h ⟨x3,rfl,r,l⟩;rw [az,hH] at r;exact (kP (l _ _ g.at_) l7 (more (fs':=[]) (g.app l jG r (zCn G u1 yy uw (by show x5<=_;exact XB c4)))))
 ·rintro v E ⟨N,O,Q,R,M,m,rfl,g,Vf⟩;refine B _ _ ?_;rw [az,x2.len] at Vf;have D7:=D0.same g.same;obtain ⟨_,ER⟩:=D0.at_;have old:k≠d:=(av ER g.new).symm;have l0:0<m.length:=List.length_pos_iff.mpr g.ne;refine (aa U (aa U (aa U ⟨k,_,U,.inl (ar.of g.at_),iu D7 (by rw [az];omega) (λx6 h r0 r1 D8 k8=>?_)⟩)));rw [az] at r1;obtain ⟨n,rfl⟩:∃n:Nat,x6=n:=⟨x6.toNat,(k_ r0).symm⟩;have hn:n<m.length:=by omega
  obtain ⟨h0,fs',e7,hb⟩:=g.odd _ (xi hn);have qd:m[n]≠d:=(av ER h0).symm;exact (gQ (k8 _ _ g.at_ old) (je (by rw [dA,gI hn];rfl)) (m8 _ fs' h h0 (λb x16 e n=>k8 _ _ (g.same _ _ e) n) D8 (k8 _ _ e7 qd) hb))
end
end Y0
namespace L2
open PySem PySem.Spec PyProof.Rows
theorem Yr (s:a0 C H) (h:C a=none):a0 C (upd H a o):=λb u e=>by rw [ah (av e h)];exact s b u e
theorem ye {X:Cx} (j:X.K=K):oO X (.builtin "isinstance") (λxs H Q=>∃a C t e u c d b,xs=[.ref a,c]/\H a=some (.dh (cX C none t e) u)/\yj K C/\(∀f,bQ c f->f=d)/\W.kitOne K (.ref C) d=some b/\Q (.bl b) H):=by subst j;intro n s y H xs x Q I r h;obtain ⟨a,C,t,e,u,c,d,b,rfl,g,G,k,i,q⟩:=h;obtain ⟨p,v,rfl,l,m⟩:=Ki r;cases l;rw [k _ m];have J:W.InstAt s.heap a (cX C none t e) C none:=⟨(I.aA a _ g).1,U,U,trivial⟩;exact W.kia_one (WH G) I.fj J i nofun λo=>⟨.bl b,H,I.tok _,U,q⟩
theorem Xa:∀{x:V},gn x=true->lW x x=true
 | .aG,_=>rfl
 | .bl b,_=>(jI b:(b==b)=true)
 | .int i,_=>(jI i:(i==i)=true)
 | .str s,_=>(jI s:(s==s)=true)
 | .lY _,h=>by cases h
 | .wO _,h=>by cases h
 | .ref _,h=>by cases h
 | .ty _,h=>by cases h
theorem YX (h:xs.all gn=true):uP xs xs=true:=by unfold uP;rw [mY];intro j a;have a:=kD.mp a;refine Xa (xP h (j:=j) ?_);rw [qe,gI a];rfl
theorem CJ:∀{bs:List Bool},(bs.map V.bl).all gn=true
 | []=>rfl
 | b::r=>by rw [eN,yO,CJ (bs:=r)];rfl
end L2
namespace Y0
open PySem L2
seal kT i6 iA gd hQ il i9 i8 gm a8
structure xl (K:aO) (mg:Str->Option Value) (C:Addr) (b1 b2 b3 b4 b5:Bool):Prop where
 yu:mg "isinstance"=none
 ve:mg "ValueError"=none
 g:yj K C
 k1:∃c,mg "BadWeb"=some (.ref c)/\W.kitOne K (.ref C) (.ref c)=some b1
 k2:∃c,mg "NoTimes"=some (.ref c)/\W.kitOne K (.ref C) (.ref c)=some b2
 k3:∃c,mg "NoHand"=some (.ref c)/\W.kitOne K (.ref C) (.ref c)=some b3
 k4:∃c,mg "BadFall"=some (.ref c)/\W.kitOne K (.ref C) (.ref c)=some b4
 k5:∃c,mg "BadText"=some (.ref c)/\W.kitOne K (.ref C) (.ref c)=some b5
 kv:W.kitOne K (.ref C) (.type "ValueError")=some true
abbrev rg:List Str:=["web","times","hand","fall","text"]
def SH (C:Addr) (wd:Str):Sp:=λd H Q _=>∃a t c u,d=[.ref a,.str wd]/\H a=some (.dh (cX C none t c) u)/\∀b,a0 H b->Q (.bl true) b
section
noncomputable abbrev UH:List Str:=["_law_e","_law_word","_law_kinds","_law_words"]
theorem JZ:bR UH Ĕ (aF jT):=cD
theorem ZC:hV (aF jT) UH (j4 [(".0",.local),("_law_one",.local),("_law_word",.free)]) ["_law_one","_law_word"] [none,some 1]:=j7
theorem ZP:(["_law_one","_law_word"]:List Str).Nodup:=by decide+kernel
theorem Au {f C:Addr} {r:FuncData} {b1 b2 b3 b4 b5:Bool} {wd:Str} (F:Fn K mg "_law_is" jT Ĕ f r) (T:xl K mg C b1 b2 b3 b4 b5) (hw:[b1,b2,b3,b4,b5]=rg.map λo=>decide (V.str wd=V.str o)):
 xt P w K mg base aw 1 f r Ĕ (SH C wd):=by
 obtain ⟨G,m1,q1⟩:=T.k1;obtain ⟨L,m2,q2⟩:=T.k2;obtain ⟨M,m3,q3⟩:=T.k3;obtain ⟨N,m4,q4⟩:=T.k4;obtain ⟨O,m5,q5⟩:=T.k5;refine F.F.okH JZ (λvs H Q E h=>?_) (λMP x2 outer x4 H vs Q E Y X h=>?_)
 ·obtain ⟨a,_,_,_,rfl,_⟩:=h;rfl
 ·obtain ⟨a,t,g,u,rfl,b,x1⟩:=h;refine ⟨_,cv (cx 2 JZ.nd (iW
   (oU (i7 (ye (K:=K) U) (by rfl) T.yu (by decide+kernel) (bo (pv 0) (oV (v:=.ref G) U m1 U)))
   (oU (i7 (ye (K:=K) U) (by rfl) T.yu (by decide+kernel) (bo (pv 0) (oV (v:=.ref L) U m2 U)))
   (oU (i7 (ye (K:=K) U) (by rfl) T.yu (by decide+kernel) (bo (pv 0) (oV (v:=.ref M) U m3 U)))
   (aY (i7 (ye (K:=K) U) (by rfl) T.yu (by decide+kernel) (bo (pv 0) (oV (v:=.ref N) U m4 U)))))))))
   (cv (e_ (l9 md ma m_ lF (pv 2) (aY (i7 (ye (K:=K) U) (by rfl) T.yu (by decide+kernel) (bo (pv 0) (oV (v:=.ref O) U m5 U))))))
   (cv (cx 3 JZ.nd (iW (oU dY (kQ dY dY dY dY))))
   (au (cg (qZ (i7 (ye (K:=K) U) (by rfl) T.yu (by decide+kernel) (bo (pv 0) (zBr (v:=.ty "ValueError") U T.ve (by decide+kernel) U)))
    (q_ (jJ (ϻ (K:=K) U Y.units) (pv 2) (PV (.inr X) (gP (pv 3)) ZC (λcl ex s0 H0 _=>⟨cf 0 ZP,rq,Cq fy (pv 1) (pv 0) (Ht _)⟩))))))))),?_⟩
  refine (aa U ⟨a,C,t,g,u,_,_,_,U,b,T.g,(λ_ z=>z),q1,?_⟩);refine (aa U ⟨a,C,t,g,u,_,_,_,U,b,T.g,(λ_ z=>z),q2,?_⟩);refine (aa U ⟨a,C,t,g,u,_,_,_,U,b,T.g,(λ_ z=>z),q3,?_⟩);refine (aa U ⟨a,C,t,g,u,_,_,_,U,b,T.g,(λ_ z=>z),q4,eH U,λc x=>?_⟩);have A:=aV (o:=.lst [V.bl b1,V.bl b2,V.bl b3,V.bl b4]) x;refine (aa U ⟨.inl ⟨U,_,ar.of ai⟩,aa U ⟨a,C,t,g,u,_,_,_,U,A _ _ b,T.g,(λ_ z=>z),q5,kP ai (by show 4<sizeLine;decide) ?_⟩⟩);have s2:=Yr (o:=.lst ([V.bl b1,V.bl b2,V.bl b3,V.bl b4]++[V.bl b5])) A x;have R:upd (upd H c (.lst [V.bl b1,V.bl b2,V.bl b3,V.bl b4])) c (.lst ([V.bl b1,V.bl b2,V.bl b3,V.bl b4]++[V.bl b5])) c=some (.lst ([b1,b2,b3,b4,b5].map V.bl)):=ai;generalize upd (upd H c (.lst [V.bl b1,V.bl b2,V.bl b3,V.bl b4])) c (.lst ([V.bl b1,V.bl b2,V.bl b3,V.bl b4]++[V.bl b5]))=I at*;refine ⟨eH U,λk y=>?_⟩;have B:a0 H (upd I k (.lst [V.str "web",V.str "times",V.str "hand",V.str "fall",V.str "text"])):=s2.trans (aV y);have S:=aV (o:=.lst [V.str "web",V.str "times",V.str "hand",V.str "fall",V.str "text"]) y _ _ R;have D:upd I k (.lst [V.str "web",V.str "times",V.str "hand",V.str "fall",V.str "text"]) k=some (.lst (rg.map V.str)):=ai;generalize upd I k (.lst [V.str "web",V.str "times",V.str "hand",V.str "fall",V.str "text"])=H3 at*;refine (aa U ⟨a,C,t,g,u,_,_,_,U,B _ _ b,T.g,(λ_ z=>z),T.kv,_,U,fv ?_⟩);refine (aa U (aa U ⟨k,U,⟨_,ar.of D⟩,λn s=>?_⟩));refine nt (xs:=rg.map V.str) (λj m p=>∃v,m=[v,some (.str wd)]/\p n=some (.lst (((rg.take j).map λo=>decide (V.str wd=V.str o)).map V.bl))/\a0 H3 p) ⟨none,U,ai,aV s⟩ ?_ ?_ ?_
  ·rintro j m q _ ⟨v,rfl,_,d⟩;exact ar.of (d _ _ D)
  ·rintro j x5 m q i ⟨v,rfl,l,d⟩;rw [dA] at i
   cases J:rg[j]? with
   | none=>rw [J] at i;cases i
   | some o=>
    rw [J] at i;cases i;refine (aa U (aa U ⟨U,_,l,?_,_,U,?_,λx3 o' e=>?_⟩))
    ·rw [az,az,hG];exact fe (by have:rg.length=5:=U;omega)
    ·rw [ai,jb,J,dN,dN];rfl
    ·rw [ah (av e s)];exact d _ _ e
  ·rintro m q ⟨v,rfl,l,d⟩;have W:rg.take (rg.map V.str).length=rg:=by rw [az];exact hH
   rw [W,<-hw] at l;exact ⟨c,n,_,_,U,U,ar.of (d _ _ S),ar.of l,CJ,CJ,U,nq (x1 _ (B.trans d)) (YX CJ).symm⟩
end
end Y0
namespace L2
open PySem PySem.Spec PyProof.Rows
theorem Yv (m:X.prog=P) (hw:X.w=w) (h:∀C dx c d,c.length=X.N.length->E (.ref C) dx d->Ex C dx c d):kK (hI P w) (uS X pins Ex) E:=by subst m hw;intro s c g r e s' I p;obtain ⟨a,C,dx,d,rfl,q,j,f,n,k,l⟩:=p;have i:=I.ko (s':=s') (ch:=[]) q f n j (λb z=>absurd z (by simp));exact ⟨a,C,dx,c,d,c,g,r,U,I.eG,i.eG,λb o e=>f.there b o e (by simp),k,h _ _ _ _ I.eG.len l⟩
end L2
namespace Y0
open PySem L2
seal kT i6 iA gd hQ il i9 i8 gm a8
theorem FB.same (h:FB a H H1) (s:a0 H1 H2):FB a H H2:=⟨λb u e n=>s _ _ (h.1 b u e n),λc e=>by
 rcases h.2 c e with z | ⟨o,z⟩
 ·exact .inl (s _ _ z)
 ·exact .inr ⟨o,s _ _ z⟩⟩
def Sa (d:Addr):Sp:=λf H Q _=>∃(a:dP) (q:Addr) (c:List Int),f=[.ref a.p,.ref q]/\a.At d H/\dq a/\xo a/\H q=some (.lst (c.map V.int))/\q≠a.ca/\xq a c/\(∃e,H a.be=some (.dK e))/\a.lt≠a.ca/\a.lw≠a.ca/\a.ow≠a.ca/\∀b,FB a H b->Q (.bl true) b
section
theorem SF:bR ["_law_hand","_law_fallen_here","_law_e"] ĉ (aF eo):=cD
theorem ju (F:Fn K mg "_law_refused" eo ĉ f fd) (A:mj K mg I)
 (mgM:mg "MomentError"=some (.ref J)) (D:W.exmOne K (.ref CB) (.ref J)=some true)
 (V:fV K I "goes" fG) (B:dm K EY Ć []) (x:aq P w K mg base (hI P w) 4 fG EY Ć (HS I CB))
 (j:Fn K mg "_law_is" jT Ĕ fIs ME) (y:xt P w K mg base aw 1 fIs ME Ĕ (SH CB "fall")):
 aq P w K mg base aw 5 f fd ĉ (Sa I):=by
 refine F.F.cY SF λ_ x2 _ x4 H _ x3 E r h=>?_;obtain ⟨a,x1,G,rfl,n,Q,O,S,KA,p,M,n1,n2,n3,k⟩:=h;have s:cR 1 _:=r.mono (by decide);have T:cR 4 _:=r.mono (by decide);refine ⟨_,cv (zBj (i:=2) (Cn:=J) (Ex:=λC d v c=>v.length=3/\C=CB/\d=none/\FB a H c) U U SF.nd U U U mgM
  (λpins=>au (e_ (gq (pv 0) A.cl V x T B .nil (Yv (E:=λC d c=>C=.ref CB/\d=none/\FB a H c) U U (λC d v c m q=>⟨m,Fp q.1,q.2⟩)) (aY (pv 1)))))
  (λb=>au (cg (WW U y ⟨s.dp,s.un⟩ U j.g j.F.kp j.b .nil dR (bo (pv 2) dY)))))
  (au Xy),?_⟩
 obtain ⟨d,R⟩:=n.ins;refine ⟨(aa U (fi R (by with_unfolding_all rfl) (aa U ⟨a,x1,G,U,n,Q,O,S,KA,p.2,M,n1,n2,n3,λtell=>absurd tell p.1,λno c l=>⟨U,U,l⟩⟩))),λg Fd gK c L=>?_⟩;obtain ⟨m,rfl,rfl,l⟩:=L;refine ⟨D,λb t e N=>?_⟩;have se:=aV (o:=t_ b g none t e) N;have u:upd c b (t_ b g none t e) b=some (t_ b g none t e):=ai;generalize upd c b (t_ b g none t e)=H8 at*;exact (aa (FL (by rw [m];decide)) ⟨⟨_,_,_,_,_,u⟩,b,t,e,_,U,u,λz s9=>k z ((l.same se).same s9)⟩)
end
end Y0
namespace L2
open PySem PySem.Spec PyProof.Rows
theorem zD8:eP X (compareOp .Is) (λx y H Q=>∃b a,x=.bl b/\y=.bl a/\Q (.bl (b==a)) H):=by intro e s f H x y v u Q I c d h;obtain ⟨b,a,rfl,rfl,q⟩:=h;cases c;cases d;refine wpAny_is_plain (by cases b<;>cases a<;>rfl) (f7 I q ?_);cases b<;>cases a<;>rfl
theorem Pm (i:X.A.units+64<cLine):eP X (compareOp .NotEq) (λx y H Q=>∃(p q:Addr) (xs:List V),x=.ref p/\y=.ref q/\H p=some (.lst xs)/\H q=some (.lst xs)/\xs.all gn=true/\Q (.bl false) H):=by intro r s A H x y v u Q I m n h;obtain ⟨p,q,xs,rfl,rfl,c,d,f,g⟩:=h;cases m;cases n;obtain ⟨t,a,k,_⟩:=I.list (ar.of c);obtain ⟨z,b,l,_⟩:=I.list (ar.of d);have j:=a.length;have o:=b.length;refine SeqAt.RcNeAt.lists k.isList l.isList (by rw [f_,f_];lia) (IP i) (HL a b f f) _ _ _ _ ⟨.bl _,H,I,U,?_⟩;rw [f_,<-j];have e:uP xs xs=true:=YW f;unfold uP at e;rw [e];exact g
def ϵ (c:Hp) (t:TE):TE:=λd H Q=>t d H λx b=>∃a u,Rd b a u/\(∀o u,c a≠some (.dh o u))/\Q x (upd b a u)
theorem W' (g:PE X e t):PE X e (ϵ X.gk t):=by
 intro i s l H Q I h;refine ax (g i s l H _ I h) λv n k=>?_;obtain ⟨x,m,c,d,j⟩:=k;obtain ⟨a,u,b,f,q⟩:=j;rcases b with b | ⟨o,b⟩
 ·rw [O7 b] at q;exact ⟨x,_,c,d,q⟩
 ·exact ⟨x,_,c.rM b f,d,q⟩
end L2
namespace Y0
open PySem L2
seal PE PA PT PS eS PG me PI PO
seal kT i6 iA gd hQ il i9 i8 gm a8
theorem HN {c:List (Option Int)}:(c.map ov).all gn=true:=by rw [yM];exact mY.mpr λx _=>by cases x<;>rfl
theorem YD (b:∀x,x∈T↔x∈I) (d:∀x,x∈M↔x∈C):HD.step T M F c now=HD.step I C F c now:=by
 funext l
 unfold HD.step;refine congrArg (λp=>l.filter p) (funext λm=>Bu.mpr ?_);rw [CM,CM];exact ⟨λh=>⟨λx a=>h.1 x ((b x).mpr a),λx a=>h.2 x ((d x).mpr a)⟩,λh=>⟨λx a=>h.1 x ((b x).mp a),λx a=>h.2 x ((d x).mp a)⟩⟩
theorem Qf (h:jB st t L) (h':jB st t L') (x:iU):x∈L↔x∈L':=(h.has x.1 x.2.1 x.2.2).trans (h'.has x.1 x.2.1 x.2.2).symm
theorem Xc {L a:List iU} {p:iU->Bool} (h:∀x,x∈L↔x∈a) (x:iU):x∈L.filter p↔x∈a.filter p:=by rw [List.mem_filter,List.mem_filter,h x]
theorem RU {C j c:Addr} {H H':Hp} {a:dP} (h:a.At C H) (g:∃dx fs,H j=some (.ins C dx fs)) (d:∃xs,H c=some (.lst xs)) (F:a.p≠j) (A:a.lt≠c) (B:a.lw≠c) (D:a.ow≠c) (E:a.ca≠c) (k:Ke j c H H'):a.At C H':=by
 obtain ⟨⟨dx,m⟩,⟨G,p,s⟩,⟨L,t,u⟩,⟨z,b,M,N,O⟩,v,x⟩:=h;obtain ⟨_,_,g⟩:=g;obtain ⟨_,d⟩:=d;have l:∀{q xs},H q=some (.tup xs)->H' q=some (.tup xs):=λe=>k _ _ e (aI e g nofun) (aI e d nofun);have i:∀{q xs},H q=some (.lst xs)->q≠c->H' q=some (.lst xs):=λe n=>k _ _ e (aI e g nofun) n;refine ⟨⟨dx,k _ _ m F (aI m d nofun)⟩,⟨G,i p A,dM s λq r e=>l e⟩,⟨L,i t B,dM u λq r e=>l e⟩,⟨z,?_,M,N,λe f y=>?_⟩,i v D,i x E⟩
 ·rcases b with b | ⟨o,b⟩
  ·exact .inl (k _ _ b (aI b g nofun) (aI b d nofun))
  ·exact .inr ⟨o,k _ _ b (aI b g nofun) (aI b d nofun)⟩
 ·obtain ⟨q,I,J⟩:=O e f y;exact ⟨q,I,l J⟩
theorem FB.rM (h:FB a H H') (e:H a.be=some (.dK kvs)):a0 H (upd H' a.be (.dK kvs)):=λb u d=>by
 by_cases c:b=a.be
 ·subst c;rw [e] at d;cases d;exact ai
 ·rw [ah c];exact h.1 b u d c
def OI (C:Addr):Sp:=λb H Q _=>∃a:dP,b=[.ref a.p]/\a.At C H/\(∀y<a.c.length,HD.cm a.c y≠none)/\Q (.bl true) H
section
theorem å:bR xv xv (aF da):=cD
theorem ϥ (h:∀y<c.length,HD.cm c y≠none):kR .aG (c.map ov)=false:=by
 unfold kR;rw [List.any_eq_false];intro x d;obtain ⟨o,b,rfl⟩:=fY.mp d;obtain ⟨i,a,e⟩:=xh b;have:=h i a;unfold HD.cm at this;rw [gI a,e] at this
 cases o with
 | none=>exact absurd U this
 | some v=>exact dX
theorem nK (F:dO K "is_over" "Hand.is_over" da f fd) (T:mj K mg C):aq P w K mg base aw 1 f fd xv (OI C):=by refine F.cY å λ_ A _ s H _ Q E g h=>?_;obtain ⟨a,rfl,b,c,k⟩:=h;refine ⟨_,au (cg (Cq JM iI (cI (pv 0) U) (by with_unfolding_all rfl))),?_⟩;obtain ⟨e,d⟩:=b.ins;refine (aa U (cb d T.cl T.nC n_ ⟨a.ca,_,U,.inl (ar.of b.cU),U,HN,nq k ?_⟩));show true= !kR .aG _;rw [ϥ c];rfl
end
abbrev Ah (st:MU.St) (a b:Nat):Option Int:=val st (true,a,b)
abbrev Kj (st:MU.St) (a b:Nat):Option Int:=val st (false,a,b)
section
variable {n:Nat}
theorem í (a:dn (n:Int) la T F) (b:zi n (aQ F) (mu n la T F) Te) (c:(gO n la T F Te).bar=none):HK.Cl (aQ F) (Ah (gO n la T F Te)) (Kj (gO n la T F Te)):=
 MU.Fin.cl (D:=λx=>x∈(jC (n:Int) la T F).map iF) ⟨a.oG,(Dj a).good,λt d=>(b.first t d).1,b.end_.elim id λz=>absurd c z⟩ c (MU.Rt (MU.Sb _ _ MU.Zd λ_ h=>h) Te) λx e=>(xy a.lQ x e).2.2
theorem RL (j:dn (n:Int) la T F) (h:r∈jC (n:Int) la T F):∃z,Ah (gO n la T F Te) (iF r).a (iF r).b=some z/\z<=(iF r).v:=by
 obtain ⟨a,b,v,rfl,k,l,m,o,p⟩:=j.lQ r h;have f:a.toNat≠b.toNat:=by lia
 obtain ⟨u,g,c⟩:=DF _ empty _ (fY.mpr ⟨_,h,U⟩) (show (iF [a,b,v]).a≠(iF [a,b,v]).b from f);obtain ⟨e,i,d⟩:=(MU.rx (n:=n) (F:=aQ F) (s:=mu n la T F) (dZ Te)).2 (true,a.toNat,b.toNat) u f g;refine ⟨e,i,?_⟩;unfold ed at c d;have c:¬if true=true then v<u else u<v:=c;have d:¬if true=true then u<e else e<u:=d;rw [if_pos rfl] at c d;show e<=v;lia
theorem zAo (d:dn (n:Int) la T F) (s:(gO n la T F Te).bar=none):HK.Zero (aQ F) (Ah (gO n la T F Te)) n la:=by
 have u:=d.n1;have p:bV n (gO n la T F Te):=vi d.oG (Dj d).good Te;have room:∀{y:Nat},y<n->y≠0->[0,(y:Int),la]∈jC (n:Int) la T F/\[(y:Int),0,0]∈jC (n:Int) la T F:=λ{y} e c=>by obtain ⟨j,o⟩:=I1 (la:=la) (i:=y-1) (k:=((n:Int)-1).toNat) (Xs e c);rw [show ((y-1:Nat):Int)+1=(y:Int) by exact XU c] at j o;exact ⟨lg _ (lg _ j),lg _ (lg _ o)⟩
 refine ⟨JK λr t z=>?_,by lia,λ{a b v} h=>(MU.qz p s h).2,λ{y} e c=>?_,λ{y} e c=>?_⟩
 ·obtain ⟨a,b,l,m,rfl,_,_,q,_⟩:=d.f r t;have z:some b=some ((0:Nat):Int):=z;cases z;exact absurd q (by exact Int.not_lt.mpr (kE ↑0))
 ·obtain ⟨z,f,g⟩:=RL (Te:=Te) d (room e c).2;exact ⟨z,f,g⟩
 ·obtain ⟨z,f,g⟩:=RL (Te:=Te) d (room e c).1;exact ⟨z,f,g⟩
end
def uh (K:aO):Sp:=λd H Q _=>∃a c,d=[.ref a]/\oQ K H a c/\∀b,Q (.bl true) b
theorem Pt (h:HH a fn):tG a (fn.map λi:Nat=>(i:Int)):=by
 refine ⟨λe _=>?_,λe l=>?_,λe f t b c d g=>BB (h.all e f t b c d g)⟩
 ·have b:(fn.map λi:Nat=>(i:Int)).Nodup:=by
   unfold List.Nodup;rw [tm];exact h.nd.imp λh z=>h (by omega)
  exact List.nodup_iff_count.mp b e
 ·obtain ⟨k,m,rfl⟩:=fY.mp l;obtain ⟨f,t,b,c,d,g,j⟩:=h.ok k m;exact ⟨k,f,t,U,b,c,d,g,j⟩
theorem QS {H:Hp} {b ca:Addr} {d:List Addr} {c:List (Option Int)} (a:H b=some (.lst (d.map V.ref))) (e:H ca=some (.lst (c.map ov))) (f:c≠[]):b≠ca:=λz=>by
 rw [z,e] at a
 cases c with
 | nil=>exact f U
 | cons o r=>
  cases d with
  | nil=>cases a
  | cons p r=>cases o<;>cases a
theorem Yu {H:Hp} {b ca:Addr} {ns:List Nat} {N:Nat} (a:H b=some (.lst (ns.map λi:Nat=>V.int (i:Int)))) (c:H ca=some (.lst ((List.replicate (N+1) (none:Option Int)).map ov))):b≠ca:=λz=>by
 rw [z,c,uK] at a
 cases ns with
 | nil=>cases a
 | cons p r=>cases a
theorem HZ:∀{l m:List Nat},(l.map λi:Nat=>(i:Int))=(m.map λi:Nat=>(i:Int))->l=m
 | [],[],_=>rfl
 | [],_::_,h=>by cases h
 | _::_,[],h=>by cases h
 | x::l,y::m,h=>by rw [eN,eN] at h;obtain ⟨a,b⟩:=List.cons.inj h;rw [HZ b,Int.ofNat_inj.mp a]
theorem d7.uq (x:d7 K sa H d) (a:H y=some (.ins C dx fs)) (b:H ca=some (.lst xs)) (n:d≠ca) (k:Ke y ca H H'):d7 K sa H' d:=by
 obtain ⟨⟨p,h⟩,⟨c,r⟩⟩:=x;refine ⟨⟨p,k _ _ h (aI h a nofun) n⟩,⟨c,?_⟩⟩;rcases r with ⟨o,r⟩ | r
 ·exact .inl ⟨o,k _ _ r (aI r a nofun) (aI r b nofun)⟩
 ·exact .inr r
section
noncomputable abbrev UJ:List Str:=["_law_script","_law_d","_law_w","_law_web_here","_law_hands","_law_out","_law_now","_law_times","_law_fallen_here","_law_wrong_here"]
theorem qo:bR UJ ħ (aF rO):=cD
theorem Z8:hV (aF rO) UJ (j4 [(".0",.local),("_law_fall",.local),("_law_next",.globalImplicit),("_law_d",.free)]) ["_law_fall","_law_d"] [none,some 1]:=j7
theorem ZL:(["_law_fall","_law_d"]:List Str).Nodup:=by decide+kernel
theorem vX {f C g CN CB fW fI fH fN fT fG fO fF fX fR:Addr} {fd yE wU V7 kh mS EY EX sV V6 EW:FuncData} (Fn0:Fn K mg "law" rO ħ f fd) (lS:mg "range"=none) (uy:mg "list"=none) (TC:o1 K mg C) (TH:mj K mg g) (gH:mg "Hand"=some (.ref g)) (gN:mg "NoHand"=some (.ref CN)) (MI:PySem.W.exmOne K (.ref CN) (.ref CN)=some true)
 (FW:Fn K mg "_law_web" pz Ā fW yE) (GW:aq P w K mg base aw 3 fW yE Ā (Tb K))
 (M:Mk K C fI) (bI:dm K wU Ą []) (GI:aq P w K mg base aw 3 fI wU Ą (OC C))
 (MH:Mk K g fH) (bH:dm K V7 đ []) (GH:aq P w K mg base (hI P w) 7 fH V7 đ (Qw g C CN))
 (FN:Fn K mg "_law_next" h_ iv fN kh) (GN:aq P w K mg base aw 1 fN kh iv (a8 K))
 (mT:fV K g "times" fT) (bT:dm K mS xv []) (GT:aq P w K mg base aw 1 fT mS xv (P7 g))
 (mO:fV K g "is_over" fO) (bO:dm K EX xv []) (GO:aq P w K mg base aw 1 fO EX xv (OI g))
 (mG:fV K g "goes" fG) (bG:dm K EY Ć []) (GG:aq P w K mg base (hI P w) 4 fG EY Ć (HS g CB))
 (FF:Fn K mg "_law_fallen" fg Ă fF sV) (GF:aq P w K mg base aw 1 fF sV Ă Qv)
 (FX:Fn K mg "_law_wrong" eT qq fX V6) (GX:aq P w K mg base aw 2 fX V6 qq (Pq K))
 (FR:Fn K mg "_law_refused" eo ĉ fR EW) (GR:aq P w K mg base aw 5 fR EW ĉ (Sa g)):
 aq P w K mg base aw 9 f fd ħ (uh K):=by
 refine Fn0.F.cY qo λ_ x9 _ rE x3 _ m8 E B h=>?_;obtain ⟨a,ns,rfl,hS0,k⟩:=h;have g_:cR 1 _:=B.mono (by decide);have sN:cR 2 _:=B.mono (by decide);have Lu:cR 3 _:=B.mono (by decide);have Ls:cR 4 _:=B.mono (by decide);have hr5:cR 5 _:=B.mono (by decide);have Vc:cR 8 _:=B.mono (by decide);refine ⟨_,aR (ra (i:=1) qo.nd U (Or.inr U) (iW (bo (pv 0) a7)))
  (aR (cx 2 qo.nd (cE GW Lu FW (kQ (pv 1) a7 a7 a7)))
  (aR (cx 3 qo.nd (Cr M GI Ls U TC.qF bI .nil dR (kQ (aE (pv 2)) (aE (pv 2)) (aE (pv 2)) (aE (pv 2)))))
  (aR (zD2 (Cn:=CN) (Ex:=λC _ _ _=>C=CN) U U U gN
   (λpins=>au (cx 4 qo.nd (iW (bo (Cr MH GH Vc U gH bH .nil (PU (E:=λC _ _=>C=.ref CN) U U λC X σ G he=>Fp he) (aY (pv 3))) (Cr MH GH Vc U gH bH .nil (PU (E:=λC _ _=>C=.ref CN) U U λC X σ G he=>Fp he) (aY (pv 3)))))))
   (λe=>au (cg uU)))
  (aR (vd (i:=5) qo.nd U U U (gP (aE (pv 2))) Z8 (λcl ex s0 H0=>⟨cf 0 ZL,rq,cu i5 (aE (pv 0)) (cE GN g_ FN (bo (pv 1) (cu i5 (cu iH (aE (pv 0)) (aE (pv 0))) a7)))⟩))
  (aR (iJ ja U (tW (by rfl) lS (aY (cu i5 (aE (pv 2)) a7))) (cf 6 qo.nd)
   (aR (cx 7 qo.nd (oX (cV di (pv 4) a7) TH.cl mT GT g_ bT .nil dR))
   (aR (cx 8 qo.nd (cE GF g_ FF (kQ (pv 2) (pv 7) (pv 5) (pv 6))))
   (aR (dr (cG zj (cE GN g_ FN (bo (pv 1) a7)) a7)
    (aR (cx 9 qo.nd (cE GX sN FX (oU (pv 1) (kQ (pv 2) (pv 7) (pv 8) (pv 6)))))
    (au (dr (PW.pt (o6 (rb (qx (W' (cE GR hr5 FR (bo (cV di (pv 4) a7) (pv 9))))))
     (rf (cG (Pm B.units) (oX (cV di (pv 4) a7) TH.cl mT GT g_ bT .nil dR) (pv 7))))) (au (cg uU)) d8))) d8)
   (au (dr (PW.pt (o6 (cG (Hv B.units) (gq (cV di (pv 4) a7) TH.cl mG GG Ls bG .nil Td (aY (pe rD (by rfl) uy (by decide+kernel) (aY (pv 8)))))
    (gq (cV di (pv 4) a7) TH.cl mG GG Ls bG .nil Td (aY (pe rD (by rfl) uy (by decide+kernel) (aY (pv 8))))))
    (rf (cG (Pm B.units) (oX (cV di (pv 4) a7) TH.cl mT GT g_ bT .nil dR) (oX (cV di (pv 4) a7) TH.cl mT GT g_ bT .nil dR))))) (au (cg uU)) d8))))))
  (au (cg (jJ zD8 (oX (cV di (pv 4) a7) TH.cl mO GO g_ bO .nil dR) uU)))))))),?_⟩
 refine λW A=>(aa U ⟨eH U,λd hd=>A _ _ ?_⟩);have D1:d7 K a (upd x3 d (.lst [.ref a,.int 0])) d:=⟨⟨0,ai⟩,⟨ns,hS0.same (aV hd)⟩⟩;have S1:=aV (o:=.lst [.ref a,.int 0]) hd;generalize upd x3 d (.lst [.ref a,.int 0])=H1 at*;clear A W;refine λW A=>(aa U ⟨d,a,5,12,3,U,D1,by decide,by decide,by decide,by decide,by decide,by decide,λwp ta fa n r D rF H2 og RT RF j n2 nm lm D2 k2 tad EZ pZ=>A _ _ ?_⟩);clear A W;have S2:a0 x3 H2:=λb u e=>k2 _ _ (S1 _ _ e) (av e hd);obtain ⟨N,rfl⟩:∃N:Nat,n=N:=⟨n.toNat,by lia⟩;refine λW A=>(aa U (aD og U (aa U (aD og U (aa U (aD og U (aa U (aD og U λx X nx UB nex=>?_))))))));have s3:a0 H2 (upd (upd H2 X (.own x)) x (.ins C X [])):=λb o e=>by rw [ah (av e nx),ah (av e UB)];exact e
 refine ⟨x,X,_,r,ta,fa,D,rF,U,ai,RT.same s3,RF.same s3,j,λH4 W4 k4=>⟨U,A _ _ ?_⟩⟩;clear A W;have s4:a0 H2 H4:=λb o e=>k4 b o (s3 b o e) (av e nx);have NO:tM H4 wp ta fa (N:Int) r D rF:=tM.same ⟨og,RT,RF⟩ s4;have D4:=D2.same s4;have S4:=S2.trans s4;obtain ⟨J,hE⟩:=YY j (by lia);have n8:=j.n2;have l1:=j.l1;have good:bV N (gO N r D rF J):=vi j.oG (Dj j).good J;clear S1 S2 s3 k4 k2 nx UB nex D1 D2 RT RF og H1;refine λW A=>⟨(aa U (λy dy ny UA ney=>?_)),λC' Fd gK G hEx=>⟨by rw [hEx];exact MI,k _⟩⟩;have s6:a0 H4 (upd (upd H4 dy (.own y)) y (.ins g dy [])):=λb o e=>by rw [ah (av e ny),ah (av e UA)];exact e
 refine ⟨y,x,dy,N,r,D,rF,J,U,ai,W4.same s6,j,hE,λjy H7 s t p v ca H I hA hL hM Vu wK n1 UI n3 kp=>⟨U,?_⟩,λ_ _ _ _=>rfl⟩;have s7:a0 H4 H7:=λb o e=>kp b o (s6 b o e) (av e ny);have VO:H4 ca=none:=s6.free Vu;clear kp Vu s6 UA ney;refine (aa U (λy1 MO EA Aw KJ=>?_));have s8:a0 H7 (upd (upd H7 MO (.own y1)) y1 (.ins g MO [])):=λb o e=>by rw [ah (av e EA),ah (av e Aw)];exact e
 refine ⟨y1,x,MO,N,r,D,rF,J,U,ai,(W4.same s7).same s8,j,hE,λ_ H9 Y vZ yL vR iw L1 M1 hB V0 Vy AS wJ m1 m2 m3 UL=>⟨U,eH U,λS y9=>A _ _ ?_⟩,λ_ _ _ _=>rfl⟩;clear A W;have s9:a0 H7 H9:=λb o e=>UL b o (s8 b o e) (av e EA);have om:H7 iw=none:=s8.free AS;clear UL AS s8 Aw KJ;have vN:=aV (o:=.lst [V.ref y,V.ref y1]) y9;have ehl:upd H9 S (.lst [V.ref y,V.ref y1]) S=some (.lst [V.ref y,V.ref y1]):=ai;generalize upd H9 S (.lst [V.ref y,V.ref y1])=qP at*;obtain ⟨kvs,wK⟩:=wK;obtain ⟨KW,wJ⟩:=wJ;obtain ⟨dy7,Lh⟩:=hA.ins;obtain ⟨ps,zt,_⟩:=hA.vH;obtain ⟨qs,zw,_⟩:=hA.pj;have zo:=hA.own;have zc:=hA.cU;obtain ⟨dy9,yw⟩:=hB.ins;obtain ⟨TR,YB,_⟩:=hB.vH;obtain ⟨qs1,XX,_⟩:=hB.pj;have Zr:=hB.own;have Sj:=hB.cU;have Tu:y≠y1:=av Lh EA;have VN:ca≠iw:=av zc om;have a1:s≠iw:=av zt om;have a2:t≠iw:=av zw om;have a3:v≠iw:=av zo om;have nN:List.replicate N (none:Option Int)≠[]:=λz=>by have:=congrArg List.length z;rw [GJ] at this;have:N=0:=this;lia
 have b1:Y≠ca:=QS YB (s9 _ _ zc) nN;have b2:vZ≠ca:=QS XX (s9 _ _ zc) nN;have b3:vR≠ca:=by obtain ⟨N',rfl⟩:∃N',N=N'+1:=⟨N-1,by lia⟩;exact Yu Zr (s9 _ _ zc)
 have pA:=s9.trans vN;have n6:=s7.trans pA;have Mx:(jd y s t p v ca N rF H (I.filter (dD (aQ rF))) (List.replicate N none) 0).At g qP:=iQ.same hA pA;have Mt:(jd y1 Y vZ yL vR iw N rF L1 (M1.filter (dD (aQ rF))) (List.replicate N none) 0).At g qP:=iQ.same hB vN;have tw:=D4.same n6;have xp:=NO.same n6;have S10:=S4.trans n6;obtain ⟨fs,wH⟩:=xp.f;obtain ⟨_,sS⟩:=id tw.at_;refine λW A=>(aa U (aD xp.tup U ⟨fa,U,⟨_,ar.of wH.1⟩,λQ u6=>?_⟩));have NL:Q≠d:=(av sS u6).symm;refine nt (K:=K) (a:=fa) (xs:=fs.map V.ref) (λx2 gK G=>∃x4,∃outs:List Int,gK=[x4,some (.ref d)]/\G Q=some (.lst (outs.map V.int))/\outs.length=x2/\(∀k b e x1 m,k<x2->rF[k]?=some [b,e,x1,m]->x1<=outs.getD k 0/\outs.getD k 0<=m)/\d7 K a G d/\bX d qP G) ⟨none,[],U,ai,U,(λk _ _ _ _ h=>absurd h (oJ _)),tw.new u6,(aV u6).keep⟩ ?_ ?_ ?_
 ·rintro x2 gK H8 _ ⟨x4,outs,rfl,_,_,_,D8,T⟩;exact ar.of (T _ _ wH.1 EZ)
 ·rintro x2 z gK H8 hz ⟨x4,outs,rfl,e8,oE,sQ,D8,T⟩;rw [dA] at hz
  cases hq:fs[x2]? with
  | none=>rw [hq] at hz;cases hz
  | some q=>
   rw [hq] at hz;cases hz;obtain ⟨row,lR,Ve⟩:=a9 wH.2 hq;have hj:=(eX.mp lR).1;obtain ⟨b1,e1,l1,m1,er,_,_,_,_,_,EL,hlm,_⟩:=j.f row (eR lR);subst er;have Lw:=T _ _ Ve (aI Ve sS nofun);refine (aa U (aD Lw U (aa U (aa U (aD Lw U (aa U (aD Lw U (ri (ri (iu D8 (by lia) (λe H9 e0 e1' D9 k9=>(ri ?_))))))))))));have e9:=k9 _ _ e8 NL;have fl:=j.fl;refine ⟨_,e9,?_,_,outs++[l1+e],U,?_,by rw [iD,oE];rfl,λk b e' x1 m hk B=>?_,D9.upd e9 NL,λb o eb hb=>?_⟩
   ·rw [az];exact fe (by lia)
   ·rw [ai,dN];rfl
   ·by_cases c:k=x2
    ·subst c;rw [lR] at B;cases B;have:(outs++[l1+e]).getD k 0=l1+e:=by
      rw [qe,oz (by lia),oE,Fy];rfl
     rw [this];lia
    ·have:(outs++[l1+e]).getD k 0=outs.getD k 0:=by
      rw [qe,qe,oI (by lia)]
     rw [this];exact sQ k b e' x1 m (rB hk c) B
   ·rw [ah (av eb u6)];exact k9 _ _ (T _ _ eb hb) hb
 rintro gK H8 ⟨x4,outs,rfl,e8,oE,sQ,D8,T⟩;rw [az,j8 wH.2] at oE sQ;have ho:Cb rF outs:=⟨oE,λk b e x1 m B=>sQ k b e x1 m (eX.mp B).1 B⟩;refine A _ _ ?_;clear A W;have hA8:=x_ Mx tw T;have hB8:=x_ Mt tw T;have S8:a0 x3 H8:=λb u e=>T _ _ (S10 _ _ e) (av e hd);have Tv:=pA _ _ Lh;have VS:=pA _ _ zc;have Ai:=vN _ _ yw;have Bl:=vN _ _ Sj;have fx:∀{b:Addr} {u:HO},qP b=some u->(∀X xs,u≠.ins g X xs)->(∀xs,u≠.lst xs)->H8 b=some u/\b≠y/\b≠ca/\b≠y1/\b≠iw/\b≠d:=λ{b u} e h1 h2=>by
  have nl:∀{z xs},qP z=some (.lst xs)->b≠z:=λ{z xs} ez q=>by rw [q,ez] at e;cases e;exact h2 _ U
  have ni:∀{z X xs},qP z=some (.ins g X xs)->b≠z:=λ{z X xs} ez q=>by rw [q,ez] at e;cases e;exact h1 _ _ U
  exact ⟨T _ _ e (nl sS),ni Tv,nl VS,ni Ai,nl Bl,nl sS⟩
 have T4:=fx xp.tup (λ_ _ z=>nomatch z) (λ_ z=>nomatch z);have MW:=fx (pA _ _ wK) (λ_ _ z=>nomatch z) (λ_ z=>nomatch z);have MX:=fx (vN _ _ wJ) (λ_ _ z=>nomatch z) (λ_ z=>nomatch z);have u0:H8 S=some (.lst [V.ref y,V.ref y1])/\S≠y/\S≠ca/\S≠y1/\S≠iw/\S≠d:=by
  have yA:∃u,H9 d=some u:=by obtain ⟨_,z⟩:=D4.at_;exact ⟨_,s9 _ _ (s7 _ _ z)⟩
  obtain ⟨_,yA⟩:=yA;have Vj:=(av yA y9).symm;exact ⟨T _ _ ehl Vj,(av (s9 _ _ Lh) y9).symm,(av (s9 _ _ zc) y9).symm,(av yw y9).symm,(av Sj y9).symm,Vj⟩
 have Do8:H8 Q=some (.lst (outs.map V.int))/\Q≠y/\Q≠ca/\Q≠y1/\Q≠iw/\Q≠d:=⟨e8,(av Tv u6).symm,(av VS u6).symm,(av Ai u6).symm,(av Bl u6).symm,NL⟩;obtain ⟨fs4,AN⟩:=NO.f;obtain ⟨ts4,A4⟩:=NO.t;have ol:∀{b xs},H4 b=some (.lst xs)->b≠d->H8 b=some (.lst xs)/\b≠y/\b≠ca/\b≠y1/\b≠iw/\b≠d:=λe n=>⟨T _ _ (n6 _ _ e) n,av e ny,av e VO,av (s7 _ _ e) EA,av (s7 _ _ e) om,n⟩;have fa8:=ol AN.1 EZ;have ta8:=ol A4.1 tad;have dca:d≠ca:=by obtain ⟨_,z⟩:=D4.at_;exact av z VO
 have dcb:d≠iw:=by obtain ⟨_,z⟩:=D4.at_;exact av (s7 _ _ z) om
 have BK:∀{G:Hp},(∀b u,H8 b=some u/\b≠y/\b≠ca/\b≠y1/\b≠iw/\b≠d->G b=some u)->tM G wp ta fa (N:Int) r D rF:=λ{G} kk=>⟨kk _ _ T4,⟨ts4,kk _ _ ta8,dM A4.2 λq x5 e=>kk _ _ (fx (n6 _ _ e) (λ_ _ z=>nomatch z) (λ_ z=>nomatch z))⟩,⟨fs4,kk _ _ fa8,dM AN.2 λq x5 e=>kk _ _ (fx (n6 _ _ e) (λ_ _ z=>nomatch z) (λ_ z=>nomatch z))⟩⟩;have NG:∀{L:List iU},jB (gO N r D rF J) true L->L.length<=100:=λh=>cP (h.len good (by lia)) (by decide);have NF:∀{M:List iU},jB (gO N r D rF J) false M->(M.filter (dD (aQ rF))).length<=100:=λh=>cP (ou _ _) (cP (h.len good (by lia)) (by decide));have w6:∀{y s t p v ca:Addr} {L M:List iU} {c:List (Option Int)} {now:Int},jB (gO N r D rF J) true L->jB (gO N r D rF J) false M->c.length=N->dq (jd y s t p v ca N rF L (M.filter (dD (aQ rF))) c now):=λ{y s t p v ca L M c now} hL hM l=>
  ⟨λx hx=>by show _<c.length;rw [l];exact (hL.lt good x hx).2,λx hx=>by show ∃f,_/\_<c.length/\_<c.length;rw [l];exact Y3 j (List.mem_filter.mp hx).2,NG hL,NF hM,λm hm=>by show m<c.length;rw [l];exact Ts m hm,by show (qm N rF).length<=100;have:=WR (N:=N) (F:=rF);lia⟩
 have wA:∀{y s t p v ca:Addr} {L M:List iU} {c:List (Option Int)} {i:Nat},c.length=N->i<100->xo (jd y s t p v ca N rF L M c (i:Int)):=λ{y s t p v ca L M c i} l hi=>
  ⟨λe f h=>by obtain ⟨_,_,_,_,h1,h2⟩:=zL j h;show e<c.length/\f.1<c.length;rw [l];exact ⟨h1,h2⟩,by show (0:Int)<=(i:Int);lia,by show (i:Int)<128;lia,by show c.length<128;lia⟩
 have V2:=í j hE jy;have hZ:=zAo j jy;have rep:∀x,HD.cm (List.replicate N (none:Option Int)) x=none:=λx=>by unfold HD.cm;rw [FQ];split<;>rfl
 refine λW A=>(aa U (aD T4.1 U (ri ⟨_,U,by lia,by lia,?_⟩)));refine zX (n:=(r+1).toNat) (λi gK G=>∃(c:List (Option Int)) (v6 v7 v8 v9:Option V),gK=[some (.ref a),some (.ref d),some (.ref wp),some (.ref x),some (.ref S),some (.ref Q),v6,v7,v8,v9]/\(jd y s t p v ca N rF H (I.filter (dD (aQ rF))) c (i:Int)).At g G/\(jd y1 Y vZ yL vR iw N rF L1 (M1.filter (dD (aQ rF))) c (i:Int)).At g G/\(∀b u,H8 b=some u/\b≠y/\b≠ca/\b≠y1/\b≠iw/\b≠d->G b=some u)/\d7 K a G d/\Jt rF outs c (i:Int)/\c.length=N/\HK.At (aQ rF) (Ah (gO N r D rF J)) (Kj (gO N r D rF J)) (HD.cm c) (i:Int))
  ⟨_,none,none,none,none,U,hA8,hB8,λb u e=>e.1,D8,λk b e x1 m x8 _ _ ht=>?_,GJ,HK.Lc rep _,λz=>absurd z (by show ¬(0:Int)<0;decide),λ_=>rep⟩ ?_ ?_
 ·exfalso;rw [rep] at ht;cases ht
 ·rintro i gK H9 hi ⟨c,v6,v7,v8,v9,rfl,u9,Ms,k9,D9,hJ,l,ET⟩;have z0:(0:Int)+(i:Int)=(i:Int):=by lia
  rw [z0];have y8:i<100:=by lia
  obtain ⟨VJ,yw⟩:=u9.ins;have ca9:=u9.cU;have cb9:=Ms.cU;obtain ⟨_,yA⟩:=id D9.at_;refine λN2 c2=>(aa U (gQ (k9 _ _ u0) U (fi yw (by with_unfolding_all rfl) ⟨jd y s t p v ca N rF H (I.filter (dD (aQ rF))) c (i:Int),U,u9,λtl Ha wq sa yH=>c2 _ _ ?_⟩)));clear c2 N2;have yH:Ha tl=some (.lst (c.map ov)):=yH;refine λN2 c2=>(aa U (aa U (aa U (aa U ⟨wp,ta,fa,tl,Q,N,r,(i:Int),D,rF,outs,c,U,BK (λb u e=>sa _ _ (k9 _ _ e)),j,yH,l,sa _ _ (k9 _ _ Do8),ho,λfl Hb AL sb Fb=>c2 _ _ ?_⟩))));clear c2 N2;have FO:=P9 j ho hJ (jd y s t p v ca N rF H (I.filter (dD (aQ rF))) c (i:Int)) U U U l;have FO1:=P9 j ho hJ (jd y1 Y vZ yL vR iw N rF L1 (M1.filter (dD (aQ rF))) c (i:Int)) U U U l;have yq:=sa.trans sb;rw [xQ] at Fb;have lfn:((dj c (i:Int) outs rF rF.length).map λi:Nat=>(i:Int)).length<=100:=by rw [az];unfold dj;rw [az];have h1:=ou (lu c (i:Int) outs rF) (List.range rF.length);rw [uM] at h1;have:=j.fl;lia
  have kg:∀e∈(dj c (i:Int) outs rF rF.length).map λi:Nat=>(i:Int),e.natAbs<128:=λe he=>by obtain ⟨z,hz,rfl⟩:=fY.mp he;have:=Hm j hz;show z<128;lia
  have DW:tl≠d:=(av yA wq).symm;have fld:fl≠d:=(av (sa _ _ yA) AL).symm;have wQ:fl≠ca:=(av (sa _ _ ca9) AL).symm;have flcb:fl≠iw:=(av (sa _ _ cb9) AL).symm;refine λN2 c2=>(aa U (iu (D9.same yq) (by decide) (λx5 Hc r0 r1 Dc kc=>(ri (ct ?_)))));have EU:=x_ (u9.same yq) (D9.same yq) kc;have Mr:=x_ (Ms.same yq) (D9.same yq) kc;have MJ:=kc _ _ (sb _ _ yH) DW;have Fc:=kc _ _ Fb fld;have EE:∀b u,H8 b=some u/\b≠y/\b≠ca/\b≠y1/\b≠iw/\b≠d->Hc b=some u:=λb u e=>kc _ _ (yq _ _ (k9 _ _ e)) e.2.2.2.2.2
  suffices goal:∀v9 R,(jd y s t p v ca N rF H (I.filter (dD (aQ rF))) c (i:Int)).At g R->(jd y1 Y vZ yL vR iw N rF L1 (M1.filter (dD (aQ rF))) c (i:Int)).At g R->(∀b u,H8 b=some u/\b≠y/\b≠ca/\b≠y1/\b≠iw/\b≠d->R b=some u)->d7 K a R d->R fl=some (.lst (((dj c (i:Int) outs rF rF.length).map λi:Nat=>(i:Int)).map V.int))->N2 [some (.ref a),some (.ref d),some (.ref wp),some (.ref x),some (.ref S),some (.ref Q),some (.int (i:Int)),some (.ref tl),some (.ref fl),v9] R by
   by_cases cr:x5>0
   case neg=>exact gL cr (goal _ _ EU Mr EE Dc Fc)
   refine fu cr (λN3 c3=>(aa U (aa U (aa U (aa U (aa U ⟨d,a,wp,ta,fa,tl,fl,N,r,D,rF,jd y s t p v ca N rF H (I.filter (dD (aQ rF))) c (i:Int),_,U,Dc,BK EE,j,MJ,l,Fc,lfn,kg,U,EZ,λq fs' R hq kd Dd eq Me=>c3 _ _ ?_⟩))))));clear c3 N3;have yC:=x_ EU Dc kd;have Ba:=x_ Mr Dc kd;have etd:=kd _ _ MJ DW;have Bh:=kd _ _ Fc fld;have uu:∀b u,H8 b=some u/\b≠y/\b≠ca/\b≠y1/\b≠iw/\b≠d->R b=some u:=λb u e=>kd _ _ (EE _ _ e) e.2.2.2.2.2;have KA:q≠ca:=(av EU.cU hq).symm;have MV:=uu _ _ MW;refine (aa U (gQ (uu _ _ u0) U (aa U ⟨jd y s t p v ca N rF H (I.filter (dD (aQ rF))) c (i:Int),q,fs',U,yC,w6 hL hM l,wA l y8,eq,KA,Me,⟨kvs,MV⟩,n1,UI,n3,λHe fb=>⟨p,.dK kvs,fb.2 kvs MV,λo u z=>?_,_,U,dk ?_⟩⟩)))
   ·have:=S8 _ _ z;rw [MW.1] at this;cases this
   have se:=FB.rM (a:=jd y s t p v ca N rF H (I.filter (dD (aQ rF))) c (i:Int)) fb MV;generalize upd He p (.dK kvs)=Hf at*;have Mw:=yC.same se;obtain ⟨dxf,Lg⟩:=Mw.ins;refine (aa U (gQ (se _ _ (uu _ _ u0)) U (fi Lg (by with_unfolding_all rfl) ⟨jd y s t p v ca N rF H (I.filter (dD (aQ rF))) c (i:Int),U,Mw,λt2 Hg ht2 sg et2=>(aa U ⟨t2,tl,_,U,U,et2,sg _ _ (se _ _ etd),HN,ct (dk (goal _ _ (Mw.same sg) ((Ba.same se).same sg) (λb u e=>sg _ _ (se _ _ (uu _ _ e))) ((Dd.same se).same sg) (sg _ _ (se _ _ Bh))))⟩)⟩)))
  intro v9 R yC Ba uu Dd Bh;refine c2 _ _ ?_;clear c2 N2 EU Mr MJ Fc EE Dc kc;obtain ⟨dxd,EH⟩:=yC.ins;obtain ⟨dzd,hzd⟩:=Ba.ins;have MR:=yC.cU;have cbd:=Ba.cU;refine (aa U (gQ (uu _ _ u0) U (fi EH (by with_unfolding_all rfl) (aa U ⟨fl,_,U,.inl (ar.of Bh),λf1 Vr=>?_⟩))));have O:=aV (o:=.lst (((dj c (i:Int) outs rF rF.length).map λi:Nat=>(i:Int)).map V.int)) Vr;have ef1:upd R f1 (.lst (((dj c (i:Int) outs rF rF.length).map λi:Nat=>(i:Int)).map V.int)) f1=some (.lst (((dj c (i:Int) outs rF rF.length).map λi:Nat=>(i:Int)).map V.int)):=ai;generalize upd R f1 (.lst (((dj c (i:Int) outs rF rF.length).map λi:Nat=>(i:Int)).map V.int))=He at*;refine ⟨jd y s t p v ca N rF H (I.filter (dD (aQ rF))) c (i:Int),f1,_,U,yC.same O,w6 hL hM l,wA l y8,ef1,(av MR Vr).symm,kg,⟨kvs,O _ _ (uu _ _ MW)⟩,n1,UI,n3,λ_ fn' ef' l0 Hf r0 j0 EM ED E_ yJ yI My=>?_,λno=>absurd (Pt FO) no⟩;cases HZ ef';have Mq:(jd y1 Y vZ yL vR iw N rF L1 (M1.filter (dD (aQ rF))) c (i:Int)).At g Hf:=RU (Ba.same O) ⟨_,_,O _ _ EH⟩ ⟨_,O _ _ MR⟩ Tu.symm b1 b2 b3 VN.symm ED;have K_:∀b u,H8 b=some u/\b≠y/\b≠ca/\b≠y1/\b≠iw/\b≠d->Hf b=some u:=λb u e=>ED _ _ (O _ _ (uu _ _ e)) e.2.1 e.2.2.1;have Df:=(Dd.same O).uq (O _ _ EH) (O _ _ MR) dca ED;have eff:=ED _ _ (O _ _ Bh) (aI Bh EH nofun) wQ;obtain ⟨dzf,Lf⟩:=Mq.ins;have MQ:=Mq.cU;have l0y:l0≠y1:=(av (O _ _ hzd) EM).symm;have l0c:l0≠iw:=(av (O _ _ cbd) EM).symm;refine (aa U (gQ (K_ _ _ u0) U (fi Lf (by with_unfolding_all rfl) (aa U ⟨fl,_,U,.inl (ar.of eff),λf2 Vq=>?_⟩))));have Z:=aV (o:=.lst (((dj c (i:Int) outs rF rF.length).map λi:Nat=>(i:Int)).map V.int)) Vq;have ef2:upd Hf f2 (.lst (((dj c (i:Int) outs rF rF.length).map λi:Nat=>(i:Int)).map V.int)) f2=some (.lst (((dj c (i:Int) outs rF rF.length).map λi:Nat=>(i:Int)).map V.int)):=ai;generalize upd Hf f2 (.lst (((dj c (i:Int) outs rF rF.length).map λi:Nat=>(i:Int)).map V.int))=Hg at*;refine ⟨jd y1 Y vZ yL vR iw N rF L1 (M1.filter (dD (aQ rF))) c (i:Int),f2,_,U,Mq.same Z,w6 V0 Vy l,wA l y8,ef2,(av MQ Vq).symm,kg,⟨KW,Z _ _ (K_ _ _ MX)⟩,m1,m2,m3,λ_ fn2 ML l2 Hh r2 j2 EK EC VG MK E' hB2=>?_,λno=>absurd (Pt FO1) no⟩;cases HZ ML;have My:(jd y s t p v ca N rF H (I.filter (dD (aQ rF))) (HD.af r0 (i:Int) (HD.af (dj c (i:Int) outs rF rF.length) (i:Int) c)) ((i:Int)+1)).At g Hf:=My;have Mv:(jd y s t p v ca N rF H (I.filter (dD (aQ rF))) (HD.af r0 (i:Int) (HD.af (dj c (i:Int) outs rF rF.length) (i:Int) c)) ((i:Int)+1)).At g Hh:=RU (My.same Z) ⟨_,_,Z _ _ Lf⟩ ⟨_,Z _ _ MQ⟩ Tu a1 a2 a3 VN EC;have K':∀b u,H8 b=some u/\b≠y/\b≠ca/\b≠y1/\b≠iw/\b≠d->Hh b=some u:=λb u e=>EC _ _ (Z _ _ (K_ _ _ e)) e.2.2.2.1 e.2.2.2.2.1;have Dh:=(Df.same Z).uq (Z _ _ Lf) (Z _ _ MQ) dcb EC;have E_:=EC _ _ (Z _ _ E_) l0y l0c;have hS:HD.step H (I.filter (dD (aQ rF))) (aQ rF) (HD.af (dj c (i:Int) outs rF rF.length) (i:Int) c) (i:Int)=HD.step L1 (M1.filter (dD (aQ rF))) (aQ rF) (HD.af (dj c (i:Int) outs rF rF.length) (i:Int) c) (i:Int):=YD (Qf hL V0) (Xc (Qf hM Vy));have rr:r0=r2:=by have yJ:r0=HD.iter (HD.step H (I.filter (dD (aQ rF))) (aQ rF) (HD.af (dj c (i:Int) outs rF rF.length) (i:Int) c) (i:Int)) j0 (Bj N rF (HD.af (dj c (i:Int) outs rF rF.length) (i:Int) c)):=yJ;have yI:HD.step H (I.filter (dD (aQ rF))) (aQ rF) (HD.af (dj c (i:Int) outs rF rF.length) (i:Int) c) (i:Int) r0=r0:=yI;have MK:r2=HD.iter (HD.step L1 (M1.filter (dD (aQ rF))) (aQ rF) (HD.af (dj c (i:Int) outs rF rF.length) (i:Int) c) (i:Int)) j2 (Bj N rF (HD.af (dj c (i:Int) outs rF rF.length) (i:Int) c)):=MK;have E':HD.step L1 (M1.filter (dD (aQ rF))) (aQ rF) (HD.af (dj c (i:Int) outs rF rF.length) (i:Int) c) (i:Int) r2=r2:=E';rw [hS] at yJ yI;rw [yJ] at yI ⊢;rw [MK] at E' ⊢;exact HD.sU yI E'
  subst rr;rw [xQ] at E_ VG;refine ⟨l0,l2,_,_,U,U,ar.of E_,ar.of VG,ct (gU (show (!decide _)=false by rw [eO rfl];rfl) ?_)⟩;obtain ⟨dxh,hyh⟩:=Mv.ins;refine (aa U (gQ (K' _ _ u0) U (fi hyh (by with_unfolding_all rfl) ⟨_,U,Mv,λt3 Hj ht3 s3 et3=>?_⟩)));have Mp:=hB2.same s3;obtain ⟨dzj,hzj⟩:=Mp.ins;refine (aa U (gQ (s3 _ _ (K' _ _ u0)) U (fi hzj (by with_unfolding_all rfl) ⟨_,U,Mp,λt4 Hk ht4 s4 et4=>?_⟩)));refine ⟨t3,t4,_,U,U,s4 _ _ et3,et4,HN,ct (dk ?_)⟩;have K2:=s3.trans s4;have EB:∀m∈r0,m<c.length:=λm hm=>by rw [yJ] at hm;have h0:=HD.gF _ _ m hm;have h0:=Ts m (List.mem_filter.mp h0).1;exact xW h0 l
  have ei:((i+1:Nat):Int)=(i:Int)+1:=by lia
  have Y:∀x∈dj c (i:Int) outs rF rF.length,x<c.length:=λx hx=>by rw [l];exact Hm j hx
  have KQ:∀x∈r0,x<(HD.af (dj c (i:Int) outs rF rF.length) (i:Int) c).length:=λx hx=>by rw [HD.aW];exact EB x hx
  have x7:HK.Out (aQ rF) (HD.cm c) (i:Int) (λx=>x∈dj c (i:Int) outs rF rF.length):=HC FO;have x6:HK.iP (aQ rF) (Ah (gO N r D rF J)) (Kj (gO N r D rF J)) N (HD.cm (HD.af (dj c (i:Int) outs rF rF.length) (i:Int) c)) (i:Int) (λx=>x∈r0):=zB3 j hL hM yJ yI;rw [<-HA Y] at x6;have nx:=ET.next hZ V2 (yT i) x7 x6;rw [HA Y,HA KQ] at nx;refine ⟨_,_,_,_,_,U,by rw [ei];exact Mv.same K2,by rw [ei];exact Mp.same s4,λb u e=>K2 _ _ (K' _ _ e),Dh.same K2,by rw [ei];exact Jt.next j ho hJ EB l,?_,by rw [ei];exact nx⟩;rw [HD.aW,HD.aW];exact l
 ·rintro gK H9 ⟨c,v6,v7,v8,v9,rfl,u9,Ms,k9,D9,hJ,l,ET⟩;have ea:(((r+1).toNat:Nat):Int)=r+1:=by lia
  rw [ea] at u9 ET;obtain ⟨VJ,yw⟩:=u9.ins;refine A _ _ (aa U (gQ (k9 _ _ u0) U (fi yw (by with_unfolding_all rfl) ⟨_,U,u9,λz hz=>?_,true,true,U,U,k _⟩)));obtain ⟨x8,h,_⟩:=ET.done hZ V2 (by exact fq l1) (y:=z) (by rw [<-l];exact hz);show HD.cm c z≠none;rw [h];exact λq=>nomatch q
end
end Y0
namespace L2
theorem lr:∀{us:List α},us.length=n+1->∃a t,us=a::t/\t.length=n
 | a::t,h=>⟨a,t,U,Nat.succ.inj h⟩
theorem Ï (us:List α) (h:us.length=1):∃a,us=[a]:=by obtain ⟨a,c,rfl,b⟩:=lr h;obtain rfl:=BD b;exact ⟨a,U⟩
theorem Sv (us:List α) (h:us.length=2):∃a b,us=[a,b]:=by obtain ⟨a,e,rfl,c⟩:=lr h;obtain ⟨b,f,rfl,d⟩:=lr c;obtain rfl:=BD d;exact ⟨a,b,U⟩
theorem Ð (us:List α) (h:us.length=3):∃a b c,us=[a,b,c]:=by obtain ⟨a,g,rfl,d⟩:=lr h;obtain ⟨b,i,rfl,e⟩:=lr d;obtain ⟨c,j,rfl,f⟩:=lr e;obtain rfl:=BD f;exact ⟨a,b,c,U⟩
theorem Ñ (us:List α) (h:us.length=4):∃a b c d,us=[a,b,c,d]:=by obtain ⟨a,j,rfl,e⟩:=lr h;obtain ⟨b,k,rfl,f⟩:=lr e;obtain ⟨c,l,rfl,g⟩:=lr f;obtain ⟨d,m,rfl,i⟩:=lr g;obtain rfl:=BD i;exact ⟨a,b,c,d,U⟩
theorem ZK (us:List α) (h:us.length=5):∃a b c d e,us=[a,b,c,d,e]:=by obtain ⟨a,l,rfl,f⟩:=lr h;obtain ⟨b,m,rfl,g⟩:=lr f;obtain ⟨c,n,rfl,i⟩:=lr g;obtain ⟨d,o,rfl,j⟩:=lr i;obtain ⟨e,p,rfl,k⟩:=lr j;obtain rfl:=BD k;exact ⟨a,b,c,d,e,U⟩
end L2
namespace Y0
open PySem L2
section
variable {K:aO} {mg:Str->Option Value} {h:Heap}
theorem Bq {A B C D E F V:Type} {p:A->B->C->D->E->F->List V->Prop} (h:∀a1 a2 a3 a4 a5 b a,p a1 a2 a3 a4 a5 b [a]):∀a1 a2 a3 a4 a5 b (us:List V),us.length=1->p a1 a2 a3 a4 a5 b us:=λ_ _ _ _ _ _ us c=>by obtain ⟨a,rfl⟩:=L2.Ï us c;exact h _ _ _ _ _ _ _
theorem Bp {A B C D E F V:Type} {p:A->B->C->D->E->F->List V->Prop} (h:∀a1 a2 a3 a4 a5 c a b,p a1 a2 a3 a4 a5 c [a,b]):∀a1 a2 a3 a4 a5 c (us:List V),us.length=2->p a1 a2 a3 a4 a5 c us:=λ_ _ _ _ _ _ us d=>by obtain ⟨a,b,rfl⟩:=L2.Sv us d;exact h _ _ _ _ _ _ _ _
theorem Bo {A B C D E F V:Type} {p:A->B->C->D->E->F->List V->Prop} (h:∀a1 a2 a3 a4 a5 d a b c,p a1 a2 a3 a4 a5 d [a,b,c]):∀a1 a2 a3 a4 a5 d (us:List V),us.length=3->p a1 a2 a3 a4 a5 d us:=λ_ _ _ _ _ _ us e=>by obtain ⟨a,b,c,rfl⟩:=L2.Ð us e;exact h _ _ _ _ _ _ _ _ _
theorem Bn {A B C D E F V:Type} {p:A->B->C->D->E->F->List V->Prop} (h:∀a1 a2 a3 a4 a5 e a b c d,p a1 a2 a3 a4 a5 e [a,b,c,d]):∀a1 a2 a3 a4 a5 e (us:List V),us.length=4->p a1 a2 a3 a4 a5 e us:=λ_ _ _ _ _ _ us f=>by obtain ⟨a,b,c,d,rfl⟩:=L2.Ñ us f;exact h _ _ _ _ _ _ _ _ _ _
theorem Bm {A B C D E F V:Type} {p:A->B->C->D->E->F->List V->Prop} (h:∀a1 a2 a3 a4 a5 f a b c d e,p a1 a2 a3 a4 a5 f [a,b,c,d,e]):∀a1 a2 a3 a4 a5 f (us:List V),us.length=5->p a1 a2 a3 a4 a5 f us:=λ_ _ _ _ _ _ us g=>by obtain ⟨a,b,c,d,e,rfl⟩:=L2.ZK us g;exact h _ _ _ _ _ _ _ _ _ _ _
theorem uD {x:Str} {st:Stmt} {m:List Str} {f:Addr} {o:Value} {od d:Option Addr} {p:Array (Option Value)} {i g j b e:Value} (X:K.In h) (G:h.Ns mainGlobals mg) (a:autoParam (W.nsIn K mainGlobals x=some (some (.ref f))) t11._auto_1)
 (l:autoParam (K.lookup f=some ⟨o,od,.func (W.fnOf x x (qA st) (lC st) (aF st) .none i g j d b e),p⟩) t11._auto_1) (c:autoParam (W.codeIn K b x=true) t11._auto_1) (k:autoParam (W.keepIn K (.ref f)=true) t11._auto_1)
 (n:autoParam (∀(i g j:Value) (d:Option Addr) (b e:Value) (us:List Value),us.length=m.length->bindArgs (W.fnOf x x (qA st) (lC st) (aF st) .none i g j d b e) ⟨us,[]⟩=pure (m.zip us)) t19._auto_1):
 Fn K mg x st m f (W.fnOf x x (qA st) (lC st) (aF st) .none i g j d b e):=
 have F:=Hn (st:=st) l c k
 ⟨F,F.binds n,jH X G a⟩
structure BH (K:aO) (C:Addr) (m q:Str) (st:Stmt) (ps:List Str) (f:Addr) (fd:FuncData):Prop where
 F:dO K m q st f fd
 b:dm K fd ps []
 a:W.findIn K (.ref C) m=some (some (.ref f))
 i:W.isFn K (.ref f)=true
theorem BH.cF (h:BH K C m q st ps f fd):fV K C m f:=⟨h.a,h.i,h.F.kp⟩
theorem Ax {C:Addr} {x q:Str} {st:Stmt} {n:List Str} {f:Addr} {p:Value} {od d:Option Addr} {r:Array (Option Value)} {j g m b e:Value} (a:autoParam (W.findIn K (.ref C) x=some (some (.ref f))) t11._auto_1) (i:autoParam (W.isFn K (.ref f)=true) t11._auto_1)
 (l:autoParam (K.lookup f=some ⟨p,od,.func (W.fnOf x q (qA st) (lC st) (aF st) .none j g m d b e),r⟩) t11._auto_1) (c:autoParam (W.codeIn K b q=true) t11._auto_1) (k:autoParam (W.keepIn K (.ref f)=true) t11._auto_1)
 (o:autoParam (∀(j g m:Value) (d:Option Addr) (b e:Value) (us:List Value),us.length=n.length->bindArgs (W.fnOf x q (qA st) (lC st) (aF st) .none j g m d b e) ⟨us,[]⟩=pure (n.zip us)) t19._auto_1):
 BH K C x q st n f (W.fnOf x q (qA st) (lC st) (aF st) .none j g m d b e):=
 have F:=Hn (st:=st) l c k
 ⟨F,F.binds o,a,i⟩
theorem aT (X:K.In h) (_G:h.Ns mainGlobals mg) (x:Str) (st:Stmt) (a:List Str) (e:∃f fd,Fn (L2.eZ X) mg x st a f fd:=by unfold L2.eZ;exact ⟨_,_,Y0.uD ‹_› ‹_›⟩):∃f fd,Fn (L2.eZ X) mg x st a f fd:=e
theorem bu (a:W.nsIn (L2.eZ X) mainGlobals I=some (some (.ref C))) (m q:Str) (st:Stmt) (c:List Str) (e:∃C f fd,W.nsIn (L2.eZ X) mainGlobals I=some (some (.ref C))/\BH (L2.eZ X) C m q st c f fd:=by unfold L2.eZ;exact ⟨_,_,_,by k_is,Y0.Ax⟩):∃f fd,BH (L2.eZ X) C m q st c f fd:=by obtain ⟨g,f,fd,b,d⟩:=e;rw [a] at b;cases b;exact ⟨f,fd,d⟩
structure BF (K:aO) (mg:Str->Option Value) (C:Addr):Prop where
 tc:o1 K mg C
 Az:W.makesIn K C=true
 kc:W.keepIn K (.ref C)=true
theorem vF (X:K.In h) (G:h.Ns mainGlobals mg) (aC:autoParam (W.nsIn K mainGlobals "Web"=some (some (.ref C))) t11._auto_1) (g:autoParam (W.plainGet K C Str.empty=true) t11._auto_1) (a:autoParam (W.hasDictIn K C=true) t11._auto_1) (i:autoParam (W.plainOver K C=true) t11._auto_1)
 (sa:autoParam (W.findIn K (.ref C) "__setattr__"=some (some (.builtin "object.__setattr__"))) t11._auto_1) (mk:autoParam (W.makesIn K C=true) t11._auto_1) (b:autoParam (W.keepIn K (.ref C)=true) t11._auto_1)
 (c:autoParam (W.findIn K (.ref C) "many"=some none) t11._auto_1) (d:autoParam (W.findIn K (.ref C) "last"=some none) t11._auto_1) (e:autoParam (W.findIn K (.ref C) "told_ties"=some none) t11._auto_1) (f:autoParam (W.findIn K (.ref C) "told_falls"=some none) t11._auto_1):BF K mg C:=
 ⟨⟨⟨g,a,i,sa⟩,c,d,e,f,jH X G aC⟩,mk,b⟩
theorem rG (X:K.In h) (G:h.Ns mainGlobals mg) (a:autoParam (W.nsIn K mainGlobals "MOST_MOMENTS"=some (some (.int 8 t1))) t11._auto_1) (b:autoParam (W.nsIn K mainGlobals "LATEST_LAST"=some (some (.int 60 C))) t11._auto_1)
 (c:autoParam (W.nsIn K mainGlobals "WIDEST_SPAN"=some (some (.int 60 t3))) t11._auto_1) (d:autoParam (W.nsIn K mainGlobals "LONGEST_FALL"=some (some (.int 60 I))) t11._auto_1) (z:autoParam (W.nsIn K mainGlobals "list"=some none) t11._auto_1):kF mg:=
 ⟨⟨t1,jH X G a⟩,⟨C,jH X G b⟩,⟨t3,jH X G c⟩,⟨I,jH X G d⟩,qf X G z⟩
structure BL (K:aO) (mg:Str->Option Value) (C:Addr):Prop where
 tc:o4 K mg C
 Az:W.makesIn K C=true
 kc:W.keepIn K (.ref C)=true
 g:mg "Closing"=some (.ref C)
theorem wX (X:K.In h) (G:h.Ns mainGlobals mg) (aC:autoParam (W.nsIn K mainGlobals "Closing"=some (some (.ref C))) t11._auto_1) (i:autoParam (W.plainGet K C Str.empty=true) t11._auto_1) (a:autoParam (W.hasDictIn K C=true) t11._auto_1) (j:autoParam (W.plainOver K C=true) t11._auto_1)
 (sa:autoParam (W.findIn K (.ref C) "__setattr__"=some (some (.builtin "object.__setattr__"))) t11._auto_1) (mk:autoParam (W.makesIn K C=true) t11._auto_1) (b:autoParam (W.keepIn K (.ref C)=true) t11._auto_1)
 (c:autoParam (W.findIn K (.ref C) "many"=some none) t11._auto_1) (d:autoParam (W.findIn K (.ref C) "by_end"=some none) t11._auto_1) (e:autoParam (W.findIn K (.ref C) "rows"=some none) t11._auto_1) (f:autoParam (W.findIn K (.ref C) "best"=some none) t11._auto_1) (g:autoParam (W.findIn K (.ref C) "bar"=some none) t11._auto_1)
 (k:autoParam (W.nsIn K mainGlobals "len"=some none) t11._auto_1) (l:autoParam (W.nsIn K mainGlobals "range"=some none) t11._auto_1):BL K mg C:=
 ⟨⟨⟨i,a,j,sa⟩,c,d,e,f,g,qf X G k,qf X G l⟩,mk,b,jH X G aC⟩
theorem rH (X:K.In h) (G:h.Ns mainGlobals mg) (a:W.nsIn K mainGlobals "USED_KINDS"=some (some (.ref u))) (t:JQ K u xA) (z:W.nsIn K mainGlobals "tuple"=some none):xk K mg:=
 ⟨⟨u,jH X G a,t⟩,qf X G z⟩
theorem wV {C M fI N:Addr} {j q:Str} {bs:List Value} {k:List Str} {m:List Value} {a:Bool} {b:Option Bool} {c:Option Addr} {d e f g i:Option Value}
 (l:K.lookup C=some (excClassObj j q C N bs (.ref M::iZ) true k m a b c d e f g i "ValueError.__new__")) (no:W.nsOkIn K N=true) (ni:W.nsIn K N "__init__"=some (some (.ref fI)))
 (tl:W.tailIn K iZ (.ref M::iZ)=true) (fn:W.isFn K (.ref fI)=true) (kp:W.keepIn K (.ref C)=true) (sa:W.findIn K (.ref C) "__setattr__"=some (some (.builtin "object.__setattr__"))):qk K C M fI:=
 ⟨⟨j,q,N,bs,k,m,a,b,c,d,e,f,g,i,l,no,ni⟩,tl,fn,kp,sa⟩
structure uO (K:aO) (mg:Str->Option Value) (C:Addr):Prop where
 tc:mj K mg C
 Az:W.makesIn K C=true
 kc:W.keepIn K (.ref C)=true
 g:mg "Hand"=some (.ref C)
theorem sT (X:K.In h) (G:h.Ns mainGlobals mg) (aC:autoParam (W.nsIn K mainGlobals "Hand"=some (some (.ref C))) t11._auto_1) (j:autoParam (W.plainGet K C Str.empty=true) t11._auto_1) (a:autoParam (W.hasDictIn K C=true) t11._auto_1) (k:autoParam (W.plainOver K C=true) t11._auto_1)
 (sa:autoParam (W.findIn K (.ref C) "__setattr__"=some (some (.builtin "object.__setattr__"))) t11._auto_1) (mk:autoParam (W.makesIn K C=true) t11._auto_1) (b:autoParam (W.keepIn K (.ref C)=true) t11._auto_1)
 (c:autoParam (W.findIn K (.ref C) "rule_ties"=some none) t11._auto_1) (d:autoParam (W.findIn K (.ref C) "rule_waits"=some none) t11._auto_1) (e:autoParam (W.findIn K (.ref C) "by_end"=some none) t11._auto_1) (f:autoParam (W.findIn K (.ref C) "own_moments"=some none) t11._auto_1) (g:autoParam (W.findIn K (.ref C) "came"=some none) t11._auto_1) (i:autoParam (W.findIn K (.ref C) "now"=some none) t11._auto_1):uO K mg C:=
 ⟨⟨⟨j,a,k,sa⟩,c,d,e,f,g,i⟩,mk,b,jH X G aC⟩
theorem rK (X:K.In h) (G:h.Ns mainGlobals mg) (a:W.nsIn K mainGlobals "isinstance"=some none) (b:W.nsIn K mainGlobals "ValueError"=some none) (g:yj K C)
 (a1:W.nsIn K mainGlobals "BadWeb"=some (some (.ref c1))) (q1:W.kitOne K (.ref C) (.ref c1)=some b1) (a2:W.nsIn K mainGlobals "NoTimes"=some (some (.ref I))) (q2:W.kitOne K (.ref C) (.ref I)=some b2)
 (a3:W.nsIn K mainGlobals "NoHand"=some (some (.ref J))) (q3:W.kitOne K (.ref C) (.ref J)=some b3) (a4:W.nsIn K mainGlobals "BadFall"=some (some (.ref c4))) (q4:W.kitOne K (.ref C) (.ref c4)=some b4)
 (a5:W.nsIn K mainGlobals "BadText"=some (some (.ref c5))) (q5:W.kitOne K (.ref C) (.ref c5)=some b5) (kv:W.kitOne K (.ref C) (.type "ValueError")=some true):xl K mg C b1 b2 b3 b4 b5:=
 ⟨qf X G a,qf X G b,g,⟨c1,jH X G a1,q1⟩,⟨I,jH X G a2,q2⟩,⟨J,jH X G a3,q3⟩,⟨c4,jH X G a4,q4⟩,⟨c5,jH X G a5,q5⟩,kv⟩
theorem sW {C M N:Addr} {j q:Str} {bs:List Value} {k:List Str} {m:List Value} {a:Bool} {b:Option Bool} {c:Option Addr} {d e f g i:Option Value}
 (l:K.lookup C=some (excClassObj j q C N bs (.ref M::iZ) true k m a b c d e f g i "ValueError.__new__")) (no:W.nsOkIn K N=true) (ni:W.nsIn K N "__init__"=some none)
 (tl:W.tailIn K iZ (.ref M::iZ)=true) (kp:W.keepIn K (.ref C)=true):vu K C M:=
 ⟨⟨j,q,N,bs,k,m,a,b,c,d,e,f,g,i,l,no,ni⟩,tl,kp⟩
theorem rJ (X:K.In h) (G:h.Ns mainGlobals mg) (aC:W.nsIn K mainGlobals "NoHand"=some (some (.ref C))) (aM:W.nsIn K mainGlobals "MomentError"=some (some (.ref M))) (ex:qk K C M fI)
 (b1:W.typeIn K (.ref M)=some (.type "type")) (b2:W.specialIn K (.ref M) "__getattribute__"=some (some (.builtin "type.__getattribute__"))) (b3:W.findIn K (.type "type") "__getattribute__"=some (some (.builtin "type.__getattribute__")))
 (b4:W.nsIn K cStatics "thirdparty.any"=some none) (b5:W.findCls K (.ref M) (.type "type") "__init__"=some (.val (.builtin "ValueError.__init__"))) (b6:W.subIn K (.type "type") (.type "type")=some true)
 (nP:W.findIn K (.ref C) "paper"=some none) (z3:W.nsIn K mainGlobals "list"=some none):tu K mg C M fI:=
 ⟨qf X G z3,ex,⟨b1,b2,b3,b4,b5,b6⟩,jH X G aM,nP,jH X G aC⟩
theorem rL (X:K.In h) (G:h.Ns mainGlobals mg) (aC:W.nsIn K mainGlobals "BadFall"=some (some (.ref C))) (aM:W.nsIn K mainGlobals "MomentError"=some (some (.ref M))) (ex:vu K C M):qi K mg C M/\mg "MomentError"=some (.ref M):=
 ⟨⟨ex,jH X G aC⟩,jH X G aM⟩
end
end Y0
inductive PySem.W.Fast:Prop|tw3550138498726369181|tw15066376981480162761|tw9036954244414964448|tw13102734993683852861|tw12574056315757393789|tw7510977902927219287|tw4244347182637471524|tw5807457644221681789|tw5474382260359314394|tw2121177890775789638|tw6797356930429256942|tw9594767567216675342|tw11099534981233925433|tw17704298879060880341|tw5729334616620581191|tw7803967351102558050|tw6477409927900879102|tw9930686116975929498|tw16234288784782064178|tw6511575881913078800|tw16520332592110432841|tw2684340904361606356|tw5742039778740086560|tw8058921025959999770|tw12475105388611148835|tw10192113355444812964|tw1961321754463845309|tw1502940106640478204|tw11429485633370601731|tw11911319283568355106|tw4070056355607189451|tw12081063496360875643|tw4956901175423304426|tw8577704974074405877|tw7537817442804123457|tw8779845577337018024|tw11549128691033665802|tw5299130487784427320|tw14085210423107461466|tw10862856915239266264|tw16141408091887832651|tw16012501137414909974|tw1682597707779281127|tw8487757710344594359|tw5153261641377851581|tw11881671404241247487|tw10865484842906806126|tw16995928350489740901|tw12971394980642717745|tw11100268039878758810|tw15903850917846197029|tw10014885554608661990|tw15417381225553886704|tw2522953623052157847|tw14148298915482792624|tw13449737629257405034|tw8744565491952136251|tw15311945344351909300|tw14009271632294204191|tw2689286374147908484|tw4959508123057549627|tw2397680378697260760|tw2552881078160781403|tw4121722002599960237|tw14239847170134212791|tw7056290326425696744|tw13821748902593908150|tw7703160244010643304|tw2977128152730104357|tw16465743743772814232|tw7447636540200587875|tw13560093913262174542|tw5707036840736129128|tw1658915401649402222|tw8464724250220837832|tw4216701941899656548|tw8536576297483373652|tw123949979251036425|tw9746267562689768904|tw4406817428521003357|tw15098939832370124889|tw14708235455381743686|tw5805492122618369722|tw15863955574318686120|tw1679380660265803359|tw8565324718451335478|tw11463063715801066834|tw7137052834846499213|tw11226142097905954390|tw17305600486523028901|tw4003973516887043443|tw4574932697181199635|tw13100299115744703876|tw10259968214585442022|tw17721654977678519495|tw13359061831669841080|tw16628108232136238210|tw6672950829419491322|tw7158442855307819964|tw14671551105237602057|tw13475580115123034251|tw2482737844765085154|tw15050324220101862307|tw1687182182898694750|tw15520059124378624407|tw283626354251231706|tw94068408577374822|tw3801447260834210391|tw5519925485902764147|tw1057771243123607692|tw15951973072102454767|tw4917000960083314236|tw7694145338029872184|tw112878222347362492|tw3185182474726204006|tw5825140892587917691|tw16661359685771855640|tw8560062589181577558|tw3730941468624949159|tw1803674690541033347|tw11314515177095364080|tw7959493766695092937|tw16608837343151919601|tw41066265826176792|tw17878449910830815998|tw14557755926448465940|tw6237055940173326159|tw6027645685098129102|tw2616143972942010336|tw940565340049597648|tw3172011805673834711|tw3661067797069505644|tw7531996049064436323|tw17312103250115185343|tw16755384930960871399|tw15281426376065872643|tw9030383518867789681|tw12605457704967974739|tw10537202215956141646|tw9520507636531541160|tw1399667030204689102|tw4767971197417128154|tw1417487434386918030|tw6468080486601955327|tw16348302941994891604|tw2210118964710983179|tw6684185230220770309|tw5033601929390078005|tw1940430096535802348|tw5330643997965762522|tw17099913281391663569|tw6648299418780829219|tw3274327343872561343|tw6365345129012464641
open PySem PySem.W PyProof.Rows L2 Y0
set_option maxRecDepth 100000 in
set_option maxHeartbeats 0 in
theorem PySem.Challenge.cw_momentties_k15_falls_refused_holds : PySem.Challenge.rw_momentties_k15_falls_refused.Holds := by
 w_on;o_law;k_head;(case hw=>w_witness2)
 k_fill
 refine Xn (l:=PySem.Challenge.rw_momentties_k15_falls_refused) (n:=63) (k:=9) (x:="_law_script") (CX:=aw) (sp:=uh) U (by decide) U ⟨U,by decide,by decide⟩ (λw h Y=>PySem.W.kIn_of Y) ?F (λK H a ns hl hO hS=>⟨a,ns,U,vM hO hS,λ_=>rfl⟩) (λ_ _ _ _ z=>z)
 case F=>
  intro w mg fa h KX G hmg;obtain ⟨Oa,U8,J5⟩:=aT KX G "room_bounds" c7 Ċ;obtain ⟨Ob,U9,J6⟩:=aT KX G "span_bounds" cz Ĩ;obtain ⟨Ei,Ui,Jf⟩:=aT KX G "bounds_with" c8 ĝ;obtain ⟨Oc,Ea,J7⟩:=aT KX G "told_bounds" cy Ċ;obtain ⟨Ep,Uq,Jm⟩:=aT KX G "falls_by_end" br Ċ;obtain ⟨En,Uo,Jk⟩:=aT KX G "by_sum" ff Ė;obtain ⟨El,Ul,Ji⟩:=aT KX G "by_late" eh č;obtain ⟨Em,Um,Jj⟩:=aT KX G "by_soon" eg č;obtain ⟨Eo,Up,Jl⟩:=aT KX G "by_sure" ef Ĉ;obtain ⟨Ej,Uj,Jg⟩:=aT KX G "by_back" ej ē;obtain ⟨Ek,Uk,Jh⟩:=aT KX G "by_cross" dE Ĉ;obtain ⟨Od,Eb,J8⟩:=aT KX G "what_follows" bq ċ;obtain ⟨Eh,Uh,Je⟩:=aT KX G "bars_every_hand" bh Ĥ;have Ja:∃C,BL (eZ KX) mg C/\PySem.W.nsIn (eZ KX) mainGlobals "Closing"=some (some (.ref C)):=by unfold eZ;exact ⟨_,wX KX G,by k_is⟩
  obtain ⟨Ud,Ja,G9⟩:=Ja;obtain ⟨Oo,Oz,Gk⟩:=bu G9 "__init__" "Closing.__init__" de đ;obtain ⟨Op,O0,Gm⟩:=bu G9 "is_news" "Closing.is_news" ck ģ;obtain ⟨Os,O4,Gp⟩:=bu G9 "take" "Closing.take" dc ă;obtain ⟨Oj,Ov,Gg⟩:=bu G9 "draw" "Closing.draw" b_ Đ;obtain ⟨Oq,O3,Gn⟩:=bu G9 "known_of" "Closing.known_of" bb Ē;obtain ⟨Ot,O5,Gq⟩:=bu G9 "ties_to" "Closing.ties_to" bj Ę;obtain ⟨Om,Ox,Gi⟩:=bu G9 "draw_from_tie" "Closing.draw_from_tie" aX Ě;obtain ⟨On,Oy,Gj⟩:=bu G9 "draw_from_wait" "Closing.draw_from_wait" aU ġ;obtain ⟨Ol,Ow,Gh⟩:=bu G9 "draw_all" "Closing.draw_all" bU xv;obtain ⟨Oi,Ou,Ge⟩:=bu G9 "best_drawn" "Closing.best_drawn" aP ě;obtain ⟨E8,U6,J3⟩:=aT KX G "numbers_needed" bz Ď;obtain ⟨E9,U7,J4⟩:=aT KX G "paper_up_to" bP Ď;obtain ⟨Er,Ur,Jn⟩:=aT KX G "is_told" ee Ĝ;obtain ⟨Es,Us,Jo⟩:=aT KX G "kept" gD Ċ;have Jb:∃C,uO (eZ KX) mg C/\PySem.W.nsIn (eZ KX) mainGlobals "Hand"=some (some (.ref C)):=by unfold eZ;exact ⟨_,sT KX G,by k_is⟩
  obtain ⟨Ue,Jb,Ua⟩:=Jb;obtain ⟨Ia,Im,Gu⟩:=bu Ua "__init__" "Hand.__init__" eA đ;obtain ⟨Ii,Ix,G7⟩:=bu Ua "times" "Hand.times" dH xv;obtain ⟨Ic,Ip,Gw⟩:=bu Ua "is_over" "Hand.is_over" da xv;obtain ⟨Ib,Io,Gv⟩:=bu Ua "is_in_fall" "Hand.is_in_fall" cj Č;obtain ⟨Ig,Iu,Gz⟩:=bu Ua "look_over_end" "Hand.look_over_end" bw Č;obtain ⟨Ie,Ir,Gy⟩:=bu Ua "look_over" "Hand.look_over" cA Ć;obtain ⟨Ih,Iw,G0⟩:=bu Ua "tie_lets" "Hand.tie_lets" cL ď;obtain ⟨Ij,Iy,G8⟩:=bu Ua "wait_lets" "Hand.wait_lets" c9 ė;obtain ⟨Id,Iq,Gx⟩:=bu Ua "lets" "Hand.lets" cC ĕ;obtain ⟨O8,Ik,Gr⟩:=bu Ua "all_let" "Hand.all_let" bt xv;obtain ⟨O9,Il,Gs⟩:=bu Ua "goes" "Hand.goes" eB Ć;obtain ⟨Eg,Ug,Jd⟩:=aT KX G "are_two_moments" aN ć;obtain ⟨E6,U4,J1⟩:=aT KX G "look_over_size" bJ ę;obtain ⟨E7,U5,J2⟩:=aT KX G "look_over_ties" bC Ġ;obtain ⟨E5,U3,J0⟩:=aT KX G "look_over_falls" aL Ğ;have Jc:∃C,BF (eZ KX) mg C/\PySem.W.nsIn (eZ KX) mainGlobals "Web"=some (some (.ref C)):=by unfold eZ;exact ⟨_,vF KX G,by k_is⟩
  obtain ⟨Uf,Jc,Ub⟩:=Jc;obtain ⟨Of,Ed,Gb⟩:=bu Ub "__init__" "Web.__init__" eV Ą;obtain ⟨Oh,Ef,Gd⟩:=bu Ub "ties" "Web.ties" eU xv;obtain ⟨Oe,Ec,J9⟩:=bu Ub "falls" "Web.falls" ew xv;obtain ⟨Og,Ee,Gc⟩:=bu Ub "own" "Web.own" dz xv;obtain ⟨Ez,Uy,Jv⟩:=aT KX G "_law_next" h_ iv;obtain ⟨Ey,Ux,Ju⟩:=aT KX G "_law_named" jr ā;obtain ⟨Ev,Uv,Jr⟩:=aT KX G "_law_falls" jt ą;obtain ⟨E2,U0,Jx⟩:=aT KX G "_law_ties" jS UQ;obtain ⟨E3,U1,Jy⟩:=aT KX G "_law_web" pz Ā;obtain ⟨Ew,Uw,Js⟩:=aT KX G "_law_is" jT Ĕ;obtain ⟨Eu,Uu,Jq⟩:=aT KX G "_law_fallen" fg Ă;obtain ⟨E4,U2,Jz⟩:=aT KX G "_law_wrong" eT qq;obtain ⟨E1,Uz,Jw⟩:=aT KX G "_law_refused" eo ĉ;have Jp:∃f fd,Fn (eZ KX) mg "law" rO ħ f fd/\∀(s:Shared) (u:Value),BindsTo s fd ⟨[u],[]⟩ [("_law_script",u)]:=by unfold eZ;exact ⟨_,_,uD KX G,λs u=>.of_eq U⟩
  obtain ⟨Et,Ut,Jp,Uc⟩:=Jp;have CN:∃C M fI fd,tu (eZ KX) mg C M fI/\dO (eZ KX) "__init__" "NoHand.__init__" d0 fI fd/\dm (eZ KX) fd ğ []/\PySem.W.exmOne (eZ KX) (.ref C) (.ref C)=some true:=by
   unfold eZ
   refine' ⟨_,_,_,_,rJ KX G ?aC ?aM ?ex ?b1 ?b2 ?b3 ?b4 ?b5 ?b6 ?nP ?z3,Hn ?fl ?fc ?fk,?fb,?xm⟩
   (case aC|aM=>k_is)
   case ex=>
    refine' wV ?l ?no ?ni ?tl ?fn ?kp ?sa
    (case l=>k_is);(case no=>with_unfolding_all rfl);(case ni=>k_is);(case tl=>with_unfolding_all rfl);(case fn|kp|sa=>k_is)
   (case b1|b2|b3|b4|b5|b6|nP|z3=>k_is)
   (case fl|fc|fk=>k_is)
   (case xm=>with_unfolding_all rfl)
   case fb=>exact .all λus hl=>by obtain ⟨a,b,rfl⟩:=Sv us hl;rfl
  obtain ⟨cN,cM,fI,dI,TN,FI,bI,MI⟩:=CN;have CB:∃C M,(qi (eZ KX) mg C M/\mg "MomentError"=some (.ref M))/\PySem.W.exmOne (eZ KX) (.ref C) (.ref M)=some true/\xl (eZ KX) mg C false false false true false:=by
   unfold eZ
   refine' ⟨_,_,rL KX G ?aC ?aM ?ex,?xm,rK KX G ?y1 ?y2 ⟨?g1,?g2,?g3,?g4,?g5,?g6,?g7,?g8⟩ ?a1 ?q1 ?a2 ?q2 ?a3 ?q3 ?a4 ?q4 ?a5 ?q5 ?kv⟩
   (case aC|aM=>k_is)
   case ex=>
    refine' sW ?l ?no ?ni ?tl ?kp
    (case l=>k_is);(case no=>with_unfolding_all rfl);(case ni=>k_is);(case tl=>with_unfolding_all rfl);(case kp=>k_is)
   (case xm=>with_unfolding_all rfl)
   (case y1|y2|g1|g2|g3|g4|g5|g6|g7|g8=>k_is)
   (case a1|a2|a3|a4|a5=>k_is)
   (case q1=>with_unfolding_all rfl);(case q2=>with_unfolding_all rfl);(case q3=>with_unfolding_all rfl);(case q4=>with_unfolding_all rfl);(case q5=>with_unfolding_all rfl);(case kv=>with_unfolding_all rfl)
  obtain ⟨cB,cM2,⟨TB,gM⟩,exb,TI⟩:=CB;have TW:kF mg:=rG KX G;have TU:xk (eZ KX) mg:=by
   unfold eZ
   refine' rH KX G ?a ?t ?z
   (case a=>k_is);(case t=>with_unfolding_all rfl);(case z=>k_is)
  have Z:PySem.W.nsIn (eZ KX) mainGlobals "min"=some none/\PySem.W.nsIn (eZ KX) mainGlobals "max"=some none/\PySem.W.nsIn (eZ KX) mainGlobals "sorted"=some none/\PySem.W.nsIn (eZ KX) mainGlobals "all"=some none:=by
   unfold eZ
   refine' ⟨?a,?b,?c,?d⟩
   (case a|b|c|d=>k_is)
  have zl:=Ja.tc.len;have zr:=Ja.tc.range;have zt:=TU.tuple;have zm:=qf KX G Z.1;have zx:=qf KX G Z.2.1;have zs:=qf KX G Z.2.2.1;have za:=qf KX G Z.2.2.2;have e0:=hmg.symm.trans Jp.g;cases e0;refine ⟨Ut,Uc,λbase kb nb=>?gg⟩
  case gg=>
   have GN:=sf (P:=gu) (w:=w) (base:=base) Jv zl;have GM:=pE (P:=gu) (w:=w) (base:=base) Ju;have GF:=pI Jr Jv GN zm zr;have GT:=rV Jx Jv GN zm zx zr;have GW:=vS Jy Jv GN Ju GM Jr GF Jx GT;have G2:=vT (P:=gu) (w:=w) (base:=base) Jd;have GS:=r_ (P:=gu) (w:=w) (base:=base) J1 TW;have GLT:=pF J2 TW Jd G2;have GLF:=nI J0 TW Jd G2;have GI:=sv Gb.F TW Jc.tc J1 GS J2 GLT J0 GLF;have Gt:=pD (P:=gu) (w:=w) (base:=base) Gd.F TW Jc.tc;have Gf:=nU (P:=gu) (w:=w) (base:=base) J9.F TW Jc.tc;have GRo:=sd (P:=gu) (w:=w) (base:=base) J5 ⟨zr⟩ Jc.tc;have GSp:=rY (P:=gu) (w:=w) (base:=base) J6;have GBw:=rR Jf Jc.tc J5 GRo J6 GSp J9.cF J9.b Gf;have GTo:=rS J7 Jc.tc Jf GBw Gd.cF Gd.b Gt;have Ws:=pL Jm Jc.tc J9.cF J9.b Gf;have W1:=vU (P:=gu) (w:=w) (base:=base) Jk;have W2:=sr (P:=gu) (w:=w) (base:=base) Ji;have W3:=rZ (P:=gu) (w:=w) (base:=base) Jj;have W4:=rX (P:=gu) (w:=w) (base:=base) Jl ⟨zm⟩;have W5:=sE (P:=gu) (w:=w) (base:=base) Jg ⟨zm⟩;have W6:=pJ (P:=gu) (w:=w) (base:=base) Jh ⟨zm⟩;have GWf:=lN J8 TU Jk W1 Ji W2 Jj W3 Jl W4 Jg W5 Jh W6;have GBa:=sD (P:=gu) (w:=w) (base:=base) Je;have GNw:=sj (P:=gu) (w:=w) (base:=base) Gm.F Ja.tc;have Wn:=rW Gp.F Ja.tc Gm.cF Gm.b GNw Je GBa;have Wr:=sA Gg.F Ja.tc Gp.cF Gp.b Wn J8 GWf;have GKn:=pG (P:=gu) (w:=w) (base:=base) Gn.F Ja.tc;have Wm:=nG (P:=gu) (w:=w) (base:=base) Gq.F Ja.tc;have GFw:=jW Gj.F Ja.tc Gg.cF Gg.b Wr Gq.cF Gq.b Wm;have GFt:=lM Gi.F Ja.tc Gg.cF Gg.b Wr Gq.cF Gq.b Wm Gn.cF Gn.b GKn;have GDa:=lO Gh.F Ja.tc Gi.cF Gi.b GFt Gj.cF Gj.b GFw;have GCi:=pK Gk.F Ja.tc Jc.tc Gp.cF Gp.b Wn Jm Ws J7 GTo;have GBd:=sC (P:=gu) (w:=w) (base:=base) Ge.F Ja.tc zs;have GNn:=nH (P:=gu) (w:=w) (base:=base) J3 zr zs;have GPu:=lL J4 zl zt J3 GNn;have GIt:=nJ (P:=gu) (w:=w) (base:=base) Jn;have GKe:=su Jo Ja.tc ⟨Ja.Az,Gk.a,Gk.i,Ja.kc⟩ Ja.g Gk.b GCi Gh.cF Gh.b GDa Ge.cF Ge.b GBd J4 GPu Jn GIt;have GOw:=vV (P:=gu) (w:=w) (base:=base) Gc.F zr Jc.tc;have GTi:=pC (P:=gu) (w:=w) (base:=base) G7.F Jb.tc TW.list;have Wo:=nQ (P:=gu) (w:=w) (base:=base) Gv.F Jb.tc;have GLe:=jV Gz.F Jb.tc TB Gv.cF Gv.b Wo;have GTl:=lK (P:=gu) (w:=w) (base:=base) G0.F Jb.tc;have GWl:=jU (P:=gu) (w:=w) (base:=base) G8.F Jb.tc;have GLt:=so Gx.F Jb.tc za G0.cF G0.b GTl G8.cF G8.b GWl;have GAl:=nY Gr.F Jb.tc Gx.cF Gx.b GLt;have GLo:=jv Gy.F Jb.tc TB Gz.cF Gz.b GLe Gv.cF Gv.b Wo;have Wq:=pH Gs.F Jb.tc Gy.cF Gy.b GLo Gr.cF Gr.b GAl;have GNH:=vW (P:=gu) (w:=w) (base:=base) FI TN;have GHi:=nS Gu.F Jb.tc Jc.tc TN bI GNH Jo GKe Jm Ws Gc.cF Gc.b GOw;have GOv:=nK (P:=gu) (w:=w) (base:=base) Gw.F Jb.tc;have GIs:=Au (P:=gu) (w:=w) (base:=base) (wd:="fall") Js TI (by decide+kernel);have GRf:=ju Jw Jb.tc gM exb Gs.cF Gs.b Wq Js GIs;have GFa:=nV (P:=gu) (w:=w) (base:=base) Jq zr zl;have GWr:=lJ Jz zl Jv GN;exact vX Jp zr TW.list Jc.tc Jb.tc Jb.g TN.qF MI Jy GW ⟨Jc.Az,Gb.a,Gb.i,Jc.kc⟩ Gb.b GI ⟨Jb.Az,Gu.a,Gu.i,Jb.kc⟩ Gu.b GHi Jv GN G7.cF G7.b GTi Gw.cF Gw.b GOv Gs.cF Gs.b Wq Jq GFa Jz GWr Jw GRf
