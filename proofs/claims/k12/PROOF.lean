import PyProof.Rows.All
import Wide.All
import OpenK.AllK
import Wide.FinOn
import Lean
import PyProof.EqAt
import PyProof.EqKinds
import PyProof.TupleCall
import PySem.Challenge.RW_momentties_k12_whole_hands_by_play
import KE.KTabLook
import PyProof.DictWalks
import PyProof.Rows.DictUnroll
import PyProof.Rows.SortShell
import PyProof.CollectWalk
import PyProof.DictTruth
import KE.KSortTup
abbrev iv:List PySem.Str:=["_law_w","_law_now","_law_done"]
abbrev qq:List PySem.Str:=["_law_w","_law_now","_law_done","_law_seen"]
abbrev xv:List PySem.Str:=["_law_d","_law_many","_law_last","_law_wide"]
abbrev MX:List PySem.Str:=["_law_d","_law_most","_law_last","_law_wide"]
abbrev Ā:List PySem.Str:=["_law_dice","_law_many"]
abbrev ā:List PySem.Str:=["_law_moment","_law_many","_law_turn"]
abbrev Ă:List PySem.Str:=["self","what","word","used"]
abbrev ă:List PySem.Str:=["self","many","last","ties","falls"]
abbrev Ą:List PySem.Str:=["_law_d","_law_many","_law_wide"]
abbrev ą:List PySem.Str:=["many","one","other"]
abbrev Ć:List PySem.Str:=["falls","wait"]
abbrev ć:List PySem.Str:=["falls","word","used"]
abbrev Ĉ:List PySem.Str:=["falls","tie"]
abbrev ĉ:List PySem.Str:=["rows","last"]
abbrev Ċ:List PySem.Str:=["_law_w","_law_done"]
abbrev ċ:List PySem.Str:=["web"]
abbrev Č:List PySem.Str:=["self","word","used"]
abbrev č:List PySem.Str:=["self"]
abbrev Ď:List PySem.Str:=["self","kind","a"]
abbrev ď:List PySem.Str:=["falls","wait","tie"]
abbrev Đ:List PySem.Str:=["first","second"]
abbrev đ:List PySem.Str:=["self","b"]
abbrev Ē:List PySem.Str:=["many","last"]
abbrev ē:List PySem.Str:=["self","at","a","b"]
abbrev Ĕ:List PySem.Str:=["self","kind"]
abbrev ĕ:List PySem.Str:=["by_end","wait"]
abbrev Ė:List PySem.Str:=["web","ties"]
abbrev ė:List PySem.Str:=["many","falls"]
abbrev Ę:List PySem.Str:=["many","ties"]
abbrev ę:List PySem.Str:=["self","at","a"]
abbrev Ě:List PySem.Str:=["self","what"]
abbrev ě:List PySem.Str:=["_law_way","_law_moment","_law_now"]
abbrev Ĝ:List PySem.Str:=["what"]
abbrev ĝ:List PySem.Str:=["self","web"]
abbrev Ğ:List PySem.Str:=["_law_way","_law_end","_law_now"]
abbrev ğ:List PySem.Str:=["_law_k","_law_d","_law_last"]
abbrev Ġ:List PySem.Str:=["_law_w"]
abbrev ġ:List PySem.Str:=["_law_script"]
abbrev Ģ:List PySem.Str:=["spans"]
theorem U{a:α}:a=a:=rfl
abbrev kF := @Int.le_trans
abbrev h_ := @List.mem_append_left
abbrev lV := @Array.toList_append
abbrev yh := @List.length_drop
abbrev lB := @Nat.le_succ
abbrev eA := @Int.le_of_lt
abbrev lA := @Int.toNat_of_nonneg
abbrev nG := @PySem.mem_of_lookup
abbrev oH := @Array.length_toList
abbrev F_ := @Bool.eq_false_iff
abbrev aQ := @Ne.symm
abbrev rz := @List.mem_iff_getElem?
abbrev qo := @PySem.W.mg_none_of
abbrev ab := @PySem.wpAny_bind
abbrev aG := @PySem.wpAny_pure
abbrev qm := @PySem.F.plainAttrs_list
abbrev oG := @PySem.F.slot_list_append
abbrev ql := @PySem.F.type_list_append
abbrev ax := @List.length_map
abbrev eP := @List.getElem?_eq_some_iff
abbrev aj := @Nat.le_refl
abbrev gp := @List.getElem?_eq_getElem
abbrev df := @PySem.Heap.get?_push_of_some
abbrev eO := @Classical.byContradiction
abbrev dC := @List.getElem?_map
abbrev fg := @List.mem_of_getElem?
abbrev f7 := @List.size_toArray
abbrev ff := @List.length_append
abbrev eI := @List.mem_cons_of_mem
abbrev dB := @List.mem_cons_self
abbrev d_ := @Bool.false_ne_true
abbrev dG := @Option.some.inj
abbrev eQ := @List.lookup_cons
abbrev eH := @List.map_append
abbrev cN := @Nat.zero_le
abbrev aP := @Nat.le_of_lt
abbrev dz := @PySem.Heap.lt_size
abbrev dF := @List.mem_singleton
abbrev eG := @List.mem_cons
abbrev dt := @List.map_cons
abbrev c7 := @Nat.le_trans
abbrev hY := @PySem.Heap.get?_push_size
abbrev gC := @List.take_length
abbrev eF := @Nat.ne_of_lt
abbrev lT := @List.getElem?_append_right
abbrev fU := @List.length_take
abbrev gn := @Nat.lt_of_lt_of_le
abbrev i5 := @List.mem_append_right
abbrev fe := @List.mem_append
abbrev jl := @List.length_cons
abbrev nC := @List.getElem?_append_left
abbrev cn := @List.mem_map
abbrev ye := @List.getElem_of_mem
abbrev yd := @List.pairwise_iff_getElem
abbrev hX := @List.take_succ
abbrev uh := @List.length_replicate
abbrev jK := @List.all_eq_true
abbrev iU := @Int.toNat_natCast
abbrev ug := @decide_eq_true_eq
abbrev yg := @List.getD_eq_getElem?_getD
abbrev iD := @Nat.lt_irrefl
abbrev rr := @List.getElem_mem
abbrev jm := @Nat.le_of_not_lt
abbrev lU := @Nat.not_lt_zero
abbrev kE := @beq_self_eq_true
abbrev ew := @decide_eq_true
abbrev cF := @decide_eq_false
abbrev rq := @PySem.Heap.get?_update_other
abbrev eN := @Nat.le.refl
abbrev fQ := @Nat.le.step
abbrev hQ := @False.elim
abbrev fO := @Int.le_refl
abbrev jJ := @Int.NonNeg.mk
abbrev l9 := @Nat.lt_of_le_of_lt
abbrev yc := @PySem.Heap.get?_update_self
abbrev x_ := @List.filterMap_cons
abbrev rp := @List.length_range
abbrev kr := @Bool.and_eq_true
abbrev ro := @List.pairwise_map
abbrev vj := @List.extract_eq_take_drop
abbrev xZ := @List.eq_nil_of_length_eq_zero
abbrev ue := @List.foldl_append
abbrev oE := @List.append_assoc
abbrev l8 := @Nat.le_add_right
abbrev F' := @PySem.Obj.data_mapFields
abbrev rn := @PySem.W.mg_of
abbrev oD := @List.mem_filterMap
abbrev n9 := @List.mem_range
abbrev O3 := @Array.getElem?_eq_some_iff
abbrev aM := @PyProof.Rows.wpS_pure
abbrev aO := @PyProof.Rows.wpS_bind
abbrev gB := @PySem.PassesOwn.never
abbrev hV := @PySem.wpAny_mono
abbrev i4 := @PySem.Paired.length
abbrev uf := @List.append_nil
abbrev nA := @PySem.wpAny_field
abbrev kD := @PySem.wpAny_holding
abbrev oF := @PySem.wpAny_truthy_bool
abbrev qk := @PySem.wpAny_newObj_type
abbrev xY := @PySem.wpAny_setField
abbrev rm := @Nat.le_of_lt_succ
abbrev vi := @PySem.wpAny_callSpecial?_slot
abbrev n7 := @getElem?_pos
abbrev rk := @PySem.wpAny_call_entry
abbrev AX := @PySem.wpAny_Call_Name_kw
abbrev ub := @Nat.sub_add_cancel
abbrev jk := @PyProof.Rows.wpS_mono
abbrev ua := @Nat.le_of_eq
abbrev vh := @Nat.add_le_add_right
abbrev vg := @Array.toList_extract
abbrev t_ := @PySem.wpAny_attempt
abbrev AW := @PySem.wpAny_typeNameOfWhole_keyiter
abbrev oB := @List.map_nil
abbrev xX := @Int.natCast_nonneg
abbrev tZ := @PySem.wpAny_passesOwn
abbrev xW := @PySem.F.slot_dict_keyiterator_next
abbrev xV := @List.filterMap_append
abbrev AV := @Array.getElem?_toList
abbrev A_ := @PyProof.Rows.callWith_type1
abbrev oC := @PySem.wpAny_rule
abbrev ud := @Sum.inl.inj
abbrev uc := @List.nodup_nil
abbrev A' := @PySem.wpAny_typeNameOf_keyiter
abbrev AZ := @List.length_filterMap_le
abbrev AY := @List.getElem?_take_of_lt
abbrev AR := @PySem.wpAny_execs_nil
abbrev FY := @List.getElem?_replicate
abbrev vf := @Nat.ne_of_gt
abbrev FX := @PySem.Heap.size_push
abbrev xQ := @Nat.lt_trichotomy
abbrev lS := @Nat.lt_succ_of_lt
abbrev O2 := @List.getElem?_set_self
abbrev AQ := @List.take_append_drop
abbrev qj := @Nat.lt_succ_self
abbrev tY := @List.any_cons
abbrev ve := @List.all_cons
abbrev qi := @List.mem_of_mem_take
abbrev vd := @List.map_congr_left
abbrev n6 := @PyProof.Rows.wpS_get
abbrev AO := @PySem.codeAny_mono
abbrev AN := @PySem.tupleKind_room_in1
abbrev tX := @Nat.pos_of_ne_zero
abbrev AM := @Nat.lt_or_eq_of_le
abbrev O1 := @List.mem_of_find?_eq_some
abbrev FU := @List.drop_eq_getElem_cons
abbrev AL := @PySem.wpAny_dictEntries
abbrev AK := @Array.toList_push
abbrev AU := @PySem.wpAny_standAt
abbrev xU := @Nat.add_assoc
abbrev xT := @Int.ofNat.inj
abbrev FZ := @List.Pairwise.imp_of_mem
abbrev rj := @PyProof.Rows.wpS_lift
abbrev xS := @PySem.wpAny_eqBool_int
abbrev AS := @Nat.not_lt_of_le
abbrev xR := @PyProof.Rows.wpS_forRange
abbrev FO := @PySem.W.cellsFrom_some
abbrev xO := @List.take_of_length_le
abbrev AJ := @Option.map_some
abbrev xN := @List.range_succ
abbrev AI := @List.of_mem_zip
abbrev AH := @Bool.eq_iff_iff
abbrev FL := @PySem.wpAny_isOneOf_keyiter
abbrev FJ := @List.perm_append_comm
abbrev FI := @Classical.choose_spec
abbrev AG := @PySem.wpAny_fieldsOf
abbrev FH := @Array.toList_reverse
abbrev FG := @Nat.add_le_add_left
abbrev xM := @PyProof.Rows.wpS_modify
abbrev FC := @Nat.lt_of_le_of_ne
abbrev AF := @Nat.zero_add
abbrev xP := @Option.isSome_map
abbrev FR := @List.reverse_perm
abbrev O0 := @List.take_succ_eq_append_getElem
abbrev FQ := @PyProof.Rows.slot_tuple_getitem
abbrev Oz := @PySem.F.args_dict_keyiterator_next_1
abbrev AE := @PyProof.Rows.wpS_reverse
abbrev AD := @PyProof.Rows.mirror_perm
abbrev AB := @PySem.Paired.snoc
abbrev Oy := @PySem.F.entry_dict_keyiterator_next
abbrev F9 := @PySem.wpAny_dictEpoch
abbrev F8 := @PySem.codeAny_builtin
abbrev oA := @List.length_set
abbrev F7 := @Int.emod_nonneg
abbrev AA := @PyProof.Rows.size_push'
abbrev ZGo := @Nat.sub_le
abbrev Fz := @Nat.add_le_add
abbrev Ox := @PySem.wpAny_newFunctionEnv_cells
abbrev Ow := @PySem.F.slot_range_iterator_next
abbrev Ov := @PySem.Calls.Name_function_global
abbrev Ou := @Nat.lt_of_add_lt_add_left
abbrev aW := PySem.W.Frag
noncomputable abbrev gm := PySem.Challenge.rw_momentties_k12_whole_hands_by_play.prog
noncomputable section
variable {P:PySem.Program} {w:PySem.World} {K:aW} {mg:PySem.Str->Option PySem.Value} {base:PySem.Heap}
set_option linter.all false
section
variable {a b c d e f g h k l m n:Nat} {p q r s t u v w x y z:Int}
theorem mn:p<=p:=fO p
theorem PX:¬a<b->b+(a-b)=a:=by lia
theorem BY:a<=b->a<b+1:=Nat.lt_succ_of_le
theorem qH:a<b->b-(a+1)<b-a:=Nat.sub_succ_lt_self b a
theorem Ks:1<=a->b=c+a->b-1<b:=by omega
theorem PY:a<b->0<b:=Nat.zero_lt_of_lt
theorem zp:a<min b c-d->d+a<c:=by omega
theorem BZ:a<b->c<=a+1->c<=b:=λi j=>c7 j i
theorem PZ:a<b->¬a=0->a-1<Int.toNat ((b:Int)-1):=by omega
theorem zq:a+b<=c->b<=c-a:=Nat.le_sub_of_add_le'
theorem P':¬a<b->b+c+(a+c-(b+c))=a+c:=by omega
theorem B':a+b<=c->a+(c-a)=c:=by lia
theorem vW:a<b->b<=a->False:=by lia
theorem vX:a<=b->a+(b-a)<=b:=by lia
theorem jV:¬p<q->q<=p:=by lia
theorem Kt:a=b+c->a=b+d->c=d:=by lia
theorem P_:a+b<c->a<c:=Nat.lt_of_add_right_lt
theorem Qw:p<=q->p<=max q r:=by lia
theorem jz:0<=p->q<=q+p:=Int.le_add_of_nonneg_right
theorem Qx:a<=b->c-b<=c-a:=λi=>Nat.sub_le_sub_left i c
theorem Ku:¬a=0->a-1<a:=Nat.sub_one_lt
theorem zu:a<b->b<c->a<c:=Nat.lt_trans
theorem Qy:p<q->¬q=p:=Int.ne_of_gt
theorem Kv:a<b->c=b+d->c=a->e=f:=by lia
theorem sj:a<=b->a+c<=b+c:=λi=>vh i c
theorem Kw:a-b<=c->a<=c+b:=Nat.le_add_of_sub_le
theorem Kx:a+b<=c->d<=b->¬d<=e->a+(e+(d-e)/2)<c:=by lia
theorem Qz:a+b<=c->a=d->b=e->d+e<=c:=by lia
theorem zI:a<=b->b<=c->a+(b-a)<=c:=by lia
theorem Q0:¬a<b->b+c+(a+c-(b+c))<=a+c:=by lia
theorem B_:a<min b c->a<b:=by lia
theorem Ca:a+3*(b+c)+d<e->a+c+3*b+d<e:=by lia
theorem qI:a<=b->¬a<b->a=b:=by lia
theorem Q1:a<b->a+(b-a)=b:=by lia
theorem Ky:a<b->c=b+d->c=a->False:=by lia
theorem Kz:1<a->¬a-1=1->1<a-1:=by lia
theorem vY:a=b->a<=c->b<=c:=λi j=>le_of_eq_of_le (i.symm) j
theorem uC:a<b->¬a+1=b->a+1<b:=FC
theorem Q2: -max p (-q)<=q:=by lia
theorem JZ:a<b->b-1<b:=Nat.sub_one_lt_of_lt
theorem J':a+16*(b+1)+c<d->a+3+16*b+c<d:=by lia
theorem so:p<=q->q<=r->p<=r:=kF
theorem zJ:a+1<b->b<=8->a<7:=by lia
theorem Cb:a+b<=c->d=c->a<=d:=by lia
theorem J_:a<b->7*a+7+(7*b-(7*a+7))=7*b:=by omega
theorem Q3:a+16*(b+c)+d<e->a+c+16*b+d<e:=by lia
theorem Cc:a<b->(a:Int)<(b:Int):=by lia
theorem zK:a+b<=c->d<b->a+d-e<c:=by omega
theorem zL:(a:Int)<=8->a<=8:=Int.ofNat_le.mp
theorem Q4:¬a=0->((a-1:Nat):Int)+1=(a:Int):=by lia
theorem sr:a<b+1->¬a=b->a<b:=by lia
theorem su:a<b-c->c+a<b:=Nat.add_lt_of_lt_sub'
theorem h9:a<=a+b:=l8 a b
theorem Q5:a+16*b+c<d->e<=b->a+16*e+c<d:=by lia
theorem Ka:a<b+c->b=d+e->f=e-g+c->¬e-g=0->a-(d+g)<f:=by lia
theorem mq:¬a<b->b<=a:=jm
theorem Qg:a+b+200<c->a+64<c:=by lia
theorem Qh:a<b->a-c<b:=Nat.sub_lt_of_lt
theorem Cd:a<b->a<=b-1:=Nat.le_sub_one_of_lt
theorem Kb:a<=b->¬0<b-a->a=b:=by lia
theorem Qi:a<b->0<b-a:=Nat.zero_lt_sub_of_lt
theorem Kc:a<b+1->a<=b:=rm
theorem ph:a<=b->b<=c->a<=c:=c7
theorem uD:a=b->b<=c->a<=c:=le_of_eq_of_le
theorem Qj:a+3*b+c<d->e<=b->a+3*e+c<d:=by lia
theorem Qk:p<q->p<=q:=eA
theorem vZ:a+b<=c->d=c->e<=b->a+e<=d:=by lia
theorem Kd:a<b->b=c->a<c:=Nat.lt_of_lt_of_eq
theorem Ke:a=b->b<=c->a+(c-a)=c:=by lia
theorem lO:a+b<=c->d<b->a+d<c:=by lia
theorem Ql:1<=a->a-1<a:=Nat.sub_one_lt_of_lt
theorem Kf:a+b+c<d->a<d:=by lia
theorem Kg:a<min b c-d->d+a<b:=by omega
theorem kQ:p<=q->p<=q:=λi=>i
theorem Ce:a<=2->min b a<=1000:=by lia
theorem oq:a<b->c+a<c+b:=λi=>Nat.add_lt_add_left i c
theorem Cf:a<=b+c->b<=d+e->a<=d+(c+e):=by lia
theorem Qm:¬(a:Int)<0:=Int.not_ofNat_neg a
theorem Qn:0<=p->p<(a:Int)->Int.toNat p<a:=by lia
theorem zM:2<=p->0<p-1:=by lia
theorem sv:a<=b->c+a<=c+b:=by lia
theorem eT:a<b->b<=c->a<c:=gn
theorem Cg:a<b->a<b+c:=Nat.lt_add_right c
theorem zN:0<=p->((Int.toNat p:Nat):Int)=p:=lA
theorem v_:a<b->c=b->a<c:=λi j=>Nat.lt_of_lt_of_eq i (j.symm)
theorem wa:a<=b->¬a=b->a<b:=FC
theorem ot:¬a=0->0<a:=Nat.zero_lt_of_ne_zero
theorem Kh:a<b->c<=c+b-1-a:=by omega
theorem Ki:min a b=a->a<=b:=by lia
theorem ou:a<b->a<b:=λi=>i
theorem sA:¬a<=b->b<a:=Nat.lt_of_not_le
theorem Ci:a<b+c->b<=a->a-b<c:=λi j=>Nat.sub_lt_left_of_lt_add j i
theorem Qo:a+1<=b-c->c+a<b:=Nat.add_lt_of_lt_sub'
theorem jW:a<=b->a+(b-a)=b:=Nat.add_sub_cancel'
theorem qJ:¬p<=q->q<p:=Int.lt_of_not_ge
theorem Qp:a+b-1=c->¬b=0->a+(b-1)=c:=by lia
theorem Qq: -p<=q->-max p r<=q:=by lia
end
set_option Elab.async false
set_option maxRecDepth 100000
namespace L2
open PySem PySem.Spec PyProof.Rows
abbrev v8 (C:Addr) (a:Option Addr) (t b:Value):Obj:={ cls:=.ref C,dict:=a,data:=.fields #[t,b,.none,.none,.bool false,.none] }
def Hd (A:Around) (h:Heap):Prop:=A.handled=none\/∃(a C:Addr) (b:Option Addr) (t c:Value),A.handled=some (.ref a)/\h.get? a=some (v8 C b t c)
theorem RX:entryFor table "proto.unchain"=some Builtin.«proto.unchain»:=entryFor_of_tree (by kernel_rfl)
section
theorem Hd.keep (q:Hd A h) (k:∀b C c t d,h.get? b=some (v8 C c t d)->h'.get? b=some (v8 C c t d)):Hd A h':=by
 rcases q with q | ⟨a,C,c,t,d,q,e⟩
 ·exact .inl q
 ·exact .inr ⟨a,C,c,t,d,q,k a C c t d e⟩
theorem P1 (q:Hd A s.heap) (b:s.heap.get? e=some I) (g:∃n,I.cls=.type n) (d:I.data=.fields vs) (i:2<vs.size)
 (h:∀h',Heap.SameBut e s.heap h'->(∃o,h'.get? e=some o/\o.cls=I.cls)->E (.ref e) { s with heap:=h' }):wpAny (model prog w) A (raiseNew (.ref e):Sem α) Q E s:=by
 unfold raiseNew;refine ab (wpAny_handled ?_);rcases q with q | ⟨a,C,k,t,l,q,c⟩
 ·rw [q];exact ab (aG (wpAny_throw (h s.heap (Heap.SameBut.refl ..) ⟨I,b,U⟩)))
 ·rw [q];have j:a≠e:=λz=>by
   rw [z,b] at c;obtain ⟨n,f⟩:=g;rw [dG c] at f;cases f
  dsimp only;rw [if_pos (show (Value.ref a !=Value.ref e)=true by simp [j])];refine ab (kD (wpAny_runValue (F8 RX ?_)));show wpAny _ _ (field (.ref a) 2>>=_) _ _ s;refine ab (nA c U (x:=.none) U ?_);rw [if_pos (by rfl)];refine ab (aG (aG ?_));refine ab (xY (a:=e) b d i ?_);exact wpAny_throw (h _ (Heap.SameBut.update ..) ⟨_,yc _ b (Obj.isFreed_of_fields (F' d _)),Obj.cls_mapFields ..⟩)
theorem yW (q:Hd A s.heap)
 (h:∀e h',(∀b o,s.heap.get? b=some o->h'.get? b=some o)->(∃o,h'.get? e=some o/\o.cls=.type "StopIteration")->E (.ref e) { s with heap:=h' }):
 wpAny (model prog w) A (newExc (.type "StopIteration") []>>=λx=>(raiseNew x:Sem α)) Q E s:=by
 refine ab ?_;unfold newExc newTuple;refine ab (qk ?_ (by size_fits));refine ab (wpAny_of_eq (a:=Value.none) (by first | rfl | (simp only [firstArgMember];rfl)) ?_);refine qk ?_ (by size_fits);refine P1 (q.keep λb C i t k e=>df _ (df _ e)) (hY _ U) ⟨_,U⟩ U (by simp;exact aP (Nat.le_add_left (Nat.succ 2).succ 2)) λh' g ⟨o,f,d⟩=>?_;refine h _ h' (λb j e=>?_) ⟨o,f,d⟩;have c:=df (h:=s.heap) { cls:=.type "tuple",data:=.seq ([]:List Value).toArray } e;exact (g.2 b (eF (dz c))).trans (df _ c)
theorem yO {a:Addr} {s0:Shared} {e:Addr} {h':Heap} {Q:Option Value->Shared->Prop} (k:∀b o,b≠a->s0.heap.get? b=some o->h'.get? b=some o) (t:∃o,h'.get? e=some o/\o.cls=.type "StopIteration") (f:∀h',Heap.ExtBut a s0.heap h'->Q none { s0 with heap:=h' }):
 wpAny (model prog w) A (isInstance (.ref e) (.type "StopIteration")) (λb s'=>b=true/\Q none s') E { s0 with heap:=h' }:=by
 obtain ⟨o,c,d⟩:=t;exact wpAny_isInstance (T:="StopIteration") (b:=true) ⟨o,c,d⟩ isSubtype_stop ⟨U,f h' λb u g e=>k b u g e⟩
theorem R8 {a l:Addr} {i:Nat} {g:Array Value} {Q:Option Value->Shared->Prop} (q:Hd A s.heap) (st:s.heap.IsListIter a l i) (n:s.heap.IsList l g) (r:g[i]?=none)
 (m:∀h',Heap.ExtBut a s.heap h'->Q none { s with heap:=h' }):wpAny (model prog w) A (pyNext (.ref a)) Q E s:=by
 obtain ⟨u,c,j,d⟩:=id st;obtain ⟨v,p,_,F,k⟩:=n;unfold pyNext;refine ab (t_ (vi (name:=Str.ofString "__next__") st.typeIs slot_listiter_next (rk slot_listiter_next st.typeIs entry_listiter_next ?_ (args_listiter_next _))));show wpAny _ _ (field (.ref a) 0>>=_) _ _ s;refine ab (nA c d (x:=.ref l) U ?_);rw [if_neg (show ¬((Value.ref l==Value.none)=true) from d_)];refine ab (nA c d (x:=.int i 0) U (ab (wpAny_seqItems p k ?_)));simp only [iU,r];refine ab (oC (ab (xY c d (by simp) ?_)));have h:∀b o,b≠a->s.heap.get? b=some o->(s.heap.update a (Obj.mapFields (·.setIfInBounds 0 Value.none))).get? b=some o:=λb o f e=>(rq _ _ (aQ f)).trans e;refine yW (A:=A.in1) (s:={ s with heap:=s.heap.update a (Obj.mapFields (·.setIfInBounds 0 Value.none)) }) (Hd.keep (A:=A.in1) q λb C D t H e=>h b _ (λz=>?_) e) λe h' y B=>?_
 ·rw [z,c] at e;cases e;cases j
 ·refine ab (hV (yO (s0:=s) (λb o f z=>y b o (h b o f z)) B m) (λb G z=>?_) λ_ _ z=>z);obtain ⟨rfl,z⟩:=z;exact aG z
theorem LB {a:Addr} {x left c:Int} {Q:Option Value->Shared->Prop} (q:Hd A s.heap) (st:IsRangeIter s.heap a x left c) (g:left<=0)
 (f:∀h',Heap.ExtBut a s.heap h'->Q none { s with heap:=h' }):wpAny (model prog w) A (pyNext (.ref a)) Q E s:=by
 have d:s.TypeIs (.ref a) "range_iterator":=⟨_,st,U⟩;unfold pyNext;refine ab (t_ (vi (name:=Str.ofString "__next__") d Ow (rk Ow d F.entry_range_iterator_next ?_ (F.args_range_iterator_next_1 _))));show wpAny _ _ (field (.ref a) 0>>=_) _ _ s;refine ab (nA st U (x:=rawInt x) U (ab (nA st U (x:=rawInt left) U (ab (nA st U (x:=rawInt c) U ?_)))));show wpAny _ _ (if left<=0 then _ else _) _ _ s;rw [if_pos g];refine ab (oC ?_);refine ab ?_;refine yW (A:=A.in1) (s:=s) q λe h' h i=>?_;refine ab (hV (yO (s0:=s) (λb o _ z=>h b o z) i f) (λb j z=>?_) λ_ _ z=>z);obtain ⟨rfl,z⟩:=z;exact aG z
theorem L5 {a t:Addr} {i:Nat} {g:Array Value} {Q:Option Value->Shared->Prop} (q:Hd A s.heap) (st:IsTupIter s.heap a t i) (m:IsTup s.heap t g) (p:g[i]?=none)
 (l:∀h',Heap.ExtBut a s.heap h'->Q none { s with heap:=h' }):wpAny (model prog w) A (pyNext (.ref a)) Q E s:=by
 obtain ⟨u,c,j,d⟩:=id st;obtain ⟨v,n,_,D,k⟩:=m;unfold pyNext;refine ab (t_ (vi (name:=Str.ofString "__next__") st.typeIs slot_tupleiter_next (rk slot_tupleiter_next st.typeIs entry_tupleiter_next ?_ (args_tupleiter_next _))));show wpAny _ _ (field (.ref a) 0>>=_) _ _ s;refine ab (nA c d (x:=.ref t) U ?_);rw [if_neg (show ¬((Value.ref t==Value.none)=true) from d_)];refine ab (nA c d (x:=.int i 0) U (ab (wpAny_seqItems n k ?_)));simp only [iU,p];refine ab (oC (ab (xY c d (by simp) ?_)));have h:∀b o,b≠a->s.heap.get? b=some o->(s.heap.update a (Obj.mapFields (·.setIfInBounds 0 Value.none))).get? b=some o:=λb o f e=>(rq _ _ (aQ f)).trans e;refine yW (A:=A.in1) (s:={ s with heap:=s.heap.update a (Obj.mapFields (·.setIfInBounds 0 Value.none)) }) (Hd.keep (A:=A.in1) q λb C B H G e=>h b _ (λz=>?_) e) λe h' r y=>?_
 ·rw [z,c] at e;cases e;cases j
 ·refine ab (hV (yO (s0:=s) (λb o f z=>r b o (h b o f z)) y l) (λb F z=>?_) λ_ _ z=>z);obtain ⟨rfl,z⟩:=z;exact aG z
theorem Q_ (q:Hd A s.heap) (a:IsTup s.heap t items) (j:targets.length=items.size) (l:targets.findIdx? (·.1)=none)
 (h:∀h',Heap.ExtBut s.heap.objs.size s.heap h'->wpAny (model prog w) A (assignInOrder (targets.map (·.2)) items.toList) Q E { s with heap:=h' }):wpAny (model prog w) A (unpack (.ref t) targets) Q E s:=by
 have f:t≠s.heap.objs.size:=by obtain ⟨o,k,_⟩:=a;exact eF (dz k)
 unfold unpack;rw [j,l];refine ab (kD ?_);unfold unpackItems notIterableAtAll;refine ab (ab (wpAny_specialOf a.typeIs slot_tuple_iter.lookup (aG ?_)));simp only [Bool.false_eq_true,if_false];refine ab (kD (iter_tuple a ?_));refine ab (kD (draw_tuple f items.size 0 _ _ ⟨_,hY _ U,U,U⟩ (a.push _) (by lia) λg r c=>?_));have i:List.take items.size (List.drop 0 items.toList)=items.toList:=by rw [List.drop_zero];exact xO (by simp)
 rw [i,if_neg (by simp)];have m:IsTup g t items:=(a.push _).extBut c.extBut f;refine ab (kD (L5 (s:={ s with heap:=g }) (Hd.keep q λb C u x v e=>(c.2 b (eF (dz e))).trans (df _ e)) r m (by simp) λn p=>?_));simp only [Option.isSome_none,Bool.false_eq_true,if_false];exact aG (h n λb o d e=>p b o d (c.extBut b o d (df _ e)))
theorem Sa {a:Int} {i n:Nat} (l:i<n) (st:IsRangeIter s.heap it (a+(i:Nat)*1) ((n:Int)-(i:Nat)) 1)
 (f:∀(t:Tok) h' k,IsRangeIter h' it (a+((i+1:Nat):Int)*1) ((n:Int)-((i+1:Nat):Int)) 1->(∀b o,b∉[it]->s.heap.get? b=some o->h'.get? b=some o)->Q (some (.int (a+(i:Nat)*1) t)) { s with heap:=h',toks:=k }):
 wpAny (model prog w) A (pyNext (.ref it)) Q E s:=by
 refine wpAny_pyNext_range_item st (by lia) λh' j h=>?_;refine f _ h' _ ?_ λb o g e=>h.extBut b o (λz=>g (by simp [z])) e;have c:a+((i+1:Nat):Int)*1=a+(i:Int)*1+1:=by lia
 have d:(n:Int)-((i+1:Nat):Int)=(n:Int)-(i:Int)-1:=by lia
 rw [c,d];exact j
end
abbrev Key:=Sum Int Str
def rN:Key->Value->Bool
 | .inl k,v=>Value.isInt k v
 | .inr x,v=>Value.isStrOf x v
def Ss (w:World):Key->Int
 | .inl k=>hashInt k
 | .inr x=>hashStr w x
theorem oz:∀{k:Key} {v:Value},rN k v=true->(∃i t,k=Sum.inl i/\v=Value.int i t)\/(∃x t,k=Sum.inr x/\v=Value.str x t)
 | .inl i,v,h=>by obtain ⟨t,e⟩:=Value.isInt_shape (k:=i) (v:=v) h;exact .inl ⟨i,t,U,e⟩
 | .inr x,v,h=>by obtain ⟨t,e⟩:=Value.isStrOf_shape (x:=x) (v:=v) h;exact .inr ⟨x,t,U,e⟩
theorem QE (i:Int) (t:Tok):rN (.inl i) (.int i t)=true:=by simp [rN,Value.isInt]
theorem QF (x:Str) (t:Tok):rN (.inr x) (.str x t)=true:=by simp [rN,Value.isStrOf]
theorem US (a b:Int):decide ((Sum.inl a:Key)=Sum.inl b)=(a==b):=by
 by_cases e:a=b
 ·subst e;simp
 ·have h:¬(Sum.inl a:Key)=Sum.inl b:=λq=>e (ud q);rw [cF h];exact (beq_eq_false_iff_ne.mpr e).symm
theorem UW (a b:Str):decide ((Sum.inr a:Key)=Sum.inr b)=decide (a=b):=by
 by_cases e:a=b
 ·subst e;simp
 ·have h:¬(Sum.inr a:Key)=Sum.inr b:=λq=>e (Sum.inr.inj q);rw [cF h,cF e]
theorem UT (a:Int) (b:Str):decide ((Sum.inl a:Key)=Sum.inr b)=false:=cF nofun
theorem UU (a:Str) (b:Int):decide ((Sum.inr a:Key)=Sum.inl b)=false:=cF nofun
def jx (prog:Program) (w:World):PySem.KeyKind prog w Key where
 is:=rN
 hash:=Ss w
 inj:=λv a b g f=>by
  rcases oz g with ⟨i,t,rfl,rfl⟩ | ⟨x,t,rfl,rfl⟩
  ·rcases oz f with ⟨j,u,rfl,e⟩ | ⟨y,u,rfl,e⟩
   ·injection e with c _;rw [c]
   ·exact nomatch e
  ·rcases oz f with ⟨j,u,rfl,e⟩ | ⟨y,u,rfl,e⟩
   ·exact nomatch e
   ·injection e with c _;rw [c]
 byValue:=λk v h=>by rcases oz h with ⟨i,t,rfl,rfl⟩ | ⟨x,t,rfl,rfl⟩<;>rfl
 pyHash:=λd h=>by
  rcases oz d with ⟨i,t,rfl,rfl⟩ | ⟨x,t,rfl,rfl⟩
  ·exact wpAny_pyHash_int h
  ·exact wpAny_pyHash_str h
 eqBool:=λl d h=>by
  rcases oz l with ⟨i,t,rfl,rfl⟩ | ⟨x,t,rfl,rfl⟩
  ·rcases oz d with ⟨j,u,rfl,rfl⟩ | ⟨y,u,rfl,rfl⟩
   ·rw [US] at h;exact xS h
   ·rw [UT] at h;exact SeqAt.EqAt.int_str i t y u _ _ _ _ h
  ·rcases oz d with ⟨j,u,rfl,rfl⟩ | ⟨y,u,rfl,rfl⟩
   ·rw [UU] at h;exact SeqAt.EqAt.str_int x t j u _ _ _ _ h
   ·rw [UW] at h;exact wpAny_eqBool_str h
 «strs»:=λk x t v h=>by
  rcases oz h with ⟨i,u,rfl,e⟩ | ⟨y,u,rfl,e⟩
  ·exact nomatch e
  ·injection e with c _
   subst c;cases v<;>rfl
theorem RB (prog:Program) (w:World) (i:Int) (t:Tok):(jx prog w).is (.inl i) (.int i t)=true:=QE i t
theorem RC (prog:Program) (w:World) (x:Str) (t:Tok):(jx prog w).is (.inr x) (.str x t)=true:=QF x t
inductive V where
 | aH | bl (b:Bool) | int (i:Int) | str (x:Str) | kq (b:Array UInt8) | qe (b:UInt64) | ref (a:Addr) | ty (n:String)
 deriving DecidableEq
def bo:V->Value->Prop
 | .aH,u=>u=Value.none
 | .bl b,u=>u=Value.bool b
 | .int i,u=>∃t,u=Value.int i t
 | .str x,u=>∃t,u=Value.str x t
 | .kq b,u=>∃t,u=Value.bytes b t
 | .qe b,u=>∃t,u=Value.float b t
 | .ref a,u=>u=Value.ref a
 | .ty n,u=>u=Value.type n
abbrev ba:List V->List Value->Prop:=Paired bo
theorem ba.length (r:ba xs us):xs.length=us.length:=i4 r
theorem ba.get:∀{xs:List V} {us:List Value} {i:Nat} {x:V},ba xs us->xs[i]?=some x->∃u,us[i]?=some u/\bo x u
 | _,_,_,_,.nil,e=>by simp at e
 | _,_,0,_,.cons r _,e=>by simp at e;subst e;exact ⟨_,U,r⟩
 | _,_,i+1,x,.cons _ t,e=>by obtain ⟨u,a,b⟩:=ba.get (i:=i) (x:=x) t (by simpa using e);exact ⟨u,by simpa using a,b⟩
theorem ba.set (r:bo x u):∀{xs:List V} {us:List Value} (i:Nat),ba xs us->ba (xs.set i x) (us.set i u)
 | _,_,_,.nil=>.nil
 | _,_,0,.cons _ t=>.cons r t
 | _,_,i+1,.cons q t=>.cons q (ba.set r i t)
theorem ba.append {xs ys:List V} {us a:List Value} (h:ba xs us) (s:ba ys a):ba (xs++ys) (us++a):=by
 induction h with
 | nil=>exact s
 | cons r t b=>exact .cons r b
theorem ba.take:∀{xs:List V} {us:List Value} (n:Nat),ba xs us->ba (xs.take n) (us.take n)
 | _,_,0,_=>.nil
 | _,_,_+1,.nil=>.nil
 | _,_,n+1,.cons r t=>.cons r (ba.take n t)
theorem ba.drop:∀{xs:List V} {us:List Value} (n:Nat),ba xs us->ba (xs.drop n) (us.drop n)
 | _,_,0,r=>r
 | _,_,_+1,.nil=>.nil
 | _,_,n+1,.cons _ t=>ba.drop n t
def iX:Option V->Option Value->Prop
 | some v,some u=>bo v u
 | none,none=>True
 | _,_=>False
def KV {a:Type}:List (a×V)->List (a×Value)->Prop:=Paired λ(p:a×V) (q:a×Value)=>p.1=q.1/\bo p.2 q.2
def kV:Key->V
 | .inl i=>.int i
 | .inr x=>.str x
inductive HO where
 | lst (xs:List V)
 | tup (xs:List V)
 | dK (kvs:List (Key×V)) | dT (kvs:List (List Key×V))
 | set (S:Int->Bool) (n:Nat)
 | ins (C dx:Addr) (fs:List (Str×V))
 | own (x:Addr)
 | xd (fs:List (Str×V))
 | met (f x:Addr)
 | Dj (lo hi:Int)
 | dY (o:Obj) (u:HO)
 | sV (ps:Array Value)
 | ext (φ:Heap->Prop)
abbrev Hp:=Addr->Option HO
def upd (H:Hp) (a:Addr) (o:HO):Hp:=λb=>if b=a then some o else H b
theorem ak:upd H a o a=some o:=by unfold upd;rw [if_pos rfl]
theorem aq (h:b≠a):upd H a o b=H b:=by unfold upd;rw [if_neg h]
theorem I4:upd (upd H a o) a u=upd H a u:=by funext b;unfold upd;split<;>rfl
theorem cp {H:Hp} {a b:Addr} {o u:HO} (h:H a=some o) (h':H b=some u) (d:o≠u):a≠b:=by intro e;subst e;rw [h] at h';exact d (dG h')
theorem bj {H:Hp} {a b:Addr} {o:HO} (h:H a=some o) (h':H b=none):a≠b:=by intro e;subst e;rw [h] at h';cases h'
section
variable (P:Program) (w:World)
def dd (H:Hp) (h:Heap) (a:Addr):HO->Prop
 | .lst b=>b.length<=sizeLine/\∃(e:List Value) (n:Nat),ba b e/\h.get? a=some { cls:=.type "list",data:=.seq e.toArray n }
 | .tup b=>b.length<=sizeLine/\∃e:List Value,ba b e/\IsTup h a e.toArray
 | .dK g=>g.length<=sizeLine/\(a==sysModules)=false/\∃r,KV g r/\h.DictOf (jx P w) a r
 | .dT g=>g.length<=sizeLine/\(a==sysModules)=false/\∃b:List (List Key×Addr×Value),
  Paired (λ(p:List Key×V) (q:List Key×Addr×Value)=>p.1=q.1/\H q.2.1=some (.tup (p.1.map kV))/\bo p.2 q.2.2) g b/\
  ∃o k s,h.get? a=some o/\o.ExactDict/\o.data=.dict k s/\k.toList=b.map (entryOfKey (tupleKind (jx P w)))/\(b.map (·.1)).Nodup
 | .set S n=>h.SetOf (intKind P w) a S n
 | .ins C i d=>H i=some (.own a)/\d.length<=1000/\i≠a/\h.get? a=some (PySem.W.instObj C i)/\
  ∃c,h.Ns1 i c/\(∀f,iX (d.lookup f) (c f))/\PySem.Within c (d.map (·.1))
 | .own _=>∃o,h.get? a=some o
 | .xd d=>∃c,h.Ns1 a c/\∀f,iX (d.lookup f) (c f)
 | .Dj z y=>∃t u v,h.get? a=some { cls:=.type "range",data:=.fields #[.int z t,.int y u,.int 1 v] }
 | .dY o u=>h.get? a=some o/\dd H h a u
 | .sV A=>h.get? a=some { cls:=.none,data:=.fields A }
 | .met f x=>h.get? a=some (PySem.W.methodObj (.ref f) (.ref x))
 | .ext j=>j h/\(∃o,h.get? a=some o)/\∀l m:Heap,j l->(∀o,l.get? a=some o->m.get? a=some o)->j m
def ei (H:Hp) (h:Heap):Prop:=∀a o,H a=some o->dd P w H h a o
end
section
theorem dd.lt (x:dd P w H h a o):a<h.objs.size:=by
 cases o with
 | lst d=>obtain ⟨_,_,_,_,e⟩:=x;exact dz e
 | tup d=>obtain ⟨_,_,_,p⟩:=x;exact p.lt
 | dK c=>obtain ⟨_,_,_,_,o,_,_,e,_⟩:=x;exact dz e
 | dT c=>obtain ⟨_,_,_,_,o,_,_,e,_⟩:=x;exact dz e
 | set S n=>obtain ⟨o,_,_,_,e,_⟩:=x;exact dz e
 | ins C g b=>obtain ⟨_,_,_,e,_⟩:=x;exact dz e
 | own y=>obtain ⟨_,e⟩:=x;exact dz e
 | xd b=>obtain ⟨_,⟨_,_,_,e,_⟩,_⟩:=x;exact dz e
 | Dj j i=>obtain ⟨_,_,_,e⟩:=x;exact dz e
 | dY k u=>obtain ⟨e,_⟩:=x;exact dz e
 | sV l=>exact dz (show h.get? a=some _ from x)
 | met f y=>exact dz (show h.get? a=some _ from x)
 | ext m=>obtain ⟨_,⟨_,e⟩,_⟩:=x;exact dz e
theorem Paired.g9 {l₁:List α} {l₂:List β} (h:Paired F l₁ l₂) (f:∀a b,F a b->G a b):Paired G l₁ l₂:=by
 induction h with
 | nil=>exact .nil
 | cons r t c=>exact .cons (f _ _ r) c
theorem dd.g8 (x:dd P w H h a o) (k:∀b u,(b=a\/H b=some (.own a))->h.get? b=some u->h'.get? b=some u)
 (F:∀b,H b=some (.own a)->H' b=some (.own a)) (G:∀b xs,H b=some (.tup xs)->H' b=some (.tup xs)):dd P w H' h' a o:=by
 induction o with
 | lst xs=>obtain ⟨z,l,n,r,e⟩:=x;exact ⟨z,l,n,r,k _ _ (.inl U) e⟩
 | tup xs=>obtain ⟨z,l,r,g,e,c⟩:=x;exact ⟨z,l,r,g,k _ _ (.inl U) e,c⟩
 | dK J=>obtain ⟨z,y,M,r,g,j,i,e,c⟩:=x;exact ⟨z,y,M,r,g,j,i,k _ _ (.inl U) e,c⟩
 | dT J=>
  obtain ⟨z,y,xs,r,g,j,i,e,c⟩:=x;exact ⟨z,y,xs,Paired.g9 r λp q z=>⟨z.1,G _ _ z.2.1,z.2.2⟩,g,j,i,k _ _ (.inl U) e,c⟩
 | set S n=>obtain ⟨g,j,i,t,e,c⟩:=x;exact ⟨g,j,i,t,k _ _ (.inl U) e,c⟩
 | ins C N E=>
  obtain ⟨d,z,L,e,m,⟨s,j,i,D,c⟩,r⟩:=x;exact ⟨F _ d,z,L,k _ _ (.inl U) e,m,⟨s,j,i,k _ _ (.inr d) D,c⟩,r⟩
 | own y=>obtain ⟨g,e⟩:=x;exact ⟨g,k _ _ (.inl U) e⟩
 | xd E=>obtain ⟨m,⟨s,j,i,e,c⟩,r⟩:=x;exact ⟨m,⟨s,j,i,k _ _ (.inl U) e,c⟩,r⟩
 | Dj Q O=>obtain ⟨t,u,v,e⟩:=x;exact ⟨t,u,v,k _ _ (.inl U) e⟩
 | dY g u I=>obtain ⟨e,q⟩:=x;exact ⟨k _ _ (.inl U) e,I q⟩
 | sV A=>
  have e:h.get? a=some { cls:=.none,data:=.fields A }:=x;show h'.get? a=some { cls:=.none,data:=.fields A };exact k a _ (.inl U) e
 | met f y=>
  have e:h.get? a=some (PySem.W.methodObj (.ref f) (.ref y)):=x;show h'.get? a=some (PySem.W.methodObj (.ref f) (.ref y));exact k a _ (.inl U) e
 | ext R=>obtain ⟨p,⟨o,e⟩,B⟩:=x;exact ⟨B _ _ p λo q=>k _ _ (.inl U) q,⟨o,k _ _ (.inl U) e⟩,B⟩
theorem ei.lt (x:ei P w H h) (e:H a=some o):a<h.objs.size:=(x a o e).lt
theorem ei.fresh (x:ei P w H h) (e:h.objs.size<=a):H a=none:=by
 cases q:H a with
 | none=>rfl
 | some u=>exact absurd (gn (x.lt q) e) (iD _)
theorem ei.kept (x:ei P w H h) (k:∀b u,h.get? b=some u->h'.get? b=some u):ei P w H h':=λa o e=>
 (x a o e).g8 (λb u _ q=>k b u q) (λ_ q=>q) λ_ _ q=>q
theorem ei.laid (x:ei P w H h) (k:∀b u,h.get? b=some u->h'.get? b=some u) (g:h.objs.size<=a) (i:dd P w (upd H a o) h' a o):ei P w (upd H a o) h':=λb u e=>by
 have f:=x.fresh g
 by_cases d:b=a
 ·subst d;rw [ak] at e;cases e;exact i
 ·rw [aq d] at e;exact (x b u e).g8 (λc v _ q=>k c v q) (λc q=>by rw [aq (bj q f)];exact q) λc j q=>by rw [aq (bj q f)];exact q
end
def Rd (H:Hp) (a:Addr) (u:HO):Prop:=H a=some u\/∃o,H a=some (.dY o u)
theorem Rd.ok (r:Rd H a u) (x:ei P w H h):dd P w H h a u:=by
 rcases r with r | ⟨o,r⟩
 ·exact x a u r
 ·obtain ⟨_,q⟩:=x a _ r;exact q
def vl:Option HO->Prop
 | some (.lst _)=>True
 | some (.dK _)=>True
 | some (.dT _)=>True
 | some (.set _ _)=>True
 | some (.ins _ _ _)=>True
 | some (.ext _)=>True
 | _=>False
section
theorem ei.write (ok:ei P w H h) (g:vl (H x)) (j:e=x\/H e=some (.own x)) (k:∀b u,b≠e->h.get? b=some u->h'.get? b=some u) (n:∃u,h'.get? e=some u)
 (p:dd P w (upd H x o') h' x o'):ei P w (upd H x o') h':=λb u q=>by
 have l:∀c y,H c=some (.own y)->c≠x:=λc y r z=>by subst z;rw [r] at g;exact g
 have s:∀c i,H c=some (.tup i)->c≠x:=λc i r z=>by subst z;rw [r] at g;exact g
 by_cases a:b=x
 ·subst a;rw [ak] at q;cases q;exact p
 ·rw [aq a] at q
  by_cases d:b=e
  ·have m:H b=some (.own x):=by
    rcases j with z | z
    ·exact absurd (d.trans z) a
    ·rw [d];exact z
   rw [q] at m;cases m;obtain ⟨v,o⟩:=n;exact ⟨v,by rw [d];exact o⟩
  ·refine (ok b u q).g8 (λc v f r=>k c v ?_ r) (λc r=>by rw [aq (l c b r)];exact r) λc i r=>by rw [aq (s c i r)];exact r
   rcases f with rfl | f
   ·exact d
   ·rintro rfl;rcases j with z | z
    ·exact l c b f z
    ·rw [f] at z;cases z;exact a U
end
structure Un (fs ex:List Addr) (H H':Hp) (h h':Heap):Prop where
 keep:∀b o,h.get? b=some o->H b=none->b∉fs->b∉ex->h'.get? b=some o
 slot:∀b o,h.get? b=some o->H b=none->b∈fs->b∉ex->∃sl,h'.get? b=some { o with slots:=sl }
 free:∀b o,h.get? b=some o->H b=none->b∉ex->H' b=none
 there:∀b o,h.get? b=some o->b∉ex->∃o',h'.get? b=some o'
 g7:∀b xs,H b=some (.tup xs)->H' b=some (.tup xs)
 gV:∀b o u,H b=some (.dY o u)->H' b=some (.dY o u)
 ij:∀b ps,H b=some (.sV ps)->∃more,H' b=some (.sV (ps++more))
section
theorem Un.any (u:Un fs ex H H1 h o) (q:h.get? b=some ob) (n:H b=none) (c:b∉ex):∃d,o.get? b=some { ob with slots:=d }:=by
 by_cases a:b∈fs
 ·exact u.slot b ob q n a c
 ·exact ⟨ob.slots,u.keep b ob q n a c⟩
theorem Un.kept (k:∀b u,h.get? b=some u->h'.get? b=some u):Un fs ex H H h h':=
 ⟨λb a q _ _ _=>k b a q,λb a q _ _ _=>⟨a.slots,k b a q⟩,λ_ _ _ n _=>n,λb a q _=>⟨a,k b a q⟩,λ_ _ q=>q,λ_ _ _ q=>q,λ_ c q=>⟨#[],by rw [q];simp⟩⟩
theorem Un.refl:Un fs ex H H h h:=Un.kept λ_ _ q=>q
theorem Un.laid (k:∀b u,h.get? b=some u->h'.get? b=some u) (d:h.objs.size<=a) (c:H a=none):Un fs ex H (upd H a o) h h' where
 keep:=λb u q _ _ _=>k b u q
 slot:=λb u q _ _ _=>⟨u.slots,k b u q⟩
 free:=λb u q n _=>by rw [aq (eF (gn (dz q) d))];exact n
 there:=λb u q _=>⟨u,k b u q⟩
 g7:=λb e q=>by rw [aq (bj q c)];exact q
 gV:=λb u e q=>by rw [aq (bj q c)];exact q
 ij:=λb f q=>⟨#[],by rw [aq (bj q c),q];simp⟩
theorem Un.write (a:vl (H x)) (i:e=x\/H e=some (.own x)) (k:∀b u,b≠e->h.get? b=some u->h'.get? b=some u) (j:∃u,h'.get? e=some u):Un fs ex H (upd H x o) h h':=by
 have g:∀b,H b=none->b≠x:=λb n z=>by subst z;rw [n] at a;exact a
 have d:∀b,H b=none->b≠e:=λb n z=>by
  subst z;rcases i with r | r
  ·exact g b n r
  ·rw [n] at r;cases r
 have c:∀b u,H b=some u->¬vl (some u)->b≠x:=λb u q l z=>by subst z;rw [q] at a;exact l a
 refine ⟨λb u q n _ _=>k b u (d b n) q,λb u q n _ _=>⟨u.slots,k b u (d b n) q⟩,λb u q n _=>by rw [aq (g b n)];exact n,λb u q _=>?_,
  λb m q=>by rw [aq (c b _ q λz=>z)];exact q,λb u m q=>by rw [aq (c b _ q λz=>z)];exact q,λb p q=>⟨#[],by rw [aq (c b _ q λz=>z),q];simp⟩⟩
 by_cases f:b=e
 ·subst f;exact j
 ·exact ⟨u,k b u f q⟩
end
def An (h:Heap) (H:Hp):List Addr:=(List.range h.objs.size).filter λa=>(H a).isSome
def oO (h:Heap) (H:Hp):Heap:=PySem.W.hideAll h (An h H)
theorem Q9 (h:Heap) (H:Hp):(oO h H).objs.size=h.objs.size:=PySem.W.hideAll_size _ _
theorem PB (e:h.get? b=some o) (n:H b=none):(oO h H).get? b=some o:=
 PySem.W.hideAll_get _ e λa=>by have q:(H b).isSome=true:=(List.mem_filter.mp a).2;rw [n] at q;simp at q
theorem V9 (e:(oO h H).get? b=some o):h.get? b=some o/\H b=none:=by
 have a:h.get? b=some o:=PySem.W.of_hideAll (An h H) e;refine ⟨a,?_⟩
 cases q:H b with
 | none=>rfl
 | some x=>
  have c:b∈An h H:=List.mem_filter.mpr ⟨n9.mpr (dz a),by simp [q]⟩;have z:(oO h H).get? b=none:=PySem.W.hideAll_none (An h H) c;rw [z] at e;cases e
structure Mod (K:aW) (mg:Str->Option Value) (base:Heap):Prop where
 uR:K.In base
 glob:base.Ns mainGlobals mg
 blt:∃mb,base.Ns builtinsNs mb/\∀x:Str,x≠"__name__"->mb x=bootBuiltins x
 nolimit:base.NoLimit
structure Cx where
 prog:Program
 w:World
 K:aW
 mg:Str->Option Value
 base:Heap
 A:Around
 N:List Str
 cP:Shared
 gW:Hp
 env:Env
 outer:List Env
 stack:List Env
 ex:List Addr
 fn:Str->Bool
 calm:Bool
 pn:List (Addr×Obj)
 xe:Value->Shared->Prop
def nt (l:List Env):List Addr:=l.filterMap (·.frame)
abbrev Cx.fs (X:Cx):List Addr:=nt X.outer
def Ba (a:Scope) (x:Str):Prop:=a.names.lookup x=some .local\/a.names.lookup x=some .cell\/a.names.lookup x=some .free
def Loc (a:Scope) (x:Str):Prop:=a.names.lookup x=some .local\/a.names.lookup x=some .cell
def Se (env:Env) (h:Heap) (m:Str->Option Value) (x:Str) (u:Value):Prop:=
 (env.kindOf x=some .local/\m x=some u)\/((env.kindOf x=some .cell\/env.kindOf x=some .free)/\∃c,env.cells.lookup x=some c/\h.IsCell c (some u))
structure Cx.Ok (X:Cx):Prop where
 mod:Mod X.K X.mg X.base
 kind:X.env.scope.kind=.function
 glob:X.env.globals=mainGlobals
 blt:X.env.builtins=builtinsNs
 above:X.cP.heap.objs.size<=X.env.locals
 inj:∀x y c,X.env.cells.lookup x=some c->X.env.cells.lookup y=some c->x=y
 has:∀x,(X.env.kindOf x=some .cell\/X.env.kindOf x=some .free)->∃c,X.env.cells.lookup x=some c
 xF:∀x c,X.fn x=true->X.env.cells.lookup x=some c->X.cP.heap.objs.size<=c
 hd:X.calm=true->X.A.handled=none
 frames:X.A.frames=some X.stack
 Ap:X.stack=X.outer\/(X.stack=X.env::X.outer/\X.env.frame=some X.env.locals)
 NM:∀b∈X.ex,b≠X.env.locals/\∀x c,X.env.cells.lookup x=some c->c≠b
 bs:∀b o,X.base.get? b=some o->X.cP.heap.get? b=some o/\X.gW b=none
 o8:X.base.objs.size<=X.cP.heap.objs.size
 mR:∀b o,X.base.get? b=some o->b∉X.ex
 qg:∀b∈X.ex,b∉X.fs
 fu:X.cP.heap.FunFrames X.base X.outer
 rg:∀b∈X.fs,X.gW b=none
structure Inv (X:Cx) (pins:List (Addr×Obj)) (σ:List (Option V)) (H:Hp) (s:Shared):Prop where
 ok:X.Ok
 os:s.os=X.cP.os
 bare:AllBare s.gens
 base:Un X.fs X.ex X.gW H X.cP.heap s.heap
 loc:∃m,s.heap.Ns X.env.locals m/\∀(i:Nat) (x:Str) (v:V),X.N[i]?=some x->σ[i]?=some (some v)->Ba X.env.scope x->∃u,bo v u/\Se X.env s.heap m x u
 cell:∀x c,X.env.cells.lookup x=some c->∃v,s.heap.IsCell c v
 free:H X.env.locals=none
 dw:∀x c,X.env.cells.lookup x=some c->H c=none
 pin:∀p∈X.pn++pins,s.heap.get? p.1=some p.2/\H p.1=none/\p.1≠X.env.locals/\p.1∉X.fs/\∀v,p.2.data≠.cell v
 a7:ei X.prog X.w H s.heap
 len:σ.length=X.N.length
section
variable {X:Cx}
theorem Cx.Ok.Dt (ok:X.Ok) (e:X.base.get? b=some o):b∉X.fs:=λa=>by have:=(ok.fu.mem a).1;rw [e] at this;cases this
theorem Inv.bs (I:Inv X pins σ H s):∀b o,X.base.get? b=some o->s.heap.get? b=some o/\H b=none:=λb o e=>
 ⟨I.base.keep b o (I.ok.bs b o e).1 (I.ok.bs b o e).2 (I.ok.Dt e) (I.ok.mR b o e),I.base.free b o (I.ok.bs b o e).1 (I.ok.bs b o e).2 (I.ok.mR b o e)⟩
theorem Inv.bk (I:Inv X pins σ H s):∀b o,X.base.get? b=some o->s.heap.get? b=some o:=λb o e=>(I.bs b o e).1
theorem Inv.mod (I:Inv X pins σ H s):Mod X.K X.mg X.base:=I.ok.mod
theorem Inv.fq (I:Inv X pins σ H s):X.K.In s.heap:=I.ok.mod.uR.keeps I.bk
theorem Inv.lt (I:Inv X pins σ H s):X.env.locals<s.heap.objs.size:=let ⟨_,a,_⟩:=I.loc;a.lt
theorem Inv.sz (I:Inv X pins σ H s):X.cP.heap.objs.size<=s.heap.objs.size:=c7 I.ok.above (aP I.lt)
theorem Inv.Ds (I:Inv X pins σ H s) (h:s.heap.objs.size<=a):a∉X.fs:=λb=>by obtain ⟨_,o,c,_⟩:=I.ok.fu.mem b;exact absurd (gn (dz c) (c7 I.sz h)) (iD _)
theorem Inv.Fu (I:Inv X pins σ H s):∀x c,X.env.cells.lookup x=some c->c≠X.env.locals:=λx c e z=>by obtain ⟨v,o,b,a⟩:=I.cell x c e;obtain ⟨m,⟨i,h,g,f,d,_⟩,_⟩:=I.loc;rw [z,f] at b;cases b;rw [d] at a;cases a
theorem Inv.fu (I:Inv X pins σ H s):s.heap.FunFrames X.base X.outer:=by
 have g:∀(l:List Env),(∀b∈nt l,b∈X.fs)->X.cP.heap.FunFrames X.base l->s.heap.FunFrames X.base l:=by
  intro l
  induction l with
  | nil=>intro _ _;trivial
  | cons q r p=>
   intro f j;obtain ⟨i,⟨L,o,d,k,m,h⟩,n⟩:=j;have a:L∈X.fs:=f L (by unfold nt;rw [x_,d];exact dB);obtain ⟨t,e⟩:=I.base.slot L o m (I.ok.rg L a) a λz=>I.ok.qg L z a;exact ⟨i,⟨L,_,d,k,e,h⟩,p (λb c=>f b (by unfold nt;rw [x_,d];exact eI _ c)) n⟩
 exact g X.outer (λ_ c=>c) I.ok.fu
theorem Inv.stack (I:Inv X pins σ H s):s.heap.FunFrames X.base X.stack:=by
 rcases I.ok.Ap with e | ⟨e,a⟩
 ·rw [e];exact I.fu
 ·rw [e];obtain ⟨m,b,_⟩:=I.loc;refine .cons (by rw [I.ok.kind];decide) a b ?_ I.fu;exact Heap.get?_none_of_le (c7 I.ok.o8 I.ok.above)
theorem Inv.ik (I:Inv X pins σ H s):∀b∈nt X.stack,b∈X.env.locals::X.fs:=λb a=>by
 rcases I.ok.Ap with e | ⟨e,c⟩
 ·rw [e] at a;exact eI _ a
 ·rw [e] at a;unfold nt at a;rw [x_,c] at a;exact a
theorem Inv.j_ (I:Inv X pins σ H s):∀b∈nt X.stack,H b=none:=λb a=>by
 rcases eG.mp (I.ik b a) with e | a
 ·rw [e];exact I.free
 ·obtain ⟨_,o,c,_⟩:=I.ok.fu.mem a;exact I.base.free b o c (I.ok.rg b a) λz=>I.ok.qg b z a
theorem Inv.step {g':Array GenState} {t':Nat} {d':Drawn} {ch:List Addr} (I:Inv X pins σ H s)
 (q:∀b∈ch,(b∈X.ex\/X.cP.heap.objs.size<=b)/\b≠X.env.locals/\(∀x c,X.env.cells.lookup x=some c->c≠b)/\∀p∈X.pn++pins,p.1≠b)
 (D:∀b o,b≠X.env.locals->b∉X.fs->b∉ch->s.heap.get? b=some o->H b=none->h'.get? b=some o)
 (O:∀b o,b≠X.env.locals->b∈X.fs->b∉ch->s.heap.get? b=some o->H b=none->∃E,h'.get? b=some { o with slots:=E }) (y:∀b o,b∉ch->s.heap.get? b=some o->H b=none->H' b=none)
 (there:∀b o,b∉ch->s.heap.get? b=some o->∃t,h'.get? b=some t)
 (g7:∀b xs,H b=some (.tup xs)->H' b=some (.tup xs)) (R:∀b o u,H b=some (.dY o u)->H' b=some (.dY o u)) (ij:∀b B,H b=some (.sV B)->∃more,H' b=some (.sV (B++more)))
 (ns:∀m,s.heap.Ns X.env.locals m->h'.Ns X.env.locals m) (W:ei X.prog X.w H' h') (S:AllBare g'):
 Inv X pins σ H' { s with heap:=h',gens:=g',drawn:=d',toks:=t' }:=by
 have M:∀b o,X.cP.heap.get? b=some o->b≠X.env.locals:=λb o e=>eF (gn (dz e) I.ok.above);have A:∀b o,X.cP.heap.get? b=some o->b∉X.ex->b∉ch:=λb o e a g=>by
  rcases (q b g).1 with z | z
  ·exact a z
  ·exact absurd (gn (dz e) z) (iD _)
 have F:∀x c,X.env.cells.lookup x=some c->∀v,s.heap.IsCell c v->h'.IsCell c v:=λx c e v ⟨o,h,C⟩=>by
  have r:c∉ch:=λz=>(q c z).2.2.1 x c e U
  by_cases G:c∈X.fs
  ·obtain ⟨E,x1⟩:=O c o (I.Fu x c e) G r h (I.dw x c e);exact ⟨_,x1,C⟩
  ·exact ⟨o,D c o (I.Fu x c e) G r h (I.dw x c e),C⟩
 refine ⟨I.ok,I.os,S,⟨λb o e n g a=>?_,λb o e n g a=>?_,λb o e n a=>?_,λb o e a=>?_,λb xs e=>g7 b xs (I.base.g7 b xs e),λb o xs e=>R b o xs (I.base.gV b o xs e),λb B e=>?_⟩,?_,λx c e=>?_,?_,λx c e=>?_,λp J=>?_,W,I.len⟩
 ·exact D b o (M b o e) g (A b o e a) (I.base.keep b o e n g a) (I.base.free b o e n a)
 ·obtain ⟨E,f⟩:=I.base.slot b o e n g a;obtain ⟨Wn,j⟩:=O b _ (M b o e) g (A b o e a) f (I.base.free b o e n a);exact ⟨Wn,j⟩
 ·obtain ⟨t,f⟩:=I.base.there b o e a;exact y b t (A b o e a) f (I.base.free b o e n a)
 ·obtain ⟨t,f⟩:=I.base.there b o e a;exact there b t (A b o e a) f
 ·obtain ⟨Y,f⟩:=I.base.ij b B e;obtain ⟨Z,j⟩:=ij b _ f;exact ⟨Y++Z,by rw [j,Array.append_assoc]⟩
 ·obtain ⟨m,V,T⟩:=I.loc;refine ⟨m,ns m V,λi x v f j Q=>?_⟩;obtain ⟨u,x2,l⟩:=T i x v f j Q;refine ⟨u,x2,?_⟩;rcases l with l | ⟨k,c,e,z⟩
  ·exact .inl l
  ·exact .inr ⟨k,c,e,F x c e _ z⟩
 ·obtain ⟨v,z⟩:=I.cell x c e;exact ⟨v,F x c e v z⟩
 ·obtain ⟨m,⟨o,_,_,h,_⟩,_⟩:=I.loc;exact y _ o (λz=>(q _ z).2.1 U) h I.free
 ·obtain ⟨v,o,h,C⟩:=I.cell x c e;exact y c o (λz=>(q c z).2.2.1 x c e U) h (I.dw x c e)
 ·obtain ⟨e,n,L,N,d⟩:=I.pin p J;have r:p.1∉ch:=λz=>(q p.1 z).2.2.2 p J U;exact ⟨D p.1 p.2 L N r e n,y p.1 p.2 r e n,L,N,d⟩
theorem Inv.un {t':Nat} (I:Inv X pins σ H s) (u:Un X.fs [] H H' s.heap h') (j:ei X.prog X.w H' h'):Inv X pins σ H' { s with heap:=h',toks:=t' }:=by
 obtain ⟨m,⟨o,p,l,c,r⟩,_⟩:=id I.loc;obtain ⟨v,h⟩:=u.any c I.free (by simp);exact I.step (g':=s.gens) (d':=s.drawn) (ch:=[]) (λ_ z=>nomatch z) (λb o _ a _ e n=>u.keep b o e n a (by simp)) (λb o _ a _ e n=>u.slot b o e n a (by simp)) (λb o _ e n=>u.free b o e n (by simp)) (λb o _ e=>u.there b o e (by simp)) u.g7 u.gV u.ij (λq i=>by
  obtain ⟨t,g,f,d,k⟩:=i;rw [c] at d;cases d;exact ⟨_,g,f,h,k⟩) j I.bare
theorem Inv.call {g':Array GenState} {t':Nat} {d':Drawn} {ch:List Addr} (I:Inv X pins σ H s) (u:Un (nt X.stack) ch H H' s.heap h') (t:ei X.prog X.w H' h') (l:AllBare g')
 (f:∀b∈ch,(b∈X.ex\/X.cP.heap.objs.size<=b)/\b≠X.env.locals/\(∀x c,X.env.cells.lookup x=some c->c≠b)/\∀p∈X.pn++pins,p.1≠b):
 Inv X pins σ H' { s with heap:=h',gens:=g',drawn:=d',toks:=t' }:=by
 obtain ⟨m,⟨o,A,y,g,r⟩,_⟩:=id I.loc;obtain ⟨D,d⟩:=u.any g I.free λz=>(f _ z).2.1 U;exact I.step (ch:=ch) f (λb o d k a e n=>u.keep b o e n (λz=>(eG.mp (I.ik b z)).elim d k) a) (λb o _ _ a e n=>u.any e n a) (λb o a e n=>u.free b o e n a) (λb o a e=>u.there b o e a) u.g7 u.gV u.ij (λB q=>by
  obtain ⟨C,j,i,h,v⟩:=q;rw [g] at h;cases h;exact ⟨_,j,i,d,v⟩) t l
theorem Inv.turned {t':Nat} {it:Addr} (I:Inv X pins σ H s) (k:∀b o,b≠it->s.heap.get? b=some o->h'.get? b=some o) (A:H it=none) (d:it≠X.env.locals)
 (i:it∈X.ex\/X.cP.heap.objs.size<=it) (j:∀x c,X.env.cells.lookup x=some c->c≠it) (l:∀p∈X.pn++pins,p.1≠it):Inv X pins σ H { s with heap:=h',toks:=t' }:=by
 have f:∀b u,H b=some u->b≠it:=λb u e z=>by rw [z,A] at e;cases e
 refine I.step (g':=s.gens) (d':=s.drawn) (ch:=[it]) (λb t=>?_) (λb o _ _ a e _=>k b o (λz=>a (by simp [z])) e) (λb o _ _ a e _=>⟨o.slots,k b o (λz=>a (by simp [z])) e⟩) (λ_ _ _ _ n=>n)
  (λb o a e=>⟨o,k b o (λz=>a (by simp [z])) e⟩) (λ_ _ e=>e) (λ_ _ _ e=>e) (λb C e=>⟨#[],by rw [e];simp⟩) (λm y=>?_) (λb u e=>?_) I.bare
 ·have e:b=it:=by simpa using t
  subst e;exact ⟨i,d,j,l⟩
 ·obtain ⟨o,h,g,B,r⟩:=y;exact ⟨o,h,g,k _ o (aQ d) B,r⟩
 ·refine (I.a7 b u e).g8 (λc v a q=>k c v ?_ q) (λ_ q=>q) λ_ _ q=>q;rcases a with z | z
  ·rw [z];exact f b u e
  ·exact f c _ z
theorem Inv.tok (I:Inv X pins σ H s) (t:Nat):Inv X pins σ H { s with toks:=t }:=I.un (h':=s.heap) (t':=t) Un.refl I.a7
theorem Inv.kept (I:Inv X pins σ H s) (k:∀b u,s.heap.get? b=some u->h'.get? b=some u):Inv X pins σ H { s with heap:=h',toks:=t' }:=I.un (Un.kept k) (I.a7.kept k)
theorem Inv.laid (I:Inv X pins σ H s) (k:∀b u,s.heap.get? b=some u->h'.get? b=some u) (c:s.heap.objs.size<=a) (d:dd X.prog X.w (upd H a o) h' a o):
 Inv X pins σ (upd H a o) { s with heap:=h',toks:=t' }:=I.un (Un.laid k c (I.a7.fresh c)) (I.a7.laid k c d)
theorem Inv.write (I:Inv X pins σ H s) (d:vl (H x)) (a:e=x\/H e=some (.own x)) (k:∀b u,b≠e->s.heap.get? b=some u->h'.get? b=some u) (c:∃u,h'.get? e=some u)
 (f:dd X.prog X.w (upd H x o) h' x o):Inv X pins σ (upd H x o) { s with heap:=h',toks:=t' }:=I.un (Un.write d a k c) (I.a7.write d a k c f)
theorem Inv.kf (I:Inv X pins σ H s) (h:∀p∈o,s.heap.get? p.1=some p.2/\H p.1=none/\p.1≠X.env.locals/\p.1∉X.fs/\∀v,p.2.data≠.cell v):Inv X o σ H s:=
 ⟨I.ok,I.os,I.bare,I.base,I.loc,I.cell,I.free,I.dw,λp a=>(fe.mp a).elim (λz=>I.pin p (h_ _ z)) (h p),I.a7,I.len⟩
theorem JU {N:List Str} (e:N.Nodup) {i j:Nat} {x:Str} (a:N[i]?=some x) (b:N[j]?=some x):i=j:=by obtain ⟨f,c⟩:=eP.mp a;obtain ⟨g,d⟩:=eP.mp b;exact (List.getElem_inj e).mp (c.trans d.symm)
theorem KJ {M:Model} {A:Around} {x1:Value->Shared->Prop} {i:Nat} {x:Str} {v:V} {u:Value} {Q:Unit->Shared->Prop} (I:Inv X pins σ H s) (hN:X.N.Nodup) (E:X.N[i]?=some x) (m:Loc X.env.scope x) (r:bo v u)
 (h:∀s',Inv X pins (σ.set i (some v)) H s'->(∃a,Heap.SameBut a s.heap s'.heap/\(a=X.env.locals\/X.env.cells.lookup x=some a))->Q () s') (hf:X.fn x=true\/X.env.scope.names.lookup x=some .local:=by first | exact .inl rfl | exact .inr rfl | assumption):wpAny M A (storeName X.env x u) Q x1 s:=by
 obtain ⟨x2,R,hl⟩:=id I.loc;have EV:(X.env.scope.kind==.class || (X.env.scope.kind==.module && X.env.locals !=X.env.globals))=false:=by rw [I.ok.kind];rfl
 have xf:i<σ.length:=by rw [I.len];exact (eP.mp E).1
 have L:=I.Fu;have tracked:∀{a:Addr} {h':Heap},(∃o,s.heap.get? a=some o/\H a=none)->Heap.SameBut a s.heap h'->ei X.prog X.w H h':=λ{a h'} ha f b ob e=>by
  obtain ⟨_,_,q_⟩:=ha;refine (I.a7 b ob e).g8 (λc J l q=>(f.2 c ?_).trans q) (λ_ q=>q) λ_ _ q=>q;rintro rfl;rcases l with rfl | l
  ·rw [q_] at e;cases e
  ·rw [q_] at l;cases l
 rcases m with B | B
 ·refine wpAny_storeName_local B R (λh' X' f=>?_) EV;obtain ⟨oL,_,_,XR,_⟩:=id R;refine h _ ⟨I.ok,I.os,I.bare,⟨λb o e n C m=>?_,λb o e n C m=>?_,I.base.free,λb o e m=>?_,I.base.g7,I.base.gV,I.base.ij⟩,⟨_,X',λj y v' g t N=>?_⟩,λy c e=>?_,I.free,I.dw,λp S=>?_,tracked ⟨oL,XR,I.free⟩ f,by simpa using I.len⟩ ⟨_,f,.inl U⟩
  ·exact (f.2 b (eF (gn (dz e) I.ok.above))).trans (I.base.keep b o e n C m)
  ·obtain ⟨Z,g⟩:=I.base.slot b o e n C m;exact ⟨Z,(f.2 b (eF (gn (dz e) I.ok.above))).trans g⟩
  ·obtain ⟨W,g⟩:=I.base.there b o e m;exact ⟨W,(f.2 b (eF (gn (dz e) I.ok.above))).trans g⟩
  ·by_cases D:j=i
   ·subst D;rw [E] at g;cases g;rw [O2 xf] at t;cases t;exact ⟨u,r,.inl ⟨B,by simp⟩⟩
   ·rw [List.getElem?_set_ne (aQ D)] at t;obtain ⟨u',Y,q⟩:=hl j y v' g t N;refine ⟨u',Y,?_⟩;rcases q with ⟨k,e⟩ | ⟨k,c,e,z⟩
    ·refine .inl ⟨k,?_⟩;have:y≠x:=λe=>D (JU hN g (e▸E));simp [this,e]
    ·exact .inr ⟨k,c,e,z.sameBut f (L y c e)⟩
  ·obtain ⟨J,z⟩:=I.cell y c e;exact ⟨J,z.sameBut f (L y c e)⟩
  ·obtain ⟨e,n,G,T,d⟩:=I.pin p S;exact ⟨(f.2 p.1 G).trans e,n,G,T,d⟩
 ·have O:X.fn x=true:=by
   rcases hf with z | z
   ·exact z
   ·rw [z] at B;cases B
  obtain ⟨c,l⟩:=I.ok.has x (.inl B);obtain ⟨J,z⟩:=I.cell x c l;refine wpAny_storeName_cell I.ok.kind B l z (λh' u_ f=>?_);obtain ⟨oc,Nq,DX⟩:=id z;refine h { s with heap:=h' } ⟨I.ok,I.os,I.bare,⟨λb o e n C m=>?_,λb o e n C m=>?_,I.base.free,λb o e m=>?_,I.base.g7,I.base.gV,I.base.ij⟩,⟨x2,R.sameBut f (aQ (L x c l)),λj y v' g t N=>?_⟩,λy F e=>?_,I.free,I.dw,λp S=>?_,tracked ⟨oc,Nq,I.dw x c l⟩ f,by simpa using I.len⟩ ⟨c,f,.inr l⟩
  ·exact (f.2 b (eF (gn (dz e) (I.ok.xF x c O l)))).trans (I.base.keep b o e n C m)
  ·obtain ⟨Z,g⟩:=I.base.slot b o e n C m;exact ⟨Z,(f.2 b (eF (gn (dz e) (I.ok.xF x c O l)))).trans g⟩
  ·obtain ⟨W,g⟩:=I.base.there b o e m;exact ⟨W,(f.2 b (eF (gn (dz e) (I.ok.xF x c O l)))).trans g⟩
  ·by_cases D:j=i
   ·subst D;rw [E] at g;cases g;rw [O2 xf] at t;cases t;exact ⟨u,r,.inr ⟨.inl B,c,l,u_⟩⟩
   ·rw [List.getElem?_set_ne (aQ D)] at t;obtain ⟨u',Y,q⟩:=hl j y v' g t N;refine ⟨u',Y,?_⟩;rcases q with q | ⟨k,F,e,z'⟩
    ·exact .inl q
    ·refine .inr ⟨k,F,e,z'.sameBut f ?_⟩;rintro rfl;exact D (JU hN g (I.ok.inj _ _ _ e l▸E))
  ·by_cases NA:F=c
   ·subst NA;exact ⟨_,u_⟩
   ·obtain ⟨w2,z2⟩:=I.cell y F e;exact ⟨w2,z2.sameBut f NA⟩
  ·obtain ⟨e,n,G,T,d⟩:=I.pin p S;refine ⟨(f.2 p.1 ?_).trans e,n,G,T,d⟩;intro q;rw [q,Nq] at e;have q':oc=p.2:=dG e;exact d J (by rw [<-q'];exact DX)
theorem BS (I:Inv X pins σ H s) (b:X.N.Nodup) (d:X.N[i]?=some x) (e:Loc X.env.scope x) (r:bo v u)
 (h:∀s',Inv X pins (σ.set i (some v)) H s'->Q () s') (c:X.fn x=true\/X.env.scope.names.lookup x=some .local:=by first | exact .inl rfl | exact .inr rfl | assumption):wpAny M A (storeName X.env x u) Q E s:=
 KJ I b d e r (λs' a _=>h s' a) c
theorem Inv.xE (I:Inv X pins σ H s) (f:s'.os=s.os) (u:Un (nt X.stack) ch H H' s.heap s'.heap) (g:ei X.prog X.w H' s'.heap) (d:AllBare s'.gens)
 (a:∀b∈ch,(b∈X.ex\/X.cP.heap.objs.size<=b)/\b≠X.env.locals/\(∀x c,X.env.cells.lookup x=some c->c≠b)/\∀p∈X.pn++pins,p.1≠b):Inv X pins σ H' s':=by
 obtain ⟨i,g',d',t',h⟩:=s';have e:h=s.os:=f;subst e;exact I.call (g':=g') (t':=t') (d':=d') u g d a
end
abbrev XK:=Value->Option Addr->Hp->Prop
abbrev St:=List (Option V)
abbrev VK:=V->Hp->Prop
abbrev TE:=St->Hp->VK->Prop
abbrev TT:=St->Hp->(Bool->Hp->Prop)->Prop
abbrev TA:=St->Hp->(List V->Hp->Prop)->Prop
structure qp where
 nx:St->Hp->Prop
 rt:VK
 bk:St->Hp->Prop:=λ_ _=>False
 ct:St->Hp->Prop:=λ_ _=>False
abbrev TS:=qp->St->Hp->Prop
theorem dy {c d:Type} {p q r:c->d->Prop} {P:Prop} (h:∃a b,p a b/\q a b/\r a b) (k:∀a b,p a b->q a b->r a b->P):P:=by obtain ⟨a,b,x,y,z⟩:=h;exact k a b x y z
theorem A8 {b:Type} {p q:b->Prop} {P:Prop} (h:∃a,p a/\q a) (k:∀a,p a->q a->P):P:=by obtain ⟨a,x,y⟩:=h;exact k a x y
def EP (X:Cx) (b:List (Addr×Obj)) (c:St) (Q:VK) (u:Value) (s':Shared):Prop:=∃v a,Inv X b c a s'/\bo v u/\Q v a
def TP (X:Cx) (c:List (Addr×Obj)) (d:St) (Q:Bool->Hp->Prop) (b:Bool) (s':Shared):Prop:=∃a,Inv X c d a s'/\Q b a
def AP (X:Cx) (c:List (Addr×Obj)) (d:St) (Q:List V->Hp->Prop) (us:List Value) (s':Shared):Prop:=∃b a,Inv X c d a s'/\ba b us/\Q b a
def SP (X:Cx) (c:List (Addr×Obj)) (D:qp) (f:Flow) (s':Shared):Prop:=
 match f with
 | .next=>∃b a,Inv X c b a s'/\D.nx b a
 | .brk=>∃b a,Inv X c b a s'/\D.bk b a
 | .cont=>∃b a,Inv X c b a s'/\D.ct b a
 | .ret u=>∃v b a,Inv X c b a s'/\bo v u/\D.rt v a
def PE (X:Cx) (e:Expr) (t:TE):Prop:=
 ∀(b:List (Addr×Obj)) (s:Shared) (a:St) (H:Hp) (Q:VK),Inv X b a H s->t a H Q->wpAny (model X.prog X.w) X.A (eval e X.env) (EP X b a Q) X.xe s
def PT (X:Cx) (e:Expr) (t:TT):Prop:=
 ∀(b:List (Addr×Obj)) (s:Shared) (a:St) (H:Hp) (Q:Bool->Hp->Prop),Inv X b a H s->t a H Q->wpAny (model X.prog X.w) X.A (isTrue e X.env (eval e X.env)) (TP X b a Q) X.xe s
def PW (X:Cx) (e:Expr) (t:TT):Prop:=
 ∀(c:Sem Value) (b:List (Addr×Obj)) (s:Shared) (a:St) (H:Hp) (Q:Bool->Hp->Prop),Inv X b a H s->t a H Q->wpAny (model X.prog X.w) X.A (isTrue e X.env c) (TP X b a Q) X.xe s
theorem PW.pt (h:PW X e t):PT X e t:=h _
def PA (X:Cx) (c:List Expr) (t:TA):Prop:=
 ∀(d:Pos) (b:List (Addr×Obj)) (s:Shared) (a:St) (H:Hp) (Q:List V->Hp->Prop),Inv X b a H s->t a H Q->wpAny (model X.prog X.w) X.A (spliced (backTo d (starEach c X.env))) (AP X b a Q) X.xe s
def PS (X:Cx) (st:Stmt) (t:TS):Prop:=
 ∀(a:List (Addr×Obj)) (s:Shared) (b:St) (H:Hp) (D:qp),Inv X a b H s->t D b H->wpAny (model X.prog X.w) X.A (exec st X.env) (SP X a D) X.xe s
def eZ (X:Cx) (st:List Stmt) (t:TS):Prop:=
 ∀(a:List (Addr×Obj)) (s:Shared) (b:St) (H:Hp) (D:qp),Inv X a b H s->t D b H->wpAny (model X.prog X.w) X.A (execs st X.env) (SP X a D) X.xe s
theorem ar (h:wpAny M A t Q E s) (b:∀a s,Q a s->o a s):wpAny M A t o E s:=hV h b λ_ _ x=>x
section
def dv (i:Nat):TE:=λa H Q=>∃v,a[i]?=some (some v)/\Q v H
def tC (v:V):TE:=λ_ H Q=>Q v H
theorem Vb (j:X.N[i]?=some x) (q:Ba X.env.scope x) (d:(x==("__debug__":Str))=false:=by decide) (k:(x==("__classdict__":Str))=false:=by decide):PE X (.Name x pos) (dv i):=by
 intro t s y H Q I h;obtain ⟨v,e,h⟩:=h;obtain ⟨m,p,n⟩:=I.loc;obtain ⟨u,r,l⟩:=n i x v j e q;have b:EP X t y Q u s:=⟨v,H,I,r,h⟩;rcases l with ⟨a,o⟩ | ⟨a,c,f,g⟩
 ·exact wpAny_Name (wpAny_loadName_local I.ok.kind a p o b) d
 ·rcases a with a | a
  ·exact wpAny_Name (wpAny_loadName_cell I.ok.kind a f g b) d
  ·exact wpAny_Name (wpAny_loadName_free I.ok.kind a f g b k) d
theorem az {i j pos}:PE X (.Constant (.int i) j pos) (tC (.int i)):=λ_ _ _ H _ I h=>wpAny_Constant_int ⟨.int i,H,I.tok _,⟨_,U⟩,h⟩
theorem rG {b j pos}:PE X (.Constant (.bool b) j pos) (tC (.bl b)):=λ_ _ _ H _ I h=>Constant_bool ⟨.bl b,H,I,U,h⟩
theorem jw {j pos}:PE X (.Constant .none j pos) (tC .aH):=λ_ _ _ H _ I h=>Constant_none ⟨.aH,H,I,U,h⟩
theorem dJ {x j pos}:PE X (.Constant (.str x) j pos) (tC (.str x)):=λ_ _ _ H _ I h=>Calls.Constant_str ⟨.str x,H,I.tok _,⟨_,U⟩,h⟩
def Gl (X:Cx) (x:Str):Prop:=X.env.kindOf x=some .globalImplicit
theorem BH (I:Inv X pins σ H s) (b:Gl X x) (c:X.mg x=some u) (h:Q u s)
 (a:(x==("__debug__":Str))=false:=by decide):wpAny (model X.prog X.w) X.A (eval (.Name x pos) X.env) Q E s:=
 Ov I.ok.kind b (Calls.loadGlobal_global (by rw [I.ok.glob];exact I.mod.glob.keeps I.bk) c h) a
theorem uz (I:Inv X pins σ H s) (d:Gl X x) (e:X.mg x=none) (g:bootBuiltins x=some u) (h:Q u s)
 (f:x≠"__name__":=by decide) (c:(x==("__debug__":Str))=false:=by decide):wpAny (model X.prog X.w) X.A (eval (.Name x pos) X.env) Q E s:=by
 obtain ⟨i,a,b⟩:=I.mod.blt;exact Ov I.ok.kind d (Calls.loadGlobal_builtin (by rw [I.ok.glob];exact I.mod.glob.keeps I.bk) e (by rw [I.ok.blt];exact a.keeps I.bk) ((b x f).trans g) h) c
theorem u5 (b:Gl X x) (c:X.mg x=some u) (r:bo v u) (a:(x==("__debug__":Str))=false:=by decide):PE X (.Name x pos) (tC v):=
 λ_ _ _ H _ I h=>BH I b c ⟨v,H,I,r,h⟩ a
theorem VC (b:Gl X x) (c:X.mg x=none) (e:bootBuiltins x=some u) (r:bo v u) (d:x≠"__name__":=by decide) (a:(x==("__debug__":Str))=false:=by decide):PE X (.Name x pos) (tC v):=
 λ_ _ _ H _ I h=>uz I b c e ⟨v,H,I,r,h⟩ d a
def PC (X:Cx) (e:CmpOp) (a b:Expr) (t:TE):Prop:=
 ∀(d:List (Addr×Obj)) (s:Shared) (c:St) (H:Hp) (Q:VK),Inv X d c H s->t c H Q->
  wpAny (model X.prog X.w) X.A (eval a X.env) (λv f=>wpAny (model X.prog X.w) X.A (eval b X.env) (λu g=>wpAny (model X.prog X.w) X.A (compareOp e v u) (EP X d c Q) X.xe g) X.xe f) X.xe s
theorem Po (b:Expr) (h:op≠.In) (d:op≠.NotIn):behindInMarks op b=false:=by
 have a:(op==CmpOp.In)=false:=by cases op<;>first | rfl | exact absurd rfl h
 have c:(op==CmpOp.NotIn)=false:=by cases op<;>first | rfl | exact absurd rfl d
 cases b<;>simp [behindInMarks,a,c]
def UG (b:TE):TE:=λc H Q=>b c H λx a=>Q (.bl (!decide (x=.aH))) a
theorem bo.mP (r:bo x v):(v==Value.none)=decide (x=.aH):=by
 cases x with
 | aH=>cases r;rfl
 | bl _=>cases r;rfl
 | int _=>obtain ⟨t,rfl⟩:=r;rfl
 | str _=>obtain ⟨t,rfl⟩:=r;rfl
 | kq _=>obtain ⟨t,rfl⟩:=r;rfl
 | qe _=>obtain ⟨t,rfl⟩:=r;rfl
 | ref _=>cases r;rfl
 | ty _=>cases r;rfl
theorem B7 {j pos'} (d:PE X a ta):PC X .IsNot a (.Constant .none j pos') (UG ta):=by intro e s k H Q I h;refine ar (d e s k H _ I h) λv l i=>?_;obtain ⟨x,b,c,g,f⟩:=i;exact Constant_none (isnot_none_gen ⟨.bl _,b,c,by rw [g.mP];rfl,f⟩)
def tB (t:TE):TT:=λb H Q=>t b H λx a=>∃c,x=.bl c/\Q c a
theorem md (h:PC X op a b t) (e:behindInMarks op b=false:=by first | exact Po _ (by decide) (by decide) | rfl):PT X (.Compare a [op] [b] pos) (tB t):=by intro k s o H Q I j;refine wpAny_isTrue_Compare1 (ar (h k s o H _ I j) λv p e=>ar e λu r i=>ar i λc y n=>?_) e;obtain ⟨x,f,g,m,l⟩:=n;obtain ⟨d,rfl,q⟩:=l;cases m;exact oF ⟨f,g,q⟩
theorem pd (h:PE X e t) (f:∀a,isTrue e X.env a=(do let v <-a;standAt e.pos;holding [v] (truthy v)):=by intro _;rfl):PT X e (tB t):=by intro i s m H Q I g;refine isTrue_plain (ar (h i s m H _ I g) λv n l=>?_) (f _);obtain ⟨x,b,c,k,j⟩:=l;obtain ⟨d,rfl,q⟩:=j;cases k;exact oF ⟨b,c,q⟩
variable {rest:List Expr}
def SX (t u:TT):TT:=λb H Q=>t b H λc a=>if c=true then u b a Q else Q false a
def Wg (t u:TT):TT:=λb H Q=>t b H λc a=>if c=true then Q true a else u b a Q
def Td (t:TT):TT:=λb H Q=>t b H λc a=>Q (!c) a
theorem nZ (b:PT X a tA):PW X (.BoolOp .And [a] pos) tA:=by
 intro i d s f H Q I h;refine isTrue_and (ar (b d s f H Q I h) λc g e=>?_)
 cases c with
 | true=>exact isTrue_and_nil e
 | false=>exact e
theorem rQ (b:PT X a tA):PW X (.BoolOp .Or [a] pos) tA:=by
 intro i d s f H Q I h;refine isTrue_or (ar (b d s f H Q I h) λc g e=>?_)
 cases c with
 | false=>exact isTrue_or_nil e
 | true=>exact e
theorem lK (j:PT X a o) (k:PW X (.BoolOp .And (b::rest) pos) C):PW X (.BoolOp .And (a::b::rest) pos) (SX o C):=by
 intro m f s i H Q I h;refine isTrue_and (ar (j f s i H _ I h) λc l n=>?_);obtain ⟨d,e,g⟩:=n
 cases c with
 | true=>exact k m f l i d Q e g
 | false=>exact ⟨d,e,g⟩
theorem oX (j:PT X a o) (k:PW X (.BoolOp .Or (b::rest) pos) C):PW X (.BoolOp .Or (a::b::rest) pos) (Wg o C):=by
 intro m f s i H Q I h;refine isTrue_or (ar (j f s i H _ I h) λc l n=>?_);obtain ⟨d,e,g⟩:=n
 cases c with
 | true=>exact ⟨d,e,g⟩
 | false=>exact k m f l i d Q e g
theorem pb (d:PT X a o):PT X (.UnaryOp .Not a pos) (Td o):=by intro e s f H Q I h;exact isTrue_not (d e s f H (λc b=>Q (!c) b) I h)
def UP (d e:TE):TE:=λb H Q=>d b H λx a=>∃c,x=.bl c/\if c=true then e b a Q else Q (.bl false) a
theorem Bt {op} (h:PE X a t):PE X (.BoolOp op [a] pos) t:=λc s d H Q I b=>BoolOp_one (h c s d H Q I b)
theorem v9 (j:PE X a ta) (k:PE X (.BoolOp .And (b::rest) pos) o):PE X (.BoolOp .And (a::b::rest) pos) (UP ta o):=by
 intro g s i H Q I h;refine BoolOp_and (ar (j g s i H _ I h) λv m n=>?_);obtain ⟨x,e,f,l,d⟩:=n;obtain ⟨c,rfl,d⟩:=d;cases l;refine oF ?_
 cases c with
 | true=>exact k g m i e Q f d
 | false=>exact ⟨.bl false,e,f,U,d⟩
def Wh (t:TT) (d e:TE):TE:=λa H Q=>t a H λc b=>if c=true then d a b Q else e a b Q
theorem Pt (n:PT X c o) (l:PE X a ta) (m:PE X b C):PE X (.IfExp c a b pos) (Wh o ta C):=by
 intro e s f H Q I h;refine wpAny_IfExp (ar (n e s f H _ I h) λd k p=>?_);obtain ⟨g,i,j⟩:=p
 cases d with
 | true=>exact l e k f g Q i j
 | false=>exact m e k f g Q i j
end
def a5 (K:aW) (H:Hp) (a:Addr) (xs:List V):Prop:=
 Rd H a (.lst xs)\/
  ∃(o:Obj) (b:Array Value) (n:Nat),K.lookup a=some o/\o.cls=.type "list"/\o.dict=none/\o.data=.seq b n/\b.size<=sizeLine/\ba xs b.toList
def bU (K:aW) (H:Hp) (a:Addr) (xs:List V):Prop:=
 Rd H a (.tup xs)\/
  ∃(o:Obj) (b:Array Value) (n:Nat),K.lookup a=some o/\o.cls=.type "tuple"/\o.data=.seq b n/\b.size<=sizeLine/\ba xs b.toList
def Sg:Value->Option V
 | .none=>some .aH
 | .bool b=>some (.bl b)
 | .int i _=>some (.int i)
 | .str x _=>some (.str x)
 | .bytes b _=>some (.kq b)
 | .float b _=>some (.qe b)
 | .ref a=>some (.ref a)
 | .type n=>some (.ty n)
 | _=>none
theorem bo.abs (r:bo x u):Sg u=some x:=by
 cases x with
 | aH=>cases r;rfl
 | bl _=>cases r;rfl
 | int _=>obtain ⟨t,rfl⟩:=r;rfl
 | str _=>obtain ⟨t,rfl⟩:=r;rfl
 | kq _=>obtain ⟨t,rfl⟩:=r;rfl
 | qe _=>obtain ⟨t,rfl⟩:=r;rfl
 | ref _=>cases r;rfl
 | ty _=>cases r;rfl
theorem bo.inj (r:bo x u) (q:bo y u):x=y:=dG (r.abs.symm.trans q.abs)
theorem ba.inj {xs ys:List V} {us:List Value} (h:ba xs us) (h':ba ys us):xs=ys:=by
 induction h generalizing ys with
 | nil=>cases h';rfl
 | cons r t a=>
  cases h' with
  | cons b c=>rw [r.inj b,a c]
section
theorem a5.of (h:H a=some (.lst xs)):a5 K H a xs:=.inl (.inl h)
theorem bU.of (h:H a=some (.tup xs)):bU K H a xs:=.inl (.inl h)
theorem Inv.list (I:Inv X pins σ H s) (h:a5 X.K H a xs):∃its:List Value,ba xs its/\PlainL s.heap a its.toArray/\xs.length<=sizeLine:=by
 rcases h with h | ⟨o,its,n,d,b,c,f,g,r⟩
 ·obtain ⟨z,its,n,r,e⟩:=h.ok I.a7;exact ⟨its,r,⟨_,n,e,U,U,U⟩,z⟩
 ·refine ⟨its.toList,r,⟨o,n,I.fq a o d,b,c,by simpa using f⟩,?_⟩;have e:=r.length;simp only [oH] at e;exact uD e g
theorem Inv.tuple (I:Inv X pins σ H s) (h:bU X.K H a xs):∃its:List Value,ba xs its/\IsTup s.heap a its.toArray/\xs.length<=sizeLine:=by
 rcases h with h | ⟨o,its,n,c,b,d,f,r⟩
 ·obtain ⟨z,its,r,p⟩:=h.ok I.a7;exact ⟨its,r,p,z⟩
 ·refine ⟨its.toList,r,⟨o,I.fq a o c,b,n,by simpa using d⟩,?_⟩;have e:=r.length;simp only [oH] at e;exact uD e f
theorem Inv.mS (I:Inv X pins σ H s) (h:a5 X.K H a xs) (h':a5 X.K H a ys):xs=ys:=by
 obtain ⟨g,r,⟨o,n,e,_,_,d⟩,_⟩:=I.list h;obtain ⟨its',i,⟨k,j,c,_,_,b⟩,_⟩:=I.list h';rw [e] at c;cases c;rw [d] at b
 injection b with f _
 have:g=its':=by simpa using congrArg Array.toList f
 subst this;exact r.inj i
theorem Inv.kS (I:Inv X pins σ H s) (h:bU X.K H a xs) (h':bU X.K H a ys):xs=ys:=by
 obtain ⟨g,r,⟨o,e,_,n,d⟩,_⟩:=I.tuple h;obtain ⟨its',i,⟨k,c,_,j,b⟩,_⟩:=I.tuple h';rw [e] at c;cases c;rw [d] at b
 injection b with f _
 have:g=its':=by simpa using congrArg Array.toList f
 subst this;exact r.inj i
end
abbrev Cx.gR (X:Cx) (E:Value->Shared->Prop):Cx:={ X with xe:=E }
abbrev Cx.qT (X:Cx):Cx:=X.gR λ_ _=>False
theorem Cx.Ok.gR {X:Cx} (ok:X.Ok) (E:Value->Shared->Prop):(X.gR E).Ok:=
 ⟨ok.mod,ok.kind,ok.glob,ok.blt,ok.above,ok.inj,ok.has,ok.xF,ok.hd,ok.frames,ok.Ap,ok.NM,ok.bs,ok.o8,ok.mR,ok.qg,ok.fu,ok.rg⟩
theorem Cx.Ok.dM {X:Cx} {E:Value->Shared->Prop} (ok:(X.gR E).Ok):X.Ok:=
 ⟨ok.mod,ok.kind,ok.glob,ok.blt,ok.above,ok.inj,ok.has,ok.xF,ok.hd,ok.frames,ok.Ap,ok.NM,ok.bs,ok.o8,ok.mR,ok.qg,ok.fu,ok.rg⟩
section
theorem Inv.gR (I:Inv X pins σ H s) (E:Value->Shared->Prop):Inv (X.gR E) pins σ H s:=⟨I.ok.gR E,I.os,I.bare,I.base,I.loc,I.cell,I.free,I.dw,I.pin,I.a7,I.len⟩
theorem Inv.dM (I:Inv (X.gR E) pins σ H s):Inv X pins σ H s:=⟨I.ok.dM,I.os,I.bare,I.base,I.loc,I.cell,I.free,I.dw,I.pin,I.a7,I.len⟩
theorem SP.dM (h:SP (X.gR E) pins D f s'):SP X pins D f s':=by
 cases f with
 | next=>obtain ⟨b,a,I,q⟩:=h;exact ⟨b,a,I.dM,q⟩
 | brk=>obtain ⟨b,a,I,q⟩:=h;exact ⟨b,a,I.dM,q⟩
 | cont=>obtain ⟨b,a,I,q⟩:=h;exact ⟨b,a,I.dM,q⟩
 | ret u=>obtain ⟨v,b,a,I,r,q⟩:=h;exact ⟨v,b,a,I.dM,r,q⟩
theorem eZ.qT {st:List Stmt} {t:TS} (h:eZ X.qT st t):eZ X st t:=λb s c H D I a=>
 hV (h b s c H D (I.gR _) a) (λ_ _ q=>q.dM) λ_ _ z=>hQ z
end
section
variable {st:Stmt} {rest:List Stmt}
def UE:TS:=λD a H=>D.nx a H
def Tg (t u:TS):TS:=λD a H=>t { D with nx:=u D } a H
theorem de:eZ X [] UE:=λ_ _ a H _ I h=>AR ⟨a,H,I,h⟩
theorem bV (d:PS X st t) (e:eZ X rest u):eZ X (st::rest) (Tg t u):=by
 intro a s i H D I h;refine wpAny_execs_cons (ar (d a s i H { D with nx:=u D } I h) λf g q=>?_)
 cases f with
 | next=>
  obtain ⟨j,b,c,q⟩:=q;exact e a g j b D c q
 | ret v=>exact q
 | brk=>exact q
 | cont=>exact q
theorem a0 (a:PS X st t):eZ X [st] t:=by
 intro b s c H D I h;refine wpAny_execs_cons (ar (a b s c H D I h) λf d q=>?_)
 cases f with
 | next=>exact AR q
 | ret v=>exact q
 | brk=>exact q
 | cont=>exact q
theorem Inv.quiet (I:Inv X pins σ H s):interactive X.env=false:=by simp [interactive,I.ok.kind]
def UA (c:TE):TS:=λD a H=>c a H λ_ b=>D.nx a b
theorem fH (d:PE X e o) (f:swapsWith e none pos.line X.env=pure false:=by rfl):PS X (.Expr e pos) (UA o):=by intro g s a H D I h;exact wpAny_Expr_any (ar (d g s a H _ I h) λv l j=>L2.dy j λx b c k i=>⟨a,b,c,i⟩) I.quiet f
def Tf (a:TE):TS:=λD b H=>a b H D.rt
theorem cm (d:PE X e o):PS X (.Return (some e) pos) (Tf o):=by intro f s a H D I h;exact wpAny_Return_some (ar (d f s a H _ I h) λv k j=>L2.dy j λx b c i g=>⟨x,a,b,c,i,g⟩)
def Ta (c:TT) (t u:TS):TS:=λD a H=>c a H λb d=>if b=true then t D a d else u D a d
theorem cS (n:PT X c tc) (l:eZ X a t) (m:eZ X b u):PS X (.If c a b pos) (Ta tc t u):=by
 intro e s f H D I h;refine wpAny_If (ar (n e s f H _ I h) λd k o=>?_);obtain ⟨g,i,j⟩:=o
 cases d with
 | true=>exact l e k f g D i j
 | false=>exact m e k f g D i j
def Vz:TS:=λ_ _ _=>False
theorem sF:eZ X o Vz:=λ_ _ _ _ _ _ h=>h.elim
end
abbrev TG:=V->St->Hp->(St->Hp->Prop)->Prop
abbrev vk:=List V->St->Hp->(St->Hp->Prop)->Prop
def PG (X:Cx) (f:Expr) (t:TG):Prop:=
 ∀(b:List (Addr×Obj)) (s:Shared) (c:St) (H:Hp) (v:V) (u:Value) (Q:St->Hp->Prop),Inv X b c H s->bo v u->t v c H Q->
  wpAny (model X.prog X.w) X.A (assign f X.env u) (λ_ e=>∃d a,Inv X b d a e/\Q d a) X.xe s
def kG (X:Cx) (h:List Expr) (t:vk):Prop:=
 ∀(b:List (Addr×Obj)) (s:Shared) (e:St) (H:Hp) (d:List V) (c:List Value) (Q:St->Hp->Prop),Inv X b e H s->ba d c->t d e H Q->
  wpAny (model X.prog X.w) X.A (assignInOrder ((assignEach h X.env).map (·.2)) c) (λ_ g=>∃f a,Inv X b f a g/\Q f a) X.xe s
abbrev LJ:=V->V->V->Hp->(Hp->Prop)->Prop
def LI (X:Cx) (t:LJ):Prop:=
 ∀(d:List (Addr×Obj)) (s:Shared) (e:St) (H:Hp) (o i v:V) (c b u:Value) (Q:Hp->Prop),Inv X d e H s->bo o c->bo i b->bo v u->t o i v H Q->
  wpAny (model X.prog X.w) X.A (setItem c b u) (λ_ f=>∃a,Inv X d e a f/\Q a) X.xe s
abbrev GC:=V->V->Hp->VK->Prop
def OB (X:Cx) (c:Operator) (t:GC):Prop:=
 ∀(a:List (Addr×Obj)) (s:Shared) (b:St) (H:Hp) (x y:V) (v u:Value) (Q:VK),Inv X a b H s->bo x v->bo y u->t x y H Q->
  wpAny (model X.prog X.w) X.A (inplaceOp c v u) (EP X a b Q) X.xe s
section
def qw (i:Nat):TG:=λv a H Q=>Q (a.set i (some v)) H
theorem B8 (b:X.N.Nodup) (d:X.N[i]?=some x) (e:Loc X.env.scope x) (c:X.fn x=true\/X.env.scope.names.lookup x=some .local:=by first | exact .inl rfl | exact .inr rfl | assumption):PG X (.Name x pos) (qw i):=by intro f s j H v u Q I r h;exact wpAny_assign_Name (BS I b d e r (λg a=>⟨_,H,a,h⟩) c)
def Sn:vk:=λa b H Q=>a=[]/\Q b H
def T9 (t:TG) (u:vk):vk:=λb c H Q=>∃v r,b=v::r/\t v c H λd a=>u r d a Q
theorem qE:kG X [] Sn:=by intro b s a H d c Q I r h;obtain ⟨e,h⟩:=h;subst e;cases r;exact assignInOrder_nil ⟨a,H,I,h⟩
theorem eK (f:PG X e t) (g:kG X o u)
 (i:(assignEach (e::o) X.env).map (·.2)=assign e X.env::(assignEach o X.env).map (·.2):=by rfl):kG X (e::o) (T9 t u):=by
 intro a s n H y q Q I r h;obtain ⟨v,x,d,h⟩:=h;subst d
 cases r with
 | cons r k=>
  rw [i];refine assignInOrder_cons (ar (f a s n H _ _ _ I r h) λ_ l m=>?_);obtain ⟨p,b,c,j⟩:=m;exact g a l p b _ _ Q c k j
def LK (K:aW) (n:Nat) (t:vk):TG:=λv c H Q=>∃a b,v=.ref a/\bU K H a b/\b.length=n/\t b c H Q
theorem rP (m:X.calm=true) (h:kG X C t)
 (q:(assignEach C X.env).length=n:=by rfl) (y:(assignEach C X.env).findIdx? (·.1)=none:=by rfl):PG X (.Tuple C k pos) (LK X.K n t):=by
 intro d s g H v u Q I r c;obtain ⟨a,B,j,x,p,c⟩:=c;subst j;cases r;obtain ⟨E,f,z,D⟩:=I.tuple x;refine assign_Tuple_tuple (I.ok.hd m) z (by simp [q,<-p,f.length]) y λl A=>?_;have i:Inv X d g H { s with heap:=l }:=I.kept (t':=s.toks) λb o e=>A b o (eF (dz e)) e;exact h d _ g H B _ Q i (by simpa using f) c
def So (f e:TE) (t:LJ):TG:=λv a H Q=>f a H λo b=>e a b λi c=>t o i v c λd=>Q a d
theorem Vc (q:PE X o to) (p:PE X i J) (z:LI X t)
 (n:∀v,assign (.Subscript o i pos) X.env v=(do
  let a <-holding [v] (eval o X.env)
  let b <-holding [v,a] (eval i X.env)
  standAt pos
  holding [v,a,b] (setItem a b v)
  release [v,a,b] []):=by intro _;rfl):PG X (.Subscript o i pos) (So to J t):=by
 intro e s d H v u Q I r h;rw [n];refine ab (kD (ar (q e s d H _ I h) λa F c=>?_));obtain ⟨x,f,k,D,A⟩:=c;refine ab (kD (ar (p e F d f _ k A) λb G c=>?_));obtain ⟨y,g,l,E,B⟩:=c;refine ab (AU (ab (kD (ar (z e G d g x y v a b u _ l D E r B) λ_ L c=>?_))));obtain ⟨j,m,C⟩:=c;exact wpAny_release ⟨d,j,m,C⟩
def wy (c:TE) (g:TG):TS:=λD a H=>c a H λx b=>g x a b D.nx
theorem Vd (i:PE X e o) (j:PG X tg g) (k:swapsWithSole [tg] e pos.line X.env=pure false:=by rfl) (hw:swappedStores [tg] e X.env=pure none:=by rfl)
 (f:(assignEach [tg] X.env).map (·.2)=[assign tg X.env]:=by rfl):PS X (.Assign [tg] e pos) (wy o g):=by
 intro a s b H D I h;refine wpAny_Assign_stores (ar (i a s b H _ I h) λv n p=>?_) k hw;obtain ⟨x,c,d,m,l⟩:=p;rw [f];exact ar (j a n b c x v _ d m l) λ_ r q=>q
theorem vB (d:X.N.Nodup) (j:X.N[i]?=some x) (l:Loc X.env.scope x) (f:PE X e C) (k:swapsWith e (some (.Name x pos')) pos.line X.env=pure false:=by rfl) (g:X.fn x=true\/X.env.scope.names.lookup x=some .local:=by first | exact .inl rfl | exact .inr rfl | assumption):
 PS X (.Assign [.Name x pos'] e pos) (wy C (qw i)):=by
 intro m s q H D I h;refine wpAny_Assign_Name (ar (f m s q H _ I h) λv r p=>?_) k;obtain ⟨y,a,b,o,n⟩:=p;exact BS b d j l o (λt c=>⟨_,a,c,n⟩) g
def SY (i:Nat) (d:TE) (e:GC):TS:=λD a H=>∃x,a[i]?=some (some x)/\d a H λy b=>e x y b λz c=>D.nx (a.set i (some z)) c
theorem Bw (A:X.N.Nodup) (j:X.N[i]?=some x) (b:Loc X.env.scope x) (E:PE X e te) (M:OB X op ti) (F:X.fn x=true\/X.env.scope.names.lookup x=some .local:=by first | exact .inl rfl | exact .inr rfl | assumption):
 PS X (.AugAssign (.Name x pos') op e pos) (SY i te ti):=by
 intro d s m H D I h;obtain ⟨v,z,h⟩:=h;obtain ⟨x1,L,G⟩:=I.loc;have W:Ba X.env.scope x:=by rcases b with k | k;exact .inl k;exact .inr (.inl k)
 obtain ⟨u,r,l⟩:=G i x v j z W;refine wpAny_AugAssign_Name ?_;have g:wpAny (model X.prog X.w) X.A (eval e X.env) (λw T=>wpAny (model X.prog X.w) X.A (inplaceOp op u w) (λr V=>wpAny (model X.prog X.w) X.A (storeName X.env x r) (λ_=>SP X d D .next) X.xe V) X.xe T) X.xe s:=by refine ar (E d s m H _ I h) λw S f=>?_;obtain ⟨y,n,p,Q,N⟩:=f;refine ar (M d S m n v y u w _ p r Q N) λx2 s2 f=>?_;obtain ⟨zv,o,q,R,O⟩:=f;exact BS q A j b R (λs3 t=>⟨_,o,t,O⟩) F
 rcases l with ⟨a,J⟩ | ⟨a,c,B,C⟩
 ·exact wpAny_loadName_local I.ok.kind a L J g
 ·rcases a with a | a
  ·exact wpAny_loadName_cell I.ok.kind a B C g
  ·rcases b with k | k
   ·have:X.env.scope.names.lookup x=some .free:=a;rw [k] at this;cases this
   ·have:X.env.scope.names.lookup x=some .free:=a;rw [k] at this;cases this
def Xz (f:Int->Int->Int):GC:=λx y H Q=>∃i j,x=.int i/\y=.int j/\Q (.int (f i j)) H
theorem Bo:OB X .Add (Xz λi j=>i+j):=by intro e s g H x y v u Q I c d h;obtain ⟨i,j,a,b,q⟩:=h;subst a;subst b;obtain ⟨t,rfl⟩:=c;obtain ⟨f,rfl⟩:=d;exact iadd_int ⟨.int _,H,I.tok _,⟨_,U⟩,q⟩
end
section
def Vk (c:TT) (h:TS):TS:=λD a H=>∃W:Nat->St->Hp->Prop,(∃m,W m a H)/\∀m a H,W m a H->
 c a H λb e=>if b=true then ∃N:St->Hp->Prop,(∀g d,N g d->∃f,f<m/\W f g d)/\h { D with nx:=N,ct:=N,bk:=D.nx } a e else D.nx a e
theorem Py (y:PassesOwn (model X.prog X.w) X.A X.env X.xe) (C:PT X c tc) (B:eZ X body tb):PS X (.While c body [] pos) (Vk tc tb):=by
 intro o s R H D I h;obtain ⟨W,⟨E,M⟩,L⟩:=h;refine wpAny_While (codeAny_whileLoop (λn F=>∃z q,Inv X o z q F/\W n z q) ?_ E ⟨R,H,I,M⟩);rintro n G ⟨i,r,A,O⟩;refine tZ y (ar (C o G i r _ A (L n i r O)) λb J Q=>?_);obtain ⟨t,u,e⟩:=Q
 cases b with
 | true=>
  obtain ⟨N,x,e⟩:=e;rw [if_pos rfl];refine tZ y (ar (B o J i t _ u e) λf S g=>?_)
  cases f with
  | next=>
   obtain ⟨d,a,j,m⟩:=g;obtain ⟨l,k,p⟩:=x d a m;exact ⟨l,k,d,a,j,p⟩
  | cont=>
   obtain ⟨d,a,j,m⟩:=g;obtain ⟨l,k,p⟩:=x d a m;exact ⟨l,k,d,a,j,p⟩
  | brk=>exact g
  | ret v=>exact g
 | false=>
  rw [if_neg d_];exact AR ⟨i,t,u,e⟩
end
structure It where
 go:Nat->Hp->Prop
 sS:Nat->Hp->V->Hp->Prop
 stop:Nat->Hp->Prop
def nI (X:Cx) (a:List (Addr×Obj)) (H:Hp) (b:Addr):Prop:=
 H b=none/\b≠X.env.locals/\b∉X.fs/\(b∈X.ex\/X.cP.heap.objs.size<=b)/\(∀x c,X.env.cells.lookup x=some c->c≠b)/\∀p∈X.pn++a,p.1≠b
theorem Inv.nv (I:Inv X pins σ H s) (a:s.heap.objs.size<=b) (d:H' b=none):nI X pins H' b:=by
 refine ⟨d,vf (gn I.lt a),I.Ds a,.inr (c7 I.sz a),λx c e z=>?_,λp f z=>?_⟩
 ·obtain ⟨v,q⟩:=I.cell x c e;exact absurd (gn q.lt (by rw [z];exact a)) (iD _)
 ·exact absurd (gn (dz (I.pin p f).1) (by rw [z];exact a)) (iD _)
def Mg (X:Cx):Prop:=X.A.handled=none\/∃(a C:Addr) (b:Option Addr) (t c:Value) (u:HO),X.A.handled=some (.ref a)/\X.gW a=some (.dY (v8 C b t c) u)
def jq (X:Cx):Prop:=X.calm=true\/Mg X
theorem ux (q:jq X) (I:Inv X pins σ H s):Hd X.A s.heap:=by
 rcases q with q | q | ⟨a,C,b,t,c,u,q,e⟩
 ·exact .inl (I.ok.hd q)
 ·exact .inl q
 ·exact .inr ⟨a,C,b,t,c,q,(I.a7 a _ (I.base.gV a _ _ e)).1⟩
theorem jq.X0 (q:jq X) (I:Inv X pins σ H s) (d:Y.calm=X.calm) (b:Y.A.handled=X.A.handled) (f:∀a o u,H a=some (.dY o u)->Y.gW a=some (.dY o u)):jq Y:=by
 rcases q with q | q | ⟨a,C,c,t,g,u,q,e⟩
 ·exact .inl (d.trans q)
 ·exact .inr (.inl (b.trans q))
 ·exact .inr (.inr ⟨a,C,c,t,g,u,b.trans q,f _ _ _ (I.base.gV a _ _ e)⟩)
structure sO (P:Program) (w:World) (K:aW) (tg:Expr) (J:It) (fp:List Addr) (it:Addr) (tn:Nat->Heap->Prop):Prop where
 mem:it∈fp
 obj:∀i h,tn i h->∀b∈fp,∃o,h.get? b=some o/\∀v,o.data≠.cell v
 keep:∀i h h',tn i h->(∀b∈fp,∀o,h.get? b=some o->h'.get? b=some o)->tn i h'
 item:∀(X:Cx),X.prog=P->X.w=w->X.K=K->jq X->∀(i:Nat) (pins:List (Addr×Obj)) (s:Shared) (σ:St) (H:Hp) (E:Value->Shared->Prop),Inv X pins σ H s->(∀b∈fp,nI X pins H b)->tn i s.heap->J.go i H->
  wpAny (model P w) X.A (pyNext (.ref it)) (λr s1=>∃u,r=some u/\
   wpAny (model P w) X.A (letOwnedTupleGo tg (.ref it) u) (λ_ s2=>∃x H',Inv X pins σ H' s2/\bo x u/\J.sS i H x H'/\tn (i+1) s2.heap/\∀b∈fp,H' b=none) E s1) E s
 done:∀(X:Cx),X.prog=P->X.w=w->X.K=K->jq X->∀(i:Nat) (pins:List (Addr×Obj)) (s:Shared) (σ:St) (H:Hp) (E:Value->Shared->Prop),Inv X pins σ H s->(∀b∈fp,nI X pins H b)->tn i s.heap->J.stop i H->
  wpAny (model P w) X.A (pyNext (.ref it)) (λr s1=>r=none/\Inv X pins σ H s1) E s
 self:∀(A:Around) (i:Nat) (s:Shared) (Q:Value->Shared->Prop) (E:Value->Shared->Prop),tn i s.heap->Q (.ref it) s->wpAny (model P w) A (pyIter (.ref it)) Q E s
abbrev TI:=St->Hp->(It->Hp->Prop)->Prop
def OC (X:Cx) (e:List (Addr×Obj)) (j:St) (i:Expr) (R:It->Hp->Prop) (h:Value) (f:Shared):Prop:=
 ∃(d:Addr) (c:List Addr) (g:Nat->Heap->Prop) (J:It) (a:Hp),h=.ref d/\Inv X e j a f/\sO X.prog X.w X.K i J c d g/\g 0 f.heap/\(∀b∈c,nI X e a b)/\R J a
def PI (X:Cx) (e c:Expr) (f:TI):Prop:=
 ∀(b:List (Addr×Obj)) (s:Shared) (a:St) (H:Hp) (R:It->Hp->Prop),Inv X b a H s->f a H R->
  wpAny (model X.prog X.w) X.A (eval c X.env) (λv d=>wpAny (model X.prog X.w) X.A (pyIter v) (OC X b a e R) X.xe d) X.xe s
theorem y8 (e:s.heap.get? it=some o) (b:o.cls=.type n) (c:o.data=.fields vs)
 (d:["enumerate","zip","dict_itemiterator","dict_reverseitemiterator","odict_iterator","itertools.zip_longest","itertools.pairwise"].contains n=false) (a:Q () s):wpAny M A (letOwnedTupleGo tg (.ref it) u) Q E s:=by
 unfold letOwnedTupleGo;cases tg<;>first
  | exact aG a
  | (cases u<;>first
   | exact aG a
   | (refine ab (wpAny_load e ?_)
      rw [b,c];show wpAny M A (if (["enumerate","zip","dict_itemiterator","dict_reverseitemiterator","odict_iterator","itertools.zip_longest","itertools.pairwise"].contains n && vs[0]?==some (rawInt _))=true then _ else _) Q E s;rw [if_neg (by intro h;rw [d,Bool.false_and] at h;cases h)];exact aG a))
def uk (K:aW) (a:Addr):It:=
 ⟨λi H=>∃b x,a5 K H a b/\b[i]?=some x,λi H x c=>c=H/\∀b,a5 K H a b->b[i]?=some x,λi H=>∃b,a5 K H a b/\b.length<=i⟩
def vo (K:aW) (a:Addr):It:=
 ⟨λi H=>∃b x,bU K H a b/\b[i]?=some x,λi H x c=>c=H/\∀b,bU K H a b->b[i]?=some x,λi H=>∃b,bU K H a b/\b.length<=i⟩
def rB (b:Int) (n:Nat):It:=⟨λi _=>i<n,λi H x a=>a=H/\x=.int (b+i),λi _=>n<=i⟩
theorem Q' {tg:Expr} (a it:Addr):sO P w K tg (uk K a) [it] it (λi h=>h.IsListIter it a i) where
 mem:=by simp
 obj:=λi h f b g=>by
  have e:b=it:=by simpa using g
  subst e;obtain ⟨o,e,c,d⟩:=f;exact ⟨o,e,λx1 z=>by rw [d] at z;cases z⟩
 keep:=λi h j f k=>f.at λo e=>k it (by simp) o e
 item:=by intro X B D A G i J s M H E I l f C;subst B D A;obtain ⟨xs,x,m,n⟩:=C;obtain ⟨W,F,p,V⟩:=I.list m;obtain ⟨u,S,Y⟩:=F.get n;obtain ⟨q,r,Q,t,v,y⟩:=l it (by simp);refine wpAny_pyNext_list_item f p.isList (x:=u) (by simpa using S) λj L Z=>?_;have N:Inv X J M H { s with heap:=j }:=I.turned (t':=s.toks) (λb o g e=>(Z.2 b g).trans e) q r t v y;obtain ⟨o,e,c,d⟩:=id L;exact ⟨u,U,y8 (s:={ s with heap:=j }) e c d (by decide) ⟨x,H,N,Y,⟨U,λys T=>by rw [I.mS T m];exact n⟩,L,λb g=>(l b g).1⟩⟩
 done:=by intro X B D A G i J s M H E I l f C;subst B D A;obtain ⟨xs,m,n⟩:=C;obtain ⟨W,F,p,V⟩:=I.list m;obtain ⟨q,r,Q,t,v,y⟩:=l it (by simp);have R:=F.length;exact R8 (ux G I) f p.isList (by simp;exact vY R n) λj O=>⟨U,I.turned (t':=s.toks) (λb o g e=>O b o g e) q r t v y⟩
 self:=λ_ _ _ _ _ f h=>wpAny_pyIter_listiter f h
theorem Rp {tg:Expr} (a it:Addr):sO P w K tg (vo K a) [it] it (λi h=>h.IsTupleIter it a i) where
 mem:=by simp
 obj:=λi h f b g=>by
  have e:b=it:=by simpa using g
  subst e;obtain ⟨o,e,c,d⟩:=f;exact ⟨o,e,λx1 z=>by rw [d] at z;cases z⟩
 keep:=λi h j f k=>f.at λo e=>k it (by simp) o e
 item:=by intro X B D A G i L s N H E I l f C;subst B D A;obtain ⟨xs,x,m,n⟩:=C;obtain ⟨J,F,p,W⟩:=I.tuple m;obtain ⟨u,T,Y⟩:=F.get n;obtain ⟨q,r,R,t,v,y⟩:=l it (by simp);refine wpAny_pyNext_tuple_item f (show s.heap.IsTuple a J.toArray from p) (x:=u) (by simpa using T) λj M Z=>?_;have O:Inv X L N H { s with heap:=j }:=I.turned (t':=s.toks) (λb o g e=>(Z.2 b g).trans e) q r t v y;obtain ⟨o,e,c,d⟩:=id M;exact ⟨u,U,y8 (s:={ s with heap:=j }) e c d (by decide) ⟨x,H,O,Y,⟨U,λys V=>by rw [I.kS V m];exact n⟩,M,λb g=>(l b g).1⟩⟩
 done:=by intro X B D A G i L s N H E I l f C;subst B D A;obtain ⟨xs,m,n⟩:=C;obtain ⟨J,F,p,W⟩:=I.tuple m;obtain ⟨q,r,R,t,v,y⟩:=l it (by simp);have S:=F.length;exact L5 (ux G I) f p (by simp;exact vY S n) λj Q=>⟨U,I.turned (t':=s.toks) (λb o g e=>Q b o g e) q r t v y⟩
 self:=λ_ _ _ _ _ f h=>wpAny_pyIter_tupleiter f h
theorem Ro {N:Expr} (it:Addr) (y:Int) (n:Nat):sO P w K N (rB y n) [it] it (λi h=>IsRangeIter h it (y+(i:Nat)*1) ((n:Int)-(i:Nat)) 1) where
 mem:=by simp
 obj:=λi h a b c=>by
  have e:b=it:=by simpa using c
  subst e;exact ⟨_,a,λv z=>by
   have O:Data.fields _=Data.cell v:=z;cases O⟩
 keep:=λi h d a k=>k it (by simp) _ a
 item:=by intro X r x q A i B s F H E I f a u;subst r x q;obtain ⟨g,j,L,l,m,p⟩:=f it (by simp);refine Sa u a λt d D C M=>?_;have G:Inv X B F H { s with heap:=d,toks:=D }:=I.turned (λb o c e=>M b o (by simpa using c) e) g j l m p;refine ⟨_,U,y8 (s:={ s with heap:=d,toks:=D }) (n:="range_iterator") C U U (by decide) ⟨.int (y+i),H,G,⟨t,?_⟩,⟨U,U⟩,C,λb c=>(f b c).1⟩⟩;rw [Int.mul_one]
 done:=by intro X r x q A i B s F H E I f a u;subst r x q;obtain ⟨g,j,L,l,m,p⟩:=f it (by simp);exact LB (ux A I) a (by have:n<=i:=u;omega) λd J=>⟨U,I.turned (t':=s.toks) (λb o c e=>J b o c e) g j l m p⟩
 self:=λ_ _ _ _ _ a h=>wpAny_pyIter_rangeiter a h
section
def TF (K:aW) (c:TE):TI:=λe H R=>c e H λx b=>∃a,x=.ref a/\(∃d,a5 K b a d)/\R (uk K a) b
def Sq (K:aW) (c:TE):TI:=λe H R=>c e H λx b=>∃a,x=.ref a/\(∃d,bU K b a d)/\R (vo K a) b
theorem gy {l:Expr} {f:TE} (j:PE X l f):PI X tg l (TF X.K f):=by
 intro m s u H R I h;refine ar (j m s u H _ I h) λv d t=>?_;obtain ⟨x,g,c,r,n⟩:=t;obtain ⟨a,e,⟨B,k⟩,q⟩:=n;subst e;cases r;obtain ⟨z,A,p,y⟩:=c.list k;refine wpAny_pyIter_list p.isList ?_;refine ⟨d.heap.objs.size,[d.heap.objs.size],_,_,g,U,c.kept (t':=d.toks) λb o e=>df _ e,Q' a _,⟨_,hY _ U,U,U⟩,λb i=>?_,q⟩;have e:b=d.heap.objs.size:=by simpa using i
 subst e;exact c.nv (aj _) (c.a7.fresh (aj _))
theorem Bu {l:Expr} {f:TE} (j:PE X l f):PI X tg l (Sq X.K f):=by
 intro n s y H R I h;refine ar (j n s y H _ I h) λv c u=>?_;obtain ⟨x,g,d,t,r⟩:=u;obtain ⟨a,e,⟨B,k⟩,q⟩:=r;subst e;cases t;obtain ⟨m,A,p,z⟩:=d.tuple k;refine wpAny_pyIter_tuple (show c.heap.IsTuple a m.toArray from p) ?_;refine ⟨c.heap.objs.size,[c.heap.objs.size],_,_,g,U,d.kept (t':=c.toks) λb o e=>df _ e,Rp a _,⟨_,hY _ U,U,U⟩,λb i=>?_,q⟩;have e:b=c.heap.objs.size:=by simpa using i
 subst e;exact d.nv (aj _) (d.a7.fresh (aj _))
theorem JD {lo a:Int} {d:Nat} (I:Inv X pins σ H s) (h: -(2 ^ 62)<=lo) (i:lo<2 ^ 62) (j: -(2 ^ 62)<=a) (k:a<2 ^ 62)
 (q:R (rB lo (a-lo).toNat) H):wpAny (model X.prog X.w) X.A (pyIter (.ref s.heap.objs.size)) (OC X pins σ tg R) E { s with heap:=s.heap.push { cls:=.type "range",data:=.fields #[.int lo t,.int a u,.int 1 v] },toks:=d }:=by
 refine wpAny_pyIter_range (IsRange.new ..) (small_one h i j k) ?_;have c:Inv X pins σ H { s with heap:=s.heap.push { cls:=.type "range",data:=.fields #[.int lo t,.int a u,.int 1 v] },toks:=d }:=I.kept λb o e=>df _ e;refine ⟨(s.heap.push { cls:=.type "range",data:=.fields #[.int lo t,.int a u,.int 1 v] }).objs.size,[(s.heap.push { cls:=.type "range",data:=.fields #[.int lo t,.int a u,.int 1 v] }).objs.size],_,_,H,U,
  c.kept (t':=d) λb o e=>df _ e,Ro _ lo (a-lo).toNat,?_,λb l=>?_,q⟩
 ·have f:lo+((0:Nat):Int)*1=lo:=by simp
  have g:(((a-lo).toNat:Nat):Int)-((0:Nat):Int)=Builtin.Range.rangeSize lo a 1:=by rw [rangeSize_one];split<;>omega
  show IsRangeIter _ _ (lo+((0:Nat):Int)*1) ((((a-lo).toNat:Nat):Int)-((0:Nat):Int)) 1;rw [f,g];exact hY _ U
 ·have e:b=(s.heap.push { cls:=.type "range",data:=.fields #[.int lo t,.int a u,.int 1 v] }).objs.size:=by simpa using l
  subst e;exact c.nv (aj _) (c.a7.fresh (aj _))
def TH (b:TA):TI:=λd H R=>b d H λc a=>∃j:Int,c=[.int j]/\-(2 ^ 62)<=j/\j<2 ^ 62/\R (rB 0 j.toNat) a
def TJ (b:TA):TI:=λd H R=>b d H λc a=>∃i j:Int,c=[.int i,.int j]/\(-(2 ^ 62)<=i/\i<2 ^ 62/\-(2 ^ 62)<=j/\j<2 ^ 62)/\R (rB i (j-i).toNat) a
theorem sE (f:Gl X "range") (g:X.mg "range"=none) (d:PA X [a] ta) (i:starEach [a] X.env=[(false,eval a X.env)]:=by rfl):PI X tg (.Call (.Name "range" p) [a] [] pos) (TH ta):=by
 intro k s u H R I h;refine Call_ (uz I f g boot_range (A_ (ar (d pos k s u H _ I h) λy x o=>?_) i U));obtain ⟨z,v,c,m,b⟩:=o;obtain ⟨j,e,b,l,q⟩:=b;subst e
 cases m with
 | cons r n=>
  cases n;obtain ⟨t,rfl⟩:=r;exact call_range_1 (JD c (by omega) (by omega) b l (by simpa using q))
theorem K4 (l:Gl X "range") (m:X.mg "range"=none) (k:PA X [a,b] ta) (n:starEach [a,b] X.env=[(false,eval a X.env),(false,eval b X.env)]:=by rfl) (f:starEach [b] X.env=[(false,eval b X.env)]:=by rfl):
 PI X tg (.Call (.Name "range" p) [a,b] [] pos) (TJ ta):=by
 intro o s B H R I h;refine Call_ (uz I l m boot_range (A_ (ar (k pos o s B H _ I h) λF D A=>?_) (by rw [n,f]) (by rw [f];rfl)));obtain ⟨G,C,g,z,c⟩:=A;obtain ⟨i,j,e,⟨c,u,v,x⟩,q⟩:=c;subst e
 cases z with
 | cons r d=>
  cases d with
  | cons y d=>
   cases d;obtain ⟨t,rfl⟩:=r;obtain ⟨E,rfl⟩:=y;exact call_range_2 (JD g c u v x q)
def LY (j:TI) (g:TG) (h:TS):TS:=λD a H=>j a H λJ e=>∃W:Nat->Nat->St->Hp->Prop,(∃m,W 0 m a e)/\∀i m a H,W i m a H->
 (J.stop i H/\D.nx a H)\/(J.go i H/\∃N:St->Hp->Prop,(∀d b,N d b->∃c,c<m/\W (i+1) c d b)/\∀x b,J.sS i H x b->g x a b λk f=>h { D with nx:=N,ct:=N,bk:=D.nx } k f)
def vA (a:List Addr) (h:Heap):List (Addr×Obj):=a.filterMap λb=>(h.get? b).map λo=>(b,o)
theorem zS (a:b∈fp) (e:h.get? b=some o):(b,o)∈vA fp h:=oD.mpr ⟨b,a,by rw [e];rfl⟩
theorem QT (d:p∈vA fp h):p.1∈fp/\h.get? p.1=some p.2:=by
 obtain ⟨b,c,e⟩:=oD.mp d
 cases q:h.get? b with
 | none=>rw [q] at e;cases e
 | some o=>
  rw [q] at e;have a:(b,o)=p:=dG e;subst a;exact ⟨c,q⟩
theorem Inv.pinned (I:Inv X pins σ H s) (i:∀b∈fp,nI X pins H b) (j:∀b∈fp,∃o,s.heap.get? b=some o/\∀v,o.data≠.cell v):Inv X (pins++vA fp s.heap) σ H s:=
 I.kf λp k=>(fe.mp k).elim (λz=>I.pin p (i5 _ z)) λz=>by obtain ⟨c,e⟩:=QT z;obtain ⟨f,g,h,_⟩:=i p.1 c;obtain ⟨o,a,d⟩:=j p.1 c;rw [e] at a;cases a;exact ⟨e,f,g,h,d⟩
theorem Inv.eU (I:Inv X (pins++pl) σ H s):Inv X pins σ H s:=I.kf λp a=>I.pin p (i5 _ (h_ _ a))
theorem B9 (l:PassesOwn (model X.prog X.w) X.A X.env X.xe) (F:jq X) (hi:PI X tg iter wi) (hg:PG X tg g) (d:eZ X body tb)
 (hs:∀x,foldedSetIterable iter X.env x=pure x:=by intro _;rfl):PS X (.For tg iter body [] pos) (LY wi g tb):=by
 intro j x5 O H x9 I x3;refine wpAny_For (ar (hi j x5 O H _ I x3) λx8 s1 h1=>ar h1 λMX s2 h2=>?_) hs;obtain ⟨it,k,N,kR,Q,e,S,T,eh,D,W,⟨m0,w0⟩,turn⟩:=h2;subst e;have z:∀{H':Hp},(∀b∈k,H' b=none)->∀b∈k,nI X j H' b:=λhn b d=>⟨hn b d,(D b d).2⟩;refine codeAny_forLoop_any (λn G=>∃i r H',Inv X j r H' G/\N i G.heap/\(∀b∈k,H' b=none)/\W i n r H') ?_ m0 ⟨0,O,Q,S,eh,λb d=>(D b d).1,w0⟩;rintro n J ⟨i,s,t,B,M,E,w3⟩;rcases turn i n s t w3 with ⟨stop,qn⟩ | ⟨go,x1,hN,step⟩
 ·refine tZ l (ar (T.done X U U U F i j J s t X.xe B (z E) M stop) λx4 s4 ⟨u,V⟩=>?_);subst u;exact AR ⟨s,t,V,qn⟩
 ·refine tZ l (ar (T.item X U U U F i j J s t X.xe B (z E) M go) λx4 s4 q=>L2.A8 q λx6 u h4=>?_);subst u;refine tZ l (ar h4 λ_ L q=>?_);obtain ⟨x,A,Y,r5,y5,y,A7⟩:=q;have Z:=Y.pinned (z A7) (T.obj _ _ y);refine tZ l (ar (hg _ L s A x x6 _ Z r5 (step x A y5)) λ_ s6 q=>?_);obtain ⟨OK,R,I6,q6⟩:=q;refine tZ l (ar (d _ s6 OK R _ I6 q6) λx2 v h=>?_);have C:∀{f:St} {a:Hp},Inv X (j++vA k L.heap) f a v->x1 f a->∃m,m<n/\∃i r H',Inv X j r H' v/\N i v.heap/\(∀b∈k,H' b=none)/\W i m r H':=λ{f a} c p=>by
   obtain ⟨m',hm,w7⟩:=hN f a p;refine ⟨m',hm,i+1,f,a,c.eU,T.keep _ _ _ y λb d o e=>(c.pin (b,o) (i5 _ (i5 _ (zS d e)))).1,λb d=>?_,w7⟩;obtain ⟨o,e,px⟩:=T.obj _ _ y b d;exact (c.pin (b,o) (i5 _ (i5 _ (zS d e)))).2.1
  cases x2 with
  | next=>obtain ⟨f,a,c,p⟩:=h;exact C c p
  | cont=>obtain ⟨f,a,c,p⟩:=h;exact C c p
  | brk=>obtain ⟨f,a,c,h⟩:=h;exact ⟨f,a,c.eU,h⟩
  | ret x8=>obtain ⟨x7,f,a,c,r7,h⟩:=h;exact ⟨x7,f,a,c.eU,r7,h⟩
theorem g_ (e:PassesOwn (model X.prog X.w) X.A X.env X.xe) (b:X.calm=true) (d:PI X tg iter C) (c:PG X tg g) (a:eZ X body o)
 (f:∀x,foldedSetIterable iter X.env x=pure x:=by intro _;rfl):PS X (.For tg iter body [] pos) (LY C g o):=B9 e (.inl b) d c a f
end
theorem j0 {a:Addr} {xs:List V} {g:TG} {o:TS} {D:qp} {b:St} {H:Hp} (c:Nat->St->Hp->Prop) (r:c 0 b H) (t:∀i b H,i<=xs.length->c i b H->a5 K H a xs)
 (u:∀i x b H,xs[i]?=some x->c i b H->g x b H λk h=>o { D with nx:=c (i+1),ct:=c (i+1),bk:=D.nx } k h) (s:∀b H,c xs.length b H->D.nx b H):
 ∃W:Nat->Nat->St->Hp->Prop,(∃m,W 0 m b H)/\∀i m b H,W i m b H->
  ((uk K a).stop i H/\D.nx b H)\/((uk K a).go i H/\∃N:St->Hp->Prop,(∀j d,N j d->∃n,n<m/\W (i+1) n j d)/\∀x d,(uk K a).sS i H x d->g x b d λk h=>o { D with nx:=N,ct:=N,bk:=D.nx } k h):=by
 refine ⟨λi m b H=>m=xs.length-i/\i<=xs.length/\c i b H,⟨xs.length,by simp,cN _,r⟩,?_⟩;rintro i m b H ⟨rfl,l,p⟩;have q:=t i b H l p
 by_cases f:i<xs.length
 ·refine .inr ⟨⟨xs,xs[i],q,by simp [f]⟩,c (i+1),λj d v=>⟨xs.length-(i+1),qH f,U,f,v⟩,λx d y=>?_⟩;obtain ⟨e,y⟩:=y;subst e;exact u i x b _ (y xs q) p
 ·have e:i=xs.length:=qI l f;subst e;exact .inl ⟨⟨xs,q,aj _⟩,s b H p⟩
theorem VW {a:Addr} {xs:List V} {g:TG} {o:TS} {D:qp} {b:St} {H:Hp} (c:Nat->St->Hp->Prop) (r:c 0 b H) (t:∀i b H,i<=xs.length->c i b H->bU K H a xs)
 (u:∀i x b H,xs[i]?=some x->c i b H->g x b H λk h=>o { D with nx:=c (i+1),ct:=c (i+1),bk:=D.nx } k h) (s:∀b H,c xs.length b H->D.nx b H):
 ∃W:Nat->Nat->St->Hp->Prop,(∃m,W 0 m b H)/\∀i m b H,W i m b H->
  ((vo K a).stop i H/\D.nx b H)\/((vo K a).go i H/\∃N:St->Hp->Prop,(∀j d,N j d->∃n,n<m/\W (i+1) n j d)/\∀x d,(vo K a).sS i H x d->g x b d λk h=>o { D with nx:=N,ct:=N,bk:=D.nx } k h):=by
 refine ⟨λi m b H=>m=xs.length-i/\i<=xs.length/\c i b H,⟨xs.length,by simp,cN _,r⟩,?_⟩;rintro i m b H ⟨rfl,l,p⟩;have q:=t i b H l p
 by_cases f:i<xs.length
 ·refine .inr ⟨⟨xs,xs[i],q,by simp [f]⟩,c (i+1),λj d v=>⟨xs.length-(i+1),qH f,U,f,v⟩,λx d y=>?_⟩;obtain ⟨e,y⟩:=y;subst e;exact u i x b _ (y xs q) p
 ·have e:i=xs.length:=qI l f;subst e;exact .inl ⟨⟨xs,q,aj _⟩,s b H p⟩
theorem wg {f:Int} {n:Nat} {g:TG} {o:TS} {D:qp} {a:St} {H:Hp} (c:Nat->St->Hp->Prop) (q:c 0 a H)
 (t:∀i a H,i<n->c i a H->g (.int (f+i)) a H λk h=>o { D with nx:=c (i+1),ct:=c (i+1),bk:=D.nx } k h) (r:∀a H,c n a H->D.nx a H):
 ∃W:Nat->Nat->St->Hp->Prop,(∃m,W 0 m a H)/\∀i m a H,W i m a H->
  ((rB f n).stop i H/\D.nx a H)\/((rB f n).go i H/\∃N:St->Hp->Prop,(∀j b,N j b->∃l,l<m/\W (i+1) l j b)/\∀x b,(rB f n).sS i H x b->g x a b λk h=>o { D with nx:=N,ct:=N,bk:=D.nx } k h):=by
 refine ⟨λi m a H=>m=n-i/\i<=n/\c i a H,⟨n,by simp,cN _,q⟩,?_⟩;rintro i m a H ⟨rfl,s,p⟩
 by_cases d:i<n
 ·refine .inr ⟨d,c (i+1),λj b u=>⟨n-(i+1),qH d,U,d,u⟩,λx b y=>?_⟩;obtain ⟨e,y⟩:=y;subst e y;exact t i a _ d p
 ·have e:i=n:=qI s d;subst e;exact .inl ⟨aj _,r a H p⟩
abbrev R2:=V->V->Hp->VK->Prop
def dH (X:Cx) (f:Value->Value->Sem Value) (r:R2):Prop:=
 ∀(a:List (Addr×Obj)) (s:Shared) (b:St) (H:Hp) (x y:V) (v u:Value) (Q:VK),Inv X a b H s->bo x v->bo y u->r x y H Q->
  wpAny (model X.prog X.w) X.A (f v u) (EP X a b Q) X.xe s
def Ga (X:Cx) (f:Value->Sem Value) (r:V->Hp->VK->Prop):Prop:=
 ∀(a:List (Addr×Obj)) (s:Shared) (b:St) (H:Hp) (x:V) (v:Value) (Q:VK),Inv X a b H s->bo x v->r x H Q->
  wpAny (model X.prog X.w) X.A (f v) (EP X a b Q) X.xe s
def lZ (X:Cx) (f:Value) (r:List V->Hp->VK->Prop):Prop:=
 ∀(a:List (Addr×Obj)) (s:Shared) (d:St) (H:Hp) (c:List V) (b:List Value) (Q:VK),Inv X a d H s->ba c b->r c H Q->
  wpAny (model X.prog X.w) X.A (call f b) (EP X a d Q) X.xe s
def m5 (r:R2) (d e:TE):TE:=λa H Q=>d a H λx b=>e a b λy c=>r x y c Q
def Wf (r:V->Hp->VK->Prop) (b:TE):TE:=λc H Q=>b c H λx a=>r x a Q
def rI (C:Int->Int->Prop) (g:Int->Int->V):R2:=λx y H Q=>∃i j,x=.int i/\y=.int j/\C i j/\Q (g i j) H
def eL (g:Int->Int->V):R2:=λx y H Q=>∃i j,x=.int i/\y=.int j/\Q (g i j) H
def rU (g:Int->V):V->Hp->VK->Prop:=λx H Q=>∃i,x=.int i/\Q (g i) H
section
theorem CL (m:PE X a ta) (n:PE X b C) {e:List (Addr×Obj)} {s:Shared} {d:St} {H:Hp} {R:V->V->Hp->Prop} (I:Inv X e d H s)
 (h:ta d H λx i=>C d i λy c=>R x y c) {Q:Value->Shared->Prop} {f:Value->Value->Sem Value}
 (o:∀v u g x y c,Inv X e d c g->bo x v->bo y u->R x y c->wpAny (model X.prog X.w) X.A (f v u) Q X.xe g):
 wpAny (model X.prog X.w) X.A (eval a X.env) (λv A=>wpAny (model X.prog X.w) X.A (eval b X.env) (λu B=>wpAny (model X.prog X.w) X.A (f v u) Q X.xe B) X.xe A) X.xe s:=by
 refine ar (m e s d H _ I h) λv z j=>?_;obtain ⟨x,i,k,r,p⟩:=j;refine ar (n e z d i _ k p) λu g j=>?_;obtain ⟨y,c,l,t,q⟩:=j;exact o v u g x y c l r t q
theorem bC {c:Operator} {r:R2} (i:dH X (binaryOp c) r) (f:PE X a ta) (g:PE X b o):PE X (.BinOp a c b pos) (m5 r ta o):=by intro j s n H Q I h;exact wpAny_BinOp (CL f g I h λv u m x y d e k l q=>i j m n d x y v u Q e k l q)
theorem uu (g:Ga X (unaryOp op) r) (f:PE X a ta):PE X (.UnaryOp op a pos) (Wf r ta):=by intro b s c H Q I h;exact UnaryOp_ (ar (f b s c H _ I h) λv k l=>L2.dy l λx d e j i=>g b k c d x v Q e j i)
theorem MG {f:Value->Value->Sem Value} {C:Int->Int->Prop} {g:Int->Int->Int}
 (b:∀(i j:Int) (t u:Tok) (s:Shared) (Q:Value->Shared->Prop) (E:Value->Shared->Prop),C i j->Q (.int (g i j) s.toks) { s with toks:=s.toks+1 }->wpAny (model X.prog X.w) X.A (f (.int i t) (.int j u)) Q E s):
 dH X f (rI C λi j=>.int (g i j)):=by
 intro k s l H x y v u Q I c d h;obtain ⟨i,j,rfl,rfl,a,q⟩:=h;obtain ⟨t,rfl⟩:=c;obtain ⟨e,rfl⟩:=d;exact b i j t e s _ _ a ⟨.int (g i j),H,I.tok _,⟨_,U⟩,q⟩
theorem LN {f:Value->Value->Sem Value} {g:Int->Int->Int}
 (a:∀(i j:Int) (t u:Tok) (s:Shared) (Q:Value->Shared->Prop) (E:Value->Shared->Prop),Q (.int (g i j) s.toks) { s with toks:=s.toks+1 }->wpAny (model X.prog X.w) X.A (f (.int i t) (.int j u)) Q E s):
 dH X f (eL λi j=>.int (g i j)):=by
 intro e s k H x y v u Q I b c h;obtain ⟨i,j,rfl,rfl,q⟩:=h;obtain ⟨t,rfl⟩:=b;obtain ⟨d,rfl⟩:=c;exact a i j t d s _ _ ⟨.int (g i j),H,I.tok _,⟨_,U⟩,q⟩
theorem Ac {f:Value->Value->Sem Value} {g:Int->Int->Bool}
 (a:∀(i j:Int) (t u:Tok) (s:Shared) (Q:Value->Shared->Prop) (E:Value->Shared->Prop),Q (.bool (g i j)) s->wpAny (model X.prog X.w) X.A (f (.int i t) (.int j u)) Q E s):
 dH X f (eL λi j=>.bl (g i j)):=by
 intro e s k H x y v u Q I b c h;obtain ⟨i,j,rfl,rfl,q⟩:=h;obtain ⟨t,rfl⟩:=b;obtain ⟨d,rfl⟩:=c;exact a i j t d s _ _ ⟨.bl (g i j),H,I,U,q⟩
def CC (i j:Int):Prop:=(-(2 ^ 64)<i/\i<2 ^ 64)\/(-(2 ^ 64)<j/\j<2 ^ 64)
theorem CC.ok (h:CC i j):IntMulOk i j:=by
 rcases h with ⟨a,b⟩ | ⟨a,b⟩
 ·exact .of_left (intBits_le_64 a b)
 ·exact .of_right (intBits_le_64 a b)
theorem gx:dH X (binaryOp .Add) (eL λi j=>.int (i+j)):=LN λ_ _ _ _ _ _ _ q=>add_int q
theorem gP:dH X (binaryOp .Sub) (eL λi j=>.int (i-j)):=LN λ_ _ _ _ _ _ _ q=>sub_int q
theorem U_:dH X (binaryOp .Mult) (rI CC λi j=>.int (i*j)):=MG λ_ _ _ _ _ _ _ a q=>mul_int q a.ok
theorem Bz:dH X (binaryOp .Mod) (rI (λ_ j=>0<j) λi j=>.int (i % j)):=MG λi j _ _ _ _ _ a q=>by have b:(0:Int)<j:=a;exact mod_int' (Qy a) (by rw [Int.fmod_eq_emod_of_nonneg i (Qk a)];exact q)
theorem Wb {f:Value->Sem Value} {g:Int->Int}
 (a:∀(i:Int) (t:Tok) (s:Shared) (Q:Value->Shared->Prop) (E:Value->Shared->Prop),Q (.int (g i) s.toks) { s with toks:=s.toks+1 }->wpAny (model X.prog X.w) X.A (f (.int i t)) Q E s):
 Ga X f (rU λi=>.int (g i)):=by
 intro c s d H x v Q I b h;obtain ⟨i,rfl,q⟩:=h;obtain ⟨t,rfl⟩:=b;exact a i t s _ _ ⟨.int (g i),H,I.tok _,⟨_,U⟩,q⟩
theorem u1:Ga X (unaryOp .USub) (rU λi=>.int (-i)):=Wb λ_ _ _ _ _ q=>neg_int q
end
def LV:V->V->Bool
 | .aH,.aH=>true | .aH,.int _=>true | .int _,.aH=>true | .aH,.bl _=>true | .bl _,.aH=>true | .aH,.str _=>true | .str _,.aH=>true
 | .int _,.int _=>true | .bl _,.bl _=>true | .str _,.str _=>true | .kq _,.kq _=>true
 | .int _,.str _=>true | .str _,.int _=>true | .bl _,.str _=>true | .str _,.bl _=>true
 | _,_=>false
def Wx:R2:=λx y H Q=>LV x y=true/\Q (.bl (decide (x=y))) H
def Ww:R2:=λx y H Q=>LV x y=true/\Q (.bl (!decide (x=y))) H
theorem HZ:decide (V.int i=V.int j)=(i==j):=by rw [AH];simp
theorem G_:decide (V.bl i=V.bl j)=(i==j):=by rw [AH];simp
theorem H_:decide (V.str i=V.str j)=(i==j):=by rw [AH];simp
theorem HY:decide (V.kq i=V.kq j)=(i.toList==j.toList):=by rw [AH];cases i;cases j;simp
section
theorem ej (I:Inv X pins σ H s) (q:Q (.bl k) H) (e:k=o):EP X pins σ Q (.bool o) s:=by subst e;exact ⟨.bl k,H,I,U,q⟩
theorem fc:dH X (compareOp .Eq) Wx:=by
 intro e s f H x y v u Q I d a h;obtain ⟨c,q⟩:=h
 cases x with
 | aH=>
  cases d
  cases y with
  | aH=>cases a;exact PySem.EqNone.eq_none_none (ej I q (by simp))
  | bl j=>cases a;exact PySem.EqNone.eq_none_bool (ej I q (by simp))
  | int j=>obtain ⟨b,rfl⟩:=a;exact PySem.EqNone.eq_none_int (ej I q (by simp))
  | str j=>obtain ⟨b,rfl⟩:=a;exact PySem.EqNone.eq_none_str (ej I q (by simp))
  | _=>exact absurd (show false=true from c) d_
 | bl i=>
  cases d
  cases y with
  | aH=>cases a;exact PySem.EqNone.eq_bool_none (ej I q (by simp))
  | bl j=>cases a;exact eq_bool (ej I q G_)
  | str j=>obtain ⟨b,rfl⟩:=a;exact PySem.EqMixed.eq_bool_str (ej I q (by simp))
  | _=>exact absurd (show false=true from c) d_
 | int i=>
  obtain ⟨t,rfl⟩:=d
  cases y with
  | aH=>cases a;exact PySem.EqNone.eq_int_none (ej I q (by simp))
  | int j=>obtain ⟨b,rfl⟩:=a;exact eq_int (ej I q HZ)
  | str j=>obtain ⟨b,rfl⟩:=a;exact PySem.EqMixed.eq_int_str (ej I q (by simp))
  | _=>exact absurd (show false=true from c) d_
 | str i=>
  obtain ⟨t,rfl⟩:=d
  cases y with
  | aH=>cases a;exact PySem.EqNone.eq_str_none (ej I q (by simp))
  | bl j=>cases a;exact PySem.EqMixed.eq_str_bool (ej I q (by simp))
  | int j=>obtain ⟨b,rfl⟩:=a;exact PySem.EqMixed.eq_str_int (ej I q (by simp))
  | str j=>obtain ⟨b,rfl⟩:=a;exact eq_str (ej I q H_)
  | _=>exact absurd (show false=true from c) d_
 | kq i=>
  obtain ⟨t,rfl⟩:=d
  cases y with
  | kq j=>obtain ⟨b,rfl⟩:=a;exact PySem.W.eq_bytes (ej I q HY)
  | _=>exact absurd (show false=true from c) d_
 | _=>cases y<;>exact absurd (show false=true from c) d_
theorem CU:dH X (compareOp .NotEq) Ww:=by
 intro e s f H x y v u Q I d a h;obtain ⟨c,q⟩:=h
 cases x with
 | aH=>
  cases d
  cases y with
  | aH=>cases a;exact PySem.EqNone.ne_none_none (ej I q (by simp))
  | bl j=>cases a;exact PySem.EqNone.ne_none_bool (ej I q (by simp))
  | int j=>obtain ⟨b,rfl⟩:=a;exact PySem.EqNone.ne_none_int (ej I q (by simp))
  | str j=>obtain ⟨b,rfl⟩:=a;exact PySem.EqNone.ne_none_str (ej I q (by simp))
  | _=>exact absurd (show false=true from c) d_
 | bl i=>
  cases d
  cases y with
  | aH=>cases a;exact PySem.EqNone.ne_bool_none (ej I q (by simp))
  | bl j=>cases a;exact ne_bool (ej I q (congrArg not G_))
  | str j=>obtain ⟨b,rfl⟩:=a;exact PySem.EqMixed.ne_bool_str (ej I q (by simp))
  | _=>exact absurd (show false=true from c) d_
 | int i=>
  obtain ⟨t,rfl⟩:=d
  cases y with
  | aH=>cases a;exact PySem.EqNone.ne_int_none (ej I q (by simp))
  | int j=>obtain ⟨b,rfl⟩:=a;exact ne_int (ej I q (congrArg not HZ))
  | str j=>obtain ⟨b,rfl⟩:=a;exact PySem.EqMixed.ne_int_str (ej I q (by simp))
  | _=>exact absurd (show false=true from c) d_
 | str i=>
  obtain ⟨t,rfl⟩:=d
  cases y with
  | aH=>cases a;exact PySem.EqNone.ne_str_none (ej I q (by simp))
  | bl j=>cases a;exact PySem.EqMixed.ne_str_bool (ej I q (by simp))
  | int j=>obtain ⟨b,rfl⟩:=a;exact PySem.EqMixed.ne_str_int (ej I q (by simp))
  | str j=>obtain ⟨b,rfl⟩:=a;exact ne_str (ej I q (congrArg not H_))
  | _=>exact absurd (show false=true from c) d_
 | kq i=>
  obtain ⟨t,rfl⟩:=d
  cases y with
  | kq j=>obtain ⟨b,rfl⟩:=a;exact PySem.W.ne_bytes (ej I q (congrArg not HY))
  | _=>exact absurd (show false=true from c) d_
 | _=>cases y<;>exact absurd (show false=true from c) d_
theorem oU:dH X (compareOp .Lt) (eL λi j=>.bl (decide (i<j))):=Ac λ_ _ _ _ _ _ _ q=>lt_int q
theorem jO:dH X (compareOp .LtE) (eL λi j=>.bl (decide (i<=j))):=Ac λ_ _ _ _ _ _ _ q=>le_int q
theorem CT:dH X (compareOp .Gt) (eL λi j=>.bl (decide (j<i))):=Ac λ_ _ _ _ _ _ _ q=>gt_int q
theorem Mc:dH X (compareOp .GtE) (eL λi j=>.bl (decide (j<=i))):=Ac λ_ _ _ _ _ _ _ q=>ge_int q
theorem yK:dH X (compareOp .Is) (λx y H Q=>y=.aH/\Q (.bl (decide (x=.aH))) H):=by
 intro c s d H x y v u Q I a b h;obtain ⟨rfl,q⟩:=h;cases b;refine is_none_gen (ej I q ?_);cases x<;>first
  | (cases a;rfl)
  | (obtain ⟨t,rfl⟩:=a;rfl)
theorem Iy:dH X (compareOp .IsNot) (λx y H Q=>y=.aH/\Q (.bl (!decide (x=.aH))) H):=by
 intro c s d H x y v u Q I a b h;obtain ⟨rfl,q⟩:=h;cases b;refine isnot_none_gen (ej I q ?_);cases x<;>first
  | (cases a;rfl)
  | (obtain ⟨t,rfl⟩:=a;rfl)
theorem Hy (b:Expr) (h:op≠.In:=by decide) (d:op≠.NotIn:=by decide):behindInMarks op b=false:=by
 have a:(op==CmpOp.In)=false:=by cases op<;>first | rfl | exact absurd rfl h
 have c:(op==CmpOp.NotIn)=false:=by cases op<;>first | rfl | exact absurd rfl d
 cases b<;>simp [behindInMarks,a,c]
theorem VE (i:dH X (compareOp op) r) (e:PE X a ta) (f:PE X b o) (g:behindInMarks op b=false):PE X (.Compare a [op] [b] pos) (m5 r ta o):=by intro j s n H Q I h;exact wpAny_Compare1 (CL e f I h λv u m x y c d k l q=>i j m n c x y v u Q d k l q) g
def kT (Q:Bool->Hp->Prop) (x:V) (H:Hp):Prop:=∃k,x=.bl k/\Q k H
def y9 (t:TE):TT:=λa H Q=>t a H (kT Q)
theorem vK (A:dH X (compareOp op) r) (p:PE X a ta) (q:PE X b tb) (t:behindInMarks op b=false):PT X (.Compare a [op] [b] pos) (y9 (m5 r ta tb)):=by
 intro f s g H Q I h;refine wpAny_isTrue_Compare1 (ar (p f s g H _ I h) λv J d=>L2.dy d λx i m E B=>ar (q f J g i _ m B) λu L d=>L2.dy d λy j n F C=>
  ar (A f L g j x y v u _ n E F C) λc M d=>?_) t
 obtain ⟨z,l,o,G,k,e,D⟩:=d;subst e;cases G;exact oF ⟨l,o,D⟩
theorem oN {X:Cx} {a b:Expr} {d e:TE} {k:Pos} {c:CmpOp} {r:R2} (j:dH X (compareOp c) r) (g:PE X a d) (i:PE X b e) (h:c≠.In:=by decide) (f:c≠.NotIn:=by decide):PE X (.Compare a [c] [b] k) (m5 r d e):=VE j g i (Hy _ h f)
theorem cR {X:Cx} {a b:Expr} {d e:TE} {k:Pos} {c:CmpOp} {r:R2} (j:dH X (compareOp c) r) (g:PE X a d) (i:PE X b e) (h:c≠.In:=by decide) (f:c≠.NotIn:=by decide):PT X (.Compare a [c] [b] k) (y9 (m5 r d e)):=vK j g i (Hy _ h f)
def Ht (r f:R2) (g h i:TE):TE:=λa H Q=>g a H λx c=>h a c λy d=>r x y d λz b=>∃k,z=.bl k/\
 (if k=true then i a b λj e=>f y j e Q else Q (.bl false) b)
theorem BV (F:dH X (compareOp op) r) (G:dH X (compareOp o) r') (B:PE X a ta) (C:PE X b tb) (D:PE X c tc)
 (E:lastMarks [op,o] [b,c]=false:=by with_unfolding_all rfl):PE X (.Compare a [op,o] [b,c] pos) (Ht r r' ta tb tc):=by
 intro f s g H Q I h;refine Compare_chain (ar (B f s g H _ I h) λv S d=>L2.dy d λx n t N J=>chain_link (ar (C f S g n _ t J) λu T d=>L2.dy d λy p z m L=>
  ar (F f T g p x y v u _ z N m L) λx1 V d=>?_)) E
 obtain ⟨x2,i,j,O,k,e,l⟩:=d;subst e;cases O;refine oF ?_
 cases k with
 | false=>exact ite_ff ⟨.bl false,i,j,U,l⟩
 | true=>exact ite_tt (chain_last (ar (D f V g i _ j l) λY W d=>L2.dy d λz' q A R M=>G f W g q y z' u Y Q A m R M))
theorem JB (J:dH X (compareOp op) r) (L:dH X (compareOp o) r') (D:PE X a ta) (E:PE X b tb) (F:PE X c tc)
 (G:lastMarks [op,o] [b,c]=false:=by with_unfolding_all rfl):PT X (.Compare a [op,o] [b,c] pos) (y9 (Ht r r' ta tb tc)):=by
 intro f s g H x3 I h;refine isTrue_chain (ar (D f s g H _ I h) λx1 Y d=>L2.dy d λx2 n v S N=>test_link (ar (E f Y g n _ v N) λu Z d=>L2.dy d λy p x m O=>
  ar (J f Z g p x2 y x1 u _ x S m O) λx4 s3 d=>?_)) G
 obtain ⟨x5,i,j,T,k,e,l⟩:=d;subst e;cases T;refine oF ?_
 cases k with
 | false=>
  obtain ⟨k',B,M⟩:=l;cases B;exact ite_ff ⟨i,j,M⟩
 | true=>
  refine ite_tt (test_last (ar (F f s3 g i _ j l) λw' s4 d=>L2.dy d λz' q z V Q=>ar (L f s4 g q y z' u w' _ z m V Q) λd' s5 d=>?_));obtain ⟨z2,t,A,W,k2,C,R⟩:=d;subst C;cases W;exact oF ⟨t,A,R⟩
theorem yJ:(sizeLine:Nat)<2 ^ 63:=by rw [sizeLine_eq];decide
theorem rL (r:ba [x] us):∃u,us=[u]/\bo x u:=by
 cases r with
 | cons a b=>cases b;exact ⟨_,U,a⟩
theorem Bi (r:ba [x,y] us):∃u w',us=[u,w']/\bo x u/\bo y w':=by
 cases r with
 | cons a b=>
  cases b with
  | cons c d=>cases d;exact ⟨_,_,U,a,c⟩
theorem Ko (b:X.calm=true):lZ X (.builtin "max") (λxs H Q=>∃i j,xs=[.int i,.int j]/\Q (.int (if j>i then j else i)) H):=by
 intro d s m H xs g Q I r h;obtain ⟨i,j,rfl,q⟩:=h;obtain ⟨u,l,rfl,⟨t,rfl⟩,⟨e,rfl⟩⟩:=Bi r;refine max_two_ints (I.ok.hd b) λc f k=>⟨_,H,I.kept k,?_,q⟩
 by_cases a:j>i
 ·rw [if_pos a,if_pos a];exact ⟨_,U⟩
 ·rw [if_neg a,if_neg a];exact ⟨_,U⟩
theorem we (b:X.calm=true):lZ X (.builtin "min") (λxs H Q=>∃i j,xs=[.int i,.int j]/\Q (.int (if j<i then j else i)) H):=by
 intro d s m H xs g Q I r h;obtain ⟨i,j,rfl,q⟩:=h;obtain ⟨u,l,rfl,⟨t,rfl⟩,⟨e,rfl⟩⟩:=Bi r;refine min_two_ints (I.ok.hd b) λc f k=>⟨_,H,I.kept k,?_,q⟩
 by_cases a:j<i
 ·rw [if_pos a,if_pos a];exact ⟨_,U⟩
 ·rw [if_neg a,if_neg a];exact ⟨_,U⟩
theorem Qt:lZ X (.type "int") (λxs H Q=>(∃i,xs=[.int i]/\Q (.int i) H)\/∃k,xs=[.bl k]/\Q (.int (if k then 1 else 0)) H):=by
 intro b s d H xs c Q I r h;rcases h with ⟨i,rfl,q⟩ | ⟨k,rfl,q⟩
 ·obtain ⟨u,rfl,t,rfl⟩:=rL r;exact call_int_int ⟨.int i,H,I,⟨_,U⟩,q⟩
 ·obtain ⟨u,rfl,a⟩:=rL r;cases a;exact call_int_bool ⟨.int (if k then 1 else 0),H,I.tok _,⟨_,U⟩,q⟩
end
structure sL (h:Heap) (x dx C:Addr) (mA:Str->Option Value):Prop where
 obj:h.get? x=some (PySem.W.instObj C dx)
 ns:h.Ns1 dx mA
 ne:dx≠x
theorem QG {h:Heap} {b:Addr} {d:Str->Option Value} (n:h.Ns1 b d):∃f,h.get? b=some f/\∀name,PySem.W.lookIn name f=some (d name):=by
 obtain ⟨o,c,r,m,i,j,_,l⟩:=n;refine ⟨o,m,λname=>?_⟩;have e:=l name;unfold nsFind findBy at e;rw [<-Array.find?_toList] at e;unfold PySem.W.lookIn;rw [i];dsimp only;split
 ·rename_i y q
  rw [q] at e;exact congrArg some e
 ·rename_i q
  rw [q] at e;have a:c.toList.any (·.refKey)=false:=by rw [List.any_eq_false];intro y p;obtain ⟨z,t,k⟩:=j y (Array.mem_toList_iff.mp p);simp [DictEntry.refKey,k]
  have g:¬c.toList.any (·.refKey)=true:=by rw [a];exact d_
  rw [if_neg g];exact congrArg some e
theorem sL.look (I:sL h x dx C mA):∃a,PySem.W.InstAt h x (PySem.W.instObj C dx) C (some a)/\∀name,PySem.W.lookIn name a=some (mA name):=
 let ⟨a,c,b⟩:=QG I.ns
 ⟨a,⟨I.obj,U,U,c⟩,b⟩
section
variable {K:aW}
theorem VX (X:K.In s.heap) (I:sL s.heap x dx C mA) (b:PySem.W.plainGet K C name=true) (c:PySem.W.hasDictIn K C=true)
 (a:PySem.W.findIn K (.ref C) name=some none) (e:mA name=some v) (f:PySem.W.handedIn v=true) (h:Q v { s with toks:=s.toks+1 }):
 wpAny (model prog w) A (getAttr (.ref x) name expr) Q E s:=by
 obtain ⟨g,J,d⟩:=I.look;exact PySem.W.get_value X J (PySem.W.plainGet_of b).1 (PySem.W.findObj_own c a U (by rw [d,e])) f h
theorem P9 (X:K.In s.heap) (I:sL s.heap x dx C mA) (a:PySem.W.plainGet K C name=true)
 (b:PySem.W.findIn K (.ref C) name=some (some (.ref f))) (d:PySem.W.isFn K (.ref f)=true) (e:mA name=none) (h:Q (.ref f,[.ref x]) s):
 wpAny (model prog w) A (getMethod (.ref x) name pl) Q E s:=by
 obtain ⟨g,J,c⟩:=I.look;exact PySem.W.method_fn X J (PySem.W.plainGet_of a).1 (PySem.W.plainGet_of a).2 b (beq_iff_eq.mp d) (by show (PySem.W.lookIn name g).map (·.isSome)=some false;rw [c,e];rfl) h
theorem OX (X:K.In s.heap) (I:sL s.heap x dx C mA)
 (m:PySem.W.findIn K (.ref C) "__setattr__"=some (some (.builtin "object.__setattr__"))) (l:PySem.W.plainOver K C=true) (n:PySem.W.takerIn K C name=some none) (j:PySem.W.hasDictIn K C=true)
 (hw:PySem.Within mA ns) (hsz:ns.length<=sizeLine)
 (h:∀h',sL h' x dx C (λy=>if y=name then some v else mA y)->Heap.SameBut dx s.heap h'->Q () { s with heap:=h',toks:=s.toks+2 }):
 wpAny (model prog w) A (setAttr (.ref x) name v) Q E s:=by
 obtain ⟨B,J,u⟩:=I.look;refine PySem.W.set_plain X J m (PySem.W.osa_open (s:={ s with toks:=s.toks+1 }) (r:=none) X J l n λb=>?_);obtain ⟨p,e,g⟩:=PySem.W.any_some j;have o:s.heap.get? x=some ⟨.ref C,some dx,.plain,#[]⟩:=I.obj;refine ab (aG (ab (ab (wpAny_loadPart o (ab (PySem.W.Looks.here (s:={ s with toks:=s.toks+1 }) (PySem.W.looks_clsIn X e) ?_))))));rw [g];refine aG (a:=some dx) (ab (aG (ab ?_)));refine wpAny_nsSet1 (s:={ s with toks:=s.toks+1 }) I.ns λh' c d=>?_;obtain ⟨z,t,q,k,i,f⟩:=c.count (PySem.Within.cons name v hw);refine ab (wpAny_lookBehind k (by rw [i];exact pastItsLine_dict (c7 f (by rw [jl];exact sj hsz))) ?_);exact aG (h _ ⟨(d.2 _ (aQ I.ne)).trans I.obj,c,I.ne⟩ d)
theorem Ph (X:K.In s.heap) (c:PySem.W.makesIn K C=true)
 (b:PySem.W.findIn K (.ref C) "__init__"=some (some (.ref f))) (a:PySem.W.typeIn K (.ref f)=some (.type "function"))
 (h:codeAny (model prog w) (A.under (.builtin "type.__call__" ⟨.ref C::vs,kw⟩)) (.call (.ref f) ⟨.ref (s.heap.objs.size+1)::vs,kw⟩) (PySem.W.InitBack (s.heap.objs.size+1) R)
  { s with heap:=(s.heap.push PySem.W.emptyDict).push (PySem.W.instObj C s.heap.objs.size) }):
 codeAny (model prog w) A (.call (.ref C) ⟨vs,kw⟩) R s:=by
 obtain ⟨e,g,d,t,i⟩:=s;exact PySem.W.make_core (PySem.W.makes_of X c) (PySem.W.looks_findIn X b) (λself=>PySem.W.bind_fn X self a) (.inl U) h
end
def a8 (f:Str) (v:V):List (Str×V)->List (Str×V)
 | []=>[(f,v)]
 | (g,x)::r=>if g=f then (g,v)::r else (g,x)::a8 f v r
theorem je (f g:Str) (v:V):∀fs:List (Str×V),(a8 f v fs).lookup g=if g=f then some v else fs.lookup g
 | []=>by
  show List.lookup g [(f,v)]=_
  by_cases h:g=f
  ·have a:(g==f)=true:=beq_iff_eq.mpr h;simp only [List.lookup,a,if_pos h]
  ·have a:(g==f)=false:=beq_eq_false_iff_ne.mpr h;simp only [List.lookup,a,if_neg h]
 | (k,x)::r=>by
  have c:=je f g v r;rw [show a8 f v ((k,x)::r)=(if k=f then (k,v)::r else (k,x)::a8 f v r) from rfl]
  by_cases b:k=f
  ·rw [if_pos b]
   by_cases h:g=k
   ·have a:(g==k)=true:=beq_iff_eq.mpr h;simp only [List.lookup,a,if_pos (h.trans b)]
   ·have a:(g==k)=false:=beq_eq_false_iff_ne.mpr h;simp only [List.lookup,a,if_neg (λe:g=f=>h (e.trans b.symm))]
  ·rw [if_neg b]
   by_cases h:g=k
   ·have a:(g==k)=true:=beq_iff_eq.mpr h;simp only [List.lookup,a,if_neg (λe:g=f=>b (h.symm.trans e))]
   ·have a:(g==k)=false:=beq_eq_false_iff_ne.mpr h;simp only [List.lookup,a];exact c
theorem Cq (f:Str) (v:V):∀fs:List (Str×V),f∈(a8 f v fs).map (·.1)/\∀g,g∈fs.map (·.1)->g∈(a8 f v fs).map (·.1)
 | []=>⟨by simp [a8],λg h=>by simp at h⟩
 | (k,x)::r=>by
  obtain ⟨b,c⟩:=Cq f v r;rw [show a8 f v ((k,x)::r)=(if k=f then (k,v)::r else (k,x)::a8 f v r) from rfl]
  by_cases a:k=f
  ·rw [if_pos a];subst a;exact ⟨by simp,λg h=>by simpa using h⟩
  ·rw [if_neg a];refine ⟨?_,λg h=>?_⟩
   ·rw [dt];exact eI _ b
   ·rw [dt] at h ⊢;rcases eG.mp h with e | e
    ·exact eG.mpr (.inl e)
    ·exact eI _ (c g e)
theorem L9 (f:Str) (v:V):∀fs:List (Str×V),(a8 f v fs).length<=fs.length+1
 | []=>by simp [a8]
 | (k,x)::r=>by
  have b:=L9 f v r;rw [show a8 f v ((k,x)::r)=(if k=f then (k,v)::r else (k,x)::a8 f v r) from rfl]
  by_cases a:k=f
  ·rw [if_pos a,jl,jl];exact h9
  ·rw [if_neg a,jl,jl];exact sj b
theorem iX.some_of (r:iX (some v) o):∃u,o=some u/\bo v u:=by
 cases o with
 | none=>exact (show False from r).elim
 | some u=>exact ⟨u,U,r⟩
theorem iX.none_of (r:iX none o):o=none:=by
 cases o with
 | none=>rfl
 | some u=>exact (show False from r).elim
theorem Q7 (r:bo v u):PySem.W.handedIn u=true:=by
 cases v with
 | aH=>cases (show u=Value.none from r);rfl
 | bl b=>cases (show u=Value.bool b from r);rfl
 | int i=>obtain ⟨t,e⟩:=(show ∃t,u=Value.int i t from r);cases e;rfl
 | str x=>obtain ⟨t,e⟩:=(show ∃t,u=Value.str x t from r);cases e;rfl
 | kq b=>obtain ⟨t,e⟩:=(show ∃t,u=Value.bytes b t from r);cases e;rfl
 | qe b=>obtain ⟨t,e⟩:=(show ∃t,u=Value.float b t from r);cases e;rfl
 | ref a=>cases (show u=Value.ref a from r);rfl
 | ty n=>cases (show u=Value.type n from r);rfl
section
theorem yR (c:ei P w H h) (e:H a=some (.ins C dx fs)):∃b,sL h a dx C b/\(∀f,iX (fs.lookup f) (b f))/\PySem.Within b (fs.map (·.1))/\fs.length<=1000/\H dx=some (.own a):=by obtain ⟨d,z,g,i,b,n,r,q⟩:=(show dd P w H h a (.ins C dx fs) from c a _ e);exact ⟨b,⟨i,n,g⟩,r,q,z,d⟩
end
structure kH (K:aW) (C:Addr):Prop where
 pg:PySem.W.plainGet K C Str.empty=true
 hd:PySem.W.hasDictIn K C=true
 po:PySem.W.plainOver K C=true
 sa:PySem.W.findIn K (.ref C) "__setattr__"=some (some (.builtin "object.__setattr__"))
theorem kH.get {C:Addr} (c:kH K C) (f:Str):PySem.W.plainGet K C f=true:=c.pg
def iH (K:aW) (C:Addr) (f:Str):Prop:=PySem.W.findIn K (.ref C) f=some none
theorem iH.w9 {C:Addr} {f:Str} (n:iH K C f):PySem.W.takerIn K C f=some none:=by unfold PySem.W.takerIn;rw [show PySem.W.findIn K (.ref C) f=some none from n];rfl
structure ic (K:aW) (C:Addr) (m:Str) (f:Addr):Prop where
 at_:PySem.W.findIn K (.ref C) m=some (some (.ref f))
 fn:PySem.W.isFn K (.ref f)=true
 kp:PySem.W.keepIn K (.ref f)=true
section
theorem Rv (I:Inv X pins σ H s) (e:H a=some (.ins C dx fs)) (c:kH X.K C) (n:iH X.K C f) (l:fs.lookup f=some v)
 (h:∀u s',Inv X pins σ H s'->bo v u->Q u s'):wpAny (model X.prog X.w) A (getAttr (.ref a) f b) Q E s:=by
 obtain ⟨i,O,r,_,_,_⟩:=yR I.a7 e;obtain ⟨u,g,d⟩:=iX.some_of (v:=v) (o:=i f) (by rw [<-l];exact r f);exact VX I.fq O (c.get f) c.hd n g (Q7 d) (h u _ (I.tok _) d)
theorem Lo (I:Inv X pins σ H s) (e:H a=some (.ins C dx fs)) (c:kH X.K C) (k:ic X.K C m g) (l:fs.lookup m=none)
 (h:Q (.ref g,[.ref a]) s):wpAny (model X.prog X.w) A (getMethod (.ref a) m pl) Q E s:=by
 obtain ⟨d,O,r,_,_,_⟩:=yR I.a7 e;have b:d m=none:=iX.none_of (by rw [<-l];exact r m);exact P9 I.fq O (c.get m) k.at_ k.fn b h
theorem Rn (I:Inv X pins σ H s) (e:H a=some (.ins C dx fs)) (c:kH X.K C) (n:iH X.K C f) (B:fs.length<1000) (F:bo y u)
 (h:∀s',Inv X pins σ (upd H a (.ins C dx (a8 f y fs))) s'->Q () s'):wpAny (model X.prog X.w) A (setAttr (.ref a) f u) Q E s:=by
 obtain ⟨j,O,r,k,_,i⟩:=yR I.a7 e;have D:(fs.map (·.1)).length<=sizeLine:=by rw [ax,sizeLine_eq];omega
 refine OX I.fq O c.sa c.po n.w9 c.hd k D λm d G=>h _ ?_;have t:∃o,m.get? dx=some o:=let ⟨o,_,_,l,_⟩:=d.ns;⟨o,l⟩;refine I.write (x:=a) (e:=dx) (by rw [e];exact True.intro) (.inr i) (λb q p z=>(G.2 b p).trans z) t ?_;refine ⟨by rw [aq O.ne];exact i,?_,O.ne,d.obj,_,d.ns,λg=>?_,λg v=>?_⟩
 ·have:=L9 f y fs;exact BZ B this
 ·show iX ((a8 f y fs).lookup g) (if g=f then some u else j g);rw [je]
  by_cases q:g=f
  ·rw [if_pos q,if_pos q];exact F
  ·rw [if_neg q,if_neg q];exact r g
 ·by_cases q:g=f
  ·rw [q];exact (Cq f y fs).1
  ·refine (Cq f y fs).2 g (k g λz=>v ?_);show (if g=f then some u else j g)=none;rw [if_neg q];exact z
theorem Inv.made (I:Inv X pins σ H s):Inv X pins σ (upd (upd H s.heap.objs.size (.own (s.heap.objs.size+1))) (s.heap.objs.size+1) (.ins C s.heap.objs.size []))
 { s with heap:=(s.heap.push PySem.W.emptyDict).push (PySem.W.instObj C s.heap.objs.size) }:=by
 have c:(s.heap.push PySem.W.emptyDict).get? s.heap.objs.size=some PySem.W.emptyDict:=hY s.heap U;have g:((s.heap.push PySem.W.emptyDict).push (PySem.W.instObj C s.heap.objs.size)).get? (s.heap.objs.size+1)=some (PySem.W.instObj C s.heap.objs.size):=by
  have:=hY (s.heap.push PySem.W.emptyDict) (o:=PySem.W.instObj C s.heap.objs.size) U
  rwa [FX] at this
 have h:(s.heap.push PySem.W.emptyDict).Ns s.heap.objs.size (λ_=>none):=⟨PySem.W.emptyDict,#[],_,c,U,(λe i=>absurd i (by simp)),λ_=>rfl⟩;have f:=I.laid (a:=s.heap.objs.size) (o:=.own (s.heap.objs.size+1)) (h':=s.heap.push PySem.W.emptyDict) (t':=s.toks) (λb u q=>df _ q) (aj _) ⟨_,c⟩;refine f.laid (a:=s.heap.objs.size+1) (o:=.ins C s.heap.objs.size []) (t':=s.toks) (λb u q=>df _ q) (ua (FX _ _)) ?_;have d:s.heap.objs.size≠s.heap.objs.size+1:=eF (qj _);refine ⟨by rw [aq d,ak],cN _,d,g,λ_=>none,(Heap.Ns1.of_empty h).at λo q=>df _ q,λ_=>True.intro,λy j=>absurd U j⟩
theorem Vu (a:attributeBase e f env (eval e env)=eval e env)
 (h:wpAny (model prog w) A (eval e env) (λo b=>wpAny (model prog w) A (getAttr o f true) Q E b) E s):wpAny (model prog w) A (eval (.Attribute e f pos) env) Q E s:=
 Attribute_any_ h (by rw [arm_eval_Attribute,a])
end
def gU (K:aW) (f:Str) (x:V) (H:Hp) (Q:VK):Prop:=∃a C c b v,x=.ref a/\H a=some (.ins C c b)/\kH K C/\iH K C f/\b.lookup f=some v/\Q v H
def LX (K:aW) (b:TE) (f:Str):TE:=λc H Q=>b c H λx a=>gU K f x a Q
def gS (K:aW) (f:Str) (y x:V) (H:Hp) (N:Hp->Prop):Prop:=∃a C c b,x=.ref a/\H a=some (.ins C c b)/\kH K C/\iH K C f/\b.length<1000/\N (upd H a (.ins C c (a8 f y b)))
def Th (K:aW) (d e:TE) (f:Str):TS:=λD a H=>e a H λy b=>d a b λx c=>gS K f y x c (D.nx a)
section
theorem fJ (m:PE X e ta) (k:attributeBase e f X.env (eval e X.env)=eval e X.env):PE X (.Attribute e f pos) (LX X.K ta f):=by intro o s y H Q I h;refine Vu k (ar (m o s y H _ I h) λu B t=>?_);obtain ⟨x,b,d,r,a,C,z,A,v,j,i,c,n,l,q⟩:=t;subst j;obtain rfl:u=Value.ref a:=r;exact Rv d i c n l λE D g p=>⟨v,b,g,p,q⟩
theorem nU (r:PE X o ta) (v:PE X value J) (t:swapsWith value (some (.Attribute o f pos')) pos.line X.env=pure false):PS X (.Assign [.Attribute o f pos'] value pos) (Th X.K ta J f):=by intro e s d H D I h;refine plainObj_wpAny_Assign_Attribute (ar (v e s d H _ I h) λu F b=>L2.dy b λy g i E q=>ar (r e F d g _ i q) λz N b=>?_) t;obtain ⟨x,G,j,B,a,C,L,M,p,m,c,n,l,A⟩:=b;subst p;obtain rfl:z=Value.ref a:=B;exact Rn j m c n l E λO k=>⟨d,_,k,A⟩
end
section
inductive kI (K:aW) (H:Hp):V->Value->Prop where
 | aH:kI K H .aH (.type "NoneType")
 | bl (x:Bool):kI K H (.bl x) (.type "bool")
 | int (i:Int):kI K H (.int i) (.type "int")
 | str (x:Str):kI K H (.str x) (.type "str")
 | qe (x:UInt64):kI K H (.qe x) (.type "float")
 | lst {a:Addr} {xs:List V} (e:H a=some (.lst xs)):kI K H (.ref a) (.type "list")
 | dY {a:Addr} {o:Obj} {xs:List V} (e:H a=some (.dY o (.lst xs))):kI K H (.ref a) (.type "list")
 | tup {a:Addr} {xs:List V} (e:H a=some (.tup xs)):kI K H (.ref a) (.type "tuple")
 | dK {a:Addr} {kvs:List (Key×V)} (e:H a=some (.dK kvs)):kI K H (.ref a) (.type "dict")
 | dT {a:Addr} {kvs:List (List Key×V)} (e:H a=some (.dT kvs)):kI K H (.ref a) (.type "dict")
 | ins {a C dx:Addr} {fs:List (Str×V)} (e:H a=some (.ins C dx fs)) (cl:kH K C) (ha:PySem.W.findIn K (.ref C) "__class__"=some (some (.builtin "object.__class__")))
  (hn:PySem.W.specialIn K (.builtin "object.__class__") "__get__"=some (some (.builtin "getset_descriptor.__get__"))) (Ng:PySem.W.takesIn K (.builtin "object.__class__")=some true)
  (hm:PySem.W.mroIn K C (.type "object")=some true):kI K H (.ref a) (.ref C)
theorem QB (I:Inv X pins σ H s) (f:bo x u) (M:kI X.K H x t) (e:PySem.W.kitOne X.K t c=some b) (h:∀L,Q (.bool b) { s with toks:=L }):
 wpAny (model X.prog X.w) A (call (.builtin "isinstance") [u,c]) Q E s:=by
 cases M with
 | aH=>cases (show u=Value.none from f);exact PySem.W.kia_one PySem.W.kitx_none I.fq True.intro e nofun h
 | bl y=>cases (show u=Value.bool y from f);exact PySem.W.kia_one PySem.W.kitx_bool I.fq True.intro e nofun h
 | int i=>obtain ⟨t,q⟩:=(show ∃t,u=Value.int i t from f);cases q;exact PySem.W.kia_one PySem.W.kitx_int I.fq True.intro e nofun h
 | str y=>obtain ⟨t,q⟩:=(show ∃t,u=Value.str y t from f);cases q;exact PySem.W.kia_one PySem.W.kitx_str I.fq True.intro e nofun h
 | qe y=>obtain ⟨t,q⟩:=(show ∃t,u=Value.float y t from f);cases q;exact PySem.W.kia_one PySem.W.kitx_float I.fq True.intro e nofun h
 | @lst a j d=>
  cases (show u=Value.ref a from f);obtain ⟨_,_,n,_,g⟩:=(show dd X.prog X.w H s.heap a (.lst j) from I.a7 a _ d);exact PySem.W.kia_one PySem.W.kitx_list I.fq ⟨_,g,U⟩ e nofun h
 | @dY a G j d=>
  cases (show u=Value.ref a from f);obtain ⟨_,_,_,n,_,g⟩:=(show dd X.prog X.w H s.heap a (.dY G (.lst j)) from I.a7 a _ d);exact PySem.W.kia_one PySem.W.kitx_list I.fq ⟨_,g,U⟩ e nofun h
 | @tup a j d=>
  cases (show u=Value.ref a from f);obtain ⟨_,_,_,p⟩:=(show dd X.prog X.w H s.heap a (.tup j) from I.a7 a _ d);obtain ⟨o,g,k,_⟩:=p;exact PySem.W.kia_one PySem.W.kitx_tuple I.fq ⟨o,g,k⟩ e nofun h
 | @dK a l d=>
  cases (show u=Value.ref a from f);obtain ⟨_,_,V,_,p⟩:=(show dd X.prog X.w H s.heap a (.dK l) from I.a7 a _ d);obtain ⟨o,v,r,g,k,_⟩:=p;exact PySem.W.kia_one PySem.W.kitx_dict I.fq ⟨o,g,k.1⟩ e nofun h
 | @dT a l d=>
  cases (show u=Value.ref a from f);obtain ⟨_,_,j,_,o,v,r,g,k,_⟩:=(show dd X.prog X.w H s.heap a (.dT l) from I.a7 a _ d);exact PySem.W.kia_one PySem.W.kitx_dict I.fq ⟨o,g,k.1⟩ e nofun h
 | @ins a C N R d m z D F B=>
  cases (show u=Value.ref a from f);obtain ⟨S,O,_⟩:=yR I.a7 d;obtain ⟨T,J,_⟩:=O.look;exact PySem.W.kia_one (PySem.W.kitx_own (m.get _) m.hd z D F B) I.fq J e nofun h
end
structure cI (k:Nat) (A:Around):Prop where
 hd:A.handled=none
 dp:A.depth+3*k+5<recursionLimit
 un:A.units+16*k+200<cLine
theorem cI.mono (r:cI k A) (h:j<=k):cI j A:=⟨r.hd,by have:=r.dp;exact Qj this h,by have:=r.un;exact Q5 this h⟩
theorem cI.deeper (r:cI (k+1) A) (env:Env):cI k (A.deeper env):=
 ⟨r.hd,by have:=r.dp;show A.depth+1+3*k+5<_;exact Ca this,by have:=r.un;show A.units+3+16*k+200<_;exact J' this⟩
theorem Rx {A:Around} {C:Addr} {us:List Value} {a:List (Str×Value)}:(A.under (.builtin "type.__call__" ⟨.ref C::us,a⟩)).depth=A.depth+1:=by first | rfl | simp [Around.under,Code.weight,Code.isCreation,Code.isGuard,Code.isCaller,Code.frames,Code.isFrame,guardIds]
theorem Ry {A:Around} {C:Addr} {us:List Value} {a:List (Str×Value)}:(A.under (.builtin "type.__call__" ⟨.ref C::us,a⟩)).units=A.units+1:=by first | rfl | simp [Around.under,Code.cUnits,Code.frames,Code.isFrame]
theorem cI.make (r:cI (k+1) A) (C:Addr) (us:List Value) (a:List (Str×Value)):cI k (A.under (.builtin "type.__call__" ⟨.ref C::us,a⟩)):=
 ⟨r.hd,by have:=r.dp;rw [Rx];exact Ca this,by have:=r.un;rw [Ry];exact Q3 this⟩
theorem cI.depth (r:cI k A):A.depth<recursionLimit:=by have:=r.dp;exact Kf this
theorem cI.units (r:cI k A):A.units+64<cLine:=by have:=r.un;exact Qg this
def lC:TA:=λ_ H Q=>Q [] H
def gZ (d:TE) (e:TA):TA:=λa H Q=>d a H λx b=>e a b λf c=>Q (x::f) c
section
theorem lJ:PA X [] lC:=λ_ _ _ _ H Q I h=>Calls.spliced_nil ⟨[],H,I,.nil,h⟩
theorem u4 (k:PE X e C) (l:PA X o t) (m:starEach (e::o) X.env=(false,eval e X.env)::starEach o X.env:=by rfl):PA X (e::o) (gZ C t):=by intro c b s d H Q I h;rw [m];show wpAny _ _ (spliced ((false,eval e X.env)::backTo c (starEach o X.env))) _ _ s;refine Calls.spliced_cons (ar (k b s d H _ I h) λu v a=>?_);obtain ⟨x,f,i,q,n⟩:=a;exact ar (l c b v d f _ i n) λA z a=>L2.dy a λy g j r p=>⟨x::y,g,j,.cons q r,p⟩
theorem cX {n:Nat} (h:Nat.ble n sizeLine=true):n<=sizeLine:=Nat.le_of_ble_eq_true h
theorem bR {X:Cx} {x:Str} {e:Expr} {c:TE} {a b:Pos} (i:Nat) (d:X.N.Nodup) (f:PE X e c) (h:X.N[i]?=some x:=by rfl) (k:Loc X.env.scope x:=by exact Or.inl U) (j:swapsWith e (some (.Name x b)) a.line X.env=pure false:=by rfl) (g:X.fn x=true\/X.env.scope.names.lookup x=some .local:=by first | exact .inl rfl | exact .inr rfl | assumption):PS X (.Assign [.Name x b] e a) (wy c (qw i)):=vB (i:=i) d h k f j g
theorem bO {X:Cx} {x:Str} {e:Pos} (i:Nat) (a:X.N.Nodup) (c:X.N[i]?=some x:=by rfl) (d:Loc X.env.scope x:=by exact Or.inl U) (b:X.fn x=true\/X.env.scope.names.lookup x=some .local:=by first | exact .inl rfl | exact .inr rfl | assumption):PG X (.Name x e) (qw i):=B8 (i:=i) a c d b
theorem bY {X:Cx} {a:Expr} {b:TE} (c:PE X a b) (d:starEach [a] X.env=(false,eval a X.env)::starEach [] X.env:=by rfl):PA X [a] (gZ b lC):=u4 c lJ d
theorem a_ {X:Cx} {a b:Expr} {c d:TE} (e:PE X a c) (f:PE X b d) (g:starEach [a,b] X.env=(false,eval a X.env)::starEach [b] X.env:=by rfl) (h:starEach [b] X.env=(false,eval b X.env)::starEach [] X.env:=by rfl):PA X [a,b] (gZ c (gZ d lC)):=u4 e (bY f h) g
theorem eM {X:Cx} {a b c:Expr} {d e f:TE} (g:PE X a d) (h:PE X b e) (i:PE X c f) (j:starEach [a,b,c] X.env=(false,eval a X.env)::starEach [b,c] X.env:=by rfl) (k:starEach [b,c] X.env=(false,eval b X.env)::starEach [c] X.env:=by rfl) (l:starEach [c] X.env=(false,eval c X.env)::starEach [] X.env:=by rfl):PA X [a,b,c] (gZ d (gZ e (gZ f lC))):=u4 g (a_ h i k l) j
theorem jh {X:Cx} {a b c d:Expr} {e f g h:TE} (i:PE X a e) (j:PE X b f) (k:PE X c g) (l:PE X d h) (m:starEach [a,b,c,d] X.env=(false,eval a X.env)::starEach [b,c,d] X.env:=by rfl) (n:starEach [b,c,d] X.env=(false,eval b X.env)::starEach [c,d] X.env:=by rfl) (o:starEach [c,d] X.env=(false,eval c X.env)::starEach [d] X.env:=by rfl) (p:starEach [d] X.env=(false,eval d X.env)::starEach [] X.env:=by rfl):PA X [a,b,c,d] (gZ e (gZ f (gZ g (gZ h lC)))):=u4 i (eM j k l n o p) m
def uO (t:TA):TE:=λc H Q=>t c H λb a=>b.length<=sizeLine/\∀p,a p=none->Q (.ref p) (upd a p (.tup b))
def Tc (t:TA):TE:=λc H Q=>t c H λb a=>b.length<=sizeLine/\∀p,a p=none->Q (.ref p) (upd a p (.lst b))
theorem cE {C} (h:PA X o t):PE X (.Tuple o C pos) (uO t):=by intro i s m H Q I g;refine wpAny_Tuple_spliced (ar (h pos i s m H _ I g) λj a l=>?_);obtain ⟨k,c,d,r,z,q⟩:=l;refine ⟨by rw [<-r.length];exact z,?_⟩;have f:c a.heap.objs.size=none:=d.a7.fresh (aj _);refine ⟨.ref a.heap.objs.size,upd c a.heap.objs.size (.tup k),d.laid (t':=a.toks) (λb u e=>df _ e) (aj _) ?_,U,q _ f⟩;exact ⟨z,j,r,⟨_,hY _ U,U,_,U⟩⟩
theorem iA (h:PA X o t):PE X (.List o pos) (Tc t):=by intro i s m H Q I g;refine wpAny_List_spliced (ar (h pos i s m H _ I g) λj a l=>?_);obtain ⟨k,c,d,r,z,q⟩:=l;refine ⟨by rw [<-r.length];exact z,?_⟩;have f:c a.heap.objs.size=none:=d.a7.fresh (aj _);refine ⟨.ref a.heap.objs.size,upd c a.heap.objs.size (.lst k),d.laid (t':=a.toks) (λb u e=>df _ e) (aj _) ?_,U,q _ f⟩;exact ⟨z,j,0,r,hY _ U⟩
end
abbrev Sp:=List V->Hp->VK->XK->Prop
abbrev jL:=List Env->Hp->Shared->XK->Value->Shared->Prop
structure oJ (P:Program) (w:World) (K:aW) (mg:Str->Option Value) (base:Heap) (A:Around) (outer:List Env) (s:Shared) (H:Hp):Prop where
 frames:A.frames=some outer
 mod:Mod K mg base
 bs:∀b o,base.get? b=some o->s.heap.get? b=some o/\H b=none
 o8:base.objs.size<=s.heap.objs.size
 fu:s.heap.FunFrames base outer
 rg:∀b∈nt outer,H b=none
 a7:ei P w H s.heap
 bare:AllBare s.gens
def CE (b:List Env) (P:Program) (w:World) (H:Hp) (s:Shared) (Q:VK) (u:Value) (s':Shared):Prop:=
 ∃v a,s'.os=s.os/\AllBare s'.gens/\Un (nt b) [] H a s.heap s'.heap/\ei P w a s'.heap/\bo v u/\Q v a
def CR (CX:jL) (a:List Env) (P:Program) (w:World) (H:Hp) (s:Shared) (Q:VK) (E:XK) (r:Result) (s':Shared):Prop:=
 match r with
 | .ok (.ret u)=>CE a P w H s Q u s'
 | .ok _=>False
 | .error e=>CX a H s E e s'
structure au (P:Program) (w:World) (K:aW) (mg:Str->Option Value) (base:Heap) (CX:jL) (k:Nat) (f:Addr) (fd:FuncData) (ps:List Str) (sp:Sp):Prop where
 len:∀vs H Q E,sp vs H Q E->vs.length=ps.length
 run:∀(A:Around) (outer:List Env) (s:Shared) (H:Hp) (args:Args) (us:List Value) (vs:List V) (Q:VK) (E:XK),cI k A->oJ P w K mg base A outer s H->BindsTo s fd args (ps.zip us)->ba vs us->sp vs H Q E->
  codeAny (model P w) A (.call (.ref f) args) (CR CX outer P w H s Q E) s
theorem oJ.make {A:Around} {a:List Env} {s:Shared} {H:Hp} (e:oJ P w K mg base A a s H) (C:Addr) (us:List Value) (b:List (Str×Value)):
 oJ P w K mg base (A.under (.builtin "type.__call__" ⟨.ref C::us,b⟩)) a s H:=⟨by first | exact e.frames | (simpa [Around.under,Code.envs,Code.isFrame,pushEnvs] using e.frames),e.mod,e.bs,e.o8,e.fu,e.rg,e.a7,e.bare⟩
section
theorem Inv.xB (I:Inv X pins σ H s):oJ X.prog X.w X.K X.mg X.base X.A X.stack s H:=
 ⟨I.ok.frames,I.ok.mod,I.bs,c7 I.ok.o8 I.sz,I.stack,I.j_,I.a7,I.bare⟩
theorem Inv.after (I:Inv X pins σ H s) (h:CE X.stack X.prog X.w H s Q u s'):EP X pins σ Q u s':=by obtain ⟨v,a,i,c,k,f,r,q⟩:=h;obtain ⟨e,g,d,t,j⟩:=s';obtain rfl:j=s.os:=i;exact ⟨v,a,I.call (h':=e) (g':=g) (d':=d) (t':=t) (ch:=[]) k f c (λb z=>absurd z (by simp)),r,q⟩
end
def Mr (sp:Sp) (b:List V) (E:XK) (t:TA):TE:=λd H Q=>t d H λc a=>sp (c++b) a Q E
def gT (C:Addr) (m:Str) (x:V) (H:Hp) (R:Prop):Prop:=∃a c b,x=.ref a/\H a=some (.ins C c b)/\b.lookup m=none/\R
def Bg (C:Addr) (m:Str) (sp:Sp) (d:List V) (E:XK) (e:TE) (t:TA):TE:=λb H Q=>e b H λx a=>gT C m x a (t b a λf c=>sp (x::(f++d)) c Q E)
def UB (C:Addr) (sp:Sp) (d:List V) (E:XK) (t:TA):TE:=λf H Q=>t f H λe b=>∀x a,b x=none->b a=none->a≠x->
 sp (.ref x::(e++d)) (upd (upd b a (.own x)) x (.ins C a [])) (λv c=>v=.aH/\Q (.ref x) c) E
def fb (K:aW) (c:FuncData) (b:List Str) (ds:List Value):Prop:=
 ∀(s:Shared) (a:List Value),K.In s.heap->(a++ds).length=b.length->BindsTo s c ⟨a,[]⟩ (b.zip (a++ds))
theorem fb.all {b:FuncData} {a:List Str} (h:∀us:List Value,us.length=a.length->bindArgs b ⟨us,[]⟩=pure (a.zip us)):fb K b a []:=λs us _ c=>by rw [uf] at c ⊢;exact .of_eq (h us c)
def rO (CX:jL) (X:Cx) (E:XK):Prop:=∀(b:List (Addr×Obj)) (c:St) (H:Hp) (s:Shared) (e:Value) (a:Shared),Inv X b c H s->CX X.stack H s E e a->X.xe e a
section
theorem By (F:au X.prog X.w X.K X.mg X.base CX k f fd ps sp) (j:cI k X.A) (d:fb X.K fd ps ds) (g:ba o ds) (l:rO CX X E)
 (I:Inv X pins σ H s) (r:ba vs us) (h:sp (vs++o) H Q E):wpAny (model X.prog X.w) X.A (call (.ref f) us) (EP X pins σ Q) X.xe s:=by
 have b:ba (vs++o) (us++ds):=r.append g;have i:(us++ds).length=ps.length:=by rw [<-b.length];exact F.len _ _ _ _ h
 refine wpAny_call (AO (F.run X.A X.stack s H ⟨us,[]⟩ (us++ds) (vs++o) Q E j I.xB (d s us I.fq i) b h) λr m a=>?_)
 cases r with
 | error e=>exact l pins σ H s e m I a
 | ok c=>
  cases c with
  | ret u=>exact I.after a
  | next=>exact hQ a
  | brk=>exact hQ a
  | cont=>exact hQ a
theorem VD (F:au X.prog X.w X.K X.mg X.base CX k f fd ps sp) (u:cI k X.A) (j:Gl X x) (m:X.mg x=some (.ref f)) (l:PySem.W.keepIn X.K (.ref f)=true) (c:fb X.K fd ps ds) (d:ba C ds) (v:rO CX X E)
 (b:PA X (e::o) t) (g:(x==("__debug__":Str))=false:=by decide) (i:starEach (e::o) X.env=(false,eval e X.env)::starEach o X.env:=by rfl) (n:(backTo pos (starEach o X.env)).any (·.1)=false:=by rfl):
 PE X (.Call (.Name x p) (e::o) [] pos) (Mr sp C E t):=by
 intro y s A H Q I h;refine AX (BH I j m ?_ g);refine PySem.W.callWith_K (h₀:=X.base) I.ok.mod.uR l (ar (b pos y s A H _ I h) λG D z=>L2.dy z λJ B a r q=>⟨a.fq,?_⟩) i n;exact By F u c d v a r q
theorem ig (D:PE X o ta) (c:kH X.K C) (i:ic X.K C m f) (F:au X.prog X.w X.K X.mg X.base CX k f fd ps sp) (L:cI k X.A) (A:fb X.K fd ps ds) (B:ba YW ds) (O:rO CX X E) (z:PA X (e::J) t)
 (M:starEach (e::J) X.env=(false,eval e X.env)::starEach J X.env:=by rfl) (G:(backTo pos (starEach J X.env)).any (·.1)=false:=by rfl)
 (N:eval (.Call (.Attribute o m apos) (e::J) [] pos) X.env=(do
  let j <-eval o X.env
  standAt apos.atName
  let (f,first) <-holding [j] (getMethod j m pl)
  callWith pos f first (backTo pos (starEach (e::J) X.env)) (backToKw pos (keywordEach [] X.env))):=by rfl):
 PE X (.Call (.Attribute o m apos) (e::J) [] pos) (Bg C m sp YW E ta t):=by
 intro n s p H Q I h;refine PySem.W.methodCall_KW (pl:=pl) (ar (D n s p H _ I h) λu T b=>?_) N;obtain ⟨x1,v,d,S,a,W,Y,y,x,l,q⟩:=b;subst y;obtain rfl:u=Value.ref a:=S;refine Lo d x c i l ?_;refine PySem.W.callWith_K (first:=[.ref a]) (h₀:=X.base) I.ok.mod.uR i.kp (ar (z pos n T p v _ d q) λus s2 b=>L2.dy b λvs V g r R=>⟨g.fq,?_⟩) M G;exact By (us:=.ref a::us) (vs:=.ref a::vs) F L A B O g (.cons U r) R
theorem zk (p:PE X o ta) (c:kH X.K C) (d:ic X.K C m f) (F:au X.prog X.w X.K X.mg X.base CX k f fd ps sp) (r:cI k X.A) (j:fb X.K fd ps ds) (n:ba J ds) (v:rO CX X E)
 (t:eval (.Call (.Attribute o m apos) [] [] pos) X.env=(do
  let e <-eval o X.env
  standAt apos.atName
  let (f,first) <-holding [e] (getMethod e m pl)
  callWith pos f first (backTo pos (starEach [] X.env)) (backToKw pos (keywordEach [] X.env))):=by rfl):
 PE X (.Call (.Attribute o m apos) [] [] pos) (Bg C m sp J E ta lC):=by
 intro y s B H Q I h;refine PySem.W.methodCall_KW (pl:=pl) (ar (p y s B H _ I h) λu M A=>?_) t;obtain ⟨x,D,b,z,a,G,L,i,g,l,q⟩:=A;subst i;obtain rfl:u=Value.ref a:=z;refine Lo b g c d l ?_;exact PySem.W.callWith_K0 (first:=[.ref a]) b.fq d.kp (By (us:=[.ref a]) (vs:=[.ref a]) F r j n v b (.cons rfl .nil) q)
structure Mk (K:aW) (C f:Addr):Prop where
 makes:PySem.W.makesIn K C=true
 init:PySem.W.findIn K (.ref C) "__init__"=some (some (.ref f))
 fn:PySem.W.isFn K (.ref f)=true
 kp:PySem.W.keepIn K (.ref C)=true
theorem P5 (M:Mk X.K C f) (F:au X.prog X.w X.K X.mg X.base CX k f fd ps sp) (y:cI (k+1) X.A) (p:fb X.K fd ps ds) (q:ba o ds)
 (z:rO CX X E) (I:Inv X pins σ H s) (r:ba vs us)
 (h:∀x c,H x=none->H c=none->c≠x->sp (.ref x::(vs++o)) (upd (upd H c (.own x)) x (.ins C c [])) (λv j=>v=.aH/\Q (.ref x) j) E):
 wpAny (model X.prog X.w) X.A (call (.ref C) us) (EP X pins σ Q) X.xe s:=by
 have d:=h (s.heap.objs.size+1) s.heap.objs.size (I.a7.fresh (lB _)) (I.a7.fresh (aj _)) (eF (qj _));have b:=Inv.made (C:=C) I;have g:ba (V.ref (s.heap.objs.size+1)::(vs++o)) (Value.ref (s.heap.objs.size+1)::(us++ds)):=.cons U (r.append q);have t:(Value.ref (s.heap.objs.size+1)::us++ds).length=ps.length:=by have e:=g.length;rw [F.len _ _ _ _ d] at e;exact e.symm
 refine wpAny_call (Ph (f:=f) I.fq M.makes M.init (beq_iff_eq.mp M.fn) (AO (F.run _ X.stack _ _ ⟨Value.ref (s.heap.objs.size+1)::us,[]⟩ (Value.ref (s.heap.objs.size+1)::(us++ds)) _ _ E (y.make C us [])
  (b.xB.make C us []) (p _ (Value.ref (s.heap.objs.size+1)::us) b.fq t) g d) λr D a=>?_))
 cases r with
 | error e=>exact z pins σ _ _ e D b a
 | ok n=>
  cases n with
  | ret u=>
   obtain ⟨v,i,l,B,m,A⟩:=b.after a;subst m;exact ⟨B,⟨V.ref (s.heap.objs.size+1),i,l,U,A⟩⟩
  | next=>exact hQ a
  | brk=>exact hQ a
  | cont=>exact hQ a
theorem I0 (M:Mk X.K C f) (F:au X.prog X.w X.K X.mg X.base CX k f fd ps sp) (n:cI (k+1) X.A) (j:Gl X x) (l:X.mg x=some (.ref C)) (c:fb X.K fd ps ds) (d:ba J ds) (u:rO CX X E)
 (b:PA X (e::o) t) (g:(x==("__debug__":Str))=false:=by decide) (i:starEach (e::o) X.env=(false,eval e X.env)::starEach o X.env:=by rfl) (m:(backTo pos (starEach o X.env)).any (·.1)=false:=by rfl):
 PE X (.Call (.Name x p) (e::o) [] pos) (UB C sp J E t):=by
 intro v s z H Q I h;refine AX (BH I j l ?_ g);refine PySem.W.callWith_K (h₀:=X.base) I.ok.mod.uR M.kp (ar (b pos v s z H _ I h) λD B y=>L2.dy y λG A a r q=>⟨a.fq,?_⟩) i m;exact P5 M F n c d u a r q
end
section
end
structure cf (N P:List Str) (sc:Scope):Prop where
 kind:sc.kind=.function
 co:sc.isCoroutine=false
 gen:sc.isGenerator=false
 nd:N.Nodup
 pre:N.take P.length=P
 par:∀x∈P,sc.names.lookup x=some .local\/sc.names.lookup x=some .cell
 mQ:∀y∈sc.names,y.2≠.free
theorem cH {N P:List Str} {sc:Scope} (a:sc.kind=.function:=by rfl) (b:sc.isCoroutine=false:=by rfl) (c:sc.isGenerator=false:=by rfl) (d:N.Nodup:=by decide+kernel) (e:N.take P.length=P:=by rfl) (f:∀x∈P,sc.names.lookup x=some .local\/sc.names.lookup x=some .cell:=by decide+kernel) (g:∀y∈sc.names,y.2≠.free:=by decide+kernel):cf N P sc:=⟨a,b,c,d,e,f,g⟩
theorem Km {c:Str->Option NameKind} {x:Str}:∀{a:List (Str×Value)} {m:Str->Option Value},(∀v,(x,v)∉a)->bindL c a m x=m x
 | [],_,_=>rfl
 | (n,v)::r,m,h=>by
  unfold bindL;rw [Km λw b=>h w (eI _ b)];split
  ·have:x≠n:=by rintro rfl;exact h v dB
   simp [this]
  ·rfl
theorem Kl {c:Str->Option NameKind} {x:Str}:∀{a:List (Str×Value)} {m:Str->Option Value},(∀v,(x,v)∉a)->bindC c a m x=m x
 | [],_,_=>rfl
 | (n,v)::r,m,h=>by
  unfold bindC;rw [Kl λw b=>h w (eI _ b)];split
  ·rfl
  ·have:x≠n:=by rintro rfl;exact h v dB
   simp [this]
theorem Co {c:Str->Option NameKind} {x:Str} {v:Value}:∀{P:List Str} {vs:List Value} {i:Nat} {m:Str->Option Value},P.Nodup->P[i]?=some x->vs[i]?=some v->c x=some .local->
 bindL c (P.zip vs) m x=some v
 | [],_,_,_,_,h,_,_=>by simp at h
 | _::_,[],_,_,_,_,h,_=>by simp at h
 | p::P,w::vs,0,m,e,a,b,d=>by simp at a b;subst a;subst b;show bindL c ((p,w)::P.zip vs) m p=_;unfold bindL;rw [Km λv f=>(List.nodup_cons.mp e).1 (AI f).1,if_pos d];simp
 | p::P,w::vs,i+1,m,e,a,b,d=>by show bindL c ((p,w)::P.zip vs) m x=_;unfold bindL;exact Co (i:=i) (List.nodup_cons.mp e).2 (by simpa using a) (by simpa using b) d
theorem Ck {c:Str->Option NameKind} {x:Str} {v:Value}:∀{P:List Str} {vs:List Value} {i:Nat} {m:Str->Option Value},P.Nodup->P[i]?=some x->vs[i]?=some v->c x≠some .local->
 bindC c (P.zip vs) m x=some v
 | [],_,_,_,_,h,_,_=>by simp at h
 | _::_,[],_,_,_,_,h,_=>by simp at h
 | p::P,w::vs,0,m,e,a,b,d=>by simp at a b;subst a;subst b;show bindC c ((p,w)::P.zip vs) m p=_;unfold bindC;rw [Kl λv f=>(List.nodup_cons.mp e).1 (AI f).1,if_neg d];simp
 | p::P,w::vs,i+1,m,e,a,b,d=>by show bindC c ((p,w)::P.zip vs) m x=_;unfold bindC;exact Ck (i:=i) (List.nodup_cons.mp e).2 (by simpa using a) (by simpa using b) d
def fj (N:List Str) (vs:List V):St:=vs.map some++List.replicate (N.length-vs.length) none
def sQ (CX:jL) (P:Program) (w:World) (K:aW) (mg:Str->Option Value) (base:Heap) (N:List Str) (b:Str) (scope:Scope) (f:Addr) (a:Value) (A:Around) (outer:List Env) (s:Shared) (H:Hp) (E:XK):Cx where
 prog:=P
 w:=w
 K:=K
 mg:=mg
 base:=base
 A:=A.deeper (envOfC b scope s.heap.objs.size f a)
 N:=N
 cP:=s
 gW:=H
 env:=envOfC b scope s.heap.objs.size f a
 outer:=outer
 stack:=envOfC b scope s.heap.objs.size f a::outer
 ex:=[]
 calm:=true
 fn:=λ_=>true
 pn:=[]
 xe:=λe g=>wpAny (model P w) (A.deeper (envOfC b scope s.heap.objs.size f a)) (leaving (envOfC b scope s.heap.objs.size f a) e) (λ_ c=>CX outer H s E e c) (λd c=>CX outer H s E d c) g
theorem zb {a:Scope} {n:Nat} {x:Str} (h:a.names.lookup x=some .cell):∃c,(cellsFrom n a.names []).lookup x=some c:=by have q:=FO a.names n [] (.inl h);exact Option.isSome_iff_exists.mp q
theorem QA {CX:jL} {N l:List Str} {C:Str} {scope:Scope} {f:Addr} {t:Value} {A:Around} {F:List Env} {s s1:Shared} {H:Hp} {E:XK} {us:List Value} {vs:List V}
 (S:cf N l scope) (O:A.handled=none) (g:oJ P w K mg base A F s H) (I:vs.length=l.length) (r:ba vs us)
 (x:InCallC s s.heap.objs.size (bindL (envOfC C scope s.heap.objs.size f t).kindOf (l.zip us) λ_=>none) (cellsFrom (s.heap.objs.size+1) scope.names []) (bindC (envOfC C scope s.heap.objs.size f t).kindOf (l.zip us) λ_=>none) s1):
 Inv (sQ CX P w K mg base N C scope f t A F s H E) [] (fj N vs) H s1:=by
 have Q:l.length<=N.length:=by have:=congrArg List.length S.pre;rw [fU] at this;exact Ki this
 obtain ⟨B,W,rfl,G⟩:=x.done;have D:∀b:Addr,b∉(sQ CX P w K mg base N C scope f t A F s H E).ex:=λb z=>absurd (show b∈([]:List Addr) from z) (by simp);refine ⟨⟨g.mod,S.kind,U,U,aj _,λy z c B d=>?_,λy j=>?_,λy c _ h=>?_,λ_=>O,Around.frames_deeper g.frames,.inr ⟨U,U⟩,λb z=>absurd z (D b),g.bs,g.o8,λb _ _=>D b,λb z=>absurd z (D b),g.fu,g.rg⟩,
  rfl,g.bare,Un.kept G,⟨_,x.toInCall.ns,λi y v B d T=>?_⟩,λy c h=>⟨_,x.cell y c h⟩,g.a7.fresh (aj _),λy c h=>?_,λp o=>absurd (show p∈([]:List (Addr×Obj)) from o) (by simp),g.a7.kept G,?_⟩
 ·exact name_of_addr x.apart (nG B) (nG d)
 ·have j:scope.names.lookup y=some .cell\/scope.names.lookup y=some .free:=j;rcases j with j | j
  ·exact zb j
  ·exact absurd U (S.mQ _ (nG j))
 ·exact aP (x.above y c (nG h))
 ·have m:i<vs.length:=by
   unfold fj at d
   by_cases m:i<vs.length
   ·exact m
   ·rw [lT (by simpa using m)] at d;rw [FY] at d;split at d<;>cases d
  have M:vs[i]?=some v:=by
   unfold fj at d;rw [nC (by simpa using m),dC] at d
   cases e:vs[i]? with
   | none=>rw [e] at d;cases d
   | some a=>rw [e] at d;cases d;rfl
  obtain ⟨u,J,R⟩:=r.get M;have o:l[i]?=some y:=by rw [<-S.pre,AY (Kd m I)];exact B
  have L:l.Nodup:=by rw [<-S.pre];exact S.nd.sublist (List.take_sublist _ _)
  refine ⟨u,R,?_⟩;rcases S.par y (fg o) with k | k
  ·exact .inl ⟨k,Co L o J k⟩
  ·obtain ⟨c,e⟩:=zb (n:=s.heap.objs.size+1) k;refine .inr ⟨.inl k,c,e,?_⟩;have q:=x.cell y c e;rw [Ck L o J (by show scope.names.lookup y≠_;rw [k];decide)] at q;exact q
 ·exact g.a7.fresh (aP (x.above y c (nG h)))
 ·unfold fj;show _=N.length;rw [ff,ax,uh];exact Ke I Q
theorem T7 {CX:jL} {k:Nat} {f:Addr} {name d:Str} {O:Arguments} {m:List Stmt} {scope:Scope} {C L D R c B oc:Value} {z od:Option Addr}
 {wC:Array (Option Value)} {N j:List Str} {sp:Sp} (lk:K.lookup f=some ⟨oc,od,.func (PySem.W.fnOf name d O m scope C L D R z c B),wC⟩) (Y:PySem.W.codeIn K c d=true) (S:cf N j scope)
 (M:∀vs H Q E,sp vs H Q E->vs.length=j.length)
 (X:∀(A:Around) (h:List Env) (s:Shared) (H:Hp) (vs:List V) (Q:VK) (E:XK),cI k (A.deeper (envOfC d scope s.heap.objs.size f c))->sp vs H Q E->
  ∃t,eZ (sQ CX P w K mg base N d scope f c A h s H E) m t/\t { nx:=λ_ a=>Q .aH a,rt:=Q } (fj N vs) H):
 au P w K mg base CX (k+1) f (PySem.W.fnOf name d O m scope C L D R z c B) j sp:=by
 refine ⟨M,λA h s H args us vs Q E n i W x2 G=>?_⟩;have hl:=M _ _ _ _ G;have r:K.In s.heap:=i.mod.uR.keeps λb o e=>(i.bs b o e).1;have lim:s.heap.NoLimit:=i.mod.nolimit.keeps λb o e=>(i.bs b o e).1;have nj:∀y∈j.zip us,scope.names.lookup y.1=some .local\/(scope.names.lookup y.1=some .cell/\((cellsFrom (s.heap.objs.size+1) scope.names []).lookup y.1).isSome=true):=λ⟨x1,v⟩ hy=>by
  rcases S.par x1 (AI hy).1 with q | q
  ·exact .inl q
  ·exact .inr ⟨q,FO _ _ _ (.inl q)⟩
 refine codeAny_call_function n.depth (r _ _ lk) U S.co S.gen U (PySem.W.codeRec_of r Y) (W _ _ _ _ ?_);refine Ox S.kind nj λenv Z s1 x=>?_;subst Z;refine ⟨lim.keeps x.toInCall.keep,codeAny_func ?_⟩;obtain ⟨t,ht,hq⟩:=X A h s H vs Q E (n.deeper _) G;have I:Inv (sQ CX P w K mg base N d scope f c A h s H E) [] (fj N vs) H s1:=QA S n.hd i hl x2 x;refine hV (ht [] s1 (fj N vs) H _ I hq) (λT s' g=>?_) λe s' g=>g;have F:∀{l:St} {a:Hp} {v:V} {u:Value},Inv (sQ CX P w K mg base N d scope f c A h s H E) [] l a s'->bo v u->Q v a->CE h P w H s Q u s':=
  λ{l a v u} J p q=>⟨v,a,J.os,J.bare,J.base,J.a7,p,q⟩
 cases T with
 | ret u=>
  obtain ⟨v,l,a,J,p,q⟩:=g;exact F J p q
 | next=>
  obtain ⟨l,a,J,q⟩:=g;exact F (v:=V.aH) (u:=Value.none) J U q
 | brk=>
  obtain ⟨_,_,_,q⟩:=g;exact hQ q
 | cont=>
  obtain ⟨_,_,_,q⟩:=g;exact hQ q
section
variable {id T:String}
def M5 (r:List V->Hp->VK->Prop) (t:TA):TE:=λc H Q=>t c H λb a=>r b a Q
theorem j4 (g:lZ X (.builtin id) r) (k:Gl X x) (l:X.mg x=none) (q:bootBuiltins x=some (.builtin id)) (f:PA X (e::o) t) (m:x≠"__name__":=by decide) (i:(x==("__debug__":Str))=false:=by decide)
 (j:starEach (e::o) X.env=(false,eval e X.env)::starEach o X.env:=by rfl) (n:(backTo pos (starEach o X.env)).any (·.1)=false:=by rfl):PE X (.Call (.Name x p) (e::o) [] pos) (M5 r t):=by
 intro a s b H Q I h;refine AX (uz I k l q ?_ m i);exact PyProof.Rows.callWith_builtin1 (ar (f pos a s b H _ I h) λz y B=>L2.dy B λA c d v u=>g a y b c A z Q d v u) j n
theorem qK (g:lZ X (.type T) r) (k:Gl X x) (l:X.mg x=none) (q:bootBuiltins x=some (.type T)) (f:PA X (e::o) t) (m:x≠"__name__":=by decide) (i:(x==("__debug__":Str))=false:=by decide)
 (j:starEach (e::o) X.env=(false,eval e X.env)::starEach o X.env:=by rfl) (n:(backTo pos (starEach o X.env)).any (·.1)=false:=by rfl):PE X (.Call (.Name x p) (e::o) [] pos) (M5 r t):=by
 intro a s b H Q I h;refine AX (uz I k l q ?_ m i);exact A_ (ar (f pos a s b H _ I h) λz y B=>L2.dy B λA c d v u=>g a y b c A z Q d v u) j n
end
end L2
namespace HT
open PySem PyProof.Rows
section
open PySem.SeqAt
open PySem.AutoSeq1 (wpAny_loadPart')
open PySem.MeetsSeq PySem.MeetsSeq2 PySem.MeetsSeq3
end
section
theorem qh (v:IsTup s.heap t vs.toArray) (u:IsTup s.heap b ws.toArray) (l:vs≠[])
 (q:ws=[]->Q (.ref t) s) (r:ws≠[]->Q (.ref s.heap.objs.size) { s with heap:=s.heap.push { cls:=.type "tuple",data:=.seq (vs++ws).toArray } })
 (hsz:vs.length+ws.length<=sizeLine):wpAny (model prog w) A (binaryOp .Add (.ref t) (.ref b)) Q E s:=by
 obtain ⟨⟨cls,f,data,o⟩,a,h,n,j⟩:=id v;obtain ⟨⟨x,g,y,p⟩,c,i,m,k⟩:=id u;simp only at h j i k;subst h j i k;have e:vs.toArray++ws.toArray=(vs++ws).toArray:=by simp
 by_cases d:ws=[]
 ·exact concat_meets ⟨_,a,U⟩ ⟨_,c,U⟩ noFill_tuple_add seq_tuple_add PySem.F.slot_tuple_add PySem.F.entry_tuple_add (PySem.F.args_tuple_add_2 _ _)
   (tuple_addW1 t b vs.toArray ws.toArray n m f g o p (by simpa using l) (by simp [d])) ⟨a,c,q d⟩
 ·refine concat_meets ⟨_,a,U⟩ ⟨_,c,U⟩ noFill_tuple_add seq_tuple_add PySem.F.slot_tuple_add PySem.F.entry_tuple_add (PySem.F.args_tuple_add_2 _ _)
   (tuple_addW2 t b vs.toArray ws.toArray n m f g o p (by simpa using l) (by simpa using d) (by rw [f7,f7];exact hsz)) ⟨a,c,?_⟩
  rw [e];exact r d
def b3 (n d:Nat):Option Int->Nat
 | none=>d
 | some v=>if v<0 then (v+(n:Int)).toNat else min v.toNat n
theorem cZ (n d:Nat):b3 n d none=d:=U
theorem cb (n d k:Nat):b3 n d (some (k:Int))=min k n:=by show (if (k:Int)<0 then ((k:Int)+(n:Int)).toNat else min (k:Int).toNat n)=min k n;rw [if_neg Qm,iU]
theorem Vf (n d:Nat) (b:d<=n) (o:Option Int):b3 n d o<=n:=by
 cases o with
 | none=>exact b
 | some v=>
  show (if v<0 then (v+(n:Int)).toNat else min v.toNat n)<=n
  by_cases a:v<0
  ·rw [if_pos a];omega
  ·rw [if_neg a];exact Nat.min_le_right _ _
theorem HM (v:Int) (n d:Nat):(if v<0 then max (v+(n:Int)) 0 else min v (n:Int))=((b3 n d (some v):Nat):Int):=by
 show (if v<0 then max (v+(n:Int)) 0 else min v (n:Int))=(((if v<0 then (v+(n:Int)).toNat else min v.toNat n):Nat):Int)
 by_cases a:v<0
 ·simp only [if_pos a];omega
 ·simp only [if_neg a];omega
theorem Rg (b a:Option Int) (n:Nat):Builtin.Slice.sliceAdjust b a 1 (n:Int)=(((b3 n 0 b:Nat):Int),((b3 n n a:Nat):Int)):=by
 have c:¬((1:Int)<0):=by omega
 unfold Builtin.Slice.sliceAdjust;simp only [c,if_false];refine Prod.ext ?_ ?_
 ·cases b with
  | none=>rfl
  | some v=>exact HM v n 0
 ·cases a with
  | none=>rfl
  | some v=>exact HM v n n
theorem Rl (i j:Nat):Builtin.Slice.slicePlaces (i:Int) (j:Int) 1=j-i:=by
 unfold Builtin.Slice.slicePlaces;have a:(1:Int)>0:=by omega
 simp only [a,if_true,Int.ediv_one];split<;>omega
theorem Lr (p:IsPart v o) (h:Q o s):wpAny (model prog w) A (Builtin.Slice.slicePartIndex v) Q E s:=by
 cases p with
 | none=>exact slicePart_none h
 | int i t=>exact slicePart_int h
theorem Sd {g:Addr} {e f:Value} {a b:Option Int} {n:Nat} {Q:Int×Int×Nat->Shared->Prop} (i:s.heap.IsSliceOf g e f .none) (pl:IsPart e a) (j:IsPart f b)
 (h:Q (((b3 n 0 a:Nat):Int),1,b3 n n b-b3 n 0 a) s):wpAny (model prog w) A (Builtin.Slice.sliceApplied (.ref g) (pure (n:Int))) Q E s:=by
 obtain ⟨l,d,k,c⟩:=id i;unfold Builtin.Slice.sliceApplied Builtin.Slice.sliceFields;refine ab (ab (nA d c (x:=e) U (ab (nA d c (x:=f) U (ab (nA d c (x:=.none) U (aG ?_)))))));refine ab (slicePart_none ?_);show wpAny _ _ (if ((1:Int)==0)=true then _ else _) _ _ s;rw [if_neg (by decide)];refine ab (Lr pl (ab (Lr j (ab (aG ?_)))));show wpAny _ _ (match Builtin.Slice.sliceAdjust a b 1 (n:Int) with | (a,b)=>pure (a,(1:Int),Builtin.Slice.slicePlaces a b 1)) _ _ s;rw [Rg a b n];show wpAny _ _ (pure (((b3 n 0 a:Nat):Int),(1:Int),Builtin.Slice.slicePlaces ((b3 n 0 a:Nat):Int) ((b3 n n b:Nat):Int) 1)) _ _ s;rw [Rl];exact aG h
theorem Pu (xs:Array Value) (i k:Nat):((List.range k).filterMap λ(m:Nat)=>xs[((i:Int)+(m:Int)*1).toNat]?).toArray=((xs.toList.drop i).take k).toArray:=by
 have e:(λ(m:Nat)=>xs[((i:Int)+(m:Int)*1).toNat]?)=λm=>xs[i+m]?:=by
  funext m
  have:((i:Int)+(m:Int)*1).toNat=i+m:=by omega
  rw [this]
 rw [e];have:=pick_run xs i k;rw [List.filterMap_map] at this;have a:((λx=>xs[x]?) ∘ λx=>i+x)=λm=>xs[i+m]?:=U;rw [a] at this;rw [this]
theorem eY {t f:Addr} {a:Array Value} {i j:Value} {b c:Option Int} {Q:Value->Shared->Prop} (d:IsTup s.heap t a) (g:s.heap.IsSliceOf f i j .none) (pl:IsPart i b) (r:IsPart j c)
 (hw:¬(b3 a.size 0 b=0/\b3 a.size a.size c=a.size))
 (h:Q (.ref s.heap.objs.size) { s with heap:=s.heap.push { cls:=.type "tuple",data:=.seq ((a.toList.drop (b3 a.size 0 b)).take (b3 a.size a.size c-b3 a.size 0 b)).toArray } })
 (hsz:a.size<=sizeLine):wpAny (model prog w) A (getItem (.ref t) (.ref f)) Q E s:=by
 have e:sizeOk (.seq ((a.toList.drop (b3 a.size 0 b)).take (b3 a.size a.size c-b3 a.size 0 b)).toArray):=by show ((a.toList.drop (b3 a.size 0 b)).take (b3 a.size a.size c-b3 a.size 0 b)).toArray.size<=sizeLine;rw [f7,fU,yh,oH];omega
 have v:b3 a.size a.size c<=a.size:=Vf _ _ (aj _) c;obtain ⟨p,o,l,u⟩:=id g;have k:s.TypeIs (.ref f) "slice":=⟨p,o,l⟩;unfold getItem
 try with_reducible refine kD ?_
 first | refine ab (aG ?_) | skip
 refine ab (wpAny_sequenceKey d.typeIs (by decide) ?_);refine ab (vi (name:=Str.ofString "__getitem__") d.typeIs FQ
  (rk FQ d.typeIs entry_tuple_getitem ?_ (args_tuple_getitem _ _)))
 show wpAny _ _ (Builtin.Tuple.tupleItemsOf (.ref t)>>=_) _ _ s;refine ab (tupleItemsOf_ d ?_);refine ab (wpAny_typeOf k ?_);rw [if_pos (by decide)];refine ab (Sd g pl r ?_);have n:¬((((b3 a.size 0 b:Nat):Int)==0 && (1:Int)==1 && (b3 a.size a.size c-b3 a.size 0 b)==a.size)=true):=by intro q;rw [kr,kr] at q;have x:((b3 a.size 0 b:Nat):Int)=0:=eq_of_beq q.1.1;have y:b3 a.size a.size c-b3 a.size 0 b=a.size:=eq_of_beq q.2;exact hw ⟨by omega,by omega⟩
 show wpAny _ _ (if (((b3 a.size 0 b:Nat):Int)==0 && (1:Int)==1 && (b3 a.size a.size c-b3 a.size 0 b)==a.size)=true then _ else _) _ _ s;rw [if_neg n,Pu]
 first
  | exact ab (m:=Builtin.Tuple.tupleExact _) (qk (aG ⟨_,rfl,aG h⟩) e)
  | exact ab (m:=Builtin.Tuple.tupleExact _) (qk (ab (aG (aG ⟨_,rfl,aG h⟩))) e)
  | exact ab (ab (m:=Builtin.Tuple.tupleExact _) (qk (aG (aG ⟨_,rfl,aG h⟩)) e))
  | exact ab (ab (m:=Builtin.Tuple.tupleExact _) (qk (aG ⟨_,rfl,aG h⟩) e))
end
end HT
open HT (b3 cZ cb)
namespace L2
open PySem PySem.Spec PyProof.Rows
abbrev TO:=St->Hp->(Option Int->Hp->Prop)->Prop
def PO (X:Cx) (e:Option Expr) (t:TO):Prop:=
 ∀(c:List (Addr×Obj)) (s:Shared) (a:St) (H:Hp) (Q:Option Int->Hp->Prop),Inv X c a H s->t a H Q->
  wpAny (model X.prog X.w) X.A (evalPart e X.env) (λu d=>∃o b,Inv X c a b d/\IsPart u o/\Q o b) X.xe s
def yX:TO:=λ_ H Q=>Q none H
def yC (t:TE):TO:=λb H Q=>t b H λx a=>∃i,x=.int i/\Q (some i) a
section
variable {lo hi:Option Expr}
theorem mi:PO X none yX:=by intro a s b H Q I h;rw [evalPart_none];exact aG ⟨none,H,I,.none,h⟩
theorem mj (h:PE X e o):PO X (some e) (yC o):=by intro d s k H Q I c;rw [evalPart_some];refine ar (h d s k H _ I c) λu l j=>?_;obtain ⟨x,a,b,g,f⟩:=j;obtain ⟨i,rfl,q⟩:=f;obtain ⟨t,rfl⟩:=g;exact ⟨some i,a,b,.int i t,q⟩
def yk (X:Cx) (r:V->Option Int->Option Int->Hp->VK->Prop):Prop:=
 ∀(a:List (Addr×Obj)) (s:Shared) (e:St) (H:Hp) (x:V) (v c d:Value) (lo hi:Option Int) (b:Addr) (Q:VK),Inv X a e H s->bo x v->s.heap.IsSliceOf b c d .none->IsPart c lo->IsPart d hi->r x lo hi H Q->
  ∃T id,typeLookup (.type T) "__getitem__"=pure (some (.builtin id))/\s.TypeIs v T/\wpAny (model X.prog X.w) X.A (getItem v (.ref b)) (EP X a e Q) X.xe s
def Ao (r:V->Option Int->Option Int->Hp->VK->Prop) (e:TE) (g f:TO):TE:=λa H Q=>e a H λx b=>g a b λl c=>f a c λu d=>r x l u d Q
theorem mu (C:yk X r) (z:PE X e te) (B:PO X lo tl) (E:PO X hi th):PE X (.Subscript e (.Slice lo hi none J) pos) (Ao r te tl th):=by intro c s d H Q I h;refine Subscript_ (ar (z c s d H _ I h) λv R f=>?_);obtain ⟨x,k,n,O,L⟩:=f;refine wpAny_Slice (ar (B c R d k _ n L) λg S f=>L2.dy f λl m o F M=>ar (E c S d m _ o M) λi a f=>?_);obtain ⟨u,j,p,G,N⟩:=f;rw [evalPart_none];refine aG ?_;have t:Inv X c d j { a with heap:=a.heap.push { cls:=.type "slice",data:=.fields #[g,i,.none] } }:=p.kept (t':=a.toks) λb V q=>df _ q;obtain ⟨T,id,y,D,A⟩:=C c { a with heap:=a.heap.push { cls:=.type "slice",data:=.fields #[g,i,.none] } } d j x v g i l u a.heap.objs.size Q t O (Heap.IsSliceOf.new ..) F G N;show wpAny (model X.prog X.w) X.A (subscriptTail e (.Slice lo hi none J) v (.ref a.heap.objs.size)) (EP X c d Q) X.xe { a with heap:=a.heap.push { cls:=.type "slice",data:=.fields #[g,i,.none] } };exact tail_any (ops:=[.ref a.heap.objs.size,v]) D y A (by with_unfolding_all rfl)
def ie (xs:List V) (lo hi:Option Int):List V:=(xs.drop (b3 xs.length 0 lo)).take (b3 xs.length xs.length hi-b3 xs.length 0 lo)
theorem L8 (xs:List V) (lo hi:Option Int):(ie xs lo hi).length<=xs.length:=by unfold ie;rw [fU,yh];omega
def wq (K:aW):V->Option Int->Option Int->Hp->VK->Prop:=λx lo hi H Q=>∃a b,x=.ref a/\bU K H a b/\
 ¬(b3 b.length 0 lo=0/\b3 b.length b.length hi=b.length)/\∀p,H p=none->Q (.ref p) (upd H p (.tup (ie b lo hi)))
theorem vE:yk X (wq X.K):=by
 intro t s A H x v y z lo hi u Q I n g l m h;obtain ⟨a,c,rfl,j,i,q⟩:=h;cases n;obtain ⟨k,r,e,f⟩:=I.tuple j;have d:k.toArray.size=c.length:=by rw [f7];exact r.length.symm
 refine ⟨"tuple",_,FQ.lookup,e.typeIs,?_⟩;refine HT.eY e g l m (by rw [d];exact i) ?_ (by rw [d];exact f);rw [d];refine ⟨.ref s.heap.objs.size,_,I.laid (t':=s.toks) (o:=.tup (ie c lo hi)) (λb p q=>df _ q) (aj _) ?_,U,q _ (I.a7.fresh (aj _))⟩;exact ⟨c7 (L8 c lo hi) f,_,(r.drop (b3 c.length 0 lo)).take (b3 c.length c.length hi-b3 c.length 0 lo),IsTup.new _ _⟩
def y2 (K:aW):R2:=λx y H Q=>∃a b d c,x=.ref a/\y=.ref b/\bU K H a d/\bU K H b c/\d≠[]/\d.length+c.length<=sizeLine/\
 (c=[]->Q (.ref a) H)/\(c≠[]->∀p,H p=none->Q (.ref p) (upd H p (.tup (d++c))))
theorem ba.gk (r:ba xs us):us=[]↔xs=[]:=by
 cases r with
 | nil=>simp
 | cons _ _=>simp
theorem Iw:dH X (binaryOp .Add) (y2 X.K):=by intro D s E H x y v u Q I n p h;obtain ⟨a,b,r,t,rfl,rfl,f,g,i,e,l,m⟩:=h;cases n;cases p;obtain ⟨A,d,j,_⟩:=I.tuple f;obtain ⟨B,c,k,_⟩:=I.tuple g;refine HT.qh j k (λz=>i (d.gk.mp z)) (λz=>⟨.ref a,H,I,U,l (c.gk.mp z)⟩) (λz=>?_) (by rw [<-d.length,<-c.length];exact e);refine ⟨.ref s.heap.objs.size,_,I.laid (t':=s.toks) (o:=.tup (r++t)) (λb C q=>df _ q) (aj _) ?_,U,m (λw=>z (c.gk.mpr w)) _ (I.a7.fresh (aj _))⟩;exact ⟨by rw [ff];exact e,_,d.append c,IsTup.new _ _⟩
end
def tG (n:Nat) (i:Int):Option Nat:=if 0<=i then (if i<n then some i.toNat else none) else if-(n:Int)<=i then some (i+n).toNat else none
def gI {α:Type} (xs:List α) (i:Int):Option α:=(tG xs.length i).bind λj=>xs[j]?
theorem HR (h:tG n i=some j):seqIndex? i n=some j/\j<n/\-(n:Int)<=i/\i<n:=by
 unfold tG at h
 by_cases b:0<=i
 ·rw [if_pos b] at h
  by_cases a:i<n
  ·rw [if_pos a] at h;have e:i.toNat=j:=dG h;exact ⟨by rw [seqIndex_of b a,e],by omega,by omega,a⟩
  ·rw [if_neg a] at h;cases h
 ·rw [if_neg b] at h
  by_cases a: -(n:Int)<=i
  ·rw [if_pos a] at h;have e:(i+n).toNat=j:=dG h;exact ⟨by rw [seqIndex_neg (qJ b) a,e],by omega,a,by omega⟩
  ·rw [if_neg a] at h;cases h
theorem HE (h:gI xs i=some v):∃j,seqIndex? i xs.length=some j/\xs[j]?=some v/\j<xs.length/\-(xs.length:Int)<=i/\i<xs.length:=by
 unfold gI at h
 cases e:tG xs.length i with
 | none=>rw [e] at h;cases h
 | some j=>
  rw [e] at h;obtain ⟨a,b,c,d⟩:=HR e;exact ⟨j,a,h,b,c,d⟩
theorem iB {a:Type} {xs:List a} {j:Nat} {v:a} (h:xs[j]?=some v):gI xs (j:Int)=some v:=by
 have b:j<xs.length:=(eP.mp h).1;have e:tG xs.length (j:Int)=some j:=by unfold tG;rw [if_pos (by omega),if_pos (Cc b)];simp
 unfold gI;rw [e];exact h
def Vs (b:Expr):Prop:=∀o i,subscripted b false o i=operate [o,i] (getItem o i)
def vn (X:Cx) (r:R2):Prop:=
 ∀(d b:Expr) (a:List (Addr×Obj)) (s:Shared) (c:St) (H:Hp) (x y:V) (v u:Value) (Q:VK),Inv X a c H s->bo x v->bo y u->r x y H Q->
  subscripted b false v u=operate [v,u] (getItem v u)->wpAny (model X.prog X.w) X.A (subscriptTail d b v u) (EP X a c Q) X.xe s
def Zx (X:Cx) (id:String) (r:V->List V->Hp->VK->Prop):Prop:=
 ∀(a:List (Addr×Obj)) (s:Shared) (d:St) (H:Hp) (x:V) (c:List V) (v:Value) (b:List Value) (Q:VK),Inv X a d H s->bo x v->ba c b->r x c H Q->
  wpAny (model X.prog X.w) X.A (call (.builtin id) (v::b)) (EP X a d Q) X.xe s
section
theorem dE (g:vn X r) (e:PE X a ta) (f:PE X b o) (i:Vs b:=by exact λ_ _=>rfl):PE X (.Subscript a b pos) (m5 r ta o):=by intro j s n H Q I h;exact Subscript_ (CL e f I h λv u m x y c d k l q=>g a b j m n c x y v u Q d k l q (i _ _))
def SF (K:aW):R2:=λx y H Q=>∃p a i v,x=.ref p/\y=.int i/\a5 K H p a/\gI a i=some v/\Q v H
def LO (K:aW):R2:=λx y H Q=>∃p a i v,x=.ref p/\y=.int i/\bU K H p a/\gI a i=some v/\Q v H
theorem HS:vn X (SF X.K):=by
 intro R O k s l H x y v u Q I F G h g;obtain ⟨p,S,i,z,rfl,rfl,C,A,q⟩:=h;cases F;obtain ⟨t,rfl⟩:=G;obtain ⟨D,r,d,N⟩:=I.list C;obtain ⟨j,b,m,L,n,o⟩:=HE A;obtain ⟨w,e,E⟩:=r.get m;have B:=r.length;have M:=yJ;have f:EP X k l Q w s:=⟨z,H,I,E,q⟩
 by_cases a:0<=i
 ·have c:i.toNat=j:=by
   rw [seqIndex_of a o] at b;exact dG b
  exact item_listR d.isList a (by omega) (by rw [c];simpa using e) f g
 ·have c:(i+(D.toArray.size:Int)).toNat=j:=by
   rw [seqIndex_neg (qJ a) n] at b;rw [f7,<-B];exact dG b
  exact subscriptTail_builtinR (x:=w) d.isList.typeIs slot_list_getitem.lookup
   (wpAny_getItem_list_neg (Q:=λr J=>r=w/\EP X k l Q r J) d.isList (qJ a) (by rw [f7]<;>omega) (by omega) (by rw [c];simpa using e) ⟨U,f⟩) g
theorem Hx:vn X (LO X.K):=by
 intro N M a s c H x y v u Q I A B h n;obtain ⟨p,O,i,z,rfl,rfl,m,k,q⟩:=h;cases A;obtain ⟨t,rfl⟩:=B;obtain ⟨L,r,b,J⟩:=I.tuple m;obtain ⟨j,f,g,D,E,F⟩:=HE k;obtain ⟨w,d,o⟩:=r.get g;have l:=r.length;have G:=yJ;have e:EP X a c Q w s:=⟨z,H,I,o,q⟩;exact subscriptTail_builtinR (x:=w) b.typeIs slot_tuple_getitem.lookup
  (getItem_tuple (j:=j) (Q:=λr C=>r=w/\EP X a c Q r C) b (by omega) (by omega) (by rw [f7,<-l];exact f) (by simpa using d) ⟨U,e⟩) n
theorem Rz (its:List Value) (n j:Nat) (u:Value):Obj.mapSeq (·.setIfInBounds j u) { cls:=.type "list",data:=.seq its.toArray n }={ cls:=.type "list",data:=.seq (its.set j u).toArray n }:=by simp [Obj.mapSeq]
theorem Inv.lst (I:Inv X pins σ H s) (h:H p=some (.lst xs)):
 ∃(its:List Value) (n:Nat),ba xs its/\s.heap.get? p=some { cls:=.type "list",data:=.seq its.toArray n }/\xs.length<=sizeLine:=by
 obtain ⟨z,its,n,r,e⟩:=I.a7 p _ h;exact ⟨its,n,r,e,z⟩
theorem Inv.tw {d:List (Addr×Obj)} {g:St} {H:Hp} {s:Shared} {p:Addr} {xs ys:List V} {its its':List Value} {n a:Nat} {f:Obj->Obj} (I:Inv X d g H s) (h:H p=some (.lst xs))
 (j:s.heap.get? p=some { cls:=.type "list",data:=.seq its.toArray n }) (c:f { cls:=.type "list",data:=.seq its.toArray n }={ cls:=.type "list",data:=.seq its'.toArray a }) (r:ba ys its') (k:ys.length<=sizeLine) (t:Nat):
 Inv X d g (upd H p (.lst ys)) { s with heap:=s.heap.update p f,toks:=t }:=by
 have e:(s.heap.update p f).get? p=some { cls:=.type "list",data:=.seq its'.toArray a }:=by rw [yc f j (by rw [c]<;>rfl),c]
 refine I.write (x:=p) (e:=p) (by rw [h];trivial) (.inl U) (λb u i q=>(rq _ _ (aQ i)).trans q) ⟨_,e⟩ ?_;exact ⟨k,its',a,r,e⟩
def TZ:V->V->V->Hp->(Hp->Prop)->Prop:=λo i v H Q=>∃p a k j,o=.ref p/\i=.int k/\H p=some (.lst a)/\tG a.length k=some j/\Q (upd H p (.lst (a.set j v)))
theorem Qb:LI X TZ:=by
 intro A s F H o i v M L u Q I C B D h;obtain ⟨p,E,k,j,rfl,rfl,m,y,q⟩:=h;cases C;obtain ⟨t,rfl⟩:=B;obtain ⟨x,n,r,e,z⟩:=I.lst m;obtain ⟨b,G,g,l⟩:=HR y;have d:=r.length;have J:=yJ;have f:Inv X A F (upd H p (.lst (E.set j v))) { s with heap:=s.heap.update p (Obj.mapSeq (·.setIfInBounds j u)) }:=
  I.tw m e (Rz x n j u) (r.set D j) (by rw [oA];exact z) s.toks
 by_cases a:0<=k
 ·have c:k.toNat=j:=by
   rw [seqIndex_of a l] at b;exact dG b
  exact PySem.W.ki_setAt e a (by omega) (by rw [f7,<-d];exact l) (by rw [c];exact ⟨_,f,q⟩)
 ·have c:(k+(x.toArray.size:Int)).toNat=j:=by
   rw [seqIndex_neg (qJ a) g] at b;rw [f7,<-d];exact dG b
  exact PySem.W.ki_setBack e (qJ a) (by rw [f7,<-d];exact g) (by omega) (by rw [c];exact ⟨_,f,q⟩)
theorem RW (b a:Option Int) (n:Nat):(sliceBounds b a none n).1=((b3 n 0 b:Nat):Int)/\(sliceBounds b a none n).2.1=((b3 n n a:Nat):Int)/\(sliceBounds b a none n).2.2=1:=by
 refine ⟨?_,?_,U⟩
 ·cases b with
  | none=>simp [sliceBounds,b3]
  | some i=>
   simp only [sliceBounds,b3,Option.getD_none,show (1:Int)>0 by decide,if_true]
   by_cases h:i<0
   ·simp only [h,if_true]<;>omega
   ·simp only [h,if_false]<;>omega
 ·cases a with
  | none=>simp [sliceBounds,b3]
  | some i=>
   simp only [sliceBounds,b3,Option.getD_none,show (1:Int)>0 by decide,if_true]
   by_cases h:i<0
   ·simp only [h,if_true]<;>omega
   ·simp only [h,if_false]<;>omega
theorem R' (its:List Value) (a b:Option Int):slicePick its.toArray a b none=((its.drop (b3 its.length 0 a)).take (b3 its.length its.length b-b3 its.length 0 a)).toArray:=by obtain ⟨c,d,e⟩:=RW a b its.toArray.size;unfold slicePick;rw [c,d,e];simp only [sliceRange_one,pick_run,f7]<;>rfl
def SG (K:aW):V->Option Int->Option Int->Hp->VK->Prop:=λx d c H Q=>∃a b,x=.ref a/\a5 K H a b/\∀p,H p=none->Q (.ref p) (upd H p (.lst (ie b d c)))
theorem BC:yk X (SG X.K):=by intro u s B H x v z A d e y Q I n i l m h;obtain ⟨a,c,rfl,j,q⟩:=h;cases n;obtain ⟨p,r,f,k⟩:=I.list j;have g:=r.length;refine ⟨"list",_,slot_list_getitem.lookup,f.isList.typeIs,?_⟩;refine wpAny_getItem_list_slice f.isList i l m .none (by simp) ?_ (by rw [f7]<;>omega);rw [R',<-g];refine ⟨.ref s.heap.objs.size,_,I.laid (t':=s.toks) (o:=.lst (ie c d e)) (λb t q=>df _ q) (aj _) ?_,U,q _ (I.a7.fresh (aj _))⟩;exact ⟨c7 (L8 c d e) k,_,0,(r.drop (b3 c.length 0 d)).take (b3 c.length c.length e-b3 c.length 0 d),hY _ U⟩
def gY:V->Bool
 | .aH=>true
 | .bl _=>true
 | .int _=>true
 | .str _=>true
 | _=>false
def lR:V->V->Bool
 | .aH,.aH=>true
 | .bl a,.bl b=>a==b
 | .bl a,.int b=>(if a then 1 else 0)==b
 | .int a,.bl b=>a==(if b then 1 else 0)
 | .int a,.int b=>a==b
 | .str a,.str b=>a==b
 | _,_=>false
theorem Hb (f:bo y u) (c:bo x v) (g:gY y=true) (e:gY x=true):SeqAt.EqAt A s u v (lR y x):=by
 cases y with
 | aH=>
  cases f
  cases x with
  | aH=>cases c;exact SeqAt.EqAt.same _
  | bl b=>cases c;exact SeqAt.EqAt.none_bool b
  | int b=>obtain ⟨t,rfl⟩:=c;exact SeqAt.EqAt.none_int b t
  | str b=>obtain ⟨t,rfl⟩:=c;exact SeqAt.EqAt.none_str b t
  | _=>exact absurd (show false=true from e) d_
 | bl a=>
  cases f
  cases x with
  | aH=>cases c;exact SeqAt.EqAt.bool_none a
  | bl b=>cases c;exact SeqAt.EqAt.bool_bool a b
  | int b=>obtain ⟨t,rfl⟩:=c;exact SeqAt.EqAt.bool_int a b t
  | str b=>obtain ⟨t,rfl⟩:=c;exact SeqAt.EqAt.bool_str a b t
  | _=>exact absurd (show false=true from e) d_
 | int a=>
  obtain ⟨d,rfl⟩:=f
  cases x with
  | aH=>cases c;exact SeqAt.EqAt.int_none a d
  | bl b=>cases c;exact SeqAt.EqAt.int_bool a d b
  | int b=>obtain ⟨t,rfl⟩:=c;exact SeqAt.EqAt.int_int a d b t
  | str b=>obtain ⟨t,rfl⟩:=c;exact SeqAt.EqAt.int_str a d b t
  | _=>exact absurd (show false=true from e) d_
 | str a=>
  obtain ⟨d,rfl⟩:=f
  cases x with
  | aH=>cases c;exact SeqAt.EqAt.str_none a d
  | bl b=>cases c;exact SeqAt.EqAt.str_bool a d b
  | int b=>obtain ⟨t,rfl⟩:=c;exact SeqAt.EqAt.str_int a d b t
  | str b=>obtain ⟨t,rfl⟩:=c;exact SeqAt.EqAt.str_str a d b t
  | _=>exact absurd (show false=true from e) d_
 | _=>exact absurd (show false=true from g) d_
def jG (x:V) (u:Value):Bool:=match u with
 | .none=>lR .aH x
 | .bool b=>lR (.bl b) x
 | .int i _=>lR (.int i) x
 | .str z _=>lR (.str z) x
 | _=>false
theorem Hc (r:bo y u) (f:gY y=true):jG x u=lR y x:=by
 cases y with
 | aH=>cases r;rfl
 | bl b=>cases r;rfl
 | int i=>obtain ⟨t,rfl⟩:=r;rfl
 | str z=>obtain ⟨t,rfl⟩:=r;rfl
 | _=>exact absurd (show false=true from f) d_
theorem yL {xs:List V} {us:List Value} (h:ba xs us) (f:xs.all gY=true):us.any (jG x)=xs.any λy=>lR y x:=by
 induction h with
 | nil=>rfl
 | cons r t a=>
  rw [ve,kr] at f;rw [tY,tY,Hc r f.1,a f.2]
theorem zj (d:bo x v) (b:gY x=true) {xs:List V} {us:List Value} (h:ba xs us) (f:xs.all gY=true):∀u∈us,SeqAt.EqAt A s u v (jG x u):=by
 induction h with
 | nil=>intro u a;cases a
 | cons r t c=>
  intro e a;rw [ve,kr] at f;rcases eG.mp a with rfl | a
  ·rw [Hc r f.1];exact Hb r d f.1 b
  ·exact c f.2 e a
def m_ (x:V) (xs:List V):Bool:=xs.any λy=>lR y x
def Dl (K:aW) (b:Bool):R2:=λx y H Q=>∃p a,y=.ref p/\(a5 K H p a\/bU K H p a)/\gY x=true/\a.all gY=true/\Q (.bl (if b then !m_ x a else m_ x a)) H
theorem KW:dH X (compareOp .In) (Dl X.K false):=by
 intro k s m H x y v u Q I g j h;obtain ⟨p,l,rfl,a,f,c,q⟩:=h;cases j;rcases a with a | a
 ·obtain ⟨b,r,e,i⟩:=I.list a;refine SeqAt.in_listAt (jG x) e.isList (λw d=>zj g f r c w (by simpa using d)) ⟨.bl _,H,I,U,?_⟩;rw [show b.toArray.any (jG x)=b.any (jG x) by simp,yL r c];exact q
 ·obtain ⟨b,r,e,i⟩:=I.tuple a;refine SeqAt.in_tupleAt (jG x) e (λw d=>zj g f r c w (by simpa using d)) ⟨.bl _,H,I,U,?_⟩;rw [show b.toArray.any (jG x)=b.any (jG x) by simp,yL r c];exact q
theorem RV:dH X (compareOp .NotIn) (Dl X.K true):=by
 intro k s m H x y v u Q I g j h;obtain ⟨p,l,rfl,a,f,c,q⟩:=h;cases j;rcases a with a | a
 ·obtain ⟨b,r,e,i⟩:=I.list a;refine SeqAt.notIn_listAt (jG x) e.isList (λw d=>zj g f r c w (by simpa using d)) ⟨.bl _,H,I,U,?_⟩;rw [show b.toArray.any (jG x)=b.any (jG x) by simp,yL r c];exact q
 ·obtain ⟨b,r,e,i⟩:=I.tuple a;refine SeqAt.notIn_tupleAt (jG x) e (λw d=>zj g f r c w (by simpa using d)) ⟨.bl _,H,I,U,?_⟩;rw [show b.toArray.any (jG x)=b.any (jG x) by simp,yL r c];exact q
theorem wo:lZ X (.builtin "len") (λxs H Q=>∃p ys,xs=[.ref p]/\(a5 X.K H p ys\/bU X.K H p ys)/\Q (.int ys.length) H):=by
 intro j s l H xs k Q I r h;obtain ⟨p,ys,rfl,a,q⟩:=h;obtain ⟨u,rfl,g⟩:=rL r;cases g;have i:=yJ;rcases a with a | a
 ·obtain ⟨f,d,c,e⟩:=I.list a;have b:=d.length;exact Calls.call_len_list c.isList (by simp only [f7]<;>omega) ⟨.int ys.length,H,I.tok _,⟨s.toks+1,by rw [f7,b]⟩,q⟩
 ·obtain ⟨f,d,c,e⟩:=I.tuple a;have b:=d.length;exact len_tuple c (by simp only [f7]<;>omega) ⟨.int ys.length,H,I.tok _,⟨s.toks+1,by rw [f7,b]⟩,q⟩
theorem zZ:lZ X (.type "list") (λxs H Q=>∃p ys,xs=[.ref p]/\(a5 X.K H p ys\/bU X.K H p ys)/\∀l,H l=none->Q (.ref l) (upd H l (.lst ys))):=by
 intro A s C H xs D Q I r h;obtain ⟨p,ys,rfl,g,q⟩:=h;obtain ⟨u,rfl,B⟩:=rL r;cases B;have x:∀(c:List Value),ba ys c->ys.length<=sizeLine->∀(a:Heap) (d:Nat),(∀b y,s.heap.get? b=some y->a.get? b=some y)->
  a.get? s.heap.objs.size=some { cls:=.type "list",dict:=none,data:=.seq c.toArray d,slots:= #[] }->EP X A C Q (.ref s.heap.objs.size) { s with heap:=a }:=λc f i a d j e=>
  ⟨.ref s.heap.objs.size,_,I.laid (t':=s.toks) j (aj _) (show dd X.prog X.w _ a _ (.lst ys) from ⟨i,c,d,f,e⟩),U,q _ (I.a7.fresh (aj _))⟩
 rcases g with g | g
 ·obtain ⟨c,f,v,i⟩:=I.list g;have z:=f.length;obtain ⟨o,t,k,n,m⟩:=v.isList;exact call_list_seq p (.inl U) t k m (λa d j e=>x c f i a d j e) (by simp only [f7]<;>omega)
 ·obtain ⟨c,f,v,i⟩:=I.tuple g;have z:=f.length;obtain ⟨o,t,k,n,m⟩:=v;exact call_list_seq p (.inr U) t k m (λa d j e=>x c f i a d j e) (by simp only [f7]<;>omega)
theorem C4:lZ X (.type "tuple") (λxs H Q=>∃p ys,xs=[.ref p]/\((a5 X.K H p ys/\∀l,H l=none->Q (.ref l) (upd H l (.tup ys)))\/(bU X.K H p ys/\Q (.ref p) H))):=by
 intro k s m H xs y Q I r h;obtain ⟨p,ys,rfl,h⟩:=h;obtain ⟨u,rfl,v⟩:=rL r;cases v;rcases h with ⟨c,q⟩ | ⟨c,q⟩
 ·obtain ⟨d,g,f,j⟩:=I.list c;have x:=g.length;refine call_tuple_list f.isList (λa t=>?_) (by simp only [f7]<;>omega);have i:Inv X k m H { s with heap:=a }:=I.kept (t':=s.toks) t;have n:Inv X k m (upd H a.objs.size (.tup ys)) { s with heap:=a.push { cls:=.type "tuple",data:=.seq d.toArray } }:=
   i.laid (t':=s.toks) (λb o e=>df _ e) (aj _) (show dd X.prog X.w _ _ _ (.tup ys) from ⟨j,d,g,IsTup.new _ _⟩)
  exact ⟨.ref a.objs.size,_,n,U,q _ (i.a7.fresh (aj _))⟩
 ·obtain ⟨d,g,f,j⟩:=I.tuple c;exact call_tuple_same f ⟨.ref p,H,I,U,q⟩
def My (K:aW) (T:String) (x:V) (H:Hp):Prop:=match x with
 | .str _=>T="str"
 | .int _=>T="int"
 | .ref p=>(T="list"/\∃b,a5 K H p b)\/(T="tuple"/\∃o,K.lookup p=some o/\o.cls=.type "tuple"/\o.dict=none)\/
  (T="dict"/\((∃a,H p=some (.dK a))\/∃a,H p=some (.dT a)))\/(T="set"/\∃S n,H p=some (.set S n))
 | _=>False
theorem Vl (I:Inv X pins σ H s) (r:bo x v) (f:My X.K T x H):
 s.TypeIs v T/\∀a,v=.ref a->∃ob,s.heap.get? a=some ob/\ob.dict=none:=by
 cases x with
 | str z=>
  obtain ⟨t,rfl⟩:=r;cases (show T="str" from f);exact ⟨typeIs_str s z t,λ_ e=>nomatch e⟩
 | int i=>
  obtain ⟨t,rfl⟩:=r;cases (show T="int" from f);exact ⟨typeIs_int s i t,λ_ e=>nomatch e⟩
 | ref p=>
  cases r;rcases f with ⟨rfl,u,l⟩ | ⟨rfl,o,b,k,h⟩ | ⟨rfl,b⟩ | ⟨rfl,S,n,b⟩
  ·obtain ⟨q,_,j,_⟩:=I.list l;refine ⟨j.isList.typeIs,λa e=>?_⟩;cases e;obtain ⟨o,n,e,c,h,_⟩:=j;exact ⟨o,e,h⟩
  ·refine ⟨⟨o,I.fq p o b,k⟩,λa e=>?_⟩;cases e;exact ⟨o,I.fq _ o b,h⟩
  ·have z:∃o,s.heap.get? p=some o/\o.ExactDict:=by
    rcases b with ⟨m,b⟩ | ⟨m,b⟩
    ·obtain ⟨_,_,_,_,o,_,_,e,d,_⟩:=I.a7 p _ b;exact ⟨o,e,d⟩
    ·obtain ⟨_,_,_,_,o,_,_,e,d,_⟩:=I.a7 p _ b;exact ⟨o,e,d⟩
   obtain ⟨o,e,d⟩:=z;refine ⟨⟨o,e,d.1⟩,λa g=>?_⟩;cases g;exact ⟨o,e,d.2.1⟩
  ·obtain ⟨o,_,_,_,e,d,_⟩:=I.a7 p _ b;refine ⟨⟨o,e,d.1⟩,λa g=>?_⟩;cases g;exact ⟨o,e,d.2.1⟩
 | _=>exact hQ f
def Wi (K:aW) (T:String) (r:V->List V->Hp->VK->Prop) (d:TE) (t:TA):TE:=λb H Q=>d b H λx a=>My K T x a/\t b a λe c=>r x e c Q
variable {T id:String}
theorem oW (E:PlainAttrs T) (N:Slot T name id) (D:typeOf (.builtin id)=pure (.type "method_descriptor")) (y:Zx X id r) (z:PE X o to) (n:PA X (e::C) t)
 (p:attributeBase o name X.env (eval o X.env)=eval o X.env:=by rfl)
 (q:((backTo fv (starEach (e::C) X.env)).all (λx=> !x.1) && (backToKw fv (keywordEach [] X.env)).all (λx=>x.1.isSome)
  && decide ((e::C).length+([]:List Keyword).length+(if ([]:List Keyword).isEmpty then 0 else 1)<30))=true:=by rfl)
 (u:(apos.endLine==fv.line)=true:=by rfl) (B:starEach (e::C) X.env=(false,eval e X.env)::starEach C X.env:=by rfl) (A:(backTo fv (starEach C X.env)).any (·.1)=false:=by rfl):
 PE X (.Call (.Attribute o name apos) (e::C) [] fv) (Wi X.K T r to t):=by
 intro a s c H Q I h;refine wpAny_Call_method_late p q u U (ar (z a s c H _ I h) λv L b=>?_);obtain ⟨x,i,d,g,O,F⟩:=b;obtain ⟨l,m⟩:=Vl d g O;refine ⟨T,id,E,N,D,l,m,?_⟩;have f:=n fv a L c i _ d F;rw [B] at f ⊢;refine Calls.callWith_builtin (by show (false || (backTo fv (starEach C X.env)).any (·.1))=false;rw [A]<;>rfl) (Calls.evalArgs_plain ?_);exact ar f λR M b=>L2.dy b λS j k J G=>y a M c j x S v R Q k g J G
end
def Zy (X:Cx) (id:String) (r:V->List V->Hp->VK->Prop):Prop:=
 ∀(a:List (Addr×Obj)) (s:Shared) (d:St) (H:Hp) (x:V) (c:List V) (v:Value) (b:List Value) (Q:VK),Inv X a d H s->bo x v->ba c b->r x c H Q->
  wpAny (model X.prog X.w) X.A (call (.builtin id) (v::b)) (EP X a d Q) X.xe s
theorem ba.one {x:V} {us:List Value} (h:ba [x] us):∃u,us=[u]/\bo x u:=by
 cases h with
 | cons r t=>
  cases t;exact ⟨_,U,r⟩
section
theorem Inv.Dw {its its':List Value} {n:Nat} {f:Array Value->Array Value} {t':Nat} (I:Inv X pins σ H s) (a:H l=some (.lst xs))
 (e:s.heap.get? l=some { cls:=.type "list",data:=.seq its.toArray n }) (c:f its.toArray=its'.toArray) (g:ba ys its') (h:ys.length<=sizeLine):
 Inv X pins σ (upd H l (.lst ys)) { s with heap:=s.heap.update l (Obj.mapSeq f),toks:=t' }:=by
 have q:=PySem.IsL.update e f;rw [c] at q;refine I.write (x:=l) (e:=l) (by rw [a];exact trivial) (.inl U) (λi u b d=>(rq s.heap (Obj.mapSeq f) (aQ b)).trans d) ⟨_,q⟩ ?_;exact ⟨h,its',_,g,q⟩
theorem Inv.wI (I:Inv X pins σ H s) (a:ba ys its) (b:ys.length<=sizeLine):
 Inv X pins σ (upd H s.heap.objs.size (.lst ys)) { s with heap:=s.heap.push { cls:=.type "list",data:=.seq its.toArray },toks:=t' }:=
 I.laid (λ_ _ q=>df _ q) (aj _) ⟨b,its,0,a,hY _ U⟩
theorem Inv.fresh (I:Inv X pins σ H s):H s.heap.objs.size=none:=I.a7.fresh (aj _)
theorem Inv.tx (I:Inv X pins σ H s) (a:H l=some (.lst xs)):xs.length<=sizeLine/\∃(its:List Value) (n:Nat),ba xs its/\xs.length=its.length/\s.heap.get? l=some { cls:=.type "list",data:=.seq its.toArray n }:=by obtain ⟨z,its,n,r,e⟩:=I.a7 l _ a;exact ⟨z,its,n,r,r.length,e⟩
end
section
def gQ:V->List V->Hp->VK->Prop:=λx b H Q=>∃l a y,x=.ref l/\b=[y]/\H l=some (.lst a)/\a.length<sizeLine/\Q .aH (upd H l (.lst (a++[y])))
theorem ov:Zy X "list.append" gQ:=by intro j s p H x m v k Q I f d h;obtain ⟨l,o,y,rfl,rfl,a,i,q⟩:=h;cases f;obtain ⟨u,rfl,c⟩:=d.one;obtain ⟨z,b,n,r,g,e⟩:=I.tx a;refine call_meets oG ⟨_,e,U⟩ F.entry_list_append (F.args_list_append_2 _ _) (PySem.list_append l b.toArray n u (by rw [f7];omega)) ⟨e,?_⟩;refine ⟨.aH,_,I.Dw (its':=b++[u]) a e (by simp) (r.append (.cons c .nil)) ?_,U,q⟩;rw [ff,List.length_singleton];omega
def SD:R2:=λx y H Q=>∃l b a c,x=.ref l/\y=.ref b/\H l=some (.lst a)/\H b=some (.lst c)/\a.length+c.length<=sizeLine/\∀p,H p=none->Q (.ref p) (upd H p (.lst (a++c)))
theorem qA:dH X (binaryOp .Add) SD:=by
 intro B s F H x y v u Q I p t h;obtain ⟨l,b,C,E,rfl,rfl,i,g,m,q⟩:=h;cases p;cases t;obtain ⟨z,a,n,r,j,e⟩:=I.tx i;obtain ⟨D,c,A,o,k,d⟩:=I.tx g;refine PySem.P.add_list e d ?_ (by rw [f7,f7];exact Qz m j k);have f:a.toArray++c.toArray=(a++c).toArray:=by simp
 rw [f];exact ⟨.ref _,_,I.wI (t':=s.toks) (r.append o) (by rw [ff];omega),U,q _ I.fresh⟩
end
section
set_option maxRecDepth 100000 in
end
section
end
end L2
namespace OJ
open PySem PySem.W PySem.Calls PyProof.Rows
theorem Sb {P:Params}:∀(ns:List Int) (vs:List Value),WellAll P h vs (ns.map WData.int)->IntsAre vs ns:=by
 intro ns
 induction ns with
 | nil=>
  intro vs w;rw [oB] at w;cases w;exact .nil
 | cons n ns c=>
  intro vs w;rw [dt] at w
  cases w with
  | cons a b=>
   cases a;exact .cons _ _ (c _ b)
theorem QS {l:OpenLaw} {n:Nat} (p:l.most=some n) {P:Params} {h:Heap} {args:List WData} {g:List Value}
 (f:l.row.toRowW.claim.pre args=true) (u:WellAll P h g args):
 ∃a vs ns,g=[Value.ref a]/\args=[WData.list (ns.map WData.int)]/\h.get? a=some { cls:=.type "list",data:=.seq vs.toArray }/\IntsAre vs ns/\ns.length<=n:=by
 have t:WShape.hasAll [] args [.list .int]=true:=(pre_splitW f).1;have e:l.pre.holds [] { args:=args }=true:=(pre_splitW f).2;obtain ⟨d,r,rfl,i,j⟩:=hasAllW_cons t;obtain rfl:=hasAllW_nil j;obtain ⟨z,rfl,k⟩:=hasW_list i;obtain ⟨ns,rfl⟩:=items_int k;have o:ns.length<=n:=by
  unfold OpenLaw.pre at e;have b:(WTm.not (.lt (.lit (.int (n:Int))) (.len (.arg 0)))).holds [] { args:=[.list (ns.map .int)] }=true:=by have b:=(holds_andW e).1;rw [p] at b;exact b
  have c:=condW_of b (w_not (w_lt w_lit (w_len_list (w_arg U))));rw [ax] at c;refine jm λq=>?_;have v:(n:Int)<((ns.length:Nat):Int):=Cc q
  first
   | (rw [ew v] at c;exact absurd c (by decide))
   | (simp at c;omega)
 cases u with
 | cons x y=>
  cases y
  cases x with
  | list s m=>exact ⟨_,_,ns,U,U,s,Sb ns _ m,o⟩
theorem QR (l:OpenLaw) (args:List WData):l.row.toRowW.claim.post args (.bool true) args=true:=
 postW_of (r:=l.row.toRowW) (X:=(true==true))
  (show WShape.has [] (.bool true) .bool=true by first | rfl | decide | simp [WShape.has,WShape.arms,WShape.armsAll])
  (show (WTm.eq .res (.lit (.bool true))).value [] { args:=args,res:=some (.bool true),after:=args }=some (.bool (true==true)) from w_eq_bool (w_res U) w_lit) U
theorem iT {l:OpenLaw} {n:Nat} {q:Program} {s:List Str} {k:(Str->Option Value)->Heap->Prop} {m:World->Heap->Prop} {d:DefRec}
 (I:l.most=some n) (B:d.params.defaults=[])
 (t:∀(w:World) (j b:Shared) (mg h:Str->Option Value) (c:Addr) (o:Obj) (i e g:Value) (a:Addr) (vs:List Value) (ns:List Int),
  Ground q s [] k w j mg h b.heap->m w b.heap->
  b.heap.get? c=some o->o.data=.func (docDef d.name d.params d.body d.scope i e g)->b.heap.CodeRec e d.name->mg d.name=some (.ref c)->
  b.heap.get? a=some { cls:=.type "list",data:=.seq vs.toArray }->IntsAre vs ns->ns.length<=n->b.gens= #[]->
  codeAny (model l.prog w) callerA (.call (.ref c) ⟨[.ref a],[]⟩) (λr s'=>r=.ok (.ret (.bool true))/\OldK b.heap s'.heap/\s'.os=b.os/\AllBare s'.gens) b):
 WalkO q s k m l.row.toRowW d [] (λf vs=>PySem.call f vs):=by
 intro w j b mg h G Y c o i e g u Q J A z p H C args W R M S V O T;obtain rfl:u=.none:=Dflts.none p B;obtain rfl:Q=.none:=Dflts.noKw p;obtain ⟨a,vs,ns,rfl,rfl,L,D,E⟩:=QS I M O;refine enter_call (AO (t w j b mg h c o i e g a vs ns G Y J (fd_plain A) z H L D E C) λr s' N=>?_);obtain ⟨rfl,v,x,y⟩:=N;exact ⟨.inl ⟨.bool true,.bool true,[],U,λ_=>rfl,.bool true,QR l _,λ_=>⟨List.Pairwise.nil,λ_ F=>(nomatch F)⟩⟩,v,x,y⟩
section
variable {K:Frag}
end
end OJ
namespace L2
open PySem PySem.Spec PyProof.Rows
theorem Lb:∀{vs:List Value} {ns:List Int},IntsAre vs ns->ba (ns.map V.int) vs
 | _,_,.nil=>.nil
 | _,_,.cons n t h=>.cons ⟨t,U⟩ (Lb h)
def wx (H:Hp):Prop:=∀b,H b=none\/∃o a,H b=some (.dY o (.lst a))
theorem Pe {mg p:Str->Option Value} {CX:jL} {k:Nat} {n a:Addr} {D:FuncData} {x:Str} {sp:Sp} {bX:Shared} {vs:List Value} {ns:List Int}
 (t:K.In bX.heap) (M:bX.heap.Ns mainGlobals mg) (c:bX.heap.Ns builtinsNs p) (EY:∀x:Str,x≠"__name__"->p x=bootBuiltins x) (EE:bX.heap.NoLimit) (hg:bX.gens= #[])
 (i:bX.heap.get? a=some { cls:=.type "list",data:=.seq vs.toArray }) (J:IntsAre vs ns) (L:ns.length<=sizeLine) (hr:cI k callerA)
 (F:∀base:Heap,K.In base->base.Ns mainGlobals mg->au P w K mg base CX k n D [x] sp) (xl:∀(s:Shared) (u:Value),BindsTo s D ⟨[u],[]⟩ [(x,u)])
 (XG:∀H:Hp,wx H->a5 K H a (ns.map V.int)->sp [.ref a] H (λv _=>v=.bl true) λ_ _ _=>False)
 (Y8:∀H e s',CX [] H bX (λ_ _ _=>False) e s'->False):
 codeAny (model P w) callerA (.call (.ref n) ⟨[.ref a],[]⟩) (λr s'=>r=.ok (.ret (.bool true))/\OldK bX.heap s'.heap/\s'.os=bX.os/\AllBare s'.gens) bX:=by
 have O:=Lb J;have Dx:=J.length;have A:∀H:Hp,wx H->a5 K H a (ns.map V.int)->ei P w H bX.heap->(∀b,H b≠none->b=a)->(H a≠none->K.lookup a=none)->
  codeAny (model P w) callerA (.call (.ref n) ⟨[.ref a],[]⟩) (λr s'=>r=.ok (.ret (.bool true))/\OldK bX.heap s'.heap/\s'.os=bX.os/\AllBare s'.gens) bX:=by
  intro H I hS N E hK;have y:∀{b:Addr} {o:Obj},bX.heap.get? b=some o->H b=none->(oO bX.heap H).get? b=some o:=λe x1=>PB e x1;have WI:∀{b:Addr} {o:Obj} {f:Array DictEntry} {ep:Nat},bX.heap.get? b=some o->o.data=.dict f ep->H b=none:=λ{b o f ep} e d=>by
   cases q:H b with
   | none=>rfl
   | some u=>
    have l:b=a:=E b (by rw [q];simp);subst l;rw [i] at e;cases e;have S:Data.seq vs.toArray _=Data.dict f ep:=d;cases S
  have j:∀{b:Addr} {m:Str->Option Value},bX.heap.Ns b m->(oO bX.heap H).Ns b m:=λ{b m} ⟨o,f,ep,e,d,r⟩=>⟨o,f,ep,y e (WI e d),d,r⟩;have G:K.In (oO bX.heap H):=λb o e=>y (t b o e) (by
   cases q:H b with
   | none=>rfl
   | some u=>
    have l:b=a:=E b (by rw [q];simp);subst l;rw [hK (by rw [q];simp)] at e;cases e)
  have hM:Mod K mg (oO bX.heap H):=⟨G,j M,⟨p,j c,EY⟩,let ⟨mc,Y,Z⟩:=EE;⟨mc,j Y,Z⟩⟩;have T:oJ P w K mg (oO bX.heap H) callerA [] bX H:=⟨U,hM,λb o e=>V9 e,ua (Q9 _ _),trivial,λb c=>absurd (show b∈([]:List Addr) from c) (by simp),N,.of_eq hg⟩;refine AO ((F _ G (j M)).run callerA [] bX H ⟨[.ref a],[]⟩ [.ref a] [.ref a] _ _ hr T (xl bX (.ref a)) (.cons rfl .nil) (XG H I hS)) λr s' h=>?_
  cases r with
  | error e=>exact (Y8 H e s' h).elim
  | ok X=>
   cases X with
   | next=>exact hQ h
   | brk=>exact hQ h
   | cont=>exact hQ h
   | ret u=>
    obtain ⟨v,H',os,R,Q,DW,r',q⟩:=h;have q':v=.bl true:=q;subst q';obtain rfl:u=Value.bool true:=r';refine ⟨U,OldK.of_keep λb o e=>?_,os,R⟩
    cases q:H b with
    | none=>exact Q.keep b o e q (by intro z;exact absurd (show b∈([]:List Addr) from z) (by simp)) (by simp)
    | some u=>
     rcases I b with z | ⟨ob,xs,z⟩
     ·rw [q] at z;cases z
     ·have z2:=Q.gV b ob _ z;obtain ⟨B,_⟩:=N b _ z;obtain ⟨W,_⟩:=DW b _ z2;rw [e] at B;cases B;exact W
 cases C:K.lookup a with
 | some o=>
  have e:=t a o C;rw [i] at e;cases e;refine A (λ_=>none) (λ_=>.inl U) (.inr ⟨_,vs.toArray,_,C,U,U,U,by rw [f7,Dx];exact L,by simpa using O⟩) (λb u z=>by have g:(none:Option HO)=some u:=z;cases g) (λb z=>absurd U z) λz=>absurd U z
 | none=>
  refine A (λb=>if b=a then some (.dY { cls:=.type "list",data:=.seq vs.toArray } (.lst (ns.map V.int))) else none) (λb=>?_) (.inl (.inr ⟨{ cls:=.type "list",data:=.seq vs.toArray },if_pos U⟩)) (λb u z=>?_) (λb z=>?_) λ_=>C
  ·by_cases c:b=a
   ·exact .inr ⟨_,_,if_pos c⟩
   ·exact .inl (if_neg c)
  ·by_cases c:b=a
   ·have g:=(if_pos c).symm.trans z;cases g;subst c;exact ⟨i,by rw [ax];exact L,vs,_,O,i⟩
   ·have g:=(if_neg c).symm.trans z;cases g
  ·by_cases c:b=a
   ·exact c
   ·exact absurd (if_neg c) z
abbrev fX {K:aW} {h:Heap} (_:K.In h):aW:=K
theorem OR {l:PySem.W.OpenLaw} {n k:Nat} {q:Program} {O:List Str} {m:(Str->Option Value)->Heap->Prop} {i:World->Heap->Prop} {d:DefRec} {K:Params->aW} {CX:World->jL} {sp:World->Sp} {x:Str}
 (I:l.most=some n) (J:n<=sizeLine) (B:d.params.defaults=[]) (M:cI k callerA)
 (z:∀(w:World) (h:Heap),i w h->(K w.params).In h)
 (F:∀(w:World) (mg:Str->Option Value) (b:Addr) (h:Heap),(K w.params).In h->h.Ns mainGlobals mg->mg d.name=some (.ref b)->
  ∃c:FuncData,(∀(s:Shared) (u:Value),BindsTo s c ⟨[u],[]⟩ [(x,u)])/\
   ∀base:Heap,(K w.params).In base->base.Ns mainGlobals mg->au l.prog w (K w.params) mg base (CX w) k b c [x] (sp w))
 (N:∀(w:World) (H:Hp) (a:Addr) (ns:List Int),ns.length<=n->wx H->a5 (K w.params) H a (ns.map V.int)->sp w [.ref a] H (λv _=>v=.bl true) λ_ _ _=>False)
 (p:∀(w:World) (H:Hp) (s:Shared) (e:Value) (s':Shared),CX w [] H s (λ_ _ _=>False) e s'->False):
 PySem.W.WalkO q O m i l.row.toRowW d [] (λf vs=>PySem.call f vs):=by
 refine OJ.iT I B λw cP Q mg Z b o pm R S a vs ns G Y X W T E L D j C=>?_;have g:=z w _ Y;obtain ⟨c,A,r⟩:=F w mg b _ g G.T.g E;exact Pe g G.T.g G.T.b G.T.builtins G.T.nolimit C L D (c7 j J) M r A (λH t y=>N w H a ns j t y) λH e s'=>p w H Q e s'
theorem PQ {l:PySem.W.OpenLaw} {n k:Nat} {q:Program} {C:List Str} {i:(Str->Option Value)->Heap->Prop} {b:World->Heap->Prop} {d:DefRec} {K:Params->aW} {CX:jL} {sp:aW->Sp} {x:Str}
 (y:l.most=some n) (z:n<=sizeLine) (t:d.params.defaults=[]) (A:cI k callerA)
 (r:∀(w:World) (h:Heap),b w h->(K w.params).In h)
 (F:∀(w:World) (mg:Str->Option Value) (c:Addr) (h:Heap),(K w.params).In h->h.Ns mainGlobals mg->mg d.name=some (.ref c)->
  ∃g:FuncData,(∀(s:Shared) (u:Value),BindsTo s g ⟨[u],[]⟩ [(x,u)])/\
   ∀base:Heap,(K w.params).In base->base.Ns mainGlobals mg->au l.prog w (K w.params) mg base CX k c g [x] (sp (K w.params)))
 (B:∀(K:aW) (H:Hp) (a:Addr) (ns:List Int),ns.length<=n->wx H->a5 K H a (ns.map V.int)->sp K [.ref a] H (λv _=>v=.bl true) λ_ _ _=>False)
 (p:∀(H:Hp) (s:Shared) (e:Value) (s':Shared),CX [] H s (λ_ _ _=>False) e s'->False):
 PySem.W.WalkO q C i b l.row.toRowW d [] (λf vs=>PySem.call f vs):=
 OR (K:=K) (CX:=λ_=>CX) (sp:=λw=>sp (K w.params)) y z t A r F (λw H a ns j m o=>B (K w.params) H a ns j m o) λ_ H s e s'=>p H s e s'
def kN (s:Stmt) (j:Nat):Stmt:=match s with
 | .ClassDef _ _ _ a _ _ _ _ _ _ _=>a.getD j (.Pass ⟨0,0,0,0⟩)
 | _=>.Pass ⟨0,0,0,0⟩
def n_ (s:Stmt):Arguments:=match s with
 | .FunctionDef _ a _ _ _ _ _ _ _ _=>a
 | _=>{ posonlyargs:=[],args:=[],vararg:=none,kwonlyargs:=[],kw_defaults:=[],kwarg:=none,defaults:=[] }
def kM (s:Stmt):List Stmt:=match s with
 | .FunctionDef _ _ b _ _ _ _ _ _ _=>b
 | _=>[]
def aT (s:Stmt):Scope:=match s with
 | .FunctionDef _ _ _ _ _ _ a _ _ _=>a
 | _=>{ kind:=.function,names:=[],isGenerator:=false,isCoroutine:=false }
abbrev aw:jL:=λ_ _ _ _ _ _=>False
abbrev E0:XK:=λ_ _ _=>False
theorem fy:rO aw X E0:=λ_ _ _ _ _ _ _ h=>h.elim
structure gq (K:aW) (x qual:Str) (st:Stmt) (f:Addr) (fd:FuncData):Prop where
 ex:∃(oc:Value) (od:Option Addr) (kV doc pm:Value) (an:Option Addr) (Fw ct:Value) (wC:Array (Option Value)),
  fd=PySem.W.fnOf x qual (n_ st) (kM st) (aT st) .none kV doc pm an Fw ct/\K.lookup f=some ⟨oc,od,.func fd,wC⟩/\PySem.W.codeIn K Fw qual=true
 kp:PySem.W.keepIn K (.ref f)=true
section
variable {K:aW}
theorem gq.ok {x d:Str} {st:Stmt} {f:Addr} {e:FuncData} {N c:List Str} {k:Nat} {sp:Sp} (F:gq K x d st f e) (S:cf N c (aT st)) (n:∀vs H Q E,sp vs H Q E->vs.length=c.length)
 (i:∀(a:Value) (A:Around) (b:List Env) (s:Shared) (H:Hp) (vs:List V) (Q:VK) (E:XK),cI k (A.deeper (envOfC d (aT st) s.heap.objs.size f a))->sp vs H Q E->
  ∃t,eZ (sQ aw P w K mg base N d (aT st) f a A b s H E).qT (kM st) t/\t { nx:=λ_ g=>Q .aH g,rt:=Q } (fj N vs) H):au P w K mg base aw (k+1) f e c sp:=by
 obtain ⟨v,y,u,r,B,o,a,p,z,rfl,lk,j⟩:=F.ex;refine T7 lk j S n λA b s H vs Q E l m=>?_;obtain ⟨t,h,q⟩:=i a A b s H vs Q E l m;exact ⟨t,h.qT,q⟩
theorem gq.cK {x b:Str} {st:Stmt} {f:Addr} {d:FuncData} {N a:List Str} {k:Nat} {sp:Sp} (F:gq K x b st f d) (S:cf N a (aT st)) (g:∀(c:Value) (A:Around) (j:List Env) (s:Shared) (H:Hp) (vs:List V) (Q:VK) (E:XK),cI k (A.deeper (envOfC b (aT st) s.heap.objs.size f c))->sp vs H Q E->
  ∃t,eZ (sQ aw P w K mg base N b (aT st) f c A j s H E).qT (kM st) t/\t { nx:=λ_ e=>Q .aH e,rt:=Q } (fj N vs) H) (i:∀vs H Q E,sp vs H Q E->vs.length=a.length:=by intro _ _ _ _ h;repeat (first|(obtain ⟨rfl,_⟩:=h;rfl)|obtain ⟨_,h⟩:=h)):au P w K mg base aw (k+1) f d a sp:=F.ok S i g
theorem gq.binds {x k:Str} {st:Stmt} {f:Addr} {j:FuncData} {i:List Str} (F:gq K x k st f j)
 (h:∀(e d g:Value) (a:Option Addr) (b c:Value) (us:List Value),us.length=i.length->bindArgs (PySem.W.fnOf x k (n_ st) (kM st) (aT st) .none e d g a b c) ⟨us,[]⟩=pure (i.zip us)):fb K j i []:=by
 obtain ⟨m,n,e,d,g,a,b,c,o,rfl,lk,l⟩:=F.ex;exact .all (h e d g a b c)
theorem Hv {x b:Str} {st:Stmt} {f:Addr} {j:Value} {m d:Option Addr} {n:Array (Option Value)} {h g i a e:Value} (l:K.lookup f=some ⟨j,m,.func (PySem.W.fnOf x b (n_ st) (kM st) (aT st) .none h g i d a e),n⟩)
 (c:PySem.W.codeIn K a b=true) (k:PySem.W.keepIn K (.ref f)=true):gq K x b st f (PySem.W.fnOf x b (n_ st) (kM st) (aT st) .none h g i d a e):=⟨⟨j,m,h,g,i,d,a,e,n,U,l,c⟩,k⟩
end
theorem jt (a:cI k A):A.units+1<cLine:=l9 (FG (by decide:1<=64) _) a.units
theorem fz (h:n<=1000):n<sizeLine:=l9 h (by decide)
section
theorem pv (i:Nat) (a:X.N[i]?=some x:=by rfl) (d:Ba X.env.scope x:=by first | exact Or.inl rfl | exact Or.inr (Or.inl rfl) | exact Or.inr (Or.inr rfl)) (c:(x==("__debug__":Str))=false:=by decide)
 (b:(x==("__classdict__":Str))=false:=by decide):PE X (.Name x pos) (dv i):=Vb a d c b
end
theorem du {A B:Prop} (h:B):if false=true then A else B:=by rw [if_neg d_];exact h
theorem fx {A B:Prop} (h:A):if true=true then A else B:=by rw [if_pos rfl];exact h
theorem gX {c A B:Prop} [Decidable c] (a:c->A) (b:¬c->B):if c then A else B:=by
 by_cases h:c
 ·rw [if_pos h];exact a h
 ·rw [if_neg h];exact b h
theorem qx {c A B:Prop} [Decidable c] (a:c) (h:B):if (!decide c)=true then A else B:=by rw [ew a];exact du h
def ay (H a:Hp):Prop:=∀b o,H b=some o->a b=some o
theorem ay.refl (H:Hp):ay H H:=λ_ _ h=>h
theorem ay.trans (a:ay H H1) (b:ay H1 H2):ay H H2:=λc o h=>b c o (a c o h)
theorem ay.free (e:ay H H') (h:H' l=Option.none):H l=Option.none:=by
 cases q:H l with
 | none=>rfl
 | some o=>
  rw [e l o q] at h;cases h
section
theorem QI (I:Nat->Shared->Prop)
 (u:∀n s,I n s->wpAny (model prog w) A (pyNext it) (λr b=>match r with
  | none=>R (.ok .next) b
  | some v=>wpAny (model prog w) A (letOwnedTupleGo target it v) (λ_ g=>wpAny (model prog w) A (assign target env v) (λ_ i=>
   wpAny (model prog w) A (forIn ifs true λc r=>if r=true then do let ok <-isTrue c env (eval c env);pure (ForInStep.yield ok) else pure (ForInStep.yield r)) (λok d=>
    if ok=true then wpAny (model prog w) A (eval elt env) (λx j=>
     wpAny (model prog w) A (call (.builtin "list.append") [acc,x]) (λ_ k=>∃m,m<n/\I m k) (λ_ _=>False) j) (λ_ _=>False) d
    else ∃m,m<n/\I m d) (λ_ _=>False) i) (λ_ _=>False) g) (λ_ _=>False) b) (λ_ _=>False) s)
 (n:Nat) (h:I n s):codeAny (model prog w) A (.compLoop (.ListComp elt [⟨target,iter,ifs,0⟩] scope pos) 0 it acc env) R s:=by
 refine codeAny_loop U I (λn s l=>?_) n h;show wpAny _ A ((compTurn (.ListComp elt [⟨target,iter,ifs,0⟩] scope pos) 0 it acc env).onRaise (λx=>do noteFrame x env;theTreesLotGoes x)) _ _ s;refine wpAny_noted ?_;rw [compTurn_list];refine ab (AU (ab (hV (u n s l) (λr b e=>?_) λ_ _ a=>a.elim)))
 cases r with
 | none=>exact aG e
 | some v=>
  refine ab (hV e (λ_ g o=>?_) λ_ _ a=>a.elim);refine ab (hV o (λ_ i p=>ab (hV p (λok d f=>?_) λ_ _ a=>a.elim)) λ_ _ a=>a.elim)
  cases ok with
  | false=>exact aG ⟨U,f⟩
  | true=>
   exact ab (ab (hV f (λx j q=>ab (hV q (λ_ k t=>aG (aG ⟨U,t⟩)) λ_ _ a=>a.elim)) λ_ _ a=>a.elim))
end
theorem Ri {env:Env} {f:(Str×NameKind)->List (Str×Addr)->Sem (ForInStep (List (Str×Addr)))}
 (C:∀n k j,k≠NameKind.free->f (n,k) j=pure (.yield j)) (D:∀n a j,env.cells.lookup n=some a->f (n,.free) j=pure (.yield ((n,a)::j))):
 ∀(i:List (Str×NameKind)) (d:List (Str×Addr)),(∀x∈i,x.2=.free->∃c,env.cells.lookup x.1=some c)->(∀x c,d.lookup x=some c->env.cells.lookup x=some c)->
  ∃h,forIn i d f=pure h/\(∀x c,h.lookup x=some c->env.cells.lookup x=some c/\((∃m,d.lookup x=some m)\/(x,NameKind.free)∈i))/\
   ∀x,((∃c,d.lookup x=some c)\/(x,NameKind.free)∈i)->∃c,h.lookup x=some c:=by
 intro i
 induction i with
 | nil=>exact λd _ l=>⟨d,U,λx c e=>⟨l x c e,.inl ⟨c,e⟩⟩,λx b=>b.elim (λz=>z) λz=>nomatch z⟩
 | cons y r B=>
  intro d v l;obtain ⟨n,k⟩:=y;have A:∀x∈r,x.2=.free->∃c,env.cells.lookup x.1=some c:=λx b=>v x (eI _ b)
  by_cases t:k=.free
  ·subst t;obtain ⟨a,e⟩:=v (n,.free) dB U;have e:env.cells.lookup n=some a:=e;have E:∀x c,((n,a)::d).lookup x=some c->env.cells.lookup x=some c:=λx c q=>by
    rw [eQ] at q
    cases b:x==n with
    | true=>rw [b] at q;cases q;rw [beq_iff_eq.mp b];exact e
    | false=>rw [b] at q;exact l x c q
   obtain ⟨h,o,p,s⟩:=B ((n,a)::d) A E;refine ⟨h,?_,λx c q=>?_,λx b=>?_⟩
   ·rw [List.forIn_cons,D n a d e,pure_bind];exact o
   ·obtain ⟨u,g⟩:=p x c q;refine ⟨u,?_⟩;rcases g with ⟨m,g⟩ | g
    ·rw [eQ] at g
     cases b:x==n with
     | true=>rw [beq_iff_eq.mp b];exact .inr dB
     | false=>rw [b] at g;exact .inl ⟨m,g⟩
    ·exact .inr (eI _ g)
   ·refine s x ?_;rcases b with ⟨c,b⟩ | b
    ·refine .inl ?_;rw [eQ]
     cases x==n with
     | true=>exact ⟨a,U⟩
     | false=>exact ⟨c,b⟩
    ·rcases eG.mp b with z | z
     ·cases z;exact .inl ⟨a,by rw [eQ,kE]⟩
     ·exact .inr z
  ·obtain ⟨h,o,p,s⟩:=B d A l;refine ⟨h,?_,λx c q=>?_,λx b=>?_⟩
   ·rw [List.forIn_cons,C n k d t,pure_bind];exact o
   ·obtain ⟨u,g⟩:=p x c q;exact ⟨u,g.elim .inl λz=>.inr (eI _ z)⟩
   ·refine s x ?_;rcases b with b | b
    ·exact .inl b
    ·rcases eG.mp b with z | z
     ·cases z;exact absurd U t
     ·exact .inr z
theorem Lj {scope:Scope} {env:Env} (h:∀x∈scope.names,x.2=.free->∃c,env.cells.lookup x.1=some c):
 ∃b,closureFor scope env=pure b/\(∀x c,b.lookup x=some c->env.cells.lookup x=some c/\(x,NameKind.free)∈scope.names)/\∀x,(x,NameKind.free)∈scope.names->∃c,b.lookup x=some c:=by
 obtain ⟨b,g,i,j⟩:=Ri (env:=env) (f:=λx d=>if (x.2==NameKind.free)=true then do let a <-cellOf env x.1;pure (ForInStep.yield ((x.1,a)::d)) else pure (ForInStep.yield d))
  (λn k d l=>by
   have:(k==NameKind.free)=false:=by simpa using l
   simp only [this,Bool.false_eq_true,if_false])
  (λn a d e=>by
   simp only [kE,if_true,cellOf,e,pure_bind])
  scope.names [] h (λx c q=>nomatch q)
 refine ⟨b,?_,λx c q=>?_,λx m=>j x (.inr m)⟩
 ·unfold closureFor
  first
   | (rw [show (forIn scope.names ([]:List (Str×Addr)) _:Sem (List (Str×Addr)))=pure b from g];rfl)
   | (simp only [g,pure_bind];done)
   | exact (r (λz=>z>>=λd=>pure d) g).trans (pure_bind _ _)
 ·obtain ⟨o,p⟩:=i x c q;exact ⟨o,p.elim (λ⟨_,z⟩=>nomatch z) λz=>z⟩
theorem LG {env:Env}:∀{b:List (Str×NameKind)} {x:Str},b.lookup x=some .free->
 (b.map λ(n,k)=>if (k==NameKind.free && env.scope.kind==.function && env.kindOf n==some .cell) then (n,NameKind.cell) else (n,k)).lookup x=some .cell\/
 (b.map λ(n,k)=>if (k==NameKind.free && env.scope.kind==.function && env.kindOf n==some .cell) then (n,NameKind.cell) else (n,k)).lookup x=some .free
 | [],_,h=>by simp at h
 | (n,k)::r,x,h=>by
  have c:= @LG env r x;show List.lookup x ((if (k==NameKind.free && env.scope.kind==.function && env.kindOf n==some .cell)=true then (n,NameKind.cell) else (n,k))::_)=_\/
   List.lookup x ((if (k==NameKind.free && env.scope.kind==.function && env.kindOf n==some .cell)=true then (n,NameKind.cell) else (n,k))::_)=_
  cases hx:x==n with
  | true=>
   simp only [eQ,hx] at h;cases h
   by_cases a:(NameKind.free==NameKind.free && env.scope.kind==.function && env.kindOf n==some .cell)=true
   ·rw [if_pos a];exact .inl (by simp [eQ,hx])
   ·rw [if_neg a];exact .inr (by simp [eQ,hx])
  | false=>
   simp only [eQ,hx] at h
   by_cases a:(k==NameKind.free && env.scope.kind==.function && env.kindOf n==some .cell)=true
   ·rw [if_pos a];simp only [eQ,hx];exact c h
   ·rw [if_neg a];simp only [eQ,hx];exact c h
def fk (X:Cx) (scope:Scope) (a:List (Str×Addr)) (N:List Str) (ex:List Addr) (s:Shared) (H:Hp):Cx where
 prog:=X.prog
 w:=X.w
 K:=X.K
 mg:=X.mg
 base:=X.base
 A:=X.A
 N:=N
 cP:=s
 gW:=H
 env:=compEnvC scope a s.heap.objs.size X.env
 outer:=X.stack
 stack:=X.stack
 ex:=ex
 fn:=λx=>scope.names.lookup x==some .local
 calm:=X.calm
 pn:=[]
 xe:=λ_ _=>False
def me (a:List (Option Nat)) (b:St):St:=a.map λj=>match j with
 | none=>none
 | some j=>(b[j]?).join
structure gF (sc:Scope) (NX:List Str) (scope:Scope) (N:List Str) (js:List (Option Nat)):Prop where
 kind:scope.kind=.function
 cell:∀x∈scope.names,x.2≠.cell
 loc:∀x∈scope.names,x.2=.local->scope.names.lookup x.1=some .local
 free:∀x∈scope.names,x.2=.free->scope.names.lookup x.1=some .free/\(sc.names.lookup x.1=some .cell\/sc.names.lookup x.1=some .free)
 len:js.length=N.length
 at_:∀p∈js.zip N,p.1=none\/∃j∈List.range NX.length,p.1=some j/\NX[j]?=some p.2/\(p.2,NameKind.free)∈scope.names
theorem jH {b:Scope} {a:List Str} {scope:Scope} {N:List Str} {js:List (Option Nat)} (c:scope.kind=.function:=by rfl) (d:∀x∈scope.names,x.2≠.cell:=by decide+kernel) (e:∀x∈scope.names,x.2=.local->scope.names.lookup x.1=some .local:=by decide+kernel) (f:∀x∈scope.names,x.2=.free->scope.names.lookup x.1=some .free/\(b.names.lookup x.1=some .cell\/b.names.lookup x.1=some .free):=by decide+kernel) (g:js.length=N.length:=by rfl) (h:∀p∈js.zip N,p.1=none\/∃j∈List.range a.length,p.1=some j/\a[j]?=some p.2/\(p.2,NameKind.free)∈scope.names:=by decide+kernel):gF b a scope N js:=⟨c,d,e,f,g,h⟩
section
theorem PD (I:Inv X pins σ H s) (C:gF X.env.scope X.N scope N js) (g:∀x c,cl.lookup x=some c->X.env.cells.lookup x=some c/\(x,NameKind.free)∈scope.names)
 (M:∀x,(x,NameKind.free)∈scope.names->∃c,cl.lookup x=some c) (D:∀b∈ex,nI X pins H b/\b<s.heap.objs.size)
 (uX:h1.Ns s.heap.objs.size λ_=>none) (p:∀b o,s.heap.get? b=some o->h1.get? b=some o):Inv (fk X scope cl N ex s H) [] (me js σ) H { s with heap:=h1,toks:=tk }:=by
 have W:∀x,(x,NameKind.free)∈scope.names->(relabel scope X.env).names.lookup x=some .cell\/(relabel scope X.env).names.lookup x=some .free:=λx A=>LG (C.free _ A U).1;refine ⟨⟨I.ok.mod,C.kind,I.ok.glob,I.ok.blt,aj _,λx y c t a=>I.ok.inj x y c (g x c t).1 (g y c a).1,λx A=>?_,λx c n e=>?_,I.ok.hd,I.ok.frames,.inl U,λb h=>⟨eF (D b h).2,λx c e=>(D b h).1.2.2.2.2.1 x c (g x c e).1⟩,I.bs,c7 I.ok.o8 I.sz,λb o e h=>?_,λb h n=>?_,I.stack,I.j_⟩,
  rfl,I.bare,Un.kept p,⟨λ_=>none,uX,λi x v t a e3=>?_⟩,λx c e=>?_,I.a7.fresh (aj _),λx c e=>I.dw x c (g x c e).1,λx3 hp=>absurd (show x3∈([]:List (Addr×Obj)) from hp) (by simp),I.a7.kept p,?_⟩
 ·
  have A:(relabel scope X.env).names.lookup x=some .cell\/(relabel scope X.env).names.lookup x=some .free:=A;have u:(x,NameKind.free)∈scope.names:=by
   have R:∀k,(relabel scope X.env).names.lookup x=some k->k=.cell\/k=.free->(x,NameKind.free)∈scope.names:=λk F p=>by
    have m:=nG F;obtain ⟨⟨x2,Q⟩,u,e⟩:=cn.mp m;dsimp only at e
    by_cases l:(Q==NameKind.free && X.env.scope.kind==.function && X.env.kindOf x2==some .cell)=true
    ·rw [if_pos l] at e;cases e;have:Q=.free:=by
      simp only [kr,beq_iff_eq] at l;exact l.1.1
     subst this;exact u
    ·rw [if_neg l] at e;cases e;rcases p with z | z
     ·exact absurd z (C.cell _ u)
     ·subst z;exact u
   rcases A with z | z
   ·exact R _ z (.inl U)
   ·exact R _ z (.inr U)
  exact M x u
 ·have n:(scope.names.lookup x==some .local)=true:=n;have T:=(C.free _ (g x c e).2 U).1;rw [T] at n;exact absurd n (by decide)
 ·obtain ⟨⟨_,_,_,L,_⟩,_⟩:=D b h;rcases L with z | z
  ·exact I.ok.mR b o e z
  ·exact absurd (gn (gn (dz e) I.ok.o8) z) (iD _)
 ·obtain ⟨⟨_,Y,ET,_⟩,_⟩:=D b h;rcases eG.mp (I.ik b n) with z | z
  ·exact Y z
  ·exact ET z
 ·
  unfold me at a;rw [dC] at a
  cases J:js[i]? with
  | none=>rw [J] at a;cases a
  | some oj=>
   rw [J] at a
   cases oj with
   | none=>cases a
   | some j=>
    have B:(σ[j]?).join=some v:=dG a;have V:σ[j]?=some (some v):=by
     cases q:σ[j]? with
     | none=>rw [q] at B;cases B
     | some z=>rw [q] at B;exact congrArg some B
    have t:N[i]?=some x:=t;have L:(some j,x)∈js.zip N:=rz.mpr ⟨i,by rw [List.getElem?_zip_eq_some];exact ⟨J,t⟩⟩;obtain ⟨r,d⟩:X.N[j]?=some x/\(x,NameKind.free)∈scope.names:=by
     rcases C.at_ _ L with q | ⟨j',_,q,r,d⟩
     ·cases q
     ·cases q;exact ⟨r,d⟩
    have r:X.N[j]?=some x:=r;have d:(x,NameKind.free)∈scope.names:=d;obtain ⟨_,f⟩:=C.free _ d U;have f:X.env.scope.names.lookup x=some .cell\/X.env.scope.names.lookup x=some .free:=f;obtain ⟨m,_,F⟩:=I.loc;obtain ⟨x5,x4,x1⟩:=F j x v r V (.inr f);refine ⟨x5,x4,?_⟩;rcases x1 with ⟨k,_⟩ | ⟨_,c,l,z⟩
    ·have k:X.env.scope.names.lookup x=some .local:=k;rcases f with f | f<;>(rw [f] at k;cases k)
    ·obtain ⟨S,O⟩:=M x d;have:=(g x S O).1;rw [l] at this;cases this;obtain ⟨o,G,E⟩:=z;exact .inr ⟨W x d,c,O,⟨o,p _ _ G,E⟩⟩
 ·obtain ⟨v,o,G,E⟩:=I.cell x c (g x c e).1;exact ⟨v,o,p _ _ G,E⟩
 ·show (me js σ).length=N.length;unfold me;rw [ax];exact C.len
end
def uj (X:Cx) (d:List Expr) (t:TT):Prop:=
 ∀(b:List (Addr×Obj)) (s:Shared) (a:St) (H:Hp) (Q:Bool->Hp->Prop),Inv X b a H s->t a H Q->
  wpAny (model X.prog X.w) X.A (forIn d true λc r=>if r=true then do let ok <-isTrue c X.env (eval c X.env);pure (ForInStep.yield ok) else pure (ForInStep.yield r)) (TP X b a Q) X.xe s
def LW:TT:=λ_ H Q=>Q true H
theorem oi:uj X [] LW:=λ_ _ _ H _ I h=>wpAny_tests_nil ⟨H,I,h⟩
theorem vI (h:PT X c t):uj X [c] t:=λb s d H Q I a=>wpAny_tests_one (h b s d H Q I a)
def rV (o:List (Option Nat)) (g:TG) (p:TT) (q:TE) (r:St) (Q:VK) (J:It) (l:Hp) (D:Addr):Prop:=∃W:Nat->Nat->St->Hp->Prop,(∃m,W 0 m (me o r) (upd l D (.lst [])))/\
 ∀i m j a,W i m j a->(J.stop i a/\Q (.ref D) a)\/(J.go i a/\∃N:St->Hp->Prop,(∀k b,N k b->∃h,h<m/\W (i+1) h k b)/\
  ∀x b,J.sS i a x b->g x j b λc n=>p c n λok e=>if ok=true then q c e λy f=>∃d,f D=some (.lst d)/\d.length<sizeLine/\N c (upd f D (.lst (d++[y]))) else N c e)
def yB (c:List (Option Nat)) (f:TI) (g:TG) (d:TT) (e:TE):TE:=λb H Q=>f b H λJ a=>∀D,a D=none->rV c g d e b Q J a D
def jF (l:List (Str×NameKind)):Scope:={ kind:=.function,names:=l,isGenerator:=false,isCoroutine:=false,more:=[] }
section
theorem IK {f:List (Str×Addr)} {t:List (Addr×Obj)} {y:St} {H:Hp} {s:Shared} {x2:Value->Shared->Prop} {Q:VK} {RR:Value->Addr->Result->Shared->Prop} (hc:jq X) (C:gF X.env.scope X.N scope N js)
 (c2:∀x c,f.lookup x=some c->X.env.cells.lookup x=some c/\(x,NameKind.free)∈scope.names) (c3:∀x,(x,NameKind.free)∈scope.names->∃c,f.lookup x=some c)
 (a:∀f B s H,jq (fk X scope f N B s H)->PG (fk X scope f N B s H) tg g/\uj (fk X scope f N B s H) ifs tc/\PE (fk X scope f N B s H) elt te)
 {it:Addr} {h:List Addr} {v:Nat->Heap->Prop} {x3:It} (I:Inv X t y H s) (T:sO X.prog X.w X.K tg x3 h it v) (st:v 0 s.heap) (J:∀b∈h,nI X t H b)
 (x5:∀D,H D=none->rV js g tc te y Q x3 H D)
 (Y3:∀D q d s',Q (.ref D) d->(∃m,s'.heap.Ns q m)->d q=none->X.cP.heap.objs.size<=q->q≠X.env.locals->(∀x c,X.env.cells.lookup x=some c->c≠q)->(∀p∈X.pn++t,p.1≠q)->Inv X t y d s'->RR (.ref D) q (.ok .next) s'):
 wpAny (model X.prog X.w) X.A (newList []) (λacc Dd=>wpAny (model X.prog X.w) X.A (newFunctionEnv scope X.env.globals f [] X.env.qual none .none (some X.env)) (λxD Dc=>
  codeAny (model X.prog X.w) X.A (.compStart (.ListComp elt [⟨tg,iter,ifs,0⟩] scope pos) 0 (.ref it) acc { xD with scope:=relabel scope X.env }) (RR acc xD.locals) Dc) x2 Dd) x2 s:=by
 have hD:H s.heap.objs.size=none:=I.fresh;have k:Inv X t y (upd H s.heap.objs.size (.lst [])) { s with heap:=s.heap.push { cls:=.type "list",data:=.seq ([]:List Value).toArray } }:=I.wI (its:=[]) (ys:=[]) (t':=s.toks) .nil (cN _);refine qk (wpAny_newFunctionEnv C.cell (by intro x1 hy;simp at hy) (λiu W Z=>?_) C.kind);dsimp only at W Z ⊢;generalize Nk:({ s with heap:=s.heap.push { cls:=.type "list",data:=.seq ([]:List Value).toArray } }:Shared)=s3 at k;have R:s.heap.push { cls:=.type "list",dict:=none,data:=.seq ([]:List Value).toArray }=s3.heap:=by rw [<-Nk]
 rw [R] at W Z ⊢;have kp:∀b o,s3.heap.get? b=some o->iu.get? b=some o:=λb o e=>Z.extBut b o (eF (dz e)) (df _ e);have S:∀b∈h,b<s.heap.objs.size:=λb a=>by obtain ⟨o,e,_⟩:=T.obj 0 s.heap st b a;exact dz e
 have M6:s3.heap.objs.size=s.heap.objs.size+1:=by rw [<-R,FX]
 have f3:∀b∈h,nI X t (upd H s.heap.objs.size (.lst [])) b:=λb a=>by obtain ⟨h1,h2⟩:=J b a;exact ⟨by rw [aq (eF (S b a))];exact h1,h2⟩
 have IY:∀tk,Inv (fk X scope f N h s3 (upd H s.heap.objs.size (.lst []))) [] (me js y) (upd H s.heap.objs.size (.lst [])) { s3 with heap:=iu,toks:=tk }:=λtk=>
  PD k C c2 c3 (λb a=>⟨f3 b a,by rw [M6];exact lS (S b a)⟩) W kp
 have il:v 0 iu:=T.keep 0 s.heap iu st λb _ o e=>kp b o (by rw [<-R];exact df _ e);obtain ⟨x4,⟨m0,w0⟩,turn⟩:=x5 s.heap.objs.size hD;have M:jq (fk X scope f N h s3 (upd H s.heap.objs.size (.lst []))):=hc.X0 k U U λ_ _ _ z=>z;have Yu:=a f h s3 (upd H s.heap.objs.size (.lst [])) M;obtain ⟨hg,Yj,he⟩:=Yu;have sW:∀{d:Hp},(∀b∈h,d b=none)->∀b∈h,nI (fk X scope f N h s3 (upd H s.heap.objs.size (.lst []))) [] d b:=λV b a=>by
  obtain ⟨_,L,ET,_,O,_⟩:=J b a;refine ⟨V b a,eF (by show b<s3.heap.objs.size;rw [M6];exact lS (S b a)),λz=>?_,.inl a,λx c e=>O x c (c2 x c e).1,λp u=>absurd (show p∈([]:List (Addr×Obj)) from u) (by simp)⟩;rcases eG.mp (I.ik b z) with z | z
  ·exact L z
  ·exact ET z
 have loop:∀s4:Shared,s4={ s3 with heap:=iu,toks:=s.toks+([]:List (Str×Value)).length }->
  codeAny (model X.prog X.w) X.A (.compLoop (.ListComp elt [⟨tg,iter,ifs,0⟩] scope pos) 0 (.ref it) (.ref s.heap.objs.size) (compEnvC scope f s3.heap.objs.size X.env)) (RR (.ref s.heap.objs.size) s3.heap.objs.size) s4:=by
  rintro s4 rfl;refine QI (λn s'=>∃i l d,Inv (fk X scope f N h s3 (upd H s.heap.objs.size (.lst []))) [] l d s'/\v i s'.heap/\(∀b∈h,d b=none)/\x4 i n l d) ?_ m0
   ⟨0,_,_,IY _,il,λb a=>(f3 b a).1,w0⟩
  rintro n s5 ⟨i,E,A,I5,Aq,A7,w5⟩;rcases turn i n E A w5 with ⟨stop,qn⟩ | ⟨go,Nx,hN,step⟩
  ·refine ar (T.done (fk X scope f N h s3 (upd H s.heap.objs.size (.lst []))) U U U M i [] s5 E A _ I5 (sW A7) Aq stop) λx6 s6 ⟨Y,r⟩=>?_;subst Y;obtain ⟨m,V,_⟩:=r.loc;refine Y3 _ _ A s6 qn ⟨m,V⟩ r.free (c7 k.sz (aj _)) (vf k.lt) (λx c e z=>?_) (λp u z=>?_) (k.xE r.os r.base r.a7 r.bare λb a=>?_)
   ·obtain ⟨x8,o,ho,_⟩:=k.cell x c e;exact absurd (dz ho) (by rw [z];exact iD _)
   ·exact absurd (dz (k.pin p u).1) (by rw [z];exact iD _)
   ·obtain ⟨_,L,_,hx,O,u⟩:=J b a;exact ⟨hx,L,O,u⟩
  ·refine ar (T.item (fk X scope f N h s3 (upd H s.heap.objs.size (.lst []))) U U U M i [] s5 E A _ I5 (sW A7) Aq go) λx6 s6 j=>L2.A8 j λx7 Y h6=>?_;subst Y;refine ar h6 λ_ s7 j=>?_;obtain ⟨x,H7,I7,r7,y7,De,YF⟩:=j;have Z0:=I7.pinned (sW YF) (T.obj _ _ De);refine ar (hg _ s7 E H7 x x7 _ Z0 r7 (step x H7 y7)) λ_ s8 j=>?_;obtain ⟨F,H8,I8,q8⟩:=j;refine ar (Yj _ s8 F H8 _ I8 q8) λok s9 j=>?_;obtain ⟨H9,I9,q9⟩:=j;have again:∀{s':Shared} {l:St} {d:Hp},Inv (fk X scope f N h s3 (upd H s.heap.objs.size (.lst []))) ([]++vA h s7.heap) l d s'->Nx l d->
    ∃m,m<n/\∃i vt GJ,Inv (fk X scope f N h s3 (upd H s.heap.objs.size (.lst []))) [] vt GJ s'/\v i s'.heap/\(∀b∈h,GJ b=none)/\x4 i m vt GJ:=λ{s' l d} G n'=>by
    obtain ⟨m',hm,w'⟩:=hN l d n';refine ⟨m',hm,i+1,l,d,G.eU,T.keep _ _ _ De λb a o e=>(G.pin (b,o) (i5 _ (i5 _ (zS a e)))).1,λb a=>?_,w'⟩;obtain ⟨o,e,_⟩:=T.obj _ _ De b a;exact (G.pin (b,o) (i5 _ (i5 _ (zS a e)))).2.1
   cases ok with
   | false=>exact again I9 q9
   | true=>
    refine ar (he _ s9 F H9 _ I9 q9) λyv Wu j=>?_;obtain ⟨x1,vp,Z2,Wy,ys,Y7,EB,WY⟩:=j;refine ar (ov _ Wu F vp (.ref s.heap.objs.size) [x1] (.ref s.heap.objs.size) [yv] (λ_ d=>Nx F d) Z2 U (.cons Wy .nil) ⟨_,ys,x1,U,U,Y7,EB,WY⟩) λ_ Di j=>?_;obtain ⟨_,GH,Z1,_,WX⟩:=j;exact again Z1 WX
 have e4:({ s with heap:=iu,toks:=s.toks+([]:List (Str×Value)).length }:Shared)={ s3 with heap:=iu,toks:=s.toks+([]:List (Str×Value)).length }:=by rw [<-Nk]
 exact codeAny_compStart_list (loop _ e4) (T.self _ 0 _ _ _ il (loop _ e4))
theorem Pq (v:jq X) (E:PI X tg iter wi) (C:gF X.env.scope X.N scope N js)
 (d:∀a c s H,jq (fk X scope a N c s H)->PG (fk X scope a N c s H) tg g/\uj (fk X scope a N c s H) ifs tc/\PE (fk X scope a N c s H) elt te)
 (M:∀x,foldedSetIterable iter X.env x=pure x:=by intro _;rfl):PE X (.ListComp elt [⟨tg,iter,ifs,0⟩] scope pos) (yB js wi g tc te):=by
 intro i s j H Q I h;obtain ⟨a,y,p,r⟩:=Lj (scope:=scope) (env:=X.env) λx R A=>I.ok.has x.1 (C.free x R A).2;rw [eval_ListComp];refine wpAny_comprehension_free (use:=none) U M y C.kind C.loc (ar (E i s j H _ I h) λxv bX S=>ar S λMX kU V=>?_);obtain ⟨it,fp,tn,x1,H2,rfl,n,T,Z,t,q⟩:=V;refine IK (RR:=λo f=>compPost (model X.prog X.w) X.A X.xe none (EP X i j Q) o f) v C p r d n T Z t q ?_;intro D f k W L G B O u z J l;obtain ⟨m,F⟩:=G;refine ⟨m,F,λh' Y=>⟨.ref D,k,?_,U,L⟩⟩;exact l.turned (t':=W.toks) (λb x2 d e=>(Y.2 b d).trans e) B (aQ (aQ u)) (.inr O) z J
theorem mh (d:X.calm=true) (e:PI X tg iter I) (C:gF X.env.scope X.N scope N js)
 (c:∀a b s H,PG (fk X scope a N b s H) tg g/\uj (fk X scope a N b s H) ifs tc/\PE (fk X scope a N b s H) elt o)
 (f:∀x,foldedSetIterable iter X.env x=pure x:=by intro _;rfl):PE X (.ListComp elt [⟨tg,iter,ifs,0⟩] scope pos) (yB js I g tc o):=Pq (.inl d) e C (λa b s H _=>c a b s H) f
theorem Px (M:X.N.Nodup) (Z:X.N[i]?=some y) (t:X.env.scope.names.lookup y=some .local) (R:jq X) (Y:PI X tg iter wi) (C:gF X.env.scope X.N scope N js)
 (l:∀c f s H,jq (fk X scope c N f s H)->PG (fk X scope c N f s H) tg g/\uj (fk X scope c N f s H) ifs tc/\PE (fk X scope c N f s H) elt te)
 (XF:swapsWith (.ListComp elt [⟨tg,iter,ifs,0⟩] scope pos) (some (.Name y py)) Dg.line X.env=pure true:=by rfl)
 (hs:∀x,foldedSetIterable iter X.env x=pure x:=by intro _;rfl):PS X (.Assign [.Name y py] (.ListComp elt [⟨tg,iter,ifs,0⟩] scope pos) Dg) (wy (yB js wi g tc te) (qw i)):=by
 intro o s u H D I h;obtain ⟨c,S,G,J⟩:=Lj (scope:=scope) (env:=X.env) λx n V=>I.ok.has x.1 (C.free x n V).2;rw [exec_Assign_Name_used _ _ _ _ XF];refine ab (AU (ab ?_));show wpAny _ X.A (do let _ <-comprehension (.ListComp elt [⟨tg,iter,ifs,0⟩] scope pos) scope X.env _ (newList []) false (eval iter X.env) (some (assign (.Name y py) X.env))) _ _ s;refine ab (hV (wpAny_comprehension_free (use:=some (assign (.Name y py) X.env)) (Q:=λ_ d=>SP X o D .next d) U hs S C.kind C.loc (ar (Y o s u H _ I h) λxv bX iu=>ar iu λMX kU DE=>?_))
  (λ_ d m=>aG (aG m)) λ_ _ e=>e)
 obtain ⟨it,fp,tn,x3,H2,rfl,k,T,eh,L,x2⟩:=DE;refine IK (Q:=λx B=>qw i x u B D.nx) (RR:=λF j=>compPost (model X.prog X.w) X.A X.xe (some (assign (.Name y py) X.env)) (λ_ d=>SP X o D .next d) F j) R C G J l k T eh L x2 ?_;intro p j A d m uX W hsz q r DV E;obtain ⟨x1,hn⟩:=uX;show wpAny _ X.A (assign (.Name y py) X.env (.ref p)) _ _ _;refine wpAny_assign_Name (KJ E M Z (.inl t) (v:=.ref p) U (λs2 k n=>?_) (.inr t));obtain ⟨a,Wt,O⟩:=n;have o4:j≠a:=by
  rcases O with z | z
  ·rw [z];exact q
  ·exact λe=>r y a z e.symm
 refine ⟨x1,hn.sameBut Wt o4,λh' sb=>⟨_,A,?_,m⟩⟩;exact k.turned (t':=s2.toks) (λb x4 l e=>(sb.2 b l).trans e) W q (.inr hsz) r DV
theorem y' (c:X.N.Nodup) (h:X.N[i]?=some y) (l:X.env.scope.names.lookup y=some .local) (e:X.calm=true) (f:PI X tg iter J) (C:gF X.env.scope X.N scope N js)
 (d:∀a b s H,PG (fk X scope a N b s H) tg g/\uj (fk X scope a N b s H) ifs tc/\PE (fk X scope a N b s H) elt I)
 (k:swapsWith (.ListComp elt [⟨tg,iter,ifs,0⟩] scope pos) (some (.Name y py)) o.line X.env=pure true:=by rfl)
 (j:∀x,foldedSetIterable iter X.env x=pure x:=by intro _;rfl):PS X (.Assign [.Name y py] (.ListComp elt [⟨tg,iter,ifs,0⟩] scope pos) o) (wy (yB js J g tc I) (qw i)):=Px c h l (.inl e) f C (λa b s H _=>d a b s H) k j
end
section
theorem zO {l:Int} {n:Nat} (b:Nat->St->Hp->Prop) (r:b 0 (me js h) (upd H D (.lst [])))
 (u:∀i c a,i<n->b i c a->g (.int (l+i)) c a λf q=>tc f q λok j=>if ok=true then C f j λy k=>∃ys,k D=some (.lst ys)/\ys.length<sizeLine/\b (i+1) f (upd k D (.lst (ys++[y]))) else b (i+1) f j)
 (s:∀c a,b n c a->Q (.ref D) a):
 rV js g tc C h Q (rB l n) H D:=by
 refine ⟨λi m h H=>m=n-i/\i<=n/\b i h H,⟨n,by simp,cN _,r⟩,?_⟩;rintro i m c a ⟨rfl,t,p⟩
 by_cases d:i<n
 ·refine .inr ⟨d,b (i+1),λz o v=>⟨n-(i+1),qH d,U,d,v⟩,λx o y=>?_⟩;obtain ⟨e,y⟩:=y;subst e y;exact u i c _ d p
 ·have e:i=n:=qI t d;subst e;exact .inl ⟨aj _,s c a p⟩
theorem sC {a:Addr} {xs:List V} (d:Nat->St->Hp->Prop) (s:d 0 (me js j) (upd H D (.lst []))) (u:∀i c b,i<=xs.length->d i c b->a5 K b a xs)
 (v:∀i x c b,xs[i]?=some x->d i c b->g x c b λh r=>tc h r λok k=>if ok=true then C h k λy l=>∃ys,l D=some (.lst ys)/\ys.length<sizeLine/\d (i+1) h (upd l D (.lst (ys++[y]))) else d (i+1) h k)
 (t:∀c b,d xs.length c b->Q (.ref D) b):
 rV js g tc C j Q (uk K a) H D:=by
 refine ⟨λi m j H=>m=xs.length-i/\i<=xs.length/\d i j H,⟨xs.length,by simp,cN _,s⟩,?_⟩;rintro i m c b ⟨rfl,n,p⟩;have q:=u i c b n p
 by_cases f:i<xs.length
 ·refine .inr ⟨⟨xs,xs[i],q,by simp [f]⟩,d (i+1),λA o z=>⟨xs.length-(i+1),qH f,U,f,z⟩,λx o y=>?_⟩;obtain ⟨e,y⟩:=y;subst e;exact v i x c _ (y xs q) p
 ·have e:i=xs.length:=qI n f;subst e;exact .inl ⟨⟨xs,q,aj _⟩,t c b p⟩
end
end L2
set_option maxHeartbeats 4000000
namespace L2
open PySem PySem.Spec PyProof.Rows
section
end
section
variable {os:OsState}
end
section
end
open PySem PySem.Spec PyProof.Rows Builtin Builtin.ObjectAttr
section
end
section
variable {K:aW}
end
section
variable {K:aW}
end
section
end
section
def O_ (r j l:R2) (m n o p:TE):TE:=λa H Q=>m a H λx f=>n a f λy g=>r x y g λz b=>∃k,z=.bl k/\
 (if k=true then o a b λe h=>j y e h λs c=>∃d,s=.bl d/\(if d=true then p a c λq i=>l e q i Q else Q (.bl false) c) else Q (.bl false) b)
theorem K7 (Y:dH X (compareOp op) r) (Z:dH X (compareOp C) r') (DY:dH X (compareOp J) Wz) (R:PE X a ta) (S:PE X b tb) (T:PE X c tc) (V:PE X d td)
 (W:lastMarks [op,C,J] [b,c,d]=false:=by with_unfolding_all rfl):PT X (.Compare a [op,C,J] [b,c,d] pos) (y9 (O_ r r' Wz ta tb tc td)):=by
 intro g x4 i H x7 I h;refine isTrue_chain (ar (R g x4 i H _ I h) λx5 s1 f=>L2.dy f λx6 z F r1 q1=>test_link (ar (S g s1 i z _ F q1) λu s2 f=>L2.dy f λy A G s q2=>
  ar (Y g s2 i A x6 y x5 u _ G r1 s q2) λx8 s3 f=>?_)) W
 obtain ⟨z',l,n,r3,x1,e,p⟩:=f;subst e;cases r3;refine oF ?_
 cases x1 with
 | false=>
  obtain ⟨k',j,k⟩:=p;cases j;exact ite_ff ⟨l,n,k⟩
 | true=>
  refine ite_tt (test_link (ar (T g s3 i l _ n p) λv s4 f=>L2.dy f λx B L t q4=>ar (Z g s4 i B y x u v _ L s t q4) λz2 s5 f=>?_));obtain ⟨z5,m,o,r5,k2,O,q⟩:=f;subst O;cases r5;refine oF ?_
  cases k2 with
  | false=>
   obtain ⟨k',j,k⟩:=q;cases j;exact ite_ff ⟨m,o,k⟩
  | true=>
   refine ite_tt (test_last (ar (V g s5 i m _ o q) λx3 s6 f=>L2.dy f λy6 D M r6 q6=>ar (DY g s6 i D x y6 v x3 _ M t r6 q6) λz3 s7 f=>?_));obtain ⟨z7,E,N,r7,k3,Q,q7⟩:=f;subst Q;cases r7;exact oF ⟨E,N,q7⟩
theorem HQ:∀{us:List Value},ba (ns.map V.int) us->IntsAre us ns:=by
 induction ns with
 | nil=>intro us h;cases h;exact .nil
 | cons n r a=>
  intro us h
  cases h with
  | cons q t=>
   obtain ⟨b,rfl⟩:=q;exact .cons n b (a t)
def SE (K:aW) (c:Bool):R2:=λx y H Q=>∃(p q:Addr) (b a:List Int),x=.ref p/\y=.ref q/\a5 K H p (b.map V.int)/\a5 K H q (a.map V.int)/\Q (.bl (if c then !decide (b=a) else decide (b=a))) H
theorem U' (d:X.A.units+64<cLine):dH X (compareOp .Eq) (SE X.K false):=by intro r s t H x y v u Q I j k h;obtain ⟨p,q,o,n,rfl,rfl,a,b,c⟩:=h;cases j;cases k;obtain ⟨l,g,e,_⟩:=I.list a;obtain ⟨m,i,f,_⟩:=I.list b;exact PySem.W.ke_eq_ints e.isList f.isList (HQ g) (HQ i) d ⟨.bl _,H,I,U,c⟩
theorem RH:lZ X (.builtin "isinstance") (λxs H Q=>∃x n t b,xs=[x,.ty n]/\kI X.K H x t/\PySem.W.kitOne X.K t (.type n)=some b/\Q (.bl b) H):=by intro f s j H xs i Q I r h;obtain ⟨x,n,t,b,rfl,d,e,q⟩:=h;obtain ⟨u,v,rfl,a,c⟩:=Bi r;cases c;exact QB I a d e λg=>⟨.bl b,H,I.tok _,U,q⟩
end
section
variable {K:aW}
theorem V3 (h:Y.K=K):vn Y (LO K):=by subst h;exact Hx
theorem K0 (h:Y.K=K):dH Y (compareOp .NotIn) (Dl K true):=by subst h;exact RV
end
section
end
section
end
open PySem PySem.Spec PyProof.Rows Builtin
section
variable {K:aW}
end
section
variable {K:aW}
end
structure rE (k:Nat) (A:Around):Prop where
 dp:A.depth+3*k+5<recursionLimit
 un:A.units+16*k+200<cLine
theorem cI.h (r:cI k A):rE k A:=⟨r.dp,r.un⟩
theorem rE.deeper (r:rE (k+1) A) (env:Env):rE k (A.deeper env):=⟨by have:=r.dp;show A.depth+1+3*k+5<_;exact Ca this,by have:=r.un;show A.units+3+16*k+200<_;exact J' this⟩
def L' (A:Around) (H:Hp):Prop:=A.handled=none\/∃(a C:Addr) (b:Option Addr) (t c:Value) (u:HO),A.handled=some (.ref a)/\H a=some (.dY (v8 C b t c) u)
structure vv (P:Program) (w:World) (K:aW) (mg:Str->Option Value) (base:Heap) (CX:jL) (k:Nat) (f:Addr) (fd:FuncData) (ps:List Str) (sp:Sp):Prop where
 len:∀vs H Q E,sp vs H Q E->vs.length=ps.length
 run:∀(A:Around) (outer:List Env) (s:Shared) (H:Hp) (args:Args) (us:List Value) (vs:List V) (Q:VK) (E:XK),rE k A->L' A H->oJ P w K mg base A outer s H->BindsTo s fd args (ps.zip us)->ba vs us->sp vs H Q E->
  codeAny (model P w) A (.call (.ref f) args) (CR CX outer P w H s Q E) s
theorem vv.fn {CX:jL} {k:Nat} {f:Addr} {a:FuncData} {c:List Str} {sp:Sp} (F:vv P w K mg base CX k f a c sp):au P w K mg base CX k f a c sp:=
 ⟨F.len,λA i s H args j l Q E b e d h g=>F.run A i s H args j l Q E b.h (.inl b.hd) e d h g⟩
def tU (CX:jL) (P:Program) (w:World) (K:aW) (mg:Str->Option Value) (base:Heap) (N:List Str) (b:Str) (scope:Scope) (f:Addr) (a:Value) (A:Around) (outer:List Env) (s:Shared) (H:Hp) (E:XK):Cx where
 prog:=P
 w:=w
 K:=K
 mg:=mg
 base:=base
 A:=A.deeper (envOfC b scope s.heap.objs.size f a)
 N:=N
 cP:=s
 gW:=H
 env:=envOfC b scope s.heap.objs.size f a
 outer:=outer
 stack:=envOfC b scope s.heap.objs.size f a::outer
 ex:=[]
 calm:=false
 fn:=λ_=>true
 pn:=[]
 xe:=λe g=>wpAny (model P w) (A.deeper (envOfC b scope s.heap.objs.size f a)) (leaving (envOfC b scope s.heap.objs.size f a) e) (λ_ c=>CX outer H s E e c) (λd c=>CX outer H s E d c) g
theorem Rw {CX:jL} {N l:List Str} {C:Str} {scope:Scope} {f:Addr} {t:Value} {A:Around} {F:List Env} {s s1:Shared} {H:Hp} {E:XK} {us:List Value} {vs:List V}
 (S:cf N l scope) (g:oJ P w K mg base A F s H) (I:vs.length=l.length) (r:ba vs us)
 (x:InCallC s s.heap.objs.size (bindL (envOfC C scope s.heap.objs.size f t).kindOf (l.zip us) λ_=>none) (cellsFrom (s.heap.objs.size+1) scope.names []) (bindC (envOfC C scope s.heap.objs.size f t).kindOf (l.zip us) λ_=>none) s1):
 Inv (tU CX P w K mg base N C scope f t A F s H E) [] (fj N vs) H s1:=by
 have O:l.length<=N.length:=by have:=congrArg List.length S.pre;rw [fU] at this;exact Ki this
 obtain ⟨B,T,rfl,G⟩:=x.done;have D:∀b:Addr,b∉(tU CX P w K mg base N C scope f t A F s H E).ex:=λb z=>absurd (show b∈([]:List Addr) from z) (by simp);refine ⟨⟨g.mod,S.kind,U,U,aj _,λy z c B d=>?_,λy j=>?_,λy c _ h=>?_,(λz=>absurd (show false=true from z) d_),Around.frames_deeper g.frames,.inr ⟨U,U⟩,λb z=>absurd z (D b),g.bs,g.o8,λb _ _=>D b,λb z=>absurd z (D b),g.fu,g.rg⟩,
  rfl,g.bare,Un.kept G,⟨_,x.toInCall.ns,λi y v B d R=>?_⟩,λy c h=>⟨_,x.cell y c h⟩,g.a7.fresh (aj _),λy c h=>?_,λp o=>absurd (show p∈([]:List (Addr×Obj)) from o) (by simp),g.a7.kept G,?_⟩
 ·exact name_of_addr x.apart (nG B) (nG d)
 ·have j:scope.names.lookup y=some .cell\/scope.names.lookup y=some .free:=j;rcases j with j | j
  ·exact zb j
  ·exact absurd U (S.mQ _ (nG j))
 ·exact aP (x.above y c (nG h))
 ·have m:i<vs.length:=by
   unfold fj at d
   by_cases m:i<vs.length
   ·exact m
   ·rw [lT (by simpa using m)] at d;rw [FY] at d;split at d<;>cases d
  have M:vs[i]?=some v:=by
   unfold fj at d;rw [nC (by simpa using m),dC] at d
   cases e:vs[i]? with
   | none=>rw [e] at d;cases d
   | some a=>rw [e] at d;cases d;rfl
  obtain ⟨u,J,Q⟩:=r.get M;have o:l[i]?=some y:=by rw [<-S.pre,AY (Kd m I)];exact B
  have L:l.Nodup:=by rw [<-S.pre];exact S.nd.sublist (List.take_sublist _ _)
  refine ⟨u,Q,?_⟩;rcases S.par y (fg o) with k | k
  ·exact .inl ⟨k,Co L o J k⟩
  ·obtain ⟨c,e⟩:=zb (n:=s.heap.objs.size+1) k;refine .inr ⟨.inl k,c,e,?_⟩;have q:=x.cell y c e;rw [Ck L o J (by show scope.names.lookup y≠_;rw [k];decide)] at q;exact q
 ·exact g.a7.fresh (aP (x.above y c (nG h)))
 ·unfold fj;show _=N.length;rw [ff,ax,uh];exact Ke I O
theorem Vj {CX:jL} {k:Nat} {f:Addr} {name d:Str} {O:Arguments} {m:List Stmt} {scope:Scope} {B L C R c z oc:Value} {r od:Option Addr}
 {wC:Array (Option Value)} {N j:List Str} {sp:Sp} (lk:K.lookup f=some ⟨oc,od,.func (PySem.W.fnOf name d O m scope B L C R r c z),wC⟩) (Y:PySem.W.codeIn K c d=true) (S:cf N j scope)
 (M:∀vs H Q E,sp vs H Q E->vs.length=j.length)
 (X:∀(A:Around) (h:List Env) (s:Shared) (H:Hp) (vs:List V) (Q:VK) (E:XK),rE k (A.deeper (envOfC d scope s.heap.objs.size f c))->L' A H->sp vs H Q E->
  ∃t,eZ (tU CX P w K mg base N d scope f c A h s H E) m t/\t { nx:=λ_ a=>Q .aH a,rt:=Q } (fj N vs) H):
 vv P w K mg base CX (k+1) f (PySem.W.fnOf name d O m scope B L C R r c z) j sp:=by
 refine ⟨M,λA h s H args us vs Q E F hh i W x2 G=>?_⟩;have hl:=M _ _ _ _ G;have p:K.In s.heap:=i.mod.uR.keeps λb o e=>(i.bs b o e).1;have lim:s.heap.NoLimit:=i.mod.nolimit.keeps λb o e=>(i.bs b o e).1;have nj:∀y∈j.zip us,scope.names.lookup y.1=some .local\/(scope.names.lookup y.1=some .cell/\((cellsFrom (s.heap.objs.size+1) scope.names []).lookup y.1).isSome=true):=λ⟨x1,v⟩ hy=>by
  rcases S.par x1 (AI hy).1 with q | q
  ·exact .inl q
  ·exact .inr ⟨q,FO _ _ _ (.inl q)⟩
 refine codeAny_call_function (show A.depth<recursionLimit from by have:=F.dp;exact Kf this) (p _ _ lk) U S.co S.gen U (PySem.W.codeRec_of p Y) (W _ _ _ _ ?_);refine Ox S.kind nj λenv Z s1 x=>?_;subst Z;refine ⟨lim.keeps x.toInCall.keep,codeAny_func ?_⟩;obtain ⟨t,ht,hq⟩:=X A h s H vs Q E (F.deeper _) hh G;have I:Inv (tU CX P w K mg base N d scope f c A h s H E) [] (fj N vs) H s1:=Rw S i hl x2 x;refine hV (ht [] s1 (fj N vs) H _ I hq) (λT s' g=>?_) λe s' g=>g;have D:∀{l:St} {a:Hp} {v:V} {u:Value},Inv (tU CX P w K mg base N d scope f c A h s H E) [] l a s'->bo v u->Q v a->CE h P w H s Q u s':=
  λ{l a v u} J n q=>⟨v,a,J.os,J.bare,J.base,J.a7,n,q⟩
 cases T with
 | ret u=>
  obtain ⟨v,l,a,J,n,q⟩:=g;exact D J n q
 | next=>
  obtain ⟨l,a,J,q⟩:=g;exact D (v:=V.aH) (u:=Value.none) J U q
 | brk=>
  obtain ⟨_,_,_,q⟩:=g;exact hQ q
 | cont=>
  obtain ⟨_,_,_,q⟩:=g;exact hQ q
section
variable {K:aW}
theorem gq.WH {x c:Str} {st:Stmt} {f:Addr} {e:FuncData} {N d:List Str} {k:Nat} {sp:Sp} (F:gq K x c st f e) (S:cf N d (aT st)) (o:∀vs H Q E,sp vs H Q E->vs.length=d.length)
 (i:∀(a:Value) (A:Around) (b:List Env) (s:Shared) (H:Hp) (vs:List V) (Q:VK) (E:XK),rE k (A.deeper (envOfC c (aT st) s.heap.objs.size f a))->Mg (tU aw P w K mg base N c (aT st) f a A b s H E).qT->sp vs H Q E->
  ∃t,eZ (tU aw P w K mg base N c (aT st) f a A b s H E).qT (kM st) t/\t { nx:=λ_ g=>Q .aH g,rt:=Q } (fj N vs) H):vv P w K mg base aw (k+1) f e d sp:=by
 obtain ⟨y,z,v,u,C,p,a,r,B,rfl,lk,j⟩:=F.ex;refine Vj lk j S o λA b s H vs Q E m l n=>?_;obtain ⟨t,h,q⟩:=i a A b s H vs Q E m l n;exact ⟨t,h.qT,q⟩
end
section
end
theorem VI {X:Cx} {c:List Expr} {k:Nat} {t:vk} {n:Nat} {D:Pos} (p:X.K=K) (y:jq X) (h:kG X c t) (x:(assignEach c X.env).length=n:=by rfl) (A:(assignEach c X.env).findIdx? (·.1)=none:=by rfl):PG X (.Tuple c k D) (LK K n t):=by subst p;intro f s i H v u Q I r d;obtain ⟨a,E,l,z,q,d⟩:=d;subst l;cases r;obtain ⟨G,g,B,F⟩:=I.tuple z;rw [assign_Tuple];refine ab (AU (Q_ (ux y I) B (by simp [x,<-q,g.length]) A λm C=>?_));have j:Inv X f i H { s with heap:=m }:=I.kept (t':=s.toks) λb o e=>C b o (eF (dz e)) e;exact h f _ i H E _ Q j (by simpa using g) d
theorem zf:∀{xs:List V} {j:Nat} {x:V},xs.all gY=true->xs[j]?=some x->gY x=true
 | [],_,_,_,e=>by simp at e
 | y::xs,j,x,h,e=>by
  rw [ve,kr] at h
  cases j with
  | zero=>simp at e;subst e;exact h.1
  | succ j=>exact zf h.2 (by simpa using e)
theorem VS (e:ba xs us) (f:ba ys vs) (i:xs.all gY=true) (k:ys.all gY=true) (j:Nat) (c:j<us.toArray.size) (d:j<vs.toArray.size):
 SeqAt.EqAt A s us.toArray[j] vs.toArray[j] (lR (xs.getD j .aH) (ys.getD j .aH)):=by
 have n:=e.length;have o:=f.length;rw [f7] at c d;have a:xs[j]?=some (xs.getD j .aH):=by rw [yg,gp (v_ c n)];rfl
 have b:ys[j]?=some (ys.getD j .aH):=by rw [yg,gp (v_ d o)];rfl
 obtain ⟨u,l,p⟩:=e.get a;obtain ⟨v,m,q⟩:=f.get b;have g:us.toArray[j]=u:=by have:=(eP.mp l).2;simpa using this
 have h:vs.toArray[j]=v:=by have:=(eP.mp m).2;simpa using this
 rw [g,h];exact Hb p q (zf i a) (zf k b)
section
variable {K:aW}
end
section
variable {K:aW}
end
section
end
def UH (t u:TS):TS:=λD c H=>∀N:St->Hp->Prop,(∀b a,u D b a->N b a)->t { D with nx:=N } c H
theorem bp {X:Cx} {st:Stmt} {a:List Stmt} {t u:TS} (b:PS X st t) (c:eZ X a u):eZ X (st::a) (UH t u):=λd s e H D I h=>bV b c d s e H D I (h (u D) λ_ _ z=>z)
def gu:R2:=λx y H Q=>∃p a i v,x=.ref p/\y=.int i/\H p=some (.lst a)/\gI a i=some v/\Q v H
def gv:R2:=λx y H Q=>∃p a i v,x=.ref p/\y=.int i/\H p=some (.tup a)/\gI a i=some v/\Q v H
theorem gd:vn X gu:=by intro l j d s o H x y v u Q I f g n c;obtain ⟨p,m,i,k,a,b,h,e,q⟩:=n;exact HS l j d s o H x y v u Q I f g ⟨p,m,i,k,a,b,a5.of h,e,q⟩ c
theorem oa:vn X gv:=by intro l j d s o H x y v u Q I f g n c;obtain ⟨p,m,i,k,a,b,h,e,q⟩:=n;exact Hx l j d s o H x y v u Q I f g ⟨p,m,i,k,a,b,bU.of h,e,q⟩ c
theorem aa (h:σ[j]?=some (some v)) (q:Q v H):dv j σ H Q:=⟨v,h,q⟩
theorem ct (q:Q k H):kT Q (.bl k) H:=⟨k,U,q⟩
theorem ek {f:Str} {a C b:Addr} {fs:List (Str×V)} {v:V} {H:Hp} {Q:VK} (h:H a=some (.ins C b fs)) (c:kH K C) (n:iH K C f) (l:fs.lookup f=some v) (q:Q v H):gU K f (.ref a) H Q:=⟨a,C,b,fs,v,U,h,c,n,l,q⟩
theorem o3 {f:Str} {y:V} {a C b:Addr} {fs:List (Str×V)} {H:Hp} {N:Hp->Prop} (h:H a=some (.ins C b fs)) (c:kH K C) (n:iH K C f) (l:fs.length<1000) (q:N (upd H a (.ins C b (a8 f y fs)))):gS K f y (.ref a) H N:=⟨a,C,b,fs,U,h,c,n,l,q⟩
theorem jg (h:H a=some (.ins C dx fs)) (l:fs.lookup m=none) (q:R):gT C m (.ref a) H R:=⟨a,dx,fs,U,h,l,q⟩
theorem ri (q:Q (g i j) H):eL g (.int i) (.int j) H Q:=⟨i,j,U,U,q⟩
theorem Au (h:H p=some (.lst xs)) (e:gI xs i=some v) (q:Q v H):gu (.ref p) (.int i) H Q:=⟨p,xs,i,v,U,U,h,e,q⟩
theorem pF (h:H p=some (.tup xs)) (e:gI xs i=some v) (q:Q v H):gv (.ref p) (.int i) H Q:=⟨p,xs,i,v,U,U,h,e,q⟩
theorem pG (h:H l=some (.lst xs)) (z:xs.length<sizeLine) (q:Q .aH (upd H l (.lst (xs++[y])))):gQ (.ref l) [y] H Q:=⟨l,xs,y,U,U,h,z,q⟩
theorem aF {X:Cx} {a:Expr} {b:TE} {k:Int} {j pos o} (h:PE X a b):PE X (.Subscript a (.Constant (.int k) j o) pos) (m5 gv b (tC (.int k))):=dE oa h az (λ_ _=>rfl)
theorem aE (h:H p=some (.tup xs)) (e:gI xs i=some v) (q:Q v H):tC (.int i) σ H λy a=>gv (.ref p) y a Q:=⟨p,xs,i,v,U,U,h,e,q⟩
theorem j5 (h:H p=some (.lst xs)) (e:gI xs i=some v) (q:Q v H):tC (.int i) σ H λy a=>gu (.ref p) y a Q:=⟨p,xs,i,v,U,U,h,e,q⟩
theorem uJ (b:σ[j]?=some (some (.int i))) (h:H p=some (.lst xs)) (e:gI xs i=some v) (q:Q v H):dv j σ H λy a=>gu (.ref p) y a Q:=⟨.int i,b,p,xs,i,v,U,U,h,e,q⟩
end L2
namespace MA
end MA
namespace MB
open MA
abbrev B3:=Nat×Nat×Int
end MB
namespace Y0
open PySem L2
def top (i:Nat):Stmt:=PySem.Challenge.pw_momentties_k12_whole_hands_by_play.main.body.getD i (.Pass ⟨0,0,0,0⟩)
abbrev bJ:Stmt:=top 5
abbrev bH:Stmt:=top 6
abbrev bL:Stmt:=top 7
abbrev bG:Stmt:=top 8
abbrev bt:Stmt:=top 11
abbrev dV:Stmt:=top 12
abbrev dm:Stmt:=top 13
abbrev dk:Stmt:=top 14
abbrev dj:Stmt:=top 15
abbrev dn:Stmt:=top 16
abbrev cJ:Stmt:=top 17
abbrev aX:Stmt:=top 18
abbrev aU:Stmt:=top 19
abbrev cv:Stmt:=kN (top 21) 0
abbrev bx:Stmt:=kN (top 21) 1
abbrev cu:Stmt:=kN (top 21) 2
abbrev bu:Stmt:=kN (top 21) 3
abbrev aN:Stmt:=kN (top 21) 4
abbrev aV:Stmt:=kN (top 21) 5
abbrev aL:Stmt:=kN (top 21) 6
abbrev aJ:Stmt:=kN (top 21) 7
abbrev bq:Stmt:=kN (top 21) 8
abbrev aD:Stmt:=kN (top 21) 9
abbrev bb:Stmt:=top 22
abbrev bg:Stmt:=top 23
abbrev di:Stmt:=top 24
abbrev eX:Stmt:=top 25
abbrev aA:Stmt:=top 31
abbrev bf:Stmt:=top 32
abbrev bc:Stmt:=top 33
abbrev a9:Stmt:=top 34
abbrev dP:Stmt:=kN (top 35) 0
abbrev dO:Stmt:=kN (top 35) 1
abbrev dq:Stmt:=kN (top 35) 2
abbrev hH:Stmt:=top 37
abbrev ip:Stmt:=top 38
abbrev iq:Stmt:=top 39
abbrev iK:Stmt:=top 40
abbrev m8:Stmt:=top 41
abbrev dX:Stmt:=top 42
abbrev cY:Stmt:=top 43
abbrev b0:Stmt:=top 44
abbrev cC:Stmt:=top 45
abbrev dW:Stmt:=top 46
abbrev pE:Stmt:=top 47
seal L2.kT L2.gQ L2.gU L2.eL L2.gu L2.gv L2.gT L2.gS L2.dv
structure Fn (K:aW) (mg:Str->Option Value) (x:Str) (st:Stmt) (ps:List Str) (f:Addr) (fd:FuncData):Prop where
 F:gq K x x st f fd
 b:fb K fd ps []
 g:mg x=some (.ref f)
theorem bQ {X:Cx} {k:Nat} {f:Addr} {b:FuncData} {d:List Str} {sp:Sp} {x:Str} {st:Stmt} {e:Expr} {a:List Expr} {t:TA} {p c:Pos} (G:au X.prog X.w X.K X.mg X.base aw k f b d sp) (m:cI k X.A) (F:Fn X.K X.mg x st d f b) (g:PA X (e::a) t) (j:Gl X x:=by rfl) (h:(x==("__debug__":Str))=false:=by decide) (i:starEach (e::a) X.env=(false,eval e X.env)::starEach a X.env:=by rfl) (l:(backTo c (starEach a X.env)).any (·.1)=false:=by rfl):PE X (.Call (.Name x p) (e::a) [] c) (Mr sp [] E0 t):=VD G m j F.g F.F.kp F.b .nil fy g h i l
end Y0
namespace L2
open PySem
def aZ (d:Addr) (H a:Hp):Prop:=∀b o,H b=some o->b≠d->a b=some o
theorem aZ.refl (d:Addr) (H:Hp):aZ d H H:=λ_ _ e _=>e
theorem aZ.trans (x:aZ d H H1) (y:aZ d H1 H2):aZ d H H2:=λb o e n=>y b o (x b o e n) n
theorem ay.keep (x:ay H H1):aZ d H H1:=λb o e _=>x b o e
theorem aK (h:H p=none):ay H (upd H p o):=λb u e=>by rw [aq (bj e h)];exact e
end L2
namespace Y0
open PySem L2
seal L2.kT L2.gQ L2.gU L2.eL L2.gu L2.gv L2.gT L2.gS L2.dv
def ma (K:aW) (H:Hp) (b:Addr) (ns:List Int):Prop:=(∃o,H b=some (.dY o (.lst (ns.map V.int))))\/
 ∃(o:Obj) (a:Array Value) (n:Nat),K.lookup b=some o/\o.cls=.type "list"/\o.dict=none/\o.data=.seq a n/\a.size<=sizeLine/\ba (ns.map V.int) a.toList
theorem ma.sq (h:ma K H sa ns):a5 K H sa (ns.map V.int):=by
 rcases h with ⟨o,h⟩ | h
 ·exact .inl (.inr ⟨o,h⟩)
 ·exact .inr h
theorem ma.same (h:ma K H sa ns) (k:ay H H1):ma K H1 sa ns:=by
 rcases h with ⟨o,h⟩ | h
 ·exact .inl ⟨o,k _ _ h⟩
 ·exact .inr h
theorem ma.keep (h:ma K H sa ns) (k:aZ l H H1) (a:H l=some (.lst xs)):ma K H1 sa ns:=by
 rcases h with ⟨o,h⟩ | h
 ·exact .inl ⟨o,k _ _ h (cp h a nofun)⟩
 ·exact .inr h
structure dI (K:aW) (sa:Addr) (H:Hp) (d:Addr):Prop where
 at_:∃p:Nat,H d=some (.lst [.ref sa,.int p])
 Ä:∃ns:List Int,ma K H sa ns
theorem dI.same (x:dI K sa H d) (k:ay H H1):dI K sa H1 d:=by obtain ⟨⟨p,h⟩,⟨a,r⟩⟩:=x;exact ⟨⟨p,k _ _ h⟩,⟨a,r.same k⟩⟩
def aI (K:aW):Sp:=λc H Q _=>∃d b m,c=[.ref d,.int m]/\dI K b H d/\1<=m/\∀r a,0<=r->r<m->dI K b a d->aZ d H a->Q (.int r) a
theorem gG (D:dI K sa H d) (h:1<=m) (q:∀r a,0<=r->r<m->dI K sa a d->aZ d H a->Q (.int r) a):aI K [.ref d,.int m] H Q E:=Exists.intro d (Exists.intro sa (Exists.intro m ⟨U,D,h,q⟩))
section
theorem Wq:cf Ā Ā (aT hH):=cH
theorem pS (F:Fn K mg "_law_next" hH Ā f fd) (z:mg "len"=none):au P w K mg base aw 1 f fd Ā (aI K):=by
 refine F.F.cK Wq λ_ A _ s H _ Q E B h=>?_;obtain ⟨d,c,m,rfl,D,g,k⟩:=h;obtain ⟨⟨p,j⟩,⟨i,y⟩⟩:=id D;refine ⟨_,bV (Vd (bC gx (dE gd (pv 0) az) az) (Vc (pv 0) az Qb))
  (bV (cS (cR CT (dE gd (pv 0) az) (j4 wo (by rfl) z PySem.boot_len (bY (dE gd (pv 0) az)))) (a0 (cm az)) de)
  (a0 (cm (bC Bz (dE HS (dE gd (pv 0) az) (bC gP (dE gd (pv 0) az) az)) (pv 1))))),?_⟩
 refine (aa U (j5 j U (ri (aa U ⟨_,_,_,_,U,U,j,U,?_⟩))));have a:upd H d (.lst ([V.ref c,V.int p].set 1 (.int ((p:Int)+1)))) d=some (.lst [.ref c,.int ((p:Int)+1)]):=ak;have l:aZ d H (upd H d (.lst ([V.ref c,V.int p].set 1 (.int ((p:Int)+1))))):=λb o e n=>by rw [aq n];exact e
 have u:=y.keep l j;have t:=u.sq;have q:dI K c (upd H d (.lst ([V.ref c,V.int p].set 1 (.int ((p:Int)+1))))) d:=⟨⟨p+1,a⟩,⟨i,u⟩⟩;refine (aa U (j5 a U (aa U (j5 a U ⟨_,_,U,.inl t,ri (ct ?_)⟩))));refine gX (λ_=>?_) (λr=>?_)
 ·exact k 0 _ (fO _) (by exact g) q l
 ·have x:p<i.length:=by
   rw [ax] at r;simp only [ug] at r;omega
  have v:gI (i.map V.int) ((p:Int)+1-1)=some (.int i[p]):=by rw [show (p:Int)+1-1=((p:Nat):Int) by lia];exact iB (by rw [dC,gp x];rfl)
  refine (aa U (j5 a U (aa U (j5 a U (ri ⟨_,_,_,_,U,U,t,v,aa U ⟨_,_,U,U,(by show (0:Int)<m;exact g),?_⟩⟩)))));exact k _ _ (F7 _ (by exact Int.ne_of_gt g)) (Int.emod_lt_of_pos _ (by exact g)) q l
end
end Y0
namespace L2
open PySem
def S' (t:TS):TS:=λD c H=>∃R:St->Hp->Prop,t { D with nx:=R } c H/\∀b a,R b a->D.nx b a
theorem o_ (h:PS X st t):PS X st (S' t):=by
 intro i s j H D I g;obtain ⟨R,d,e⟩:=g;refine ar (h i s j H _ I d) λf k q=>?_
 cases f with
 | next=>obtain ⟨b,a,c,r⟩:=q;exact ⟨b,a,c,e b a r⟩
 | brk=>exact q
 | cont=>exact q
 | ret v=>exact q
def dD (H:Hp) (a:Addr) (b:List Addr) (rows:List (List Int)):Prop:=H a=some (.lst (b.map V.ref))/\Paired (λp r=>H p=some (.tup (r.map V.int))) b rows
def dU (H:Hp) (a:Addr) (rows:List (List Int)):Prop:=∃b,dD H a b rows
theorem gf (h:Paired F l m) (i:∀a b,F a b->G a b):Paired G l m:=Paired.g9 h i
theorem dD.same (h:dD H a ps rows) (k:ay H H'):dD H' a ps rows:=⟨k _ _ h.1,gf h.2 λ_ _ e=>k _ _ e⟩
theorem dD.keep (h:dD H a ps rows) (k:aZ d H H') (b:H d=some (.lst xs)) (c:a≠d):dD H' a ps rows:=
 ⟨k _ _ h.1 c,gf h.2 λ_ _ e=>k _ _ e (cp e b nofun)⟩
theorem dU.same (h:dU H a rows) (k:ay H H'):dU H' a rows:=let ⟨b,r⟩:=h;⟨b,r.same k⟩
theorem dU.keep (h:dU H a rows) (k:aZ d H H') (b:H d=some (.lst xs)) (c:a≠d):dU H' a rows:=let ⟨e,r⟩:=h;⟨e,r.keep k b c⟩
theorem dD.len (h:dD H a ps rows):ps.length=rows.length:=h.2.length
theorem dD.push (h:dD H a ps rows) (b:H p=some (.tup (r.map V.int))):dD (upd H a (.lst (ps.map V.ref++[.ref p]))) a (ps++[p]) (rows++[r]):=by
 have c:∀q d,H q=some (.tup d)->q≠a:=λq d e=>cp e h.1 nofun;refine ⟨by rw [ak,eH];rfl,AB (gf h.2 λq r e=>?_) ?_⟩
 ·rw [aq (c q _ e)];exact e
 ·rw [aq (c p _ b)];exact b
theorem kP (k:aZ d H0 H) (h:H0 l=none):aZ d H0 (upd H l o):=λb u e n=>by rw [aq (bj e h)];exact k b u e n
theorem aZ.free (k:aZ d H0 H) (h:H l=none) (b:∃o,H d=some o):H0 l=none:=by
 cases q:H0 l with
 | none=>rfl
 | some o=>
  by_cases e:l=d
  ·subst e;obtain ⟨c,a⟩:=b;rw [h] at a;cases a
  ·rw [k l o q e] at h;cases h
end L2
namespace Y0
open PySem L2
seal L2.kT L2.gQ L2.gU L2.eL L2.gu L2.gv L2.gT L2.gS L2.dv Y0.aI
theorem dI.there (x:dI K sa H d):∃o,H d=some o:=let ⟨p,e⟩:=x.at_;⟨_,e⟩
theorem dI.upd (x:dI K sa H d) (c:H l=some (.lst xs)) (a:l≠d):dI K sa (upd H l o) d:=by obtain ⟨⟨p,h⟩,⟨f,r⟩⟩:=x;exact ⟨⟨p,by rw [aq (aQ a)];exact h⟩,⟨f,r.keep (λb u e n=>by rw [aq n];exact e) c⟩⟩
theorem dI.new (x:dI K sa H d) (a:H l=none):dI K sa (L2.upd H l o) d:=x.same (aK a)
def eR (m n t:Int):Int:=if m=0 then 0 else 1+(m-1+t) % (n-1)
def ID:Sp:=λa H Q _=>∃m n t,a=[.int m,.int n,.int t]/\2<=n/\Q (.int (eR m n t)) H
section
theorem Tq:cf ā ā (aT ip):=cH
theorem mE (F:Fn K mg "_law_named" ip ā f fd):au P w K mg base aw 1 f fd ā ID:=by
 refine F.F.cK Tq λ_ A _ s H _ Q E c h=>?_;obtain ⟨m,n,t,rfl,b,k⟩:=h;refine ⟨_,bV (cS (cR fc (pv 0) az) (a0 (cm az)) de)
  (a0 (cm (bC gx az (bC Bz (bC gx (bC gP (pv 0) az) (pv 2)) (bC gP (pv 1) az))))),?_⟩
 refine (aa U ⟨U,ct ?_⟩);refine gX (λa=>?_) (λa=>?_)
 ·have e:m=0:=by simpa using a
  have q:eR m n t=0:=by unfold eR;rw [if_pos e]
  rw [q] at k;exact k
 ·have e:¬m=0:=by simpa using a
  have q:eR m n t=1+(m-1+t) % (n-1):=by unfold eR;rw [if_neg e]
  rw [q] at k;exact (aa U (ri (aa U (ri (aa U (ri ⟨_,_,U,U,(by show (0:Int)<n-1;exact zM b),ri k⟩))))))
end
def r_ (n:Int) (c:Nat) (rows:List (List Int)):Prop:=∀(k:Nat) r,rows[k]?=some r->∃a l m:Int,r=[a,n-1-k,l,m]/\0<=a/\a<n-c/\1<=l/\l<=m/\m<=60
theorem r_.snoc (h:r_ n c rows) (d:0<=a) (f:a<n-c) (g:1<=l) (i:l<=m) (j:m<=60):r_ n c (rows++[[a,n-1-rows.length,l,m]]):=by
 intro k r e
 by_cases b:k<rows.length
 ·rw [nC b] at e;exact h k r e
 ·rw [lT (by exact jm b)] at e;have o:k-rows.length=0:=by
   cases q:k-rows.length with
   | zero=>rfl
   | succ z=>rw [q] at e;simp at e
  rw [o] at e;cases e;have:k=rows.length:=by lia
  subst this;exact ⟨a,l,m,U,d,f,g,i,j⟩
def yo (wd:Int) (rows:List (List Int)):Prop:=wd≠8->rows.length<=3/\∀r∈rows,r.getD 3 0-r.getD 2 0<wd
def Ip (K:aW):Sp:=λg H Q _=>∃d f n e,g=[.ref d,.int n,.int e]/\dI K f H d/\2<=n/\n<=8/\1<=e/\e<=8/\
 ∀(l:Addr) (c:Nat) b a,(c:Int)<=n-1->b.length=c->r_ n c b->dU a l b->H l=none->dI K f a d->aZ d H a->yo e b->Q (.ref l) a
section
abbrev nF:List Str:=["_law_d","_law_many","_law_wide","_law_count","_law_falls_here","_law_k","_law_least","_law_most"]
theorem pD:cf nF Ą (aT iq):=cH
theorem mI (F:Fn K mg "_law_falls" iq Ą f fd) (j:Fn K mg "_law_next" hH Ā fN o6)
 (k:au P w K mg base aw 1 fN o6 Ā (aI K)) (min:mg "min"=none) (range:mg "range"=none):au P w K mg base aw 2 f fd Ą (Ip K):=by
 refine F.F.cK pD λ_ x7 _ kR H _ x9 x8 g x6=>?_;obtain ⟨d,Y,n,h,rfl,x5,wV,XZ,uT,DJ,x2⟩:=x6;refine ⟨_,bV (bR 3 pD.nd (bQ k g j (a_ (pv 0) (bC gx (j4 (we U) (by rfl) min (by decide+kernel) (a_ az (bC gP (pv 1) az))) az))))
  (bV (o_ (cS (PW.pt (lK (cR fc (pv 2) az) (nZ (cR fc (bQ k g j (a_ (pv 0) az)) az))))
   (a0 (bR 3 pD.nd (bQ k g j (a_ (pv 0) (pv 1))))) de))
  (bV (bR 4 pD.nd (iA lJ))
  (bV (g_ gB U (sE U range (bY (pv 3))) (bO 5 pD.nd)
   (bV (bR 6 pD.nd (bC gx az (bQ k g j (a_ (pv 0) (pv 2)))))
   (bV (bR 7 pD.nd (bC gx (pv 6) (bQ k g j (a_ (pv 0) (pv 2)))))
   (bV (o_ (cS (PW.pt (lK (cR fc (pv 2) az) (nZ (cR fc (bQ k g j (a_ (pv 0) az)) az))))
    (bV (bR 6 pD.nd (bC gx az (bQ k g j (a_ (pv 0) az))))
    (a0 (bR 7 pD.nd (bC gx (pv 6) (bQ k g j (a_ (pv 0) (bC gP az (pv 6)))))))) de))
   (a0 (fH (oW qm oG ql ov (pv 4)
    (bY (cE (jh (bQ k g j (a_ (pv 0) (bC gP (pv 1) (pv 3)))) (bC gP (bC gP (pv 1) az) (pv 5)) (pv 6) (pv 7)))))))))))
  (a0 (cm (pv 4)))))),?_⟩
 refine (aa U (aa U (ri ⟨_,_,U,ri (gG x5 (by split<;>lia) (λJ H1 xj L D1 W=>?_))⟩)));have A5:J<=n-1:=by
  revert L
  split<;>intro L<;>lia
 have æ:J<=3:=by
  revert L
  split<;>intro L<;>lia
 refine ⟨λq m=>∃c:Nat,(c:Int)<=n-1/\(h≠8->c<=3)/\q=[some (.ref d),some (.int n),some (.int h),some (.int (c:Int)),none,none,none,none]/\dI K Y m d/\aZ d H m,?_,?_⟩
 ·
  refine (aa U ⟨U,ct ?_⟩);refine gX (λp=>?_) (λ_=>?_)
  ·have p:h=8:=by simpa using p
   refine (aa U (gG D1 (by decide) (λr H2 _ _ t B=>⟨U,ct ?_⟩)));refine gX (λ_=>?_) (λ_=>?_)
   ·refine (aa U (aa U (gG t (by exact eA wV) (λc y h0 h1 u v=>⟨c.toNat,by lia,λz=>absurd p z,?_,u,(W.trans B).trans v⟩))));rw [lA h0];rfl
   ·exact ⟨J.toNat,by lia,λz=>absurd p z,by rw [lA xj];rfl,t,W.trans B⟩
  ·refine du ?_;exact ⟨J.toNat,by lia,λ_=>by lia,by rw [lA xj];rfl,D1,W⟩
 ·rintro q H2 ⟨c,hc,Yq,rfl,t,B⟩;refine ⟨cN _,λl S=>?_⟩;have T:H l=none:=B.free S t.there;have ld:l≠d:=λe=>by
   subst e;obtain ⟨o,x4⟩:=t.there;rw [S] at x4;cases x4
  refine (aa U ⟨_,U,by exact jJ (c+Nat.succ 4611686018427387903),by lia,wg (n:=c) (λi q m=>∃Z v2 v3 x rows,q=[some (.ref d),some (.int n),some (.int h),some (.int (c:Int)),some (.ref l),Z,v2,v3]/\dD m l x rows/\rows.length=i/\r_ n c rows/\dI K Y m d/\aZ d H m/\(h≠8->∀r∈rows,r.getD 3 0-r.getD 2 0<h))
   ⟨none,none,none,[],[],U,⟨ak,.nil⟩,U,(λx2 r e=>by simp at e),t.new S,kP B T,λ_ r g=>nomatch g⟩ ?_ ?_⟩)
  ·rintro i q y hi ⟨Z,v2,v3,x,rows,rfl,O,A,R,u,v,Q⟩;have kl:∀{N:Hp},aZ d y N->dD N l x rows:=λC=>by
    obtain ⟨x3,e⟩:=u.at_;exact O.keep C e ld
   refine (aa U (aa U (gG u uT (λM N xt Fe D4 C=>(ri ?_)))));refine (aa U (aa U (aa U (gG D4 uT (λr2 H5 vb NJ D5 X=>(ri ?_))))));refine ⟨λq m=>∃a b:Int,1<=a/\a<=b/\b<=60/\(h≠8->b-a<h)/\q=[some (.ref d),some (.int n),some (.int h),some (.int (c:Int)),some (.ref l),some (.int (0+(i:Int))),some (.int a),some (.int b)]/\dI K Y m d/\aZ d y m,?_,?_⟩
   ·refine (aa U ⟨U,ct ?_⟩);refine gX (λp=>?_) (λ_=>?_)
    ·have p:h=8:=by simpa using p
     refine (aa U (gG D5 (by decide) (λr H6 _ _ E s=>⟨U,ct ?_⟩)));refine gX (λ_=>?_) (λ_=>?_)
     ·refine (aa U (gG E (by decide) (λr3 H7 NH ê G D=>(ri ?_))));refine (aa U (aa U (aa U (ri (gG G (by lia) (λr4 H8 YD é D8 k8=>(ri ?_)))))));exact ⟨1+r3,1+r3+r4,jz NH,jz YD,by lia,λz=>absurd p z,U,D8,(((C.trans X).trans s).trans D).trans k8⟩
     ·exact ⟨1+M,1+M+r2,jz xt,jz vb,by lia,λz=>absurd p z,U,E,(C.trans X).trans s⟩
    ·refine du ?_;exact ⟨1+M,1+M+r2,jz xt,jz vb,by lia,λ_=>by lia,U,D5,C.trans X⟩
   ·rintro q H6 ⟨a,b,ha,Yw,hb,Yt,rfl,E,s⟩;have R6:=kl s;refine (aa U ⟨.inl ⟨U,_,a5.of R6.1⟩,?_⟩);refine (aa U (aa U (aa U (ri (gG E (by lia) (λr5 H7 YC YB G D=>?_))))));have R7:=kl (s.trans D);refine (aa U (ri (aa U (ri (aa U (aa U ⟨cX U,λx3 V=>?_⟩))))));have I:=R7.same (aK (o:=.tup [.int r5,.int (n-1-(0+(i:Int))),.int a,.int b]) V);refine (pG I.1 ?_ ?_)
    ·rw [ax,I.len];exact fz (by lia)
    ·have e0:(0:Int)+(i:Int)=(rows.length:Int):=by rw [A];lia
     refine ⟨_,_,_,x++[x3],rows++[[r5,n-1-(0+(i:Int)),a,b]],U,I.push ak,by rw [ff,A];rfl,?_,?_,?_,λz r g=>?_⟩
     ·rw [e0];exact R.snoc YC YB ha Yw hb
     ·exact (G.new V).upd I.1 ld
     ·exact kP (kP ((v.trans s).trans D) (((v.trans s).trans D).free V G.there)) T
     ·rcases fe.mp g with x1 | x1
      ·exact Q z r x1
      ·rw [dF.mp x1];exact Yt z
  ·rintro q y ⟨Z,v2,v3,x,rows,rfl,O,A,R,u,v,Q⟩;exact (aa U (x2 l c rows y hc A R ⟨x,O⟩ T u v λz=>⟨by rw [A];exact Yq z,Q z⟩))
end
theorem BM {x n:Int} (c:0<=x) (d:x<2*n) (f:0<n):x % n=if x<n then x else x-n:=by
 by_cases h:x<n
 ·rw [if_pos h,Int.emod_eq_of_lt c h]
 ·rw [if_neg h];have e:x % n=(x-n) % n:=by
   first
    | exact (Int.sub_emod_right x n).symm
    | (have:=Int.o9 (a:=x-n) (b:=n);rw [Int.sub_add_cancel] at this;exact this)
  rw [e,Int.emod_eq_of_lt (by lia) (by lia)]
theorem HF {xs:List Int} {i:Int} (b:0<=i) (c:i<xs.length):∃v,v∈xs/\gI (xs.map V.int) i=some (.int v):=by
 obtain ⟨j,rfl⟩:∃j:Nat,i=j:=⟨i.toNat,by lia⟩;have a:j<xs.length:=by lia
 exact ⟨xs[j],rr a,iB (by rw [dC,gp a];rfl)⟩
def qv (n:Int) (r:List Int):Prop:=∃a b l m:Int,r=[a,b,l,m]/\0<=a/\a<n/\0<=b/\b<n/\a≠b/\-60<=l/\l<=m/\m<=60
def Ho (K:aW):Sp:=λg H Q _=>∃d f n b e,g=[.ref d,.int n,.int b,.int e]/\dI K f H d/\2<=n/\n<=8/\1<=b/\b<=60/\1<=e/\e<=8/\
 ∀(l:Addr) c a,c.length<=12->(∀r∈c,qv n r)->dU a l c->H l=none->dI K f a d->aZ d H a->Q (.ref l) a
section
abbrev nT:List Str:=["_law_d","_law_many","_law_last","_law_wide","_law_ties_here","_law_k","_law_times","_law_count","_law_one","_law_other","_law_near","_law_least"]
theorem m7:cf nT xv (aT iK):=cH
theorem YY:gF (aT iK) nT (jF [(".0",.local),("_law_k",.local),("_law_next",.globalImplicit),("_law_d",.free),("_law_last",.free)]) ğ [none,some 0,some 2]:=jH
theorem WL:(ğ:List Str).Nodup:=by decide+kernel
theorem pL (F:Fn K mg "_law_ties" iK xv f fd) (u:Fn K mg "_law_next" hH Ā fN o6)
 (v:au P w K mg base aw 1 fN o6 Ā (aI K)) (min:mg "min"=none) (max:mg "max"=none) (range:mg "range"=none):au P w K mg base aw 2 f fd xv (Ho K):=by
 refine F.F.cK m7 λ_ x6 _ x9 H _ x8 x7 g x4=>?_;obtain ⟨d,sa,n,la,wd,rfl,x1,wV,XZ,EI,wX,uT,_,x5⟩:=x4;refine ⟨_,bp (bR 4 m7.nd (iA lJ))
  (bp (bR 6 m7.nd (bC qA (iA (bY az)) (mh U (sE U range (bY (bC gP (pv 1) az))) YY
   (λcl ex s0 H0=>⟨bO 0 WL,oi,bQ v g u (a_ (pv 1) (bC gx (pv 2) az))⟩))))
  (bp (bR 7 m7.nd (bQ v g u (a_ (pv 0) az)))
  (bp (o_ (cS (PW.pt (lK (cR fc (pv 3) az) (nZ (cR fc (bQ v g u (a_ (pv 0) az)) az))))
   (a0 (bR 7 m7.nd (bQ v g u (a_ (pv 0) az)))) de))
  (bp (g_ gB U (sE U range (bY (pv 7))) (bO 5 m7.nd)
   (bp (bR 8 m7.nd (bQ v g u (a_ (pv 0) (pv 1))))
   (bp (bR 9 m7.nd (bC Bz (bC gx (bC gx (pv 8) az) (bQ v g u (a_ (pv 0) (bC gP (pv 1) az)))) (pv 1)))
   (bp (bR 10 m7.nd (bC gP (dE gd (pv 6) (pv 9)) (dE gd (pv 6) (pv 8))))
   (bp (o_ (cS (cR fc (bQ v g u (a_ (pv 0) az)) az)
    (a0 (bR 10 m7.nd (bC gP (bQ v g u (a_ (pv 0) (bC gx (bC U_ az (pv 2)) az))) (pv 2)))) de))
   (bp (bR 11 m7.nd (j4 (Ko U) (by rfl) max (by decide+kernel) (a_ (uu u1 az) (bC gP (pv 10) (bQ v g u (a_ (pv 0) (bC gx (pv 3) az)))))))
   (a0 (fH (oW qm oG ql ov (pv 4)
    (bY (cE (jh (pv 8) (pv 9) (pv 11) (j4 (we U) (by rfl) min (by decide+kernel) (a_ az (j4 (Ko U) (by rfl) max (by decide+kernel)
     (a_ (pv 11) (bC gx (pv 10) (bQ v g u (a_ (pv 0) (bC gx (pv 3) az))))))))))))))))))))
  (a0 (cm (pv 4))))))),?_⟩
 refine λQ y=>⟨cN _,λl hl=>y _ _ ?_⟩;clear y Q;have R:l≠d:=λe=>by subst e;obtain ⟨o,q⟩:=x1.there;rw [hl] at q;cases q
 refine λQ y=>⟨cX U,λz hz=>?_⟩;refine (aa U (ri ⟨_,U,by lia,by lia,λW Z=>?_⟩));have zl:z≠l:=aQ (bj (ak (H:=H) (a:=l) (o:=.lst [])) hz);have MY:H z=none:=by rw [aq zl] at hz;exact hz
 have GO:W≠l:=aQ (bj (show upd (upd H l (.lst [])) z (.lst [.int 0]) l=some (.lst []) by rw [aq (aQ zl),ak]) Z);have GL:W≠z:=aQ (bj (ak (H:=upd H l (.lst [])) (a:=z) (o:=.lst [.int 0])) Z);have qd:H W=none:=by rw [aq GL,aq GO] at Z;exact Z
 have B:∀{a:Addr},H a=none->a≠d:=λ{a} e q=>by subst q;obtain ⟨o,q⟩:=x1.there;rw [e] at q;cases q
 refine zO (n:=(n-1).toNat) (λi j b=>∃x2,∃G:List Int,j=[x2,some (.ref d),some (.int la)]/\G.length=i/\(∀t∈G,0<=t/\t<=la)/\b W=some (.lst (G.map V.int))/\b l=some (.lst [])/\b z=some (.lst [.int 0])/\dI K sa b d/\aZ d H b) ?_ ?_ ?_
 ·exact ⟨none,[],U,U,(λt ht=>nomatch ht),ak,by rw [aq (aQ GO),aq (aQ zl),ak],by rw [aq (aQ GL),ak],((x1.new hl).new hz).new Z,kP (kP (kP (aZ.refl d H) hl) MY) qd⟩
 ·rintro i j X hi ⟨x2,G,rfl,hlen,DN,e1,e2,e3,D3,k3⟩;refine (aa U (aa U (ri (gG D3 (by lia) (λr H4 h0 h1 D4 D=>?_)))));have f1:=D _ _ e1 (B qd);refine ⟨_,f1,?_,_,G++[r],U,by rw [ff,hlen];rfl,λt ht=>?_,?_,?_,?_,D4.upd f1 (B qd),kP (k3.trans D) qd⟩
  ·rw [ax];exact fz (by omega)
  ·rcases fe.mp ht with q | q
   ·exact DN t q
   ·rw [dF.mp q];lia
  ·rw [ak,eH];rfl
  ·rw [aq (aQ GO)];exact D _ _ e2 R
  ·rw [aq (aQ GL)];exact D _ _ e3 (B MY)
 ·rintro j X ⟨x2,G,rfl,hlen,DN,e1,e2,e3,D3,k3⟩;refine ⟨z,W,_,_,U,U,e3,e1,?_,λk wM=>y _ _ ?_⟩
  ·rw [ax];exact aP (fz (by simp;omega))
  clear y Q;have J:H k=none:=k3.free wM D3.there;have M0:k≠l:=aQ (bj e2 wM);obtain ⟨h,XB,wW,uZ⟩:∃h:List Int,[V.int 0]++G.map V.int=h.map V.int/\(h.length:Int)=n/\∀t∈h,0<=t/\t<=la:=by
   refine ⟨0::G,U,by rw [jl,hlen];omega,λt ht=>?_⟩;rcases eG.mp ht with q | q
   ·rw [q];lia
   ·exact DN t q
  rw [XB];have g1:upd X k (.lst (h.map V.int)) k=some (.lst (h.map V.int)):=ak;have g2:upd X k (.lst (h.map V.int)) l=some (.lst []):=by rw [aq (aQ M0)];exact e2
  have D4:dI K sa (upd X k (.lst (h.map V.int))) d:=D3.new wM;have D:aZ d H (upd X k (.lst (h.map V.int))):=kP k3 J;refine λQ y=>(aa U (gG D4 (by decide) (λc0 H5 xj ç D5 k5=>y _ _ ?_)));clear y Q;have l5:=k5 _ _ g2 R;have t5:=k5 _ _ g1 (B J);refine λQ y=>⟨λj b=>∃c:Nat,c<=12/\j=[some (.ref d),some (.int n),some (.int la),some (.int wd),some (.ref l),none,some (.ref k),some (.int (c:Int)),none,none,none,none]/\dI K sa b d/\aZ d H b/\b l=some (.lst [])/\b k=some (.lst (h.map V.int)),?_,?_⟩
  ·refine (aa U ⟨U,ct ?_⟩);refine gX (λ_=>?_) (λ_=>?_)
   ·refine (aa U (gG D5 (by decide) (λr H6 _ _ D6 E=>⟨U,ct ?_⟩)));refine gX (λ_=>?_) (λ_=>?_)
    ·refine (aa U (gG D6 (by decide) (λc Y h0 h1 O M=>⟨c.toNat,by lia,?_,O,((D.trans k5).trans E).trans M,(E.trans M) _ _ l5 R,(E.trans M) _ _ t5 (B J)⟩)));rw [lA h0];rfl
    ·exact ⟨c0.toNat,by lia,by rw [lA xj];rfl,D6,(D.trans k5).trans E,E _ _ l5 R,E _ _ t5 (B J)⟩
   ·refine du ?_;exact ⟨c0.toNat,by lia,by rw [lA xj];rfl,D5,D.trans k5,l5,t5⟩
  ·rintro j H6 ⟨c,hc,rfl,D6,E,l6,t6⟩;refine y _ _ λM1 m1=>(aa U ⟨_,U,by exact jJ (c+Nat.succ 4611686018427387903),by lia,wg (n:=c) (λi j b=>∃v1 v2 v3 v4 v5 T rows,j=[some (.ref d),some (.int n),some (.int la),some (.int wd),some (.ref l),v1,some (.ref k),some (.int (c:Int)),v2,v3,v4,v5]/\dD b l T rows/\rows.length=i/\(∀r∈rows,qv n r)/\
    b k=some (.lst (h.map V.int))/\dI K sa b d/\aZ d H b) ⟨none,none,none,none,none,[],[],U,⟨l6,.nil⟩,U,(λr g=>nomatch g),t6,D6,E⟩ ?_ ?_⟩)
   ·rintro i j Y hi ⟨v1,v2,v3,v4,v5,T,rows,rfl,R7,ni,a7,t7,O,M⟩;have kl:∀{H8:Hp},aZ d Y H8->dD H8 l T rows:=λk8=>by
     obtain ⟨x3,e⟩:=O.at_;exact R7.keep k8 e R
    refine λI p=>(aa U (aa U (gG O (by exact eA wV) (λs H8 xt Fe D8 k8=>p _ _ ?_))));clear p I;refine λI p=>(aa U (ri (aa U (aa U (ri (gG D8 (by lia) (λN H9 vb NJ D9 k9=>(ri (aa U ⟨_,_,U,U,(by show (0:Int)<n;exact eA wV),p _ _ ?_⟩)))))))));clear p I;have hw:=BM (x:=s+1+N) (n:=n) (by lia) (by lia) (by exact eA wV);have ho:0<=(s+1+N) % n/\(s+1+N) % n<n/\s≠(s+1+N) % n:=by rw [hw];split<;>lia
    obtain ⟨Nr,XT,XS⟩:=ho;have t9:=(k8.trans k9) _ _ t7 (B J);obtain ⟨w1,DK,Yy⟩:=HF (xs:=h) Nr (by lia);obtain ⟨w2,DI,Yx⟩:=HF (xs:=h) xt (by lia);have b1:=uZ w1 DK;have b2:=uZ w2 DI;refine λI p=>(aa U (uJ U t9 Yy (aa U (uJ U t9 Yx (ri (p _ _ ?_))))));clear p I;refine λI p=>⟨λj b=>∃A:Int,-60<=A/\A<=60/\j=[some (.ref d),some (.int n),some (.int la),some (.int wd),some (.ref l),some (.int (0+(i:Int))),some (.ref k),some (.int (c:Int)),some (.int s),some (.int ((s+1+N) % n)),some (.int A),v5]/\dI K sa b d/\aZ d Y b,?_,?_⟩
    ·refine (aa U (gG D9 (by decide) (λr vp _ _ Be C=>⟨U,ct ?_⟩)));refine gX (λ_=>?_) (λ_=>?_)
     ·refine (aa U (aa U ⟨_,_,U,U,.inl ⟨by decide,by decide⟩,ri (gG Be (by lia) (λr' GH g0 tS GQ L=>(aa U (ri ⟨r'-la,by lia,by lia,U,GQ,((k8.trans k9).trans C).trans L⟩))))⟩))
     ·exact ⟨w1-w2,by lia,by lia,U,Be,(k8.trans k9).trans C⟩
    ·rintro j vp ⟨A,_,XW,rfl,Be,C⟩;refine p _ _ λM3 m3=>⟨_,U,aa U (aa U (aa U (ri (gG Be (by lia) (λr1 GH NH _ GQ L=>(ri ⟨_,_,U,m3 _ _ ?_⟩))))))⟩;clear m3 M3 p I;obtain ⟨m,NR,Xg,Î⟩:∃m,(if A-r1> -60 then A-r1 else-60)=m/\-60<=m/\m<=60:=⟨_,U,by split<;>lia,by split<;>lia⟩;rw [NR];clear NR;have Zv:=kl (C.trans L);refine (aa U ⟨.inl ⟨U,_,a5.of Zv.1⟩,?_⟩);refine (aa U (aa U (aa U (aa U (aa U (aa U (aa U (ri (gG GQ (by lia) (λr2 ó _ _ OI Ay=>(ri ⟨_,_,U,_,_,U,cX U,λx3 hp=>?_⟩)))))))))));obtain ⟨S,NQ,W',WZ⟩:∃S,(if (if A+r2>m then A+r2 else m)<60 then (if A+r2>m then A+r2 else m) else 60)=S/\m<=S/\S<=60:=⟨_,U,by repeat' split<;>lia,by split<;>lia⟩;rw [NQ];clear NQ;have Zu:=kl ((C.trans L).trans Ay);have Bb:=Zu.same (aK (o:=.tup [.int s,.int ((s+1+N) % n),.int m,.int S]) hp);have kA:=((M.trans C).trans L).trans Ay;refine (pG Bb.1 ?_ ?_)
     ·rw [ax,Bb.len];exact fz (by lia)
     ·refine ⟨_,_,_,_,_,T++[x3],rows++[[s,(s+1+N) % n,m,S]],U,Bb.push ak,by rw [ff,ni];rfl,λr g=>?_,?_,?_,?_⟩
      ·rcases fe.mp g with q | q
       ·exact a7 r q
       ·rw [dF.mp q];exact ⟨_,_,_,_,U,xt,Fe,Nr,XT,XS,Xg,W',WZ⟩
      ·rw [aq M0,aq (aQ (bj ((((C.trans L).trans Ay)) _ _ t7 (B J)) hp).symm)];exact ((C.trans L).trans Ay) _ _ t7 (B J)
      ·exact (OI.new hp).upd Bb.1 R
      ·exact kP (kP kA (kA.free hp OI.there)) hl
   ·rintro j Y ⟨v1,v2,v3,v4,v5,T,rows,rfl,R7,ni,a7,_,O,M⟩;exact m1 _ _ (aa U (x5 l rows Y (uD ni hc) a7 ⟨T,R7⟩ hl O M))
end
theorem a4 {l:List α} {m:List β} {i:Nat} {a:α} (h:Paired F l m) (e:l[i]?=some a):∃b,m[i]?=some b/\F a b:=by
 induction h generalizing i with
 | nil=>simp at e
 | cons r t f=>
  cases i with
  | zero=>simp at e;subst e;exact ⟨_,U,r⟩
  | succ i=>
   obtain ⟨b,c,d⟩:=f (i:=i) (by simpa using e);exact ⟨b,by simpa using c,d⟩
theorem dI.mY (x:dI K sa H d) (k:aZ l H H1) (b:H l=some (.lst xs)) (a:l≠d):dI K sa H1 d:=by obtain ⟨⟨p,h⟩,⟨c,r⟩⟩:=x;exact ⟨⟨p,k _ _ h (aQ a)⟩,⟨c,r.keep k b⟩⟩
theorem IW (a:aZ d H H1) (b:aZ l H1 H2) (f:H l=none):aZ d H H2:=λc o e n=>b c o (a c o e n) (bj e f)
theorem zE (a:2<=n) (b:0<=m):0<=eR m n t/\eR m n t<n:=by
 unfold eR;split
 ·lia
 ·have c:=F7 (m-1+t) (show n-1≠0 by lia);have d:=Int.emod_lt_of_pos (m-1+t) (show 0<n-1 by exact zM a);omega
theorem Cv (c:2<=n) (a:m≠0):0<eR m n t:=by unfold eR;rw [if_neg a];have b:=F7 (m-1+t) (show n-1≠0 by lia);omega
theorem zT (d:2<=n) (g:0<=a) (h:a<n) (i:0<=b) (j:b<n) (k:0<=t) (l:t<n) (e:eR a n t=eR b n t):a=b:=by
 by_cases f:a=0
 ·by_cases c:b=0
  ·lia
  ·have:=Cv (t:=t) d c;have z:eR a n t=0:=by unfold eR;rw [if_pos f]
   lia
 ·by_cases c:b=0
  ·have:=Cv (t:=t) d f;have z:eR b n t=0:=by unfold eR;rw [if_pos c]
   lia
  ·unfold eR at e;rw [if_neg f,if_neg c,BM (x:=a-1+t) (n:=n-1) (by lia) (by lia) (zM d),BM (x:=b-1+t) (n:=n-1) (by lia) (by lia) (zM d)] at e
   revert e
   split<;>split<;>intro e<;>lia
def iZ (n t:Int):List Int->List Int
 | [a,b,l,m]=>[eR a n t,eR b n t,l,m]
 | r=>r
def UK (n:Int) (r:List Int):Prop:=∃a b l m:Int,r=[a,b,l,m]/\0<=a/\a<n/\0<b/\b<n/\a≠b/\1<=l/\l<=m/\m<=60
structure cT (n la:Int) (T F:List (List Int)):Prop where
 n1:1<=n
 n2:n<=8
 l1:1<=la
 l2:la<=60
 tl:T.length<=24
 fl:F.length<=7
 t:∀r∈T,qv n r
 f:∀r∈F,UK n r
 one:∀(i j:Nat) r r',F[i]?=some r->F[j]?=some r'->r[1]?=r'[1]?->i=j
 own:∀r∈F,∀r'∈F,r[0]?≠r'[1]?
theorem qv.Dk (c:2<=n) (u:0<=t) (v:t<n) (h:qv n r):qv n (iZ n t r):=by obtain ⟨a,b,l,m,rfl,d,j,f,k,o,p,q,s⟩:=h;have g:=zE (t:=t) c d;have i:=zE (t:=t) c f;exact ⟨_,_,l,m,U,g.1,g.2,i.1,i.2,λe=>o (zT c d j f k u v e),p,q,s⟩
theorem PR {n la t:Int} {c:Nat} {T F:List (List Int)} (b:2<=n) (O:n<=8) (L:1<=la) (M:la<=60) (k:0<=t) (o:t<n) (H:∀r∈T,qv n r) (W:T.length<=12) (X:(c:Int)<=n-1) (N:F.length=c) (G:r_ n c F):
 cT n la (T.map (iZ n t)) (F.map (iZ n t)):=by
 have f:∀(i:Nat) r,(F.map (iZ n t))[i]?=some r->∃a l m:Int,r=[eR a n t,eR (n-1-i) n t,l,m]/\i<c/\0<=a/\a<n-c/\1<=l/\l<=m/\m<=60:=λi r e=>by
  rw [dC] at e
  cases q:F[i]? with
  | none=>rw [q] at e;cases e
  | some v=>
   rw [q] at e;have h:i<c:=by rw [<-N];exact (eP.mp q).1
   obtain ⟨a,l,m,rfl,V⟩:=G i v q;cases e;exact ⟨a,l,m,U,h,V⟩
 have u:∀r,r∈F.map (iZ n t)->∃i:Nat,(F.map (iZ n t))[i]?=some r:=λr d=>rz.mp d;refine ⟨by exact eA b,O,L,M,by rw [ax];lia,by rw [ax];lia,λr d=>?_,λr d=>?_,λi j r p e s q=>?_,λr d p Q=>?_⟩
 ·obtain ⟨v,A,rfl⟩:=cn.mp d;exact (H v A).Dk b k o
 ·obtain ⟨i,e⟩:=u r d;obtain ⟨a,l,m,rfl,h,g,B,C,D,E⟩:=f i r e;have x:=zE (t:=t) b g;have I:=zE (m:=n-1-i) (t:=t) b (by lia);exact ⟨_,_,l,m,U,x.1,x.2,Cv b (by lia),I.2,λz=>by
   have:=zT b g (by lia) (by lia) (by lia) k o z;lia,C,D,E⟩
 ·obtain ⟨a,l,m,rfl,h,_⟩:=f i r e;obtain ⟨y,R,S,rfl,J,_⟩:=f j p s;have z:eR (n-1-i) n t=eR (n-1-j) n t:=by simpa using q
  have:=zT b (by lia) (by lia) (by lia) (by lia) k o z;lia
 ·obtain ⟨i,e⟩:=u r d;obtain ⟨j,s⟩:=u p Q;obtain ⟨a,l,m,rfl,h,g,B,_⟩:=f i r e;obtain ⟨y,R,S,rfl,J,_⟩:=f j p s;intro q;have z:eR a n t=eR (n-1-j) n t:=by simpa using q
  have:=zT b g (by lia) (by lia) (by lia) k o z;lia
theorem yo.Dk (h:yo wd rows) (k:r_ C c rows):yo wd (rows.map (iZ n t)):=λz=>by obtain ⟨g,j⟩:=h z;refine ⟨by rw [ax];exact g,λr o=>?_⟩;obtain ⟨d,b,rfl⟩:=cn.mp o;obtain ⟨i,e⟩:=rz.mp b;obtain ⟨a,l,m,f,_⟩:=k i d e;have:=j d b;subst f;exact this
def Mq (K:aW):Sp:=λi H Q _=>∃d h c b e,i=[.ref d,.int c,.int b,.int e]/\dI K h H d/\2<=c/\c<=8/\1<=b/\b<=60/\1<=e/\e<=8/\
 ∀(p g f:Addr) n l T F a,a p=some (.tup [.int n,.int l,.ref g,.ref f])->dU a g T->dU a f F->cT n l T F->2<=n->n<=c->l<=b->dI K h a d->aZ d H a->g≠d->f≠d->yo e F/\T.length<=12->Q (.ref p) a
section
abbrev nW:List Str:=["_law_d","_law_most","_law_last","_law_wide","_law_many","_law_falls_here","_law_ties_here","_law_turn","_law_found","_law_rows"]
theorem qS:cf nW MX (aT m8):=cH
abbrev MO:List Str:=["_law_r","_law_many","_law_turn"]
theorem YX:gF (aT m8) nW (jF [(".0",.local),("_law_r",.local),("_law_named",.globalImplicit),("_law_many",.free),("_law_turn",.free)]) MO [none,some 4,some 7]:=jH
theorem S9:MO.Nodup:=by decide+kernel
theorem tp (F:Fn K mg "_law_web" m8 MX f fd)
 (FN:Fn K mg "_law_next" hH Ā fN o6) (GN:au P w K mg base aw 1 fN o6 Ā (aI K))
 (FM:Fn K mg "_law_named" ip ā fM xA) (GM:au P w K mg base aw 1 fM xA ā ID)
 (FF:Fn K mg "_law_falls" iq Ą fF o7) (GF:au P w K mg base aw 2 fF o7 Ą (Ip K))
 (FT:Fn K mg "_law_ties" iK xv fT qf) (GT:au P w K mg base aw 2 fT qf xv (Ho K)):
 au P w K mg base aw 3 f fd MX (Mq K):=by
 refine F.F.cK qS λ_ x7 _ px H _ x9 x8 h x5=>?_;obtain ⟨d,sa,mo,la,wd,rfl,x4,á,à,EI,wX,uT,DJ,x6⟩:=x5;have S:cI 1 _:=h.mono (by decide);refine ⟨_,bV (vB (i:=4) qS.nd U (Or.inr U) (bC gx az (bQ GN S FN (a_ (pv 0) (bC gP (pv 1) az)))))
  (bV (bR 2 qS.nd (bC gx az (bQ GN S FN (a_ (pv 0) (pv 2)))))
  (bV (bR 5 qS.nd (bQ GF h FF (eM (pv 0) (pv 4) (pv 3))))
  (bV (bR 6 qS.nd (bQ GT h FT (jh (pv 0) (pv 4) (pv 2) (pv 3))))
  (bV (vB (i:=7) qS.nd U (Or.inr U) (bQ GN S FN (a_ (pv 0) (pv 4))))
  (bV (bR 8 qS.nd (iA lJ))
  (bV (g_ gB U (gy (iA (a_ (pv 6) (pv 5)))) (bO 9 qS.nd)
   (a0 (fH (oW qm oG ql ov (pv 8)
    (bY (mh U (gy (pv 9)) YX (λcl ex s0 H0=>⟨bO 0 S9,oi,
     cE (u4 (bQ GM S FM (eM (aF (pv 0)) (pv 1) (pv 2)))
      (u4 (bQ GM S FM (eM (aF (pv 0)) (pv 1) (pv 2)))
      (a_ (aF (pv 0)) (aF (pv 0)))))⟩)))))))
  (a0 (cm (cE (jh (pv 4) (pv 2) (dE gd (pv 8) az) (dE gd (pv 8) az))))))))))),?_⟩
 refine (aa U (aa U (ri (gG x4 (by lia) (λc H1 J Fe D1 k1=>(ri ?_))))));refine (aa U (aa U (gG D1 (kQ EI) (λr2 H2 vb NJ D2 k2=>(ri ?_)))));refine (aa U (aa U (aa U ⟨d,sa,_,_,U,D2,jz J,by lia,uT,DJ,λk kR F0 H3 hc EW E_ RF Yl D3 k3 ny=>?_⟩)));refine (aa U (aa U (aa U (aa U ⟨d,sa,_,_,_,U,D3,jz J,by lia,jz vb,by lia,uT,DJ,λs T0 H4 xq ND RT wM D4 k4=>?_⟩))));refine (aa U (aa U (gG D4 (by lia) (λt H5 XD XC W k5=>?_))));have fld:k≠d:=λe=>by subst e;obtain ⟨o,q⟩:=D2.there;rw [Yl] at q;cases q
 have We:s≠d:=λe=>by subst e;obtain ⟨o,q⟩:=D3.there;rw [wM] at q;cases q
 have OA:dU H5 k F0:=by obtain ⟨p,e⟩:=D3.at_;exact RF.keep (k4.trans k5) e fld
 have O9:dU H5 s T0:=by obtain ⟨p,e⟩:=D4.at_;exact RT.keep k5 e We
 have kA:aZ d H H5:=(((k1.trans k2).trans k3).trans k4).trans k5;refine ⟨cN _,λfo z=>?_⟩;have Fl:fo≠d:=λe=>by subst e;obtain ⟨o,q⟩:=W.there;rw [z] at q;cases q
 have tP:H fo=none:=kA.free z W.there;have Zs:=OA.same (aK (o:=.lst []) z);have Zp:=O9.same (aK (o:=.lst []) z);have w8:s≠fo:=by obtain ⟨y,e,_⟩:=O9;exact bj e z
 have xu:k≠fo:=by obtain ⟨y,e,_⟩:=OA;exact bj e z
 refine (aa U (aa U ⟨cX U,λB M=>⟨B,U,⟨_,a5.of ak⟩,?_⟩⟩));have t4:B≠fo:=aQ (bj (ak (H:=H5) (a:=fo) (o:=.lst [])) M);have EC:H5 B=none:=by rw [aq t4] at M;exact M
 have ED:H B=none:=kA.free EC W.there;generalize L:upd (upd H5 fo (.lst [])) B (.lst [V.ref s,V.ref k])=H7;have G:H7 fo=some (.lst []):=by rw [<-L,aq (aQ t4),ak]
 have YR:H7 B=some (.lst [V.ref s,V.ref k]):=by rw [<-L,ak]
 have Zr:dU H7 k F0:=by rw [<-L];exact Zs.same (aK M)
 have Zo:dU H7 s T0:=by rw [<-L];exact Zp.same (aK M)
 have D7:dI K sa H7 d:=by rw [<-L];exact (W.new z).new M
 have k7:aZ d H H7:=by rw [<-L];exact kP (kP kA tP) ED
 refine j0 (K:=K) (a:=B) (xs:=[V.ref s,V.ref k]) (λi u D=>∃v x,u=[some (.ref d),some (.int mo),some (.int (1+r2)),some (.int wd),some (.int (2+c)),some (.ref k),some (.ref s),some (.int t),some (.ref fo),v]/\
  D fo=some (.lst (x.map V.ref))/\Paired (λa rs=>dU D a rs/\a≠fo/\a≠d) x (([T0,F0].take i).map λR=>R.map (iZ (2+c) t))/\aZ fo H7 D) ⟨none,[],U,G,.nil,aZ.refl fo H7⟩ ?_ ?_ ?_
 ·rintro i u E _ ⟨v,x,rfl,_,_,g⟩;exact a5.of (g _ _ YR t4)
 ·rintro i x3 u E A ⟨v,x,rfl,I,N,g⟩;obtain ⟨O,R0,rfl,RA,_,Ng,XH,Nt⟩:∃O R0,x3=.ref O/\dU E O R0/\O≠fo/\(([T0,F0].take (i+1)).map λR=>R.map (iZ (2+c) t))=(([T0,F0].take i).map λR=>R.map (iZ (2+c) t))++[R0.map (iZ (2+c) t)]/\
   (∀r∈R0,∃a b l m:Int,r=[a,b,l,m])/\R0.length<=12:=by
   match i,A with
   | 0,A=>
    cases A;exact ⟨s,T0,U,Zo.keep g G w8,w8,U,λr h=>by
     obtain ⟨a,b,l,m,e,_⟩:=ND r h;exact ⟨a,b,l,m,e⟩,xq⟩
   | 1,A=>
    cases A;exact ⟨k,F0,U,Zr.keep g G xu,xu,U,λr h=>by
     obtain ⟨i,e⟩:=rz.mp h;obtain ⟨a,l,m,e,_⟩:=E_ i r e;exact ⟨a,_,l,m,e⟩,by lia⟩
   | i+2,A=>cases A
  obtain ⟨Dn,Z⟩:=RA;refine (aa U ⟨.inl ⟨U,_,a5.of I⟩,?_⟩);refine (aa U ⟨O,U,⟨_,a5.of Z.1⟩,λC ft=>?_⟩);refine sC (xs:=Dn.map V.ref) (λj u D=>∃v y,u=[v,some (.int (2+c)),some (.int t)]/\dD D C y ((R0.take j).map (iZ (2+c) t))/\ay E D) ?_ ?_ ?_ ?_
  ·exact ⟨none,[],U,⟨ak,.nil⟩,aK ft⟩
  ·rintro j u X _ ⟨v,y,rfl,_,n⟩;exact a5.of (n _ _ Z.1)
  ·rintro j x3 u X T ⟨v,y,rfl,Y,n⟩;rw [dC] at T
   cases hq:Dn[j]? with
   | none=>rw [hq] at T;cases T
   | some q=>
    rw [hq] at T;cases T;obtain ⟨r,h,km⟩:=a4 Z.2 hq;obtain ⟨a,b,l,m,rfl⟩:=XH r (fg h);have qb:=n _ _ km;refine (aa U (aE qb U (aa U (aa U ⟨_,_,_,U,jz J,?_⟩))));refine (aa U (aE qb U (aa U (aa U ⟨_,_,_,U,jz J,?_⟩))));refine (aa U (aE qb U (aa U (aE qb U ⟨cX U,λp Q=>?_⟩))));have yl:=Y.same (aK (o:=.tup [.int (eR a (2+c) t),.int (eR b (2+c) t),.int l,.int m]) Q);have Fc:E C=none:=ft;refine ⟨_,yl.1,?_,_,y++[p],U,?_,λb o e=>?_⟩
    ·rw [ax,yl.len,ax,fU];exact fz (by lia)
    ·have hj:(R0.take (j+1)).map (iZ (2+c) t)=(R0.take j).map (iZ (2+c) t)++[[eR a (2+c) t,eR b (2+c) t,l,m]]:=by
      rw [hX,h,eH];rfl
     rw [hj];exact yl.push ak
    ·rw [aq (bj e Fc),aq (bj (n _ _ e) Q)];exact n _ _ e
  ·rintro u X ⟨v,y,rfl,Y,n⟩;have e9:=n _ _ I;refine (pG e9 ?_ ?_)
   ·rw [ax,N.length,ax,fU];exact fz (by simp;lia)
   ·have rb:C≠fo:=aQ (bj I ft);have Fb:C≠d:=λe=>by
     subst e;obtain ⟨p,q⟩:=(D7.mY g G Fl).at_;rw [ft] at q;cases q
    have ku:aZ fo X (upd X fo (.lst (x.map V.ref++[.ref C]))):=λb o e x1=>by rw [aq x1];exact e
    refine ⟨_,x++[C],U,by rw [ak,eH];rfl,?_,λb o e x1=>by rw [aq x1];exact n _ _ (g b o e x1)⟩;rw [Ng];refine AB (gf N λa rs x2=>⟨(x2.1.same n).keep ku e9 x2.2.1,x2.2⟩) ⟨?_,rb,Fb⟩;have hl:R0.take (Dn.map V.ref).length=R0:=by rw [ax,Z.len];exact gC
    rw [hl] at Y;exact dU.keep ⟨y,Y⟩ ku e9 rb
 ·rintro u E ⟨v,x,rfl,I,N,g⟩;have N:Paired (λa rs=>dU E a rs/\a≠fo/\a≠d) x [T0.map (iZ (2+c) t),F0.map (iZ (2+c) t)]:=N
  cases N with
  | @cons lt _ Ê _ q1 WE=>
   cases WE with
   | @cons lf _ É _ q2 Dp=>
    cases Dp;refine (aa U (aa U (aa U (j5 I U (aa U (j5 I U ⟨cX U,λp Q=>?_⟩))))));have sm:=aK (o:=.tup [.int (2+c),.int (1+r2),.ref lt,.ref lf]) Q;exact x6 p lt lf _ _ _ _ _ ak (q1.1.same sm) (q2.1.same sm) (PR (jz J) (by lia) (jz vb) (by lia) XD XC ND xq hc EW E_) (jz J) (by lia) (by lia) ((D7.mY g G Fl).same sm) (kP (IW k7 g tP) ((IW k7 g tP).free Q (D7.mY g G Fl).there)) q1.2.2 q2.2.2 ⟨ny.Dk E_,by rw [ax];exact xq⟩
end
end Y0
namespace L2
open PySem PySem.Spec PyProof.Rows
section
variable {K:aW}
end
theorem gE {c A B:Prop} [Decidable c] (a:c) (h:A):if decide c=true then A else B:=by rw [ew a];exact fx h
theorem iG {c A B:Prop} [Decidable c] (a:¬c) (h:B):if decide c=true then A else B:=by rw [cF a];exact du h
theorem yr {Q:VK} {H:Hp} {b a:Bool} (k:Q (.bl b) H) (e:b=a):Q (.bl a) H:=e▸k
theorem zg:∀{ns:List Int},m_ (.int a) (ns.map V.int)=decide (a∈ns)
 | []=>by simp [m_]
 | n::r=>by
  have b:=zg (a:=a) (ns:=r);unfold m_ at b ⊢;rw [dt,tY,b];show ((n==a) || decide (a∈r))=decide (a∈n::r)
  by_cases e:n=a
  ·subst e;simp
  ·have:¬a=n:=λz=>e z.symm;simp [e,this]
theorem zA:∀{ns:List Int},(ns.map V.int).all gY=true
 | []=>rfl
 | n::r=>by rw [dt,ve,zA (ns:=r)];rfl
theorem IM {a:Type} {xs:List a} {i:Nat} (h:i<=xs.length):(xs.drop (b3 xs.length 0 none)).take (b3 xs.length xs.length (some (i:Int))-b3 xs.length 0 none)=xs.take i:=by rw [cZ,cb,List.drop_zero,Nat.sub_zero,Nat.min_eq_left h]
end L2
namespace Y0
open PySem L2
seal L2.kT L2.gQ L2.gU L2.eL L2.gu L2.gv L2.gT L2.gS L2.dv Y0.aI
structure iV (mg:Str->Option Value):Prop where
 mm:∃t,mg "MOST_MOMENTS"=some (.int 8 t)
 ll:∃t,mg "LATEST_LAST"=some (.int 60 t)
 ws:∃t,mg "WIDEST_SPAN"=some (.int 60 t)
 lf:∃t,mg "LONGEST_FALL"=some (.int 60 t)
 list:mg "list"=none
def Bk:Sp:=λc H Q _=>∃n a b,c=[.int n,.int a,.int b]/\Q (.bl (decide (0<=a/\a<n/\0<=b/\b<n/\a≠b))) H
def Hk:Sp:=λb H Q _=>∃n a,b=[.int n,.int a]/\1<=n/\n<=8/\1<=a/\a<=60/\Q .aH H
def IC:Sp:=λb H Q _=>∃n a T,b=[.int n,.ref a]/\dU H a T/\(∀r∈T,qv n r)/\Q .aH H
def JK:Sp:=λd H Q _=>∃n a c T F,d=[.int n,.ref a]/\dU H a F/\cT n c T F/\∀b,ay H b->Q .aH b
section
theorem Ws:cf ą ą (aT aA):=cH
theorem tq {f:Addr} {c:FuncData} (F:Fn K mg "are_two_moments" aA ą f c):au P w K mg base aw 1 f c ą Bk:=by
 refine F.F.cK Ws λ_ A _ s H _ Q E l h=>?_;obtain ⟨n,a,b,rfl,k⟩:=h;refine ⟨_,a0 (cm (v9 (BV jO oU az (pv 1) (pv 0)) (v9 (BV jO oU az (pv 2) (pv 0)) (Bt (oN CU (pv 1) (pv 2)))))),?_⟩;refine (aa U (ri ⟨_,U,gX (λd=>(aa U (ri ⟨_,U,gX (λg=>(aa U (ri ⟨_,U,gX (λi=>(aa U (ri ⟨_,U,gX (λj=>(aa U (aa U ⟨U,?_⟩))) (λj=>?_)⟩))) (λi=>⟨false,U,du ?_⟩)⟩))) (λg=>?_)⟩))) (λd=>⟨false,U,du ?_⟩)⟩))
 all_goals simp only [ug] at*
 ·refine yr (Q:=Q) k ?_
  by_cases e:a=b
  ·subst e;simp
  ·simp [e];lia
 all_goals (refine yr (Q:=Q) k (cF λz=>?_);omega)
theorem Wo:cf Ē Ē (aT bf):=cH
theorem pQ (F:Fn K mg "look_over_size" bf Ē f fd) (T:iV mg):au P w K mg base aw 1 f fd Ē Hk:=by obtain ⟨l,c⟩:=T.mm;obtain ⟨m,d⟩:=T.ll;refine F.F.cK Wo λ_ A _ s H _ Q E i h=>?_;obtain ⟨n,j,rfl,e,g,a,b,k⟩:=h;refine ⟨_,bV (cS (pb (JB jO jO az (pv 0) (u5 (v:=.int 8) U c ⟨_,U⟩))) sF de) (a0 (cS (pb (JB jO jO az (pv 1) (u5 (v:=.int 60) U d ⟨_,U⟩))) sF de)),?_⟩;refine (aa U (ri ⟨_,U,gE e (ri (ct (qx g ?_)))⟩));exact (aa U (ri ⟨_,U,gE a (ri (ct (qx b k)))⟩))
abbrev WR:List Str:=["many","ties","at","one","other","least","most"]
theorem rD:cf WR Ę (aT bc):=cH
theorem mG (F:Fn K mg "look_over_ties" bc Ę f fd) (T:iV mg) (t:Fn K mg "are_two_moments" aA ą f2 I)
 (u:au P w K mg base aw 1 f2 I ą Bk):au P w K mg base aw 2 f fd Ę IC:=by
 obtain ⟨t1,p⟩:=T.ws;refine F.F.cK rD λ_ A _ x1 H _ Q E X h=>?_;obtain ⟨n,a,Z,rfl,⟨s,R⟩,S,k⟩:=h;refine ⟨_,bV (bR 2 rD.nd az) (a0 (g_ gB U (gy (pv 1))
  (rP U (eK (bO 3 rD.nd) (eK (bO 4 rD.nd) (eK (bO 5 rD.nd) (eK (bO 6 rD.nd) qE)))))
  (bV (cS (pb (pd (bQ u X t (eM (pv 0) (pv 3) (pv 4))))) sF de)
  (bV (cS (pb (K7 jO jO jO (uu u1 (u5 (v:=.int 60) U p ⟨_,U⟩)) (pv 5) (pv 6) (u5 (v:=.int 60) U p ⟨_,U⟩))) sF de)
  (a0 (Bw (i:=2) rD.nd U (Or.inl U) az Bo)))))),?_⟩
 refine (aa U ⟨a,U,⟨_,a5.of R.1⟩,j0 (K:=K) (a:=a) (xs:=s.map V.ref) (λ_ o c=>∃z d e g j,o=[some (.int n),some (.ref a),some (.int z),d,e,g,j]/\c=H) ⟨0,none,none,none,none,U,U⟩ ?_ ?_ ?_⟩)
 ·rintro i o c _ ⟨z,d,e,g,j,rfl,rfl⟩;exact a5.of R.1
 ·rintro i x2 o c b ⟨z,d,e,g,j,rfl,rfl⟩;rw [dC] at b
  cases C:s[i]? with
  | none=>rw [C] at b;cases b
  | some q=>
   rw [C] at b;cases b;obtain ⟨r,Y,W⟩:=a4 R.2 C;obtain ⟨x,y,l,m,rfl,B,D,G,J,L,M,N,O⟩:=S r (fg Y);refine ⟨q,_,U,bU.of W,U,_,_,U,_,_,U,_,_,U,_,_,U,U,?_⟩;refine (aa U (aa U (aa U ⟨n,x,y,U,_,U,qx ⟨B,D,G,J,L⟩ ?_⟩)));refine ⟨_,U,aa U (ri ⟨_,U,gE (kQ M) (aa U (ri ⟨_,U,gE N (ri (ct (qx O ?_)))⟩))⟩)⟩;exact ⟨_,U,_,_,U,U,_,_,_,_,_,U,U⟩
 ·rintro o c ⟨z,d,e,g,j,rfl,rfl⟩;exact k
end
end Y0
namespace L2
open PySem PySem.Spec PyProof.Rows
theorem gL {b:Bool} {A B:Prop} (e:b=false) (h:B):if b=true then A else B:=by rw [e];exact du h
theorem oT {b:Bool} {A B:Prop} (e:b=true) (h:A):if b=true then A else B:=by rw [e];exact fx h
theorem zo (f:Str) (v:V):∀fs:List (Str×V),(a8 f v fs).length<=fs.length+1
 | []=>aj _
 | (g,x)::r=>by
  unfold a8;split
  ·exact lB _
  ·exact Nat.succ_le_succ (zo f v r)
theorem dD.get {rows:List (List Int)} (R:dD H a ps rows) {i:Nat} (b:(ps.map V.ref)[i]?=some x):∃q r,x=.ref q/\ps[i]?=some q/\rows[i]?=some r/\H q=some (.tup (r.map V.int)):=by
 rw [dC] at b
 cases o:ps[i]? with
 | none=>rw [o] at b;cases b
 | some q=>
  rw [o] at b;cases b;obtain ⟨r,d,c⟩:=Y0.a4 R.2 o;exact ⟨q,r,U,U,d,c⟩
end L2
namespace Y0
open PySem L2
seal L2.kT L2.gQ L2.gU L2.eL L2.gu L2.gv L2.gT L2.gS L2.dv Y0.aI
def sR (r:List Int):Int:=r.getD 1 0
structure nO (K:aW) (mg:Str->Option Value) (C:Addr):Prop where
 cl:kH K C
 nM:iH K C "many"
 nL:iH K C "last"
 nT:iH K C "told_ties"
 nF:iH K C "told_falls"
 Xb:mg "Web"=some (.ref C)
def kK (n la:Int) (b a:Addr):List (Str×V):=a8 "told_falls" (.ref a) (a8 "told_ties" (.ref b) (a8 "last" (.int la) (a8 "many" (.int n) [])))
theorem k1:¬(("many":Str)="told_falls"):=by decide+kernel
theorem k2:¬(("many":Str)="told_ties"):=by decide+kernel
theorem k3:¬(("many":Str)="last"):=by decide+kernel
theorem k4:¬(("last":Str)="told_falls"):=by decide+kernel
theorem k5:¬(("last":Str)="told_ties"):=by decide+kernel
theorem k6:¬(("told_ties":Str)="told_falls"):=by decide+kernel
theorem Hu (n la:Int) (b a:Addr):(kK n la b a).lookup ("many":Str)=some (.int n):=by unfold kK;rw [je,if_neg k1,je,if_neg k2,je,if_neg k3,je,if_pos rfl]
theorem Vm (n la:Int) (b a:Addr):(kK n la b a).lookup ("last":Str)=some (.int la):=by unfold kK;rw [je,if_neg k4,je,if_neg k5,je,if_pos rfl]
theorem Vn (n la:Int) (a b:Addr):(kK n la a b).lookup ("told_ties":Str)=some (.ref a):=by unfold kK;rw [je,if_neg k6,je,if_pos rfl]
theorem OQ (n la:Int) (b a:Addr):(kK n la b a).lookup ("told_falls":Str)=some (.ref a):=by unfold kK;rw [je,if_pos rfl]
theorem CN (n la:Int) (f a:Addr) {m:Str} (b:¬m="told_falls") (c:¬m="told_ties") (d:¬m="last") (e:¬m="many"):(kK n la f a).lookup m=none:=by
 unfold kK;rw [je,if_neg b,je,if_neg c,je,if_neg d,je,if_neg e]
 all_goals rfl
def jN (C:Addr) (H:Hp) (p:Addr) (n la:Int) (T F:List (List Int)):Prop:=∃c b a,H p=some (.ins C c (kK n la b a))/\dU H b T/\dU H a F
theorem jN.same (h:jN C H p n la T F) (k:ay H H'):jN C H' p n la T F:=by obtain ⟨a,f,b,e,c,d⟩:=h;exact ⟨a,f,b,k _ _ e,c.same k,d.same k⟩
def HD (C:Addr):Sp:=λf H Q _=>∃p e n d a b T F,f=[.ref p,.int n,.int d,.ref a,.ref b]/\H p=some (.ins C e [])/\dU H a T/\dU H b F/\cT n d T F/\
 ∀c,jN C c p n d T F->aZ p H c->Q .aH c
def vz (C:Addr) (g:List (List Int)->List (List Int)->List (List Int)):Sp:=λc H Q _=>∃p n b T F,c=[.ref p]/\jN C H p n b T F/\∀l a,H l=none->ay H a->dU a l (g T F)->Q (.ref l) a
section
abbrev MQ:List Str:=["many","falls","ends","at","one","other","least","most"]
theorem qu:cf MQ ė (aT a9):=cH
theorem SS:gF (aT a9) MQ (jF [(".0",.local),("fall",.local)]) ["fall"] [none]:=jH
theorem WM:([x]:List Str).Nodup:=by simp
theorem lb (F:Fn K mg "look_over_falls" a9 ė f fd) (T:iV mg) (Q:Fn K mg "are_two_moments" aA ą f2 YK)
 (S:au P w K mg base aw 1 f2 YK ą Bk):au P w K mg base aw 2 f fd ė JK:=by
 obtain ⟨t1,m1⟩:=T.lf;refine F.F.cK qu λ_ x6 _ px H _ x8 x7 hr h=>?_;obtain ⟨n,a,la,TT,rows,rfl,⟨L,R⟩,c,x1⟩:=h;refine ⟨_,bV (y' (i:=2) qu.nd U U U (gy (pv 1)) SS (λcl ex s0 H0=>⟨bO 0 WM,oi,aF (pv 0)⟩))
  (bV (bR 3 qu.nd az) (a0 (g_ gB U (gy (pv 1))
  (rP U (eK (bO 4 qu.nd) (eK (bO 5 qu.nd) (eK (bO 6 qu.nd) (eK (bO 7 qu.nd) qE)))))
  (bV (cS (PW.pt (oX (pb (pd (bQ S hr Q (eM (pv 0) (pv 4) (pv 5))))) (rQ (vK KW (pv 4) (pv 2) (by with_unfolding_all rfl))))) sF de)
  (bV (cS (PW.pt (oX (cR fc (pv 5) az) (rQ (vK KW (pv 5) (mu BC (pv 2) mi (mj (pv 3))) (by with_unfolding_all rfl))))) sF de)
  (bV (cS (pb (K7 jO jO jO az (pv 6) (pv 7) (u5 (v:=.int 60) U m1 ⟨_,U⟩))) sF de)
  (a0 (Bw (i:=3) qu.nd U (Or.inl U) az Bo)))))))),?_⟩
 refine (aa U ⟨a,U,⟨_,a5.of R.1⟩,λs N=>?_⟩);refine sC (xs:=L.map V.ref) (λj b m=>∃v,b=[v]/\m s=some (.lst (((rows.take j).map sR).map V.int))/\ay H m) ?_ ?_ ?_ ?_
 ·exact ⟨none,U,ak,aK N⟩
 ·rintro j b C _ ⟨v,rfl,_,k⟩;exact a5.of (k _ _ R.1)
 ·rintro j x5 b C J ⟨v,rfl,t,k⟩;obtain ⟨q,r,rfl,_,d,I⟩:=R.get J;obtain ⟨a',b',x2,x3,rfl,_⟩:=c.f r (fg d);refine (aa U (aE (k _ _ I) U ⟨_,t,?_,_,U,?_,λx9 kR e=>?_⟩))
  ·rw [ax,ax,fU];have:=c.fl;exact fz (by lia)
  ·rw [ak,hX,d,eH,eH];rfl
  ·rw [aq (bj e N)];exact k _ _ e
 ·rintro b C ⟨v,rfl,t,k⟩;have hl:rows.take (L.map V.ref).length=rows:=by
   rw [ax,R.len];exact gC
  rw [hl] at t;have D:=R.same k;refine (aa U ⟨a,U,⟨_,a5.of D.1⟩,j0 (K:=K) (a:=a) (xs:=L.map V.ref) (λi b m=>∃z x y A B,z=(i:Int)/\b=[some (.int n),some (.ref a),some (.ref s),some (.int z),x,y,A,B]/\ay C m) ⟨0,none,none,none,none,U,U,ay.refl _⟩ ?_ ?_ ?_⟩)
  ·rintro i b m _ ⟨z,x,y,A,B,_,rfl,l⟩;exact a5.of (l _ _ D.1)
  ·rintro i x5 b H2 J ⟨z,x,y,A,B,rfl,rfl,l⟩;have W:=D.same l;obtain ⟨q,r,rfl,_,d,I⟩:=W.get J;have O:=fg d;obtain ⟨a',b',x2,x3,Y,h1,h2,h3,h4,h5,h6,h7,h8⟩:=c.f r O;subst Y;have M:=l _ _ t;refine ⟨q,_,U,bU.of I,U,_,_,U,_,_,U,_,_,U,_,_,U,U,?_⟩;refine (aa U (aa U (aa U ⟨n,a',b',U,_,U,qx ⟨h1,h2,by exact eA h3,h4,h5⟩ ?_⟩)));refine (aa U (aa U ⟨s,_,U,.inl (a5.of M),U,zA,ct (gL ?_ ?_)⟩))
   ·show m_ _ _=false;rw [zg];refine cF λz=>?_;obtain ⟨u,g,e⟩:=cn.mp z;obtain ⟨X,p,l2,m2,E,_⟩:=c.f u g;subst E;refine c.own _ O _ g ?_;have G:p=a':=e;show some a'=some p;rw [G]
   ·refine (aa U ⟨U,ct (iG (by intro z;have:=V.int.inj z;lia) ?_)⟩);refine (aa U (aa U (aa U ⟨_,U,s,_,U,a5.of M,λx4 hp=>⟨x4,_,U,.inl (a5.of ak),U,?_,ct (gL ?_ ?_)⟩⟩)))
    ·unfold ie;rw [IM (by rw [ax,ax];exact aP (eP.mp d).1),<-List.map_take];exact zA
    ·show m_ _ _=false;unfold ie;rw [IM (by rw [ax,ax];exact aP (eP.mp d).1),<-List.map_take,zg];refine cF λz=>?_;obtain ⟨j,o⟩:=rz.mp z;have Yf:j<i:=by
      have:=(eP.mp o).1;rw [fU] at this;exact B_ this
     rw [AY Yf,dC] at o
     cases g:rows[j]? with
     | none=>rw [g] at o;cases o
     | some u=>
      rw [g] at o;have e:sR u=b':=dG o;obtain ⟨X,p,l2,m2,E,_⟩:=c.f u (fg g);subst E;have G:p=b':=e;have:=c.one j i _ _ g d (by show some p=some b';rw [G]);lia
    ·refine (aa U (ri ⟨_,U,gE h6 (aa U (ri ⟨_,U,gE h7 (ri (ct (qx h8 ?_)))⟩))⟩));exact ⟨_,U,_,_,U,U,_,_,_,_,_,(by show (i:Int)+1=_;lia),U,l.trans (aK hp)⟩
  ·rintro b m ⟨z,x,y,A,B,_,rfl,l⟩;exact x1 _ (k.trans l)
theorem Wr:cf ă ă (aT dP):=cH
theorem pW (F:gq K "__init__" "Web.__init__" dP f fd) (T:iV mg) (d:nO K mg C)
 (W:Fn K mg "look_over_size" bf Ē fS Fq) (Z:au P w K mg base aw 1 fS Fq Ē Hk)
 (X:Fn K mg "look_over_ties" bc Ę fT qf) (GT:au P w K mg base aw 2 fT qf Ę IC)
 (S:Fn K mg "look_over_falls" a9 ė fF o7) (Y:au P w K mg base aw 2 fF o7 ė JK):
 au P w K mg base aw 3 f fd ă (HD C):=by
 refine F.cK Wr λ_ x4 _ x8 x6 _ x7 x5 B x1=>?_;obtain ⟨p,k,n,j,a,b,Q,rF,rfl,hp,J,I,i,x2⟩:=x1;have jj:cI 1 _:=B.mono (by decide);refine ⟨_,bV (fH (bQ Z jj W (a_ (pv 1) (pv 2))))
  (bV (fH (bQ GT B X (a_ (pv 1) (pv 3))))
  (bV (fH (bQ Y B S (a_ (pv 1) (pv 4))))
  (bV (nU (pv 0) (pv 1) U) (bV (nU (pv 0) (pv 2) U)
  (bV (nU (pv 0) (qK zZ (by rfl) T.list (by decide+kernel) (bY (pv 3))) U)
  (a0 (nU (pv 0) (qK zZ (by rfl) T.list (by decide+kernel) (bY (pv 4))) U))))))),?_⟩
 refine (aa U (aa U ⟨n,j,U,i.n1,i.n2,i.l1,i.l2,?_⟩));refine (aa U (aa U ⟨n,a,Q,U,J,i.t,?_⟩));refine (aa U (aa U ⟨n,b,j,Q,rF,U,I,i,λc t=>?_⟩));have A:=t _ _ hp;have Zq:=J.same t;have Zt:=I.same t;obtain ⟨H,u⟩:=Zq;obtain ⟨O,v⟩:=Zt;refine (aa U (aa U (o3 A d.cl d.nM (by show 0<1000;decide) ?_)));refine (aa U (aa U (o3 ak d.cl d.nL (by show 1<1000;decide) ?_)));rw [I4];have M:∀{x:Addr} {l:List V},c x=some (.lst l)->x≠p:=λ{x l} e=>cp e A nofun;refine (aa U ⟨a,_,U,.inl (a5.of (by rw [aq (M u.1)];exact u.1)),λl1 z=>?_⟩);have s:l1≠p:=aQ (bj ak z);have EH:c l1=none:=by rw [aq s] at z;exact z
 refine (aa U (o3 (by rw [aq (aQ s),ak]) d.cl d.nT (l9 (zo _ _ _) (by show 2<1000;decide)) ?_));generalize y:upd (upd (upd c p (.ins C k (a8 "last" (.int j) (a8 "many" (.int n) [])))) l1 (.lst (H.map V.ref))) p (.ins C k (a8 "told_ties" (.ref l1) (a8 "last" (.int j) (a8 "many" (.int n) []))))=H2;have D:aZ p c H2:=λx o e h=>by rw [<-y,aq h,aq (bj e EH),aq h];exact e
 have N:H2 p=some (.ins C k (a8 "told_ties" (.ref l1) (a8 "last" (.int j) (a8 "many" (.int n) [])))):=by rw [<-y,ak]
 have L:H2 l1=some (.lst (H.map V.ref)):=by rw [<-y,aq s,ak]
 refine (aa U ⟨b,_,U,.inl (a5.of (D _ _ v.1 (M v.1))),λg r=>?_⟩);have G:g≠p:=aQ (bj N r);have Xh:g≠l1:=aQ (bj L r);have EG:c g=none:=by
  cases q:c g with
  | none=>rfl
  | some o=>rw [D _ _ q G] at r;cases r
 refine (aa U (o3 (by rw [aq (aQ G)];exact N) d.cl d.nF (l9 (zo _ _ _) (l9 (Nat.succ_le_succ (zo _ _ _)) (by show 3<1000;decide))) ?_));generalize m:upd (upd H2 g (.lst (O.map V.ref))) p (.ins C k (a8 "told_falls" (.ref g) (a8 "told_ties" (.ref l1) (a8 "last" (.int j) (a8 "many" (.int n) [])))))=H4;have E:aZ p c H4:=λx o e h=>by rw [<-m,aq h,aq (bj e EG)];exact D _ _ e h
 have R:∀{x:Addr} {l:List V},c x=some (.tup l)->x≠p:=λ{x l} e=>cp e A nofun;refine x2 H4 ⟨k,l1,g,by rw [<-m,ak];rfl,⟨H,?_,gf u.2 λx x3 e=>E _ _ e (R e)⟩,⟨O,?_,gf v.2 λx x3 e=>E _ _ e (R e)⟩⟩ (λx o e h=>E _ _ (t _ _ e) h)
 ·rw [<-m,aq s,aq (aQ Xh)];exact L
 ·rw [<-m,aq G,ak]
theorem Tn:cf č č (aT dO):=cH
theorem To:cf č č (aT dq):=cH
theorem mC (F:gq K "ties" "Web.ties" dO f fd) (T:iV mg) (b:nO K mg C):au P w K mg base aw 1 f fd č (vz C λT _=>T):=by refine F.cK Tn λ_ A _ s H _ Q E j h=>?_;obtain ⟨p,n,m,q,o,rfl,⟨g,e,i,c,⟨d,R⟩,_⟩,k⟩:=h;refine ⟨_,a0 (cm (qK zZ (by rfl) T.list (by decide+kernel) (bY (fJ (pv 0) U)))),?_⟩;refine (aa U (ek c b.cl b.nT (Vn _ _ _ _) ⟨e,_,U,.inl (a5.of R.1),λl a=>?_⟩));exact k l _ a (aK a) ⟨d,ak,(R.same (aK a)).2⟩
theorem lh (F:gq K "falls" "Web.falls" dq f fd) (T:iV mg) (b:nO K mg C):au P w K mg base aw 1 f fd č (vz C λ_ F=>F):=by refine F.cK To λ_ A _ s H _ Q E i h=>?_;obtain ⟨p,n,j,o,m,rfl,⟨g,q,c,d,_,⟨e,R⟩⟩,k⟩:=h;refine ⟨_,a0 (cm (qK zZ (by rfl) T.list (by decide+kernel) (bY (fJ (pv 0) U)))),?_⟩;refine (aa U (ek d b.cl b.nF (OQ _ _ _ _) ⟨c,_,U,.inl (a5.of R.1),λl a=>?_⟩));exact k l _ a (aK a) ⟨e,ak,(R.same (aK a)).2⟩
end
end Y0
namespace L2
open PySem PySem.Spec PyProof.Rows
theorem qM {l a:List α} {m b:List β} (h:Paired F l m) (h':Paired F a b):Paired F (l++a) (m++b):=by
 induction h with
 | nil=>exact h'
 | cons r t c=>exact .cons r c
theorem dD.cat (d:dD H a ps r) (e:dD H b qs s) (c:H p=none):dD (upd H p (.lst (ps.map V.ref++qs.map V.ref))) p (ps++qs) (r++s):=
 ⟨by rw [ak,eH],qM (d.same (aK c)).2 (e.same (aK c)).2⟩
theorem dD.more (h:dD H l ps rows) (s:ay H0 H) (c:H0 l=none) (a:H p=none):
 dD (upd (upd H p (.tup (r.map V.int))) l (.lst (ps.map V.ref++[.ref p]))) l (ps++[p]) (rows++[r])/\ay H0 (upd (upd H p (.tup (r.map V.int))) l (.lst (ps.map V.ref++[.ref p])))/\upd H p (.tup (r.map V.int)) l=some (.lst (ps.map V.ref)):=by
 have R:=h.same (aK (o:=.tup (r.map V.int)) a);refine ⟨R.push ak,λb o e=>?_,R.1⟩;rw [aq (bj e c),aq (bj (s _ _ e) a)];exact s _ _ e
end L2
namespace Y0
open PySem L2
seal L2.kT L2.gQ L2.gU L2.eL L2.gu L2.gv L2.gT L2.gS L2.dv Y0.aI
def gN (la:Int):Nat->List (List Int)
 | 0=>[]
 | k+1=>gN la k++[[0,(k:Int)+1,la],[(k:Int)+1,0,0]]
theorem sG (la:Int):∀k,(gN la k).length=2*k
 | 0=>rfl
 | k+1=>by unfold gN;rw [ff,sG la k];rfl
def UO:List Int->List (List Int)
 | [a,b,l,m]=>[[a,b,m],[b,a,-l]]
 | _=>[]
def gb (rows:List (List Int)):List (List Int):=(rows.map UO).flatten
def oK (rows:List (List Int)):Prop:=∀r∈rows,∃a b l m:Int,r=[a,b,l,m]
theorem sH:∀{rows:List (List Int)},oK rows->(gb rows).length=2*rows.length
 | [],_=>rfl
 | r::t,h=>by obtain ⟨a,b,l,m,rfl⟩:=h _ dB;have c:=sH (rows:=t) λr d=>h r (eI _ d);unfold gb at c ⊢;rw [dt,List.flatten_cons,ff,c,jl];show 2+2*t.length=2*(t.length+1);lia
theorem cT.ko (h:cT n la T F):oK T:=λr c=>by obtain ⟨a,b,l,m,e,_⟩:=h.t r c;exact ⟨a,b,l,m,e⟩
theorem cT.iQ (h:cT n la T F):oK F:=λr c=>by obtain ⟨a,b,l,m,e,_⟩:=h.f r c;exact ⟨a,b,l,m,e⟩
def cU (n la:Int) (T F:List (List Int)):List (List Int):=gN la (n-1).toNat++gb T++gb F
structure Sf (mg:Str->Option Value):Prop where
 range:mg "range"=none
def Hj (C:Addr):Sp:=λc H Q _=>∃p n b T F,c=[.ref p]/\jN C H p n b T F/\1<=n/\n<=8/\∀l a,H l=none->ay H a->dU a l (gN b (n-1).toNat)->Q (.ref l) a
def Hm:Sp:=λd H Q _=>∃a b,d=[.ref a]/\dU H a b/\oK b/\b.length<=100/\∀l c,H l=none->ay H c->dU c l (gb b)->Q (.ref l) c
def Hr (C:Addr):Sp:=λe H Q _=>∃p a n d T F b,e=[.ref p,.ref a]/\jN C H p n d T F/\cT n d T F/\dU H a b/\oK b/\b.length<=100/\∀l c,H l=none->ay H c->dU c l (cU n d b F)->Q (.ref l) c
def Hq (C:Addr):Sp:=λc H Q _=>∃p n b T F,c=[.ref p]/\jN C H p n b T F/\cT n b T F/\∀l a,H l=none->ay H a->dU a l (cU n b T F)->Q (.ref l) a
section
theorem CQ:cf ["web","bounds","moment"] ċ (aT bJ):=cH
theorem pR (F:Fn K mg "room_bounds" bJ ċ f fd) (T:Sf mg) (d:nO K mg C):au P w K mg base aw 1 f fd ċ (Hj C):=by
 refine F.F.cK CQ λ_ A _ x1 H _ Q E X h=>?_;obtain ⟨p,n,b,rT,rF,rfl,⟨R,ta,S,u,_,_⟩,Y,Z,k⟩:=h;refine ⟨_,bV (bR 1 CQ.nd (iA lJ))
  (bV (g_ gB U (K4 U T.range (a_ az (fJ (pv 0) U))) (bO 2 CQ.nd)
   (bV (fH (oW qm oG ql ov (pv 1) (bY (cE (eM az (pv 2) (fJ (pv 0) U))))))
   (a0 (fH (oW qm oG ql ov (pv 1) (bY (cE (eM (pv 2) az az))))))))
  (a0 (cm (pv 1)))),?_⟩
 refine ⟨cN _,λl g=>?_⟩;have x:=aK (o:=.lst []) g;refine (aa U (ek (x _ _ u) d.cl d.nM (Hu _ _ _ _) ⟨1,n,U,⟨by decide,by decide,by lia,by lia⟩,?_⟩));refine wg (n:=(n-1).toNat) (λi s t=>∃v c,s=[some (.ref p),some (.ref l),v]/\dD t l c (gN b i)/\ay H t) ⟨none,[],U,⟨ak,.nil⟩,x⟩ ?_ ?_
 ·rintro i s z V ⟨v,c,rfl,a,m⟩;have y:∀j:Nat,j<=20->j<sizeLine:=λj W=>fz (by lia);refine (aa U ⟨.inl ⟨U,_,a5.of a.1⟩,aa U (aa U (ek (m _ _ u) d.cl d.nL (Vm _ _ _ _) ⟨cX U,λL I=>?_⟩))⟩);obtain ⟨q,N,D⟩:=a.more (r:=[0,1+(i:Int),b]) m g I;refine (pG D ?_ ?_)
  ·rw [ax,a.len,sG];exact y _ (by omega)
  refine (aa U ⟨.inl ⟨U,_,a5.of q.1⟩,aa U ⟨cX U,λM J=>?_⟩⟩);obtain ⟨B,O,G⟩:=q.more (r:=[1+(i:Int),0,0]) N g J;refine (pG G ?_ ?_)
  ·rw [ax,q.len,ff,sG];exact y _ (by simp;omega)
  refine ⟨_,c++[L]++[M],U,?_,O⟩;have e:gN b (i+1)=gN b i++[[0,1+(i:Int),b]]++[[1+(i:Int),0,0]]:=by rw [oE,Int.add_comm 1 (i:Int)];rfl
  rw [e];exact B
 ·rintro s z ⟨v,c,rfl,a,m⟩;exact (aa U (k l _ g m ⟨c,a⟩))
abbrev WN:List Str:=["spans","bounds","one","other","least","most"]
theorem uN:cf WN Ģ (aT bH):=cH
theorem pO (F:Fn K mg "span_bounds" bH Ģ f fd):au P w K mg base aw 1 f fd Ģ Hm:=by
 refine F.F.cK uN λ_ x1 _ x4 H _ x3 x2 B h=>?_;obtain ⟨a,rows,rfl,⟨E,R⟩,A,hlen,k⟩:=h;refine ⟨_,bV (bR 1 uN.nd (iA lJ))
  (bV (g_ gB U (gy (pv 0))
   (rP U (eK (bO 2 uN.nd) (eK (bO 3 uN.nd) (eK (bO 4 uN.nd) (eK (bO 5 uN.nd) qE)))))
   (bV (fH (oW qm oG ql ov (pv 1) (bY (cE (eM (pv 2) (pv 3) (pv 5))))))
   (a0 (fH (oW qm oG ql ov (pv 1) (bY (cE (eM (pv 3) (pv 2) (uu u1 (pv 4))))))))))
  (a0 (cm (pv 1)))),?_⟩
 refine ⟨cN _,λl m=>?_⟩;have G:=aK (o:=.lst []) m;refine (aa U ⟨a,U,⟨_,a5.of (G _ _ R.1)⟩,j0 (K:=K) (a:=a) (xs:=E.map V.ref) (λi u y=>∃n p s t c,u=[some (.ref a),some (.ref l),n,p,s,t]/\dD y l c (gb (rows.take i))/\ay H y) ⟨none,none,none,none,[],U,⟨ak,.nil⟩,G⟩ ?_ ?_ ?_⟩)
 ·rintro i u z _ ⟨n,p,s,t,c,rfl,_,d⟩;exact a5.of (d _ _ R.1)
 ·rintro i x5 u z W ⟨n,p,s,t,c,rfl,b,d⟩;obtain ⟨q,r,rfl,_,x,T⟩:=R.get W;obtain ⟨g,j,C,D,M⟩:=A r (fg x);subst M;have hi:i<rows.length:=(eP.mp x).1;have N:oK (rows.take i):=λr B=>A r (qi B);have EI:(gb (rows.take i)).length<=200:=by rw [sH N,fU];lia
  refine ⟨q,_,U,bU.of (d _ _ T),U,_,_,U,_,_,U,_,_,U,_,_,U,U,?_⟩;refine (aa U ⟨.inl ⟨U,_,a5.of b.1⟩,aa U (aa U (aa U ⟨cX U,λX Q=>?_⟩))⟩);obtain ⟨v,Z,J⟩:=b.more (r:=[g,j,D]) d m Q;refine (pG J ?_ ?_)
  ·rw [ax,b.len];exact fz (by lia)
  refine (aa U ⟨.inl ⟨U,_,a5.of v.1⟩,aa U (aa U (aa U ⟨_,U,cX U,λY S=>?_⟩))⟩);obtain ⟨I,s3,L⟩:=v.more (r:=[j,g,-C]) Z m S;refine (pG L ?_ ?_)
  ·rw [ax,v.len,ff];exact fz (by simp;lia)
  refine ⟨_,_,_,_,c++[X]++[Y],U,?_,s3⟩;have e:gb (rows.take (i+1))=gb (rows.take i)++[[g,j,D]]++[[j,g,-C]]:=by unfold gb;rw [hX,x,eH,List.flatten_append,oE];rfl
  rw [e];exact I
 ·rintro u z ⟨n,p,s,t,c,rfl,b,d⟩;have O:rows.take (E.map V.ref).length=rows:=by
   rw [ax,R.len];exact gC
  rw [O] at b;exact (aa U (k l _ m d ⟨c,b⟩))
theorem Tj:cf Ė Ė (aT bL):=cH
theorem pJ (F:Fn K mg "bounds_with" bL Ė f fd) (M:nO K mg C)
 (B:Fn K mg "room_bounds" bJ ċ fR YG) (E:au P w K mg base aw 1 fR YG ċ (Hj C))
 (l:Fn K mg "span_bounds" bH Ģ fS Fq) (m:au P w K mg base aw 1 fS Fq Ģ Hm)
 (mF:ic K C "falls" fM) (N:fb K xA č []) (D:au P w K mg base aw 1 fM xA č (vz C λ_ F=>F)):au P w K mg base aw 2 f fd Ė (Hr C):=by
 refine F.F.cK Tj λ_ x3 _ x7 x5 _ x6 x4 e x1=>?_;obtain ⟨p,a,n,t,u,j,L,rfl,h,b,J,r,xq,x2⟩:=x1;refine ⟨_,a0 (cm (bC qA (bC qA (bQ E e B (bY (pv 0))) (bQ m e l (bY (pv 1))))
  (bQ m e l (bY (zk (pv 0) M.cl mF D e N .nil fy))))),?_⟩
 refine (aa U ⟨p,n,t,u,j,U,h,b.n1,b.n2,λl1 H1 _ v G=>?_⟩);refine (aa U ⟨a,L,U,J.same v,r,xq,λl2 H2 _ x c=>?_⟩);obtain ⟨WC,g⟩:=G.same x;obtain ⟨WB,c⟩:=c;have O:=g.len;have Q:=c.len;rw [sG] at O;rw [sH r] at Q;have n2:=b.n2;refine ⟨l1,l2,_,_,U,U,g.1,c.1,?_,λl3 s=>?_⟩
 ·rw [ax,ax];exact aP (fz (by lia))
 have H:=g.cat c s;have s3:=aK (o:=.lst (WC.map V.ref++WB.map V.ref)) s;have k:=(v.trans x).trans s3;obtain ⟨dx,ta,fa,hp,_,_⟩:=id (h.same k);refine (aa U (jg hp (CN _ _ _ _ (by decide+kernel) (by decide+kernel) (by decide+kernel) (by decide+kernel)) ⟨p,n,t,u,j,U,h.same k,λl4 H4 _ y I=>?_⟩));refine ⟨l4,j,U,I,b.iQ,by have:=b.fl;lia,λl5 H5 _ z d=>?_⟩;have q:=(H.same y).same z;obtain ⟨Å,d⟩:=d;have R:=d.len;rw [sH b.iQ] at R;have fl:=b.fl;refine ⟨l3,l5,_,_,U,U,q.1,d.1,?_,λl6 i=>?_⟩
 ·rw [ax,ax,ff];exact aP (fz (by lia))
 have A:=(k.trans y).trans z;exact x2 l6 _ (A.free i) (A.trans (aK i)) ⟨_,q.cat d i⟩
theorem Ts:cf ċ ċ (aT bG):=cH
theorem pK (F:Fn K mg "told_bounds" bG ċ f fd) (t:nO K mg C)
 (j:Fn K mg "bounds_with" bL Ė I lQ) (m:au P w K mg base aw 2 I lQ Ė (Hr C))
 (B:ic K C "ties" J) (u:fb K xA č []) (o:au P w K mg base aw 1 J xA č (vz C λT _=>T)):au P w K mg base aw 3 f fd ċ (Hq C):=by
 refine F.F.cK Ts λ_ A _ s H _ Q E e h=>?_;obtain ⟨p,n,g,c,i,rfl,a,b,k⟩:=h;have y:cI 1 _:=e.mono (by decide);refine ⟨_,a0 (cm (bQ m e j (a_ (pv 0) (zk (pv 0) t.cl B o y u .nil fy)))),?_⟩;obtain ⟨L,N,M,x,_,_⟩:=id a;refine (aa U (aa U (jg x (CN _ _ _ _ (by decide+kernel) (by decide+kernel) (by decide+kernel) (by decide+kernel)) ⟨p,n,g,c,i,U,a,λz G _ d r=>?_⟩)));exact ⟨p,z,n,g,c,i,c,U,a.same d,b,r,b.ko,by have:=b.tl;lia,λl q v D R=>k l q (d.free v) (d.trans D) R⟩
end
end Y0
namespace L2
open PySem PySem.Spec PyProof.Rows
end L2
namespace Y0
open PySem L2
def fC:List Int->MB.B3
 | [a,b,m]=>(a.toNat,b.toNat,m)
 | _=>(0,0,0)
def Idx (N:Nat) (rows:List (List Int)):Prop:=∀r∈rows,∃(a b:Nat) (m:Int),r=[(a:Int),(b:Int),m]/\a<N/\b<N
end Y0
namespace L2
open PySem
theorem dD.two (b c:List Int) (R:dD H1 l ps rows) (m:H1 C=none) (n:upd H1 C (.tup (b.map V.int)) I=none) (r:upd (upd H1 C (.tup (b.map V.int))) I (.tup (c.map V.int)) q=none):
 upd (upd (upd H1 C (.tup (b.map V.int))) I (.tup (c.map V.int))) q (.lst [V.ref C,V.ref I]) l=some (.lst (ps.map V.ref))/\ay H1 (upd (upd (upd H1 C (.tup (b.map V.int))) I (.tup (c.map V.int))) q (.lst [V.ref C,V.ref I]))/\
 ∀p,upd (upd (upd H1 C (.tup (b.map V.int))) I (.tup (c.map V.int))) q (.lst [V.ref C,V.ref I]) p=none->dD (upd (upd (upd (upd H1 C (.tup (b.map V.int))) I (.tup (c.map V.int))) q (.lst [V.ref C,V.ref I])) p (.lst (ps.map V.ref++[V.ref C,V.ref I]))) p (ps++[C,I]) (rows++[b,c]):=by
 have g:=aK (o:=.tup (b.map V.int)) m;have e:=aK (o:=.tup (c.map V.int)) n;have d:=aK (o:=.lst [V.ref C,V.ref I]) r;have i:=d _ _ (e _ _ (ak (H:=H1) (a:=C) (o:=.tup (b.map V.int))));have j:=d _ _ (ak (H:=upd H1 C (.tup (b.map V.int))) (a:=I) (o:=.tup (c.map V.int)));have f:=((R.same g).same e).same d;have h:dD (upd (upd (upd H1 C (.tup (b.map V.int))) I (.tup (c.map V.int))) q (.lst [V.ref C,V.ref I])) q [C,I] [b,c]:=⟨ak,.cons i (.cons j .nil)⟩;exact ⟨f.1,(g.trans e).trans d,λp k=>f.cat h k⟩
end L2
namespace Y0
open PySem L2
seal L2.kT L2.gQ L2.gU L2.eL L2.gu L2.gv L2.gT L2.gS L2.dv Y0.aI
structure mf (H:Hp) (wp ta fa:Addr) (n la:Int) (T F:List (List Int)):Prop where
 tup:H wp=some (.tup [.int n,.int la,.ref ta,.ref fa])
 t:dU H ta T
 f:dU H fa F
theorem mf.same (h:mf H wp ta fa n la T F) (k:ay H H'):mf H' wp ta fa n la T F:=⟨k _ _ h.tup,h.t.same k,h.f.same k⟩
def KH:Sp:=λf H Q _=>∃c e d n b T F,f=[.ref c]/\mf H c e d n b T F/\cT n b T F/\∀l a,H l=none->ay H a->dU a l (cU n b T F)->Q (.ref l) a
theorem LC (a b:List (List Int)):gb (a++b)=gb a++gb b:=by unfold gb;rw [eH,List.flatten_append]
section
abbrev WQ:List Str:=["_law_w","_law_bounds_here","_law_moment","_law_one","_law_other","_law_least","_law_most"]
theorem oR:cf WQ Ġ (aT dX):=cH
theorem j8 (F:Fn K mg "_law_bounds" dX Ġ f fd) (tK:mg "range"=none):vv P w K mg base aw 1 f fd Ġ KH:=by
 refine F.F.WH oR (λvs H x2 x1 h=>?_) (λFw x4 outer x5 H vs x2 x1 C W h=>?_)
 ·obtain ⟨wp,_,_,_,_,_,_,rfl,_⟩:=h;rfl
 ·obtain ⟨wp,ta,fa,n,d,c,rF,rfl,M,k,x3⟩:=h;refine ⟨_,bV (bR 1 oR.nd (iA lJ))
   (bV (B9 gB (.inr W) (K4 U tK (a_ az (aF (pv 0)))) (bO 2 oR.nd)
    (a0 (bR 1 oR.nd (bC qA (pv 1) (iA (a_ (cE (eM az (pv 2) (aF (pv 0)))) (cE (eM (pv 2) az az))))))))
   (bV (B9 gB (.inr W) (gy (bC qA (aF (pv 0)) (aF (pv 0))))
    (VI (K:=K) (n:=4) U (.inr W) (eK (bO 3 oR.nd) (eK (bO 4 oR.nd) (eK (bO 5 oR.nd) (eK (bO 6 oR.nd) qE)))))
    (a0 (bR 1 oR.nd (bC qA (pv 1) (iA (a_ (cE (eM (pv 3) (pv 4) (pv 6))) (cE (eM (pv 4) (pv 3) (bC gP az (pv 5))))))))))
   (a0 (cm (pv 1))))),?_⟩
  have n1:=k.n1;have n2:=k.n2;refine ⟨cN _,λl0 qZ=>?_⟩;have s0:=aK (o:=.lst []) qZ;refine (aa U (aE (s0 _ _ M.tup) U ⟨1,n,U,⟨by decide,by decide,by lia,by lia⟩,?_⟩));refine wg (n:=(n-1).toNat) (λi g s=>∃v l b,g=[some (.ref wp),some (.ref l),v,none,none,none,none]/\dD s l b (gN d i)/\ay H s/\H l=none) ⟨none,l0,[],U,⟨ak,.nil⟩,s0,qZ⟩ ?_ ?_
  ·rintro i g H1 hi ⟨v,l,b,rfl,z,u,hl⟩;have e:gN d (i+1)=gN d i++[[0,1+(i:Int),d],[1+(i:Int),0,0]]:=by
    rw [Int.add_comm 1 (i:Int)];rfl
   rw [e];refine (aa U (aa U (aa U (aE (u _ _ M.tup) U ⟨cX U,λp1 X=>?_⟩))));refine (aa U ⟨cX U,λp2 Y=>?_⟩);refine ⟨cX U,λq hq=>?_⟩;obtain ⟨R,S,T⟩:=z.two [0,1+(i:Int),d] [1+(i:Int),0,0] X Y hq;refine ⟨l,q,_,_,U,U,R,ak,?_,λp j=>?_⟩
   ·rw [ax,z.len,sG];exact aP (fz (by show 2*i+2<=1000;lia))
   ·have x:=u.trans S;exact ⟨_,p,_,U,T p j,x.trans (aK j),x.free j⟩
  ·rintro g H1 ⟨v,l,b,rfl,z,u,hl⟩;have y:=M.same u;obtain ⟨E,Q⟩:=y.t;obtain ⟨D,O⟩:=y.f;have tl:=k.tl;have fl:=k.fl;refine (aa U (aE y.tup U (aa U (aE y.tup U ⟨ta,fa,_,_,U,U,Q.1,O.1,?_,λsl Ni=>⟨sl,U,⟨_,a5.of ak⟩,?_⟩⟩))))
   ·rw [ax,ax,Q.len,O.len];exact aP (fz (by lia))
   have N:=Q.cat O Ni;have x:=aK (o:=.lst (E.map V.ref++D.map V.ref)) Ni;have R2:=z.same x;have uP:=u.trans x;generalize upd H1 sl (.lst (E.map V.ref++D.map V.ref))=H2 at*;have four:oK (c++rF):=λr C=>(fe.mp C).elim (k.ko r) (k.iQ r);refine j0 (K:=K) (a:=sl) (xs:=(E++D).map V.ref) (λi g s=>∃G I J L l b,g=[some (.ref wp),some (.ref l),v,G,I,J,L]/\dD s l b (gN d (n-1).toNat++gb ((c++rF).take i))/\ay H2 s/\H l=none)
    ⟨none,none,none,none,l,b,U,by rw [List.take_zero];show dD _ _ _ (_++[]);rw [uf];exact R2,ay.refl _,hl⟩ ?_ ?_ ?_
   ·rintro i g H3 _ ⟨G,I,J,L,l,b,rfl,_,m,_⟩;exact a5.of (m _ _ N.1)
   ·rintro i x6 g H3 hx ⟨G,I,J,L,l,b,rfl,t,m,A2⟩;obtain ⟨q,r,rfl,hq,Z,km⟩:=N.get hx;obtain ⟨A,B,le,mo,e4⟩:=four r (fg Z);subst e4;have hi:i<(c++rF).length:=(eP.mp Z).1;have YE:oK ((c++rF).take i):=λr C=>four r (qi C);have e:gN d (n-1).toNat++gb ((c++rF).take (i+1))=gN d (n-1).toNat++gb ((c++rF).take i)++[[A,B,mo],[B,A,0-le]]:=by
     rw [hX,Z,LC,oE,Int.zero_sub];rfl
    rw [e];refine ⟨q,_,U,bU.of (m _ _ km),U,_,_,U,_,_,U,_,_,U,_,_,U,U,?_⟩;refine (aa U (aa U (aa U (aa U ⟨cX U,λp1 X=>?_⟩))));refine (aa U (aa U (aa U (ri ⟨cX U,λp2 Y=>?_⟩))));refine ⟨cX U,λq' DR=>?_⟩;obtain ⟨R,S,T⟩:=t.two [A,B,mo] [B,A,0-le] X Y DR;refine ⟨l,q',_,_,U,U,R,ak,?_,λp j=>?_⟩
    ·rw [ax,t.len,ff,sG,sH YE,fU];refine aP (fz ?_);rw [ff] at*;show 2*(n-1).toNat+2*min i (c.length+rF.length)+2<=1000;omega
    ·have s4:=m.trans S;exact ⟨_,_,_,_,p,_,U,T p j,s4.trans (aK j),uP.free (s4.free j)⟩
   ·rintro g H3 ⟨G,I,J,L,l,b,rfl,t,m,A2⟩;have hle:(c++rF).take ((E++D).map V.ref).length=c++rF:=by
     rw [ax,N.len];exact gC
    rw [hle,LC,<-oE] at t;exact (aa U (x3 l _ A2 (uP.trans m) ⟨b,t⟩))
end
end Y0
namespace L2
open PySem PySem.Spec PyProof.Rows
section
variable [DecidableEq κ]
def ed (kvs:List (κ×V)) (k:κ):Option V:=(kvs.find? λa=>decide (a.1=k)).map (·.2)
def d7 (kvs:List (κ×V)) (k:κ) (v:V):List (κ×V):=
 if (kvs.any λa=>decide (a.1=k))=true then kvs.map (λa=>if a.1=k then (a.1,v) else a) else kvs++[(k,v)]
theorem mw {p:κ×V} {r:List (κ×V)} {k:κ} (e:p.1=k):ed (p::r) k=some p.2:=by simp [ed,List.find?_cons,e]
theorem mv {p:κ×V} {r:List (κ×V)} {k:κ} (e:¬p.1=k):ed (p::r) k=ed r k:=by simp [ed,List.find?_cons,e]
theorem si (k:κ):∀kvs:List (κ×V),(kvs.any λa=>decide (a.1=k))=(ed kvs k).isSome
 | []=>rfl
 | p::r=>by
  rw [tY]
  by_cases e:p.1=k
  ·simp only [mw e,ew e,Bool.true_or,Option.isSome_some]
  ·rw [mv e,cF e,Bool.false_or];exact si k r
theorem JO (k j:κ) (y:V):∀kvs:List (κ×V),ed (kvs.map λa=>if a.1=k then (a.1,y) else a) j=(ed kvs j).map λx=>if j=k then y else x
 | []=>rfl
 | p::r=>by
  have b:=JO k j y r;rw [dt]
  by_cases h:p.1=k
  ·rw [if_pos h]
   by_cases e:p.1=j
   ·rw [mw (p:=(p.1,y)) e,mw e,AJ,if_pos (e.symm.trans h)]
   ·rw [mv (p:=(p.1,y)) e,mv e,b]
  ·rw [if_neg h]
   by_cases e:p.1=j
   ·rw [mw (p:=p) e,mw e,AJ,if_neg (λz=>h (e.trans z))]
   ·rw [mv (p:=p) e,mv e,b]
theorem La (k j:κ) (y:V):∀kvs:List (κ×V),ed kvs k=none->ed (kvs++[(k,y)]) j=if j=k then some y else ed kvs j
 | [],_=>by
  by_cases e:k=j
  ·rw [if_pos e.symm];exact mw (p:=(k,y)) e
  ·rw [if_neg (λz=>e z.symm)];exact mv (p:=(k,y)) e
 | p::r,a=>by
  rw [List.cons_append];have b:¬p.1=k:=λz=>by rw [mw z] at a;cases a
  rw [mv b] at a;have c:=La k j y r a
  by_cases e:p.1=j
  ·rw [mw e,mw e,if_neg (λz=>b (e.trans z))]
  ·rw [mv e,mv e,c]
theorem vT (kvs:List (κ×V)) (k j:κ) (y:V):ed (d7 kvs k y) j=if j=k then some y else ed kvs j:=by
 unfold d7
 by_cases a:(kvs.any λc=>decide (c.1=k))=true
 ·rw [if_pos a,JO];rw [si] at a
  by_cases e:j=k
  ·obtain ⟨x,b⟩:=Option.isSome_iff_exists.mp a;rw [if_pos e,e,b,AJ,if_pos rfl]
  ·rw [if_neg e]
   cases ed kvs j with
   | none=>rfl
   | some x=>rw [AJ,if_neg e]
 ·rw [if_neg a];refine La k j y kvs ?_;rw [si] at a
  cases q:ed kvs k with
  | none=>rfl
  | some x=>rw [q] at a;exact (a U).elim
theorem uF (kvs:List (κ×V)) (k:κ) (v:V):(d7 kvs k v).length<=kvs.length+1:=by
 unfold d7;split
 ·rw [ax];exact h9
 ·rw [ff,jl,List.length_nil];omega
theorem iX.dc (r:iX o u):o.isSome=u.isSome:=by
 cases o with
 | none=>cases u with
  | none=>rfl
  | some _=>exact (show False from r).elim
 | some _=>cases u with
  | none=>exact (show False from r).elim
  | some _=>rfl
theorem KV.val {kvs:List (κ×V)} {vs:List (κ×Value)} (r:KV kvs vs) (k:κ):iX (ed kvs k) (valueAt vs k):=by
 unfold KV at r
 induction r with
 | nil=>exact True.intro
 | @cons p q i c h t g=>
  obtain ⟨d,f⟩:=h
  by_cases e:p.1=k
  ·have a:q.1=k:=d.symm.trans e;have b:valueAt (q::c) k=some q.2:=by simp [valueAt,List.find?_cons,a]
   rw [mw e,b];exact f
  ·have a:¬q.1=k:=λz=>e (d.trans z);have b:valueAt (q::c) k=valueAt c k:=by simp [valueAt,List.find?_cons,a]
   rw [mv e,b];exact g
theorem KV.any (r:KV kvs vs) (k:κ):(kvs.any λa=>decide (a.1=k))=vs.any λa=>decide (a.1=k):=by
 unfold KV at r
 induction r with
 | nil=>rfl
 | cons h t b=>rw [tY,tY,b,h.1]
theorem KV.tj (r:KV kvs vs) (k:κ) (f:bo y u):
 KV (kvs.map λa=>if a.1=k then (a.1,y) else a) (vs.map λa=>if a.1=k then (a.1,u) else a):=by
 unfold KV at r ⊢
 induction r with
 | nil=>exact .nil
 | @cons p q g i h t d=>
  rw [dt,dt];refine .cons ?_ d;obtain ⟨b,c⟩:=h
  by_cases e:p.1=k
  ·rw [if_pos e,if_pos (b.symm.trans e)];exact ⟨b,f⟩
  ·rw [if_neg e,if_neg (λz=>e (b.trans z))];exact ⟨b,c⟩
theorem KV.put (r:KV kvs vs) (k:κ) (a:bo y u):KV (d7 kvs k y) (stored vs k u):=by
 unfold d7 stored;rw [r.any k]
 by_cases e:(vs.any λb=>decide (b.1=k))=true
 ·rw [if_pos e,if_pos e];exact r.tj k a
 ·rw [if_neg e,if_neg e];exact AB r ⟨U,a⟩
theorem KV.length (r:KV kvs vs):kvs.length=vs.length:=i4 r
end
theorem uy (r:bo (kV k) u):(jx P w).is k u=true:=by
 cases k with
 | inl i=>obtain ⟨t,e⟩:=(show ∃t,u=Value.int i t from r);subst e;exact RB P w i t
 | inr x=>obtain ⟨t,e⟩:=(show ∃t,u=Value.str x t from r);subst e;exact RC P w x t
theorem KP:∀{a:List Key} {us:List Value},ba (a.map kV) us->ItemsAre (jx P w) a us
 | [],_,r=>by rw [oB] at r;cases r;exact .nil
 | k::a,_,r=>by
  rw [dt] at r
  cases r with
  | cons h t=>exact .cons (uy h) (KP t)
abbrev KT (H:Hp):List (List Key×V)->List (List Key×Addr×Value)->Prop:=Paired λp q=>p.1=q.1/\H q.2.1=some (.tup (p.1.map kV))/\bo p.2 q.2.2
theorem KT.val {H:Hp} {kvs:List (List Key×V)} {xs:List (List Key×Addr×Value)} (r:KT H kvs xs) (k:List Key):iX (ed kvs k) ((atKey xs k).map (·.2)):=by
 induction r with
 | nil=>exact True.intro
 | @cons p q i c h t g=>
  obtain ⟨d,_,f⟩:=h
  by_cases e:p.1=k
  ·have a:q.1=k:=d.symm.trans e;have b:atKey (q::c) k=some q.2:=by simp [atKey,List.find?_cons,a]
   rw [mw e,b];exact f
  ·have a:¬q.1=k:=λz=>e (d.trans z);have b:atKey (q::c) k=atKey c k:=by simp [atKey,List.find?_cons,a]
   rw [mv e,b];exact g
theorem KT.tj (r:KT H kvs xs) (k:List Key) (g:bo y u):
 KT H (kvs.map λb=>if b.1=k then (b.1,y) else b) (xs.map (putAt k u)):=by
 induction r with
 | nil=>exact .nil
 | @cons p q i j h t f=>
  rw [dt,dt];refine .cons ?_ f;obtain ⟨a,c,d⟩:=h;unfold putAt
  by_cases e:p.1=k
  ·rw [if_pos e,if_pos (a.symm.trans e)];exact ⟨a,c,g⟩
  ·rw [if_neg e,if_neg (λz=>e (a.trans z))];exact ⟨a,c,d⟩
theorem KT.put (r:KT H kvs xs) (k:List Key) (c:H b=some (.tup (k.map kV))) (a:bo y u):
 KT H (d7 kvs k y) (storedH xs k b u):=by
 have e:(kvs.any λd=>decide (d.1=k))=(atKey xs k).isSome:=by rw [si,(r.val k).dc,xP]
 unfold d7 storedH;rw [e]
 by_cases q:(atKey xs k).isSome=true
 ·rw [if_pos q,if_pos q];exact r.tj k a
 ·rw [if_neg q,if_neg q];exact AB r ⟨U,c,a⟩
theorem KT.keeps (r:KT H kvs xs) (a:∀b ys,H b=some (.tup ys)->H' b=some (.tup ys)):KT H' kvs xs:=
 Paired.g9 r λ_ _ z=>⟨z.1,a _ _ z.2.1,z.2.2⟩
section
theorem Me (ok:ei P w H h) (e:Rd H a u):dd P w H h a u:=e.ok ok
theorem vw (ok:ei P w H h) (e:Rd H a (.dK kvs)):kvs.length<=sizeLine/\(a==sysModules)=false/\∃vs,KV kvs vs/\h.DictOf (jx P w) a vs:=
 show dd P w H h a (.dK kvs) from Me ok e
theorem Ml (ok:ei P w H h) (e:H a=some (.dK kvs)):kvs.length<=sizeLine/\(a==sysModules)=false/\∃vs,KV kvs vs/\h.DictOf (jx P w) a vs:=vw ok (.inl e)
theorem vG (ok:ei P w H h) (e:H a=some (.tup (ks.map kV))):(tupleKind (jx P w)).is h ks a:=by obtain ⟨_,f,r,o,b,c,n,d⟩:=(show dd P w H h a (.tup (ks.map kV)) from ok a _ e);exact ⟨o,f.toArray,n,b,c,d,by simpa using KP r⟩
theorem vy (ok:ei P w H h) (e:Rd H a (.dT kvs)):kvs.length<=sizeLine/\(a==sysModules)=false/\
 ∃xs,KT H kvs xs/\h.DictOfH (tupleKind (jx P w)) a xs:=by
 obtain ⟨z,y,xs,r,o,g,f,i,j,k,n,s⟩:=(show dd P w H h a (.dT kvs) from Me ok e);refine ⟨z,y,xs,r,o,g,f,i,j,k,n,λx b=>?_,s⟩;have d:∀{l:List (List Key×V)} {m:List (List Key×Addr×Value)},KT H l m->∀x∈m,(tupleKind (jx P w)).is h x.1 x.2.1:=by
  intro l m q
  induction q with
  | nil=>intro x b;exact nomatch b
  | @cons p q v A c t u=>
   intro x b;rcases eG.mp b with e | b
   ·subst e;exact vG ok (by rw [<-c.1];exact c.2.1)
   ·exact u x b
 exact d r x b
theorem T6 (ok:ei P w H h) (e:H a=some (.dT kvs)):kvs.length<=sizeLine/\(a==sysModules)=false/\
 ∃xs,KT H kvs xs/\h.DictOfH (tupleKind (jx P w)) a xs:=vy ok (.inl e)
end
def ea (H:Hp) (a:Addr) (y:V) (r:Option V):Prop:=
 (∃c k,Rd H a (.dK c)/\y=kV k/\r=ed c k)\/∃c k b,Rd H a (.dT c)/\y=.ref b/\H b=some (.tup (k.map kV))/\r=ed c k
def nH (H:Hp) (a:Addr) (y v:V) (d:Hp):Prop:=
 (∃c k,H a=some (.dK c)/\y=kV k/\c.length<sizeLine/\d=upd H a (.dK (d7 c k v)))\/
 ∃c k b,H a=some (.dT c)/\y=.ref b/\H b=some (.tup (k.map kV))/\c.length<sizeLine/\d=upd H a (.dT (d7 c k v))
theorem ea.k {H:Hp} {a:Addr} {kvs:List (Key×V)} {k:Key} (e:H a=some (.dK kvs)):ea H a (kV k) (ed kvs k):=.inl ⟨kvs,k,.inl e,U,U⟩
theorem ea.t {H:Hp} {a b:Addr} {kvs:List (List Key×V)} {k:List Key} (e:H a=some (.dT kvs)) (c:H b=some (.tup (k.map kV))):ea H a (.ref b) (ed kvs k):=.inr ⟨kvs,k,b,.inl e,U,c,U⟩
theorem nH.k {H:Hp} {a:Addr} {kvs:List (Key×V)} {k:Key} {v:V} (e:H a=some (.dK kvs)) (b:kvs.length<sizeLine):nH H a (kV k) v (upd H a (.dK (d7 kvs k v))):=.inl ⟨kvs,k,e,U,b,U⟩
theorem nH.t {H:Hp} {a b:Addr} {kvs:List (List Key×V)} {k:List Key} {v:V} (e:H a=some (.dT kvs)) (c:H b=some (.tup (k.map kV))) (d:kvs.length<sizeLine):
 nH H a (.ref b) v (upd H a (.dT (d7 kvs k v))):=.inr ⟨kvs,k,b,e,U,c,d,U⟩
section
theorem Inv.big (I:Inv X pins σ H s):sysModules<s.heap.objs.size:=by have h:mainGlobals<s.heap.objs.size:=(I.mod.glob.keeps I.bk).lt;exact Nat.lt_trans (by decide) h
theorem Qv (B:A.units+1<cLine) (I:Inv X pins σ H s) (g:ea H a y (some v)) (n:bo y u) (h:∀c s',Inv X pins σ H s'->bo v c->Q c s'):
 wpAny (model X.prog X.w) A (getItem (.ref a) u) Q E s:=by
 rcases g with ⟨C,k,e,f,l⟩ | ⟨C,k,b,e,f,q,l⟩
 ·subst f;obtain ⟨z,r,D,j,d⟩:=vw I.a7 e;obtain ⟨c,i,m⟩:=iX.some_of (v:=v) (o:=valueAt D k) (by rw [l];exact j.val k);exact wpAny_getItem_of (uy n) d.mapOf i (h c _ (I.tok _) m)
 ·subst f;cases (show u=Value.ref b from n);obtain ⟨z,r,F,j,d⟩:=vy I.a7 e;obtain ⟨c,i,m⟩:=iX.some_of (v:=v) (o:=(atKey F k).map (·.2)) (by rw [l];exact j.val k);obtain ⟨p,t,x⟩:=Option.map_eq_some_iff.mp i;refine wpAny_getItem_heap (AN B) (vG I.a7 q) d t ?_;rw [x];exact h c _ (I.tok _) m
theorem Sl (n:A.units+1<cLine) (I:Inv X pins σ H s) (g:ea H a y o) (j:bo y u) (h:∀s',Inv X pins σ H s'->Q (.bool o.isSome) s'):
 wpAny (model X.prog X.w) A (compareOp .In u (.ref a)) Q E s:=by
 rcases g with ⟨p,k,e,d,l⟩ | ⟨p,k,b,e,d,m,l⟩
 ·subst d;obtain ⟨z,f,r,i,c⟩:=vw I.a7 e;refine wpAny_in_of (uy j) f c.mapOf ?_;rw [<-(i.val k).dc,<-l];exact h _ (I.tok _)
 ·subst d;cases (show u=Value.ref b from j);obtain ⟨z,f,t,i,c⟩:=vy I.a7 e;refine wpAny_in_heap (AN n) (vG I.a7 m) f c ?_;have q:=(i.val k).dc;rw [xP] at q;rw [<-q,<-l];exact h _ (I.tok _)
theorem VR (n:A.units+1<cLine) (I:Inv X pins σ H s) (g:ea H a y o) (j:bo y u) (h:∀s',Inv X pins σ H s'->Q (.bool (!o.isSome)) s'):
 wpAny (model X.prog X.w) A (compareOp .NotIn u (.ref a)) Q E s:=by
 rcases g with ⟨p,k,e,d,l⟩ | ⟨p,k,b,e,d,m,l⟩
 ·subst d;obtain ⟨z,f,r,i,c⟩:=vw I.a7 e;refine wpAny_notIn_of (uy j) f c.mapOf ?_;rw [<-(i.val k).dc,<-l];exact h _ (I.tok _)
 ·subst d;cases (show u=Value.ref b from j);obtain ⟨z,f,t,i,c⟩:=vy I.a7 e;refine wpAny_notIn_heap (AN n) (vG I.a7 m) f c ?_;have q:=(i.val k).dc;rw [xP] at q;rw [<-q,<-l];exact h _ (I.tok _)
theorem yN (I:Inv X pins σ H s) (g:vl (H a)) (f:Heap.SameBut a s.heap h') (d:∃q,h'.get? a=some q) (h:dd X.prog X.w (upd H a ob) h' a ob):
 Inv X pins σ (upd H a ob) { s with heap:=h',toks:=t' }:=
 I.write (x:=a) (e:=a) g (.inl U) (λb q c z=>(f.2 b c).trans z) d h
theorem Ha (z:kvs.length<=sizeLine) (c:(a==sysModules)=false) (d:KV kvs vs) (b:h'.DictOf (jx P w) a vs):
 dd P w H' h' a (.dK kvs):=⟨z,c,vs,d,b⟩
theorem QK (V:A.units+1<cLine) (I:Inv X pins σ H s) (g:nH H a y v H') (J:bo y u) (G:bo v r) (h:∀s',Inv X pins σ H' s'->Q () s'):
 wpAny (model X.prog X.w) A (setItem (.ref a) u r) Q E s:=by
 rcases g with ⟨d,k,e,o,l,n⟩ | ⟨d,k,b,e,o,C,l,n⟩
 ·subst o n;obtain ⟨z,p,W,f,m⟩:=Ml I.a7 e;have B:W.length<=sizeLine:=by rw [<-f.length];exact z
  have t:(d7 d k v).length<=sizeLine:=by have:=uF d k v;exact BZ l this
  refine wpAny_setItem_pairs (hsz:=B) (uy J) m λF i x=>h _ ?_;have T:∃q,F.get? a=some q:=let ⟨q,_,_,j,_⟩:=i;⟨q,j⟩;exact yN I (by rw [e];exact True.intro) x T (Ha t p (f.put k G) i)
 ·subst o n;cases (show u=Value.ref b from J);obtain ⟨z,p,Y,f,m⟩:=T6 I.a7 e;have B:Y.length<=sizeLine:=by rw [<-i4 f];exact z
  have t:(d7 d k v).length<=sizeLine:=by have:=uF d k v;exact BZ l this
  refine wpAny_setItem_heap (hsz:=B) (AN V) (vG I.a7 C) m λF i x=>h _ ?_;obtain ⟨q,M,L,j,N,O,R,_,S⟩:=i;refine yN I (by rw [e];exact True.intro) x ⟨q,j⟩ ⟨t,p,_,(f.put k C G).keeps λc Z D=>?_,q,M,L,j,N,O,R,S⟩;rw [aq (cp D e nofun)];exact D
end
section
end
def CG (i:Expr):Prop:=∀b a,subscripted i false b a=operate [b,a] (getItem b a)
theorem IG {prog:Program} {A:Around} {E:Value->Shared->Prop} {s:Shared} {env:Env} {d a:Expr} {n:Pos} {T id:String} {Q:Value->Shared->Prop}
 (j:typeLookup (.type T) "__getitem__"=pure (some (.builtin id))) (k:CG a)
 (h:wpAny (model prog w) A (eval d env) (λo f=>wpAny (model prog w) A (eval a env) (λi kU=>kU.TypeIs o T/\wpAny (model prog w) A (getItem o i) Q E kU) E f) E s):
 wpAny (model prog w) A (eval (.Subscript d a n) env) Q E s:=by
 refine Subscript_ (hV h (λo f l=>hV l (λi kU c=>?_) λ_ _ x=>x) λ_ _ x=>x);obtain ⟨e,c⟩:=c;unfold subscriptTail;refine ab ?_;rw [getitemInPython_of_ne e.not_modules];refine ab (wpAny_specialOf e j ?_);have b:wpAny (model prog w) A (subscripted a false o i) (λr g=>wpAny (model prog w) A (letTemporaryGo d o r>>=λ_=>pure r) Q E g) E kU:=by rw [k o i];exact wpAny_operating (hV c (λr g m=>ab (wpAny_letTemporaryGo (aG m))) λ_ _ x=>x)
 first
  | exact aG (ab b)
  | exact ab (aG (ab b))
  | exact ab b
theorem RJ (I:Inv X pins σ H s) (g:ea H a y o):s.TypeIs (.ref a) "dict":=by
 rcases g with ⟨d,k,e,_,_⟩ | ⟨d,k,b,e,_,_,_⟩
 ·obtain ⟨_,_,f,_,c⟩:=vw I.a7 e;exact c.typeIs
 ·obtain ⟨_,_,h,_,c⟩:=vy I.a7 e;exact c.typeIs
def UQ (e f:TE):TE:=λc H Q=>e c H λx d=>f c d λy b=>∃a v,x=.ref a/\ea b a y (some v)/\Q v b
def S_ (f e:TE):TE:=λc H Q=>f c H λy d=>e c d λx b=>∃a o,x=.ref a/\ea b a y o/\Q (.bl o.isSome) b
def Pa (f e:TE):TE:=λc H Q=>f c H λy d=>e c d λx b=>∃a o,x=.ref a/\ea b a y o/\Q (.bl (!o.isSome)) b
def UL (g i h:TE):TS:=λD b H=>h b H λv d=>g b d λx e=>i b e λy f=>∃a c,x=.ref a/\nH f a y v c/\D.nx b c
section
theorem jT (r:X.A.units+1<cLine) (p:PE X o J) (n:PE X i ty) (q:CG i):PE X (.Subscript o i pos) (UQ J ty):=by intro d s e H Q I h;refine IG PySem.F.slot_dict_getitem.lookup q (ar (p d s e H _ I h) λu D b=>L2.dy b λx f k B t=>ar (n d D e f _ k t) λE F b=>?_);obtain ⟨y,j,c,C,a,v,m,g,z⟩:=b;subst m;obtain rfl:u=Value.ref a:=B;exact ⟨RJ c g,Qv r c g C λL G l A=>⟨v,j,l,A,z⟩⟩
theorem B0 (q:X.A.units+1<cLine) (n:PE X i ty) (p:PE X o C):PC X .In i o (S_ ty C):=by intro c s d H Q I h;refine ar (n c s d H _ I h) λD B b=>L2.dy b λy e j A t=>ar (p c B d e _ j t) λu E b=>?_;obtain ⟨x,f,k,z,a,r,m,g,v⟩:=b;subst m;obtain rfl:u=Value.ref a:=z;exact Sl q k g A λF l=>⟨.bl r.isSome,f,l,U,v⟩
theorem zF (q:X.A.units+1<cLine) (n:PE X i ty) (p:PE X o C):PC X .NotIn i o (Pa ty C):=by intro c s d H Q I h;refine ar (n c s d H _ I h) λD B b=>L2.dy b λy e j A t=>ar (p c B d e _ j t) λu E b=>?_;obtain ⟨x,f,k,z,a,r,m,g,v⟩:=b;subst m;obtain rfl:u=Value.ref a:=z;exact VR q k g A λF l=>⟨.bl (!r.isSome),f,l,U,v⟩
theorem yZ (A:X.A.units+1<cLine) (t:PE X o td) (q:PE X i ty) (B:PE X value tv) (z:swapsWith value (some (.Subscript o i pos')) pos.line X.env=pure false):
 PS X (.Assign [.Subscript o i pos'] value pos) (UL td ty tv):=by
 intro d s c H D I h;refine wpAny_Assign_Subscript (ar (B d s c H _ I h) λr M b=>L2.dy b λv e k G C=>ar (t d M c e _ k C) λu N b=>L2.dy b λx f l J E=>ar (q d N c f _ l E) λQ R b=>?_) z;obtain ⟨y,O,m,L,a,j,p,g,F⟩:=b;subst p;obtain rfl:u=Value.ref a:=J;exact QK A m g L G λS n=>⟨c,j,n,F⟩
end
theorem IQ (h:Heap) (a:sysModules<h.objs.size):dd P w H (h.push { cls:=.type "dict",data:=.dict #[] }) h.objs.size (.dK []):=
 ⟨cN _,beq_eq_false_iff_ne.mpr (aQ (eF a)),[],.nil,Heap.DictOf.new h⟩
theorem P6 (h:Heap) (a:sysModules<h.objs.size):dd P w H (h.push { cls:=.type "dict",data:=.dict #[] }) h.objs.size (.dT []):=
 ⟨cN _,beq_eq_false_iff_ne.mpr (aQ (eF a)),[],.nil,_,#[],0,hY _ U,⟨U,U,U⟩,U,U,uc⟩
def Vx:TE:=λ_ H Q=>∀p,H p=none->Q (.ref p) (upd H p (.dK []))
def Vy:TE:=λ_ H Q=>∀p,H p=none->Q (.ref p) (upd H p (.dT []))
section
theorem I_:PE X (.Dict [] [] pos) Vx:=λb s c H Q I h=>
 wpAny_Dict_empty ⟨.ref s.heap.objs.size,_,I.laid (a:=s.heap.objs.size) (o:=.dK []) (t':=s.toks) (λ_ _ q=>df _ q) (aj _) (IQ s.heap I.big),U,h _ (I.a7.fresh (aj _))⟩
theorem Pr:PE X (.Dict [] [] pos) Vy:=λb s c H Q I h=>
 wpAny_Dict_empty ⟨.ref s.heap.objs.size,_,I.laid (a:=s.heap.objs.size) (o:=.dT []) (t':=s.toks) (λ_ _ q=>df _ q) (aj _) (P6 s.heap I.big),U,h _ (I.a7.fresh (aj _))⟩
end
def B4:List (TE×TE)->St->Hp->(List (V×V)->Hp->Prop)->Prop
 | [],_,H,Q=>Q [] H
 | (f,g)::r,a,H,Q=>f a H λx b=>g a b λy c=>B4 r a c λe d=>Q ((x,y)::e) d
abbrev VV:List (V×V)->List (Value×Value)->Prop:=Paired λp q=>bo p.1 q.1/\bo p.2 q.2
def Bc (X:Cx) (f:Pos) (e:List (Option Expr)) (i:List Expr) (h:List (TE×TE)):Prop:=
 ∀(c:List (Addr×Obj)) (s:Shared) (a:St) (H:Hp) (Q:List (V×V)->Hp->Prop),Inv X c a H s->B4 h a H Q->
  wpAny (model X.prog X.w) X.A (evalPairs (pairTrees e i X.env f)) (λj g=>∃d b,Inv X c a b g/\VV d j/\Q d b) X.xe s
theorem VM:Bc X pos [] [] []:=λa s b H Q I h=>pairTrees_nil_walk ⟨[],H,I,.nil,h⟩
theorem Pw (l:PE X k J) (n:PE X v tv) (m:Bc X pos ks vs Wc):
 Bc X pos (some k::ks) (v::vs) ((J,tv)::Wc):=λb s c H Q I h=>
 pairTrees_cons_walk (ar (l b s c H _ I h) λu B a=>L2.dy a λx d g z p=>ar (n b B c d _ g p) λE C a=>L2.dy a λy e i A q=>
  ar (m b C c e _ i q) λF D a=>L2.dy a λo f j t r=>⟨(x,y)::o,f,j,.cons ⟨z,A⟩ t,r⟩)
def qz (kvs c:List (Key×V)):List (Key×V):=c.foldl (λb a=>d7 b a.1 a.2) kvs
theorem KV.merge:∀{a:List (Key×V)} {b:List (Key×Value)} {kvs:List (Key×V)} {vs:List (Key×Value)},KV a b->KV kvs vs->KV (qz kvs a) (merged vs b):=by
 intro a b kvs vs r;unfold KV at r
 induction r generalizing kvs vs with
 | nil=>intro q;exact q
 | @cons p q f g h t c=>
  intro d;have e:KV (d7 kvs p.1 p.2) (stored vs q.1 q.2):=by have:=d.put p.1 h.2;rw [<-h.1];exact this
  exact c e
theorem LF:∀(a kvs:List (Key×V)),(qz kvs a).length<=kvs.length+a.length
 | [],kvs=>by show kvs.length<=kvs.length+0;exact h9
 | p::r,kvs=>by have b:=LF r (d7 kvs p.1 p.2);have c:=uF kvs p.1 p.2;show (qz (d7 kvs p.1 p.2) r).length<=_;rw [jl];exact Cf b c
theorem Li {P:Program} {w:World}:∀{kvs:List (Key×V)} {f:List (Value×Value)},VV (kvs.map λe=>(kV e.1,e.2)) f->∃d,Carries (jx P w) f d/\KV kvs d
 | [],_,r=>by rw [oB] at r;cases r;exact ⟨[],True.intro,.nil⟩
 | p::kvs,_,r=>by
  rw [dt] at r
  cases r with
  | @cons a b i k h t=>
   obtain ⟨d,c,q⟩:=Li (P:=P) (w:=w) t;obtain ⟨j,g⟩:=b;exact ⟨(p.1,g)::d,⟨uy h.1,U,c⟩,.cons ⟨U,h.2⟩ q⟩
def T_ (e:List (TE×TE)):TE:=λf H Q=>∀p,H p=none->B4 e f (upd H p (.dK [])) λd b=>b p=some (.dK [])/\∃a:List (Key×V),d=a.map (λc=>(kV c.1,c.2))/\a.length<=15/\Q (.ref p) (upd b p (.dK (qz [] a)))
theorem VF (h:Bc X pos keys values J) (n:keys.all (·.isSome)=true) (t:keys.length=values.length) (k:keys≠[])
 (m:keys.length<=15):PE X (.Dict keys values pos) (T_ J):=by
 intro A s L H Q I q;have u:=I.a7.fresh (aj s.heap.objs.size);have g:=I.laid (a:=s.heap.objs.size) (o:=.dK []) (h':=s.heap.push { cls:=.type "dict",data:=.dict #[] }) (t':=s.toks) (λ_ _ q=>df _ q) (aj _) (IQ s.heap I.big);refine wpAny_Dict_walk (knd:=jx X.prog X.w) n t k m (ar (h A _ L _ _ g (q _ u)) λS O G=>?_);obtain ⟨N,M,b,D,e,f,j,lk,B⟩:=G;subst j;obtain ⟨F,c,E⟩:=Li (P:=X.prog) (w:=X.w) D;obtain ⟨z,p,R,C,i⟩:=Ml b.a7 e;cases C;refine ⟨F,c,i,λh' d x=>⟨.ref s.heap.objs.size,_,?_,U,B⟩⟩;have y:(qz [] f).length<=sizeLine:=by have l:=LF f [];rw [List.length_nil] at l;rw [sizeLine_eq];omega
 have r:∃q,h'.get? s.heap.objs.size=some q:=let ⟨q,_,_,v,_⟩:=d;⟨q,v⟩;exact yN b (by rw [e];exact True.intro) x r (Ha y p (E.merge .nil) d)
structure M1 (X:Cx) (o:Expr) (m:Str) (apos:Pos) (e:Expr) (fv:Pos):Prop where
 base:attributeBase o m X.env (eval o X.env)=eval o X.env
 ny:((backTo fv (starEach [e] X.env)).all (λx=> !x.1) && (backToKw fv (keywordEach [] X.env)).all (λx=>x.1.isSome)
  && decide (([e]:List Expr).length+([]:List Keyword).length+(if ([]:List Keyword).isEmpty then 0 else 1)<30))=true
 line:(apos.endLine==fv.line)=true
 trees:backTo fv (starEach [e] X.env)=[(false,eval e X.env)]
section
end
section
end
section
end
section
end
end L2
namespace MT
end MT
namespace MU
structure ah where
 tie:Bool
 a:Nat
 b:Nat
 v:Int
inductive Wd where
 | told | sum | a3 | aS | sure | back | ao
structure Row where
 bP:ah
 word:Wd
 used:List Nat
abbrev Key:=Bool×Nat×Nat
def ah.key (w:ah):Key:=(w.tie,w.a,w.b)
structure St where
 rows:List Row
 best:Key->Option Nat
 bar:Option Nat
abbrev c9:=Nat->Option (Nat×Int×Int)
def ae (st:St) (i:Nat):Option ah:=(st.rows[i]?).map (·.bP)
def val (st:St) (k:Key):Option Int:=(st.best k).bind λi=>(ae st i).map (·.v)
def dh (tie:Bool) (v u:Int):Prop:=if tie=true then v<u else u<v
theorem RN (a:dh b x y) (c:dh b y z):dh b x z:=by unfold dh at*;cases b<;>simp_all<;>lia
theorem C7 (a:¬dh b x y) (c:¬dh b y z):¬dh b x z:=by unfold dh at*;cases b<;>simp_all<;>lia
theorem Lh (h:dh b x y):¬dh b y x:=by unfold dh at*;cases b<;>simp_all<;>exact eA h
def fh (st:St) (w:ah):Prop:=if w.tie=true/\w.a=w.b then w.v<0 else ∀u,val st w.key=some u->dh w.tie w.v u
def fY (w:ah):Prop:=w.tie=true/\w.a=w.b/\w.v<0
instance (w:ah):Decidable (fY w):=by unfold fY;infer_instance
open Classical in
instance (st:St) (w:ah):Decidable (fh st w):=propDecidable _
def take (st:St) (w:ah) (word:Wd) (used:List Nat):St:=
 if fh st w then { rows:=st.rows++[⟨w,word,used⟩],best:=λk=>if k=w.key then some st.rows.length else st.best k,bar:=if st.bar=none/\fY w then some st.rows.length else st.bar } else st
def av (p q:ah):Option ah:=if p.tie=true/\q.tie=true/\p.b=q.a then some ⟨true,p.a,q.b,p.v+q.v⟩ else none
def cz (F:c9) (p:ah):Option ah:=if p.tie=true/\p.a≠p.b then (F p.b).map λf=>⟨false,p.a,p.b,f.2.2-p.v⟩ else none
def cD (F:c9) (p:ah):Option ah:=if p.tie=true/\p.a≠p.b/\p.v<0 then (F p.a).map λf=>⟨true,f.1,p.b,f.2.1+p.v⟩ else none
def cG (F:c9) (p:ah):Option ah:=if p.tie=false then (F p.b).map λf=>⟨true,p.a,f.1,-min p.v f.2.1⟩ else none
def aR (F:c9) (p q:ah):Option ah:=if p.tie=false/\q.tie=true/\q.b=p.a/\q.a≠p.b then (F p.b).map λf=>⟨false,q.a,p.b,min p.v f.2.2-q.v⟩ else none
def cy (F:c9) (p:ah):Option ah:=if p.tie=false/\p.a≠p.b/\0<p.v then (F p.a).bind λo=>(F p.b).map λf=>⟨false,o.1,p.b,min p.v f.2.2-o.2.1⟩ else none
def put (st:St) (o:Option ah) (word:Wd) (used:List Nat):St:=match o with
 | some w=>take st w word used
 | none=>st
def a6 (f:ah->Option ah) (word:Wd) (i:Nat) (st:St):St:=put st ((ae st i).bind f) word [i]
def ai (f:ah->ah->Option ah) (word:Wd) (i j:Nat) (st:St):St:=put st ((ae st i).bind λp=>(ae st j).bind λq=>f p q) word [i,j]
def cq (n:Nat) (st:St) (tie:Bool) (a:Nat):List Nat:=(List.range n).filterMap λb=>st.best (tie,a,b)
def cO (n:Nat) (st:St) (b:Nat):List Nat:=(List.range n).filterMap λa=>st.best (true,a,b)
def d9 (n:Nat) (F:c9) (at_ a b:Nat) (g:St):St:=
 let h:=a6 (cz F) .a3 at_ g
 let d:=a6 (cD F) .aS at_ h
 let e:=(cq n d true b).foldl (λc j=>ai av .sum at_ j c) d
 let f:=(cO n e a).foldl (λc j=>ai av .sum j at_ c) e
 (cq n f false b).foldl (λc j=>ai (aR F) .back j at_ c) f
def ef (n:Nat) (F:c9) (at_ a:Nat) (d:St):St:=
 let e:=a6 (cG F) .sure at_ d
 let b:=a6 (cy F) .ao at_ e
 (cO n b a).foldl (λc j=>ai (aR F) .back at_ j c) b
def look (n:Nat) (F:c9) (at_:Nat) (st:St):St:=match ae st at_ with
 | some w=>if st.best w.key=some at_ then (if w.tie=true then d9 n F at_ w.a w.b st else ef n F at_ w.a st) else st
 | none=>st
def run (n:Nat) (F:c9) (st:St):Nat->St
 | 0=>st
 | t+1=>look n F t (run n F st t)
structure Ext (s s':St):Prop where
 rows:∃more,s'.rows=s.rows++more
 best:∀k,s'.best k=s.best k\/∃j,s'.best k=some j/\s.rows.length<=j
 bar:s.bar≠none->s'.bar≠none
structure bz (n:Nat) (s:St):Prop where
 at_:∀k i,s.best k=some i->∃w,ae s i=some w/\w.key=k
 top:∀i w,ae s i=some w->∃j,i<=j/\s.best w.key=some j
 lt:∀i w,ae s i=some w->w.a<n/\w.b<n
 ne:s.bar=none->∀i w,ae s i=some w->w.a≠w.b
 drop:s.bar=none->∀i j w w',ae s i=some w->ae s j=some w'->w.key=w'.key->i<j->dh w.tie w'.v w.v
theorem jQ {w:ah} (h:ae s i=some w):i<s.rows.length:=by
 unfold ae at h
 cases q:s.rows[i]? with
 | none=>rw [q] at h;cases h
 | some r=>exact (eP.mp q).1
theorem br {w:ah} (e:Ext s s') (h:ae s i=some w):ae s' i=some w:=by obtain ⟨c,b⟩:=e.rows;have a:=jQ h;unfold ae at h ⊢;rw [b,nC a];exact h
theorem Ext.refl (s:St):Ext s s:=⟨⟨[],by simp⟩,λ_=>.inl U,λh=>h⟩
theorem Ext.len (e:Ext s s'):s.rows.length<=s'.rows.length:=by obtain ⟨b,a⟩:=e.rows;rw [a,ff];exact h9
theorem Ext.trans (x:Ext a b) (y:Ext b c):Ext a c:=by
 refine ⟨?_,λk=>?_,λh=>y.bar (x.bar h)⟩
 ·obtain ⟨i,f⟩:=x.rows;obtain ⟨l,g⟩:=y.rows;exact ⟨i++l,by rw [g,f,oE]⟩
 ·rcases y.best k with h | ⟨j,h,e⟩
  ·rcases x.best k with d | ⟨j,d,e⟩
   ·exact .inl (h.trans d)
   ·exact .inr ⟨j,h.trans d,e⟩
  ·exact .inr ⟨j,h,c7 x.len e⟩
theorem vS (st:St) (w:ah) (word:Wd) (used:List Nat):Ext st (take st w word used):=by
 unfold take;split
 ·refine ⟨⟨_,U⟩,λk=>?_,λh=>?_⟩
  ·show (if k=w.key then some st.rows.length else st.best k)=_\/∃j,(if k=w.key then some st.rows.length else st.best k)=some j/\_
   by_cases e:k=w.key
   ·rw [if_pos e];exact .inr ⟨_,U,aj _⟩
   ·rw [if_neg e];exact .inl U
  ·show (if st.bar=none/\fY w then some st.rows.length else st.bar)≠none;rw [if_neg λz=>h z.1];exact h
 ·exact Ext.refl st
theorem uA {w:ah} (h:ae ⟨rows++[r],best,bar⟩ i=some w):(i<rows.length/\(rows[i]?).map (·.bP)=some w)\/(i=rows.length/\w=r.bP):=by
 unfold ae at h
 by_cases c:i<rows.length
 ·left;refine ⟨c,?_⟩;have h:((rows++[r])[i]?).map (·.bP)=some w:=h
  rwa [nC c] at h
 ·right;have h:((rows++[r])[i]?).map (·.bP)=some w:=h;rw [lT (by exact jm c)] at h
  cases q:i-rows.length with
  | zero=>rw [q] at h;exact ⟨by lia,by cases h;rfl⟩
  | succ z=>rw [q] at h;cases h
theorem KO {w:ah} (g:bz n st) (F:w.a<n) (s:w.b<n) (hw:w.tie=false->w.a≠w.b):bz n (take st w word used):=by
 unfold take;split
 next f=>
  have O:∀{i u},ae st i=some u->ae { rows:=st.rows++[⟨w,word,used⟩],best:=λk=>if k=w.key then some st.rows.length else st.best k,bar:=if st.bar=none/\fY w then some st.rows.length else st.bar } i=some u:=λ{i u} h=>by have b:=jQ h;unfold ae at h ⊢;rw [nC b];exact h
  have N:ae { rows:=st.rows++[⟨w,word,used⟩],best:=λk=>if k=w.key then some st.rows.length else st.best k,bar:=if st.bar=none/\fY w then some st.rows.length else st.bar } st.rows.length=some w:=by unfold ae;rw [lT (aj _),Nat.sub_self];rfl
  have A:(if st.bar=none/\fY w then some st.rows.length else st.bar)=none->st.bar=none/\¬fY w:=λh=>by
   by_cases c:st.bar=none/\fY w
   ·rw [if_pos c] at h;cases h
   ·rw [if_neg c] at h;exact ⟨h,λz=>c ⟨h,z⟩⟩
  have D:¬fY w->w.a≠w.b:=λs e=>by
   cases l:w.tie with
   | false=>exact hw l e
   | true=>
    unfold fh at f;rw [if_pos ⟨l,e⟩] at f;exact s ⟨l,e,f⟩
  refine ⟨λk i h=>?_,λi u h=>?_,λi u h=>?_,λr i u h=>?_,λr i j u B h E d G=>?_⟩
  ·have h:(if k=w.key then some st.rows.length else st.best k)=some i:=h
   by_cases c:k=w.key
   ·rw [if_pos c] at h;cases h;exact ⟨w,N,c.symm⟩
   ·rw [if_neg c] at h;obtain ⟨u,a,d⟩:=g.at_ k i h;exact ⟨u,O a,d⟩
  ·show ∃j,i<=j/\(if u.key=w.key then some st.rows.length else st.best u.key)=some j;rcases uA h with ⟨b,a⟩ | ⟨b,rfl⟩
   ·by_cases c:u.key=w.key
    ·rw [if_pos c];exact ⟨_,aP b,U⟩
    ·rw [if_neg c];exact g.top i u a
   ·rw [if_pos rfl];exact ⟨_,ua b,U⟩
  ·rcases uA h with ⟨_,a⟩ | ⟨_,rfl⟩
   ·exact g.lt i u a
   ·exact ⟨F,s⟩
  ·obtain ⟨m,p⟩:=A r;rcases uA h with ⟨_,a⟩ | ⟨_,rfl⟩
   ·exact g.ne m i u a
   ·exact D p
  ·obtain ⟨m,p⟩:=A r;rcases uA E with ⟨I,L⟩ | ⟨I,q⟩
   ·rcases uA h with ⟨_,a⟩ | ⟨b,_⟩
    ·exact g.drop m i j u B a L d G
    ·lia
   ·have q:B=w:=q;rw [q] at d ⊢;rcases uA h with ⟨b,a⟩ | ⟨b,_⟩
    ·
     have a:ae st i=some u:=a;obtain ⟨t,H,y⟩:=g.top i u a;obtain ⟨C,o,J⟩:=g.at_ _ _ y;have M:val st w.key=some C.v:=by unfold val;have d:u.key=w.key:=d;rw [<-d,y];show (ae st t).map (·.v)=_;rw [o];rfl
     unfold fh at f;rw [if_neg λz=>D p z.2] at f;have v:=f _ M;have l:u.tie=w.tie:=congrArg Prod.fst d;rw [l]
     by_cases c:i=t
     ·subst c;rw [a] at o;cases o;exact v
     ·have x:=g.drop m i t u C a o J.symm (wa H c);rw [l] at x;exact RN v x
    ·lia
 next=>exact g
theorem og (st:St) (o:Option ah) (word:Wd) (used:List Nat):Ext st (put st o word used):=by
 cases o with
 | none=>exact Ext.refl st
 | some w=>exact vS st w word used
def Imp (s s':St):Prop:=Ext s s'/\∀k u,k.2.1≠k.2.2->val s k=some u->∃a,val s' k=some a/\¬dh k.1 u a
theorem uH (b:Bool) (u:Int):¬dh b u u:=by unfold dh;split<;>exact Int.not_lt.mpr (fO u)
theorem Imp.refl (s:St):Imp s s:=⟨Ext.refl s,λk u _ h=>⟨u,h,uH _ _⟩⟩
theorem Imp.trans (x:Imp a b) (y:Imp b c):Imp a c:=by refine ⟨x.1.trans y.1,λk u d h=>?_⟩;obtain ⟨j,e,g⟩:=x.2 k u d h;obtain ⟨l,f,i⟩:=y.2 k j d e;exact ⟨l,f,C7 g i⟩
theorem lM {w:ah} (h:s.best k=some i) (hw:ae s i=some w):val s k=some w.v:=by unfold val;rw [h];show (ae s i).map (·.v)=_;rw [hw];rfl
theorem zy {w:ah} (h:fh st w):val (take st w word used) w.key=some w.v/\ae (take st w word used) st.rows.length=some w/\(take st w word used).rows.length=st.rows.length+1:=by
 have e:take st w word used={ rows:=st.rows++[⟨w,word,used⟩],best:=λk=>if k=w.key then some st.rows.length else st.best k,bar:=if st.bar=none/\fY w then some st.rows.length else st.bar }:=by unfold take;rw [if_pos h]
 have a:ae (take st w word used) st.rows.length=some w:=by rw [e];unfold ae;rw [lT (aj _),Nat.sub_self];rfl
 refine ⟨lM (i:=st.rows.length) (by rw [e];show (if w.key=w.key then some st.rows.length else st.best w.key)=_;rw [if_pos rfl]) a,a,?_⟩;rw [e];show (st.rows++[_]).length=_;rw [ff];rfl
theorem sg {w:ah} (h:¬fh st w):take st w word used=st:=by unfold take;rw [if_neg h]
theorem Ra {w:ah} (b:k≠w.key) (h:val st k=some u):val (take st w word used) k=some u:=by
 by_cases c:fh st w
 ·have e:=vS st w word used;unfold val at h ⊢;have a:(take st w word used).best k=st.best k:=by
   unfold take;rw [if_pos c];show (if k=w.key then some st.rows.length else st.best k)=_;rw [if_neg b]
  rw [a]
  cases q:st.best k with
  | none=>rw [q] at h;cases h
  | some i=>
   rw [q] at h;have h:(ae st i).map (·.v)=some u:=h;show (ae (take st w word used) i).map (·.v)=some u
   cases o:ae st i with
   | none=>rw [o] at h;cases h
   | some r=>rw [br e o];rw [o] at h;exact h
 ·rw [sg c];exact h
theorem JN (st:St) (w:ah) (word:Wd) (used:List Nat):Imp st (take st w word used):=by
 refine ⟨vS st w word used,λk u e h=>?_⟩
 by_cases c:k=w.key
 ·by_cases b:fh st w
  ·have a:=b;unfold fh at a;have:¬(w.tie=true/\w.a=w.b):=λz=>e (by rw [c];exact z.2);rw [if_neg this] at a;have d:=a u (by rw [<-c];exact h);refine ⟨w.v,by rw [c];exact (zy b).1,λz=>?_⟩;rw [c] at z;exact Lh d z
  ·rw [sg b];exact ⟨u,h,uH _ _⟩
 ·exact ⟨u,Ra c h,uH _ _⟩
theorem zU {w:ah} (h:w.a≠w.b):∃u,val (take st w word used) w.key=some u/\¬dh w.tie w.v u:=by
 by_cases c:fh st w
 ·exact ⟨w.v,(zy c).1,uH _ _⟩
 ·rw [sg c];unfold fh at c;rw [if_neg λz=>h z.2] at c;have c:=Classical.not_forall.mp c;obtain ⟨u,a⟩:=c;have a:=Classical.not_imp.mp a;exact ⟨u,a.1,a.2⟩
theorem KL {w:ah} (h:fY w):(take st w word used).bar≠none:=by
 have a:fh st w:=by unfold fh;rw [if_pos ⟨h.1,h.2.1⟩];exact h.2.2
 unfold take;rw [if_pos a];show (if st.bar=none/\fY w then some st.rows.length else st.bar)≠none
 by_cases c:st.bar=none
 ·rw [if_pos ⟨c,h⟩];simp
 ·rw [if_neg λz=>c z.1];exact c
theorem Ic (st:St) (o:Option ah) (word:Wd) (used:List Nat):Imp st (put st o word used):=by
 cases o with
 | none=>exact Imp.refl st
 | some w=>exact JN st w word used
theorem cW (a:∀s j,Imp s (f s j)):∀(l:List Nat) (s:St),Imp s (l.foldl f s)
 | [],s=>Imp.refl s
 | j::l,s=>(a s j).trans (cW a l (f s j))
theorem eC (f:ah->Option ah) (word:Wd) (i:Nat) (s:St):Imp s (a6 f word i s):=Ic ..
theorem ck (f:ah->ah->Option ah) (word:Wd) (i j:Nat) (s:St):Imp s (ai f word i j s):=Ic ..
theorem RM (n:Nat) (F:c9) (at_ a b:Nat) (s:St):Imp s (d9 n F at_ a b s):=
 ((((eC _ _ _ _).trans (eC _ _ _ _)).trans (cW (λ_ _=>ck ..) _ _)).trans (cW (λ_ _=>ck ..) _ _)).trans (cW (λ_ _=>ck ..) _ _)
theorem RU (n:Nat) (F:c9) (at_ a:Nat) (s:St):Imp s (ef n F at_ a s):=
 ((eC _ _ _ _).trans (eC _ _ _ _)).trans (cW (λ_ _=>ck ..) _ _)
theorem zev (n:Nat) (F:c9) (at_:Nat) (s:St):Imp s (look n F at_ s):=by
 unfold look;split
 ·split
  ·split
   ·exact RM ..
   ·exact RU ..
  ·exact Imp.refl s
 ·exact Imp.refl s
structure fw (n:Nat) (F:c9) (most:Int):Prop where
 lt:∀e f,F e=some f->f.1<n/\e<n
 own:∀e f,F e=some f->F f.1=none
 num:∀e f,F e=some f->1<=f.2.1/\f.2.1<=f.2.2/\f.2.2<=most
def oI (n:Nat) (w:ah):Prop:=w.a<n/\w.b<n/\(w.tie=false->w.a≠w.b)
theorem BW (g:bz n st) (h:∀w,o=some w->oI n w):bz n (put st o word used):=by
 cases o with
 | none=>exact g
 | some w=>exact KO g (h w U).1 (h w U).2.1 (h w U).2.2
theorem jS (g:bz n s) (a:∀p w,p.a<n->p.b<n->f p=some w->oI n w):bz n (a6 f word i s):=by
 refine BW g λw h=>?_
 cases q:ae s i with
 | none=>rw [q] at h;cases h
 | some p=>
  rw [q] at h;have:=g.lt i p q;exact a p w this.1 this.2 h
theorem rY (g:bz n s) (c:∀p q w,p.a<n->p.b<n->q.a<n->q.b<n->f p q=some w->oI n w):bz n (ai f word i j s):=by
 refine BW g λw h=>?_
 cases o:ae s i with
 | none=>rw [o] at h;cases h
 | some p=>
  rw [o] at h;have h:(ae s j).bind (λq=>f p q)=some w:=h
  cases C:ae s j with
  | none=>rw [C] at h;cases h
  | some q=>
   rw [C] at h;have a:=g.lt i p o;have b:=g.lt j q C;exact c p q w a.1 a.2 b.1 b.2 h
theorem qL (a:∀s j,bz n s->bz n (f s j)):∀(l:List Nat) (s:St),bz n s->bz n (l.foldl f s)
 | [],_,g=>g
 | j::l,s,g=>qL a l (f s j) (a s j g)
theorem vL (p q w:ah) (a:p.a<n) (_:p.b<n) (_:q.a<n) (b:q.b<n) (h:av p q=some w):oI n w:=by
 unfold av at h;split at h
 ·cases h;exact ⟨a,b,λz=>nomatch z⟩
 ·cases h
theorem vP (p w:ah) (a:p.a<n) (b:p.b<n) (h:cz F p=some w):oI n w:=by
 unfold cz at h;split at h
 next c=>
  cases q:F p.b with
  | none=>rw [q] at h;cases h
  | some f=>rw [q] at h;cases h;exact ⟨a,b,λ_=>c.2⟩
 ·cases h
theorem vR (b:fw n F most) (p w:ah) (_:p.a<n) (a:p.b<n) (h:cD F p=some w):oI n w:=by
 unfold cD at h;split at h
 ·cases q:F p.a with
  | none=>rw [q] at h;cases h
  | some f=>rw [q] at h;cases h;exact ⟨(b.lt _ _ q).1,a,λz=>nomatch z⟩
 ·cases h
theorem zw (b:fw n F most) (p w:ah) (a:p.a<n) (_:p.b<n) (h:cG F p=some w):oI n w:=by
 unfold cG at h;split at h
 ·cases q:F p.b with
  | none=>rw [q] at h;cases h
  | some f=>rw [q] at h;cases h;exact ⟨a,(b.lt _ _ q).1,λz=>nomatch z⟩
 ·cases h
theorem BI (p q w:ah) (_:p.a<n) (a:p.b<n) (b:q.a<n) (_:q.b<n) (h:aR F p q=some w):oI n w:=by
 unfold aR at h;split at h
 next c=>
  cases e:F p.b with
  | none=>rw [e] at h;cases h
  | some f=>rw [e] at h;cases h;exact ⟨b,a,λ_=>c.2.2.2⟩
 ·cases h
theorem z6 (a:fw n F most) (p w:ah) (_:p.a<n) (b:p.b<n) (h:cy F p=some w):oI n w:=by
 unfold cy at h;split at h
 ·cases e:F p.a with
  | none=>rw [e] at h;cases h
  | some o=>
   rw [e] at h;have h:(F p.b).map (λf=>(⟨false,o.1,p.b,min p.v f.2.2-o.2.1⟩:ah))=some w:=h
   cases C:F p.b with
   | none=>rw [C] at h;cases h
   | some f=>
    rw [C] at h;cases h;refine ⟨(a.lt _ _ e).1,b,λ_ z=>?_⟩;have z:o.1=p.b:=z;have:=a.own _ _ e;rw [z,C] at this;cases this
 ·cases h
theorem QH (a:fw n F most) (g:bz n s):bz n (look n F at_ s):=by
 unfold look;split
 ·split
  ·split
   ·refine qL (λ_ _ g=>rY g BI) _ _ (qL (λ_ _ g=>rY g vL) _ _ (qL (λ_ _ g=>rY g vL) _ _ (jS (jS g vP) (vR a))))
   ·exact qL (λ_ _ g=>rY g BI) _ _ (jS (jS g (zw a)) (z6 a))
  ·exact g
 ·exact g
theorem u9 (a:fw n F most) (g:bz n s):∀t,bz n (run n F s t)
 | 0=>g
 | t+1=>QH a (u9 a g t)
def Add (C:ah->Prop) (s s':St):Prop:=∀i w,s.rows.length<=i->ae s' i=some w->C w
theorem Add.refl (s:St):Add C s s:=λi w h e=>absurd (jQ e) (by exact AS h)
theorem Add.trans (x:Add C a b) (e:Ext b c) (y:Add C b c):Add C a c:=λi w h f=>by
 by_cases d:i<b.rows.length
 ·have:∃w',ae b i=some w':=⟨_,by unfold ae;rw [gp d];rfl⟩;obtain ⟨w',g⟩:=this;have:=br e g;rw [f] at this;cases this;exact x i w h g
 ·exact y i w (by exact jm d) f
theorem JM {w:ah} (h:C w):Add C s (take s w word used):=λi u d a=>by
 by_cases c:fh s w
 ·obtain ⟨_,b,f⟩:=zy (word:=word) (used:=used) c;have:=jQ a;have e:i=s.rows.length:=by lia
  rw [e,b] at a;cases a;exact h
 ·rw [sg c] at a;exact absurd (jQ a) (by exact AS d)
theorem oe (h:∀w,o=some w->C w):Add C s (put s o word used):=by
 cases o with
 | none=>exact Add.refl s
 | some w=>exact JM (h w U)
theorem rS (a:ae s i=some p) (h:∀w,f p=some w->C w):Add C s (a6 f word i s):=oe λw e=>by rw [a] at e;exact h w e
theorem Bm (a:ae s i=some p) (b:ae s j=some q) (h:∀w,f p q=some w->C w):Add C s (ai f word i j s):=oe λw e=>by rw [a] at e;have e:(ae s j).bind (λq=>f p q)=some w:=e;rw [b] at e;exact h w e
theorem sD (a:∀s j,Imp s (f s j)):∀(l:List Nat) (s0 s:St),Imp s0 s->(∀j∈l,∀s1,Imp s0 s1->Add C s1 (f s1 j))->Add C s (l.foldl f s)
 | [],_,s,_,_=>Add.refl s
 | j::l,s0,s,b,h=>(h j dB s b).trans (cW a l (f s j)).1 (sD a l s0 (f s j) (b.trans (a s j)) λk c=>h k (eI _ c))
theorem Cp (a:∀s j,Imp s (f s j)):∀(l:List Nat) (s:St) (j:Nat),j∈l->∃s1,Imp s s1/\Imp (f s1 j) (l.foldl f s)
 | [],_,_,h=>nomatch h
 | k::l,s,j,h=>by
  rcases eG.mp h with e | h
  ·subst e;exact ⟨s,Imp.refl s,cW a l (f s j)⟩
  ·obtain ⟨s1,b,c⟩:=Cp a l (f s k) j h;exact ⟨s1,(a s k).trans b,c⟩
theorem Cr (h:j∈cq n st tie a):∃b,b<n/\st.best (tie,a,b)=some j:=by obtain ⟨b,c,e⟩:=oD.mp h;exact ⟨b,n9.mp c,e⟩
theorem zX (h:j∈cO n st b):∃a,a<n/\st.best (true,a,b)=some j:=by obtain ⟨a,c,e⟩:=oD.mp h;exact ⟨a,n9.mp c,e⟩
theorem vU (g:bz n s) (h:val s k=some u):∃i w,s.best k=some i/\ae s i=some w/\w.key=k/\w.v=u:=by
 unfold val at h
 cases q:s.best k with
 | none=>rw [q] at h;cases h
 | some i=>
  obtain ⟨w,a,b⟩:=g.at_ k i q;rw [q] at h;have h:(ae s i).map (·.v)=some u:=h;rw [a] at h;exact ⟨i,w,U,a,b,dG h⟩
theorem gc {w:ah} {t:Bool} {a b:Nat} (h:w.key=(t,a,b)):w.tie=t/\w.a=a/\w.b=b:=by unfold ah.key at h;exact ⟨congrArg Prod.fst h,congrArg (λz=>z.2.1) h,congrArg (λz=>z.2.2) h⟩
theorem nV (g:bz n s) (k:s.bar=none) (h:val s (t,a,b)=some u):a≠b/\a<n/\b<n:=by obtain ⟨i,w,_,j,l,_⟩:=vU g h;obtain ⟨_,c,d⟩:=gc l;have e:=g.ne k i w j;have f:=g.lt i w j;rw [c,d] at e;rw [c,d] at f;exact ⟨e,f⟩
theorem I1 {n:Nat} {F:c9} {S:Int} (y:fw n F S) {s:St} (g:bz n s) {at_ a b c:Nat} {p:ah} {u:Int} (E:ae s at_=some p) (W:p.tie=true) (T:p.a=a) (V:p.b=b) (M:val s (true,b,c)=some u) (z:b≠c) (A:c<n):
 (a≠c->∃x,x<=p.v+u/\val (d9 n F at_ a b s) (true,a,c)=some x)/\(a=c->p.v+u<0->(d9 n F at_ a b s).bar≠none):=by
 have k:Imp s (a6 (cD F) .aS at_ (a6 (cz F) .a3 at_ s)):=(eC _ _ _ _).trans (eC _ _ _ _);have v:bz n (a6 (cD F) .aS at_ (a6 (cz F) .a3 at_ s)):=jS (jS g vP) (vR y);unfold d9;dsimp only;generalize a6 (cD F) .aS at_ (a6 (cz F) .a3 at_ s)=s2 at*;obtain ⟨e,N,i⟩:=k.2 (true,b,c) u z M;have hle:e<=u:=by unfold dh at i;simp at i;exact i
 obtain ⟨j,q,C,H,J,L⟩:=vU v N;obtain ⟨Z,X,Y⟩:=gc J;have D:j∈cq n s2 true b:=oD.mpr ⟨c,n9.mpr A,C⟩;obtain ⟨d,l,m⟩:=Cp (f:=λst j=>ai av .sum at_ j st) (λ_ _=>ck ..) _ s2 j D;have G:=br (k.1.trans l.1) E;have I:=br l.1 H;have O:av p q=some ⟨true,a,c,p.v+e⟩:=by unfold av;rw [if_pos ⟨W,Z,by rw [V,X]⟩,T,Y,L]
 have B:ai av .sum at_ j d=take d ⟨true,a,c,p.v+e⟩ .sum [at_,j]:=by unfold ai;rw [G];show put d ((ae d j).bind λq=>av p q) .sum [at_,j]=_;rw [I];show put d (av p q) .sum [at_,j]=_;rw [O];rfl
 rw [B] at m;have o:=m.trans ((cW (f:=λst j=>ai av .sum j at_ st) (λ_ _=>ck ..) (cO n ((cq n s2 true b).foldl (λst j=>ai av .sum at_ j st) s2) a) _).trans (cW (f:=λst j=>ai (aR F) .back j at_ st) (λ_ _=>ck ..) (cq n ((cO n ((cq n s2 true b).foldl (λst j=>ai av .sum at_ j st) s2) a).foldl (λst j=>ai av .sum j at_ st) ((cq n s2 true b).foldl (λst j=>ai av .sum at_ j st) s2)) false b) _));refine ⟨λh=>?_,λh wW=>?_⟩
 ·obtain ⟨x,Q,r⟩:=zU (st:=d) (word:=.sum) (used:=[at_,j]) (w:=⟨true,a,c,p.v+e⟩) h;obtain ⟨x1,R,t⟩:=o.2 (true,a,c) x h Q;refine ⟨x1,?_,R⟩;unfold dh at r t;simp at r t;lia
 ·exact o.1.bar (KL ⟨U,h,by show p.v+e<0;lia⟩)
theorem JP (b:fw n F most) (g:bz n s) (t:ae s at_=some p) (T:p.tie=false) (pa:p.a=a)
 (h:∀x v,val (ef n F at_ a s) (true,x,a)=some v->-B<=v) (Z:0<=B) (i:(ef n F at_ a s).bar=none):
 Add (λw=>(w.tie=true->-most<=w.v)/\(w.tie=false->w.v<=most+B)) s (ef n F at_ a s):=by
 unfold ef at h i ⊢;dsimp only at h i ⊢;have L:bz n (a6 (cG F) .sure at_ s):=jS g (zw b);have S:Imp s (a6 (cG F) .sure at_ s):=eC _ _ _ _;have G:Add (λw=>(w.tie=true->-most<=w.v)/\(w.tie=false->w.v<=most+B)) s (a6 (cG F) .sure at_ s):=rS t λw e=>by
  unfold cG at e;rw [if_pos T] at e
  cases q:F p.b with
  | none=>rw [q] at e;cases e
  | some f=>
   rw [q] at e;cases e;have:=b.num _ _ q;refine ⟨λ_=>?_,nofun⟩
   show-most<=-min p.v f.2.1
   lia
 generalize a6 (cG F) .sure at_ s=s1 at*;have u:=br S.1 t;have m:bz n (a6 (cy F) .ao at_ s1):=jS L (z6 b);have A:Imp s1 (a6 (cy F) .ao at_ s1):=eC _ _ _ _;have H:Add (λw=>(w.tie=true->-most<=w.v)/\(w.tie=false->w.v<=most+B)) s1 (a6 (cy F) .ao at_ s1):=rS u λw e=>by
  unfold cy at e;split at e
  ·cases q:F p.a with
   | none=>rw [q] at e;cases e
   | some o=>
    rw [q] at e;have e:(F p.b).map (λf=>(⟨false,o.1,p.b,min p.v f.2.2-o.2.1⟩:ah))=some w:=e
    cases C:F p.b with
    | none=>rw [C] at e;cases e
    | some f=>
     rw [C] at e;cases e;have Y:=b.num _ _ q;have M:=b.num _ _ C;refine ⟨nofun,λ_=>?_⟩;show min p.v f.2.2-o.2.1<=most+B;omega
  ·cases e
 generalize a6 (cy F) .ao at_ s1=s2 at*;have Q:=br A.1 u;have l:Imp s2 ((cO n s2 a).foldl (λd j=>ai (aR F) .back at_ j d) s2):=cW (λ_ _=>ck ..) _ _;have J:=eO λz=>l.1.bar z i;have I:Add (λw=>(w.tie=true->-most<=w.v)/\(w.tie=false->w.v<=most+B)) s2 ((cO n s2 a).foldl (λd j=>ai (aR F) .back at_ j d) s2):=sD (f:=λd j=>ai (aR F) .back at_ j d) (λ_ _=>ck ..) _ s2 s2 (Imp.refl _) λj N sx y=>by
  obtain ⟨c,_,r⟩:=zX N;obtain ⟨q,k,O⟩:=m.at_ _ _ r;obtain ⟨_,V,W⟩:=gc O;have E:=m.ne J j q k;rw [V,W] at E;obtain ⟨X,R,D⟩:=l.2 (true,c,a) q.v E (lM r k);have A0:=h c X R;unfold dh at D;simp at D;refine Bm (br y.1 Q) (br y.1 k) λw e=>?_;unfold aR at e;split at e
  ·cases z:F p.b with
   | none=>rw [z] at e;cases e
   | some f=>
    rw [z] at e;cases e;have M:=b.num _ _ z;refine ⟨nofun,λ_=>?_⟩;show min p.v f.2.2-q.v<=most+B;lia
  ·cases e
 exact (G.trans A.1 H).trans l.1 I
theorem Ih (t:Nat):∀d,Imp (run n F s t) (run n F s (t+d))
 | 0=>Imp.refl _
 | d+1=>(Ih t d).trans (zev n F (t+d) _)
theorem pj (h:t<=t'):Imp (run n F s t) (run n F s t'):=by
 have:=Ih (n:=n) (F:=F) (s:=s) t (t'-t)
 rwa [show t+(t'-t)=t' by exact jW h] at this
section
def pt (n:Nat) (F:c9) (s0:St) (t a b:Nat):Prop:=∃w,ae (run n F s0 t) t=some w/\w.tie=true/\w.a=a/\w.b=b/\(run n F s0 t).best (true,a,b)=some t
theorem zi {w:ah} (hw:ae s t=some w) (e:w.tie=true) (c:w.a=a) (d:w.b=b) (f:s.best (true,a,b)=some t):look n F t s=d9 n F t a b s:=by
 unfold look;rw [hw];have g:w.key=(true,a,b):=by unfold ah.key;rw [e,c,d]
 dsimp only;rw [g,if_pos f,if_pos e,c,d]
theorem B6 (g:bz n s) (g':bz n s') (e:Ext s s') (h:val s' k≠val s k):∃j w,s.rows.length<=j/\ae s' j=some w/\w.key=k/\val s' k=some w.v:=by
 rcases e.best k with c | ⟨j,b,f⟩
 ·exfalso;apply h;unfold val;rw [c]
  cases q:s.best k with
  | none=>rfl
  | some i=>
   show (ae s' i).map (·.v)=(ae s i).map (·.v);obtain ⟨w,a,_⟩:=g.at_ k i q;rw [a,br e a]
 ·obtain ⟨w,a,d⟩:=g'.at_ k j b;exact ⟨j,w,f,a,d,lM b a⟩
theorem Kj (h:t<=t') (g:bz n (run n F s0 t)) (b:(run n F s0 t).best k=some i) (a:(run n F s0 t').best k=some j):i<=j:=by
 rcases (pj (n:=n) (F:=F) (s:=s0) h).1.best k with e | ⟨f,e,c⟩
 ·rw [e,b] at a;cases a;exact aj _
 ·rw [e] at a;cases a;obtain ⟨w,d,_⟩:=g.at_ k i b;exact c7 (aP (jQ d)) c
theorem RG (h:t<=t') (g:bz n (run n F s0 t)) (g':bz n (run n F s0 t')) (l:(run n F s0 t').bar=none) (a:(run n F s0 t).best k=some i) (b:(run n F s0 t').best k=some j) (q:i≠j):val (run n F s0 t') k≠val (run n F s0 t) k:=by obtain ⟨w,c,m⟩:=g.at_ k i a;obtain ⟨f,d,o⟩:=g'.at_ k j b;have p:=Kj h g a b;have:=g'.drop l i j w f (br (pj h).1 c) d (m.trans o.symm) (wa p q);rw [lM a c,lM b d];intro e;have e:f.v=w.v:=dG e;rw [e] at this;exact uH _ _ this
end
theorem Cs (b:ae s t=some p) (c:p.tie=false) (a:s.best p.key=some t):look n F t s=ef n F t p.a s:=by unfold look;rw [b];dsimp only;rw [if_pos a,if_neg (by rw [c];decide)]
theorem KR (b:ae s t=some p) (a:s.best p.key≠some t):look n F t s=s:=by unfold look;rw [b];dsimp only;rw [if_neg a]
end MU
open MU (ah cz cD av cG aR cy fY fw Row bz fh dh take ae cq cO d9 ef a6 br og ai zX gc Ext Cr)
namespace MH
theorem Bn:∀(M N:Nat) (f:Nat->Nat),(∀i,i<N->f i<M)->(∀i j,i<j->j<N->f i≠f j)->N<=M
 | 0,N,f,h,_=>by
  cases N with
  | zero=>exact aj _
  | succ N=>exact absurd (h 0 (Nat.succ_pos _)) (lU _)
 | M+1,N,f,h,a=>by
  by_cases c:∃p,p<N/\f p=M
  ·obtain ⟨p,m,g⟩:=c;have k:=Bn M (N-1) (λi=>f (if i<p then i else i+1)) (λi e=>by
    have b:(if i<p then i else i+1)<N:=by split<;>lia
    have d:=h _ b;have l:f (if i<p then i else i+1)≠M:=λz=>by
     by_cases c:i<p
     ·rw [if_pos c] at z;exact a i p c m (z.trans g.symm)
     ·rw [if_neg c] at z;exact a p (i+1) (by lia) (by lia) (g.trans z.symm)
    show f (if i<p then i else i+1)<M;exact sr d l) (λi j n o=>by
    show f (if i<p then i else i+1)≠f (if j<p then j else j+1);refine a _ _ ?_ ?_
    ·split<;>split<;>lia
    ·split<;>lia)
   exact Kw k
  ·have k:=Bn M N f (λi e=>by
    have b:=h i e;have d:f i≠M:=λz=>c ⟨i,e,z⟩;exact sr b d) a
   exact fQ k
open Classical in
def cnt (P:Nat->Prop):Nat->Nat
 | 0=>0
 | N+1=>cnt P N+if P N then 1 else 0
theorem lL {P:Nat->Prop} (h:P N):cnt P (N+1)=cnt P N+1:=by rw [cnt,if_pos h]
theorem oZ {P:Nat->Prop} (h:¬P N):cnt P (N+1)=cnt P N:=by rw [cnt,if_neg h,Nat.add_zero]
theorem IJ (P:Nat->Prop):∀N,∃e:Nat->Nat,(∀i,i<cnt P N->P (e i)/\e i<N)/\∀i j,i<j->j<cnt P N->e i<e j
 | 0=>⟨λi=>i,λi h=>absurd h (lU _),λi j _ h=>absurd h (lU _)⟩
 | N+1=>by
  obtain ⟨e,a,f⟩:=IJ P N
  by_cases c:P N
  ·have b:cnt P (N+1)=cnt P N+1:=lL c;refine ⟨λi=>if i<cnt P N then e i else N,λi _=>?_,λi j k l=>?_⟩
   ·by_cases d:i<cnt P N
    ·show P (if i<cnt P N then e i else N)/\(if i<cnt P N then e i else N)<N+1;rw [if_pos d];have:=a i d;exact ⟨this.1,Cg this.2⟩
    ·show P (if i<cnt P N then e i else N)/\(if i<cnt P N then e i else N)<N+1;rw [if_neg d];exact ⟨c,by exact eN⟩
   ·show (if i<cnt P N then e i else N)<(if j<cnt P N then e j else N);rw [if_pos (show i<cnt P N by lia)]
    by_cases d:j<cnt P N
    ·rw [if_pos d];exact f i j k d
    ·rw [if_neg d];exact (a i (by lia)).2
  ·have b:cnt P (N+1)=cnt P N:=oZ c;rw [b];exact ⟨e,λi g=>⟨(a i g).1,by have:=(a i g).2;exact fQ this⟩,f⟩
theorem Vi {P:Nat->Prop} (b:Nat->Nat) (h:∀i,i<N->P i->b i<M) (g:∀i j,i<j->j<N->P i->P j->b i≠b j):cnt P N<=M:=by obtain ⟨e,a,f⟩:=IJ P N;exact Bn M (cnt P N) (λi=>b (e i)) (λi z=>h _ (a i z).2 (a i z).1) λi j d c=>g _ _ (f i j d c) (a j c).2 (a i (zu d c)).1 (a j c).1
theorem Bl {P Q R:Nat->Prop} (h:∀i,P i->Q i\/R i):∀N,cnt P N<=cnt Q N+cnt R N
 | 0=>aj _
 | N+1=>by
  have d:=Bl h N;have a:cnt Q N<=cnt Q (N+1):=by
   by_cases c:Q N
   ·rw [lL c];exact fQ eN
   ·rw [oZ c];exact eN
  have b:cnt R N<=cnt R (N+1):=by
   by_cases c:R N
   ·rw [lL c];exact fQ eN
   ·rw [oZ c];exact eN
  by_cases c:P N
  ·rw [lL c];rcases h N c with q | q
   ·rw [lL q];lia
   ·rw [lL q];lia
  ·rw [oZ c];lia
theorem se:∀(N:Nat) (l:List Nat),l.Nodup->(∀z∈l,z<N)->l.length<=N
 | 0,l,_,h=>by
  cases l with
  | nil=>exact aj _
  | cons x t=>exact absurd (h x dB) (lU _)
 | N+1,l,f,h=>by
  by_cases c:N∈l
  ·have k:=se N (l.erase N) (f.erase N) (λz a=>by
    have b:=h z (List.mem_of_mem_erase a);have d:z≠N:=λe=>by rw [e] at a;exact (f.mem_erase_iff.mp a).1 U
    exact sr b d)
   rw [List.length_erase_of_mem c] at k;exact Kw k
  ·have k:=se N l f (λz a=>by
    have b:=h z a;have d:z≠N:=λe=>c (e▸a);exact sr b d)
   exact fQ k
end MH
set_option linter.unusedVariables false
namespace MH
structure Bd (n:Nat) (L most:Int) (T:Nat) (len:Nat->Nat) (m wt:Nat->Nat->Nat->Option Int) (pt pw:Nat->Nat->Nat->Prop):Prop where
 n8:n<=8
 L0:0<=L
 wH:0<=most
 go:∀t,t<T->t<len t
 t8:∀t,t<T->len t<=len (t+1)
 lt:∀t a b v,t<=T->m t a b=some v->a<n/\b<n/\a≠b
 known:∀t a b,t<T->pt t a b->∃v,m t a b=some v
 gz:∀t a b,t<T->pw t a b->a<n/\b<n/\a≠b/\∃v,wt t a b=some v
 mono:∀t a b v,t<T->m t a b=some v->∃v',v'<=v/\m (t+1) a b=some v'
 wz:∀t a b v,t<T->wt t a b=some v->∃v',v<=v'/\wt (t+1) a b=some v'
 told:∀i,0<i->i<n->(∃v,v<=L/\m 0 0 i=some v)/\∃v,v<=0/\m 0 i 0=some v
 qN:∀a b,wt 0 a b=none
 sum:∀t a b c v u,t<T->pt t a b->m t a b=some v->m t b c=some u->a≠c->∃x,x<=v+u/\m (t+1) a c=some x
 bar:∀t a b v u,t<T->pt t a b->m t a b=some v->m t b a=some u->0<=v+u
 one:∀t a b a' b',t<T->pt t a b->pt t a' b'->a=a'/\b=b'
 Dq:∀t a b a' b',t<T->pw t a b->pw t a' b'->a=a'/\b=b'
 apart:∀t a b a' b',t<T->pt t a b->¬pw t a' b'
 cause:∀t a b,t<T->m (t+1) a b≠m t a b->(∃c v q y,pt t a c/\c≠b/\m t a c=some v/\m t c b=some q/\m (t+1) a b=some y/\v+q<=y)\/(∃c,pt t c b/\c≠a)\/∃e y,pw t a e/\m (t+1) a b=some y/\-most<=y
 a3:∀t a b e v v',t<T->pt t a b->m t a b=some v->t<=e->e<T->pw e a b->wt e a b=some v'->1-v<=v'
 my:∀t a b B,t<T->0<=B->(∀x y v,m (t+1) x y=some v->-B<=v)->wt (t+1) a b≠wt t a b->∃y,wt (t+1) a b=some y/\y<=most+B
 grow:∀t,t<T->len (t+1)<=len t+20
 rd:∀t,t<T->(∀a b,¬pt t a b)->len (t+1)<=len t+8
 rf:∀t,t<T->(∀a b,¬pt t a b)->(∀a b,¬pw t a b)->len (t+1)=len t
 g8:∀t0 t a b v,t<=T->len t0<=t->t0<=t->m t0 a b=some v->m t a b=some v->∃s,s<t/\pt s a b/\m s a b=some v
 drop:∀t t' a b v v',t<t'->t'<T->pt t a b->pt t' a b->m t a b=some v->m t' a b=some v'->v'<v
 qO:∀t t' a b v v',t<t'->t'<T->pw t a b->pw t' a b->wt t a b=some v->wt t' a b=some v'->v<v'
 once:∀t t' a b,t<t'->t'<T->pt t a b->pt t' a b->len t<=t'
 jY:∀t t' a b,t<t'->t'<T->pw t a b->pw t' a b->len t<=t'
section
def Kn (m:Nat->Nat->Nat->Option Int) (t a b:Nat) (x:Int):Prop:=∃v,v<=x/\m t a b=some v
theorem Kn.le (h:Kn m t a b x) (e:x<=y):Kn m t a b y:=by obtain ⟨v,c,d⟩:=h;exact ⟨v,so c e,d⟩
theorem Bd.kj (R:Bd n L most T len m wt pt pw) (h:m t a b=some v):∀d,t+d<=T->∃e,e<=v/\m (t+d) a b=some e
 | 0,_=>⟨v,fO _,h⟩
 | d+1,c=>by obtain ⟨l,i,f⟩:=R.kj h d (by exact aP c);obtain ⟨k,j,g⟩:=R.mono _ _ _ _ (by exact c) f;exact ⟨k,so j i,g⟩
theorem Bd.iN (R:Bd n L most T len m wt pt pw) (h:m t a b=some v) (d:t<=t') (f:t'<=T):∃v',v'<=v/\m t' a b=some v':=by obtain ⟨v',e,c⟩:=R.kj h (t'-t) (zI d f);rw [show t+(t'-t)=t' by exact jW d] at c;exact ⟨v',e,c⟩
theorem Bd.kn (R:Bd n L most T len m wt pt pw) (h:Kn m t a b x) (i:t<=t') (g:t'<=T):Kn m t' a b x:=by obtain ⟨v,c,d⟩:=h;obtain ⟨j,e,f⟩:=R.iN d i g;exact ⟨j,so e c,f⟩
theorem Bd.same (R:Bd n L most T len m wt pt pw) (h:m t a b=some v) (h':m t' a b=some v) (g:t<=s) (e:s<=t') (f:t'<=T):m s a b=some v:=by obtain ⟨i,j,c⟩:=R.iN h g (ph e f);obtain ⟨l,k,d⟩:=R.iN c e f;rw [h'] at d;cases d;rw [c,show i=v by lia]
def fm (m:Nat->Nat->Nat->Option Int) (t x:Nat):Int:=(m t x 0).getD 0
theorem Bd.cw (R:Bd n L most T len m wt pt pw) (g:0<x) (e:x<n) (f:t<=T):m t x 0=some (fm m t x)/\fm m t x<=0:=by obtain ⟨v,a,b⟩:=(R.told x g e).2;obtain ⟨h,c,d⟩:=R.iN b (cN t) f;unfold fm;rw [d];exact ⟨U,by show h<=0;exact so c a⟩
theorem Bd.c_ (R:Bd n L most T len m wt pt pw) (c:0<x) (b:x<n) (a:t<T):fm m (t+1) x<=fm m t x:=by obtain ⟨v,e,d⟩:=R.mono _ _ _ _ a (R.cw c b (aP a)).1;have:=(R.cw (t:=t+1) c b a).1;rw [d] at this;have:=dG this;lia
theorem Bd.kg (R:Bd n L most T len m wt pt pw) (e:0<x) (c:x<n) (d:t<=T):Kn m t 0 x L:=by obtain ⟨v,a,b⟩:=(R.told x e c).1;exact R.kn ⟨v,a,b⟩ (cN t) d
def jn (n:Nat) (L:Int) (m:Nat->Nat->Nat->Option Int) (t x:Nat):Prop:= -L<=fm m t x/\∀z,0<z->z<n->z≠x->Kn m t x z (fm m t x+max L (-fm m t z))
def uo (n:Nat) (m:Nat->Nat->Nat->Option Int) (t x:Nat) (l:List Nat):Prop:=l.Nodup/\x∈l/\(∀z∈l,0<z/\z<n)/\∀z∈l,z≠x->Kn m t x z (fm m t x-fm m t z)
theorem jn.next (R:Bd n L most T len m wt pt pw) (i:0<x) (g:x<n) (d:t<T) (h:jn n L m t x) (e:m (t+1) x 0=m t x 0):jn n L m (t+1) x:=by
 have a:fm m (t+1) x=fm m t x:=by unfold fm;rw [e]
 refine ⟨by rw [a];exact h.1,λz b c f=>?_⟩;have j:=R.c_ b c d;rw [a];exact (R.kn (h.2 z b c f) (lB t) d).le (by omega)
theorem uo.next (R:Bd n L most T len m wt pt pw) (c:t<T) (h:uo n m t x l) (e:m (t+1) x 0=m t x 0):uo n m (t+1) x l:=by
 have d:fm m (t+1) x=fm m t x:=by unfold fm;rw [e]
 obtain ⟨f,g,a,i⟩:=h;refine ⟨f,g,a,λz b j=>?_⟩;have:=R.c_ (a z b).1 (a z b).2 c;rw [d];exact (R.kn (i z b j) (lB t) c).le (by lia)
theorem jn.w4 (R:Bd n L most T len m wt pt pw) (f:0<x) (c:x<n) (h:jn n L m s x):∀d,s+d<=T->m (s+d) x 0=m s x 0->jn n L m (s+d) x
 | 0,_,_=>h
 | d+1,b,e=>by have a:=(R.cw (t:=s) f c (by lia)).1;have g:m (s+(d+1)) x 0=some (fm m s x):=e.trans a;have i:=R.same a g (s:=s+d) h9 (by exact fQ eN) b;exact jn.next R (t:=s+d) f c (by exact b) (jn.w4 R f c h d (by exact aP b) (i.trans a.symm)) (g.trans i.symm)
theorem Bd.looked (R:Bd n L most T len m wt pt pw) (a:s<T) (h:pt s x 0) (f:0<x) (d:x<n) (e:m (s+1) x 0=m s x 0):jn n L m (s+1) x:=by
 obtain ⟨c,_⟩:=R.cw (t:=s) f d (aP a);have b:fm m (s+1) x=fm m s x:=by unfold fm;rw [e]
 obtain ⟨p,u,i⟩:=R.kg f d (aP a);have r:=R.bar _ _ _ _ _ a h c i;refine ⟨by rw [b];lia,λz k l o=>?_⟩;obtain ⟨q,v,j⟩:=R.kg k l (aP a);obtain ⟨y,A,g⟩:=R.sum _ _ _ _ _ _ a h c j (aQ o);refine ⟨y,?_,g⟩;rw [b];lia
theorem Bd.sX (R:Bd n L most T len m wt pt pw) (d:0<x) (c:x<n) (b:t<=T) (i:len t0<=t) (j:t0<=t) (e:m t x 0=m t0 x 0):jn n L m t x:=by have a:=(R.cw (t:=t) d c b).1;obtain ⟨s,g,l,h⟩:=R.g8 t0 t x 0 _ b i j (e.symm.trans a) a;have f:=R.same h a (s:=s+1) (by exact fQ eN) (by exact g) b;have k:=R.looked (eT g b) l d c (f.trans h.symm);have:=jn.w4 R d c k (t-(s+1)) (by lia);rw [show s+1+(t-(s+1))=t by omega] at this;exact this (a.trans f.symm)
theorem Bd.over (R:Bd n L most T len m wt pt pw) (a:t<T) (b:0<x) (d:x<n) (g:c≠0) (s:pt t x c) (j:m t x c=some v) (h:m t c 0=some q) (e:m (t+1) x 0=some y) (C:v+q<=y) (r:m (t+1) x 0≠m t x 0):
 c<n/\c≠x/\fm m t c=q/\fm m (t+1) x=v+q/\fm m (t+1) x<fm m t x/\fm m (t+1) c<=q:=by
 obtain ⟨_,f,A⟩:=R.lt _ _ _ _ (aP a) j;have i:=(R.cw (t:=t) (x:=c) (ot g) f (aP a)).1;rw [h] at i;have l:=dG i;obtain ⟨z,E,p⟩:=R.sum _ _ _ _ _ _ a s j h (show x≠0 by exact vf b);rw [e] at p;have k:=(R.cw (t:=t+1) b d a).1;rw [e] at k;have o:=dG k;have u:=(R.cw (t:=t) b d (aP a)).1;have D:=R.c_ b d a;have B:=R.c_ (x:=c) (ot g) f a;refine ⟨f,aQ A,l.symm,by lia,?_,by lia⟩;have:fm m (t+1) x≠fm m t x:=λz=>r (by rw [u,e,<-z,o]);lia
theorem Bd.m9 (R:Bd n L most T len m wt pt pw) (a:t<T) (l:0<x) (k:x<n) (B:c≠0) (d:pt t x c) (b:m t x c=some v) (F:m t c 0=some q) (I:m (t+1) x 0=some y) (D:v+q<=y) (E:m (t+1) x 0≠m t x 0) (h:jn n L m t c):jn n L m (t+1) x:=by
 obtain ⟨V,C,f,N,W,S⟩:=R.over a l k B d b F I D E;obtain ⟨O,g⟩:=h;obtain ⟨u,G,o⟩:=g x l k (aQ C);have Q:=R.bar _ _ _ _ _ a d b o;rw [f] at G;refine ⟨by lia,λz i j A=>?_⟩;have Z:=R.c_ i j a
 by_cases e:z=c
 ·subst e;obtain ⟨J,X,r⟩:=R.mono _ _ _ _ a b;exact ⟨J,by omega,r⟩
 ·obtain ⟨u',H,p⟩:=g z i j e;obtain ⟨M,Y,s⟩:=R.sum _ _ _ _ _ _ a d b p (aQ A);rw [f] at H;exact ⟨M,by omega,s⟩
theorem Bd.kW (R:Bd n L most T len m wt pt pw) (b:t<T) (p:0<x) (k:x<n) (C:c≠0) (g:pt t x c) (d:m t x c=some v) (G:m t c 0=some q) (M:m (t+1) x 0=some y) (E:v+q<=y) (F:m (t+1) x 0≠m t x 0) (h:uo n m t c l):uo n m (t+1) x (x::l):=by
 obtain ⟨X,D,i,Q,Y,W⟩:=R.over b p k C g d G M E F;obtain ⟨B,S,f,j⟩:=h;have J:x∉l:=λz=>by obtain ⟨x1,H,r⟩:=j x z (aQ D);have V:=R.bar _ _ _ _ _ b g d r;rw [i] at H;lia
 refine ⟨List.nodup_cons.mpr ⟨J,B⟩,dB,λz a=>?_,λz a o=>?_⟩
 ·rcases eG.mp a with rfl | a
  ·exact ⟨p,k⟩
  ·exact f z a
 ·rcases eG.mp a with e | a
  ·exact absurd e o
  ·have Ó:=R.c_ (f z a).1 (f z a).2 b
   by_cases e:z=c
   ·subst e;obtain ⟨N,Z,u⟩:=R.mono _ _ _ _ b d;exact ⟨N,by lia,u⟩
   ·obtain ⟨u',I,s⟩:=j z a e;obtain ⟨O,Nb,A⟩:=R.sum _ _ _ _ _ _ b g d s (aQ o);rw [i] at I;exact ⟨O,by lia,A⟩
def gen (a:Nat->Nat):Nat->Nat
 | 0=>0
 | g+1=>a (gen a g)
def sM (n:Nat) (a:Int) (m:Nat->Nat->Nat->Option Int) (b:Nat->Nat->Nat->Prop) (t:Nat):Prop:=(∃c,b t c 0)\/∃x y,0<x/\x<n/\m (t+1) x 0=some y/\m (t+1) x 0≠m t x 0/\-a<=y
def sI (n:Nat) (L:Int) (m:Nat->Nat->Nat->Option Int) (k t0 t:Nat):Prop:=∀x,0<x->x<n->jn n L m t x\/∃l,uo n m t x l/\(k+1<=l.length\/(k<=l.length/\m t x 0=m t0 x 0))
theorem Bd.lz (R:Bd n L most T len m wt pt pw) (d:t<T) (u:¬sM n most m pt t) (h:sI n L m k t0 t):sI n L m k t0 (t+1):=λx g b=>by
 by_cases e:m (t+1) x 0=m t x 0
 ·rcases h x g b with f | ⟨l,c,a⟩
  ·exact .inl (f.next R g b d e)
  ·refine .inr ⟨l,c.next R d e,?_⟩;rcases a with a | ⟨a,A⟩
   ·exact .inl a
   ·exact .inr ⟨a,e.trans A⟩
 ·rcases R.cause t x 0 d e with ⟨c,v,q,y,i,o,s,r,j,p⟩ | ⟨c,i,_⟩ | ⟨D,y,_,j,C⟩
  ·obtain ⟨B,_⟩:=R.over d g b o i s r j p e;rcases h c (ot o) B with f | ⟨l,z,a⟩
   ·exact .inl (R.m9 d g b o i s r j p e f)
   ·refine .inr ⟨x::l,R.kW d g b o i s r j p e z,.inl ?_⟩;rw [jl];rcases a with a | ⟨a,_⟩<;>lia
  ·exact absurd (.inl ⟨c,i⟩) u
  ·exact absurd (.inr ⟨x,y,g,b,j,e,C⟩) u
theorem Bd.iR (R:Bd n L most T len m wt pt pw) (c:∀t,t0<=t->t<len t0->¬sM n most m pt t) (h:sI n L m k t0 t0):∀d,t0+d<=T->t0+d<=len t0->sI n L m k t0 (t0+d)
 | 0,_,_=>h
 | d+1,a,b=>R.lz (t:=t0+d) (by exact a) (c (t0+d) h9 (by exact b)) (R.iR c h d (by exact aP a) (by exact aP b))
theorem Bd.l7 (R:Bd n L most T len m wt pt pw) (a:t0<=len t0) (d:len t0<=T) (j:∀t,t0<=t->t<len t0->¬sM n most m pt t) (h:sI n L m k t0 t0):sI n L m (k+1) (len t0) (len t0):=λx i g=>by
 have:=R.iR j h (len t0-t0) (zI a d) (vX a);rw [show t0+(len t0-t0)=len t0 by exact jW a] at this;rcases this x i g with f | ⟨l,c,b⟩
 ·exact .inl f
 ·rcases b with b | ⟨_,e⟩
  ·exact .inr ⟨l,c,.inr ⟨b,U⟩⟩
  ·exact .inl (R.sX i g d (aj _) a e)
theorem Bd.iw (R:Bd n L most T len m wt pt pw) (h:gen len g<=T) (b:gen len (g+1)<=T):gen len g<=gen len (g+1):=by
 by_cases c:gen len g=T
 ·rw [c];show T<=len (gen len g);rw [c];have:gen len (g+1)=len T:=by show len (gen len g)=_;rw [c]
  by_cases z:T=0
  ·lia
  ·have d:=R.go (T-1) (Ku z);have a:=R.t8 (T-1) (Ku z);rw [show T-1+1=T by lia] at a;omega
 ·exact aP (R.go _ (wa h c))
theorem Bd.iS (R:Bd n L most T len m wt pt pw):∀k,gen len (g+k)<=T->(∀i,i<=k->gen len (g+i)<=T)->(∀t,gen len g<=t->t<gen len (g+k)->¬sM n most m pt t)->(∀i,i<=k->gen len g<=gen len (g+i))->(∀i,i<k->gen len (g+i)<=gen len (g+k))->sI n L m (k+1) (gen len (g+k)) (gen len (g+k))
 | 0,_,_,_,_,_=>λx y s=>.inr ⟨[x],⟨List.nodup_cons.mpr ⟨by simp,uc⟩,dB,λz e=>by rw [dF.mp e];exact ⟨y,s⟩,λz e u=>absurd (dF.mp e) u⟩,.inr ⟨aj _,U⟩⟩
 | k+1,q,d,o,l,v=>by
  have h:gen len (g+k)<=gen len (g+(k+1)):=v k (by exact eN);have f:=R.iS (g:=g) k (d k (by exact fQ eN)) (λi c=>d i (by exact fQ c)) (λt a b=>o t a (eT b h)) (λi c=>l i (by exact fQ c)) (λi c=>by
   have p:∀j,j<=k-i->gen len (g+i)<=gen len (g+(i+j)):=λj=>by
    induction j with
    | zero=>intro _;exact aj _
    | succ j f=>
     intro r;exact c7 (f (by exact aP r)) (R.iw (g:=g+(i+j)) (d (i+j) (by lia)) (d (i+j+1) (by lia)))
   have:=p (k-i) (aj _)
   rwa [show i+(k-i)=k by exact Q1 c] at this)
  exact R.l7 (t0:=gen len (g+k)) h q (λt a b=>o t (by have:=l k (by exact fQ eN);exact ph this a) b) f
end
end MH
set_option maxRecDepth 4000
namespace MH
theorem rX {P:Nat->Prop} (a:Nat->Nat->Prop) (h:∀i,i<N->P i->∃c,c<M/\a i c) (o:∀i j c,i<j->j<N->P i->P j->a i c->a j c->False):cnt P N<=M:=by
 classical
 refine Vi (λi=>if z:∃c,c<M/\a i c then Classical.choose z else 0) (λi b d=>?_) (λi j k b d g e=>?_)
 ·have z:=h i b d;show (if z:∃c,c<M/\a i c then Classical.choose z else 0)<M;rw [dif_pos z];exact (FI z).1
 ·have l:=h i (zu k b) d;have m:=h j b g;have e:(if z:∃c,c<M/\a i c then Classical.choose z else 0)=(if z:∃c,c<M/\a j c then Classical.choose z else 0):=e;rw [dif_pos l,dif_pos m] at e;have n:=(FI l).2;have f:=(FI m).2;rw [<-e] at f;exact o i j _ k b d g n f
theorem HN {P:Nat->Prop}:∀{N:Nat},(∀i,i<N->P i)->cnt P N=N
 | 0,_=>rfl
 | N+1,h=>by rw [lL (h N (by exact eN)),HN λi a=>h i (by exact fQ a)]
theorem dec {k a r a' r':Nat} (d:r<k) (f:r'<k) (h:a*k+r=a'*k+r'):a=a'/\r=r':=by
 have c:0<k:=PY d;have b:(a*k+r) / k=a:=by rw [Nat.add_comm,Nat.add_mul_div_right _ _ c,Nat.div_eq_of_lt d,AF]
 have e:(a'*k+r') / k=a':=by rw [Nat.add_comm,Nat.add_mul_div_right _ _ c,Nat.div_eq_of_lt f,AF]
 rw [h,e] at b;subst b;exact ⟨U,by lia⟩
theorem enc {k a r N:Nat} (c:a<N) (d:r<k):a*k+r<N*k:=by have b:(a+1)*k<=N*k:=Nat.mul_le_mul_right _ c;rw [Nat.add_mul,Nat.one_mul] at b;exact lO b d
def kc (a b:Nat):Nat:=a*7+if b<a then b else b-1
def N8 (a b:Nat):Prop:=a<8/\b<8/\a≠b
theorem lG (h:N8 a b):kc a b<56:=by obtain ⟨c,d,e⟩:=h;unfold kc;split<;>lia
theorem qy {a b c b':Nat} (h:N8 a b) (h':N8 c b') (e:kc a b=kc c b'):a=c/\b=b':=by obtain ⟨g,i,j⟩:=h;obtain ⟨k,l,m⟩:=h';unfold kc at e;obtain ⟨f,d⟩:=dec (show (if b<a then b else b-1)<7 by split<;>omega) (show (if b'<c then b' else b'-1)<7 by split<;>omega) e;subst f;refine ⟨U,?_⟩;split at d<;>split at d<;>lia
section
variable {n l mo T:Nat}
theorem Bd.jD (R:Bd n L most T len m wt pt pw):∀d,t0+d<=T->len (t0+d)<=len t0+20*cnt (λi=>∃a b,pt (t0+i) a b) d+8*cnt (λi=>∃a b,pw (t0+i) a b) d
 | 0,_=>by show len t0<=_;exact eN
 | d+1,h=>by
  have g:=R.jD (t0:=t0) d (by exact aP h);have e:t0+d<T:=by exact h
  show len (t0+d+1)<=_
  by_cases c:∃a b,pt (t0+d) a b
  ·rw [lL c];have j:=R.grow (t0+d) e;have k:cnt (λi=>∃a b,pw (t0+i) a b) d<=cnt (λi=>∃a b,pw (t0+i) a b) (d+1):=by
    by_cases z:∃a b,pw (t0+d) a b
    ·rw [lL z];exact fQ eN
    ·rw [oZ z];exact eN
   lia
  ·rw [oZ c];have f:∀a b,¬pt (t0+d) a b:=λa b z=>c ⟨a,b,z⟩
   by_cases z:∃a b,pw (t0+d) a b
   ·rw [lL z];have:=R.rd (t0+d) e f;lia
   ·rw [oZ z];have:=R.rf (t0+d) e f λa b q=>z ⟨a,b,q⟩;exact uD this g
theorem Bd.mV (R:Bd n L most T len m wt pt pw):∀d,t+d<=T->len t<=len (t+d)
 | 0,_=>aj _
 | d+1,h=>c7 (R.mV d (by exact aP h)) (R.t8 (t+d) (by exact h))
theorem Bd.dQ (R:Bd n L most T len m wt pt pw) (h:t<=t') (a:t'<=T):len t<=len t':=by
 have:=R.mV (t:=t) (t'-t) (zI h a)
 rwa [show t+(t'-t)=t' by exact jW h] at this
theorem Bd.kh (R:Bd n L most T len m wt pt pw) (f:t0+d<=T) (J:t0+d<=len t0):len (t0+d)<=len t0+1568:=by
 have h:=R.jD d f;have g:=R.n8;have H:cnt (λi=>∃a b,pt (t0+i) a b) d<=56:=by
  refine rX (λi c=>∃a b,pt (t0+i) a b/\N8 a b/\c=kc a b) (λi x s=>?_) (λi j c y z _ _ p r=>?_)
  ·obtain ⟨a,b,e⟩:=s;obtain ⟨v,G⟩:=R.known _ _ _ (show t0+i<T by exact lO f x) e;obtain ⟨B,C,D⟩:=R.lt _ _ _ _ (show t0+i<=T by lia) G;have q:N8 a b:=⟨eT B g,eT C g,D⟩;exact ⟨_,lG q,a,b,e,q,U⟩
  ·obtain ⟨a,b,e,t,k⟩:=p;obtain ⟨E,F,A,u,o⟩:=r;obtain ⟨rfl,rfl⟩:=qy t u (k.symm.trans o);have:=R.once _ _ _ _ (show t0+i<t0+j by exact oq y) (lO f z) e A;have:=R.dQ (show t0<=t0+i by exact h9) (by lia);lia
 have I:cnt (λi=>∃a b,pw (t0+i) a b) d<=56:=by
  refine rX (λi c=>∃a b,pw (t0+i) a b/\N8 a b/\c=kc a b) (λi x s=>?_) (λi j c y z _ _ p r=>?_)
  ·obtain ⟨a,b,e⟩:=s;obtain ⟨B,C,D,_⟩:=R.gz _ _ _ (show t0+i<T by exact lO f x) e;have q:N8 a b:=⟨eT B g,eT C g,D⟩;exact ⟨_,lG q,a,b,e,q,U⟩
  ·obtain ⟨a,b,e,t,k⟩:=p;obtain ⟨E,F,A,u,o⟩:=r;obtain ⟨rfl,rfl⟩:=qy t u (k.symm.trans o);have:=R.jY _ _ _ _ (show t0+i<t0+j by exact oq y) (lO f z) e A;have:=R.dQ (show t0<=t0+i by exact h9) (by lia);lia
 lia
theorem Bd.gens (R:Bd n L most T len m wt pt pw):∀N,((∀i,i<=N->gen len i<=T)/\len (gen len N)<=len 0+1568*N)\/len T<=len 0+1568*N
 | 0=>.inl ⟨λi g=>by rw [show i=0 by lia];exact cN _,aj _⟩
 | N+1=>by
  rcases R.gens N with ⟨h,f⟩ | h
  ·have a:=h N (aj _)
   by_cases c:gen len (N+1)<=T
   ·refine .inl ⟨λi g=>?_,?_⟩
    ·by_cases e:i=N+1
     ·rw [e];exact c
     ·exact h i (by lia)
    ·have b:=R.iw a c;have:=R.kh (t0:=gen len N) (d:=gen len (N+1)-gen len N) (by lia) (by show _<=gen len (N+1);exact vX b);rw [show gen len N+(gen len (N+1)-gen len N)=gen len (N+1) by exact jW b] at this;rw [Nat.mul_succ,<-xU];exact c7 this (vh f _)
   ·right;have:=R.kh (t0:=gen len N) (d:=T-gen len N) (vX a) (by show _<=gen len (N+1);lia);rw [show gen len N+(T-gen len N)=T by exact jW a] at this;rw [Nat.mul_succ,<-xU];exact c7 this (vh f _)
  ·right;rw [Nat.mul_succ,<-xU];exact c7 h (l8 _ _)
theorem Bd.cg (R:Bd n L most T len m wt pt pw) (h:∀i,i<=N->gen len i<=T):∀j,i+j<=N->gen len i<=gen len (i+j)
 | 0,_=>aj _
 | j+1,a=>c7 (R.cg h j (by exact aP a)) (R.iw (g:=i+j) (h (i+j) (by exact aP a)) (h (i+j+1) (by omega)))
theorem Bd.narrow (R:Bd n (l:Int) (mo:Int) T len m wt pt pw) (h:∀i,i<=g+7->gen len i<=T) (D:∀t,gen len g<=t->t<gen len (g+7)->¬sM n (mo:Int) m pt t):∀a b,a<n->b<n->a≠b->Kn m (gen len (g+7)) a b (l:Int):=by
 have d:=h (g+7) (aj _);have c:=R.iS (g:=g) 7 d (λi j=>h _ (sv j)) D (λi j=>R.cg h i (sv j)) (λi j=>by
  have:=R.cg h (i:=g+i) (7-i) (by lia)
  rwa [show g+i+(7-i)=g+7 by lia] at this)
 have A:=R.n8;have u:∀x,0<x->x<n->jn n (l:Int) m (gen len (g+7)) x:=λx E C=>by
  rcases c x E C with f | ⟨F,⟨v,_,s,_⟩,H⟩
  ·exact f
  ·exfalso;have:=se 8 (0::F) (List.nodup_cons.mpr ⟨λz=>by have:=(s 0 z).1;exact hQ (iD 0 this),v⟩) (λz r=>by
    rcases eG.mp r with e | r
    ·lia
    ·have:=(s z r).2;exact eT this A)
   rw [jl] at this;lia
 intro a b p q B
 by_cases e:a=0
 ·subst e;exact R.kg (by lia) q d
 ·by_cases k:b=0
  ·subst k;obtain ⟨o,y⟩:=R.cw (t:=gen len (g+7)) (ot e) p d;exact ⟨_,by lia,o⟩
  ·have o:=(u a (ot e) p).2 b (ot k) q (aQ B);have y:=(u b (ot k) q).1;have G:=(R.cw (t:=gen len (g+7)) (x:=a) (ot e) p d).2;exact o.le (by lia)
theorem Bd.quiet (R:Bd n (l:Int) (mo:Int) T len m wt pt pw) {N:Nat} (hN:N=7*(l+1)+7*(mo+1)+1) (O:∀i,i<=7*N->gen len i<=T):∃b,b<N/\∀t,gen len (7*b)<=t->t<gen len (7*b+7)->¬sM n (mo:Int) m pt t:=by
 refine eO λZ=>?_;have hs:∀b,b<N->∃t,gen len (7*b)<=t/\t<gen len (7*b+7)/\sM n (mo:Int) m pt t:=λb p=>by refine eO λh=>Z ⟨b,p,λt j e G=>h ⟨t,j,e,G⟩⟩
 have B:=R.n8;have W:∀{b t},b<N->t<gen len (7*b+7)->t<T:=λ{b t} p k=>by have:=O (7*b+7) (by lia);exact eT k this
 have key:=rX (P:=λ_=>True) (N:=N) (M:=7*(l+1)+7*(mo+1)) (λb c=>∃t,gen len (7*b)<=t/\t<gen len (7*b+7)/\((∃x r,pt t (x+1) 0/\x<7/\r<l+1/\m t (x+1) 0=some (-(r:Int))/\c=x*(l+1)+r)\/
  ∃x r,x<7/\r<mo+1/\m (t+1) (x+1) 0=some (-(r:Int))/\m (t+1) (x+1) 0≠m t (x+1) 0/\c=7*(l+1)+(x*(mo+1)+r))) (λb p _=>by
  obtain ⟨t,j,e,G⟩:=hs b p;have k:=W p e;rcases G with ⟨x,q⟩ | ⟨x,y,H,J,S,o4,A0⟩
  ·obtain ⟨v,o⟩:=R.known _ _ _ k q;obtain ⟨D,_,V⟩:=R.lt _ _ _ _ (aP k) o;obtain ⟨d,g⟩:=R.cw (t:=t) (x:=x) (ot V) D (aP k);rw [o] at d;have d:=dG d;obtain ⟨x1,Ý,uW⟩:=R.kg (t:=t) (x:=x) (ot V) D (aP k);have p:=R.bar _ _ _ _ _ k q o uW;have f:(-v).toNat<l+1:=by lia
   obtain ⟨x,rfl⟩:∃z,x=z+1:=⟨x-1,by lia⟩;exact ⟨x*(l+1)+(-v).toNat,by have:=enc (a:=x) (N:=7) (show x<7 by exact zJ D B) f;exact Cg this,t,j,e,.inl ⟨x,(-v).toNat,q,zJ D B,f,by rw [o];congr 1;lia,U⟩⟩
  ·obtain ⟨d,g⟩:=R.cw (t:=t+1) H J (show t+1<=T by exact k);rw [S] at d;have d:=dG d;have f:(-y).toNat<mo+1:=by lia
   obtain ⟨x,rfl⟩:∃z,x=z+1:=⟨x-1,by lia⟩;exact ⟨7*(l+1)+(x*(mo+1)+(-y).toNat),by have:=enc (a:=x) (N:=7) (show x<7 by exact zJ J B) f;exact oq this,t,j,e,.inr ⟨x,(-y).toNat,zJ J B,f,by rw [S];congr 1;lia,o4,U⟩⟩)
  (λb F c Y X _ _ j e=>by
   obtain ⟨t,_,t2,j⟩:=j;obtain ⟨t',Wj,C_,e⟩:=e;have Q:t<t':=by have:=R.cg O (i:=7*b+7) (7*F-(7*b+7)) (by omega);rw [show 7*b+7+(7*F-(7*b+7))=7*F by exact J_ Y] at this;lia
   have L:=W X C_;rcases j with ⟨x,r,q,H,f,o,d⟩ | ⟨x,r,_,f,o,_,d⟩
   ·rcases e with ⟨A,E,wR,I,u,C,g⟩ | ⟨A,E,_,_,_,_,g⟩
    ·obtain ⟨rfl,rfl⟩:=dec f u (d.symm.trans g);have:=R.drop _ _ _ _ _ _ Q L q wR o C;lia
    ·have:=enc (a:=x) (N:=7) H f;exact Ky this g d
   ·rcases e with ⟨A,E,_,I,u,_,g⟩ | ⟨A,E,I,u,C,D_,g⟩
    ·have:=enc (a:=A) (N:=7) I u;exact Ky this d g
    ·obtain ⟨rfl,rfl⟩:=dec f u (show x*(mo+1)+r=A*(mo+1)+E by exact Kt d g);have:=R.same o C (s:=t') (by exact Q) (by exact fQ eN) (by exact L);exact D_ (C.trans this.symm))
 rw [HN λi _=>trivial] at key;lia
end
section
variable {n l mo T:Nat}
theorem Bd.tR (R:Bd n L most T len m wt pt pw) (k:t<T):∃g,(∀i,i<=g->gen len i<=t)/\t<gen len (g+1):=by
 have d:∀N,(∀i,i<=N->gen len i<=t/\i<=gen len i)\/∃g,(∀i,i<=g->gen len i<=t)/\t<gen len (g+1):=by
  intro N
  induction N with
  | zero=>exact .inl λi a=>by rw [show i=0 by lia];exact ⟨cN _,cN _⟩
  | succ N b=>
   rcases b with h | h
   ·by_cases c:gen len (N+1)<=t
    ·refine .inl λi a=>?_
     by_cases e:i=N+1
     ·rw [e];have f:=h N (aj _);have j:gen len N<gen len (N+1):=R.go (gen len N) (by lia);exact ⟨c,by lia⟩
     ·exact h i (by lia)
    ·exact .inr ⟨N,λi a=>(h i a).1,sA c⟩
   ·exact .inr h
 rcases d (t+1) with h | h
 ·have:=h (t+1) (aj _);omega
 ·exact h
theorem Bd.jE (R:Bd n L most T len m wt pt pw) (h:∀i,i<=g'->gen len i<=t) (c:t<=T) (a:g<=g'):gen len g<=gen len g':=by
 have:=R.cg (N:=g') (λi b=>c7 (h i b) c) (i:=g) (g'-g) (vX a)
 rwa [show g+(g'-g)=g' by exact jW a] at this
theorem Bd.iI (R:Bd n L most T len m wt pt pw) (f:0<=B) (g:t<=T) (h:∀x y v,m t x y=some v->-B<=v):∀s,s<=t->∀a b v,wt s a b=some v->v<=most+B
 | 0,_,a,b,v,e=>by rw [R.qN] at e;cases e
 | s+1,i,a,b,v,e=>by
  by_cases c:wt (s+1) a b=wt s a b
  ·exact R.iI f g h s (by exact aP i) a b v (c▸e)
  ·obtain ⟨y,d,o⟩:=R.my s a b B (by lia) f (λx y r j=>by
    obtain ⟨q,p,k⟩:=R.iN j i g;have:=h x y q k;exact so this p) c
   rw [e] at d;cases d;exact o
theorem Bd.wA (R:Bd n (l:Int) (mo:Int) T len m wt pt pw) (D:∀i,i<=g+1->gen len i<=T) (N:∀a b,a<n->b<n->a≠b->Kn m (gen len g) a b (l:Int))
 (F:∀k,gen len g<=k->k<gen len (g+1)->(∀a b,¬pt k a b)/\∀a b,m (k+1) a b=m k a b) (h1:gen len g<=t) (z:t<gen len (g+1)) (j:pw t a b) (p:wt t a b=some v):1-(l:Int)<=v/\v<=(mo:Int)+l:=by
 have f:=D (g+1) (aj _);have E:=R.iw (D g (by exact fQ eN)) f;have same:∀x y d,gen len g+d<=gen len (g+1)->m (gen len g+d) x y=m (gen len g) x y:=λx y d=>by
  induction d with
  | zero=>intro _;rfl
  | succ d W=>exact λC=>((F (gen len g+d) h9 (by exact C)).2 x y).trans (W (by exact aP C))
 have M:∀x y,m (gen len (g+1)) x y=m (gen len g) x y:=λx y=>by
  have:=same x y (gen len (g+1)-gen len g) (by lia)
  rwa [show gen len g+(gen len (g+1)-gen len g)=gen len (g+1) by lia] at this
 have B:∀x y q,m (gen len (g+1)) x y=some q->∃s,s<gen len g/\pt s x y/\m s x y=some q:=λx y q h=>by obtain ⟨s,A,j,p⟩:=R.g8 (gen len g) (gen len (g+1)) x y q f (aj _) E ((M x y).symm.trans h) h;refine ⟨s,?_,j,p⟩;refine eO λc=>?_;exact (F s (by exact jm c) A).1 x y j
 have G:∀x y,x<n->y<n->x≠y->Kn m (gen len (g+1)) x y (l:Int):=λx y Q V S=>R.kn (N x y Q V S) E f;have low:∀x y q,m (gen len (g+1)) x y=some q->-(l:Int)<=q:=λx y q h=>by
  obtain ⟨x1,x2,L⟩:=R.lt _ _ _ _ f h;obtain ⟨q',O,o⟩:=G y x x2 x1 (aQ L);obtain ⟨s,A,r,u⟩:=B x y q h;obtain ⟨I,Ú,H,J⟩:=B y x q' o;rcases xQ s I with c | c | c
  ·have:=R.same u h (s:=I) (by exact aP c) (by lia) f;have:=R.bar _ _ _ _ _ (by lia) H J this;lia
  ·subst c;have:=(R.one _ _ _ _ _ (by lia) r H).1;exact hQ (L this)
  ·have:=R.same J o (s:=s) (by exact aP c) (by lia) f;have:=R.bar _ _ _ _ _ (by lia) r u this;lia
 refine ⟨?_,R.iI (xX l) f (λx y v e=>low x y v e) t (by exact aP z) a b v p⟩;obtain ⟨X,Y,Z,_⟩:=R.gz _ _ _ (eT z f) j;obtain ⟨q,O,o⟩:=G a b X Y Z;obtain ⟨s,A,r,u⟩:=B a b q o;have:=R.a3 _ _ _ _ _ _ (by lia) r u (show s<=t by lia) (eT z f) j p;lia
theorem Bd.after (R:Bd n (l:Int) (mo:Int) T len m wt pt pw) (Ny:∀i,i<=g1->gen len i<=T) (hk:∀a b,a<n->b<n->a≠b->Kn m (gen len g1) a b (l:Int)):
 len T<=len (gen len g1)+20*(56*(2*l+1))+8*((56*(2*l+1)+56*(mo+l+1))*56+(56*(mo+2*l+1)+56)):=by
 have h1:=Ny g1 (aj _);have A:=R.n8;have g:=R.jD (t0:=gen len g1) (T-gen len g1) (vX h1);rw [show gen len g1+(T-gen len g1)=T by exact jW h1] at g;have kn:∀t x y,gen len g1<=t->t<=T->x<n->y<n->x≠y->Kn m t x y (l:Int):=λt x y ht q hx Y DF=>R.kn (hk x y hx Y DF) ht q;have tie:∀t a b,gen len g1<=t->t<T->pt t a b->∃r,a<8/\N8 a b/\r<2*l+1/\m t a b=some ((r:Int)-l):=λt a b x6 h' e=>by obtain ⟨x7,X⟩:=R.known _ _ _ h' e;obtain ⟨G,Z,l3⟩:=R.lt _ _ _ _ (aP h') X;obtain ⟨v1,hle,z⟩:=kn t a b x6 (aP h') G Z l3;rw [X] at z;cases z;obtain ⟨px,hu,eu⟩:=kn t b a x6 (aP h') Z G (aQ l3);have:=R.bar _ _ _ _ _ h' e X eu;exact ⟨(x7+l).toNat,eT G A,⟨eT G A,eT Z A,l3⟩,by lia,by rw [X];congr 1;lia⟩
 have c1:cnt (λi=>∃a b,pt (gen len g1+i) a b) (T-gen len g1)<=56*(2*l+1):=by
  refine rX (λi c=>∃a b r,pt (gen len g1+i) a b/\a<8/\N8 a b/\r<2*l+1/\m (gen len g1+i) a b=some ((r:Int)-l)/\c=kc a b*(2*l+1)+r) (λi hi p=>?_) (λi j c W hj _ _ h u=>?_)
  ·obtain ⟨a,b,e⟩:=p;obtain ⟨r,B,f,L,x4⟩:=tie _ a b (l8 _ _) (su hi) e;exact ⟨_,enc (lG f) L,a,b,r,e,B,f,L,x4,U⟩
  ·obtain ⟨a,b,r,e,_,f,L,x4,z⟩:=h;obtain ⟨a',b',r',F,y1,C,y3,y4,V⟩:=u;obtain ⟨E,rfl⟩:=dec L y3 (z.symm.trans V);obtain ⟨rfl,rfl⟩:=qy f C E;have:=R.drop _ _ _ _ _ _ (show gen len g1+i<gen len g1+j by exact oq W) (su hj) e F x4 y4;lia
 have c2:cnt (λi=>∃a b,pw (gen len g1+i) a b) (T-gen len g1)<=(56*(2*l+1)+56*(mo+l+1))*56+(56*(mo+2*l+1)+56):=by
  let O:Nat->Nat->Prop:=λt g=>(∀i,i<=g->gen len i<=t)/\t<gen len (g+1)/\gen len (g+1)<=T
  let S:Nat->Prop:=λd=>(∃a b,pt d a b)\/∃a b,m (d+1) a b≠m d a b
  have up:∀{t g},gen len g1<=t->t<T->(∀i,i<=g->gen len i<=t)->t<gen len (g+1)->g1<=g:=λ{t g} x6 _ _ u=>by refine eO λc=>?_;have:=R.cg Ny (i:=g+1) (g1-(g+1)) (by lia);rw [show g+1+(g1-(g+1))=g1 by omega] at this;lia
  have s1:=Bl (P:=λi=>∃a b,pw (gen len g1+i) a b/\gen len g1+i<T) (Q:=λi=>(∃a b,pw (gen len g1+i) a b)/\∃g,O (gen len g1+i) g/\∃d,gen len g<=d/\d<gen len (g+1)/\S d)
   (R:=λi=>(∃a b,pw (gen len g1+i) a b)/\((∃g,O (gen len g1+i) g/\∀d,gen len g<=d->d<gen len (g+1)->¬S d)\/∃g,gen len g<=gen len g1+i/\T<gen len (g+1))) (λi p=>by
    obtain ⟨a,b,e,q⟩:=p;obtain ⟨g,h,u⟩:=R.tR q
    by_cases c:gen len (g+1)<=T
    ·by_cases x5:∃d,gen len g<=d/\d<gen len (g+1)/\S d
     ·exact .inl ⟨⟨a,b,e⟩,g,⟨h,u,c⟩,x5⟩
     ·exact .inr ⟨⟨a,b,e⟩,.inl ⟨g,⟨h,u,c⟩,λd y1 C y3=>x5 ⟨d,y1,C,y3⟩⟩⟩
    ·exact .inr ⟨⟨a,b,e⟩,.inr ⟨g,h g (aj _),sA c⟩⟩) (T-gen len g1)
  have s0:cnt (λi=>∃a b,pw (gen len g1+i) a b) (T-gen len g1)=cnt (λi=>∃a b,pw (gen len g1+i) a b/\gen len g1+i<T) (T-gen len g1):=by
   have:∀N,N<=T-gen len g1->cnt (λi=>∃a b,pw (gen len g1+i) a b) N=cnt (λi=>∃a b,pw (gen len g1+i) a b/\gen len g1+i<T) N:=λN=>by
    induction N with
    | zero=>intro _;rfl
    | succ N ih=>
     intro hN
     by_cases c:∃a b,pw (gen len g1+N) a b
     ·obtain ⟨a,b,e⟩:=c;rw [lL ⟨a,b,e⟩,lL (P:=λi=>∃a b,pw (gen len g1+i) a b/\gen len g1+i<T) ⟨a,b,e,Qo hN⟩,ih (by exact aP hN)]
     ·rw [oZ c,oZ (P:=λi=>∃a b,pw (gen len g1+i) a b/\gen len g1+i<T) λ⟨a,b,e,_⟩=>c ⟨a,b,e⟩,ih (by exact aP hN)]
   exact this _ (aj _)
  have s2:=Bl (P:=λi=>(∃a b,pw (gen len g1+i) a b)/\((∃g,O (gen len g1+i) g/\∀d,gen len g<=d->d<gen len (g+1)->¬S d)\/∃g,gen len g<=gen len g1+i/\T<gen len (g+1)))
   (Q:=λi=>(∃a b,pw (gen len g1+i) a b)/\∃g,O (gen len g1+i) g/\∀d,gen len g<=d->d<gen len (g+1)->¬S d) (R:=λi=>(∃a b,pw (gen len g1+i) a b)/\∃g,gen len g<=gen len g1+i/\T<gen len (g+1)) (λi p=>p.2.elim (λx9=>.inl ⟨p.1,x9⟩) λx9=>.inr ⟨p.1,x9⟩) (T-gen len g1)
  have tE:∀{t a b},t<T->pw t a b->a<8/\N8 a b:=λ{t a b} x6 e=>by obtain ⟨B,f,L,_⟩:=R.gz _ _ _ x6 e;exact ⟨eT B A,eT B A,eT f A,L⟩
  have d3:cnt (λi=>(∃a b,pw (gen len g1+i) a b)/\∃g,gen len g<=gen len g1+i/\T<gen len (g+1)) (T-gen len g1)<=56:=by
   refine rX (λi c=>∃a b,pw (gen len g1+i) a b/\a<8/\N8 a b/\c=kc a b) (λi hi p=>?_) (λi j c W hj p _ h u=>?_)
   ·obtain ⟨⟨a,b,e⟩,_⟩:=p;obtain ⟨B,f⟩:=tE (show gen len g1+i<T by exact su hi) e;exact ⟨_,lG f,a,b,e,B,f,U⟩
   ·obtain ⟨_,g,z3,z4⟩:=p;obtain ⟨a,b,e,_,f,z⟩:=h;obtain ⟨a',b',F,y1,C,V⟩:=u;obtain ⟨rfl,rfl⟩:=qy f C (z.symm.trans V);have H:=R.jY _ _ _ _ (show gen len g1+i<gen len g1+j by exact oq W) (su hj) e F;have I:gen len (g+1)<=len (gen len g1+i):=R.dQ z3 (by omega);omega
  have d2:cnt (λi=>(∃a b,pw (gen len g1+i) a b)/\∃g,O (gen len g1+i) g/\∀d,gen len g<=d->d<gen len (g+1)->¬S d) (T-gen len g1)<=56*(mo+2*l+1):=by
   refine rX (λi c=>∃a b r,pw (gen len g1+i) a b/\a<8/\N8 a b/\r<mo+2*l+1/\wt (gen len g1+i) a b=some ((r:Int)+1-l)/\c=kc a b*(mo+2*l+1)+r) (λi _ p=>?_) (λi j c W _ _ _ h u=>?_)
   ·obtain ⟨⟨a,b,e⟩,g,⟨h,u,z3⟩,z4⟩:=p;have q:gen len g1+i<T:=eT u z3;obtain ⟨B,f⟩:=tE q e;obtain ⟨_,_,_,x7,X⟩:=R.gz _ _ _ q e;have ES:=up (l8 _ _) q h u;have Nw:∀i,i<=g+1->gen len i<=T:=λk uY=>by
     by_cases x8:k=g+1
     ·rw [x8];exact z3
     ·have:=h k (by lia);lia
    have hle:gen len g1<=gen len g:=R.jE h (aP q) ES;obtain ⟨y1,C⟩:=R.wA Nw (λx y hx Y DF=>kn _ x y hle (Nw g (by exact fQ eN)) hx Y DF) (λd H I=>⟨λx y F=>z4 d H I (.inl ⟨x,y,F⟩),λx y=>eO λhc=>z4 d H I (.inr ⟨x,y,hc⟩)⟩) (h g (aj _)) u e X;have hr:(x7-1+l).toNat<mo+2*l+1:=by lia
    exact ⟨_,enc (lG f) hr,a,b,_,e,B,f,hr,by rw [X];congr 1;lia,U⟩
   ·obtain ⟨a,b,r,e,_,f,L,x4,z⟩:=h;obtain ⟨a',b',r',F,y1,C,y3,y4,V⟩:=u;obtain ⟨E,rfl⟩:=dec L y3 (z.symm.trans V);obtain ⟨rfl,rfl⟩:=qy f C E;have:=R.qO _ _ _ _ _ _ (show gen len g1+i<gen len g1+j by exact oq W) (by omega) e F x4 y4;lia
  have d1:cnt (λi=>(∃a b,pw (gen len g1+i) a b)/\∃g,O (gen len g1+i) g/\∃d,gen len g<=d/\d<gen len (g+1)/\S d) (T-gen len g1)<=(56*(2*l+1)+56*(mo+l+1))*56:=by
   refine rX (λi c=>∃g d a b v,O (gen len g1+i) g/\gen len g<=d/\d<gen len (g+1)/\pw (gen len g1+i) a b/\a<8/\N8 a b/\c=v*56+kc a b/\
    ((∃x y r,pt d x y/\x<8/\N8 x y/\r<2*l+1/\m d x y=some ((r:Int)-l)/\v=kc x y*(2*l+1)+r)\/
     ∃x y r,x<8/\N8 x y/\r<mo+l+1/\m (d+1) x y=some ((r:Int)-mo)/\m (d+1) x y≠m d x y/\v=56*(2*l+1)+(kc x y*(mo+l+1)+r))) (λi _ p=>?_) (λi j c W _ _ _ h u=>?_)
   ·obtain ⟨⟨a,b,e⟩,g,o,d,t1,t2,tJ⟩:=p;have q:gen len g1+i<T:=eT o.2.1 o.2.2;obtain ⟨B,f⟩:=tE q e;have ES:=up (l8 _ _) q o.1 o.2.1;have hle:gen len g1<=gen len g:=R.jE o.1 (aP q) ES;have Az:d<T:=by have:=o.2.2;exact eT t2 o.2.2
    have tc:∀x y,pt d x y->∃v,v<56*(2*l+1)+56*(mo+l+1)/\∃x y r,pt d x y/\x<8/\N8 x y/\r<2*l+1/\m d x y=some ((r:Int)-l)/\v=kc x y*(2*l+1)+r:=λx y D=>by obtain ⟨r,H,I,J,q4⟩:=tie d x y (ph hle t1) Az D;refine ⟨_,?_,x,y,r,D,H,I,J,q4,U⟩;have:=enc (lG I) J;exact Cg this
    have fin:∀v,v<56*(2*l+1)+56*(mo+l+1)->v*56+kc a b<(56*(2*l+1)+56*(mo+l+1))*56:=λv hc=>enc hc (lG f)
    by_cases c:∃x y,pt d x y
    ·obtain ⟨x,y,D⟩:=c;obtain ⟨v,hc,rest⟩:=tc x y D;exact ⟨_,fin v hc,g,d,a,b,v,o,t1,t2,e,B,f,U,.inl rest⟩
    ·rcases tJ with ⟨x,y,D⟩ | ⟨x,y,o4⟩
     ·exact absurd ⟨x,y,D⟩ c
     ·rcases R.cause d x y Az o4 with ⟨c',x7,kR,M,D,_⟩ | ⟨c',D,_⟩ | ⟨e',M,_,Y,A0⟩
      ·exact absurd ⟨x,c',D⟩ c
      ·exact absurd ⟨c',y,D⟩ c
      ·obtain ⟨G,Z,l3⟩:=R.lt _ _ _ _ (show d+1<=T by exact Az) Y;obtain ⟨v1,Yb,z⟩:=kn (d+1) x y (by lia) (by exact Az) G Z l3;rw [Y] at z;cases z;have hr:(M+mo).toNat<mo+l+1:=by lia
       refine ⟨_,fin (56*(2*l+1)+(kc x y*(mo+l+1)+(M+mo).toNat)) ?_,g,d,a,b,_,o,t1,t2,e,B,f,U,.inr ⟨x,y,_,eT G A,⟨eT G A,eT Z A,l3⟩,hr,by rw [Y];congr 1;lia,o4,U⟩⟩;have:=enc (lG ⟨eT G A,eT Z A,l3⟩) hr;exact oq this
   ·obtain ⟨g,d,a,b,v,o,_,t2,e,_,f,z,Yr⟩:=h;obtain ⟨g',vr,a',b',ñ,va,Wj,C_,F,y1,C,V,xi⟩:=u;obtain ⟨ec,E⟩:=dec (lG f) (lG C) (z.symm.trans V);obtain ⟨rfl,rfl⟩:=qy f C E;subst ec;have q:gen len g1+j<T:=eT va.2.1 va.2.2;have GU:d<T:=by have:=o.2.2;exact eT t2 o.2.2
    have vq:vr<T:=by have:=va.2.2;exact eT C_ va.2.2
    have YL:d=vr:=by
     rcases Yr with ⟨x,y,r,p1,_,p3,p4,p5,p6⟩ | ⟨x,y,r,_,p3,p4,p5,pn,p6⟩
     ·rcases xi with ⟨x',M,r',H,I,J,q4,q5,q6⟩ | ⟨x',M,r',_,_,_,_,_,q6⟩
      ·obtain ⟨E,rfl⟩:=dec p4 q4 (p6.symm.trans q6);obtain ⟨rfl,rfl⟩:=qy p3 J E;rcases xQ d vr with c | c | c
       ·have:=R.drop _ _ _ _ _ _ c vq p1 H p5 q5;lia
       ·exact c
       ·have:=R.drop _ _ _ _ _ _ c GU H p1 q5 p5;lia
      ·have:=enc (lG p3) p4;exact Kv this q6 p6
     ·rcases xi with ⟨x',M,r',_,_,J,q4,_,q6⟩ | ⟨x',M,r',I,J,q4,q5,qn,q6⟩
      ·have:=enc (lG J) q4;exact Kv this p6 q6
      ·obtain ⟨E,rfl⟩:=dec p4 q4 (show kc x y*(mo+l+1)+r=kc x' M*(mo+l+1)+r' by exact Kt p6 q6);obtain ⟨rfl,rfl⟩:=qy p3 J E;rcases xQ d vr with c | c | c
       ·have:=R.same p5 q5 (s:=vr) (by exact c) (by exact fQ eN) (by exact vq);exact absurd (q5.trans this.symm) qn
       ·exact c
       ·have:=R.same q5 p5 (s:=d) (by exact c) (by exact fQ eN) (by exact GU);exact absurd (p5.trans this.symm) pn
    subst YL;have H:=R.jY _ _ _ _ (show gen len g1+i<gen len g1+j by exact oq W) q e F;have I:gen len (g+1)<=len (gen len g1+i):=R.dQ (o.1 g (aj _)) (by lia);have J:gen len (g'+1)<=gen len (g+1):=by
     refine eO λc=>?_;have Yk:g<g':=by
      refine eO λx5=>?_;have e0:∀k,k<=g+1->gen len k<=T:=λk uY=>by
       by_cases x8:k=g+1
       ·rw [x8];exact o.2.2
       ·have:=o.1 k (by lia);lia
      have:=R.cg e0 (i:=g'+1) (g+1-(g'+1)) (Q0 x5);rw [show g'+1+(g+1-(g'+1))=g+1 by exact P' x5] at this;exact c this
     have:=R.jE (g:=g+1) va.1 (aP q) (by exact Yk);lia
    have:=va.2.1;lia
  rw [s0];exact c7 s1 (Fz d1 (c7 s2 (Fz d2 d3)))
 have m1:=Nat.mul_le_mul_left 20 c1;have m2:=Nat.mul_le_mul_left 8 c2;exact c7 g (Fz (FG m1 _) m2)
theorem Bd.rows (R:Bd n (l:Int) (mo:Int) T len m wt pt pw):len T<=len 0+1568*(7*(7*(l+1)+7*(mo+1)+1))+20*(56*(2*l+1))+8*((56*(2*l+1)+56*(mo+l+1))*56+(56*(mo+2*l+1)+56)):=by
 rcases R.gens (7*(7*(l+1)+7*(mo+1)+1)) with ⟨a,d⟩ | h
 ·obtain ⟨b,f,g⟩:=R.quiet U a;have c:∀i,i<=7*b+7->gen len i<=T:=λi o=>a i (by lia);have k:=R.after (g1:=7*b+7) c (R.narrow c g);have e:=R.cg a (i:=7*b+7) (7*(7*(l+1)+7*(mo+1)+1)-(7*b+7)) (by omega);rw [show 7*b+7+(7*(7*(l+1)+7*(mo+1)+1)-(7*b+7))=7*(7*(l+1)+7*(mo+1)+1) by exact J_ f] at e;have j:=R.dQ e (a _ (aj _));exact c7 k (vh (vh (c7 j d) _) _)
 ·exact c7 h (c7 (l8 _ _) (l8 _ _))
end
end MH
namespace MU
theorem BU (r:fw n F most) (g:bz n s) (B:ae s at_=some p) (R:p.a=a) (H:p.b=b) (A:(d9 n F at_ a b s).bar=none):
 Add (λw=>(w.tie=true->(w.a=a/\w.b≠b/\∃q,val s (true,b,w.b)=some q/\w.v=p.v+q)\/(w.b=b/\w.a≠a))/\(w.tie=false->w.v<=most-p.v/\∃f,F w.b=some f)) s (d9 n F at_ a b s):=by
 unfold d9 at A ⊢;dsimp only at A ⊢;generalize k:(λw:ah=>(w.tie=true->(w.a=a/\w.b≠b/\∃q,val s (true,b,w.b)=some q/\w.v=p.v+q)\/(w.b=b/\w.a≠a))/\(w.tie=false->w.v<=most-p.v/\∃f,F w.b=some f))=C;have g1:bz n (a6 (cz F) .a3 at_ s):=jS g vP;have O:Imp s (a6 (cz F) .a3 at_ s):=eC _ _ _ _;have Z:Add (λw=>w.tie=true->w.b=b) s (a6 (cz F) .a3 at_ s):=rS B λw e ht=>by
  unfold cz at e;split at e
  ·cases q:F p.b with
   | none=>rw [q] at e;cases e
   | some f=>rw [q] at e;cases e;cases ht
  ·cases e
 have T:Add C s (a6 (cz F) .a3 at_ s):=rS B λw e=>by
  subst k;unfold cz at e;split at e
  ·cases q:F p.b with
   | none=>rw [q] at e;cases e
   | some f=>
    rw [q] at e;cases e;have:=r.num _ _ q;exact ⟨nofun,λ_=>⟨by show f.2.2-p.v<=_;lia,f,q⟩⟩
  ·cases e
 generalize a6 (cz F) .a3 at_ s=s1 at*;have D:=br O.1 B;have o:bz n (a6 (cD F) .aS at_ s1):=jS g1 (vR r);have u:Imp s1 (a6 (cD F) .aS at_ s1):=eC _ _ _ _;have T2:Add (λw=>w.tie=true->w.b=b) s1 (a6 (cD F) .aS at_ s1):=rS D λw e _=>by
  unfold cD at e;split at e
  ·cases q:F p.a with
   | none=>rw [q] at e;cases e
   | some f=>rw [q] at e;cases e;exact H
  ·cases e
 have V:Add C s1 (a6 (cD F) .aS at_ s1):=rS D λw e=>by
  subst k;unfold cD at e;split at e
  ·cases q:F p.a with
   | none=>rw [q] at e;cases e
   | some f=>
    rw [q] at e;cases e;refine ⟨λ_=>.inr ⟨H,λz=>?_⟩,nofun⟩;have z:f.1=a:=z;have:=r.own _ _ q;rw [z,<-R,q] at this;cases this
  ·cases e
 generalize a6 (cD F) .aS at_ s1=s2 at*;have M:=br u.1 D;have Zm:=Z.trans u.1 T2;have wJ:∀z,z≠b->val s2 (true,b,z)=val s (true,b,z):=λz hz=>eO λhc=>by obtain ⟨j,w,l,hw,m,_⟩:=B6 g o (O.1.trans u.1) hc;obtain ⟨kt,_,kb⟩:=gc m;have:=Zm j w l hw kt;exact hz (kb.symm.trans this)
 have E:Imp s2 ((cq n s2 true b).foldl (λd j=>ai av .sum at_ j d) s2):=cW (λ_ _=>ck ..) _ _;have L:bz n ((cq n s2 true b).foldl (λd j=>ai av .sum at_ j d) s2):=qL (λ_ _ g=>rY g vL) _ _ o;have G:=cW (f:=λd j=>ai av .sum j at_ d) (λ_ _=>ck ..) (cO n ((cq n s2 true b).foldl (λd j=>ai av .sum at_ j d) s2) a) ((cq n s2 true b).foldl (λd j=>ai av .sum at_ j d) s2);have Q:=cW (f:=λd j=>ai (aR F) .back j at_ d) (λ_ _=>ck ..) (cq n ((cO n ((cq n s2 true b).foldl (λd j=>ai av .sum at_ j d) s2) a).foldl (λd j=>ai av .sum j at_ d) ((cq n s2 true b).foldl (λd j=>ai av .sum at_ j d) s2)) false b) ((cO n ((cq n s2 true b).foldl (λd j=>ai av .sum at_ j d) s2) a).foldl (λd j=>ai av .sum j at_ d) ((cq n s2 true b).foldl (λd j=>ai av .sum at_ j d) s2));have b4:=eO λz=>Q.1.bar z A;have I:=eO λz=>G.1.bar z b4;have b2:=eO λz=>E.1.bar z I;have W:Add C s2 ((cq n s2 true b).foldl (λd j=>ai av .sum at_ j d) s2):=sD (f:=λd j=>ai av .sum at_ j d) (λ_ _=>ck ..) _ s2 s2 (Imp.refl _) λj l y h=>by
  subst k;obtain ⟨c,_,t⟩:=Cr l;obtain ⟨q,i,m⟩:=o.at_ _ _ t;obtain ⟨_,S,v⟩:=gc m;have x:=o.ne b2 j q i;refine Bm (br h.1 M) (br h.1 i) λw e=>?_;unfold av at e;split at e
  ·cases e;have Ys:c≠b:=λz=>x (by rw [S,v,z]);refine ⟨λ_=>.inl ⟨R,λz=>x (by rw [S];exact z.symm),q.v,?_,U⟩,nofun⟩;show val s (true,b,q.b)=_;rw [v,<-wJ c Ys];exact lM t i
  ·cases e
 generalize (cq n s2 true b).foldl (λd j=>ai av .sum at_ j d) s2=s3 at*;have N:=br E.1 M;have X:Add C s3 ((cO n s3 a).foldl (λd j=>ai av .sum j at_ d) s3):=sD (f:=λd j=>ai av .sum j at_ d) (λ_ _=>ck ..) _ s3 s3 (Imp.refl _) λj l y h=>by
  subst k;obtain ⟨c,_,t⟩:=zX l;obtain ⟨q,i,m⟩:=L.at_ _ _ t;obtain ⟨_,_,v⟩:=gc m;have x:=L.ne I j q i;refine Bm (br h.1 i) (br h.1 N) λw e=>?_;unfold av at e;split at e
  ·cases e;exact ⟨λ_=>.inr ⟨H,λz=>x (by rw [v];exact z)⟩,nofun⟩
  ·cases e
 generalize (cO n s3 a).foldl (λd j=>ai av .sum j at_ d) s3=s4 at*;have uV:=br G.1 N;have Y:Add C s4 ((cq n s4 false b).foldl (λd j=>ai (aR F) .back j at_ d) s4):=sD (f:=λd j=>ai (aR F) .back j at_ d) (λ_ _=>ck ..) _ s4 s4 (Imp.refl _) λj _ y h=>oe λw e=>by
  subst k
  cases J:ae y j with
  | none=>rw [J] at e;cases e
  | some q=>
   rw [J] at e;have e:(ae y at_).bind (λp=>aR F q p)=some w:=e;rw [br h.1 uV] at e;have e:aR F q p=some w:=e;unfold aR at e;split at e
   ·cases z:F q.b with
    | none=>rw [z] at e;cases e
    | some f=>
     rw [z] at e;cases e;have:=r.num _ _ z;exact ⟨nofun,λ_=>⟨by show min q.v f.2.2-p.v<=_;lia,f,z⟩⟩
   ·cases e
 exact (((T.trans u.1 V).trans E.1 W).trans G.1 X).trans Q.1 Y
theorem Rb:Add (λw=>w.tie=false->∃f,F w.b=some f) s (ef n F at_ a s):=by
 unfold ef;dsimp only;have g:Add (λw:ah=>w.tie=false->∃f,F w.b=some f) s (a6 (cG F) .sure at_ s):=oe λw e c=>by
  cases q:ae s at_ with
  | none=>rw [q] at e;cases e
  | some p=>
   rw [q] at e;have e:cG F p=some w:=e;unfold cG at e;split at e
   ·cases z:F p.b with
    | none=>rw [z] at e;cases e
    | some f=>rw [z] at e;cases e;cases c
   ·cases e
 have m:Imp s (a6 (cG F) .sure at_ s):=eC _ _ _ _;generalize a6 (cG F) .sure at_ s=s1 at*;have h:Add (λw:ah=>w.tie=false->∃f,F w.b=some f) s1 (a6 (cy F) .ao at_ s1):=oe λw e c=>by
  cases q:ae s1 at_ with
  | none=>rw [q] at e;cases e
  | some p=>
   rw [q] at e;have e:cy F p=some w:=e;unfold cy at e;split at e
   ·cases z:F p.a with
    | none=>rw [z] at e;cases e
    | some o=>
     rw [z] at e;have e:(F p.b).map (λf=>(⟨false,o.1,p.b,min p.v f.2.2-o.2.1⟩:ah))=some w:=e
     cases C:F p.b with
     | none=>rw [C] at e;cases e
     | some f=>rw [C] at e;cases e;exact ⟨f,C⟩
   ·cases e
 have k:Imp s1 (a6 (cy F) .ao at_ s1):=eC _ _ _ _;generalize a6 (cy F) .ao at_ s1=s2 at*;have i:Add (λw:ah=>w.tie=false->∃f,F w.b=some f) s2 ((cO n s2 a).foldl (λb j=>ai (aR F) .back at_ j b) s2):=sD (f:=λb j=>ai (aR F) .back at_ j b) (λ_ _=>ck ..) _ s2 s2 (Imp.refl _) λj _ d _=>oe λw e c=>by
  cases I:ae d at_ with
  | none=>rw [I] at e;cases e
  | some p=>
   rw [I] at e;have e:(ae d j).bind (λq=>aR F p q)=some w:=e
   cases J:ae d j with
   | none=>rw [J] at e;cases e
   | some q=>
    rw [J] at e;have e:aR F p q=some w:=e;unfold aR at e;split at e
    ·cases z:F p.b with
     | none=>rw [z] at e;cases e
     | some f=>rw [z] at e;cases e;exact ⟨f,z⟩
    ·cases e
 have l:Imp s2 ((cO n s2 a).foldl (λb j=>ai (aR F) .back at_ j b) s2):=cW (λ_ _=>ck ..) _ _;exact (g.trans k.1 h).trans l.1 i
theorem eS (st:St) (o:Option ah) (word:Wd) (used:List Nat):(put st o word used).rows.length<=st.rows.length+1:=by
 cases o with
 | none=>exact lB _
 | some w=>
  show (take st w word used).rows.length<=_
  by_cases c:fh st w
  ·rw [(zy c).2.2];exact aj _
  ·rw [sg c];exact lB _
theorem mr (a:∀s j,(f s j).rows.length<=s.rows.length+1):∀(l:List Nat) (s:St),(l.foldl f s).rows.length<=s.rows.length+l.length
 | [],s=>aj _
 | j::l,s=>by have b:=mr a l (f s j);have c:=a s j;rw [jl];show (l.foldl f (f s j)).rows.length<=_;exact Cf b c
theorem zD:(cq n st tie a).length<=n:=by have:=AZ (λb=>st.best (tie,a,b)) (List.range n);rw [rp] at this;exact this
theorem zW:(cO n st b).length<=n:=by have:=AZ (λa=>st.best (true,a,b)) (List.range n);rw [rp] at this;exact this
theorem OM:(d9 n F at_ a b s).rows.length<=s.rows.length+(2+3*n):=by unfold d9;dsimp only;have c:(a6 (cz F) .a3 at_ s).rows.length<=s.rows.length+1:=eS _ _ _ _;generalize a6 (cz F) .a3 at_ s=s1 at*;have d:(a6 (cD F) .aS at_ s1).rows.length<=s1.rows.length+1:=eS _ _ _ _;generalize a6 (cD F) .aS at_ s1=s2 at*;have e:=mr (f:=λst j=>ai av .sum at_ j st) (λ_ _=>eS _ _ _ _) (cq n s2 true b) s2;have i:=zD (n:=n) (tie:=true) (st:=s2) (a:=b);generalize (cq n s2 true b).foldl (λst j=>ai av .sum at_ j st) s2=s3 at*;have g:=mr (f:=λst j=>ai av .sum j at_ st) (λ_ _=>eS _ _ _ _) (cO n s3 a) s3;have k:=zW (n:=n) (st:=s3) (b:=a);generalize (cO n s3 a).foldl (λst j=>ai av .sum j at_ st) s3=s4 at*;have h:=mr (f:=λst j=>ai (aR F) .back j at_ st) (λ_ _=>eS _ _ _ _) (cq n s4 false b) s4;have l:=zD (n:=n) (tie:=false) (st:=s4) (a:=b);lia
theorem PM:(ef n F at_ a s).rows.length<=s.rows.length+(2+n):=by unfold ef;dsimp only;have c:(a6 (cG F) .sure at_ s).rows.length<=s.rows.length+1:=eS _ _ _ _;generalize a6 (cG F) .sure at_ s=s1 at*;have d:(a6 (cy F) .ao at_ s1).rows.length<=s1.rows.length+1:=eS _ _ _ _;generalize a6 (cy F) .ao at_ s1=s2 at*;have e:=mr (f:=λst j=>ai (aR F) .back at_ j st) (λ_ _=>eS _ _ _ _) (cO n s2 a) s2;have g:=zW (n:=n) (st:=s2) (b:=a);lia
theorem Pf (a:n<=8):(look n F at_ s).rows.length<=s.rows.length+26:=by
 unfold look;split
 ·split
  ·split
   ·exact c7 OM (by lia)
   ·exact c7 PM (by lia)
  ·exact h9
 ·exact h9
theorem V6 (e:x≠y):(if x<k+1 then 1 else 0)+(if y<k+1 then 1 else 0)<=(if x<k then 1 else 0)+(if y<k then 1 else 0)+1/\(¬(k=x\/k=y)->(if x<k+1 then 1 else 0)+(if y<k+1 then 1 else 0)=(if x<k then 1 else 0)+(if y<k then 1 else 0)):=by
 have d:∀z,k≠z->(if z<k+1 then 1 else 0)=(if z<k then 1 else 0):=λz h=>by
  by_cases c:z<k
  ·rw [if_pos c,if_pos (lS c)]
  ·rw [if_neg c,if_neg (by lia)]
 by_cases a:k=x
 ·subst a;rw [d y e,if_pos (qj k),if_neg (iD k)];exact ⟨by lia,λh=>absurd (.inl U) h⟩
 ·rw [d x a]
  by_cases b:k=y
  ·subst b;rw [if_pos (qj k),if_neg (iD k)];exact ⟨aj _,λh=>absurd (.inr U) h⟩
  ·rw [d y b];exact ⟨lB _,λ_=>rfl⟩
theorem wk {f:St->Nat->St} {g:Nat->Option Nat} {s0:St} {x y:Nat} (e:x≠y) (a:∀s j,Imp s (f s j)) (b:∀s j,(f s j).rows.length<=s.rows.length+1) (d:∀c j s,c=x\/c=y->g c=some j->Imp s0 s->(f s j).bar=none->(f s j).rows.length<=s.rows.length):
 ∀k,(((List.range k).filterMap g).foldl f s0).bar=none->(((List.range k).filterMap g).foldl f s0).rows.length+((if x<k then 1 else 0)+(if y<k then 1 else 0))<=s0.rows.length+k
 | 0,_=>aj _
 | k+1,h=>by
  rw [xN,xV,ue] at h ⊢;have l:Imp s0 (((List.range k).filterMap g).foldl f s0):=cW a _ _;have i:=wk e a b d k;obtain ⟨q,m⟩:=V6 (k:=k) e;generalize (if x<k then 1 else 0)+(if y<k then 1 else 0)=A at*;generalize (if x<k+1 then 1 else 0)+(if y<k+1 then 1 else 0)=B at*;generalize ((List.range k).filterMap g).foldl f s0=s at*
  cases o:g k with
  | none=>
   rw [show [k].filterMap g=[] by rw [x_,o];rfl] at h ⊢;have i:=i h;show s.rows.length+_<=_;lia
  | some j=>
   rw [show [k].filterMap g=[j] by rw [x_,o];rfl] at h ⊢;have h:(f s j).bar=none:=h;have p:s.bar=none:=eO λc=>(a s j).1.bar c h;have n:=b s j;show (f s j).rows.length+_<=_
   by_cases c:k=x\/k=y
   ·have:=d k j s c o l h;lia
   ·have:=m c;lia
theorem zH (g:bz n st) (f:st.bar=none) (h:st.best (t,a,a)=some j):False:=by obtain ⟨w,d,e⟩:=g.at_ _ _ h;obtain ⟨_,b,c⟩:=gc e;exact g.ne f j w d (b.trans c.symm)
theorem KS {w:ah} (b:w.tie=true) (e:w.a=w.b) (h:(take st w word used).bar=none):(take st w word used).rows.length<=st.rows.length:=by
 by_cases c:fh st w
 ·refine absurd h ?_;unfold take;rw [if_pos c];have a:=c;unfold fh at a;rw [if_pos ⟨b,e⟩] at a;show (if st.bar=none/\fY w then some st.rows.length else st.bar)≠none
  by_cases z:st.bar=none
  ·rw [if_pos ⟨z,b,e,a⟩];exact λh=>nomatch h
  ·rw [if_neg λq=>z q.1];exact z
 ·rw [sg c];exact aj _
theorem zd (a:ae s i=some p) (b:ae s j=some q):ai f word i j s=put s (f p q) word [i,j]:=by unfold ai;rw [a,b];rfl
theorem Qe (g:bz n s) (d:ae s at_=some p) (z:p.tie=true) (l:s.bar=none) (u:((cq n s true p.b).foldl (λst j=>ai av .sum at_ j st) s).bar=none):((cq n s true p.b).foldl (λst j=>ai av .sum at_ j st) s).rows.length+2<=s.rows.length+n:=by
 have k:=g.lt _ _ d;have h:=wk (f:=λst j=>ai av .sum at_ j st) (g:=λc=>s.best (true,p.b,c)) (s0:=s) (x:=p.a) (y:=p.b) (g.ne l _ _ d) (λ_ _=>ck ..) (λ_ _=>eS _ _ _ _) (λc j m v b i a=>by
  have b:s.best (true,p.b,c)=some j:=b;rcases v with rfl | rfl
  ·obtain ⟨q,r,t⟩:=g.at_ _ _ b;obtain ⟨A,B,C⟩:=gc t;have e:=zd (f:=av) (word:=.sum) (br i.1 d) (br i.1 r);have o:av p q=some ⟨true,p.a,q.b,p.v+q.v⟩:=if_pos ⟨z,A,B.symm⟩;rw [o] at e;have a:(ai av .sum at_ j m).bar=none:=a;show (ai av .sum at_ j m).rows.length<=_;rw [e] at a ⊢;exact KS (w:=⟨true,p.a,q.b,p.v+q.v⟩) U C.symm a
  ·exact (zH g l b).elim) n u
 rw [if_pos k.1,if_pos k.2] at h;exact h
theorem Qf (g:bz n s) (d:ae s at_=some p) (z:p.tie=true) (l:s.bar=none) (u:((cO n s p.a).foldl (λst j=>ai av .sum j at_ st) s).bar=none):((cO n s p.a).foldl (λst j=>ai av .sum j at_ st) s).rows.length+2<=s.rows.length+n:=by
 have k:=g.lt _ _ d;have h:=wk (f:=λst j=>ai av .sum j at_ st) (g:=λc=>s.best (true,c,p.a)) (s0:=s) (x:=p.a) (y:=p.b) (g.ne l _ _ d) (λ_ _=>ck ..) (λ_ _=>eS _ _ _ _) (λc j m v b i a=>by
  have b:s.best (true,c,p.a)=some j:=b;rcases v with rfl | rfl
  ·exact (zH g l b).elim
  ·obtain ⟨q,r,t⟩:=g.at_ _ _ b;obtain ⟨A,B,C⟩:=gc t;have e:=zd (f:=av) (word:=.sum) (br i.1 r) (br i.1 d);have o:av q p=some ⟨true,q.a,p.b,q.v+p.v⟩:=if_pos ⟨A,z,C⟩;rw [o] at e;have a:(ai av .sum j at_ m).bar=none:=a;show (ai av .sum j at_ m).rows.length<=_;rw [e] at a ⊢;exact KS (w:=⟨true,q.a,p.b,q.v+p.v⟩) U B a) n u
 rw [if_pos k.1,if_pos k.2] at h;exact h
theorem Qr (g:bz n s) (b:ae s at_=some p) (k:s.bar=none) (r:((cq n s false p.b).foldl (λst j=>ai (aR F) .back j at_ st) s).bar=none):((cq n s false p.b).foldl (λst j=>ai (aR F) .back j at_ st) s).rows.length+2<=s.rows.length+n:=by
 have d:=g.lt _ _ b;have h:=wk (f:=λst j=>ai (aR F) .back j at_ st) (g:=λc=>s.best (false,p.b,c)) (s0:=s) (x:=p.a) (y:=p.b) (g.ne k _ _ b) (λ_ _=>ck ..) (λ_ _=>eS _ _ _ _) (λc j v t a i _=>by
  have a:s.best (false,p.b,c)=some j:=a;rcases t with rfl | rfl
  ·obtain ⟨q,m,o⟩:=g.at_ _ _ a;obtain ⟨_,_,u⟩:=gc o;have e:=zd (f:=aR F) (word:=.back) (br i.1 m) (br i.1 b);have l:aR F q p=none:=if_neg λz=>z.2.2.2 u.symm;rw [l] at e;show (ai (aR F) .back j at_ v).rows.length<=_;rw [e];exact aj _
  ·exact (zH g k a).elim) n r
 rw [if_pos d.1,if_pos d.2] at h;exact h
theorem Qs (g:bz n s) (b:ae s at_=some p) (k:s.bar=none) (r:((cO n s p.a).foldl (λst j=>ai (aR F) .back at_ j st) s).bar=none):((cO n s p.a).foldl (λst j=>ai (aR F) .back at_ j st) s).rows.length+2<=s.rows.length+n:=by
 have d:=g.lt _ _ b;have h:=wk (f:=λst j=>ai (aR F) .back at_ j st) (g:=λc=>s.best (true,c,p.a)) (s0:=s) (x:=p.a) (y:=p.b) (g.ne k _ _ b) (λ_ _=>ck ..) (λ_ _=>eS _ _ _ _) (λc j v t a i _=>by
  have a:s.best (true,c,p.a)=some j:=a;rcases t with rfl | rfl
  ·exact (zH g k a).elim
  ·obtain ⟨q,m,o⟩:=g.at_ _ _ a;obtain ⟨_,u,_⟩:=gc o;have e:=zd (f:=aR F) (word:=.back) (br i.1 b) (br i.1 m);have l:aR F p q=none:=if_neg λz=>z.2.2.2 u;rw [l] at e;show (ai (aR F) .back at_ j v).rows.length<=_;rw [e];exact aj _) n r
 rw [if_pos d.1,if_pos d.2] at h;exact h
theorem PJ (t:fw n F most) (g:bz n s) (u:ae s at_=some p) (m:p.tie=true) (b:(d9 n F at_ p.a p.b s).bar=none):(d9 n F at_ p.a p.b s).rows.length+4<=s.rows.length+3*n:=by unfold d9 at b ⊢;dsimp only at b ⊢;have A:(a6 (cz F) .a3 at_ s).rows.length<=s.rows.length+1:=eS _ _ _ _;have q:bz n (a6 (cz F) .a3 at_ s):=jS g vP;have x:=br (eC (cz F) .a3 at_ s).1 u;generalize a6 (cz F) .a3 at_ s=s1 at*;have B:(a6 (cD F) .aS at_ s1).rows.length<=s1.rows.length+1:=eS _ _ _ _;have e:bz n (a6 (cD F) .aS at_ s1):=jS q (vR t);have k:=br (eC (cD F) .aS at_ s1).1 x;generalize a6 (cD F) .aS at_ s1=s2 at*;have C:=Qe e k m;have h:Imp s2 ((cq n s2 true p.b).foldl (λa j=>ai av .sum at_ j a) s2):=cW (λ_ _=>ck ..) _ _;have f:bz n ((cq n s2 true p.b).foldl (λa j=>ai av .sum at_ j a) s2):=qL (λ_ _ g=>rY g vL) _ _ e;generalize (cq n s2 true p.b).foldl (λa j=>ai av .sum at_ j a) s2=s3 at*;have l:=br h.1 k;have D:=Qf f l m;have i:Imp s3 ((cO n s3 p.a).foldl (λa j=>ai av .sum j at_ a) s3):=cW (λ_ _=>ck ..) _ _;have r:bz n ((cO n s3 p.a).foldl (λa j=>ai av .sum j at_ a) s3):=qL (λ_ _ g=>rY g vL) _ _ f;generalize (cO n s3 p.a).foldl (λa j=>ai av .sum j at_ a) s3=s4 at*;have y:=br i.1 l;have v:Imp s4 ((cq n s4 false p.b).foldl (λa j=>ai (aR F) .back j at_ a) s4):=cW (λ_ _=>ck ..) _ _;have d:s4.bar=none:=eO λc=>v.1.bar c b;have o:s3.bar=none:=eO λc=>i.1.bar c d;have z:s2.bar=none:=eO λc=>h.1.bar c o;have E:=Qr r y d b;lia
theorem Le (b:fw n F most) (g:bz n s) (h:ae s at_=some p) (a:(ef n F at_ p.a s).bar=none):(ef n F at_ p.a s).rows.length<=s.rows.length+n:=by unfold ef at a ⊢;dsimp only at a ⊢;have o:(a6 (cG F) .sure at_ s).rows.length<=s.rows.length+1:=eS _ _ _ _;have e:bz n (a6 (cG F) .sure at_ s):=jS g (zw b);have k:=br (eC (cG F) .sure at_ s).1 h;generalize a6 (cG F) .sure at_ s=s1 at*;have q:(a6 (cy F) .ao at_ s1).rows.length<=s1.rows.length+1:=eS _ _ _ _;have f:bz n (a6 (cy F) .ao at_ s1):=jS e (z6 b);have l:=br (eC (cy F) .ao at_ s1).1 k;generalize a6 (cy F) .ao at_ s1=s2 at*;have i:Imp s2 ((cO n s2 p.a).foldl (λm j=>ai (aR F) .back at_ j m) s2):=cW (λ_ _=>ck ..) _ _;have d:s2.bar=none:=eO λc=>i.1.bar c a;have r:=Qs f l d a;lia
def pw (n:Nat) (F:c9) (s0:St) (t a b:Nat):Prop:=∃w,ae (run n F s0 t) t=some w/\w.tie=false/\w.a=a/\w.b=b/\(run n F s0 t).best (false,a,b)=some t
theorem step (n:Nat) (F:c9) (s0:St) (f:t<(run n F s0 t).rows.length):
 (∃p,ae (run n F s0 t) t=some p/\p.tie=true/\pt n F s0 t p.a p.b/\run n F s0 (t+1)=d9 n F t p.a p.b (run n F s0 t))\/
 (∃p,ae (run n F s0 t) t=some p/\p.tie=false/\pw n F s0 t p.a p.b/\run n F s0 (t+1)=ef n F t p.a (run n F s0 t))\/
 ((∀a b,¬pt n F s0 t a b)/\(∀a b,¬pw n F s0 t a b)/\run n F s0 (t+1)=run n F s0 t):=by
 obtain ⟨p,c⟩:∃p,ae (run n F s0 t) t=some p:=⟨_,by unfold ae;rw [gp f];rfl⟩;have f:run n F s0 (t+1)=look n F t (run n F s0 t):=U
 by_cases d:(run n F s0 t).best p.key=some t
 ·cases o:p.tie with
  | true=>
   have g:(run n F s0 t).best (true,p.a,p.b)=some t:=by rw [<-d];unfold ah.key;rw [o]
   exact .inl ⟨p,c,o,⟨p,c,o,U,U,g⟩,f.trans (zi c o U U g)⟩
  | false=>
   have g:(run n F s0 t).best (false,p.a,p.b)=some t:=by rw [<-d];unfold ah.key;rw [o]
   exact .inr (.inl ⟨p,c,o,⟨p,c,o,U,U,g⟩,f.trans (Cs c o d)⟩)
 ·refine .inr (.inr ⟨λa b h=>?_,λa b h=>?_,f.trans (KR c d)⟩)
  ·obtain ⟨w,e,i,j,k,l⟩:=h;rw [c] at e;cases e;exact d (by unfold ah.key;rw [i,j,k];exact l)
  ·obtain ⟨w,e,i,j,k,l⟩:=h;rw [c] at e;cases e;exact d (by unfold ah.key;rw [i,j,k];exact l)
theorem oo (e:Ext s s') {w:ah} (b:i<s.rows.length) (h:ae s' i=some w):ae s i=some w:=by obtain ⟨p,a⟩:∃p,ae s i=some p:=⟨_,by unfold ae;rw [gp b];rfl⟩;rw [br e a] at h;cases h;exact a
theorem JF (g:fw n F most) (d:bz n s0) (w0:∀a b,val s0 (false,a,b)=none) (r:∀t,t<T->t<(run n F s0 t).rows.length) (m:∀t,t<=T->(run n F s0 t).bar=none):∀t,t<=T->∀i w,ae (run n F s0 t) i=some w->w.tie=false->∃f,F w.b=some f
 | 0,_,i,w,h,c=>by
  obtain ⟨j,_,q⟩:=d.top i w h;obtain ⟨u,y,_⟩:=d.at_ _ _ q;have:=lM q y;have x:w.key=(false,w.a,w.b):=by unfold ah.key;rw [c]
  rw [x,w0] at this;cases this
 | t+1,k,i,w,h,c=>by
  have z:=JF g d w0 r m t (by exact aP k);have v:=u9 g d t
  by_cases l:i<(run n F s0 t).rows.length
  ·exact z i w (oo (zev n F t (run n F s0 t)).1 l h) c
  ·rcases step n F s0 (r t (by exact k)) with ⟨p,s,_,_,e⟩ | ⟨p,s,_,_,e⟩ | ⟨_,_,e⟩
   ·have o:=m (t+1) k;rw [e] at o h;exact ((BU g v s U U o i w (by exact jm l) h).2 c).2
   ·rw [e] at h;exact Rb i w (by exact jm l) h c
   ·rw [e] at h;exact absurd (jQ h) (by omega)
theorem PN (i:ae s at_=some p):Add (λw=>w.tie=true->w.a=p.a) s (ef n F at_ p.a s):=by
 unfold ef;dsimp only;have d:Add (λw:ah=>w.tie=true->w.a=p.a) s (a6 (cG F) .sure at_ s):=rS i λw e b=>by
  unfold cG at e;split at e
  ·cases z:F p.b with
   | none=>rw [z] at e;cases e
   | some f=>rw [z] at e;cases e;rfl
  ·cases e
 have m:Imp s (a6 (cG F) .sure at_ s):=eC _ _ _ _;generalize a6 (cG F) .sure at_ s=s1 at*;have g:Add (λw:ah=>w.tie=true->w.a=p.a) s1 (a6 (cy F) .ao at_ s1):=oe λw e b=>by
  cases q:ae s1 at_ with
  | none=>rw [q] at e;cases e
  | some p=>
   rw [q] at e;have e:cy F p=some w:=e;unfold cy at e;split at e
   ·cases z:F p.a with
    | none=>rw [z] at e;cases e
    | some o=>
     rw [z] at e;have e:(F p.b).map (λf=>(⟨false,o.1,p.b,min p.v f.2.2-o.2.1⟩:ah))=some w:=e
     cases J:F p.b with
     | none=>rw [J] at e;cases e
     | some f=>rw [J] at e;cases e;cases b
   ·cases e
 have k:Imp s1 (a6 (cy F) .ao at_ s1):=eC _ _ _ _;generalize a6 (cy F) .ao at_ s1=s2 at*;have h:Add (λw:ah=>w.tie=true->w.a=p.a) s2 ((cO n s2 p.a).foldl (λa j=>ai (aR F) .back at_ j a) s2):=sD (f:=λa j=>ai (aR F) .back at_ j a) (λ_ _=>ck ..) _ s2 s2 (Imp.refl _) λj _ c _=>oe λw e b=>by
  cases C:ae c at_ with
  | none=>rw [C] at e;cases e
  | some p=>
   rw [C] at e;have e:(ae c j).bind (λq=>aR F p q)=some w:=e
   cases I:ae c j with
   | none=>rw [I] at e;cases e
   | some q=>
    rw [I] at e;have e:aR F p q=some w:=e;unfold aR at e;split at e
    ·cases z:F p.b with
     | none=>rw [z] at e;cases e
     | some f=>rw [z] at e;cases e;cases b
    ·cases e
 have l:Imp s2 ((cO n s2 p.a).foldl (λa j=>ai (aR F) .back at_ j a) s2):=cW (λ_ _=>ck ..) _ _;exact (d.trans k.1 g).trans l.1 h
theorem Ve {l mo:Nat} (h8:n<=8) (H:fw n F (mo:Int)) (g0:bz n s0) (told:∀i,0<i->i<n->(∃v,v<=(l:Int)/\val s0 (true,0,i)=some v)/\∃v,v<=0/\val s0 (true,i,0)=some v) (w0:∀a b,val s0 (false,a,b)=none)
 {T:Nat} (X:∀t,t<T->t<(run n F s0 t).rows.length) (z:∀t,t<=T->(run n F s0 t).bar=none):
 MH.Bd n (l:Int) (mo:Int) T (λt=>(run n F s0 t).rows.length) (λt a b=>val (run n F s0 t) (true,a,b)) (λt a b=>val (run n F s0 t) (false,a,b)) (pt n F s0) (pw n F s0):=by
 have g:=u9 H g0;have E:∀t a b,pt n F s0 t a b->∃w,ae (run n F s0 t) t=some w/\w.tie=true/\w.a=a/\w.b=b/\val (run n F s0 t) (true,a,b)=some w.v/\run n F s0 (t+1)=d9 n F t a b (run n F s0 t):=λt a b ⟨w,c,f,u,y,o⟩=>⟨w,c,f,u,y,lM o c,zi c f u y o⟩;have Q:∀t a b,pw n F s0 t a b->∃w,ae (run n F s0 t) t=some w/\w.tie=false/\w.a=a/\w.b=b/\val (run n F s0 t) (false,a,b)=some w.v/\(run n F s0 t).best (false,a,b)=some t:=λt a b ⟨w,c,f,u,y,o⟩=>⟨w,c,f,u,y,lM o c,o⟩;have ends:=JF H g0 w0 X z;have wm:∀t a b v,t<T->val (run n F s0 t) (false,a,b)=some v->∃v',v<=v'/\val (run n F s0 (t+1)) (false,a,b)=some v':=λt a b v m h=>by have R:=(nV (g t) (z t (by exact aP m)) h).1;obtain ⟨u',c,f⟩:=(zev n F t (run n F s0 t)).2 (false,a,b) v R h;refine ⟨u',?_,c⟩;unfold dh at f;simp at f;exact f
 have V_:∀t a b v,val (run n F s0 t) (false,a,b)=some v->∀x4,t+x4<=T->∃v',v<=v'/\val (run n F s0 (t+x4)) (false,a,b)=some v':=λt a b v h x4=>by
  induction x4 with
  | zero=>exact λ_=>⟨v,fO _,h⟩
  | succ x4 ih=>
   intro hd;obtain ⟨v1,c,e1⟩:=ih (by exact aP hd);obtain ⟨v2,f,e2⟩:=wm (t+x4) a b v1 (by exact hd) e1;exact ⟨v2,so c f,e2⟩
 have once:∀(k:Key) (t t':Nat) (x x':ah),t<t'->ae (run n F s0 t) t=some x->ae (run n F s0 t') t'=some x'->x'.key=k->(run n F s0 t).best k=some t->(run n F s0 t).rows.length<=t':=λk t t' x x' J _ Nb Y xm=>by refine eO λx6=>?_;have c:=oo (pj (n:=n) (F:=F) (s:=s0) (aP J)).1 (sA x6) Nb;obtain ⟨j,I,xk⟩:=(g t).top t' x' c;rw [Y,xm] at xk;cases xk;exact vW J I
 exact
 { n8:=h8
   L0:=xX _
   wH:=xX _
   go:=X
   t8:=λt _=>(zev n F t (run n F s0 t)).1.len
   lt:=λt a b v m h=>by obtain ⟨x1,x2,x3⟩:=nV (g t) (z t m) h;exact ⟨x2,x3,x1⟩
   known:=λt a b _ h=>by obtain ⟨w,_,_,_,_,o,_⟩:=E t a b h;exact ⟨w.v,o⟩
   gz:=λt a b m h=>by obtain ⟨w,_,_,_,_,o,_⟩:=Q t a b h;obtain ⟨x1,x2,x3⟩:=nV (g t) (z t (by exact aP m)) o;exact ⟨x2,x3,x1,w.v,o⟩
   mono:=λt a b v m h=>by have R:=(nV (g t) (z t (by exact aP m)) h).1;obtain ⟨u',c,f⟩:=(zev n F t (run n F s0 t)).2 (true,a,b) v R h;refine ⟨u',?_,c⟩;unfold dh at f;simp at f;exact f
   wz:=wm
   told:=told
   qN:=w0
   sum:=λt a b x6 v x5 m h d Z E'=>by obtain ⟨w,c,f,u,y,o,h6⟩:=E t a b h;have d:val (run n F s0 t) (true,a,b)=some v:=d;rw [d] at o;cases o;have xn:=nV (g t) (z t (by exact aP m)) Z;obtain ⟨x,O,ex⟩:=(I1 H (g t) c f u y Z xn.1 xn.2.2).1 E';refine ⟨x,O,?_⟩;show val (run n F s0 (t+1)) _=_;rw [h6];exact ex
   bar:=λt a b v x5 m h d Z=>by obtain ⟨w,c,f,u,y,o,h6⟩:=E t a b h;have d:val (run n F s0 t) (true,a,b)=some v:=d;rw [d] at o;cases o;have xn:=nV (g t) (z t (by exact aP m)) Z;refine eO λhc=>?_;have:=(I1 H (g t) c f u y Z xn.1 xn.2.2).2 U (qJ hc);rw [<-h6] at this;exact this (z (t+1) m)
   one:=λt a b a' b' _ h G=>by obtain ⟨w,c,_,u,y,_⟩:=E t a b h;obtain ⟨D,A,_,L,M,_⟩:=E t a' b' G;rw [c] at A;cases A;exact ⟨u.symm.trans L,y.symm.trans M⟩
   Dq:=λt a b a' b' _ h G=>by obtain ⟨w,c,_,u,y,_⟩:=Q t a b h;obtain ⟨D,A,_,L,M,_⟩:=Q t a' b' G;rw [c] at A;cases A;exact ⟨u.symm.trans L,y.symm.trans M⟩
   apart:=λt a b a' b' _ h G=>by obtain ⟨w,c,f,_⟩:=E t a b h;obtain ⟨D,A,N,_⟩:=Q t a' b' G;rw [c] at A;cases A;rw [f] at N;cases N
   cause:=λt a b m h=>by
    have h:val (run n F s0 (t+1)) (true,a,b)≠val (run n F s0 t) (true,a,b):=h;obtain ⟨j,w,I,q,Y,d⟩:=B6 (g t) (g (t+1)) (zev n F t (run n F s0 t)).1 (k:=(true,a,b)) h;obtain ⟨kt,ka,kb⟩:=gc Y;have d:val (run n F s0 (t+1)) (true,a,b)=some w.v:=d;have W:=z (t+1) m;rcases step n F s0 (X t m) with ⟨p,r,j6,S,e⟩ | ⟨p,r,j6,qX,e⟩ | ⟨_,_,e⟩
    ·have q:ae (run n F s0 (t+1)) j=some w:=q;rw [e] at q W;rcases (BU H (g t) r rfl rfl W j w I q).1 kt with ⟨c,f,x7,hq,Õ⟩ | ⟨c,f⟩
     ·rw [ka] at c;rw [kb] at f hq;subst c;obtain ⟨D,V,_,_,_,k5,_⟩:=E t _ _ S;rw [r] at V;cases V;exact .inl ⟨p.b,p.v,x7,w.v,S,aQ f,k5,hq,d,by lia⟩
     ·rw [kb] at c;rw [ka] at f;subst c;exact .inr (.inl ⟨p.a,S,aQ f⟩)
    ·
     have q:ae (run n F s0 (t+1)) j=some w:=q;have g':bz n (ef n F t p.a (run n F s0 t)):=by rw [<-e];exact g (t+1)
     have nr:=W;rw [e] at q nr;obtain ⟨B,Fd,hB⟩:∃B:Int,0<=B/\∀x v,val (ef n F t p.a (run n F s0 t)) (true,x,p.a)=some v->-B<=v:=by
      have:∀k,∃B:Int,0<=B/\∀x v,x<k->val (ef n F t p.a (run n F s0 t)) (true,x,p.a)=some v->-B<=v:=by
       intro k
       induction k with
       | zero=>exact ⟨0,fO _,λx v O=>absurd O (lU _)⟩
       | succ k ih=>
        obtain ⟨B,h0,c⟩:=ih
        cases x7:val (ef n F t p.a (run n F s0 t)) (true,k,p.a) with
        | none=>
         refine ⟨B,h0,λx v O d=>?_⟩
         by_cases e:x=k
         ·rw [e,x7] at d;cases d
         ·exact c x v (sr O e) d
        | some x5=>
         refine ⟨max B (-x5),Qw h0,λx v O d=>?_⟩
         by_cases e:x=k
         ·rw [e,x7] at d;cases d;exact Q2
         ·have:=c x v (sr O e) d;exact Qq this
      obtain ⟨B,h0,c⟩:=this n;exact ⟨B,h0,λx v d=>c x v (nV g' nr d).2.1 d⟩
     have A0:=(JP H (g t) r j6 U hB Fd nr j w I q).1 kt;have own:w.a=p.a:=by have:=PN (F:=F) (n:=n) r j w I q kt;exact this
     rw [ka] at own;subst own;exact .inr (.inr ⟨p.b,w.v,qX,d,A0⟩)
    ·have q:ae (run n F s0 (t+1)) j=some w:=q;rw [e] at q;exact absurd (jQ q) (by exact AS I)
   a3:=λt a b e v v' m h d Ø Ym qX C=>by
    obtain ⟨w,c,f,u,y,o,h6⟩:=E t a b h;have d:val (run n F s0 t) (true,a,b)=some v:=d;rw [d] at o;cases o;obtain ⟨x,V,k2,k3,k4,_⟩:=Q e a b qX;obtain ⟨x8,hf⟩:=ends e (by exact aP Ym) e x V k2;rw [k4] at hf;have R:=(nV (g t) (z t (by exact aP m)) d).1;have D':=H.num _ _ hf;have hd:a6 (cz F) .a3 t (run n F s0 t)=take (run n F s0 t) ⟨false,a,b,x8.2.2-w.v⟩ .a3 [t]:=by unfold a6;rw [c];show put _ (cz F w) _ _=_;unfold cz;rw [if_pos ⟨f,by rw [u,y];exact R⟩,y,hf,u];rfl
    obtain ⟨x5,Z,nu⟩:=zU (st:=run n F s0 t) (word:=.a3) (used:=[t]) (w:=⟨false,a,b,x8.2.2-w.v⟩) R;have iz:Imp (a6 (cz F) .a3 t (run n F s0 t)) (d9 n F t a b (run n F s0 t)):=by unfold d9;dsimp only;exact (((eC _ _ _ _).trans (cW (λ_ _=>ck ..) _ _)).trans (cW (λ_ _=>ck ..) _ _)).trans (cW (λ_ _=>ck ..) _ _)
    rw [hd] at iz;obtain ⟨u2,wL,MK⟩:=iz.2 (false,a,b) x5 R Z;rw [<-h6] at wL;have nc:t+1<=e\/t=e:=by lia
    rcases nc with nc | nc
    ·obtain ⟨u3,l3,e3⟩:=V_ (t+1) a b u2 wL (e-(t+1)) (by lia);rw [show t+1+(e-(t+1))=e by exact jW nc] at e3;have C:val (run n F s0 e) (false,a,b)=some v':=C;rw [C] at e3;cases e3;unfold dh at nu MK;simp at nu MK;lia
    ·subst nc;rw [c] at V;cases V;rw [f] at k2;cases k2
   my:=λt a b B m Fd hB h=>by
    have h:val (run n F s0 (t+1)) (false,a,b)≠val (run n F s0 t) (false,a,b):=h;obtain ⟨j,w,I,q,Y,d⟩:=B6 (g t) (g (t+1)) (zev n F t (run n F s0 t)).1 (k:=(false,a,b)) h;obtain ⟨kt,_⟩:=gc Y;have d:val (run n F s0 (t+1)) (false,a,b)=some w.v:=d;have q:ae (run n F s0 (t+1)) j=some w:=q;have W:=z (t+1) m;refine ⟨w.v,d,?_⟩;rcases step n F s0 (X t m) with ⟨p,r,j6,S,e⟩ | ⟨p,r,j6,qX,e⟩ | ⟨_,_,e⟩
    ·have Ü: -B<=p.v:=by
      obtain ⟨D,V,_,_,_,k5,_⟩:=E t _ _ S;rw [r] at V;cases V;have R:=(nV (g t) (z t (by exact aP m)) k5).1;obtain ⟨u',q1,q2⟩:=(zev n F t (run n F s0 t)).2 (true,p.a,p.b) p.v R k5;have:=hB p.a p.b u' q1;unfold dh at q2;simp at q2;exact so this q2
     rw [e] at q W;have:=((BU H (g t) r U U W j w I q).2 kt).1;lia
    ·have YA:∀x v,val (ef n F t p.a (run n F s0 t)) (true,x,p.a)=some v->-B<=v:=λx v O=>by
      rw [<-e] at O;exact hB x p.a v O
     rw [e] at q W;exact (JP H (g t) r j6 U YA Fd W j w I q).2 kt
    ·rw [e] at q;exact absurd (jQ q) (by exact AS I)
   grow:=λt m=>by
    have A6:=z (t+1) m;rcases step n F s0 (X t m) with ⟨p,r,j6,_,e⟩ | ⟨p,r,_,_,e⟩ | ⟨_,_,e⟩
    ·have:=PJ H (g t) r j6 (by rw [<-e];exact A6);show (run n F s0 (t+1)).rows.length<=(run n F s0 t).rows.length+20;rw [e];lia
    ·have:=Le H (g t) r (by rw [<-e];exact A6);show (run n F s0 (t+1)).rows.length<=(run n F s0 t).rows.length+20;rw [e];lia
    ·show (run n F s0 (t+1)).rows.length<=_;rw [e];exact l8 _ _
   rd:=λt m wU=>by
    rcases step n F s0 (X t m) with ⟨p,_,_,S,_⟩ | ⟨p,r,_,_,e⟩ | ⟨_,_,e⟩
    ·exact absurd S (wU _ _)
    ·have:=Le H (g t) r (by rw [<-e];exact z (t+1) m);show (run n F s0 (t+1)).rows.length<=(run n F s0 t).rows.length+8;rw [e];lia
    ·show (run n F s0 (t+1)).rows.length<=_;rw [e];exact l8 _ _
   rf:=λt m wU XU=>by
    rcases step n F s0 (X t m) with ⟨p,_,_,S,_⟩ | ⟨p,_,_,qX,_⟩ | ⟨_,_,e⟩
    ·exact absurd S (wU _ _)
    ·exact absurd qX (XU _ _)
    ·show (run n F s0 (t+1)).rows.length=_;rw [e]
   g8:=λt0 t a b v m h0 c d C=>by
    have d:val (run n F s0 t0) (true,a,b)=some v:=d;have C:val (run n F s0 t) (true,a,b)=some v:=C;obtain ⟨j,w,I,q,Y,_⟩:=vU (g t0) d;obtain ⟨j',D,tO,X8,uY,DH⟩:=vU (g t) C;have YP:j=j':=eO λx6=>RG c (g t0) (g t) (z t m) I tO x6 (C.trans d.symm);subst YP;obtain ⟨_,_⟩:=gc Y;have ER:=jQ q;have EO:j<t:=by exact eT ER h0
    obtain ⟨p,r⟩:∃p,ae (run n F s0 j) j=some p:=⟨_,by unfold ae;rw [gp (X j (by lia))];rfl⟩;have uW:=br (pj (n:=n) (F:=F) (s:=s0) (aP EO)).1 r;rw [X8] at uW;cases uW;obtain ⟨Xi,Xu,Xt⟩:=gc uY;obtain ⟨i,hi,xp⟩:=(g j).top j D r;rw [uY] at xp;have:=Kj (aP EO) (g j) xp tO;have e:i=j:=by lia
    rw [e] at xp;exact ⟨j,EO,⟨D,r,Xi,Xu,Xt,xp⟩,by show val (run n F s0 j) (true,a,b)=some v;rw [lM xp r,DH]⟩
   drop:=λt t' a b v v' J hT h G d C=>by obtain ⟨w,c,f,u,y,o,_⟩:=E t a b h;obtain ⟨D,A,N,L,M,xr,_⟩:=E t' a b G;have d:val (run n F s0 t) (true,a,b)=some v:=d;have C:val (run n F s0 t') (true,a,b)=some v':=C;rw [d] at o;rw [C] at xr;cases o;cases xr;have:=(g t').drop (z t' (by exact aP hT)) t t' w D (br (pj (aP J)).1 c) A (by unfold ah.key;rw [f,u,y,N,L,M]) J;unfold dh at this;rw [f] at this;simp at this;exact this
   qO:=λt t' a b v v' J hT h G d C=>by obtain ⟨w,c,f,u,y,o,_⟩:=Q t a b h;obtain ⟨D,A,N,L,M,xr,_⟩:=Q t' a b G;have d:val (run n F s0 t) (false,a,b)=some v:=d;have C:val (run n F s0 t') (false,a,b)=some v':=C;rw [d] at o;rw [C] at xr;cases o;cases xr;have:=(g t').drop (z t' (by exact aP hT)) t t' w D (br (pj (aP J)).1 c) A (by unfold ah.key;rw [f,u,y,N,L,M]) J;unfold dh at this;rw [f] at this;simp at this;exact this
   once:=λt t' a b J _ h G=>by obtain ⟨w,c,_⟩:=E t a b h;obtain ⟨D,A,N,L,M,_,_⟩:=E t' a b G;obtain ⟨_,_,_,_,_,o⟩:=h;exact once (true,a,b) t t' w D J c A (by unfold ah.key;rw [N,L,M]) o
   jY:=λt t' a b J _ h G=>by obtain ⟨w,c,_,_,_,_,o⟩:=Q t a b h;obtain ⟨D,A,N,L,M,_,_⟩:=Q t' a b G;exact once (false,a,b) t t' w D J c A (by unfold ah.key;rw [N,L,M]) o }
theorem RL (o:n<=8) (y:fw n F ((60:Nat):Int)) (u:bz n s0) (G:∀i,0<i->i<n->(∃v,v<=((60:Nat):Int)/\val s0 (true,0,i)=some v)/\∃v,v<=0/\val s0 (true,i,0)=some v) (w0:∀a b,val s0 (false,a,b)=none) (x:s0.rows.length<=1000):
 ∃T,((run n F s0 T).rows.length<=T\/(run n F s0 T).bar≠none)/\(∀t,t<T->t<(run n F s0 t).rows.length/\(run n F s0 t).bar=none)/\∀t,t<=T->(run n F s0 t).rows.length<=16000000:=by
 have q:∀T,(∀t,t<T->t<(run n F s0 t).rows.length/\(run n F s0 t).bar=none)->(run n F s0 T).rows.length<=15900000+26:=λT h=>by
  cases T with
  | zero=>exact c7 x (by decide)
  | succ T=>
   have b:=(Ve (l:=60) (mo:=60) o y u G w0 (T:=T) (λt d=>(h t (by exact fQ d)).1) (λt d=>(h t (BY d)).2)).rows;have b:(run n F s0 T).rows.length<=(run n F s0 0).rows.length+1568*(7*(7*(60+1)+7*(60+1)+1))+20*(56*(2*60+1))+8*((56*(2*60+1)+56*(60+60+1))*56+(56*(60+2*60+1)+56)):=b;have r:(run n F s0 0).rows.length=s0.rows.length:=U;have l:=Pf (n:=n) (F:=F) (at_:=T) (s:=run n F s0 T) o;have l:(run n F s0 (T+1)).rows.length<=(run n F s0 T).rows.length+26:=l;rw [r] at b;lia
 have B:∃T,(run n F s0 T).rows.length<=T\/(run n F s0 T).bar≠none:=eO λp=>by have k:∀t,t<(run n F s0 t).rows.length/\(run n F s0 t).bar=none:=λt=>⟨eO λc=>p ⟨t,.inl (by exact jm c)⟩,eO λc=>p ⟨t,.inr c⟩⟩;have m:=q 16000000 λt _=>k t;have f:=(k 16000000).1;lia
 have E:∀N,(∃T,T<=N/\((run n F s0 T).rows.length<=T\/(run n F s0 T).bar≠none)/\∀t,t<T->t<(run n F s0 t).rows.length/\(run n F s0 t).bar=none)\/∀t,t<=N->t<(run n F s0 t).rows.length/\(run n F s0 t).bar=none:=λN=>by
  induction N with
  | zero=>
   by_cases c:(run n F s0 0).rows.length<=0\/(run n F s0 0).bar≠none
   ·exact .inl ⟨0,aj _,c,λt d=>absurd d (lU _)⟩
   ·refine .inr λt d=>?_;rw [show t=0 by lia];exact ⟨eO λz=>c (.inl (by exact jm z)),eO λz=>c (.inr z)⟩
  | succ N D=>
   rcases D with ⟨T,m,f,g⟩ | h
   ·exact .inl ⟨T,by exact fQ m,f,g⟩
   ·by_cases c:(run n F s0 (N+1)).rows.length<=N+1\/(run n F s0 (N+1)).bar≠none
    ·exact .inl ⟨N+1,aj _,c,λt d=>h t (by exact rm d)⟩
    ·refine .inr λt d=>?_
     by_cases e:t=N+1
     ·rw [e];exact ⟨eO λz=>c (.inl (mq z)),eO λz=>c (.inr z)⟩
     ·exact h t (by lia)
 obtain ⟨j,A⟩:=B;rcases E j with ⟨T,_,f,g⟩ | h
 ·exact ⟨T,f,g,λt d=>c7 (q t λs C=>g s (eT C d)) (by lia)⟩
 ·have:=h j (aj _);rcases A with z | z
  ·exact (vW this.1 z).elim
  ·exact absurd this.2 z
end MU
open MU (zW mr zD)
set_option maxRecDepth 100000
namespace L2
theorem L_ {c A B:Prop} [Decidable c] (a:¬c) (h:A):if (!decide c)=true then A else B:=by rw [cF a];exact fx h
end L2
namespace Y0
open PySem L2
seal L2.kT L2.gQ L2.gU L2.eL L2.gu L2.gv L2.gT L2.gS L2.dv Y0.aI
def ju (tie:Bool):Str:=if tie=true then "tie" else "wait"
def jb (x:ah):List V:=[.str (ju x.tie),.int (x.a:Int),.int (x.b:Int),.int x.v]
def fG (H:Hp) (q:Addr) (x:ah):Prop:=H q=some (.tup (jb x))
theorem fG.same (h:fG H q x) (s:ay H H'):fG H' q x:=s _ _ h
structure jR (H:Hp) (d:Addr) (F:MU.c9):Prop where
 at_:∃kvs:List (Key×V),H d=some (.dK kvs)/\(kvs.length<=100/\∀kv∈kvs,∃e:Nat,kv.1=Sum.inl (e:Int))/\(∀e:Nat,F e=none->ed kvs (.inl (e:Int))=none)/\∀(e:Nat) f,F e=some f->∃p,ed kvs (.inl (e:Int))=some (.ref p)/\H p=some (.tup [.int (f.1:Int),.int f.2.1,.int f.2.2])
theorem jR.same (h:jR H d F) (s:ay H H'):jR H' d F:=by obtain ⟨j,a,b,c,g⟩:=h.at_;refine ⟨j,s _ _ a,b,c,λe f i=>?_⟩;obtain ⟨p,k,l⟩:=g e f i;exact ⟨p,k,s _ _ l⟩
def jM (H:Hp) (Q:VK) (o:Option ah):Prop:=(o=none->∀a,ay H a->Q .aH a)/\∀x,o=some x->∀r a,H r=none->ay H a->fG a r x->Q (.ref r) a
theorem jM.no (h:jM H Q o) (e:o=none):Q .aH H:=h.1 e H (ay.refl _)
theorem jM.yes (h:jM H Q o) (e:o=some x) (a:H r=none):Q (.ref r) (upd H r (.tup (jb x))):=h.2 x e r _ a (aK a) ak
theorem oM {a b:Nat}:decide (V.int (a:Int)=V.int (b:Int))=decide (a=b):=decide_eq_decide.mpr ⟨λq=>xT (V.int.inj q),λq=>by rw [q]⟩
structure CJ (mg:Str->Option Value):Prop where
 min:mg "min"=none
def Hg:Sp:=λa H Q _=>∃d q F x,a=[.ref d,.ref q]/\jR H d F/\fG H q x/\x.tie=true/\jM H Q (cz F x)
def Hl:Sp:=λa H Q _=>∃d q F x,a=[.ref d,.ref q]/\jR H d F/\fG H q x/\x.tie=true/\jM H Q (cD F x)
def Mp:Sp:=λa H Q _=>∃p q x y,a=[.ref p,.ref q]/\fG H p x/\fG H q y/\x.tie=true/\y.tie=true/\jM H Q (av x y)
def Hn:Sp:=λb H Q _=>∃d q F x a,b=[.ref d,.ref q]/\jR H d F/\fG H q x/\x.tie=false/\F x.b=some a/\jM H Q (cG F x)
def HA:Sp:=λb H Q _=>∃d p q F x y a,b=[.ref d,.ref p,.ref q]/\jR H d F/\fG H p x/\fG H q y/\x.tie=false/\y.tie=true/\F x.b=some a/\jM H Q (aR F x y)
def Io:Sp:=λb H Q _=>∃d q F x a,b=[.ref d,.ref q]/\jR H d F/\fG H q x/\x.tie=false/\F x.b=some a/\jM H Q (cy F x)
def HB:Sp:=λa H Q _=>∃q x,a=[.ref q]/\fG H q x/\Q (.bl (decide (fY x))) H
section
theorem LU:cf ["falls","tie","end"] Ĉ (aT dm):=cH
theorem pU (F:Fn K mg "by_late" dm Ĉ f fd):au P w K mg base aw 1 f fd Ĉ Hg:=by
 refine F.F.cK LU λ_ A _ s H _ Q E u h=>?_;obtain ⟨d,q,b,x,rfl,j,a,y,G⟩:=h;have i:=jt u;refine ⟨_,bV (bR 2 LU.nd (aF (pv 1)))
  (bV (cS (PW.pt (oX (md (zF i (pv 2) (pv 0)) (by with_unfolding_all rfl)) (rQ (cR fc (aF (pv 1)) (pv 2))))) (a0 (cm jw)) de)
  (a0 (cm (cE (jh dJ (aF (pv 1)) (pv 2) (bC gP (aF (jT i (pv 0) (pv 2) (λ_ _=>rfl))) (aF (pv 1)))))))),?_⟩
 obtain ⟨B,g,_,m,n⟩:=j.at_;refine (aa U (aE a U (aa U (aa U ⟨d,_,U,ea.k (k:=Sum.inl (x.b:Int)) g,_,U,?_⟩))))
 cases hf:b x.b with
 | none=>
  rw [m _ hf];refine fx (G.no ?_);unfold cz;rw [hf];split<;>rfl
 | some o=>
  obtain ⟨p,e,l⟩:=n _ _ hf;rw [e];refine du (aa U (aE a U (aa U ⟨U,ct ?_⟩)));rw [oM]
  by_cases c:x.a=x.b
  ·refine gE c (G.no ?_);unfold cz;rw [if_neg λz=>z.2 c]
  ·refine iG c ?_;have t:cz b x=some ⟨false,x.a,x.b,o.2.2-x.v⟩:=by
    unfold cz;rw [if_pos ⟨y,c⟩,hf];rfl
   refine (aa U (aE a U (aa U (aa U (aa U ⟨d,_,U,e▸ea.k (k:=Sum.inl (x.b:Int)) g,?_⟩)))));refine aE l U (aa U (aE a U (ri ⟨cX U,λr v=>G.yes t v⟩)))
theorem Mf:cf ["falls","tie","end"] Ĉ (aT dk):=cH
theorem pP (F:Fn K mg "by_soon" dk Ĉ f fd):au P w K mg base aw 1 f fd Ĉ Hl:=by
 refine F.F.cK Mf λ_ A _ s H _ Q E v h=>?_;obtain ⟨d,q,j,x,rfl,n,a,B,G⟩:=h;have i:=jt v;refine ⟨_,bV (bR 2 Mf.nd (aF (pv 1)))
  (bV (cS (PW.pt (oX (md (zF i (pv 2) (pv 0)) (by with_unfolding_all rfl)) (oX (cR fc (aF (pv 1)) (pv 2)) (rQ (cR Mc (aF (pv 1)) az))))) (a0 (cm jw)) de)
  (a0 (cm (cE (jh dJ (aF (jT i (pv 0) (pv 2) (λ_ _=>rfl))) (aF (pv 1)) (bC gx (aF (jT i (pv 0) (pv 2) (λ_ _=>rfl))) (aF (pv 1)))))))),?_⟩
 obtain ⟨C,g,_,o,t⟩:=n.at_;refine (aa U (aE a U (aa U (aa U ⟨d,_,U,ea.k (k:=Sum.inl (x.a:Int)) g,_,U,?_⟩))))
 cases hf:j x.a with
 | none=>
  rw [o _ hf];refine fx (G.no ?_);unfold cD;rw [hf];split<;>rfl
 | some m=>
  obtain ⟨p,e,l⟩:=t _ _ hf;rw [e];refine du (aa U (aE a U (aa U ⟨U,ct ?_⟩)));rw [oM]
  by_cases c:x.b=x.a
  ·refine gE c (G.no ?_);unfold cD;rw [if_neg λz=>z.2.1 c.symm]
  ·refine iG c (aa U (aE a U (ri (ct ?_))))
   by_cases b:x.v<0
   ·refine iG (by exact Int.not_le.mpr b) ?_;have u:cD j x=some ⟨true,m.1,x.b,m.2.1+x.v⟩:=by
     unfold cD;rw [if_pos ⟨B,λz=>c z.symm,b⟩,hf];rfl
    refine (aa U (aa U ⟨d,_,U,e▸ea.k (k:=Sum.inl (x.a:Int)) g,?_⟩));refine aE l U (aa U (aE a U (aa U (aa U ⟨d,_,U,e▸ea.k (k:=Sum.inl (x.a:Int)) g,?_⟩))));refine aE l U (aa U (aE a U (ri ⟨cX U,λr y=>G.yes u y⟩)))
   ·refine gE (jV b) (G.no ?_);unfold cD;rw [if_neg λz=>b z.2.2]
theorem Vv:cf Đ Đ (aT dV):=cH
theorem tr (F:Fn K mg "by_sum" dV Đ f fd):au P w K mg base aw 1 f fd Đ Mp:=by
 refine F.F.cK Vv λ_ A _ s H _ Q E j h=>?_;obtain ⟨p,q,x,y,rfl,a,b,g,i,G⟩:=h;refine ⟨_,bV (cS (cR CU (aF (pv 0)) (aF (pv 1))) (a0 (cm jw)) de)
  (a0 (cm (cE (jh dJ (aF (pv 0)) (aF (pv 1)) (bC gx (aF (pv 0)) (aF (pv 1))))))),?_⟩
 refine (aa U (aE a U (aa U (aE b U ⟨U,ct ?_⟩))));rw [oM]
 by_cases c:x.b=y.a
 ·refine qx c ?_;have d:av x y=some ⟨true,x.a,y.b,x.v+y.v⟩:=if_pos ⟨g,i,c⟩;exact (aa U (aE a U (aa U (aE b U (aa U (aE a U (aa U (aE b U (ri ⟨cX U,λr e=>G.yes d e⟩)))))))))
 ·exact L_ c (G.no (if_neg λz=>c z.2.2))
theorem Bq {a b:Int}:(if b<a then b else a)=min a b:=by
 rw [Int.min_def]
 by_cases c:b<a
 ·rw [if_pos c,if_neg (by exact Int.not_le.mpr c)]
 ·rw [if_neg c,if_pos (jV c)]
theorem Ij:cf ["falls","wait","fall"] Ć (aT dj):=cH
theorem pN (F:Fn K mg "by_sure" dj Ć f fd) (T:CJ mg):au P w K mg base aw 1 f fd Ć Hn:=by
 refine F.F.cK Ij λ_ A _ s H _ Q E o h=>?_;obtain ⟨d,q,i,x,c,rfl,g,a,u,e,G⟩:=h;have v:=jt o;refine ⟨_,bV (bR 2 Ij.nd (jT v (pv 0) (aF (pv 1)) (λ_ _=>rfl)))
  (a0 (cm (cE (jh dJ (aF (pv 1)) (aF (pv 2)) (uu u1 (j4 (we U) (by rfl) T.min (by decide+kernel) (a_ (aF (pv 1)) (aF (pv 2))))))))),?_⟩
 obtain ⟨y,m,_,_,l⟩:=g.at_;obtain ⟨p,j,b⟩:=l _ _ e;have n:cG i x=some ⟨true,x.a,c.1,-min x.v c.2.1⟩:=by unfold cG;rw [if_pos u,e];rfl
 refine (aa U (aa U (aE a U ⟨d,_,U,j▸ea.k (k:=Sum.inl (x.b:Int)) m,?_⟩)));refine (aa U (aE a U (aa U (aE b U (aa U (aE a U (aa U (aE b U ⟨_,_,U,_,U,cX U,λr t=>?_⟩))))))));have:=G.yes n t;rw [Bq];exact this
theorem Ii:cf ["falls","wait","tie","end"] ď (aT dn):=cH
theorem p_ (F:Fn K mg "by_back" dn ď f fd) (T:CJ mg):au P w K mg base aw 1 f fd ď HA:=by
 refine F.F.cK Ii λ_ A _ s H _ Q E v h=>?_;obtain ⟨d,p,q,j,x,y,o,rfl,i,e,b,D,I,g,G⟩:=h;have C:=jt v;refine ⟨_,bV (bR 3 Ii.nd (aF (pv 1)))
  (bV (cS (PW.pt (oX (cR CU (aF (pv 2)) (aF (pv 1))) (rQ (cR fc (aF (pv 2)) (pv 3))))) (a0 (cm jw)) de)
  (a0 (cm (cE (jh dJ (aF (pv 2)) (pv 3) (bC gP (j4 (we U) (by rfl) T.min (by decide+kernel) (a_ (aF (pv 1)) (aF (jT C (pv 0) (pv 3) (λ_ _=>rfl))))) (aF (pv 2)))))))),?_⟩
 obtain ⟨J,t,_,_,n⟩:=i.at_;obtain ⟨L,l,m⟩:=n _ _ g;refine (aa U (aE e U (aa U (aE b U (aa U (aE e U ⟨U,ct ?_⟩))))));rw [oM]
 by_cases c:y.b=x.a
 ·refine qx c (aa U (aE b U (aa U ⟨U,ct ?_⟩)));rw [oM]
  by_cases a:y.a=x.b
  ·exact gE a (G.no (if_neg λz=>z.2.2.2 a))
  ·refine iG a ?_;have u:aR j x y=some ⟨false,y.a,x.b,min x.v o.2.2-y.v⟩:=by
    unfold aR;rw [if_pos ⟨D,I,c,a⟩,g];rfl
   refine (aa U (aE b U (aa U (aa U (aE e U (aa U (aa U ⟨d,_,U,l▸ea.k (k:=Sum.inl (x.b:Int)) t,?_⟩)))))));refine aE m U ⟨_,_,U,aa U (aE b U (ri ⟨cX U,λr B=>?_⟩))⟩;have:=G.yes u B;rw [Bq];exact this
 ·exact L_ c (G.no (if_neg λz=>c z.2.2.1))
theorem BQ:cf ["falls","wait","end","other"] Ć (aT cJ):=cH
theorem mL (F:Fn K mg "by_cross" cJ Ć f fd) (T:CJ mg):au P w K mg base aw 1 f fd Ć Io:=by
 refine F.F.cK BQ λ_ A _ s H _ Q E D h=>?_;obtain ⟨d,q,i,x,B,rfl,t,a,J,l,G⟩:=h;have g:=jt D;refine ⟨_,bV (bR 2 BQ.nd (aF (pv 1)))
  (bV (cS (PW.pt (oX (md (zF g (aF (pv 1)) (pv 0)) (by with_unfolding_all rfl)) (oX (cR fc (aF (pv 1)) (pv 2)) (rQ (cR jO (aF (pv 1)) az))))) (a0 (cm jw)) de)
  (bV (bR 3 BQ.nd (jT g (pv 0) (aF (pv 1)) (λ_ _=>rfl)))
  (a0 (cm (cE (jh dJ (aF (pv 3)) (pv 2) (bC gP (j4 (we U) (by rfl) T.min (by decide+kernel) (a_ (aF (pv 1)) (aF (jT g (pv 0) (pv 2) (λ_ _=>rfl))))) (aF (pv 3))))))))),?_⟩
 obtain ⟨L,e,_,y,j⟩:=t.at_;obtain ⟨N,u,v⟩:=j _ _ l;refine (aa U (aE a U (aa U (aE a U (aa U ⟨d,_,U,ea.k (k:=Sum.inl (x.a:Int)) e,_,U,?_⟩)))))
 cases o:i x.a with
 | none=>
  rw [y _ o];refine fx (G.no ?_);unfold cy;rw [o];split<;>rfl
 | some p=>
  obtain ⟨M,m,n⟩:=j _ _ o;rw [m];refine du (aa U (aE a U (aa U ⟨U,ct ?_⟩)));rw [oM]
  by_cases c:x.a=x.b
  ·refine gE c (G.no ?_);unfold cy;rw [if_neg λz=>z.2.1 c]
  ·refine iG c (aa U (aE a U (ri (ct ?_))))
   by_cases b:0<x.v
   ·refine iG (by exact Int.not_le.mpr b) ?_;have C:cy i x=some ⟨false,p.1,x.b,min x.v B.2.2-p.2.1⟩:=by
     unfold cy;rw [if_pos ⟨J,c,b⟩,o,l];rfl
    refine (aa U (aa U (aE a U ⟨d,_,U,m▸ea.k (k:=Sum.inl (x.a:Int)) e,?_⟩)));refine (aa U (aE n U (aa U (aa U (aE a U (aa U (aa U ⟨d,_,U,u▸ea.k (k:=Sum.inl (x.b:Int)) e,?_⟩)))))));refine aE v U ⟨_,_,U,aa U (aE n U (ri ⟨cX U,λr I=>?_⟩))⟩;have:=G.yes C I;rw [Bq];exact this
   ·refine gE (jV b) (G.no ?_);unfold cy;rw [if_neg λz=>b z.2.2]
theorem Vg:cf Ĝ Ĝ (aT aU):=cH
theorem zh:decide (V.str (ju t)=V.str "tie")=t:=by
 cases t
 ·exact cF λq=>absurd (V.str.inj q) (by decide+kernel)
 ·exact ew U
theorem pZ (F:Fn K mg "bars_every_hand" aU Ĝ f fd):au P w K mg base aw 1 f fd Ĝ HB:=by
 refine F.F.cK Vg λ_ A _ s H _ Q E g h=>?_;obtain ⟨q,x,rfl,a,k⟩:=h;refine ⟨_,a0 (cm (v9 (oN fc (aF (pv 0)) dJ) (v9 (oN fc (aF (pv 0)) (aF (pv 0))) (Bt (oN oU (aF (pv 0)) az))))),?_⟩;have d:∀b:Bool,b=decide (fY x)->Q (.bl b) H:=λb e=>by rw [e];exact k
 refine (aa U (aE a U ⟨U,_,U,?_⟩));rw [zh]
 cases o:x.tie with
 | false=>exact du (d _ (cF λz=>by have:=z.1;rw [o] at this;cases this).symm)
 | true=>
  refine fx (aa U (aE a U (aa U (aE a U ⟨U,_,U,?_⟩))));rw [oM]
  by_cases c:x.a=x.b
  ·refine gE c (aa U (aE a U (ri (d _ ?_))));exact decide_eq_decide.mpr ⟨λz=>⟨o,c,z⟩,λz=>z.2.2⟩
  ·exact iG c (d _ (cF λz=>c z.2.1).symm)
end
def He:List Int->Option (Nat×Int×Int)
 | [a,_,l,m]=>some (a.toNat,l,m)
 | _=>none
def bw (F:List (List Int)):MU.c9:=λe=>(F.find? λr=>decide (r[1]?=some (e:Int))).bind He
theorem C9 {F:List (List Int)} {e:Nat} (h:∀r∈F,r[1]?≠some (e:Int)):bw F e=none:=by
 unfold bw;have:(F.find? λr=>decide (r[1]?=some (e:Int)))=none:=List.find?_eq_none.mpr λr a=>by simpa using h r a
 rw [this];rfl
theorem cT.find {n la:Int} {T F:List (List Int)} (h:cT n la T F) {e:Nat} {f:Nat×Int×Int} (c:bw F e=some f):∃a l m:Int,[a,(e:Int),l,m]∈F/\f=(a.toNat,l,m)/\0<=a/\a<n/\0<(e:Int)/\(e:Int)<n/\a≠(e:Int)/\1<=l/\l<=m/\m<=60:=by
 unfold bw at c
 cases q:F.find? λr=>decide (r[1]?=some (e:Int)) with
 | none=>rw [q] at c;cases c
 | some r=>
  rw [q] at c;have c:He r=some f:=c;have d:=O1 q;have i:=List.find?_some q;obtain ⟨a,b,l,m,rfl,j,k,o,p,s,t,u,v⟩:=h.f r d;have g:some b=some (e:Int):=of_decide_eq_true i;cases g;cases c;exact ⟨a,l,m,d,U,j,k,o,p,s,t,u,v⟩
theorem cT.eo {n la:Int} {T F:List (List Int)} (h:cT n la T F) {a l m:Int} {e:Nat} (d:[a,(e:Int),l,m]∈F):bw F e=some (a.toNat,l,m):=by
 obtain ⟨i,c⟩:=rz.mp d;unfold bw
 cases q:F.find? λr=>decide (r[1]?=some (e:Int)) with
 | none=>
  have:=List.find?_eq_none.mp q _ d;simp at this
 | some r=>
  have f:=O1 q;obtain ⟨j,b⟩:=rz.mp f;have g:r[1]?=some (e:Int):=of_decide_eq_true (List.find?_some (p:=λr=>decide (r[1]?=some (e:Int))) q);have k:=h.one i j _ _ c b (by rw [g];rfl);subst k;rw [c] at b;cases b;rfl
theorem cT.iC {n:Nat} {la:Int} {T F:List (List Int)} (h:cT (n:Int) la T F):fw n (bw F) ((60:Nat):Int):=by
 refine ⟨λe f b=>?_,λe f b=>?_,λe f b=>?_⟩
 ·obtain ⟨a,l,m,_,rfl,_,o,p,q,_⟩:=h.find b;exact ⟨by show a.toNat<n;lia,by lia⟩
 ·obtain ⟨a,l,m,c,rfl,g,_⟩:=h.find b;refine C9 λr d=>?_;have:=h.own _ c r d;show r[1]?≠some ((a.toNat:Nat):Int);rw [show ((a.toNat:Nat):Int)=a by exact zN g];exact λz=>this z.symm
 ·obtain ⟨a,l,m,_,rfl,_,_,_,_,_,i,j,k⟩:=h.find b;exact ⟨i,j,k⟩
theorem Pk {kvs:List (Key×V)} {k:Key} {v:V} {a:Key×V} (h:a∈d7 kvs k v):a.1=k\/∃b∈kvs,a.1=b.1:=by
 unfold d7 at h;split at h
 ·obtain ⟨b,c,rfl⟩:=cn.mp h;refine .inr ⟨b,c,?_⟩;split<;>rfl
 ·rcases fe.mp h with h | h
  ·exact .inr ⟨a,h,U⟩
  ·rw [dF.mp h];exact .inl U
def Il (C:Addr):Sp:=λc H Q _=>∃p n b T F,c=[.ref p]/\jN C H p n b T F/\cT n b T F/\∀d a,H d=none->ay H a->jR a d (bw F)->Q (.ref d) a
section
abbrev WW:List Str:=["web","found","one","other","least","most"]
theorem uL:cf WW ċ (aT bt):=cH
theorem mO {f C fF:Addr} {fd o7:FuncData} (F:Fn K mg "falls_by_end" bt ċ f fd) (TC:nO K mg C) (mF:ic K C "falls" fF) (bF:fb K o7 č []) (GF:au P w K mg base aw 1 fF o7 č (vz C λ_ F=>F)):
 au P w K mg base aw 2 f fd ċ (Il C):=by
 refine F.F.cK uL λ_ x6 _ x9 H _ x8 x7 m h=>?_;obtain ⟨x4,x2,la,rT,rF,rfl,W0,u,k⟩:=h;have hu:=jt m;refine ⟨_,bp (bR 1 uL.nd I_)
  (bp (g_ gB U (gy (zk (pv 0) TC.cl mF GF m bF .nil fy))
   (rP U (eK (bO 2 uL.nd) (eK (bO 3 uL.nd) (eK (bO 4 uL.nd) (eK (bO 5 uL.nd) qE)))))
   (a0 (yZ hu (pv 1) (pv 3) (cE (eM (pv 2) (pv 4) (pv 5))) U)))
  (a0 (cm (pv 1)))),?_⟩
 refine λN1 c1 d S=>c1 _ _ ?_;have s1:=aK (o:=.dK []) S;have e1:upd H d (.dK []) d=some (.dK []):=ak;generalize upd H d (.dK [])=H1 at*;obtain ⟨dx,ta,fa,ep,_,_⟩:=id W0;have nf:(kK x2 la ta fa).lookup ("falls":Str)=none:=CN _ _ _ _ (by decide+kernel) (by decide+kernel) (by decide+kernel) (by decide+kernel);refine λN2 c2=>(aa U (jg (s1 _ _ ep) nf ⟨x4,x2,la,rT,rF,U,W0.same s1,λl N _ s2 R2=>?_⟩));obtain ⟨qs,R⟩:=R2;have R:dD N l qs rF:=R;refine ⟨l,U,⟨_,a5.of R.1⟩,?_⟩;have fl:=u.fl;have T:N d=some (.dK []):=s2 _ _ e1;have Yo:H d=none:=S;refine j0 (K:=K) (a:=l) (xs:=qs.map V.ref) (λi L M=>∃E G I J g,L=[some (.ref x4),some (.ref d),E,G,I,J]/\M d=some (.dK g)/\(g.length<=i/\∀Z∈g,∃e:Nat,Z.1=Sum.inl (e:Int))/\(∀e:Nat,(∀r∈rF.take i,r[1]?≠some (e:Int))->ed g (.inl (e:Int))=none)/\
  (∀a b p s:Int,[a,b,p,s]∈rF.take i->∃q,ed g (.inl b)=some (.ref q)/\M q=some (.tup [.int a,.int p,.int s]))/\∀b o,N b=some o->b≠d->M b=some o)
  ⟨none,none,none,none,[],U,T,⟨aj _,λZ h=>nomatch h⟩,(λe _=>rfl),(λa b p s h=>by simp at h),λb o e _=>e⟩ ?_ ?_ ?_
 ·rintro i L O _ ⟨E,G,I,J,g,rfl,_,_,_,_,n⟩;exact a5.of (n _ _ R.1 (cp R.1 T nofun))
 ·rintro i kR L O hx ⟨E,G,I,J,g,rfl,v,⟨W,EN⟩,y,A,n⟩;obtain ⟨q,r,rfl,_,D,km⟩:=R.get hx;obtain ⟨Q,b',p,s,rfl,_,_,x3,_⟩:=u.f r (fg D);have hi:i<rF.length:=(eP.mp D).1;refine ⟨q,_,U,bU.of (n _ _ km (cp km T nofun)),U,_,_,U,_,_,U,_,_,U,_,_,U,U,?_⟩;refine (aa U (aa U (aa U ⟨cX U,λx5 Y=>?_⟩)));have td:x5≠d:=aQ (bj v Y);refine (aa U (aa U ⟨d,_,U,nH.k (k:=Sum.inl b') (by rw [aq (aQ td)];exact v) (fz (by lia)),?_⟩));have tk:rF.take (i+1)=rF.take i++[[Q,b',p,s]]:=by rw [hX,D];rfl
  refine ⟨_,_,_,_,_,U,ak,⟨c7 (uF _ _ _) (sj W),λZ lq=>?_⟩,λe t=>?_,λa b l2 m2 c=>?_,λb o e ne=>?_⟩
  ·rcases Pk lq with z | ⟨Dz,z0,z⟩
   ·exact ⟨b'.toNat,by rw [z,lA (by exact eA x3)]⟩
   ·rw [z];exact EN Dz z0
  ·rw [tk] at t;have o4:b'≠(e:Int):=λz=>t [Q,b',p,s] (i5 _ dB) (by rw [<-z];rfl);rw [vT,if_neg (λz=>o4 (ud z).symm)];exact y e λr m=>t r (h_ _ m)
  ·rw [tk] at c;rcases fe.mp c with c | c
   ·have EY:b≠b':=λz=>by
     obtain ⟨j,B⟩:=rz.mp c;have ER:j<i:=by have:=(eP.mp B).1;rw [fU] at this;exact B_ this
     have tO:rF[j]?=some [a,b,l2,m2]:=by rw [List.getElem?_take] at B;rw [if_pos ER] at B;exact B
     have:=u.one j i _ _ tO D (by rw [z];rfl);lia
    obtain ⟨q',X,x⟩:=A a b l2 m2 c;refine ⟨q',by rw [vT,if_neg (λz=>EY (ud z))];exact X,?_⟩;rw [aq (cp x v nofun),aq (bj x Y)];exact x
   ·have c:=dF.mp c;cases c;refine ⟨x5,by rw [vT,if_pos rfl],?_⟩;rw [aq td,ak]
  ·rw [aq ne,aq (bj (n _ _ e ne) Y)];exact n _ _ e ne
 ·rintro L O ⟨E,G,I,J,g,rfl,v,W,y,A,n⟩;have hle:rF.take (qs.map V.ref).length=rF:=by rw [ax,R.len];exact gC
  rw [hle] at y A;rw [ax,R.len] at W;refine c2 _ _ (aa U (k d O S (λb o e=>n _ _ (s2 _ _ (s1 _ _ e)) (bj e Yo)) ⟨g,v,by lia,λe t=>y e λr m z=>?_,λe f hf=>?_⟩))
  ·obtain ⟨Q,b',p,s,rfl,_⟩:=u.f r m;have z:some b'=some (e:Int):=z;cases z;rw [u.eo m] at t;cases t
  ·obtain ⟨a,l',m',c,rfl,x1,_⟩:=u.find hf;obtain ⟨q,X,x⟩:=A _ _ _ _ c;refine ⟨q,X,?_⟩;rw [x];show some (HO.tup [.int a,.int l',.int m'])=some (HO.tup [.int ((a.toNat:Nat):Int),.int l',.int m']);rw [show ((a.toNat:Nat):Int)=a by exact zN x1]
end
end Y0
namespace L2
open PySem PySem.Spec PyProof.Rows
def rJ:List Value->List Str->Bool
 | [],[]=>true
 | .str x _::b,s::a=>decide (x=s) && rJ b a
 | _,_=>false
theorem Ly:∀{vs:List Value} {ss:List Str},rJ vs ss=true->ba (ss.map V.str) vs
 | [],[],_=>.nil
 | .str x t::vs,s::ss,h=>by have h:(decide (x=s) && rJ vs ss)=true:=h;rw [kr,ug] at h;obtain ⟨e,a⟩:=h;subst e;exact .cons ⟨t,U⟩ (Ly a)
 | [],_::_,h=>by cases h
 | .none::_,_,h=>nomatch (show false=true from h)
 | .bool _::_,_,h=>nomatch (show false=true from h)
 | .int _ _::_,_,h=>nomatch (show false=true from h)
 | .float _ _::_,_,h=>nomatch (show false=true from h)
 | .str _ _::_,[],h=>nomatch (show false=true from h)
 | .bytes _ _::_,_,h=>nomatch (show false=true from h)
 | .ref _::_,_,h=>nomatch (show false=true from h)
 | .builtin _::_,_,h=>nomatch (show false=true from h)
 | .type _::_,_,h=>nomatch (show false=true from h)
 | .ellipsis::_,_,h=>nomatch (show false=true from h)
 | .notImplemented::_,_,h=>nomatch (show false=true from h)
def I3 (K:aW) (ss:List Str):Value->Bool
 | .ref b=>match K.lookup b with
  | some o=>(o.cls==.type "tuple") && (match o.data with
   | .seq a _=>decide (a.size<=sizeLine) && rJ a.toList ss
   | _=>false)
  | none=>false
 | _=>false
theorem L4 {ss:List Str} {v:Value} (h:I3 K ss v=true):∃b,v=.ref b/\∀H,bU K H b (ss.map V.str):=by
 cases v with
 | ref b=>
  refine ⟨b,U,λH=>.inr ?_⟩
  have h:(match K.lookup b with
   | some o=>(o.cls==.type "tuple") && (match o.data with
    | .seq a _=>decide (a.size<=sizeLine) && rJ a.toList ss
    | _=>false)
   | none=>false)=true:=h
  cases q:K.lookup b with
  | none=>rw [q] at h;cases h
  | some o=>
   rw [q] at h
   have h:((o.cls==.type "tuple") && (match o.data with
    | .seq a _=>decide (a.size<=sizeLine) && rJ a.toList ss
    | _=>false))=true:=h
   rw [kr] at h;obtain ⟨e,c⟩:=h
   cases d:o.data with
   | seq a n=>
    rw [d] at c;have c:(decide (a.size<=sizeLine) && rJ a.toList ss)=true:=c;rw [kr,ug] at c;exact ⟨o,a,n,U,beq_iff_eq.mp e,d,c.1,Ly c.2⟩
   | _=>rw [d] at c;cases c
 | _=>cases h
abbrev CH (K:aW) (a:Addr) (D:List (Str×List Str)):Prop:=KTD.tabLook (λd v=>I3 K d v) (λb=>List.lookup b K) a D=true
section
theorem RI (T:KTD.TabOf R s.heap a D) (j:∀d v,KTD.datumAt k D=some d->R d v->Q (some v) { s with toks:=s.toks+1 }) (m:KTD.datumAt k D=none->Q none { s with toks:=s.toks+1 }):
 wpAny (model prog w) A (dictGet a (.str k I)) Q E s:=by
 obtain ⟨_,o,b,r,h,_,g,f⟩:=T;unfold dictGet
 try with_reducible refine kD ?_
 refine ab (wpAny_pyHash_str (ab (KTD.kt_dictFind_strs (s:={ s with toks:=s.toks+1 }) h g (by obtain ⟨l⟩:=b;simpa using f.exact) ?_)));have c:Q (findBy (λk v=>v.isStr k) b k) { s with toks:=s.toks+1 }:=by
  have n:findBy (λk v=>v.isStr k) b k=(b.toList.find? λe=>e.key.isStr k).map (·.val):=by obtain ⟨l⟩:=b;simp [findBy]
  rw [n]
  cases C:KTD.datumAt k D with
  | some d=>obtain ⟨v,q,p⟩:=f.find_some C;rw [q];exact j d v C p
  | none=>rw [f.find_none C];exact m C
 rw [findBy_of_findIdx?] at c
 cases hi:b.findIdx? λe=>e.key.isStr k with
 | none=>rw [hi] at c;exact aG c
 | some i=>rw [hi] at c;exact ab (AL (s:={ s with toks:=s.toks+1 }) h g (aG c))
theorem R3:MeetsIn prog w (Builtin.«dict.get» ⟨[.ref a,.str k o],[]⟩) (λ_ b s=>KTD.TabOf R s.heap a D/\(∀d v,KTD.datumAt k D=some d->R d v->b (.ok (.ret v)) { s with toks:=s.toks+1 })/\(KTD.datumAt k D=none->b (.ok (.ret .none)) { s with toks:=s.toks+1 })):=
 .of_wp λA b s ⟨T,c,e⟩=>by show wpAny _ _ (dictGet a (.str k o)>>=_) _ _ s;refine ab (RI T (λd v f h=>aG ⟨v,U,c d v f h⟩) λg=>?_);show wpAny _ _ (Builtin.Dict.missed a (.str k o)>>=_) _ _ _;exact ab (wpAny_missed_other T.1 (aG ⟨.none,U,e g⟩))
end
def OL (K:aW) (D:List (Str×List Str)) (h i:TE):TE:=λe H Q=>h e H λx g=>∃a,x=.ref a/\CH K a D/\i e g λy c=>∃z,y=.str z/\(∀d,KTD.datumAt z D=some d->∀b,(∀f,bU K f b (d.map V.str))->Q (.ref b) c)/\(KTD.datumAt z D=none->Q .aH c)
theorem QO (N:PE X o td) (L:PE X e ty) (m:M1 X o "get" apos e fv):PE X (.Call (.Attribute o "get" apos) [e] [] fv) (OL X.K D td ty):=by
 intro q s x H x1 I h;refine wpAny_Call_method m.base m.ny m.line PySem.F.plainAttrs_dict PySem.F.slot_dict_get PySem.F.type_dict_get (ar (N q s x H _ I h) λu r g=>?_);obtain ⟨x3,y,j,W,a,A,d,S⟩:=g;subst A;obtain rfl:u=Value.ref a:=W;have T:KTD.TabOf (λ(c:List Str) v=>∃b,v=Value.ref b/\∀H,bU X.K H b (c.map V.str)) r.heap a D:=KTD.tab_of_look (λd v z=>L4 z) j.fq d;obtain ⟨_,p,es,ep,n,l,_⟩:=id T;refine ⟨⟨p,n,l.1⟩,λb e=>?_,?_⟩
 ·injection e with e
  subst e;exact ⟨p,n,l.2.1⟩
 rw [m.trees];refine Calls.callWith_builtin U (Calls.evalArgs_plain (Calls.spliced_cons (ar (L q r x y _ j S) λiv t g=>Calls.spliced_nil ?_)));obtain ⟨x4,i,f,Y,z,B,C,E⟩:=g;subst B;obtain ⟨x2,rfl⟩:=Y;have k:KTD.TabOf (λ(c:List Str) v=>∃b,v=Value.ref b/\∀H,bU X.K H b (c.map V.str)) t.heap a D:=KTD.tab_of_look (λd v z=>L4 z) f.fq d;refine call_meetsIn PySem.F.slot_dict_get (show t.TypeIs (.ref a) "dict" from ?_) PySem.F.entry_dict_get (PySem.F.args_dict_get_2 _ _) (R3 (D:=D)) ⟨k,λc v F Q=>?_,λM=>?_⟩
 ·obtain ⟨_,R,_,_,O,J,_⟩:=id k;exact ⟨R,O,J.1⟩
 ·obtain ⟨b,rfl,G⟩:=Q;exact ⟨.ref b,i,f.tok _,U,C c F b G⟩
 ·exact ⟨.aH,i,f.tok _,U,E M⟩
section
variable {K:aW}
end
section
variable {K:aW}
theorem yV (h:X.K=K):yk X (wq K):=by subst h;exact vE
end
def ur (xs ys:List V):Bool:=((List.range (min xs.length ys.length)).all λj=>lR (xs.getD j .aH) (ys.getD j .aH)) && xs.length==ys.length
theorem P7:∀{x:V},gY x=true->lR x x=true
 | .aH,_=>rfl
 | .bl b,_=>(kE b:(b==b)=true)
 | .int i,_=>(kE i:(i==i)=true)
 | .str s,_=>(kE s:(s==s)=true)
 | .kq _,h=>by cases h
 | .qe _,h=>by cases h
 | .ref _,h=>by cases h
 | .ty _,h=>by cases h
theorem Lm (f:xs.all gY=true):ur xs xs=true:=by
 unfold ur;rw [kE,Bool.and_true,jK];intro j a;have a:=n9.mp a;rw [Nat.min_self] at a;have g:xs[j]?=some (xs.getD j .aH):=by rw [yg,gp a];rfl
 exact P7 (zf f g)
section
end
def u0:V->Bool
 | .int _=>true
 | .str _=>true
 | _=>false
theorem Rm:∀{xs:List V},xs.all u0=true->xs.all gY=true:=λ{xs} h=>jK.mpr λx a=>by have:=jK.mp h x a;cases x<;>first | rfl | cases this
theorem VT (h:u0 x=true) (h':u0 y=true):lR x y=true↔x=y:=by
 cases x with
 | int i=>cases y with
  | int j=>show (i==j)=true↔_;rw [beq_iff_eq,V.int.injEq]
  | str s=>exact ⟨nofun,nofun⟩
  | _=>cases h'
 | str s=>cases y with
  | int j=>exact ⟨nofun,nofun⟩
  | str a=>show (s==a)=true↔_;rw [beq_iff_eq,V.str.injEq]
  | _=>cases h'
 | _=>cases h
theorem QN (h:xs.all u0=true) (h':ys.all u0=true):ur xs ys=true↔xs=ys:=by refine ⟨λe=>?_,λe=>by rw [e];exact Lm (Rm h')⟩;unfold ur at e;rw [kr,jK,beq_iff_eq] at e;obtain ⟨c,d⟩:=e;refine List.ext_getElem d λi a b=>?_;have:=c i (n9.mpr (by lia));rw [yg,yg,gp a,gp b] at this;exact (VT (jK.mp h _ (rr a)) (jK.mp h' _ (rr b))).mp this
section
variable {K:aW}
def TY (K:aW):R2:=λx y H Q=>∃p q a b,x=.ref p/\y=.ref q/\bU K H p a/\bU K H q b/\a.all gY=true/\b.all gY=true/\Q (.bl (!ur a b)) H
theorem VA (g:X.K=K) (j:X.A.units+64<cLine):dH X (compareOp .NotEq) (TY K):=by subst g;intro t s D H x y v u Q I o r h;obtain ⟨p,q,B,C,rfl,rfl,e,f,c,d,i⟩:=h;cases o;cases r;obtain ⟨z,a,m,_⟩:=I.tuple e;obtain ⟨A,b,n,_⟩:=I.tuple f;have k:=a.length;have l:=b.length;refine SeqAt.RcNeAt.tuples m n (P_ j) (VS a b c d) _ _ _ _ ⟨.bl _,H,I,U,?_⟩;rw [f7,f7,<-k,<-l];exact i
end
open PySem
theorem zB:∀{ss:List Str},(ss.map V.str).all gY=true
 | []=>rfl
 | s::r=>by rw [dt,ve,zB (ss:=r)];rfl
end L2
namespace Y0
open PySem L2
seal L2.PE L2.PA L2.PT L2.PS L2.eZ L2.PG L2.kG L2.PI L2.PO
seal L2.kT L2.gQ L2.gU L2.eL L2.gu L2.gv L2.gT L2.gS L2.dv Y0.aI
abbrev uv:List (Str×List Str):=[("sum",["tie","tie"]),("late",["tie"]),("soon",["tie"]),("sure",["wait"]),("back",["wait","tie"]),("cross",["wait"])]
structure ui (K:aW) (mg:Str->Option Value):Prop where
 at_:∃u,mg "USED_KINDS"=some (.ref u)/\CH K u uv
 tuple:mg "tuple"=none
def i9 (xs:List ah):List Str:=xs.map λx=>ju x.tie
inductive lE (F:MU.c9):Str->List ah->Option ah->Prop
 | sum (x y:ah) (hx:x.tie=true) (hy:y.tie=true):lE F "sum" [x,y] (av x y)
 | a3 (x:ah) (hx:x.tie=true):lE F "late" [x] (cz F x)
 | aS (x:ah) (hx:x.tie=true):lE F "soon" [x] (cD F x)
 | sure (x:ah) (fa:Nat×Int×Int) (hx:x.tie=false) (hf:F x.b=some fa):lE F "sure" [x] (cG F x)
 | back (x y:ah) (fa:Nat×Int×Int) (hx:x.tie=false) (hy:y.tie=true) (hf:F x.b=some fa):lE F "back" [x,y] (aR F x y)
 | ao (x:ah) (fa:Nat×Int×Int) (hx:x.tie=false) (hf:F x.b=some fa):lE F "cross" [x] (cy F x)
theorem lE.kinds (h:lE F word xs o):PyProof.Rows.KTD.datumAt word uv=some (i9 xs)/\xs.length<=2:=by
 cases h with
 | sum x y a b=>refine ⟨?_,aj _⟩;unfold i9;rw [dt,dt,oB,a,b];decide+kernel
 | a3 x a=>refine ⟨?_,lB 1⟩;unfold i9;rw [dt,oB,a];decide+kernel
 | aS x a=>refine ⟨?_,lB 1⟩;unfold i9;rw [dt,oB,a];decide+kernel
 | sure x c a d=>refine ⟨?_,lB 1⟩;unfold i9;rw [dt,oB,a];decide+kernel
 | back x y c a b d=>refine ⟨?_,aj _⟩;unfold i9;rw [dt,dt,oB,a,b];decide+kernel
 | ao x c a d=>refine ⟨?_,lB 1⟩;unfold i9;rw [dt,oB,a];decide+kernel
def Vt (H:Hp) (l:Addr) (a:List Addr) (xs:List ah):Prop:=H l=some (.lst (a.map V.ref))/\Paired (fG H) a xs
def Zz (word:Str) (xs:List ah):Prop:=xs.length<=2/\∃a,PyProof.Rows.KTD.datumAt word uv=some a/\a≠i9 xs
def KD:Sp:=λf H Q _=>∃d a c e F b o,f=[.ref d,.str a,.ref c]/\jR H d F/\Vt H c e b/\(lE F a b o\/o=none/\Zz a b)/\jM H Q o
theorem JL:∀{xs ys:List Str},xs.map V.str=ys.map V.str->xs=ys
 | [],[],_=>rfl
 | x::xs,y::ys,h=>by rw [dt,dt,List.cons.injEq,V.str.injEq] at h;rw [h.1,JL h.2]
 | [],_::_,h=>by cases h
 | _::_,[],h=>by cases h
theorem Lp {ss:List Str}:(ss.map V.str).all u0=true:=by rw [List.all_map];exact jK.mpr λ_ _=>rfl
theorem jM.same (g:jM H Q o) (s:ay H H1):jM H1 Q o:=⟨λe a b=>g.1 e a (s.trans b),λx e r a c b h=>g.2 x e r a (s.free c) (s.trans b) h⟩
section
theorem SW:cf ć ć (aT aX):=cH
theorem Si:gF (aT aX) ć (jF [(".0",.local),("what",.local)]) Ĝ [none]:=jH
theorem Sx:(Ĝ:List Str).Nodup:=by decide+kernel
theorem jA (F:Fn K mg "what_follows" aX ć f fd) (T:ui K mg)
 (F1:Fn K mg "by_sum" dV Đ f1 d1) (G1:au P w K mg base aw 1 f1 d1 Đ Mp)
 (F2:Fn K mg "by_late" dm Ĉ f2 d2) (G2:au P w K mg base aw 1 f2 d2 Ĉ Hg)
 (F3:Fn K mg "by_soon" dk Ĉ f3 d3) (G3:au P w K mg base aw 1 f3 d3 Ĉ Hl)
 (F4:Fn K mg "by_sure" dj Ć f4 d4) (G4:au P w K mg base aw 1 f4 d4 Ć Hn)
 (F5:Fn K mg "by_back" dn ď f5 d5) (G5:au P w K mg base aw 1 f5 d5 ď HA)
 (F6:Fn K mg "by_cross" cJ Ć f6 d6) (G6:au P w K mg base aw 1 f6 d6 Ć Io):
 au P w K mg base aw 2 f fd ć KD:=by
 obtain ⟨x1,mU,C'⟩:=T.at_;refine F.F.cK SW λ_ x6 _ x9 x2 _ x8 x7 l x3=>?_;obtain ⟨d,R,ul,E,n,xs,o,rfl,FA,⟨N,M⟩,A,G⟩:=x3;refine ⟨_,bp (cS (cR (VA (K:=K) U l.units) (qK C4 (by rfl) T.tuple (by decide+kernel) (bY (mh U (gy (pv 2)) Si (λcl ex s0 H0=>⟨bO 0 Sx,oi,aF (pv 0)⟩))))
  (QO (D:=uv) (u5 (v:=.ref x1) U mU U) (pv 1) ⟨U,U,U,U⟩)) (a0 (cm jw)) de)
  (bp (cS (cR fc (pv 1) dJ) (a0 (cm (bQ G1 l F1 (a_ (dE gd (pv 2) az) (dE gd (pv 2) az))))) de)
  (bp (cS (cR fc (pv 1) dJ) (a0 (cm (bQ G2 l F2 (a_ (pv 0) (dE gd (pv 2) az))))) de)
  (bp (cS (cR fc (pv 1) dJ) (a0 (cm (bQ G3 l F3 (a_ (pv 0) (dE gd (pv 2) az))))) de)
  (bp (cS (cR fc (pv 1) dJ) (a0 (cm (bQ G4 l F4 (a_ (pv 0) (dE gd (pv 2) az))))) de)
  (bp (cS (cR fc (pv 1) dJ) (a0 (cm (bQ G5 l F5 (eM (pv 0) (dE gd (pv 2) az) (dE gd (pv 2) az))))) de)
  (a0 (cm (bQ G6 l F6 (a_ (pv 0) (dE gd (pv 2) az)))))))))),?_⟩
 obtain ⟨m,Y,wX,A⟩:∃m,PyProof.Rows.KTD.datumAt R uv=some m/\xs.length<=2/\(m=i9 xs/\lE n R xs o\/m≠i9 xs/\o=none):=by
  rcases A with a | ⟨rfl,h1,m,h2,h3⟩
  ·exact ⟨_,a.kinds.1,a.kinds.2,.inl ⟨U,a⟩⟩
  ·exact ⟨m,h2,h1,.inr ⟨h3,U⟩⟩
 have hlen:E.length=xs.length:=i4 M;refine λg c=>(aa U ⟨ul,U,⟨_,a5.of N⟩,λS X=>?_⟩);refine sC (xs:=E.map V.ref) (λj L W=>∃v,L=[v]/\W S=some (.lst ((i9 (xs.take j)).map V.str))/\ay x2 W) ⟨none,U,ak,aK X⟩ ?_ ?_ ?_
 ·rintro j L I _ ⟨v,rfl,_,u⟩;exact a5.of (u _ _ N)
 ·rintro j x L I h ⟨v,rfl,J,u⟩;rw [dC] at h
  cases q:E[j]? with
  | none=>rw [q] at h;cases h
  | some x4=>
   rw [q] at h;cases h;obtain ⟨x,M',hw⟩:=a4 M q;have hj:j<xs.length:=(eP.mp M').1;refine (aa U (aE (u _ _ hw) U ⟨_,J,?_,_,U,?_,λb o e=>?_⟩))
   ·unfold i9;rw [ax,ax,fU];exact fz (Ce wX)
   ·unfold i9;rw [ak,hX,M',eH,eH];rfl
   ·rw [aq (bj e X)];exact u _ _ e
 rintro L I ⟨v,rfl,J,u⟩;have dr:xs.take (E.map V.ref).length=xs:=by rw [ax,hlen];exact gC
 rw [dr] at J;refine ⟨S,_,U,.inl ⟨a5.of J,λt ht=>?_⟩⟩;have H:=u.trans (aK (o:=.tup ((i9 xs).map V.str)) ht);have e3:upd I t (.tup ((i9 xs).map V.str)) t=some (.tup ((i9 xs).map V.str)):=ak;generalize upd I t (.tup ((i9 xs).map V.str))=H3 at*;refine ⟨x1,U,C',aa U ⟨R,U,λss Nh b hb=>?_,λhn=>by rw [Y] at hn;cases hn⟩⟩;rw [Y] at Nh;cases Nh;refine ⟨t,b,_,_,U,U,bU.of e3,hb H3,zB,zB,ct ?_⟩;rcases A with ⟨rfl,A⟩ | ⟨ne,rfl⟩
 case inr=>
  refine oT ?_ ((G.same H).1 U _ (ay.refl _));show (!ur ((i9 xs).map V.str) (m.map V.str))=true;rw [Bool.not_eq_true'];exact F_.mpr λx5=>ne (JL ((QN Lp Lp).mp x5)).symm
 refine gL (by rw [Lm zB];rfl) (c _ _ ?_);clear c g;have z:=FA.same H;have p:=G.same H;have k:=H _ _ N;have s:Paired (fG H3) E xs:=gf M λx4 x e=>e.same H
 cases A with
 | sum x y h O=>
  cases s with
  | cons i r=>cases r with
   | cons Q r=>cases r
               refine λg _=>(aa U ⟨U,ct (oT (by decide+kernel) ?_)⟩);exact (aa U (j5 k (iB (j:=0) U) (aa U (j5 k (iB (j:=1) U) ⟨_,_,x,y,U,i,Q,h,O,p⟩))))
 | a3 x h=>
  cases s with
  | cons i r=>cases r
              refine λg c=>(aa U ⟨U,ct (gL (by decide+kernel) (c _ _ ?_))⟩);refine λg _=>(aa U ⟨U,ct (oT (by decide+kernel) ?_)⟩);exact (aa U (aa U (j5 k (iB (j:=0) U) ⟨d,_,n,x,U,z,i,h,p⟩)))
 | aS x h=>
  cases s with
  | cons i r=>cases r
              refine λg c=>(aa U ⟨U,ct (gL (by decide+kernel) (c _ _ ?_))⟩);refine λg c=>(aa U ⟨U,ct (gL (by decide+kernel) (c _ _ ?_))⟩);refine λg _=>(aa U ⟨U,ct (oT (by decide+kernel) ?_)⟩);exact (aa U (aa U (j5 k (iB (j:=0) U) ⟨d,_,n,x,U,z,i,h,p⟩)))
 | sure x B h C=>
  cases s with
  | cons i r=>cases r
              refine λg c=>(aa U ⟨U,ct (gL (by decide+kernel) (c _ _ ?_))⟩);refine λg c=>(aa U ⟨U,ct (gL (by decide+kernel) (c _ _ ?_))⟩);refine λg c=>(aa U ⟨U,ct (gL (by decide+kernel) (c _ _ ?_))⟩);refine λg _=>(aa U ⟨U,ct (oT (by decide+kernel) ?_)⟩);exact (aa U (aa U (j5 k (iB (j:=0) U) ⟨d,_,n,x,B,U,z,i,h,C,p⟩)))
 | back x y B h O C=>
  cases s with
  | cons i r=>cases r with
   | cons Q r=>cases r
               refine λg c=>(aa U ⟨U,ct (gL (by decide+kernel) (c _ _ ?_))⟩);refine λg c=>(aa U ⟨U,ct (gL (by decide+kernel) (c _ _ ?_))⟩);refine λg c=>(aa U ⟨U,ct (gL (by decide+kernel) (c _ _ ?_))⟩);refine λg c=>(aa U ⟨U,ct (gL (by decide+kernel) (c _ _ ?_))⟩);refine λg _=>(aa U ⟨U,ct (oT (by decide+kernel) ?_)⟩);exact (aa U (aa U (j5 k (iB (j:=0) U) (aa U (j5 k (iB (j:=1) U) ⟨d,_,_,n,x,y,B,U,z,i,Q,h,O,C,p⟩)))))
 | ao x B h C=>
  cases s with
  | cons i r=>cases r
              refine λg c=>(aa U ⟨U,ct (gL (by decide+kernel) (c _ _ ?_))⟩);refine λg c=>(aa U ⟨U,ct (gL (by decide+kernel) (c _ _ ?_))⟩);refine λg c=>(aa U ⟨U,ct (gL (by decide+kernel) (c _ _ ?_))⟩);refine λg c=>(aa U ⟨U,ct (gL (by decide+kernel) (c _ _ ?_))⟩);refine λg c=>(aa U ⟨U,ct (gL (by decide+kernel) (c _ _ ?_))⟩);exact (aa U (aa U (j5 k (iB (j:=0) U) ⟨d,_,n,x,B,U,z,i,h,C,p⟩)))
end
end Y0
namespace L2
open PySem
theorem jX (h:¬g=f):a8 f v ((g,x)::r)=(g,x)::a8 f v r:=if_neg h
theorem Pz:a8 f v ((f,x)::r)=(f,v)::r:=if_pos U
end L2
namespace Y0
open PySem L2
seal L2.PE L2.PA L2.PT L2.PS L2.eZ L2.PG L2.kG L2.PI L2.PO
seal L2.kT L2.gQ L2.gU L2.eL L2.gu L2.gv L2.gT L2.gS L2.dv Y0.aI
structure lF (K:aW) (mg:Str->Option Value) (C:Addr):Prop where
 cl:kH K C
 nM:iH K C "many"
 nB:iH K C "by_end"
 nR:iH K C "rows"
 nE:iH K C "best"
 nX:iH K C "bar"
 len:mg "len"=none
 range:mg "range"=none
def gs (n:Nat) (c d b:Addr) (a:V):List (Str×V):=[("many",.int (n:Int)),("by_end",.ref c),("rows",.ref d),("best",.ref b),("bar",a)]
theorem Zf:(("by_end":Str)=="many")=false:=by decide+kernel
theorem Ze:(("rows":Str)=="many")=false:=by decide+kernel
theorem Zd:(("rows":Str)=="by_end")=false:=by decide+kernel
theorem Zc:(("best":Str)=="many")=false:=by decide+kernel
theorem Zb:(("best":Str)=="by_end")=false:=by decide+kernel
theorem Za:(("best":Str)=="rows")=false:=by decide+kernel
theorem Y_:(("bar":Str)=="many")=false:=by decide+kernel
theorem Y':(("bar":Str)=="by_end")=false:=by decide+kernel
theorem YZ:(("bar":Str)=="rows")=false:=by decide+kernel
theorem SH:(("bar":Str)=="best")=false:=by decide+kernel
section
theorem GX:(gs n be rl bd bar).lookup ("many":Str)=some (.int (n:Int)):=by unfold gs;rw [eQ,kE]
theorem Mi:(gs n be rl bd bar).lookup ("by_end":Str)=some (.ref be):=by unfold gs;rw [eQ,Zf,eQ,kE]
theorem pe:(gs n be rl bd bar).lookup ("rows":Str)=some (.ref rl):=by unfold gs;rw [eQ,Ze,eQ,Zd,eQ,kE]
theorem nY:(gs n be rl bd bar).lookup ("best":Str)=some (.ref bd):=by unfold gs;rw [eQ,Zc,eQ,Zb,eQ,Za,eQ,kE]
theorem yu:(gs n be rl bd bar).lookup ("bar":Str)=some bar:=by unfold gs;rw [eQ,Y_,eQ,Y',eQ,YZ,eQ,SH,eQ,kE]
theorem kJ {m:Str} (a:(m=="many")=false:=by decide+kernel) (b:(m=="by_end")=false:=by decide+kernel) (c:(m=="rows")=false:=by decide+kernel) (d:(m=="best")=false:=by decide+kernel) (e:(m=="bar")=false:=by decide+kernel):(gs n be rl bd bar).lookup m=none:=by unfold gs;rw [eQ,a,eQ,b,eQ,c,eQ,d,eQ,e];rfl
theorem Tv:a8 "bar" v (gs n be rl bd bar)=gs n be rl bd v:=by unfold gs;rw [jX (by decide+kernel),jX (by decide+kernel),jX (by decide+kernel),jX (by decide+kernel),Pz]
end
def CK:Option Nat->V
 | none=>.aH
 | some i=>.int (i:Int)
def jc:MU.Wd->Str
 | .told=>"told"
 | .sum=>"sum"
 | .a3=>"late"
 | .aS=>"soon"
 | .sure=>"sure"
 | .back=>"back"
 | .ao=>"cross"
def bE (k:MU.Key):List Key:=[.inr (ju k.1),.inl (k.2.1:Int),.inl (k.2.2:Int)]
theorem KQ (h:ju a=ju b):a=b:=by
 revert h
 cases a<;>cases b<;>decide+kernel
theorem IX (h:bE k=bE k'):k=k':=by
 obtain ⟨t,a,b⟩:=k;obtain ⟨t',a',b'⟩:=k';unfold bE at h
 injection h with f h
 injection h with g h
 injection h with i _
 have c:=KQ (Sum.inr.inj f);have d:=xT (ud g);have e:=xT (ud i);have c:t=t':=c;have d:a=a':=d;have e:b=b':=e;rw [c,d,e]
def l_ (H:Hp) (q:Addr) (r:Row):Prop:=∃b a,H q=some (.tup [.ref b,.str (jc r.word),.ref a])/\fG H b r.bP/\H a=some (.tup (r.used.map λi:Nat=>V.int (i:Int)))
theorem l_.same (h:l_ H q r) (s:ay H H'):l_ H' q r:=by obtain ⟨e,d,a,b,c⟩:=h;exact ⟨e,d,s _ _ a,s _ _ b,s _ _ c⟩
structure eB (C:Addr) (H:Hp) (p be rl bd:Addr) (n:Nat) (F:MU.c9) (st:MU.St):Prop where
 ins:∃dx,H p=some (.ins C dx (gs n be rl bd (CK st.bar)))
 eo:jR H be F
 rows:∃qs,H rl=some (.lst (qs.map V.ref))/\Paired (l_ H) qs st.rows
 best:∃kvs,H bd=some (.dT kvs)/\(kvs.length<=st.rows.length/\∀kv∈kvs,∃k:MU.Key,kv.1=bE k)/\∀k:MU.Key,ed kvs (bE k)=(st.best k).map λi:Nat=>V.int (i:Int)
theorem eB.same (h:eB C H p be rl bd n F st) (s:ay H H'):eB C H' p be rl bd n F st:=by obtain ⟨⟨a,b⟩,c,⟨l,d,f⟩,⟨k,g,i,j⟩⟩:=h;exact ⟨⟨a,s _ _ b⟩,c.same s,⟨l,s _ _ d,gf f λq r e=>e.same s⟩,⟨k,s _ _ g,i,j⟩⟩
def cV (p d c:Addr) (H a:Hp):Prop:=∀b o,H b=some o->b≠p->b≠d->b≠c->a b=some o
theorem cV.of (s:ay H H'):cV p rl bd H H':=λb o e _ _ _=>s _ _ e
theorem cV.trans (a:cV p rl bd H H1) (b:cV p rl bd H1 H2):cV p rl bd H H2:=λc o e d f g=>b c o (a c o e d f g) d f g
open Classical in
def Hi (C:Addr):Sp:=λf H Q _=>∃p d e c q n F a x,f=[.ref p,.ref q]/\eB C H p d e c n F a/\bz n a/\fG H q x/\∀b,ay H b->Q (.bl (decide (fh a x))) b
theorem yU (h:Paired (l_ H) qs rows) {i:Nat} (a:(rows[i]?).map (·.bP)=some x):∃q r c b,qs[i]?=some q/\rows[i]?=some r/\r.bP=x/\H q=some (.tup [.ref c,.str (jc r.word),.ref b])/\fG H c x/\H b=some (.tup (r.used.map λi:Nat=>V.int (i:Int))):=by
 cases o:rows[i]? with
 | none=>rw [o] at a;cases a
 | some r=>
  rw [o] at a;have a:some r.bP=some x:=a;cases a;have l:=i4 h;have k:=(eP.mp o).1;obtain ⟨q,d⟩:∃q,qs[i]?=some q:=⟨_,gp (v_ k l)⟩;obtain ⟨m,e,⟨c,b,f,g,j⟩⟩:=a4 h d;rw [o] at e;cases e;exact ⟨q,r,c,b,d,U,U,f,g,j⟩
theorem CB:ie (jb x) none (some 3)=(bE x.key).map kV:=by unfold ie jb;rw [cZ,show (some (3:Int))=some ((3:Nat):Int) from rfl,cb];rfl
theorem Br:¬(b3 (jb x).length 0 none=0/\b3 (jb x).length (jb x).length (some 3)=(jb x).length):=λz=>by have h:=z.2;rw [show (some (3:Int))=some ((3:Nat):Int) from rfl,cb] at h;have e:(jb x).length=4:=U;rw [e] at h;cases h
section
theorem CP:cf ["self","what","key","known"] Ě (aT bx):=cH
theorem pT (F:gq K "is_news" "Closing.is_news" bx f fd) (T:lF K mg C):au P w K mg base aw 1 f fd Ě (Hi C):=by
 refine F.cK CP λ_ x3 _ x7 H _ Q x4 hr h=>?_;obtain ⟨x2,be,rl,r,q,x5,Fa,i,x,rfl,c,g,d,k⟩:=h;have t:=jt hr;refine ⟨_,bp (cS (PW.pt (lK (cR fc (aF (pv 1)) dJ) (nZ (cR fc (aF (pv 1)) (aF (pv 1))))))
  (a0 (cm (oN oU (aF (pv 1)) az))) de)
  (bp (bR 2 CP.nd (mu vE (pv 1) mi (mj az)))
  (bp (cS (md (zF t (pv 2) (fJ (pv 0) U)) (by with_unfolding_all rfl)) (a0 (cm rG)) de)
  (bp (bR 3 CP.nd (aF (dE gd (fJ (pv 0) U) (jT t (fJ (pv 0) U) (pv 2) (λ_ _=>rfl)))))
  (a0 (cm (Pt (cR fc (aF (pv 1)) dJ) (oN oU (aF (pv 1)) (aF (pv 3))) (oN CT (aF (pv 1)) (aF (pv 3))))))))),?_⟩
 obtain ⟨dx,n⟩:=c.ins;obtain ⟨qs,ji,b5⟩:=c.rows;obtain ⟨kvs,Y,_,lq⟩:=c.best;have m:∀(H':Hp) (b:Bool),ay H H'->(b=true↔fh i x)->Q (.bl b) H':=λH' b s' e=>by
  have:=k H' s';have R:b=decide (fh i x):=by
   by_cases z:fh i x
   ·rw [e.mpr z];simp [z]
   ·cases b with
    | true=>exact absurd (e.mp U) z
    | false=>simp [z]
  rw [R];exact this
 refine λE G=>(aa U (aE d U ⟨U,ct ?_⟩));rw [zh];have D:¬(x.tie=true/\x.a=x.b)->E (L2.fj ["self","what","key","known"] [.ref x2,.ref q]) H:=λwU=>by
  refine G _ _ ?_;refine λN2 L=>(aa U ⟨_,U,q,_,U,bU.of d,Br,λp Z=>L _ _ ?_⟩);rw [CB];have a:=aK (o:=.tup ((bE x.key).map kV)) Z;have O:upd H p (.tup ((bE x.key).map kV)) p=some (.tup ((bE x.key).map kV)):=ak;generalize upd H p (.tup ((bE x.key).map kV))=H1 at*;have l:=ea.t (k:=bE x.key) (a _ _ Y) O;rw [lq] at l;refine λN3 M=>(aa U (aa U (ek (a _ _ n) T.cl T.nE nY ⟨r,_,U,l,_,U,?_⟩)));have A:fh i x↔∀u,MU.val i x.key=some u->dh x.tie x.v u:=by unfold fh;rw [if_neg wU]
  cases J:i.best x.key with
  | none=>
   refine fx (m H1 true a ⟨λ_=>A.mpr λu j=>?_,λ_=>rfl⟩);unfold MU.val at j;rw [J] at j;cases j
  | some x1=>
   rw [J] at l;refine du (M _ _ ?_);obtain ⟨u,v,_⟩:=g.at_ _ _ J;obtain ⟨q',x6,pw,pu,S,_,_,W,s,_⟩:=yU b5 v;have X:gI (qs.map V.ref) (x1:Int)=some (.ref q'):=iB (by rw [dC,S];rfl);refine λN4 N=>(aa U (ek (a _ _ n) T.cl T.nR pe (aa U (ek (a _ _ n) T.cl T.nE nY (aa U ⟨r,_,U,l,?_⟩)))));refine (Au (a _ _ ji) X (aE (a _ _ W) U (N _ _ ?_)));have y:=MU.lM J v;refine (aa U (aE (a _ _ d) U ⟨U,ct ?_⟩));rw [zh];have B:fh i x↔dh x.tie x.v u.v:=A.trans ⟨λz=>z _ y,λz u' j=>by rw [y] at j;cases j;exact z⟩
   cases I:x.tie with
   | true=>
    refine fx (aa U (aE (a _ _ d) U (aa U (aE (a _ _ s) U (ri (m _ _ a ?_))))));rw [B,I,ug];unfold dh;rw [if_pos rfl]
   | false=>
    refine du (aa U (aE (a _ _ d) U (aa U (aE (a _ _ s) U (ri (m _ _ a ?_))))));rw [B,I,ug];unfold dh;rw [if_neg (by decide)]
 cases I:x.tie with
 | false=>exact du (du (D λz=>by rw [I] at z;cases z.1))
 | true=>
  refine fx (aa U (aE d U (aa U (aE d U ⟨U,ct ?_⟩))));rw [oM]
  by_cases e:x.a=x.b
  ·refine gE e (aa U (aE d U (ri (m H _ (ay.refl _) ?_))));rw [ug];unfold fh;rw [if_pos ⟨I,e⟩]
  ·exact iG e (D λz=>e z.2)
end
def B2 (C:Addr):Sp:=λj H Q _=>∃p e d c q f n F a x h g,j=[.ref p,.ref q,.str (jc h),.ref f]/\eB C H p e d c n F a/\bz n a/\fG H q x/\H f=some (.tup (g.map λi:Nat=>V.int (i:Int)))/\a.rows.length<=16500000/\
 ∀b,eB C b p e d c n F (take a x h g)->cV p d c H b->Q .aH b
theorem HJ:decide (CK o=V.aH)=decide (o=none):=by
 cases o with
 | none=>rfl
 | some i=>exact (cF λz=>nomatch z).trans (cF λz=>nomatch z).symm
theorem PH (h:fh st x):take st x wd us={ rows:=st.rows++[⟨x,wd,us⟩],best:=λk=>if k=x.key then some st.rows.length else st.best k,bar:=if st.bar=none/\fY x then some st.rows.length else st.bar }:=by unfold take;rw [if_pos h]
theorem Pj {kvs:List (List Key×V)} {k:List Key} {v:V} {a:List Key×V} (h:a∈d7 kvs k v):a.1=k\/∃b∈kvs,a.1=b.1:=by
 unfold d7 at h;split at h
 ·obtain ⟨b,c,rfl⟩:=cn.mp h;refine .inr ⟨b,c,?_⟩;split<;>rfl
 ·rcases fe.mp h with h | h
  ·exact .inr ⟨a,h,U⟩
  ·rw [dF.mp h];exact .inl U
theorem vD (h:n<=16500000):n<sizeLine:=l9 h (by decide)
section
theorem Tr:cf Ă Ă (aT cu):=cH
theorem pM {f C fN fB:Addr} {fd o6 lQ:FuncData} (F:gq K "take" "Closing.take" cu f fd) (T:lF K mg C)
 (mN:ic K C "is_news" fN) (bN:fb K o6 Ě []) (GN:au P w K mg base aw 1 fN o6 Ě (Hi C))
 (FB:Fn K mg "bars_every_hand" aU Ĝ fB lQ) (GB:au P w K mg base aw 1 fB lQ Ĝ HB):au P w K mg base aw 2 f fd Ă (B2 C):=by
 refine F.cK Tr λ_ x4 _ x9 x6 _ x7 x5 W x3=>?_;obtain ⟨p,be,rl,bd,q,m,x1,Fa,a,x,A,us,rfl,c,x2,hw,XO,hlen,k⟩:=x3;have hu:=jt W;refine ⟨_,a0 (cS (pd (ig (pv 0) T.cl mN GN W bN .nil fy (bY (pv 1))))
  (bp (yZ hu (fJ (pv 0) U) (mu vE (pv 1) mi (mj az)) (j4 wo (by rfl) T.len PySem.boot_len (bY (fJ (pv 0) U))) U)
  (bp (o_ (cS (PW.pt (lK (cR yK (fJ (pv 0) U) jw) (nZ (pd (bQ GB W FB (bY (pv 1))))))) (a0 (nU (pv 0) (j4 wo (by rfl) T.len PySem.boot_len (bY (fJ (pv 0) U))) U)) de))
  (a0 (fH (oW qm oG ql ov (fJ (pv 0) U) (bY (cE (eM (pv 1) (pv 2) (pv 3))))))))) de),?_⟩
 obtain ⟨dx,hp⟩:=c.ins;refine (aa U (jg hp (kJ) (aa U ⟨p,be,rl,bd,q,x1,Fa,a,x,U,c,x2,hw,λi r=>⟨_,U,?_⟩⟩)))
 by_cases L:fh a x
 ·refine oT (by simp [L]) ?_;have B:=c.same r;have M:=r _ _ hw;have DS:=r _ _ XO;obtain ⟨R,g⟩:=B.ins;obtain ⟨n,l,b5⟩:=B.rows;obtain ⟨h,j,J,lq⟩:=B.best;have S:n.length=a.rows.length:=i4 b5;refine λN2 c2=>(aa U (ek g T.cl T.nR pe ⟨rl,_,U,.inl (a5.of l),aa U (ek g T.cl T.nE nY (aa U ⟨_,U,q,_,U,bU.of M,Br,λkt EL=>?_⟩))⟩));rw [CB,ax,S];have s2:=aK (o:=.tup ((bE x.key).map kV)) EL;have e2:upd i kt (.tup ((bE x.key).map kV)) kt=some (.tup ((bE x.key).map kV)):=ak;generalize upd i kt (.tup ((bE x.key).map kV))=H2 at*;refine ⟨bd,_,U,nH.t (k:=bE x.key) (s2 _ _ j) e2 (vD (by have:=J.1;exact ph J.1 hlen)),c2 _ _ ?_⟩;have N:∀b o,i b=some o->b≠bd->upd H2 bd (.dT (d7 h (bE x.key) (.int (a.rows.length:Int)))) b=some o:=λb o e v=>by
   rw [aq v];exact s2 _ _ e
  have e3:upd H2 bd (.dT (d7 h (bE x.key) (.int (a.rows.length:Int)))) bd=some (.dT (d7 h (bE x.key) (.int (a.rows.length:Int)))):=ak;generalize upd H2 bd (.dT (d7 h (bE x.key) (.int (a.rows.length:Int))))=H3 at*;clear c2 N2;have uQ:p≠bd:=cp g j nofun;have M7:rl≠bd:=cp l j nofun;have MD:p≠rl:=cp g l nofun;have t:=N _ _ g uQ;have qa:=N _ _ l M7;have X7:=N _ _ M (cp M j nofun);refine λN4 c4=>⟨λgK H'=>gK=L2.fj Ă [.ref p,.ref q,.str (jc A),.ref m]/\(∃YV,H' p=some (.ins C YV (gs x1 be rl bd (CK (if a.bar=none/\fY x then some a.rows.length else a.bar)))))/\∀b o,H3 b=some o->b≠p->H' b=some o,?_,?_⟩
  ·refine (aa U (ek t T.cl T.nX yu ⟨U,ct ?_⟩));rw [HJ]
   by_cases H:a.bar=none
   ·refine gE H (aa U ⟨q,x,U,X7,_,U,?_⟩)
    by_cases G:fY x
    ·refine gE G ?_;refine (aa U (ek t T.cl T.nR pe ⟨rl,_,U,.inl (a5.of qa),aa U (o3 t T.cl T.nX (by show 5<1000;decide) ⟨U,⟨R,?_⟩,λb o e v=>?_⟩)⟩))
     ·rw [ak,Tv,if_pos ⟨H,G⟩,ax,S];rfl
     ·rw [aq v];exact e
    ·refine iG G ⟨U,⟨R,?_⟩,λb o e _=>e⟩;rw [if_neg λz=>G z.2];exact t
   ·refine iG H (du ⟨U,⟨R,?_⟩,λb o e _=>e⟩);rw [if_neg λz=>H z.1];exact t
  ·rintro gK H4 ⟨rfl,⟨YT,uV⟩,k4⟩;refine c4 _ _ ?_;have X:=k4 _ _ qa (aQ MD);refine (aa U (ek uV T.cl T.nR pe ⟨.inl ⟨U,_,a5.of X⟩,aa U (aa U (aa U ⟨cX U,λd DO=>?_⟩))⟩));have y:=aK (o:=.tup [.ref q,.str (jc A),.ref m]) DO;have e5:upd H4 d (.tup [.ref q,.str (jc A),.ref m]) d=some (.tup [.ref q,.str (jc A),.ref m]):=ak;generalize upd H4 d (.tup [.ref q,.str (jc A),.ref m])=I at*;refine (pG (y _ _ X) (by rw [ax,S];exact vD (by omega)) ?_);have O:∀b o,I b=some o->b≠rl->upd I rl (.lst (n.map V.ref++[.ref d])) b=some o:=λb o e v=>by rw [aq v];exact e
   have e6:upd I rl (.lst (n.map V.ref++[.ref d])) rl=some (.lst ((n++[d]).map V.ref)):=by rw [ak,eH];rfl
   generalize upd I rl (.lst (n.map V.ref++[.ref d]))=H6 at*;have Q:∀b o,i b=some o->b≠p->b≠rl->b≠bd->H6 b=some o:=λb o e n1 n2 n3=>O _ _ (y _ _ (k4 _ _ (N _ _ e n3) n1)) n2;have s:∀b xs,i b=some (.tup xs)->H6 b=some (.tup xs):=λb xs e=>Q _ _ e (cp e g nofun) (cp e l nofun) (cp e j nofun);refine k H6 ?_ λb o e n1 n2 n3=>Q _ _ (r _ _ e) n1 n2 n3;rw [PH L];refine ⟨⟨YT,O _ _ (y _ _ uV) MD⟩,?_,⟨n++[d],e6,?_⟩,⟨_,O _ _ (y _ _ (k4 _ _ e3 (aQ uQ))) (aQ M7),?_,λu=>?_⟩⟩
   ·obtain ⟨xw,E,f2,f3,f4⟩:=B.eo.at_;refine ⟨xw,Q _ _ E (cp E g nofun) (cp E l nofun) (cp E j nofun),f2,f3,λe f hf=>?_⟩;obtain ⟨pp,q1,q2⟩:=f4 e f hf;exact ⟨pp,q1,s _ _ q2⟩
   ·refine qM (gf b5 λqq x8 e=>?_) (.cons ?_ .nil)
    ·obtain ⟨pw,Aw,r1,r2,r3⟩:=e;exact ⟨pw,Aw,s _ _ r1,s _ _ r2,s _ _ r3⟩
    ·exact ⟨q,m,O _ _ e5 (cp e5 (y _ _ X) nofun),s _ _ M,s _ _ DS⟩
   ·refine ⟨?_,λkv EK=>?_⟩
    ·show (d7 h (bE x.key) _).length<=(a.rows++[_]).length;have:=uF h (bE x.key) (.int (a.rows.length:Int));have:=J.1;rw [ff];show _<=a.rows.length+1;lia
    ·rcases Pj EK with z | z
     ·exact ⟨x.key,z⟩
     ·obtain ⟨Dz,h0,e0⟩:=z;obtain ⟨k0,e1⟩:=J.2 Dz h0;exact ⟨k0,e0.trans e1⟩
   ·show ed (d7 h (bE x.key) _) (bE u)=(if u=x.key then some a.rows.length else a.best u).map _;rw [vT]
    by_cases D:u=x.key
    ·rw [if_pos (by rw [D]),if_pos D];rfl
    ·rw [if_neg λz=>D (IX z),if_neg D];exact lq u
 ·refine gL (by simp [L]) (k i ?_ (cV.of r));rw [MU.sg L];exact c.same r
end
end Y0
namespace L2
open PySem PySem.Spec PyProof.Rows
theorem IL {q:List (Option Nat)} {g:TG} {r:TT} {s:TE} {j:St} {H:Hp} {D:Addr} {Q:VK} {a:Addr} {xs:List V} (d:Nat->St->Hp->Prop) (v:d 0 (me q j) (upd H D (.lst []))) (l:∀i c b,i<=xs.length->d i c b->bU K b a xs)
 (A:∀i x c b,xs[i]?=some x->d i c b->g x c b λk u=>r k u λok n=>if ok=true then s k n λy o=>∃ys,o D=some (.lst ys)/\ys.length<sizeLine/\d (i+1) k (upd o D (.lst (ys++[y]))) else d (i+1) k n)
 (z:∀c b,d xs.length c b->Q (.ref D) b):
 rV q g r s j Q (vo K a) H D:=by
 refine ⟨λi m j H=>m=xs.length-i/\i<=xs.length/\d i j H,⟨xs.length,by simp,cN _,v⟩,?_⟩;rintro i m c b ⟨rfl,f,p⟩
 by_cases h:i<xs.length
 ·refine .inr ⟨⟨xs,_,l i c b f p,gp h⟩,d (i+1),λC t B=>⟨xs.length-(i+1),qH h,U,h,B⟩,λx t y=>?_⟩;obtain ⟨e,y⟩:=y;subst e;exact A i x c _ (y xs (l i c _ f p)) p
 ·have e:i=xs.length:=qI f h;subst e;exact .inl ⟨⟨xs,l _ c b f p,aj _⟩,z c b p⟩
theorem qD {Y:Cx} {e:Expr} {f:Str} {g:Pos} {a:TE} (b:Y.K=K) (d:PE Y e a) (c:attributeBase e f Y.env (eval e Y.env)=eval e Y.env):PE Y (.Attribute e f g) (LX K a f):=by subst b;exact fJ d c
end L2
namespace Y0
open PySem L2
seal L2.PE L2.PA L2.PT L2.PS L2.eZ L2.PG L2.kG L2.PI L2.PO
seal L2.kT L2.gQ L2.gU L2.eL L2.gu L2.gv L2.gT L2.gS L2.dv Y0.aI
def yF (C:Addr):Sp:=λk H Q _=>∃p g d c h n F a f e j o,k=[.ref p,.str (jc f),.ref h]/\eB C H p g d c n F a/\bz n a/\H h=some (.tup (e.map λi:Nat=>V.int (i:Int)))/\Paired (λi x=>ae a i=some x) e j/\lE F (jc f) j o/\a.rows.length<=16500000/\
 ∀b,eB C b p g d c n F (MU.put a o f e)->cV p d c H b->Q .aH b
section
theorem LP:cf ["self","word","used","what"] Č (aT bu):=cH
theorem SM:gF (aT bu) ["self","word","used","what"] (jF [(".0",.local),("number",.local),("self",.free)]) ["number","self"] [none,some 0]:=jH
theorem Sz:(["number","self"]:List Str).Nodup:=by decide+kernel
theorem pX {f C L M:Addr} {N O Q:FuncData} (F:gq K "draw" "Closing.draw" bu f N) (T:lF K mg C)
 (mT:ic K C "take" L) (bT:fb K O Ă []) (GT:au P w K mg base aw 2 L O Ă (B2 C))
 (FW:Fn K mg "what_follows" aX ć M Q) (GW:au P w K mg base aw 2 M Q ć KD):au P w K mg base aw 3 f N Č (yF C):=by
 refine F.cK LP λ_ x7 _ kR x2 _ x9 x8 S x4=>?_;obtain ⟨p,I,rl,bd,Z,x5,E,st,wd,m,xs,o,rfl,c,x3,B,W,H,hlen,k⟩:=x4;refine ⟨_,bp (bR 3 LP.nd (bQ GW S FW (eM (fJ (pv 0) U) (pv 1) (mh U (Bu (pv 2)) SM (λcl ex s0 H0=>⟨bO 0 Sz,oi,aF (dE gd (qD (K:=K) U (pv 1) U) (pv 0))⟩)))))
  (a0 (cS (cR Iy (pv 3) jw) (a0 (fH (ig (pv 0) T.cl mT GT S bT .nil fy (eM (pv 3) (pv 1) (pv 2))))) de)),?_⟩
 obtain ⟨dx,A⟩:=c.ins;obtain ⟨qs,ji,b5⟩:=c.rows;obtain ⟨_,uS⟩:=H.kinds;have Nf:m.length=xs.length:=i4 W;refine λN1 J=>(aa U (ek A T.cl T.nB Mi (aa U (aa U ⟨Z,U,⟨_,bU.of B⟩,λt R=>?_⟩))));refine IL (xs:=m.map λi:Nat=>V.int (i:Int)) (λj s u=>∃v d,s=[v,some (.ref p)]/\u t=some (.lst (d.map V.ref))/\Paired (fG u) d (xs.take j)/\ay x2 u) ⟨none,[],U,ak,.nil,aK R⟩ ?_ ?_ ?_
 ·rintro j s n _ ⟨v,d,rfl,_,_,a⟩;exact bU.of (a _ _ B)
 ·rintro j x s n h ⟨v,d,rfl,r,g,a⟩;rw [dC] at h
  cases q:m[j]? with
  | none=>rw [q] at h;cases h
  | some i=>
   rw [q] at h;cases h;obtain ⟨x6,X,hy⟩:=a4 W q;obtain ⟨q',x1,pw,Aw,g1,_,_,g4,g5,_⟩:=yU b5 hy;have o5:gI (qs.map V.ref) (i:Int)=some (.ref q'):=iB (by rw [dC,g1];rfl);have hj:j<xs.length:=(eP.mp X).1;have tN:d.length=min j xs.length:=by rw [i4 g,fU]
   refine (aa U (ek (a _ _ A) T.cl T.nR pe (uJ U (a _ _ ji) o5 (aE (a _ _ g4) U ⟨_,r,?_,_,d++[pw],U,?_,?_,λb o e=>?_⟩))))
   ·rw [ax,tN];exact fz (Ce uS)
   ·rw [ak,eH];rfl
   ·have et:xs.take (j+1)=xs.take j++[x6]:=by rw [hX,X];rfl
    rw [et];have Y:∀b x,fG n b x->fG (upd n t (.lst (d.map V.ref++[.ref pw]))) b x:=λb x e=>by unfold fG;rw [aq (cp e r nofun)];exact e
    exact qM (gf g λb x e=>Y b x e) (.cons (Y _ _ (a _ _ g5)) .nil)
   ·rw [aq (bj e R)];exact a _ _ e
 rintro s n ⟨v,d,rfl,r,g,a⟩;have dr:xs.take (m.map λi:Nat=>V.int (i:Int)).length=xs:=by rw [ax,Nf];exact gC
 rw [dr] at g;have y:=c.same a;refine ⟨I,_,t,d,E,xs,o,U,y.eo,⟨r,g⟩,.inl H,λz G l=>J _ _ ?_,λx z x1 G _ l hw=>J _ _ ?_⟩
 ·refine (aa U ⟨U,ct (gL U ?_)⟩);refine k G ?_ (cV.of (a.trans l));rw [z];exact y.same l
 ·refine (aa U ⟨U,ct (oT U ?_)⟩);have c3:=y.same l;have D:=a.trans l;refine (aa U (jg (D _ _ A) (kJ) (aa U (aa U (aa U ⟨p,I,rl,bd,x1,Z,x5,E,st,x,wd,m,U,c3,x3,hw,D _ _ B,hlen,λH4 c4 k4=>?_⟩)))));refine k H4 ?_ ((cV.of D).trans k4);rw [z];exact c4
def ee (l:List Nat):List V:=l.map λi:Nat=>V.int (i:Int)
def Iq (C:Addr):Sp:=λg H Q _=>∃(p e f d:Addr) (n:Nat) (F:MU.c9) (c:MU.St) (t:Bool) (a:Nat),g=[.ref p,.str (ju t),.int (a:Int)]/\eB C H p e f d n F c/\n<=8/\∀l b,H l=none->ay H b->b l=some (.lst (ee (cq n c t a)))->Q (.ref l) b
def CS (C:Addr):Sp:=λg H Q _=>∃(p e f d:Addr) (n:Nat) (F:MU.c9) (c:MU.St) (b:Nat),g=[.ref p,.int (b:Int)]/\eB C H p e f d n F c/\n<=8/\∀l a,H l=none->ay H a->a l=some (.lst (ee (cO n c b)))->Q (.ref l) a
theorem z_:(List.range (n+1)).filterMap f=(List.range n).filterMap f++(f n).toList:=by
 rw [xN,xV]
 cases h:f n with
 | none=>simp [h]
 | some x=>simp [h]
theorem Tp:cf Ď Ď (aT aN):=cH
theorem SR:gF (aT aN) Ď (jF [(".0",.local),("b",.local),("a",.free),("kind",.free),("self",.free)]) ["b","a","kind","self"] [none,some 2,some 1,some 0]:=jH
theorem S4:(["b","a","kind","self"]:List Str).Nodup:=by decide+kernel
theorem mH {f C:Addr} {G:FuncData} (F:gq K "known_of" "Closing.known_of" aN f G) (T:lF K mg C):au P w K mg base aw 1 f G Ď (Iq C):=by
 refine F.cK Tp λ_ x2 _ x6 H _ x4 x3 hr h=>?_;obtain ⟨x1,be,rl,B,n,Fa,l,t,a,rfl,c,h8,k⟩:=h;have N:=jt hr;refine ⟨_,a0 (cm (mh U (sE U T.range (bY (fJ (pv 0) U))) SR (λcl ex s0 H0=>⟨bO 0 S4,vI (md (B0 N (cE (eM (pv 2) (pv 1) (pv 0))) (qD (K:=K) U (pv 3) U)) (by with_unfolding_all rfl)),jT N (qD (K:=K) U (pv 3) U) (cE (eM (pv 2) (pv 1) (pv 0))) (λ_ _=>rfl)⟩))),?_⟩;obtain ⟨dx,r⟩:=c.ins;obtain ⟨kvs,L,_,M⟩:=c.best;refine (aa U (ek r T.cl T.nM GX ⟨_,U,by exact jJ (n+Nat.succ 4611686018427387903),by lia,λm q=>?_⟩));refine zO (n:=((n:Int)).toNat) (λi z A=>∃v,z=[v,some (.int (a:Int)),some (.str (ju t)),some (.ref x1)]/\A m=some (.lst (ee ((List.range i).filterMap λb=>l.best (t,a,b))))/\ay H A) ⟨none,U,ak,aK q⟩ ?_ ?_
 ·rintro i z g X ⟨v,rfl,j,x⟩;have uZ:i<n:=by exact X
  have W:((0:Int)+(i:Int))=(i:Int):=by lia
  refine (aa U (aa U (aa U ⟨cX U,λs Y=>?_⟩)));rw [W];have y:=aK (o:=.tup ((bE (t,a,i)).map kV)) Y;have R:upd g s (.tup ((bE (t,a,i)).map kV)) s=some (.tup ((bE (t,a,i)).map kV)):=ak;have E:(HO.tup [V.str (ju t),V.int (a:Int),V.int (i:Int)])=.tup ((bE (t,a,i)).map kV):=U;rw [E];generalize upd g s (.tup ((bE (t,a,i)).map kV))=J at*;have d:=x.trans y;have p:=ea.t (k:=bE (t,a,i)) (d _ _ L) R;rw [M] at p;refine (aa U (ek (d _ _ r) T.cl T.nE nY ⟨B,_,U,p,_,U,?_⟩));have fl:((List.range i).filterMap λb=>l.best (t,a,b)).length<=i:=by have:=AZ (λb=>l.best (t,a,b)) (List.range i);rw [rp] at this;exact this
  cases I:l.best (t,a,i) with
  | none=>
   refine du ⟨_,U,?_,d⟩;rw [z_,I];show J m=some (.lst (ee (_++[])));rw [uf];exact y _ _ j
  | some x5=>
   rw [I] at p;refine fx ?_;refine (aa U (ek (d _ _ r) T.cl T.nE nY (aa U (aa U (aa U ⟨cX U,λu Z=>?_⟩)))));have Q:=aK (o:=.tup ((bE (t,a,i)).map kV)) Z;have S:upd J u (.tup ((bE (t,a,i)).map kV)) u=some (.tup ((bE (t,a,i)).map kV)):=ak;rw [E];generalize upd J u (.tup ((bE (t,a,i)).map kV))=H4 at*;have O:=d.trans Q;have D:=ea.t (k:=bE (t,a,i)) (O _ _ L) S;rw [M,I] at D;refine ⟨B,_,U,D,_,Q _ _ (y _ _ j),?_,_,U,?_,λb o e=>?_⟩
   ·unfold ee;rw [ax];exact fz (by lia)
   ·rw [ak,z_,I];unfold ee;rw [eH];rfl
   ·rw [aq (bj e q)];exact O _ _ e
 ·rintro z g ⟨v,rfl,j,x⟩;exact k m g q x j
theorem Tt:cf đ đ (aT aV):=cH
theorem SV:gF (aT aV) đ (jF [(".0",.local),("a",.local),("b",.free),("self",.free)]) ["a","b","self"] [none,some 1,some 0]:=jH
theorem S8:(["a","b","self"]:List Str).Nodup:=by decide+kernel
theorem kZ {f C:Addr} {E:FuncData} (F:gq K "ties_to" "Closing.ties_to" aV f E) (T:lF K mg C):au P w K mg base aw 1 f E đ (CS C):=by
 refine F.cK Tt λ_ x2 _ x7 H _ x4 x3 Z h=>?_;obtain ⟨x1,be,rl,A,n,Fa,l,b,rfl,c,h8,k⟩:=h;have M:=jt Z;refine ⟨_,a0 (cm (mh U (sE U T.range (bY (fJ (pv 0) U))) SV (λcl ex s0 H0=>⟨bO 0 S8,vI (md (B0 M (cE (eM dJ (pv 0) (pv 1))) (qD (K:=K) U (pv 2) U)) (by with_unfolding_all rfl)),jT M (qD (K:=K) U (pv 2) U) (cE (eM dJ (pv 0) (pv 1))) (λ_ _=>rfl)⟩))),?_⟩;obtain ⟨dx,r⟩:=c.ins;obtain ⟨kvs,G,_,L⟩:=c.best;refine (aa U (ek r T.cl T.nM GX ⟨_,U,by exact jJ (n+Nat.succ 4611686018427387903),by lia,λm q=>?_⟩));refine zO (n:=((n:Int)).toNat) (λi y z=>∃v,y=[v,some (.int (b:Int)),some (.ref x1)]/\z m=some (.lst (ee ((List.range i).filterMap λa=>l.best (true,a,b))))/\ay H z) ⟨none,U,ak,aK q⟩ ?_ ?_
 ·rintro i y g W ⟨v,rfl,j,u⟩;have uZ:i<n:=by exact W
  have S:((0:Int)+(i:Int))=(i:Int):=by lia
  refine (aa U (aa U ⟨cX U,λs X=>?_⟩));rw [S];have x:=aK (o:=.tup ((bE (true,i,b)).map kV)) X;have Q:upd g s (.tup ((bE (true,i,b)).map kV)) s=some (.tup ((bE (true,i,b)).map kV)):=ak;have D:(HO.tup [V.str "tie",V.int (i:Int),V.int (b:Int)])=.tup ((bE (true,i,b)).map kV):=U;rw [D];generalize upd g s (.tup ((bE (true,i,b)).map kV))=J at*;have d:=u.trans x;have p:=ea.t (k:=bE (true,i,b)) (d _ _ G) Q;rw [L] at p;refine (aa U (ek (d _ _ r) T.cl T.nE nY ⟨A,_,U,p,_,U,?_⟩));have fl:((List.range i).filterMap λa=>l.best (true,a,b)).length<=i:=by have:=AZ (λa=>l.best (true,a,b)) (List.range i);rw [rp] at this;exact this
  cases I:l.best (true,i,b) with
  | none=>
   refine du ⟨_,U,?_,d⟩;rw [z_,I];show J m=some (.lst (ee (_++[])));rw [uf];exact x _ _ j
  | some x6=>
   rw [I] at p;refine fx ?_;refine (aa U (ek (d _ _ r) T.cl T.nE nY (aa U (aa U ⟨cX U,λt Y=>?_⟩))));have O:=aK (o:=.tup ((bE (true,i,b)).map kV)) Y;have R:upd J t (.tup ((bE (true,i,b)).map kV)) t=some (.tup ((bE (true,i,b)).map kV)):=ak;rw [D];generalize upd J t (.tup ((bE (true,i,b)).map kV))=H4 at*;have N:=d.trans O;have B:=ea.t (k:=bE (true,i,b)) (N _ _ G) R;rw [L,I] at B;refine ⟨A,_,U,B,_,O _ _ (x _ _ j),?_,_,U,?_,λx5 o e=>?_⟩
   ·unfold ee;rw [ax];exact fz (by lia)
   ·rw [ak,z_,I];unfold ee;rw [eH];rfl
   ·rw [aq (bj e q)];exact N _ _ e
 ·rintro y g ⟨v,rfl,j,u⟩;exact k m g q u j
end
end Y0
namespace MU
def UJ (F:c9) (st:St):Prop:=∀i w,ae st i=some w->w.tie=false->∃f,F w.b=some f
structure gJ (n:Nat) (F:c9) (st:St):Prop where
 good:bz n st
 ends:UJ F st
def sJ (n:Nat) (F:c9) (w:ah):Prop:=oI n w/\(w.tie=false->∃f,F w.b=some f)
theorem gJ.put (h:gJ n F st) (b:∀w,o=some w->sJ n F w):gJ n F (put st o wd us):=by
 refine ⟨BW h.good λw e=>(b w e).1,λi w d c=>?_⟩
 by_cases a:i<st.rows.length
 ·exact h.ends i w (oo (og _ _ _ _) a d) c
 ·exact (oe (C:=λw=>w.tie=false->∃f,F w.b=some f) (λw e=>(b w e).2) i w (by exact jm a) d) c
theorem Hs {p q w:ah} (a:p.a<n) (b:q.b<n) (h:av p q=some w):sJ n F w:=by
 unfold av at h;split at h
 ·cases h;exact ⟨⟨a,b,λz=>nomatch z⟩,λz=>nomatch z⟩
 ·cases h
theorem V5 {p w:ah} (a:p.a<n) (b:p.b<n) (h:cz F p=some w):sJ n F w:=by
 refine ⟨vP p w a b h,λ_=>?_⟩;unfold cz at h;split at h
 ·cases q:F p.b with
  | none=>rw [q] at h;cases h
  | some f=>rw [q] at h;cases h;exact ⟨f,q⟩
 ·cases h
theorem OZ (c:fw n F most) {p w:ah} (a:p.a<n) (b:p.b<n) (h:cD F p=some w):sJ n F w:=by
 refine ⟨vR c p w a b h,λd=>?_⟩;unfold cD at h;split at h
 ·cases q:F p.a with
  | none=>rw [q] at h;cases h
  | some f=>rw [q] at h;cases h;cases d
 ·cases h
theorem O' (c:fw n F most) {p w:ah} (a:p.a<n) (b:p.b<n) (h:cG F p=some w):sJ n F w:=by
 refine ⟨zw c p w a b h,λd=>?_⟩;unfold cG at h;split at h
 ·cases q:F p.b with
  | none=>rw [q] at h;cases h
  | some f=>rw [q] at h;cases h;cases d
 ·cases h
theorem HI {p q w:ah} (a:p.a<n) (b:p.b<n) (c:q.a<n) (d:q.b<n) (h:aR F p q=some w):sJ n F w:=by
 refine ⟨BI p q w a b c d h,λ_=>?_⟩;unfold aR at h;split at h
 ·cases e:F p.b with
  | none=>rw [e] at h;cases h
  | some f=>rw [e] at h;cases h;exact ⟨f,e⟩
 ·cases h
theorem Pc (c:fw n F most) {p w:ah} (a:p.a<n) (b:p.b<n) (h:cy F p=some w):sJ n F w:=by
 refine ⟨z6 c p w a b h,λ_=>?_⟩;unfold cy at h;split at h
 ·cases e:F p.a with
  | none=>rw [e] at h;cases h
  | some o=>
   rw [e] at h;have h:(F p.b).map (λf=>(⟨false,o.1,p.b,min p.v f.2.2-o.2.1⟩:ah))=some w:=h
   cases C:F p.b with
   | none=>rw [C] at h;cases h
   | some f=>rw [C] at h;cases h;exact ⟨f,C⟩
 ·cases h
theorem yw (h:ae st i=some x):a6 f wd i st=put st (f x) wd [i]:=by unfold a6;rw [h];rfl
theorem yy (h:ae st i=some x) (h':ae st j=some y):ai f wd i j st=put st (f x y) wd [i,j]:=by unfold ai;rw [h];show put st ((ae st j).bind λq=>f x q) wd [i,j]=_;rw [h'];rfl
theorem zR {l:List Nat} {i j:Nat} (h:l[i]?=some j):(l.take (i+1)).foldl f st=f ((l.take i).foldl f st) j:=by rw [hX,h,ue];rfl
end MU
open MU (gJ yw zR yy HI Hs)
namespace Y0
open PySem L2
seal L2.PE L2.PA L2.PT L2.PS L2.eZ L2.PG L2.kG L2.PI L2.PO
seal L2.kT L2.gQ L2.gU L2.eL L2.gu L2.gv L2.gT L2.gS L2.dv Y0.aI
section
theorem Ak {at_:Nat} {i:Nat} (a:σ[i]?=some (some (.int (at_:Int)))) (k:∀t,H t=none->R [.ref t] (upd H t (.tup ([at_].map λi:Nat=>V.int (i:Int))))):gZ (uO (gZ (dv i) lC)) lC σ H R:=
 (aa a ⟨cX U,λt b=>k t b⟩)
theorem Al {a b:Nat} {i j:Nat} (c:σ[i]?=some (some (.int (a:Int)))) (d:σ[j]?=some (some (.int (b:Int)))) (k:∀t,H t=none->R [.ref t] (upd H t (.tup ([a,b].map λi:Nat=>V.int (i:Int))))):gZ (uO (gZ (dv i) (gZ (dv j) lC))) lC σ H R:=
 (aa c (aa d ⟨cX U,λt e=>k t e⟩))
theorem qF (hw:word=jc wd) (f:σ[0]?=some (some (.ref p))) (c:eB C H p be rl bd n F st) (g:bz n st)
 (m:∀R:List V->Hp->Prop,(∀t,H t=none->R [.ref t] (upd H t (.tup (us.map λi:Nat=>V.int (i:Int)))))->I σ H R) (q:Paired (λi x=>ae st i=some x) us xs) (d:lE F (jc wd) xs o) (h:st.rows.length<=16500000)
 (k:∀a,eB C a p be rl bd n F (MU.put st o wd us)->cV p rl bd H a->Q .aH a):Bg C "draw" (yF C) [] E (dv 0) (gZ (tC (.str word)) I) σ H Q:=by
 subst hw;obtain ⟨s,j⟩:=c.ins;refine (aa f (jg j (kJ) ?_));refine m _ λt l=>?_;have b:=aK (o:=.tup (us.map λi:Nat=>V.int (i:Int))) l;exact ⟨p,be,rl,bd,t,n,F,st,wd,us,xs,o,U,c.same b,g,ak,q,d,h,λa e r=>k a e ((cV.of b).trans r)⟩
end
theorem eB.apart (c:eB C H p be rl bd n F st) (h:H la=none):la≠p/\la≠rl/\la≠bd:=by obtain ⟨e,b⟩:=c.ins;obtain ⟨g,d,_⟩:=c.rows;obtain ⟨f,a,_⟩:=c.best;exact ⟨aQ (bj b h),aQ (bj d h),aQ (bj a h)⟩
def KG (C:Addr):Sp:=λg H Q _=>∃(p f e d:Addr) (n:Nat) (F:MU.c9) (a:MU.St) (b:Nat) (x:ah),g=[.ref p,.int (b:Int),.int (x.a:Int),.int (x.b:Int)]/\eB C H p f e d n F a/\gJ n F a/\fw n F ((60:Nat):Int)/\ae a b=some x/\x.tie=true/\n<=8/\a.rows.length<=16000000/\
 ∀c,eB C c p f e d n F (d9 n F b x.a x.b a)->gJ n F (d9 n F b x.a x.b a)->cV p e d H c->Q .aH c
def Lw (C:Addr):Sp:=λg H Q _=>∃(p f e d:Addr) (n:Nat) (F:MU.c9) (a:MU.St) (b:Nat) (x:ah),g=[.ref p,.int (b:Int),.int (x.a:Int)]/\eB C H p f e d n F a/\gJ n F a/\fw n F ((60:Nat):Int)/\ae a b=some x/\x.tie=false/\n<=8/\a.rows.length<=16000000/\
 ∀c,eB C c p f e d n F (ef n F b x.a a)->gJ n F (ef n F b x.a a)->cV p e d H c->Q .aH c
section
abbrev WT:List Str:=["self","at","a","b","number"]
theorem Ag:cf WT ē (aT aL):=cH
abbrev WS:List Str:=["self","at","a","number"]
theorem LR:cf WS ę (aT aJ):=cH
theorem iL (F:gq K "draw_from_wait" "Closing.draw_from_wait" aJ f fd) (T:lF K mg C)
 (O:ic K C "draw" fD) (G:fb K tT Č []) (B:au P w K mg base aw 3 fD tT Č (yF C))
 (mZ:ic K C "ties_to" fZ) (bZ:fb K Fo đ []) (GZ:au P w K mg base aw 1 fZ Fo đ (CS C)):au P w K mg base aw 4 f fd ę (Lw C):=by
 refine F.cK LR λ_ x5 _ x9 x7 _ x8 x6 s x2=>?_;obtain ⟨p,Z,Q,H,n,c,st,d,x,rfl,x1,S,hF,k,t,h8,hlen,x3⟩:=x2;have jj:cI 1 _:=s.mono (by decide);refine ⟨_,bp (fH (ig (pv 0) T.cl O B s G .nil fy (a_ dJ (cE (bY (pv 1))))))
  (bp (fH (ig (pv 0) T.cl O B s G .nil fy (a_ dJ (cE (bY (pv 1))))))
  (a0 (g_ gB U (gy (ig (pv 0) T.cl mZ GZ jj bZ .nil fy (bY (pv 2)))) (bO 3 LR.nd)
   (a0 (fH (ig (pv 0) T.cl O B s G .nil fy (a_ dJ (cE (a_ (pv 1) (pv 3)))))))))),?_⟩
 obtain ⟨V,W⟩:=S.good.lt _ _ k;obtain ⟨J,M⟩:=S.ends _ _ k t;have d1:a6 (cG c) .sure d st=MU.put st (cG c x) .sure [d]:=yw k;have Y:gJ n c (MU.put st (cG c x) .sure [d]):=S.put λw e=>MU.O' hF V W e;have N:ae (MU.put st (cG c x) .sure [d]) d=some x:=br (og _ _ _ _) k;have l1:=MU.eS st (cG c x) .sure [d];have goal:ef n c d x.a st=(cO n (a6 (cy c) .ao d (a6 (cG c) .sure d st)) x.a).foldl (λst j=>ai (aR c) .back d j st) (a6 (cy c) .ao d (a6 (cG c) .sure d st)):=U;rw [d1] at goal;refine λN1 c1=>qF (wd:=.sure) U U x1 S.good (λR z=>Ak U z) (.cons k .nil) (.sure x J t M) (by lia) λH1 C1 k1=>c1 _ _ ?_;generalize MU.put st (cG c x) .sure [d]=I at*;clear c1 N1;have d2:a6 (cy c) .ao d I=MU.put I (cy c x) .ao [d]:=yw N;have E:gJ n c (MU.put I (cy c x) .ao [d]):=Y.put λw e=>MU.Pc hF V W e;have uS:ae (MU.put I (cy c x) .ao [d]) d=some x:=br (og _ _ _ _) N;have l2:=MU.eS I (cy c x) .ao [d];rw [d2] at goal;refine λN2 c2=>qF (wd:=.ao) U U C1 Y.good (λR z=>Ak U z) (.cons N .nil) (.ao x J t M) (by lia) λH2 m k2=>c2 _ _ ?_;generalize MU.put I (cy c x) .ao [d]=o at*;clear c2 N2;have Xw:=k1.trans k2;obtain ⟨dx,hp⟩:=m.ins;refine (aa U (jg hp (kJ) (aa U ⟨p,Z,Q,H,n,c,o,x.a,U,m,h8,λla H3 Yc s3 e3=>?_⟩)));obtain ⟨n1,n2,n3⟩:=m.apart Yc;have C3:=m.same s3;refine ⟨la,U,⟨_,a5.of e3⟩,?_⟩;have nh:∀j∈cO n o x.a,∃y,ae o j=some y/\y.tie=true/\y.a<n/\y.b<n:=λj hj=>by obtain ⟨cc,_,hb⟩:=zX hj;obtain ⟨y,g,hk⟩:=E.good.at_ _ _ hb;obtain ⟨q1,_⟩:=gc hk;exact ⟨y,g,q1,E.good.lt _ _ g⟩
 have tl:=zW (n:=n) (st:=o) (b:=x.a);generalize cO n o x.a=L at*;refine j0 (K:=K) (a:=la) (xs:=ee L) (λi A X=>∃v,A=[some (.ref p),some (.int (d:Int)),some (.int (x.a:Int)),v]/\eB C X p Z Q H n c ((L.take i).foldl (λst j=>ai (aR c) .back d j st) o)/\gJ n c ((L.take i).foldl (λst j=>ai (aR c) .back d j st) o)/\Ext o ((L.take i).foldl (λst j=>ai (aR c) .back d j st) o)/\cV p Q H H3 X) ⟨none,U,C3,E,Ext.refl _,cV.of (ay.refl _)⟩ ?_ ?_ ?_
 ·rintro i A D _ ⟨v,rfl,_,_,_,l⟩;exact a5.of (l _ _ e3 n1 n2 n3)
 ·rintro i y A D g ⟨v,rfl,r,h,u,l⟩;unfold ee at g;rw [dC] at g
  cases q:L[i]? with
  | none=>rw [q] at g;cases g
  | some j=>
   rw [q] at g;cases g;obtain ⟨y,tH,yt,ya,yb⟩:=nh j (fg q);have fl:=mr (f:=λst j=>ai (aR c) .back d j st) (λ_ _=>MU.eS _ _ _ _) (L.take i) o;rw [fU] at fl;rw [zR q];have M_:=br u uS;have MZ:=br u tH;have e4:ai (aR c) .back d j ((L.take i).foldl (λst j=>ai (aR c) .back d j st) o)=MU.put ((L.take i).foldl (λst j=>ai (aR c) .back d j st) o) (aR c x y) .back [d,j]:=yy M_ MZ;rw [e4];generalize (L.take i).foldl (λst j=>ai (aR c) .back d j st) o=bS at*;refine qF (wd:=.back) U U r h.good (λR z=>Al U U z) (.cons M_ (.cons MZ .nil)) (.back x y J t yt M) (by lia) λH5 C5 k5=>⟨_,U,C5,h.put λw e=>HI V W ya yb e,u.trans (og _ _ _ _),l.trans k5⟩
 ·rintro A D ⟨v,rfl,r,h,u,l⟩;have dr:L.take (ee L).length=L:=by unfold ee;rw [ax];exact gC
  rw [dr,<-goal] at r h;exact x3 D r h ((Xw.trans (cV.of s3)).trans l)
end
section
theorem j9 (F:gq K "draw_from_tie" "Closing.draw_from_tie" aL f fd) (T:lF K mg C)
 (mD:ic K C "draw" fD) (bD:fb K tT Č []) (GD:au P w K mg base aw 3 fD tT Č (yF C))
 (mZ:ic K C "ties_to" fZ) (bZ:fb K Fo đ []) (GZ:au P w K mg base aw 1 fZ Fo đ (CS C))
 (mK:ic K C "known_of" fK) (bK:fb K Fs Ď []) (GK:au P w K mg base aw 1 fK Fs Ď (Iq C)):au P w K mg base aw 4 f fd ē (KG C):=by
 refine F.cK Ag λ_ x9 _ CV px _ CY kR hr x7=>?_;obtain ⟨p,Z,D,A,n,d,b,c,x,rfl,x6,x5,hF,hx,ht,h8,hlen,x8⟩:=x7;have jj:cI 1 _:=hr.mono (by decide);refine ⟨_,bp (fH (ig (pv 0) T.cl mD GD hr bD .nil fy (a_ dJ (cE (bY (pv 1))))))
  (bp (fH (ig (pv 0) T.cl mD GD hr bD .nil fy (a_ dJ (cE (bY (pv 1))))))
  (bp (g_ gB U (gy (ig (pv 0) T.cl mK GK jj bK .nil fy (a_ dJ (pv 3)))) (bO 4 Ag.nd)
   (a0 (fH (ig (pv 0) T.cl mD GD hr bD .nil fy (a_ dJ (cE (a_ (pv 1) (pv 4))))))))
  (bp (g_ gB U (gy (ig (pv 0) T.cl mZ GZ jj bZ .nil fy (bY (pv 2)))) (bO 4 Ag.nd)
   (a0 (fH (ig (pv 0) T.cl mD GD hr bD .nil fy (a_ dJ (cE (a_ (pv 4) (pv 1))))))))
  (a0 (g_ gB U (gy (ig (pv 0) T.cl mK GK jj bK .nil fy (a_ dJ (pv 3)))) (bO 4 Ag.nd)
   (a0 (fH (ig (pv 0) T.cl mD GD hr bD .nil fy (a_ dJ (cE (a_ (pv 4) (pv 1)))))))))))),?_⟩
 obtain ⟨xa,xb⟩:=x5.good.lt _ _ hx;have d1:a6 (cz d) .a3 c b=MU.put b (cz d x) .a3 [c]:=yw hx;have S1:gJ n d (MU.put b (cz d x) .a3 [c]):=x5.put λw e=>MU.V5 xa xb e;have wK:ae (MU.put b (cz d x) .a3 [c]) c=some x:=br (og _ _ _ _) hx;have l1:=MU.eS b (cz d x) .a3 [c];generalize iP:d9 n d c x.a x.b b=fin at*;unfold d9 at iP;dsimp only at iP;rw [d1] at iP;refine λN1 c1=>qF (wd:=.a3) U U x6 x5.good (λx3 z=>Ak U z) (.cons hx .nil) (.a3 x ht) (by lia) λH1 C1 k1=>c1 _ _ ?_;generalize MU.put b (cz d x) .a3 [c]=il at*;clear c1 N1;have d2:a6 (cD d) .aS c il=MU.put il (cD d x) .aS [c]:=yw wK;have S2:gJ n d (MU.put il (cD d x) .aS [c]):=S1.put λw e=>MU.OZ hF xa xb e;have uS:ae (MU.put il (cD d x) .aS [c]) c=some x:=br (og _ _ _ _) wK;have l2:=MU.eS il (cD d x) .aS [c];rw [d2] at iP;refine λN2 c2=>qF (wd:=.aS) U U C1 S1.good (λx3 z=>Ak U z) (.cons wK .nil) (.aS x ht) (by lia) λH2 C2 k2=>c2 _ _ ?_;generalize MU.put il (cD d x) .aS [c]=o at*;clear c2 N2;have kA:=k1.trans k2;clear k1 k2;have v4:∃v:Option V,(none:Option V)=v:=⟨_,U⟩;obtain ⟨_,_⟩:=v4;refine λN3 c3=>?_;obtain ⟨dx,S⟩:=C2.ins;refine (aa U (jg S (kJ) (aa U ⟨p,Z,D,A,n,d,o,true,x.b,U,C2,h8,λM H3 Q t s=>?_⟩)));obtain ⟨W,X,Y⟩:=C2.apart Q;have N:=C2.same t;refine ⟨M,U,⟨_,a5.of s⟩,?_⟩;have R:∀j∈cq n o true x.b,∃y,ae o j=some y/\y.tie=true/\y.a<n/\y.b<n:=λj hj=>by obtain ⟨cc,_,hb⟩:=Cr hj;obtain ⟨y,g,hk⟩:=S2.good.at_ _ _ hb;obtain ⟨q1,_⟩:=gc hk;exact ⟨y,g,q1,S2.good.lt _ _ g⟩
 have tl:(cq n o true x.b).length<=n:=zD;generalize cq n o true x.b=L at*;refine j0 (K:=K) (a:=M) (xs:=ee L) (λi k G=>∃v,k=[some (.ref p),some (.int (c:Int)),some (.int (x.a:Int)),some (.int (x.b:Int)),v]/\eB C G p Z D A n d ((L.take i).foldl (λb j=>ai av .sum c j b) o)/\gJ n d ((L.take i).foldl (λb j=>ai av .sum c j b) o)/\Ext o ((L.take i).foldl (λb j=>ai av .sum c j b) o)/\cV p D A H3 G) ⟨_,U,N,S2,Ext.refl _,cV.of (ay.refl _)⟩ ?_ ?_ ?_
 ·rintro i k u _ ⟨v,rfl,_,_,_,h⟩;exact a5.of (h _ _ s W X Y)
 ·rintro i y k u g ⟨v,rfl,E,l,m,h⟩;unfold ee at g;rw [dC] at g
  cases q:L[i]? with
  | none=>rw [q] at g;cases g
  | some j=>
   rw [q] at g;cases g;obtain ⟨y,tH,yt,_,yb⟩:=R j (fg q);have fl:=mr (f:=λb j=>ai av .sum c j b) (λ_ _=>MU.eS _ _ _ _) (L.take i) o;rw [fU] at fl;rw [zR q];have H:=br m uS;have B:=br m tH;have e4:ai av .sum c j ((L.take i).foldl (λb j=>ai av .sum c j b) o)=MU.put ((L.take i).foldl (λb j=>ai av .sum c j b) o) (av x y) .sum [c,j]:=yy H B;rw [e4];generalize (L.take i).foldl (λb j=>ai av .sum c j b) o=bS at*;refine qF (wd:=.sum) U U E l.good (λx3 z=>Al U U z) (.cons H (.cons B .nil)) (.sum x y ht yt) (by lia) λH5 r k5=>⟨_,U,r,l.put λw e=>Hs xa yb e,m.trans (og _ _ _ _),h.trans k5⟩
 rintro k u ⟨v1,rfl,r,S5,x1,h⟩;have O:L.take (ee L).length=L:=by unfold ee;rw [ax];exact gC
 rw [O] at r S5 x1;refine c3 _ _ ?_;have kB:=(kA.trans (cV.of t)).trans h;have Na:=br x1 uS;have Xf:(L.foldl (λb j=>ai av .sum c j b) o).rows.length<=b.rows.length+(2+1*n):=by have:=mr (f:=λb j=>ai av .sum c j b) (λ_ _=>MU.eS _ _ _ _) L o;lia
 generalize L.foldl (λb j=>ai av .sum c j b) o=I at*;clear R tl s W X Y N Q t h O x1 S c3 N3;refine λN4 c4=>?_;obtain ⟨dx,S⟩:=r.ins;refine (aa U (jg S (kJ) (aa U ⟨p,Z,D,A,n,d,I,x.a,U,r,h8,λM H3 Q t s=>?_⟩)));obtain ⟨W,X,Y⟩:=r.apart Q;have N:=r.same t;refine ⟨M,U,⟨_,a5.of s⟩,?_⟩;have R:∀j∈cO n I x.a,∃y,ae I j=some y/\y.tie=true/\y.a<n/\y.b<n:=λj hj=>by obtain ⟨cc,_,hb⟩:=zX hj;obtain ⟨y,g,hk⟩:=S5.good.at_ _ _ hb;obtain ⟨q1,_⟩:=gc hk;exact ⟨y,g,q1,S5.good.lt _ _ g⟩
 have tl:(cO n I x.a).length<=n:=zW;generalize cO n I x.a=L at*;refine j0 (K:=K) (a:=M) (xs:=ee L) (λi k G=>∃v,k=[some (.ref p),some (.int (c:Int)),some (.int (x.a:Int)),some (.int (x.b:Int)),v]/\eB C G p Z D A n d ((L.take i).foldl (λb j=>ai av .sum j c b) I)/\gJ n d ((L.take i).foldl (λb j=>ai av .sum j c b) I)/\Ext I ((L.take i).foldl (λb j=>ai av .sum j c b) I)/\cV p D A H3 G) ⟨_,U,N,S5,Ext.refl _,cV.of (ay.refl _)⟩ ?_ ?_ ?_
 ·rintro i k u _ ⟨v,rfl,_,_,_,h⟩;exact a5.of (h _ _ s W X Y)
 ·rintro i y k u g ⟨v,rfl,E,l,m,h⟩;unfold ee at g;rw [dC] at g
  cases q:L[i]? with
  | none=>rw [q] at g;cases g
  | some j=>
   rw [q] at g;cases g;obtain ⟨y,tH,yt,ya,_⟩:=R j (fg q);have fl:=mr (f:=λb j=>ai av .sum j c b) (λ_ _=>MU.eS _ _ _ _) (L.take i) I;rw [fU] at fl;rw [zR q];have H:=br m Na;have B:=br m tH;have e4:ai av .sum j c ((L.take i).foldl (λb j=>ai av .sum j c b) I)=MU.put ((L.take i).foldl (λb j=>ai av .sum j c b) I) (av y x) .sum [j,c]:=yy B H;rw [e4];generalize (L.take i).foldl (λb j=>ai av .sum j c b) I=bS at*;refine qF (wd:=.sum) U U E l.good (λx3 z=>Al U U z) (.cons B (.cons H .nil)) (.sum y x yt ht) (by lia) λH5 r k5=>⟨_,U,r,l.put λw e=>Hs ya xb e,m.trans (og _ _ _ _),h.trans k5⟩
 rintro k u ⟨v2,rfl,C6,S6,x2,h⟩;have O:L.take (ee L).length=L:=by unfold ee;rw [ax];exact gC
 rw [O] at C6 S6 x2;refine c4 _ _ ?_;have kC:=(kB.trans (cV.of t)).trans h;have DG:=br x2 Na;have Xe:(L.foldl (λb j=>ai av .sum j c b) I).rows.length<=b.rows.length+(2+2*n):=by have:=mr (f:=λb j=>ai av .sum j c b) (λ_ _=>MU.eS _ _ _ _) L I;lia
 generalize L.foldl (λb j=>ai av .sum j c b) I=J at*;clear R tl s W X Y N Q t h O x2 S c4 N4;obtain ⟨dx,S⟩:=C6.ins;refine (aa U (jg S (kJ) (aa U ⟨p,Z,D,A,n,d,J,false,x.b,U,C6,h8,λM H3 Q t s=>?_⟩)));obtain ⟨W,X,Y⟩:=C6.apart Q;have N:=C6.same t;refine ⟨M,U,⟨_,a5.of s⟩,?_⟩;have R:∀j∈cq n J false x.b,∃y,ae J j=some y/\y.tie=false/\y.a<n/\y.b<n:=λj hj=>by obtain ⟨cc,_,hb⟩:=Cr hj;obtain ⟨y,g,hk⟩:=S6.good.at_ _ _ hb;obtain ⟨q1,_⟩:=gc hk;exact ⟨y,g,q1,S6.good.lt _ _ g⟩
 have tl:(cq n J false x.b).length<=n:=zD;generalize cq n J false x.b=L at*;refine j0 (K:=K) (a:=M) (xs:=ee L) (λi k G=>∃v,k=[some (.ref p),some (.int (c:Int)),some (.int (x.a:Int)),some (.int (x.b:Int)),v]/\eB C G p Z D A n d ((L.take i).foldl (λb j=>ai (aR d) .back j c b) J)/\gJ n d ((L.take i).foldl (λb j=>ai (aR d) .back j c b) J)/\Ext J ((L.take i).foldl (λb j=>ai (aR d) .back j c b) J)/\cV p D A H3 G) ⟨_,U,N,S6,Ext.refl _,cV.of (ay.refl _)⟩ ?_ ?_ ?_
 ·rintro i k u _ ⟨v,rfl,_,_,_,h⟩;exact a5.of (h _ _ s W X Y)
 ·rintro i y k u g ⟨v,rfl,E,l,m,h⟩;unfold ee at g;rw [dC] at g
  cases q:L[i]? with
  | none=>rw [q] at g;cases g
  | some j=>
   rw [q] at g;cases g;obtain ⟨y,tH,yt,ya,yb⟩:=R j (fg q);have fl:=mr (f:=λb j=>ai (aR d) .back j c b) (λ_ _=>MU.eS _ _ _ _) (L.take i) J;rw [fU] at fl;rw [zR q];have H:=br m DG;have B:=br m tH;have e4:ai (aR d) .back j c ((L.take i).foldl (λb j=>ai (aR d) .back j c b) J)=MU.put ((L.take i).foldl (λb j=>ai (aR d) .back j c b) J) ((aR d) y x) .back [j,c]:=yy B H;rw [e4];obtain ⟨yf,X3⟩:=l.ends _ _ B yt;generalize (L.take i).foldl (λb j=>ai (aR d) .back j c b) J=bS at*;refine qF (wd:=.back) U U E l.good (λx3 z=>Al U U z) (.cons B (.cons H .nil)) (.back y x yf yt ht X3) (by lia) λH5 r k5=>⟨_,U,r,l.put λw e=>HI ya yb xa xb e,m.trans (og _ _ _ _),h.trans k5⟩
 ·rintro k u ⟨v,rfl,E,l,m,h⟩;have O:L.take (ee L).length=L:=by unfold ee;rw [ax];exact gC
  rw [O,iP] at E l;exact x8 u E l ((kC.trans (cV.of t)).trans h)
end
structure vu (n:Nat) (F:MU.c9) (s0:MU.St) (T:Nat):Prop where
 end_:(MU.run n F s0 T).rows.length<=T\/(MU.run n F s0 T).bar≠none
 first:∀t,t<T->t<(MU.run n F s0 t).rows.length/\(MU.run n F s0 t).bar=none
 ny:∀t,t<=T->(MU.run n F s0 t).rows.length<=16000000
def Mo (C:Addr):Sp:=λf H Q _=>∃(p e d c:Addr) (n:Nat) (F:MU.c9) (a:MU.St) (T:Nat),f=[.ref p]/\eB C H p e d c n F a/\gJ n F a/\fw n F ((60:Nat):Int)/\n<=8/\vu n F a T/\
 ∀b,eB C b p e d c n F (MU.run n F a T)->gJ n F (MU.run n F a T)->cV p d c H b->Q .aH b
section
theorem Ad:cf ["self","at","what"] č (aT bq):=cH
theorem jB (F:gq K "draw_all" "Closing.draw_all" bq f fd) (T:lF K mg C)
 (mT:ic K C "draw_from_tie" fT) (bT:fb K qf ē []) (GT:au P w K mg base aw 4 fT qf ē (KG C))
 (mW:ic K C "draw_from_wait" fW) (bW:fb K Fp ę []) (GW:au P w K mg base aw 4 fW Fp ę (Lw C)):au P w K mg base aw 5 f fd č (Mo C):=by
 refine F.cK Ad λ_ x7 _ kR H _ x2 x8 W x5=>?_;obtain ⟨p,u,h,g,n,a,c,Te,rfl,x4,x3,hF,h8,R,k⟩:=x5;have hu:=jt W;refine ⟨_,bp (bR 1 Ad.nd az)
  (a0 (Py gB (PW.pt (lK (cR oU (pv 1) (j4 wo (by rfl) T.len PySem.boot_len (bY (fJ (pv 0) U)))) (nZ (cR yK (fJ (pv 0) U) jw))))
   (bp (bR 2 Ad.nd (aF (dE gd (fJ (pv 0) U) (pv 1))))
   (bp (o_ (cS (cR fc (jT hu (fJ (pv 0) U) (mu vE (pv 2) mi (mj az)) (λ_ _=>rfl)) (pv 1))
    (a0 (cS (cR fc (aF (pv 2)) dJ)
     (a0 (fH (ig (pv 0) T.cl mT GT W bT .nil fy (eM (pv 1) (aF (pv 2)) (aF (pv 2))))))
     (a0 (fH (ig (pv 0) T.cl mW GW W bW .nil fy (a_ (pv 1) (aF (pv 2)))))))) de))
   (a0 (Bw (i:=1) Ad.nd U (Or.inl U) az Bo)))))),?_⟩
 refine λN1 c1=>c1 _ _ ?_;refine ⟨λm l d=>∃t v,t+m=Te/\l=[some (.ref p),some (.int (t:Int)),v]/\eB C d p u h g n a (MU.run n a c t)/\gJ n a (MU.run n a c t)/\cV p h g H d,⟨Te,0,none,by lia,U,x4,x3,cV.of (ay.refl _)⟩,?_⟩;rintro m l H1 ⟨t,v,Ö,rfl,r,s,k1⟩;obtain ⟨dx,B⟩:=r.ins;obtain ⟨qs,ji,b5⟩:=r.rows;obtain ⟨kvs,EX,wZ,lq⟩:=r.best;have DQ:qs.length=(MU.run n a c t).rows.length:=i4 b5;refine (aa U (aa U (ek B T.cl T.nR pe ⟨h,_,U,.inl (a5.of ji),ri (ct ?_)⟩)));rw [ax,DQ];have nz:∀b,(MU.run n a c t).rows.length<=t\/(MU.run n a c t).bar≠none->b=false->if b=true then (∃x1:L2.St->Hp->Prop,(∀l d,x1 l d->∃M,M<m/\∃t v,t+M=Te/\l=[some (.ref p),some (.int (t:Int)),v]/\eB C d p u h g n a (MU.run n a c t)/\gJ n a (MU.run n a c t)/\cV p h g H d)/\False) else x2 .aH H1:=λb tJ A=>by
  have e:t=Te:=eO λz=>by
   have:=R.first t (by lia);rcases tJ with y | y
   ·exact vW this.1 y
   ·exact y this.2
  rw [if_neg (by rw [A];decide)];rw [e] at r s;exact k H1 r s k1
 by_cases O:t<(MU.run n a c t).rows.length
 ·refine gE (Cc O) (aa U (ek B T.cl T.nX yu ⟨U,ct ?_⟩));rw [HJ]
  by_cases A:(MU.run n a c t).bar=none
  ·refine gE A ?_;have XE:t<Te:=eO λz=>by
    have e:t=Te:=by lia
    rcases R.end_ with y | y
    ·rw [<-e] at y;exact vW O y
    ·rw [<-e] at y;exact y A
   refine ⟨λl d=>∃M,M<m/\∃t v,t+M=Te/\l=[some (.ref p),some (.int (t:Int)),v]/\eB C d p u h g n a (MU.run n a c t)/\gJ n a (MU.run n a c t)/\cV p h g H d,λl d z=>z,?_⟩;obtain ⟨x,q⟩:∃x,ae (MU.run n a c t) t=some x:=⟨_,by unfold ae;rw [gp O];rfl⟩;obtain ⟨q',x9,N,pu,g1,_,_,g4,I,_⟩:=yU b5 q;have o5:gI (qs.map V.ref) (t:Int)=some (.ref q'):=iB (by rw [dC,g1];rfl);refine λN2 c2=>(aa U (ek B T.cl T.nR pe (uJ U ji o5 (aE g4 U (c2 _ _ ?_)))));clear c2 N2;refine λN3 c3=>⟨λl d=>l=[some (.ref p),some (.int (t:Int)),some (.ref N)]/\eB C d p u h g n a (MU.run n a c (t+1))/\gJ n a (MU.run n a c (t+1))/\cV p h g H1 d,?_,?_⟩
   ·refine (aa U (ek B T.cl T.nE nY (aa U ⟨_,U,N,_,U,bU.of I,Br,λX EL=>?_⟩)));rw [CB];have j:=aK (o:=.tup ((bE x.key).map kV)) EL;have e3:upd H1 X (.tup ((bE x.key).map kV)) X=some (.tup ((bE x.key).map kV)):=ak;generalize upd H1 X (.tup ((bE x.key).map kV))=H3 at*;obtain ⟨x6,_,J⟩:=s.good.top t x q;have dg:=ea.t (k:=bE x.key) (j _ _ EX) e3;rw [lq,J] at dg;have Q:=r.same j;have ny:=R.ny t (by exact aP XE);have S:MU.run n a c (t+1)=MU.look n a t (MU.run n a c t):=U;refine ⟨g,_,U,dg,aa U ⟨U,ct ?_⟩⟩;rw [oM]
    by_cases e:x6=t
    ·rw [e] at J;refine gE e (aa U (aE (j _ _ I) U ⟨U,ct ?_⟩));rw [zh]
     cases ht:x.tie with
     | true=>
      have G:=MU.zi (n:=n) (F:=a) q ht U U (by rw [<-J];unfold ah.key;rw [ht]);rw [S,G];refine fx (aa U (jg (j _ _ B) (kJ) (aa U (aa U (aE (j _ _ I) U (aa U (aE (j _ _ I) U ?_)))))));exact ⟨p,u,h,g,n,a,_,t,x,U,Q,s,hF,q,ht,h8,ny,λY D E L=>⟨U,D,E,(cV.of j).trans L⟩⟩
     | false=>
      have G:=MU.Cs (n:=n) (F:=a) q ht J;rw [S,G];refine du (aa U (jg (j _ _ B) (kJ) (aa U (aa U (aE (j _ _ I) U ?_)))));exact ⟨p,u,h,g,n,a,_,t,x,U,Q,s,hF,q,ht,h8,ny,λY D E L=>⟨U,D,E,(cV.of j).trans L⟩⟩
    ·have G:=MU.KR (n:=n) (F:=a) q (by rw [J];exact λz=>e (dG z));rw [S,G];exact iG e ⟨U,Q,s,cV.of j⟩
   ·rintro l Y ⟨rfl,D,E,L⟩;refine c3 _ _ ⟨_,U,_,_,U,U,m-1,by lia,t+1,some (.ref N),by lia,?_,D,E,k1.trans L⟩;show [some (V.ref p),some (V.int ((t:Int)+1)),some (V.ref N)]=[some (V.ref p),some (V.int ((t+1:Nat):Int)),some (V.ref N)];rfl
  ·have:=nz false (.inr A) U;exact iG A this
 ·have:=nz false (.inl (mq O)) U;exact iG (by lia) (du this)
end
end Y0
namespace MU
def empty:St:=⟨[],λ_=>none,none⟩
def ja (rows:List ah) (st:St):St:=rows.foldl (λst w=>take st w .told []) st
theorem Cu:bz n empty:=by
 have a:∀i w,ae empty i≠some w:=λi w h=>by unfold ae empty at h;simp at h
 exact ⟨λk i h=>(nomatch h),λi w h=>absurd h (a i w),λi w h=>absurd h (a i w),λ_ i w h=>absurd h (a i w),λ_ i j w b h=>absurd h (a i w)⟩
def CI (n:Nat) (w:ah):Prop:=w.a<n/\w.b<n/\w.tie=true
theorem zV:∀(rows:List ah) (st:St),bz n st->(∀w∈rows,CI n w)->bz n (ja rows st)
 | [],_,g,_=>g
 | w::r,st,g,h=>zV r _ (KO g (h w dB).1 (h w dB).2.1 λz=>by rw [(h w dB).2.2] at z;cases z) λb a=>h b (eI _ a)
theorem K_:∀(rows:List ah) (st:St),Imp st (ja rows st)
 | [],st=>Imp.refl st
 | w::r,st=>(JN st w _ _).trans (K_ r _)
theorem Cn:∀(rows:List ah) (st:St),(ja rows st).rows.length<=st.rows.length+rows.length
 | [],st=>aj _
 | w::r,st=>by have b:=Cn r (take st w .told []);have a:=eS st (some w) .told [];have a:(take st w .told []).rows.length<=st.rows.length+1:=a;rw [jl];show (ja r (take st w .told [])).rows.length<=_;exact Cf b a
theorem Cy:∀(rows:List ah) (st:St),(∀i w,ae st i=some w->w.tie=true)->(∀w∈rows,CI n w)->∀i w,ae (ja rows st) i=some w->w.tie=true
 | [],_,h,_=>h
 | w::r,st,h,c=>Cy r _ (λi u b=>by
  by_cases a:i<st.rows.length
  ·exact h i u (oo (vS _ _ _ _) a b)
  ·exact JM (C:=λu=>u.tie=true) (c w dB).2.2 i u (by exact jm a) b) λe d=>c e (eI _ d)
theorem zY:∀(rows:List ah) (st:St) (w:ah),w∈rows->w.a≠w.b->∃u,val (ja rows st) w.key=some u/\¬dh w.tie w.v u
 | [],_,w,h,_=>nomatch h
 | x::r,st,w,h,a=>by
  rcases eG.mp h with e | h
  ·subst e;obtain ⟨u,b,d⟩:=zU (st:=st) (w:=w) (word:=.told) (used:=[]) a;obtain ⟨g,c,f⟩:=(K_ r (take st w .told [])).2 w.key u a b;exact ⟨g,c,C7 d f⟩
  ·exact zY r _ w h a
theorem Lk:∀i w,ae empty i=some w->w.tie=true:=λi w h=>by unfold ae empty at h;simp at h
theorem V8 (g:bz n st) (h:∀i w,ae st i=some w->w.tie=true) (a b:Nat):val st (false,a,b)=none:=by
 unfold val
 cases q:st.best (false,a,b) with
 | none=>rfl
 | some i=>
  obtain ⟨w,d,c⟩:=g.at_ _ _ q;have:=h i w d;have e:=(gc c).1;rw [this] at e;cases e
end MU
open MU (ja empty zV Cu Cy Lk Cn zY)
namespace Y0
open PySem L2
seal L2.PE L2.PA L2.PT L2.PS L2.eZ L2.PG L2.kG L2.PI L2.PO
seal L2.kT L2.gQ L2.gU L2.eL L2.gu L2.gv L2.gT L2.gS L2.dv Y0.aI
def eJ:List Int->ah
 | [a,b,v]=>⟨true,a.toNat,b.toNat,v⟩
 | _=>⟨true,0,0,0⟩
def Ab (n:Int) (rows:List (List Int)):Prop:=∀r∈rows,∃a b v:Int,r=[a,b,v]/\0<=a/\a<n/\0<=b/\b<n/\a≠b
theorem K9:∀{k:Nat} {n:Int},(k:Int)+1<=n->Ab n (gN la k)
 | 0,_,_=>λr a=>nomatch a
 | k+1,n,h=>λr a=>by
  unfold gN at a;rcases fe.mp a with a | a
  ·exact K9 (k:=k) (by exact eA h) r a
  ·rcases eG.mp a with rfl | a
   ·exact ⟨0,(k:Int)+1,la,U,by exact jJ (0+0),by lia,by exact jJ (k+1+0),by exact h,by lia⟩
   ·rw [dF.mp a];exact ⟨(k:Int)+1,0,0,U,by exact jJ (k+1+0),by exact h,by exact jJ (0+0),by lia,by lia⟩
theorem KI (h:∀r∈rows,∃a b l m:Int,r=[a,b,l,m]/\0<=a/\a<n/\0<=b/\b<n/\a≠b):Ab n (gb rows):=λr j=>by
 unfold gb at j;obtain ⟨x,k,c⟩:=List.mem_flatten.mp j;obtain ⟨y,o,rfl⟩:=cn.mp k;obtain ⟨a,b,l,m,rfl,d,e,f,g,i⟩:=h y o;rcases eG.mp c with rfl | c
 ·exact ⟨a,b,m,U,d,e,f,g,i⟩
 ·rw [dF.mp c];exact ⟨b,a,-l,U,f,g,d,e,aQ i⟩
theorem cT.ir (h:cT n la T F):Ab n (cU n la T F):=λr c=>by
 unfold cU at c;have k:=h.n1;rcases fe.mp c with c | c
 ·rcases fe.mp c with c | c
  ·exact K9 (by omega) r c
  ·exact KI (λr c=>by obtain ⟨a,b,l,m,e,d,f,g,i,j,_⟩:=h.t r c;exact ⟨a,b,l,m,e,d,f,g,i,j⟩) r c
 ·exact KI (λr c=>by obtain ⟨a,b,l,m,e,d,f,g,i,j,_⟩:=h.f r c;exact ⟨a,b,l,m,e,d,f,by exact eA g,i,j⟩) r c
theorem Lg (h:cT n la T F):(cU n la T F).length<=100:=by unfold cU;rw [ff,ff,sG,sH h.ko,sH h.iQ];have:=h.tl;have:=h.fl;have:=h.n2;lia
def jP (n la:Int) (T F:List (List Int)):MU.St:=ja ((cU n la T F).map eJ) empty
theorem rK {n:Nat} {rows:List (List Int)} (h:Ab (n:Int) rows):∀w∈rows.map eJ,MU.CI n w:=λw f=>by obtain ⟨r,e,rfl⟩:=cn.mp f;obtain ⟨a,b,v,rfl,c,d,_,g,_⟩:=h r e;exact ⟨by show a.toNat<n;exact Qn c d,by show b.toNat<n;lia,U⟩
theorem Cj {n:Nat} {la:Int} {T F:List (List Int)} (h:cT (n:Int) la T F):gJ n (bw F) (jP n la T F):=by have g:=zV ((cU (n:Int) la T F).map eJ) empty Cu (rK h.ir);refine ⟨g,λi w b a=>?_⟩;have:=Cy (n:=n) _ _ Lk (rK h.ir) i w b;rw [a] at this;cases this
theorem BX:∀{k:Nat},i<k->[0,(i:Int)+1,la]∈gN la k/\[(i:Int)+1,0,0]∈gN la k
 | 0,h=>absurd h (lU _)
 | k+1,h=>by
  unfold gN
  by_cases e:i=k
  ·subst e;exact ⟨i5 _ dB,i5 _ (eI _ dB)⟩
  ·obtain ⟨a,b⟩:=BX (la:=la) (i:=i) (k:=k) (sr h e);exact ⟨h_ _ a,h_ _ b⟩
theorem Rh {n:Nat} {la:Int} {T F:List (List Int)} (h:cT (n:Int) la T F) (B:la<=60):∃Te,vu n (bw F) (jP n la T F) Te:=by
 have g:=zV ((cU (n:Int) la T F).map eJ) empty Cu (rK h.ir);have s:=Cy (n:=n) _ _ Lk (rK h.ir);have D:=h.n1;have r:=h.n2;have a:=Cn ((cU (n:Int) la T F).map eJ) empty;have C:=Lg h;rw [ax] at a;have a:(jP n la T F).rows.length<=0+(cU (n:Int) la T F).length:=a;have t:∀i,0<i->i<n->(∃v,v<=((60:Nat):Int)/\MU.val (jP n la T F) (true,0,i)=some v)/\∃v,v<=0/\MU.val (jP n la T F) (true,i,0)=some v:=λi m A=>by
  have o:i-1<((n:Int)-1).toNat:=by lia
  obtain ⟨c,d⟩:=BX (la:=la) o;have l:((i-1:Nat):Int)+1=(i:Int):=by lia
  rw [l] at c d;have p:(⟨true,0,i,la⟩:ah)∈(cU (n:Int) la T F).map eJ:=cn.mpr ⟨_,h_ _ (h_ _ c),U⟩;have q:(⟨true,i,0,0⟩:ah)∈(cU (n:Int) la T F).map eJ:=cn.mpr ⟨_,h_ _ (h_ _ d),U⟩;obtain ⟨u,y,e⟩:=zY _ empty _ p (by show 0≠i;lia);obtain ⟨x,z,b⟩:=zY _ empty _ q (by show i≠0;exact vf m);unfold dh at e b;simp at e b;exact ⟨⟨u,by lia,y⟩,⟨x,b,z⟩⟩
 obtain ⟨Te,f,j,k⟩:=MU.RL (n:=n) (F:=bw F) (s0:=jP n la T F) (zL r) h.iC g t (MU.V8 g s) (by lia);exact ⟨Te,f,j,k⟩
def Im (C g:Addr):Sp:=λi H Q _=>∃(p f h:Addr) (n:Nat) (b:Int) (T F:List (List Int)),i=[.ref p,.ref f]/\H p=some (.ins C h [])/\jN g H f (n:Int) b T F/\cT (n:Int) b T F/\
 ∀a d e c,eB C a p d e c n (bw F) (jP n b T F)->H d=none->H e=none->H c=none->aZ p H a->Q .aH a
section
abbrev WU:List Str:=["self","web","a","b","most"]
theorem Af:cf WU ĝ (aT cv):=cH
theorem Xr:¬(("many":Str)="by_end"):=by decide+kernel
theorem Xq:¬(("many":Str)="rows"):=by decide+kernel
theorem Xp:¬(("by_end":Str)="rows"):=by decide+kernel
theorem Xo:¬(("many":Str)="best"):=by decide+kernel
theorem Xn:¬(("by_end":Str)="best"):=by decide+kernel
theorem Xm:¬(("rows":Str)="best"):=by decide+kernel
theorem Xl:¬(("many":Str)="bar"):=by decide+kernel
theorem Xk:¬(("by_end":Str)="bar"):=by decide+kernel
theorem Xj:¬(("rows":Str)="bar"):=by decide+kernel
theorem Xs:¬(("best":Str)="bar"):=by decide+kernel
theorem Tu {n:Nat}:a8 "bar" v (a8 "best" (.ref bd) (a8 "rows" (.ref rl) (a8 "by_end" (.ref be) (a8 "many" (.int (n:Int)) []))))=gs n be rl bd v:=by
 have a:a8 "by_end" (V.ref be) [(("many":Str),V.int (n:Int))]=[(("many":Str),V.int (n:Int)),("by_end",.ref be)]:=by rw [jX Xr];rfl
 have b:a8 "rows" (V.ref rl) [(("many":Str),V.int (n:Int)),("by_end",.ref be)]=[(("many":Str),V.int (n:Int)),("by_end",.ref be),("rows",.ref rl)]:=by rw [jX Xq,jX Xp];rfl
 have c:a8 "best" (V.ref bd) [(("many":Str),V.int (n:Int)),("by_end",.ref be),("rows",.ref rl)]=[(("many":Str),V.int (n:Int)),("by_end",.ref be),("rows",.ref rl),("best",.ref bd)]:=by rw [jX Xo,jX Xn,jX Xm];rfl
 have d:a8 "bar" v [(("many":Str),V.int (n:Int)),("by_end",.ref be),("rows",.ref rl),("best",.ref bd)]=gs n be rl bd v:=by rw [jX Xl,jX Xk,jX Xj,jX Xs];rfl
 show a8 "bar" v (a8 "best" (.ref bd) (a8 "rows" (.ref rl) (a8 "by_end" (.ref be) [(("many":Str),V.int (n:Int))])))=_;rw [a,b,c,d]
theorem mM (F:gq K "__init__" "Closing.__init__" cv f fd) (T:lF K mg C) (TC:nO K mg I)
 (mT:ic K C "take" fT) (bT:fb K qf Ă []) (GT:au P w K mg base aw 2 fT qf Ă (B2 C))
 (FE:Fn K mg "falls_by_end" bt ċ fE YI) (GE:au P w K mg base aw 2 fE YI ċ (Il I))
 (FB:Fn K mg "told_bounds" bG ċ fB lQ) (GB:au P w K mg base aw 3 fB lQ ċ (Hq I)):au P w K mg base aw 4 f fd ĝ (Im C I):=by
 refine F.cK Af λ_ kR _ CV H _ CY px O x8=>?_;obtain ⟨p,wb,d,n,y,D,rF,rfl,h,W0,N,x7⟩:=x8;have tL:cI 2 _:=O.mono (by decide);have DP:cI 3 _:=O;refine ⟨_,bp (nU (pv 0) (fJ (pv 1) U) U)
  (bp (nU (pv 0) (bQ GE tL FE (bY (pv 1))) U)
  (bp (nU (pv 0) (iA lJ) U)
  (bp (nU (pv 0) Pr U)
  (bp (nU (pv 0) jw U)
  (a0 (g_ gB U (gy (bQ GB DP FB (bY (pv 1))))
   (rP U (eK (bO 2 Af.nd) (eK (bO 3 Af.nd) (eK (bO 4 Af.nd) qE))))
   (a0 (fH (ig (pv 0) T.cl mT GT tL bT .nil fy (eM (cE (jh dJ (pv 2) (pv 3) (pv 4))) dJ (cE lJ))))))))))),?_⟩
 obtain ⟨Mx,Mt,Mw,S,Mv,Mu⟩:=id W0;have pw:p≠wb:=λz=>by rw [z,S] at h;have:=HO.ins.inj (dG h);exact absurd this.2.2 (λz=>by unfold kK a8 at z;cases z)
 refine λN1 c1=>(aa U (ek S TC.cl TC.nM (Hu _ _ _ _) (aa U (o3 h T.cl T.nM (by show 0<1000;decide) (c1 _ _ ?_)))));have x:∀{l:Hp} {fs:List (Str×V)} {o:HO},l p=some (.ins C d fs)->aZ p l (upd l p o):=λ{l fs o} _ b o' e' g=>by rw [aq g];exact e'
 have m:aZ p H (upd H p (.ins C d (a8 "many" (.int (n:Int)) []))):=x h;have W:upd H p (.ins C d (a8 "many" (.int (n:Int)) [])) p=some (.ins C d (a8 "many" (.int (n:Int)) [])):=ak;generalize upd H p (.ins C d (a8 "many" (.int (n:Int)) []))=H1 at*;clear c1 N1;have W1:jN I H1 wb (n:Int) y D rF:=⟨Mx,Mt,Mw,m _ _ S (aQ pw),by
  obtain ⟨q,R⟩:=Mv;exact ⟨q,m _ _ R.1 (cp R.1 h nofun),gf R.2 λ_ _ e=>m _ _ e (cp e h nofun)⟩,by
  obtain ⟨q,R⟩:=Mu;exact ⟨q,m _ _ R.1 (cp R.1 h nofun),gf R.2 λ_ _ e=>m _ _ e (cp e h nofun)⟩⟩
 refine λN2 c2=>(aa U ⟨wb,(n:Int),y,D,rF,U,W1,N,λc t NC s2 ZX=>(aa U (o3 (s2 _ _ W) T.cl T.nB (by show 1<1000;decide) (c2 _ _ ?_)))⟩);have k2:aZ p t (upd t p (.ins C d (a8 "by_end" (.ref c) (a8 "many" (.int (n:Int)) [])))):=x (s2 _ _ W);have p2:upd t p (.ins C d (a8 "by_end" (.ref c) (a8 "many" (.int (n:Int)) []))) p=some (.ins C d (a8 "by_end" (.ref c) (a8 "many" (.int (n:Int)) []))):=ak;have MF:=s2 _ _ W;have ZW:jR (upd t p (.ins C d (a8 "by_end" (.ref c) (a8 "many" (.int (n:Int)) [])))) c (bw rF):=by obtain ⟨xw,u,f2,f3,f4⟩:=ZX.at_;refine ⟨xw,k2 _ _ u (cp u MF nofun),f2,f3,λe f hf=>?_⟩;obtain ⟨pp,q1,A⟩:=f4 e f hf;exact ⟨pp,q1,k2 _ _ A (cp A MF nofun)⟩
 generalize upd t p (.ins C d (a8 "by_end" (.ref c) (a8 "many" (.int (n:Int)) [])))=H3 at*;clear c2 N2;have K3:aZ p H H3:=λb o e g=>k2 _ _ (s2 _ _ (m _ _ e g)) g;have free:∀{l:Hp} {b:Addr},aZ p H l->l b=none->b≠p->H b=none:=λ{l b} j e g=>by
  cases x5:H b with
  | none=>rfl
  | some o=>rw [j _ _ x5 g] at e;cases e
 have Zg:H c=none:=free m NC (aQ (bj W NC));refine λN3 c3=>⟨cN _,λrl Q=>(aa U (o3 (aK Q _ _ p2) T.cl T.nR (by show 2<1000;decide) (c3 _ _ ?_)))⟩;have s4:=aK (o:=.lst []) Q;have r4:upd H3 rl (.lst []) rl=some (.lst []):=ak;have ZV:=ZW.same s4;have p4:=s4 _ _ p2;generalize upd H3 rl (.lst [])=J at*;have X:p≠rl:=bj p2 Q;have Av:H rl=none:=free K3 Q (aQ X);have k5:aZ p J (upd J p (.ins C d (a8 "rows" (.ref rl) (a8 "by_end" (.ref c) (a8 "many" (.int (n:Int)) []))))):=x p4;have p5:upd J p (.ins C d (a8 "rows" (.ref rl) (a8 "by_end" (.ref c) (a8 "many" (.int (n:Int)) [])))) p=some (.ins C d (a8 "rows" (.ref rl) (a8 "by_end" (.ref c) (a8 "many" (.int (n:Int)) [])))):=ak;have r5:=k5 _ _ r4 (aQ X);generalize upd J p (.ins C d (a8 "rows" (.ref rl) (a8 "by_end" (.ref c) (a8 "many" (.int (n:Int)) []))))=H5 at*;clear c3 N3;have K5:aZ p H H5:=λb o e g=>k5 _ _ (s4 _ _ (K3 _ _ e g)) g;refine λN4 c4 bd M=>(aa U (o3 (aK M _ _ p5) T.cl T.nE (by show 3<1000;decide) (c4 _ _ ?_)));have s6:=aK (o:=.dT []) M;have b6:upd H5 bd (.dT []) bd=some (.dT []):=ak;have p6:=s6 _ _ p5;have r6:=s6 _ _ r5;generalize upd H5 bd (.dT [])=H6 at*;have uQ:p≠bd:=bj p5 M;have A9:H bd=none:=free K5 M (aQ uQ);have k7:aZ p H6 (upd H6 p (.ins C d (a8 "best" (.ref bd) (a8 "rows" (.ref rl) (a8 "by_end" (.ref c) (a8 "many" (.int (n:Int)) [])))))):=x p6;have p7:upd H6 p (.ins C d (a8 "best" (.ref bd) (a8 "rows" (.ref rl) (a8 "by_end" (.ref c) (a8 "many" (.int (n:Int)) []))))) p=some (.ins C d (a8 "best" (.ref bd) (a8 "rows" (.ref rl) (a8 "by_end" (.ref c) (a8 "many" (.int (n:Int)) []))))):=ak;have r7:=k7 _ _ r6 (aQ X);have b7:=k7 _ _ b6 (aQ uQ);generalize upd H6 p (.ins C d (a8 "best" (.ref bd) (a8 "rows" (.ref rl) (a8 "by_end" (.ref c) (a8 "many" (.int (n:Int)) [])))))=H7 at*;clear c4 N4;refine λN5 c5=>(aa U (o3 p7 T.cl T.nX (by show 4<1000;decide) (c5 _ _ ?_)));rw [Tu];have k8:aZ p H7 (upd H7 p (.ins C d (gs n c rl bd .aH))):=x p7;have p8:upd H7 p (.ins C d (gs n c rl bd .aH)) p=some (.ins C d (gs n c rl bd .aH)):=ak;have r8:=k8 _ _ r7 (aQ X);have b8:=k8 _ _ b7 (aQ uQ);generalize upd H7 p (.ins C d (gs n c rl bd .aH))=H8 at*;clear c5 N5;have DB:aZ p J H8:=λb o e g=>k8 _ _ (k7 _ _ (s6 _ _ (k5 _ _ e g)) g) g;have r:aZ p H H8:=λb o e g=>DB _ _ (s4 _ _ (K3 _ _ e g)) g;have ZU:jR H8 c (bw rF):=by obtain ⟨xw,u,f2,f3,f4⟩:=ZV.at_;refine ⟨xw,DB _ _ u (cp u p4 nofun),f2,f3,λe f hf=>?_⟩;obtain ⟨pp,q1,A⟩:=f4 e f hf;exact ⟨pp,q1,DB _ _ A (cp A p4 nofun)⟩
 have C8:eB C H8 p c rl bd n (bw rF) empty:=⟨⟨d,p8⟩,ZU,⟨[],r8,.nil⟩,⟨[],b8,⟨aj _,λ_ z=>nomatch z⟩,λx7=>rfl⟩⟩;have W8:jN I H8 wb (n:Int) y D rF:=⟨Mx,Mt,Mw,r _ _ S (aQ pw),by
  obtain ⟨q,R⟩:=Mv;exact ⟨q,r _ _ R.1 (cp R.1 h nofun),gf R.2 λ_ _ e=>r _ _ e (cp e h nofun)⟩,by
  obtain ⟨q,R⟩:=Mu;exact ⟨q,r _ _ R.1 (cp R.1 h nofun),gf R.2 λ_ _ e=>r _ _ e (cp e h nofun)⟩⟩
 refine (aa U ⟨wb,(n:Int),y,D,rF,U,W8,N,λx4 L hl s9 R9=>?_⟩);obtain ⟨qs,R⟩:=R9;have E:=C8.same s9;obtain ⟨n1,n2,n3⟩:=C8.apart hl;have idx:=N.ir;have sh:=Lg N;refine ⟨x4,U,⟨_,a5.of R.1⟩,?_⟩;have stays:∀{k:Hp},cV p rl bd L k->k x4=some (.lst (qs.map V.ref)):=λj=>j _ _ R.1 n1 n2 n3;obtain ⟨î,p9⟩:=E.ins;obtain ⟨q9,r9,_⟩:=E.rows;obtain ⟨Ï,b9,_⟩:=E.best;have g7:∀{k:Hp} {b:Addr} {xs:List V},cV p rl bd L k->L b=some (.tup xs)->k b=some (.tup xs):=λj e=>j _ _ e (cp e p9 nofun) (cp e r9 nofun) (cp e b9 nofun);generalize hB:cU (n:Int) y D rF=B at*;refine j0 (K:=K) (a:=x4) (xs:=qs.map V.ref) (λi gK k=>∃v2 v3 v4,gK=[some (.ref p),some (.ref wb),v2,v3,v4]/\eB C k p c rl bd n (bw rF) (ja ((B.take i).map eJ) empty)/\cV p rl bd L k) ⟨none,none,none,U,E,cV.of (ay.refl _)⟩ ?_ ?_ ?_
 ·rintro i gK k _ ⟨v2,v3,v4,rfl,_,j⟩;exact a5.of (stays j)
 ·rintro i V' gK G hy ⟨v2,v3,v4,rfl,s,j⟩;obtain ⟨x5,x6,rfl,_,lP,km⟩:=R.get hy;obtain ⟨a,b,v,rfl,x1,_,x3,_⟩:=idx x6 (fg lP);have hi:i<B.length:=(eP.mp lP).1;refine ⟨x5,_,U,bU.of (g7 j km),U,_,_,U,_,_,U,_,_,U,U,?_⟩;obtain ⟨YU,WG⟩:=s.ins;have gi:=zV ((B.take i).map eJ) empty (Cu (n:=n)) (rK λx6 O=>idx x6 (qi O));have li:=Cn ((B.take i).map eJ) empty;rw [ax,fU] at li;have li:(ja ((B.take i).map eJ) empty).rows.length<=0+min i B.length:=li;have et:ja ((B.take (i+1)).map eJ) empty=take (ja ((B.take i).map eJ) empty) (eJ [a,b,v]) .told []:=by
   unfold ja;rw [hX,lP,eH,ue];rfl
  rw [et];generalize ja ((B.take i).map eJ) empty=Ã at*;refine (aa U (jg WG (kJ) (aa U (aa U (aa U ⟨cX U,λx2 ht=>⟨cN _,λx9 X9=>?_⟩⟩)))));have Di:=aK (o:=.tup [V.str "tie",V.int a,V.int b,V.int v]) ht;have Wa:fG (upd G x2 (.tup [V.str "tie",V.int a,V.int b,V.int v])) x2 (eJ [a,b,v]):=by unfold fG;rw [ak];show some (HO.tup [V.str "tie",V.int a,V.int b,V.int v])=some (HO.tup [V.str "tie",V.int ((a.toNat:Nat):Int),V.int ((b.toNat:Nat):Int),V.int v]);rw [show ((a.toNat:Nat):Int)=a by exact zN x1,show ((b.toNat:Nat):Int)=b by exact zN x3]
  generalize upd G x2 (.tup [V.str "tie",V.int a,V.int b,V.int v])=GH at*;have uP:=aK (o:=.tup []) X9;refine ⟨p,c,rl,bd,x2,x9,n,_,_,eJ [a,b,v],.told,[],U,(s.same Di).same uP,gi,Wa.same uP,ak,by lia,λò ZY Xv=>⟨_,_,_,U,ZY,?_⟩⟩;exact (j.trans (cV.of (Di.trans uP))).trans Xv
 ·rintro gK G ⟨v2,v3,v4,rfl,s,j⟩;have dr:B.take (qs.map V.ref).length=B:=by rw [ax,R.len];exact gC
  rw [dr] at s;refine x7 G c rl bd ?_ Zg Av A9 λb o e g=>j _ _ (s9 _ _ (r _ _ e g)) g (bj e Av) (bj e A9);unfold jP;rw [hB];exact s
end
end Y0
namespace L2
open PySem PySem.Spec PyProof.Rows
abbrev NK:=Int×List (Option Int)
def oV:Option Int->V
 | some i=>.int i
 | none=>.aH
def MJ:Option Int->Value->Bool
 | some i,v=>Value.isInt i v
 | none,.none=>true
 | none,_=>false
theorem pq:∀{k:Option Int} {v:Value},MJ k v=true->(k=none/\v=.none)\/∃i t,k=some i/\v=.int i t
 | some i,v,h=>by obtain ⟨t,e⟩:=Value.isInt_shape (k:=i) (v:=v) h;exact .inr ⟨i,t,U,e⟩
 | none,.none,_=>.inl ⟨U,U⟩
theorem Q8 (h:Q (reduceHash 4238894112) { s with toks:=s.toks+1 }):wpAny (model prog w) A (pyHash .none) Q E s:=
 PySem.W.pyHash_slot (T:="NoneType") U F.slot_NoneType_hash F.entry_NoneType_hash (F.args_NoneType_hash_1 _) (beq_builtin_none _) (.inl U) (ab (aG (ab (wpAny_mkInt (aG ⟨_,_,U,h⟩)))))
def nQ (prog:Program) (w:World):PySem.KeyKind prog w (Option Int) where
 is:=MJ
 hash:=λk=>match k with
  | some i=>hashInt i
  | none=>reduceHash 4238894112
 inj:=λv a b f d=>by
  rcases pq f with ⟨rfl,rfl⟩ | ⟨i,t,rfl,rfl⟩
  ·rcases pq d with ⟨rfl,_⟩ | ⟨i,t,rfl,e⟩
   ·rfl
   ·cases e
  ·rcases pq d with ⟨rfl,e⟩ | ⟨j,u,rfl,e⟩
   ·cases e
   ·cases e;rfl
 byValue:=λk v h=>by rcases pq h with ⟨rfl,rfl⟩ | ⟨i,t,rfl,rfl⟩<;>rfl
 pyHash:=λc h=>by
  rcases pq c with ⟨rfl,rfl⟩ | ⟨i,t,rfl,rfl⟩
  ·exact Q8 h
  ·exact wpAny_pyHash_int h
 eqBool:=λ{A E s a b u v Q} g c h=>by
  rcases pq g with ⟨rfl,rfl⟩ | ⟨i,t,rfl,rfl⟩
  ·rcases pq c with ⟨rfl,rfl⟩ | ⟨j,u,rfl,rfl⟩
   ·exact SeqAt.EqAt.same (A:=A) (s:=s) .none _ _ _ _ h
   ·exact SeqAt.EqAt.none_int (A:=A) (s:=s) j u _ _ _ _ (by rwa [cF nofun] at h)
  ·rcases pq c with ⟨rfl,rfl⟩ | ⟨j,u,rfl,rfl⟩
   ·exact SeqAt.EqAt.int_none (A:=A) (s:=s) i t _ _ _ _ (by rwa [cF nofun] at h)
   ·refine xS ?_;have e:decide (some i=some j)=(i==j):=by
     by_cases z:i=j
     ·subst z;rw [ew rfl,kE]
     ·rw [cF (λq=>z (dG q)),beq_eq_false_iff_ne.mpr z]
    rwa [e] at h
 «strs»:=λk x t v h=>by rcases pq h with ⟨_,e⟩ | ⟨_,_,_,e⟩<;>cases e
def lI (P:Program) (w:World) (h:Heap) (k:NK) (a:Addr):Prop:=∃(b:Addr) (t:Tok),h.IsTuple a #[.int k.1 t,.ref b]/\IsTupleKey (nQ P w) h k.2 b
def JT (P:Program) (w:World) (k:NK):Int:=reduceHash (Builtin.Tuple.tupleHashOf [hashInt k.1,tupleKeyHash (nQ P w) k.2])
section
theorem lI.inj (m:lI P w h x a) (p:lI P w h y a):x=y:=by
 obtain ⟨b,t,⟨o,i,_,n,j⟩,k⟩:=m;obtain ⟨q,u,⟨s,f,_,r,g⟩,l⟩:=p;rw [i] at f;cases f;rw [j] at g
 injection g with d _
 have d:=congrArg Array.toList d
 injection d with e c
 injection e with e _
 injection c with c _
 injection c with c
 subst c;exact Prod.ext e (k.inj l)
theorem lI.keeps {I C} (x:lI P w h k a) (e:h.get? d=some o) (c:o.data=.dict I C) (i:Heap.SameBut d h h'):lI P w h' k a:=by
 obtain ⟨b,t,⟨m,f,j,n,g⟩,l⟩:=x;refine ⟨b,t,⟨m,?_,j,n,g⟩,l.keeps e c i⟩;rw [i.2 a ?_]
 ·exact f
 ·rintro rfl;rw [f] at e;cases e;rw [g] at c;cases c
theorem QJ (i:A.units+1<cLine) (x:lI P w s.heap k a) (h:Q (JT P w k) { s with toks:=s.toks+(k.2.length+3) }):wpAny (model P w) A (pyHash (.ref a)) Q E s:=by
 obtain ⟨b,t,⟨o,c,d,n,f⟩,g⟩:=x;refine PySem.W.pyHash_slot (T:="tuple") ⟨o,c,d⟩ F.slot_tuple_hash F.entry_tuple_hash (F.args_tuple_hash_1 _) (beq_builtin_none _) (.inr (by lia)) ?_;show wpAny _ _ (Builtin.Tuple.tupleItemsOf (.ref a)>>=_) _ _ s;refine ab (wpAny_tupleItemsOf c f ?_);refine ab ?_;rw [<-Array.forIn_toList];show wpAny _ _ (forIn [Value.int k.1 t,Value.ref b] _ _) _ _ s;rw [List.forIn_cons];refine ab (ab (wpAny_pyHash_int ?_));refine ab (aG (aG ?_));show wpAny _ _ (forIn [Value.ref b] _ _) _ _ _;rw [List.forIn_cons];refine ab (ab (wpAny_pyHash_tuple (by show A.units+1<cLine;exact i) g ?_));refine ab (aG (aG ?_));refine aG ?_;show wpAny _ _ (retInt (Builtin.Tuple.tupleHashOf [hashInt k.1,tupleKeyHash (nQ P w) k.2])) _ _ _;refine ab (wpAny_mkInt (aG ⟨_,_,U,?_⟩));have e:s.toks+1+(k.2.length+1)+1=s.toks+(k.2.length+3):=by lia
 show Q _ { s with toks:=s.toks+1+(k.2.length+1)+1 };rw [e];exact h
theorem QC (h:ItemsAre (nQ P w) ks vs):ItemsAre (nQ o w') ks vs:=by
 induction h with
 | nil=>exact .nil
 | cons h _ a=>exact .cons h a
theorem HU (x:IsTupleKey (nQ P w) h ks a):IsTupleKey (nQ C w') h ks a:=
 let ⟨o,i,n,b,c,d,e⟩:=x;⟨o,i,n,b,c,d,QC e⟩
theorem V7 (o:A.units+1<cLine) (i:lI P w s.heap x a) (k:lI P w s.heap y b) (h:Q (decide (x=y)) s):wpAny (model P w) A (eqBool (.ref a) (.ref b)) Q E s:=by
 by_cases e:a=b
 ·subst e;rw [ew (i.inj k)] at h;exact SeqAt.EqAt.same (A:=A) (s:=s) (.ref a) _ _ _ _ h
 obtain ⟨f,l,r,p⟩:=i;obtain ⟨g,m,t,q⟩:=k;have R:=SeqAt.RcAt.tuples (A:=A) (s:=s) (e:=λj=>if j=0 then (x.1==y.1) else decide (x.2=y.2)) r t (by lia) λj u v=>by
  match j,u,v with
  | 0,_,_=>exact SeqAt.EqAt.int_int _ _ _ _
  | 1,_,_=>exact λB w E Q h=>wpAny_eqBool_tuple (by show A.units+1<cLine;exact o) (HU p) (HU q) h
  | j+2,z,_=>exact absurd (show j+2<2 from z) (by lia)
 have n:((List.range (min (#[Value.int x.1 l,Value.ref f].size) (#[Value.int y.1 m,Value.ref g].size))).all (λj=>if j=0 then (x.1==y.1) else decide (x.2=y.2)) && (#[Value.int x.1 l,Value.ref f].size== #[Value.int y.1 m,Value.ref g].size))=decide (x=y):=by
  show (((x.1==y.1) && (decide (x.2=y.2) && true)) && true)=decide (x=y)
  by_cases c:x.1=y.1
  ·by_cases d:x.2=y.2
   ·rw [ew d,ew (Prod.ext c d),c,kE];rfl
   ·rw [cF d,cF (λz:x=y=>d (congrArg Prod.snd z)),c,kE];rfl
  ·rw [cF (λz:x=y=>c (congrArg Prod.fst z)),beq_eq_false_iff_ne.mpr c];rfl
 rw [n] at R;exact SeqAt.EqAt.of_refs e R _ _ _ _ h
theorem P0 (f:IsTupleKey (nQ P w) s.heap ks a) (h:Q true s):wpAny (model P w) A (eqIsQuiet (n+1) (.ref a)) Q E s:=by
 have d:=f.typeIs;obtain ⟨o,p,m,k,_,i,j⟩:=f;unfold eqIsQuiet;refine ab (wpAny_specialOf d F.slot_tuple_eq.lookup ?_);show wpAny _ _ (isInstance (.ref a) (.type "tuple")>>=_) _ _ s;refine ab (wpAny_isInstance d isSubtype_tuple_tuple ?_);simp only [Bool.not_true,Bool.false_eq_true,if_false];refine ab (wpAny_seqItems k i ?_);refine ab ?_;show wpAny _ _ (forIn p _ _) _ _ s;rw [<-Array.forIn_toList];refine wpAny_forIn_list _ (λg r c=>r.1=none/\c=s/\∀v∈g,carriedByValue v=true) _ ?_ ?_ _ _ ⟨U,U,j.byValue⟩
 ·rintro v g r c ⟨b,rfl,e⟩;rw [eqIsQuiet_byValue _ (e v dB)];refine ab (aG ?_);simp only [Bool.not_true,Bool.false_eq_true,if_false];exact aG ⟨U,U,λu l=>e u (eI _ l)⟩
 ·rintro ⟨q,t⟩ c ⟨b,rfl,_⟩;simp only at b;subst b;exact aG h
theorem R4 (i:lI P w s.heap k a) (h:Q true s):wpAny (model P w) A (eqIsQuiet 8 (.ref a)) Q E s:=by obtain ⟨b,t,⟨o,c,e,n,f⟩,g⟩:=i;have d:s.TypeIs (.ref a) "tuple":=⟨o,c,e⟩;unfold eqIsQuiet;refine ab (wpAny_specialOf d F.slot_tuple_eq.lookup ?_);show wpAny _ _ (isInstance (.ref a) (.type "tuple")>>=_) _ _ s;refine ab (wpAny_isInstance d isSubtype_tuple_tuple ?_);simp only [Bool.not_true,Bool.false_eq_true,if_false];refine ab (wpAny_seqItems c f ?_);refine ab ?_;show wpAny _ _ (forIn #[Value.int k.1 t,Value.ref b] _ _) _ _ s;rw [<-Array.forIn_toList];show wpAny _ _ (forIn [Value.int k.1 t,Value.ref b] _ _) _ _ s;rw [List.forIn_cons];refine ab ?_;rw [eqIsQuiet_byValue _ rfl];refine ab (aG ?_);simp only [Bool.not_true,Bool.false_eq_true,if_false];refine aG ?_;show wpAny _ _ (forIn [Value.ref b] _ _) _ _ s;rw [List.forIn_cons];refine ab (ab (P0 g ?_));simp only [Bool.not_true,Bool.false_eq_true,if_false];refine aG ?_;show wpAny _ _ (forIn [] _ _) _ _ s;exact aG (aG h)
end
def Mb (P:Program) (w:World):HeapKind P w NK where
 is:=lI P w
 hash:=JT P w
 draws:=λk=>k.2.length+3
 room:=λA=>A.units+1<cLine
 inj:=λc d=>c.inj d
 keeps:=λx f e g=>x.keeps f e g
 pyHash:=λb a h=>QJ b a h
 eqBool:=λb c d h=>V7 b c d h
 quiet:=λa h=>R4 a h
abbrev iE:=List (NK×Addr×Bool)
def look (xs:iE) (k:NK):Option Bool:=(xs.find? λx=>decide (x.1=k)).map (·.2.2)
def i6 (xs:iE) (k:NK) (a:Addr) (v:Bool):iE:=if (look xs k).isSome then xs.map (λx=>if x.1=k then (x.1,x.2.1,v) else x) else xs++[(k,a,v)]
def lY (xs:iE):List (NK×Addr×Value):=xs.map λx=>(x.1,x.2.1,Value.bool x.2.2)
theorem Hz (xs:iE) (k:NK):(atKey (lY xs) k).map (·.2)=(look xs k).map Value.bool:=by
 unfold look lY atKey
 induction xs with
 | nil=>rfl
 | cons x xs a=>
  rw [dt,List.find?_cons,List.find?_cons]
  by_cases h:x.1=k
  ·rw [ew h];rfl
  ·rw [cF h];exact a
theorem JE (xs:iE) (k:NK):(atKey (lY xs) k).isSome=(look xs k).isSome:=by
 have:=congrArg Option.isSome (Hz xs k)
 rwa [xP,xP] at this
theorem VO (xs:iE) (k:NK) (a:Addr) (v:Bool):storedH (lY xs) k a (.bool v)=lY (i6 xs k a v):=by
 unfold storedH i6;rw [JE];split
 ·unfold lY;rw [List.map_map,List.map_map];refine vd λx _=>?_;show putAt k (.bool v) (x.1,x.2.1,Value.bool x.2.2)=_;unfold putAt;dsimp only [Function.comp];split<;>rfl
 ·unfold lY;rw [eH];rfl
theorem BK (xs:iE) (k j:NK) (a:Addr) (v:Bool):look (i6 xs k a v) j=if j=k then some v else look xs j:=by
 unfold i6;split
 next h=>
  induction xs with
  | nil=>cases h
  | cons x xs f=>
   unfold look at h f ⊢;rw [dt,List.find?_cons,List.find?_cons];rw [List.find?_cons] at h
   by_cases c:x.1=k
   ·rw [if_pos c]
    by_cases d:j=k
    ·rw [if_pos d,ew (show (x.1,x.2.1,v).1=j from c.trans d.symm)];rfl
    ·have l:¬x.1=j:=λz=>d (z.symm.trans c);rw [if_neg d,cF (show ¬(x.1,x.2.1,v).1=j from l)];dsimp only;have:∀g:iE,((g.map (λx=>if x.1=k then (x.1,x.2.1,v) else x)).find? λx=>decide (x.1=j)).map (·.2.2)=(g.find? λx=>decide (x.1=j)).map (·.2.2):=by
      intro g
      induction g with
      | nil=>rfl
      | cons y g f=>
       rw [dt,List.find?_cons,List.find?_cons]
       by_cases i:y.1=k
       ·rw [if_pos i,cF (show ¬(y.1,y.2.1,v).1=j from λz=>d (z.symm.trans i))];exact f
       ·rw [if_neg i]
        by_cases e:y.1=j
        ·rw [ew e]
        ·rw [cF e];exact f
     exact this xs
   ·rw [if_neg c];rw [cF c] at h
    by_cases e:x.1=j
    ·have:¬j=k:=λz=>c (e.trans z);rw [ew e,if_neg this]
    ·rw [cF e];exact f h
 next h=>
  have h:look xs k=none:=by
   cases o:look xs k with
   | none=>rfl
   | some b=>rw [o] at h;exact absurd U h
  unfold look at h ⊢;rw [List.find?_append]
  by_cases d:j=k
  ·subst d;rw [if_pos rfl];rw [Option.map_eq_none_iff] at h;rw [h,Option.none_or,List.find?_cons,ew rfl];rfl
  ·rw [if_neg d,List.find?_cons,cF (λz=>d z.symm),List.find?_nil,Option.or_none]
theorem eS (xs:iE) (k:NK) (a:Addr) (v:Bool):(i6 xs k a v).length<=xs.length+1:=by
 unfold i6;split
 ·rw [ax];exact lB _
 ·rw [ff];exact aj _
theorem Ie (h:x∈i6 xs k a v):(∃y∈xs,x.1=y.1/\x.2.1=y.2.1)\/(x.1=k/\x.2.1=a):=by
 unfold i6 at h;split at h
 ·obtain ⟨y,b,rfl⟩:=cn.mp h;refine .inl ⟨y,b,?_⟩;split<;>exact ⟨U,U⟩
 ·rcases fe.mp h with h | h
  ·exact .inl ⟨x,h,U,U⟩
  ·cases dF.mp h;exact .inr ⟨U,U⟩
def Ax (P:Program) (w:World) (a:Addr) (xs:iE) (h:Heap):Prop:=(a==sysModules)=false/\xs.length<=sizeLine/\∃o b c,h.get? a=some o/\o.ExactDict/\o.data=.dict b c/\b.toList=(lY xs).map (entryOfKey (Mb P w))/\((lY xs).map (·.1)).Nodup
def jv (P:Program) (w:World) (a:Addr) (xs:iE):HO:=.ext (Ax P w a xs)
def nK (H:Hp) (k:NK) (a:Addr):Prop:=∃b,H a=some (.tup [.int k.1,.ref b])/\H b=some (.tup (k.2.map oV))
def jd (P:Program) (w:World) (H:Hp) (a:Addr) (xs:iE):Prop:=H a=some (jv P w a xs)/\∀x∈xs,nK H x.1 x.2.1
theorem TR (r:bo (oV k) u):(nQ P w).is k u=true:=by
 cases k with
 | none=>cases (show u=Value.none from r);rfl
 | some i=>obtain ⟨t,e⟩:=(show ∃t,u=Value.int i t from r);subst e;show Value.isInt i (.int i t)=true;simp [Value.isInt]
theorem JV:∀{a:List (Option Int)} {us:List Value},ba (a.map oV) us->ItemsAre (nQ P w) a us
 | [],_,r=>by rw [oB] at r;cases r;exact .nil
 | k::a,_,r=>by
  rw [dt] at r
  cases r with
  | cons h t=>exact .cons (TR h) (JV t)
section
theorem yS (ok:ei P w H h) (e:nK H k a):lI P w h k a:=by
 obtain ⟨b,c,d⟩:=e;obtain ⟨_,y,r,o,f,i,n,l⟩:=(show dd P w H h a (.tup _) from ok a _ c);obtain ⟨_,p,x,s,g,j,q,m⟩:=(show dd P w H h b (.tup _) from ok b _ d)
 cases r with
 | cons u r=>
  cases r with
  | cons v r=>
   cases r;obtain ⟨t,rfl⟩:=(show ∃t,_=Value.int k.1 t from u);cases (show _=Value.ref b from v);exact ⟨b,t,⟨o,f,i,n,l⟩,s,p.toArray,q,g,j,m,by simpa using JV x⟩
theorem Cm (ok:ei P w H h) (e:jd P w H a xs):(a==sysModules)=false/\xs.length<=sizeLine/\h.DictOfH (Mb P w) a (lY xs):=by obtain ⟨⟨d,f,o,c,b,j,k,l,m,n⟩,_⟩:=(show dd P w H h a (.ext _) from ok a _ e.1);refine ⟨d,f,o,c,b,j,k,l,m,λx g=>?_,n⟩;obtain ⟨y,i,rfl⟩:=cn.mp g;exact yS ok (e.2 y i)
end
theorem HW (p:Ax P w a xs C) (k:∀o,C.get? a=some o->h2.get? a=some o):Ax P w a xs h2:=
 let ⟨e,f,o,c,b,d,q⟩:=p;⟨e,f,o,c,b,k o d,q⟩
def Bh (P:Program) (w:World) (g h:TE):TE:=λe H Q=>g e H λx f=>h e f λy c=>∃a b d k v,x=.ref a/\y=.ref b/\jd P w c a d/\nK c k b/\look d k=some v/\Q (.bl v) c
def UD (P:Program) (w:World) (h g:TE):TE:=λe H Q=>h e H λy f=>g e f λx c=>∃a b d k,x=.ref a/\y=.ref b/\jd P w c a d/\nK c k b/\Q (.bl (!(look d k).isSome)) c
def Bj (P:Program) (w:World) (h j i:TE):TS:=λD c H=>i c H λv f=>h c f λx g=>j c g λy d=>∃a b e k r,x=.ref a/\y=.ref b/\v=.bl r/\jd P w d a e/\nK d k b/\e.length<sizeLine/\D.nx c (upd d a (jv P w a (i6 e k b r)))
def UC (P:Program) (w:World):TE:=λ_ H Q=>∀p,H p=none->Q (.ref p) (upd H p (jv P w p []))
section
theorem Ia (E:X.A.units+2<cLine) (A:PE X o td) (z:PE X i ty) (D:CG i):PE X (.Subscript o i pos) (Bh X.prog X.w td ty):=by intro g s j H Q I h;refine IG PySem.F.slot_dict_getitem.lookup D (ar (A g s j H _ I h) λu O d=>L2.dy d λx m q L G=>ar (z g O j m _ q G) λF V d=>?_);obtain ⟨y,n,c,M,a,b,R,k,v,r,t,N,K,l,J⟩:=d;subst r t;obtain rfl:u=Value.ref a:=L;obtain rfl:F=Value.ref b:=M;obtain ⟨S,T,f⟩:=Cm c.a7 N;refine ⟨f.typeIs,?_⟩;have e:=Hz R k;rw [l] at e;obtain ⟨p,B,C⟩:=Option.map_eq_some_iff.mp e;refine wpAny_getItem_heap (show X.A.units+1+1<cLine from E) (yS c.a7 K) f B ?_;rw [C];exact ⟨.bl v,n,c.tok _,U,J⟩
theorem VB (v:X.A.units+2<cLine) (r:PE X i ty) (t:PE X o J):PC X .NotIn i o (UD X.prog X.w ty J):=by intro e s f H Q I h;refine ar (r e s f H _ I h) λz E d=>L2.dy d λy g l D A=>ar (t e E f g _ l A) λu G d=>?_;obtain ⟨x,j,c,C,a,b,L,k,n,p,N,K,B⟩:=d;subst n p;obtain rfl:u=Value.ref a:=C;obtain rfl:z=Value.ref b:=D;obtain ⟨q,F,m⟩:=Cm c.a7 N;refine wpAny_notIn_heap (show X.A.units+1+1<cLine from v) (yS c.a7 K) q m ?_;rw [JE];exact ⟨.bl _,j,c.tok _,U,B⟩
theorem BA (R:X.A.units+2<cLine) (Q:PE X o td) (L:PE X i ty) (S:PE X value tv) (g:swapsWith value (some (.Subscript o i pos')) pos.line X.env=pure false):
 PS X (.Assign [.Subscript o i pos'] value pos) (Bj X.prog X.w td ty tv):=by
 intro j x1 d H x3 I h;refine wpAny_Assign_Subscript (ar (S j x1 d H _ I h) λr s1 c=>L2.dy c λx4 n t rv W=>ar (Q j s1 d n _ t W) λx2 s2 c=>L2.dy c λx5 s u rx Y=>ar (L j s2 d s _ u Y) λV s3 c=>?_) g;obtain ⟨x6,H3,e,ry,a,b,m,k,z,B,C,A,N,K,M,Z⟩:=c;subst B C A;obtain rfl:x2=Value.ref a:=rx;obtain rfl:V=Value.ref b:=ry;obtain rfl:r=Value.bool z:=rv;obtain ⟨J,O,v⟩:=Cm e.a7 N;refine wpAny_setItem_heap (hsz:=by unfold lY;rw [ax];exact O) (show X.A.units+1+1<cLine from R) (yS e.a7 K) v λh' l g=>?_;rw [VO] at l;obtain ⟨q,y,x,f,D,E,F,_,G⟩:=l;have T:Ax X.prog X.w a (i6 m k b z) h':=⟨J,c7 (eS _ _ _ _) M,q,y,x,f,D,E,F,G⟩;exact ⟨d,_,yN e (by rw [N.1];exact True.intro) g ⟨q,f⟩ (ob:=jv X.prog X.w a (i6 m k b z)) ⟨T,⟨q,f⟩,λ_ _ p k=>HW p k⟩,Z⟩
theorem VG:PE X (.Dict [] [] pos) (UC X.prog X.w):=λb s c H Q I h=>
 wpAny_Dict_empty ⟨.ref s.heap.objs.size,_,I.laid (a:=s.heap.objs.size) (o:=jv X.prog X.w s.heap.objs.size []) (t':=s.toks) (λ_ _ q=>df _ q) (aj _)
  ⟨⟨beq_eq_false_iff_ne.mpr (aQ (eF I.big)),cN _,_,#[],0,hY _ U,⟨U,U,U⟩,U,U,uc⟩,⟨_,hY _ U⟩,λ_ _ p k=>HW p k⟩,U,h _ (I.a7.fresh (aj _))⟩
end
end L2
namespace MU
def f_ (st:St):Prop:=(∀(i:Nat) (r:Row),st.rows[i]?=some r->r.used.length<=2/\∀j∈r.used,j<i)/\∀b,st.bar=some b->∃r,st.rows[b]?=some r/\fY r.bP
theorem KZ {w:ah} (h:f_ st) (f:us.length<=2/\∀j∈us,j<st.rows.length):f_ (take st w word us):=by
 unfold take;split
 ·refine ⟨λi r a=>?_,λb c=>?_⟩
  ·have a:(st.rows++[⟨w,word,us⟩])[i]?=some r:=a
   by_cases e:i<st.rows.length
   ·rw [nC e] at a;exact h.1 i r a
   ·rw [lT (by exact jm e)] at a
    cases o:i-st.rows.length with
    | zero=>
     rw [o] at a;cases a;exact ⟨f.1,λj l=>by have:=f.2 j l;lia⟩
    | succ k=>rw [o] at a;cases a
  ·have c:(if st.bar=none/\fY w then some st.rows.length else st.bar)=some b:=c;show ∃r,(st.rows++[(⟨w,word,us⟩:Row)])[b]?=some r/\fY r.bP
   by_cases d:st.bar=none/\fY w
   ·rw [if_pos d] at c;cases c;exact ⟨_,by rw [lT (aj _),Nat.sub_self];rfl,d.2⟩
   ·rw [if_neg d] at c;obtain ⟨r,a,g⟩:=h.2 b c;exact ⟨r,by rw [nC (eP.mp a).1];exact a,g⟩
 ·exact h
theorem JC (h:f_ st) (a:∀x,o=some x->us.length<=2/\∀j∈us,j<st.rows.length):f_ (put st o word us):=by
 cases o with
 | none=>exact h
 | some x=>exact KZ h (a x U)
theorem zP (h:f_ st):f_ (a6 f word i st):=by
 refine JC h λx a=>⟨by show 1<=2;exact fQ eN,λj b=>?_⟩
 cases hw:ae st i with
 | none=>rw [hw] at a;cases a
 | some y=>rw [dF.mp b];exact jQ hw
theorem zQ (h:f_ st):f_ (ai f word i j st):=by
 refine JC h λx a=>⟨aj 2,λk b=>?_⟩
 cases hw:ae st i with
 | none=>rw [hw] at a;cases a
 | some y=>
  rw [hw] at a
  cases o:ae st j with
  | none=>rw [show ((some y).bind λp=>(ae st j).bind λq=>f p q)=(ae st j).bind λq=>f y q from rfl,o] at a;cases a
  | some z=>
   rcases eG.mp b with rfl | b
   ·exact jQ hw
   ·rw [dF.mp b];exact jQ o
theorem uE {c:Type} {g:St->c->St} (b:∀st a,f_ st->f_ (g st a)):∀(l:List c) (st:St),f_ st->f_ (l.foldl g st)
 | [],_,h=>h
 | a::l,st,h=>uE b l _ (b st a h)
theorem L3 (rows:List ah) (st:St) (h:f_ st):f_ (ja rows st):=uE (λst w h=>KZ h ⟨cN _,λj a=>absurd a (by simp)⟩) rows st h
theorem Ll:f_ empty:=⟨λi r h=>by simp [empty] at h,λb h=>by simp [empty] at h⟩
theorem RS {n:Nat} {F:c9} {at_ a b:Nat} {st:St} (h:f_ st):f_ (d9 n F at_ a b st):=
 uE (λ_ _ h=>zQ h) _ _ (uE (λ_ _ h=>zQ h) _ _ (uE (λ_ _ h=>zQ h) _ _ (zP (zP h))))
theorem RY {n:Nat} {F:c9} {at_ a:Nat} {st:St} (h:f_ st):f_ (ef n F at_ a st):=
 uE (λ_ _ h=>zQ h) _ _ (zP (zP h))
theorem BP (h:f_ st):∀t,f_ (run n F st t)
 | 0=>h
 | t+1=>by
  have a:=BP (n:=n) (F:=F) h t;show f_ (look n F t (run n F st t));unfold look;split
  ·split
   ·split
    ·exact RS a
    ·exact RY a
   ·exact a
  ·exact a
def Kn (st:St) (w:ah):Prop:=(w.a≠w.b->∃u,val st w.key=some u/\¬dh w.tie w.v u)/\(fY w->st.bar≠none)
theorem Kn.imp {w:ah} (h:Kn s w) (i:Imp s s'):Kn s' w:=by refine ⟨λa=>?_,λb=>i.1.bar (h.2 b)⟩;obtain ⟨u,c,e⟩:=h.1 a;obtain ⟨g,d,f⟩:=i.2 w.key u a c;exact ⟨g,d,C7 e f⟩
theorem IH (s:St) (w:ah) (word:Wd) (us:List Nat):Kn (take s w word us) w:=⟨λh=>zU h,λh=>KL h⟩
theorem yx {p w:ah} (b:ae s i=some p) (a:f p=some w):Kn (a6 f word i s) w:=by unfold a6;rw [b];show Kn (put s (f p) word [i]) w;rw [a];exact IH _ _ _ _
theorem yz {p q w:ah} (b:ae s i=some p) (c:ae s j=some q) (a:f p q=some w):Kn (ai f word i j s) w:=by unfold ai;rw [b];show Kn (put s ((ae s j).bind λq=>f p q) word [i,j]) w;rw [c];show Kn (put s (f p q) word [i,j]) w;rw [a];exact IH _ _ _ _
theorem yP (a:∀s j,Imp s (f s j)) {l:List Nat} {j:Nat} {w:ah} (b:j∈l) (h:∀s1,Imp s s1->Kn (f s1 j) w):Kn (l.foldl f s) w:=by obtain ⟨s1,c,d⟩:=Cp a l s j b;exact (h s1 c).imp d
theorem wc (e:Ext s s') (h:s'.best k=some j) (c:j<s.rows.length):s.best k=some j:=by
 rcases e.best k with a | ⟨i,a,b⟩
 ·rw [<-a];exact h
 ·rw [h] at a;cases a;exact (vW c b).elim
section
variable (hp:ae s at_=some p) (hZ:Imp (d9 n F at_ a b s) fs)
theorem Rk {w:ah} (hp:ae s at_=some p) (h:cz F p=some w):Kn (d9 n F at_ a b s) w:=
 (yx hp h).imp ((eC _ _ _ _).trans ((cW (λ_ _=>ck ..) _ _).trans ((cW (λ_ _=>ck ..) _ _).trans (cW (λ_ _=>ck ..) _ _))))
theorem QU {w:ah} (hp:ae s at_=some p) (h:cD F p=some w):Kn (d9 n F at_ a b s) w:=
 (yx (br (eC _ _ _ _).1 hp) h).imp ((cW (λ_ _=>ck ..) _ _).trans ((cW (λ_ _=>ck ..) _ _).trans (cW (λ_ _=>ck ..) _ _)))
theorem QV {w q:ah} {c j:Nat} (hp:ae s at_=some p) (hZ:Imp (d9 n F at_ a b s) fs) (o:c<n) (m:fs.best (true,b,c)=some j) (r:j<s.rows.length) (t:ae fs j=some q) (h:av p q=some w):Kn (d9 n F at_ a b s) w:=by have k:Imp s (a6 (cD F) .aS at_ (a6 (cz F) .a3 at_ s)):=(eC _ _ _ _).trans (eC _ _ _ _);unfold d9 at hZ ⊢;dsimp only at hZ ⊢;generalize a6 (cD F) .aS at_ (a6 (cz F) .a3 at_ s)=s2 at*;have l:=(cW (f:=λd j=>ai av .sum j at_ d) (λ_ _=>ck ..) (cO n ((cq n s2 true b).foldl (λd j=>ai av .sum at_ j d) s2) a) ((cq n s2 true b).foldl (λd j=>ai av .sum at_ j d) s2)).trans (cW (f:=λd j=>ai (aR F) .back j at_ d) (λ_ _=>ck ..) (cq n ((cO n ((cq n s2 true b).foldl (λd j=>ai av .sum at_ j d) s2) a).foldl (λd j=>ai av .sum j at_ d) ((cq n s2 true b).foldl (λd j=>ai av .sum at_ j d) s2)) false b) _);have e:Imp s2 fs:=((cW (f:=λd j=>ai av .sum at_ j d) (λ_ _=>ck ..) (cq n s2 true b) s2).trans l).trans hZ;have g:j<s2.rows.length:=gn r k.1.len;refine Kn.imp (yP (λ_ _=>ck ..) (j:=j) (oD.mpr ⟨c,n9.mpr o,wc e.1 m g⟩) λu i=>?_) l;exact yz (br (k.1.trans i.1) hp) (br i.1 (oo e.1 g t)) h
theorem QW {w q:ah} {c j:Nat} (hp:ae s at_=some p) (hZ:Imp (d9 n F at_ a b s) fs) (o:c<n) (m:fs.best (true,c,a)=some j) (r:j<s.rows.length) (t:ae fs j=some q) (h:av q p=some w):Kn (d9 n F at_ a b s) w:=by have u:Imp s (a6 (cD F) .aS at_ (a6 (cz F) .a3 at_ s)):=(eC _ _ _ _).trans (eC _ _ _ _);unfold d9 at hZ ⊢;dsimp only at hZ ⊢;generalize a6 (cD F) .aS at_ (a6 (cz F) .a3 at_ s)=s2 at*;have k:=u.trans (cW (f:=λd j=>ai av .sum at_ j d) (λ_ _=>ck ..) (cq n s2 true b) s2);generalize (cq n s2 true b).foldl (λd j=>ai av .sum at_ j d) s2=s3 at*;have l:=cW (f:=λd j=>ai (aR F) .back j at_ d) (λ_ _=>ck ..) (cq n ((cO n s3 a).foldl (λd j=>ai av .sum j at_ d) s3) false b) ((cO n s3 a).foldl (λd j=>ai av .sum j at_ d) s3);have e:Imp s3 fs:=((cW (f:=λd j=>ai av .sum j at_ d) (λ_ _=>ck ..) (cO n s3 a) s3).trans l).trans hZ;have g:j<s3.rows.length:=gn r k.1.len;refine Kn.imp (yP (λ_ _=>ck ..) (j:=j) (oD.mpr ⟨c,n9.mpr o,wc e.1 m g⟩) λv i=>?_) l;exact yz (br i.1 (oo e.1 g t)) (br (k.1.trans i.1) hp) h
theorem Rj {w q:ah} {e j:Nat} (hp:ae s at_=some p) (hZ:Imp (d9 n F at_ a b s) fs) (m:e<n) (l:fs.best (false,b,e)=some j) (o:j<s.rows.length) (r:ae fs j=some q) (h:aR F q p=some w):Kn (d9 n F at_ a b s) w:=by have t:Imp s (a6 (cD F) .aS at_ (a6 (cz F) .a3 at_ s)):=(eC _ _ _ _).trans (eC _ _ _ _);unfold d9 at hZ ⊢;dsimp only at hZ ⊢;generalize a6 (cD F) .aS at_ (a6 (cz F) .a3 at_ s)=s2 at*;have u:=t.trans (cW (f:=λc j=>ai av .sum at_ j c) (λ_ _=>ck ..) (cq n s2 true b) s2);generalize (cq n s2 true b).foldl (λc j=>ai av .sum at_ j c) s2=s3 at*;have k:=u.trans (cW (f:=λc j=>ai av .sum j at_ c) (λ_ _=>ck ..) (cO n s3 a) s3);generalize (cO n s3 a).foldl (λc j=>ai av .sum j at_ c) s3=s4 at*;have d:Imp s4 fs:=(cW (f:=λc j=>ai (aR F) .back j at_ c) (λ_ _=>ck ..) (cq n s4 false b) s4).trans hZ;have g:j<s4.rows.length:=gn o k.1.len;refine yP (λ_ _=>ck ..) (j:=j) (oD.mpr ⟨e,n9.mpr m,wc d.1 l g⟩) λv i=>?_;exact yz (br i.1 (oo d.1 g r)) (br (k.1.trans i.1) hp) h
theorem Ru {w:ah} (hp:ae s at_=some p) (h:cG F p=some w):Kn (ef n F at_ a s) w:=
 (yx hp h).imp ((eC _ _ _ _).trans (cW (λ_ _=>ck ..) _ _))
theorem RE {w:ah} (hp:ae s at_=some p) (h:cy F p=some w):Kn (ef n F at_ a s) w:=
 (yx (br (eC _ _ _ _).1 hp) h).imp (cW (λ_ _=>ck ..) _ _)
theorem Rr {w q:ah} {c j:Nat} (hp:ae s at_=some p) (hZ:Imp (ef n F at_ a s) fs) (l:c<n) (k:fs.best (true,c,a)=some j) (m:j<s.rows.length) (o:ae fs j=some q) (h:aR F p q=some w):Kn (ef n F at_ a s) w:=by have i:Imp s (a6 (cy F) .ao at_ (a6 (cG F) .sure at_ s)):=(eC _ _ _ _).trans (eC _ _ _ _);unfold ef at hZ ⊢;dsimp only at hZ ⊢;generalize a6 (cy F) .ao at_ (a6 (cG F) .sure at_ s)=s2 at*;have d:Imp s2 fs:=(cW (f:=λr j=>ai (aR F) .back at_ j r) (λ_ _=>ck ..) (cO n s2 a) s2).trans hZ;have e:j<s2.rows.length:=gn m i.1.len;refine yP (λ_ _=>ck ..) (j:=j) (oD.mpr ⟨c,n9.mpr l,wc d.1 k e⟩) λt g=>?_;exact yz (br (i.1.trans g.1) hp) (br g.1 (oo d.1 e o)) h
end
structure Fin (n:Nat) (F:c9) (most:Int) (s0:St) (T:Nat):Prop where
 iC:fw n F most
 good:bz n s0
 first:∀t,t<T->t<(run n F s0 t).rows.length
 stop:(run n F s0 T).rows.length<=T
variable {n:Nat}
theorem Fin.ev (h:Fin n F most s0 T) (d:(run n F s0 T).best k=some i) (c:ae (run n F s0 T) i=some p):
 i<(run n F s0 i).rows.length/\ae (run n F s0 i) i=some p/\(run n F s0 i).best k=some i/\Imp (run n F s0 (i+1)) (run n F s0 T):=by
 have f:=jQ c;have b:i<T:=gn f h.stop;have a:=h.first i b;have e:=pj (n:=n) (F:=F) (s:=s0) (aP b);exact ⟨a,oo e.1 a c,wc e.1 d a,pj b⟩
theorem Fin.row (h:Fin n F most s0 T) (j:val (run n F s0 T) (t,a,b)=some v):∃i p,(run n F s0 T).best (t,a,b)=some i/\ae (run n F s0 T) i=some p/\p.tie=t/\p.a=a/\p.b=b/\p.v=v/\a<n/\b<n:=by have g:=u9 h.iC h.good T;obtain ⟨i,p,d,c,e,f⟩:=vU g j;obtain ⟨k,m,o⟩:=gc e;have l:=g.lt _ _ c;exact ⟨i,p,d,c,k,m,o,f,by lia,by lia⟩
theorem Fin.tie (h:Fin n F most s0 T) (f:(run n F s0 T).best (true,a,b)=some i) (g:ae (run n F s0 T) i=some p) (l:p.tie=true) (j:p.a=a) (k:p.b=b):
 Imp (d9 n F i a b (run n F s0 i)) (run n F s0 T):=by
 obtain ⟨_,c,d,e⟩:=h.ev f g;have:run n F s0 (i+1)=d9 n F i a b (run n F s0 i):=zi c l j k d;rw [<-this];exact e
theorem Fin.a3 (h:Fin n F most s0 T) (o:val (run n F s0 T) (true,a,b)=some v) (l:a≠b) (m:F b=some f):Kn (run n F s0 T) ⟨false,a,b,f.2.2-v⟩:=by obtain ⟨i,p,e,g,j,c,d,q,_⟩:=h.row o;obtain ⟨_,k,_⟩:=h.ev e g;refine (Rk k ?_).imp (h.tie e g j c d);unfold cz;rw [if_pos ⟨j,by rw [c,d];exact l⟩,d,m,c,q];rfl
theorem Fin.aS (h:Fin n F most s0 T) (r:val (run n F s0 T) (true,a,b)=some v) (m:a≠b) (q:v<0) (o:F a=some f):Kn (run n F s0 T) ⟨true,f.1,b,f.2.1+v⟩:=by obtain ⟨i,p,e,g,j,c,d,k,_⟩:=h.row r;obtain ⟨_,l,_⟩:=h.ev e g;refine (QU l ?_).imp (h.tie e g j c d);unfold cD;rw [if_pos ⟨j,by rw [c,d];exact m,by rw [k];exact q⟩,c,o,d,k];rfl
theorem Fin.sum (h:Fin n F most s0 T) (E:val (run n F s0 T) (true,a,b)=some v) (D:val (run n F s0 T) (true,b,c)=some u):Kn (run n F s0 T) ⟨true,a,c,v+u⟩:=by
 obtain ⟨i,p,e,f,r,m,o,I,y,_⟩:=h.row E;obtain ⟨j,q,g,k,x,s,t,J,_,z⟩:=h.row D;have l:av p q=some ⟨true,a,c,v+u⟩:=by unfold av;rw [if_pos ⟨r,x,by rw [o,s]⟩,m,t,I,J]
 obtain ⟨G,A,_⟩:=h.ev e f;obtain ⟨H,B,_⟩:=h.ev g k
 by_cases C:j<=i
 ·have d:=h.tie e f r m o;exact (QV A d z g (l9 C G) k l).imp d
 ·have d:=h.tie g k x s t;exact (QW B d y e (l9 (by lia) H) f l).imp d
theorem Fin.wait (h:Fin n F most s0 T) (j:(run n F s0 T).best (false,a,b)=some i) (k:ae (run n F s0 T) i=some p) (d:p.tie=false) (c:p.a=a) (l:p.b=b):
 Imp (ef n F i a (run n F s0 i)) (run n F s0 T):=by
 obtain ⟨_,e,f,g⟩:=h.ev j k;have:run n F s0 (i+1)=ef n F i a (run n F s0 i):=by rw [<-c];exact Cs e d (by unfold ah.key;rw [d,c,l];exact f)
 rw [<-this];exact g
theorem Fin.sure (h:Fin n F most s0 T) (m:val (run n F s0 T) (false,a,b)=some v) (l:F b=some f):Kn (run n F s0 T) ⟨true,a,f.1,-min v f.2.1⟩:=by obtain ⟨i,p,c,d,j,e,g,o,_⟩:=h.row m;obtain ⟨_,k,_⟩:=h.ev c d;refine (Ru k ?_).imp (h.wait c d j e g);unfold cG;rw [if_pos j,g,l,e,o];rfl
theorem Fin.ao (h:Fin n F most s0 T) (t:val (run n F s0 T) (false,a,b)=some v) (q:a≠b) (m:0<v) (s:F a=some o) (r:F b=some f):Kn (run n F s0 T) ⟨false,o.1,b,min v f.2.2-o.2.1⟩:=by obtain ⟨i,p,e,g,j,c,d,k,_⟩:=h.row t;obtain ⟨_,l,_⟩:=h.ev e g;refine (RE l ?_).imp (h.wait e g j c d);unfold cy;rw [if_pos ⟨j,by rw [c,d];exact q,by rw [k];exact m⟩,c,s,d,r,k];rfl
theorem Fin.back (h:Fin n F most s0 T) (I:val (run n F s0 T) (false,a,b)=some v) (H:val (run n F s0 T) (true,c,a)=some u) (D:c≠b) (E:F b=some f):Kn (run n F s0 T) ⟨false,c,b,min v f.2.2-u⟩:=by
 obtain ⟨i,p,e,g,t,s,m,M,_,z⟩:=h.row I;obtain ⟨j,q,k,l,y,o,x,N,A,_⟩:=h.row H;have r:aR F p q=some ⟨false,c,b,min v f.2.2-u⟩:=by unfold aR;rw [if_pos ⟨t,y,by rw [x,s],by rw [o,m];exact D⟩,m,E,o,M,N];rfl
 obtain ⟨J,B,_⟩:=h.ev e g;obtain ⟨L,C,_⟩:=h.ev k l
 by_cases G:j<=i
 ·have d:=h.wait e g t s m;exact (Rr B d A k (l9 G J) l r).imp d
 ·have d:=h.tie k l y o x;exact (Rj C d z e (l9 (by lia) L) g r).imp d
def iF (C:ah->Prop) (st:St):Prop:=∀i w,ae st i=some w->C w
theorem BB (h:iF C st) (c:∀w,o=some w->C w):iF C (put st o word us):=λi w b=>by
 by_cases a:i<st.rows.length
 ·exact h i w (oo (og _ _ _ _) a b)
 ·exact oe c i w (by exact jm a) b
theorem yD (a:∀p w,C p->f p=some w->C w) (h:iF C st):iF C (a6 f word i st):=BB h λw e=>by
 cases o:ae st i with
 | none=>rw [o] at e;cases e
 | some p=>rw [o] at e;exact a p w (h i p o) e
theorem yE (a:∀p q w,C p->C q->f p q=some w->C w) (h:iF C st):iF C (ai f word i j st):=BB h λw e=>by
 cases o:ae st i with
 | none=>rw [o] at e;cases e
 | some p=>
  rw [o] at e;have e:((ae st j).bind λq=>f p q)=some w:=e
  cases I:ae st j with
  | none=>rw [I] at e;cases e
  | some q=>rw [I] at e;exact a p q w (h i p o) (h j q I) e
theorem vO (b:∀s j,iF C s->iF C (g s j)):∀(l:List Nat) (s:St),iF C s->iF C (l.foldl g s)
 | [],_,h=>h
 | a::l,s,h=>vO b l _ (b s a h)
structure LH (F:c9) (C:ah->Prop):Prop where
 sum:∀p q w,C p->C q->av p q=some w->C w
 a3:∀p w,C p->cz F p=some w->C w
 aS:∀p w,C p->cD F p=some w->C w
 sure:∀p w,C p->cG F p=some w->C w
 back:∀p q w,C p->C q->aR F p q=some w->C w
 ao:∀p w,C p->cy F p=some w->C w
theorem Ig (G:LH F C) (h:iF C s):∀t,iF C (run n F s t)
 | 0=>h
 | t+1=>by
  have a:=Ig G h t;show iF C (look n F t (run n F s t));unfold look;split
  ·split
   ·split
    ·exact vO (λ_ _ h=>yE G.back h) _ _ (vO (λ_ _ h=>yE G.sum h) _ _ (vO (λ_ _ h=>yE G.sum h) _ _ (yD G.aS (yD G.a3 a))))
    ·exact vO (λ_ _ h=>yE G.back h) _ _ (yD G.ao (yD G.sure a))
   ·exact a
  ·exact a
theorem K':∀(rows:List ah) (s:St),iF C s->(∀w∈rows,C w)->iF C (ja rows s)
 | [],_,h,_=>h
 | w::r,s,h,a=>K' r _ (BB (o:=some w) h λb e=>by cases e;exact a _ dB) λb c=>a b (eI _ c)
theorem QM:iF C empty:=λi w h=>by unfold ae empty at h;simp at h
end MU
open MU (f_ BP L3 Ll)
namespace HK
abbrev ia:=Nat->Option (Nat×Int×Int)
def cQ (F:ia) (o:Nat->Int):Prop:=∀e f,F e=some f->f.2.1<=o e/\o e<=f.2.2
def d8 (o:Nat->Int) (e:Nat) (l:Int):Nat->Int:=λx=>if x=e then l else o x
theorem kO (o:Nat->Int) (e:Nat) (l:Int):d8 o e l e=l:=if_pos U
theorem ml (h:x≠e):d8 o e l x=o x:=if_neg h
theorem cQ.set (h:cQ F o) (i:F e=some f) (b:f.2.1<=l) (d:l<=f.2.2):cQ F (d8 o e l):=λx g a=>by
 by_cases c:x=e
 ·subst c;rw [i] at a;cases a;rw [kO];exact ⟨b,d⟩
 ·rw [ml c];exact h x g a
structure cx (F:ia) (n:Nat) (tm:(Nat->Int)->Nat->Int):Prop where
 bM:∀{o e f},cQ F o->F e=some f->tm o e=tm o f.1+o e
 lu:∀{o e f l t},cQ F o->F e=some f->f.2.1<=l->l<=f.2.2->t<tm o f.1+o e->t<tm o f.1+l->∀{m},m<n->tm o m<=t->tm (d8 o e l) m=tm o m
def O8 (F:ia) (n:Nat) (a:(Nat->Int)->Nat->Int) (w:ah):Prop:=w.a<n/\w.b<n/\(w.tie=true->∀o,cQ F o->a o w.b<=a o w.a+w.v)/\
 (w.tie=false->∀f,F w.b=some f->∀o,cQ F o->a o f.1+w.v<=a o w.a\/a o w.b<=a o w.a)
section
theorem fo (a:fw n F most) (b:F e=some f):f.1<n/\e<n/\1<=f.2.1/\f.2.1<=f.2.2:=⟨(a.lt _ _ b).1,(a.lt _ _ b).2,(a.num _ _ b).1,(a.num _ _ b).2.1⟩
theorem cx.begin (S:cx F n tm) (g:fw n F most) (b:cQ F o) (a:F e=some f) (c:f.2.1<=l) (d:l<=f.2.2):tm (d8 o e l) f.1=tm o f.1:=by have h:=fo g a;have:=b e f a;exact S.lu b a c d (t:=tm o f.1) (by lia) (by lia) (ou h.1) mn
theorem cx.a3 (S:cx F n tm) (g:fw n F most) (i:a<n) (c:cQ F o) (b:F e=some f) (j:tm o a<tm o e):
 cQ F (d8 o e f.2.2)/\tm (d8 o e f.2.2) a=tm o a/\tm (d8 o e f.2.2) f.1=tm o f.1/\tm (d8 o e f.2.2) e=tm o f.1+f.2.2:=by
 have h:=fo g b;have k:=c e f b;have m:=S.bM c b;have ok:=c.set b (l:=f.2.2) (kQ h.2.2.2) mn;have d:=S.begin g c b (l:=f.2.2) (kQ h.2.2.2) mn;refine ⟨ok,S.lu c b (kQ h.2.2.2) mn (t:=tm o a) (by lia) (by lia) i mn,d,?_⟩;rw [S.bM ok b,d,kO]
theorem cx.Ff (S:cx F n tm) (m:fw n F most):MU.LH F (O8 F n tm):=by
 refine ⟨λp q w a u h=>?_,λp w a h=>?_,λp w a h=>?_,λp w a h=>?_,λp q w a u h=>?_,λp w a h=>?_⟩
 ·unfold av at h;split at h
  next c=>
   cases h;refine ⟨a.1,u.2.1,λ_ o d=>?_,nofun⟩;have k:=a.2.2.1 c.1 o d;have e:=u.2.2.1 c.2.1 o d;rw [<-c.2.2] at e;show tm o q.b<=tm o p.a+(p.v+q.v);lia
  ·cases h
 ·unfold cz at h;split at h
  next c=>
   cases hf:F p.b with
   | none=>rw [hf] at h;cases h
   | some f=>
    rw [hf] at h;cases h;refine ⟨a.1,a.2.1,nofun,λ_ g b o d=>?_⟩;have b:F p.b=some g:=b;rw [hf] at b;cases b;show tm o f.1+(f.2.2-p.v)<=tm o p.a\/tm o p.b<=tm o p.a
    by_cases k:tm o p.a<tm o p.b
    ·obtain ⟨j,s,_,r⟩:=S.a3 m a.1 d hf k;have:=a.2.2.1 c.1 _ j;rw [s,r] at this;left;lia
    ·right;exact jV k
  ·cases h
 ·unfold cD at h;split at h
  next c=>
   cases hf:F p.a with
   | none=>rw [hf] at h;cases h
   | some f=>
    rw [hf] at h;cases h;have i:=fo m hf;refine ⟨by show f.1<n;exact ou i.1,a.2.1,λ_ o d=>?_,nofun⟩;show tm o p.b<=tm o f.1+(f.2.1+p.v);have e:=d _ _ hf;have ok:=d.set hf (l:=f.2.1) mn (kQ i.2.2.2);have r:=S.begin m d hf (l:=f.2.1) mn (kQ i.2.2.2);have v:=a.2.2.1 c.1 _ ok;rw [S.bM ok hf,r,kO] at v;have B:d8 (d8 o p.a f.2.1) p.a (o p.a)=o:=by
     funext x
     by_cases z:x=p.a
     ·rw [z,kO]
     ·rw [ml z,ml z]
    have C:=S.lu ok hf (l:=o p.a) (t:=tm (d8 o p.a f.2.1) p.b) (kQ e.1) (kQ e.2) (by rw [r,kO];lia) (by rw [r];lia) a.2.1 mn;rw [B] at C;lia
  ·cases h
 ·unfold cG at h;split at h
  next c=>
   cases hf:F p.b with
   | none=>rw [hf] at h;cases h
   | some f=>
    rw [hf] at h;cases h;have i:=fo m hf;refine ⟨a.1,by show f.1<n;exact ou i.1,λ_ o d=>?_,nofun⟩;show tm o f.1<=tm o p.a+ -min p.v f.2.1;have e:=d _ _ hf;have v:=S.bM d hf;rcases a.2.2.2 c f hf o d with h | h<;>lia
  ·cases h
 ·unfold aR at h;split at h
  next c=>
   cases hf:F p.b with
   | none=>rw [hf] at h;cases h
   | some f=>
    rw [hf] at h;cases h;refine ⟨u.1,a.2.1,nofun,λ_ g b o d=>?_⟩;have b:F p.b=some g:=b;rw [hf] at b;cases b;show tm o f.1+(min p.v f.2.2-q.v)<=tm o q.a\/tm o p.b<=tm o q.a
    by_cases k:tm o q.a<tm o p.b
    ·obtain ⟨j,s,D,r⟩:=S.a3 m u.1 d hf k;have e:=u.2.2.1 c.2.1 _ j;rw [s,c.2.2.1] at e;have v:=a.2.2.2 c.1 f hf _ j;rw [D,r] at v;left;lia
    ·right;exact jV k
  ·cases h
 ·unfold cy at h;split at h
  next c=>
   cases b:F p.a with
   | none=>rw [b] at h;cases h
   | some g=>
    rw [b] at h
    cases hf:F p.b with
    | none=>rw [hf] at h;cases h
    | some f=>
     rw [hf] at h;cases h;have i:=fo m b;have I:=fo m hf;refine ⟨by show g.1<n;exact ou i.1,a.2.1,nofun,λ_ f' y o d=>?_⟩;have y:F p.b=some f':=y;rw [hf] at y;cases y;show tm o f.1+(min p.v f.2.2-g.2.1)<=tm o g.1\/tm o p.b<=tm o g.1
     by_cases k:tm o g.1<tm o p.b
     ·obtain ⟨j,s,D,r⟩:=S.a3 m (show g.1<n by exact ou i.1) d hf k;left;generalize d8 o p.b f.2.2=o1 at j s D r;have e:=j _ _ b;have ok:=j.set b (l:=g.2.1) mn (kQ i.2.2.2);have A:=S.begin m j b (l:=g.2.1) mn (kQ i.2.2.2);have v:=a.2.2.2 c.1 f hf _ ok;have E:=S.bM ok b;have C:=S.bM ok hf;rw [kO,A,s] at E;have G:d8 o1 p.a g.2.1 p.b=o1 p.b:=ml (aQ c.2.1);have J:=S.bM j hf;rw [G] at C;have B:d8 (d8 o1 p.a g.2.1) p.a (o1 p.a)=o1:=by
       funext x
       by_cases z:x=p.a
       ·rw [z,kO]
       ·rw [ml z,ml z]
      have H:tm (d8 o1 p.a g.2.1) f.1<tm o g.1+g.2.1->tm o1 f.1=tm (d8 o1 p.a g.2.1) f.1:=λz=>by
       have:=S.lu ok b (l:=o1 p.a) (t:=tm (d8 o1 p.a g.2.1) f.1) (kQ e.1) (kQ e.2) (by rw [A,s,kO];omega) (by rw [A,s];lia) (show f.1<n by exact ou I.1) mn
       rwa [B] at this
      by_cases z:tm (d8 o1 p.a g.2.1) f.1<tm o g.1+g.2.1
      ·have:=H z;lia
      ·have:=c.2.2;lia
     ·right;exact jV k
  ·cases h
theorem cx.wF (S:cx F n tm) (e:fw n F most) (h:MU.iF (O8 F n tm) s) (g:f_ s) (f:cQ F o) (t:Nat):(MU.run n F s t).bar=none:=by
 cases C:(MU.run n F s t).bar with
 | none=>rfl
 | some b=>
  obtain ⟨r,c,a⟩:=(BP g t).2 b C;have d:=MU.Ig (n:=n) (S.Ff e) h t b r.bP (by unfold ae;rw [c];rfl);have:=d.2.2.1 a.1 o f;rw [a.2.1] at this;have:=a.2.2;lia
end
end HK
namespace HG
open HK
abbrev c8:=List (Option Int)
def af (ds:c8) (x:Nat):Option Int:=(ds[x]?).getD none
theorem eE (h:af ds x=some t):x<ds.length:=by
 unfold af at h
 cases hx:ds[x]? with
 | none=>rw [hx] at h;cases h
 | some y=>exact (eP.mp hx).1
theorem dZ (e:a.length=b.length) (h:∀x,x<a.length->af a x=af b x):a=b:=by
 refine List.ext_getElem e λx c d=>?_;have:=h x c;unfold af at this
 rwa [gp c,gp d] at this
theorem qG (a:m<ds.length) (x:Nat):af (ds.set m v) x=if x=m then v else af ds x:=by
 unfold af;rw [List.getElem?_set]
 by_cases h:x=m
 ·subst h;rw [if_pos rfl,if_pos a,if_pos rfl];rfl
 ·rw [if_neg (aQ h),if_neg h]
theorem cM (h:x<n):af ((List.range n).map g) x=g x:=by unfold af;rw [dC,List.getElem?_range h];rfl
abbrev um:=List (Nat×Nat×Int)
def jI (ds:c8) (b:Nat×Nat×Int):Bool:=match af ds b.1,af ds b.2.1 with
 | some x,some y=>decide (x+b.2.2<y)
 | _,_=>false
def brk (B:um) (ds:c8):Bool:=B.any (jI ds)
theorem GV:brk B ds=false↔∀b∈B,∀x y,af ds b.1=some x->af ds b.2.1=some y->y<=x+b.2.2:=by
 unfold brk;rw [List.any_eq_false];refine ⟨λh b a x y c d=>?_,λh b a=>?_⟩
 ·have:=h b a;unfold jI at this;rw [c,d] at this;have:=of_decide_eq_false (Bool.not_eq_true _▸this);lia
 ·unfold jI
  cases c:af ds b.1 with
  | none=>exact d_
  | some x=>
   cases d:af ds b.2.1 with
   | none=>exact d_
   | some y=>
    have:=h b a x y c d;rw [Bool.not_eq_true];exact cF (by lia)
def aC (F:ia) (i:Int) (ds:c8) (a:List c8) (m:Nat):List c8:=
 if af ds m=none/\F m=none then (if m=0 then [] else a)++a.map (λw=>w.set m (some i)) else a
def bh (F:ia) (n:Nat) (i:Int) (ds:c8):List c8:=(List.range n).foldl (aC F i ds) [ds]
theorem cL:∀{k:Nat},k<=ds.length->∀{way},way∈bh F k i ds->way.length=ds.length/\(∀x,af way x=af ds x\/(x<k/\af ds x=none/\F x=none/\af way x=some i))/\(0<k->af ds 0=none->F 0=none->af way 0=some i)
 | 0,_,way,h=>by cases dF.mp h;exact ⟨U,λ_=>.inl U,λh=>absurd h (iD _)⟩
 | k+1,m,way,h=>by
  unfold bh at h;rw [xN,ue] at h;have g:=λ{way}=>cL (F:=F) (i:=i) (ds:=ds) (k:=k) (Nat.le_of_succ_le m) (way:=way);unfold bh at g;generalize (List.range k).foldl (aC F i ds) [ds]=W at h g;have h:way∈aC F i ds W k:=h;unfold aC at h;split at h
  next c=>
   rcases fe.mp h with h | h
   ·by_cases b:k=0
    ·rw [if_pos b] at h;cases h
    ·rw [if_neg b] at h;obtain ⟨a,d,f⟩:=g h;exact ⟨a,λx=>(d x).imp_right λz=>⟨lS z.1,z.2⟩,λ_=>f (tX b)⟩
   ·obtain ⟨w,o,rfl⟩:=cn.mp h;obtain ⟨a,d,f⟩:=g o;have n:k<w.length:=by rw [a];exact m
    refine ⟨by rw [oA,a],λx=>?_,λ_ j l=>?_⟩
    ·rw [qG n]
     by_cases e:x=k
     ·subst e;exact .inr ⟨qj _,c.1,c.2,if_pos U⟩
     ·rw [if_neg e];exact (d x).imp_right λz=>⟨lS z.1,z.2⟩
    ·rw [qG n]
     by_cases e:0=k
     ·rw [if_pos e]
     ·rw [if_neg e];exact f (tX (aQ e)) j l
  next c=>
   obtain ⟨a,d,f⟩:=g h;refine ⟨a,λx=>(d x).imp_right λz=>⟨lS z.1,z.2⟩,λ_ j l=>?_⟩
   by_cases b:k=0
   ·subst b;exact absurd ⟨j,l⟩ c
   ·exact f (tX b) j l
theorem Kp (j:way.length=ds.length) (h:∀x,af way x=af ds x\/(af ds x=none/\F x=none/\af way x=some i)) (o:af ds 0=none->F 0=none->af way 0=some i):way∈bh F ds.length i ds:=by
 have p:∀k,k<=ds.length->∀w:c8,w.length=ds.length->(∀x,af w x=if x<k then af way x else af ds x)->w∈bh F k i ds:=by
  intro k
  induction k with
  | zero=>exact λ_ w b e=>dF.mpr (dZ b λx _=>by rw [e x,if_neg (lU _)])
  | succ k d=>
   intro f w b e;unfold bh;rw [xN,ue];have d:=d (Nat.le_of_succ_le f);unfold bh at d;generalize (List.range k).foldl (aC F i ds) [ds]=W at d;show w∈aC F i ds W k;have n:af w k=af way k:=by rw [e k,if_pos (qj _)]
   have m:af way k=af ds k->w∈W:=λz=>d w b λx=>by
    rw [e x]
    by_cases c:x<k
    ·rw [if_pos c,if_pos (lS c)]
    ·rw [if_neg c]
     by_cases a:x<k+1
     ·rw [if_pos a,show x=k by lia,z]
     ·rw [if_neg a]
   unfold aC;split
   next c=>
    rcases h k with z | ⟨_,_,z⟩
    ·refine h_ _ ?_
     by_cases l:k=0
     ·subst l;rw [o c.1 c.2,c.1] at z;cases z
     ·rw [if_neg l];exact m z
    ·refine i5 _ (cn.mpr ⟨w.set k (af ds k),d _ (by rw [oA,b]) λx=>?_,?_⟩)
     ·rw [qG (by rw [b];exact f)]
      by_cases a:x=k
      ·subst a;rw [if_pos rfl,if_neg (iD _)]
      ·rw [if_neg a,e x]
       by_cases g:x<k
       ·rw [if_pos g,if_pos (lS g)]
       ·rw [if_neg g,if_neg (by lia)]
     ·refine dZ (by rw [oA,oA]) λx _=>?_;rw [qG (by rw [oA,b];exact f),qG (by rw [b];exact f)]
      by_cases a:x=k
      ·subst a;rw [if_pos rfl,n,z]
      ·rw [if_neg a,if_neg a]
   next c=>
    rcases h k with z | ⟨q,r,_⟩
    ·exact m z
    ·exact absurd ⟨q,r⟩ c
 refine p _ (aj _) way j λx=>?_
 by_cases c:x<ds.length
 ·rw [if_pos c]
 ·rw [if_neg c]
  cases hx:af way x with
  | some t=>exact absurd (j▸eE hx) c
  | none=>
   cases hy:af ds x with
   | some t=>exact absurd (eE hy) c
   | none=>rfl
abbrev lW:=List (Nat×Nat×Int×Int)
def gD (j:Int) (ds:c8) (f:Nat×Nat×Int×Int) (s:Int):Prop:=af ds f.1=some s/\af ds f.2.1=none/\f.2.2.1<=j-s
def ag (j:Int) (ds:c8) (a:List c8) (f:Nat×Nat×Int×Int):List c8:=match af ds f.1,af ds f.2.1 with
 | some s,none=>if f.2.2.1<=j-s then (if j-s<f.2.2.2 then a.map (λw=>w.set f.2.1 (some j))++a else a.map (λw=>w.set f.2.1 (some j))) else a
 | _,_=>a
def aY (fs:lW) (j:Int) (ds:c8):List c8:=fs.foldl (ag j ds) [ds]
theorem cB (h:gD j ds f s):ag j ds W f=if j-s<f.2.2.2 then W.map (λw=>w.set f.2.1 (some j))++W else W.map (λw=>w.set f.2.1 (some j)):=by unfold ag;rw [h.1,h.2.1];exact if_pos h.2.2
theorem dN (h:∀s,¬gD j ds f s):ag j ds W f=W:=by
 unfold ag;split
 next s a b=>
  split
  next c=>exact absurd ⟨a,b,c⟩ (h s)
  ·rfl
 ·rfl
theorem VP (h:gD j ds f s) (h':gD j ds f s'):s=s':=by have:=h.1.symm.trans h'.1;cases this;rfl
theorem dR:∀{fs:lW} {W:List c8} {way:c8},(∀f∈fs,f.2.1<ds.length)->(∀w∈W,w.length=ds.length)->way∈fs.foldl (ag j ds) W->
 ∃w0∈W,way.length=ds.length/\(∀x,af way x=af w0 x\/∃f∈fs,f.2.1=x/\(∃s,gD j ds f s)/\af way x=some j)/\∀f∈fs,∀s,gD j ds f s->¬j-s<f.2.2.2->af way f.2.1=some j
 | [],W,way,_,l,h=>⟨way,h,l way h,λ_=>.inl U,λ_ z=>nomatch z⟩
 | f::fs,W,way,y,l,h=>by
  have E:=y f dB;have D:∀f∈fs,f.2.1<ds.length:=λg a=>y g (eI _ a);have C:∀w∈ag j ds W f,w.length=ds.length:=λw d=>by
   by_cases c:∃s,gD j ds f s
   ·obtain ⟨s,c⟩:=c;have m:∀{w},w∈W.map (λw=>w.set f.2.1 (some j))->w.length=ds.length:=λd=>by
     obtain ⟨u,o,rfl⟩:=cn.mp d;rw [oA];exact l u o
    rw [cB c] at d;split at d
    ·rcases fe.mp d with d | d
     ·exact m d
     ·exact l w d
    ·exact m d
   ·rw [dN λs z=>c ⟨s,z⟩] at d;exact l w d
  obtain ⟨w0,b,p,n,q⟩:=dR (fs:=fs) D C h;have r:∀{x w},af way x=af w x\/(∃g∈fs,g.2.1=x/\(∃s,gD j ds g s)/\af way x=some j)->af way x=af w x\/(∃g∈f::fs,g.2.1=x/\(∃s,gD j ds g s)/\af way x=some j):=
   λz=>z.imp_right λ⟨g,F,G⟩=>⟨g,eI _ F,G⟩
  by_cases c:∃s,gD j ds f s
  ·obtain ⟨s,c⟩:=c;rw [cB c] at b;have m:w0∈W.map (λw=>w.set f.2.1 (some j))->∃u∈W,way.length=ds.length/\(∀x,af way x=af u x\/∃g∈f::fs,g.2.1=x/\(∃s,gD j ds g s)/\af way x=some j)/\∀g∈f::fs,∀s,gD j ds g s->¬j-s<g.2.2.2->af way g.2.1=some j:=λb=>by
    obtain ⟨u,o,rfl⟩:=cn.mp b;have A:f.2.1<u.length:=by rw [l u o];exact E
    have v:af way f.2.1=some j:=by
     rcases n f.2.1 with z | ⟨g,_,_,_,z⟩
     ·rw [z,qG A,if_pos rfl]
     ·exact z
    refine ⟨u,o,p,λx=>?_,λg a t i k=>?_⟩
    ·by_cases e:x=f.2.1
     ·subst e;exact .inr ⟨f,dB,U,⟨s,c⟩,v⟩
     ·have:=n x;rw [qG A,if_neg e] at this;exact r this
    ·rcases eG.mp a with rfl | a
     ·exact v
     ·exact q g a t i k
   split at b
   next B=>
    rcases fe.mp b with b | b
    ·exact m b
    ·refine ⟨w0,b,p,λx=>r (n x),λg a t i k=>?_⟩;rcases eG.mp a with rfl | a
     ·rw [VP i c] at k;exact absurd B k
     ·exact q g a t i k
   ·exact m b
  ·rw [dN λs z=>c ⟨s,z⟩] at b;refine ⟨w0,b,p,λx=>r (n x),λg a t i k=>?_⟩;rcases eG.mp a with rfl | a
   ·exact absurd ⟨t,i⟩ c
   ·exact q g a t i k
theorem z9 (m:nx.length=ds.length):∀{fs:lW} {W:List c8} {w0:c8},(∀f∈fs,f.2.1<ds.length)->w0∈W->w0.length=ds.length->
 (∀x,af nx x=af w0 x\/∃f∈fs,f.2.1=x/\(∃s,gD j ds f s)/\af nx x=some j)->(∀f∈fs,∀s,gD j ds f s->¬j-s<f.2.2.2->af nx f.2.1=some j)->nx∈fs.foldl (ag j ds) W
 | [],W,w0,_,h,b,l,_=>by have:nx=w0:=dZ (m.trans b.symm) λx _=>(l x).elim id λ⟨_,z,_⟩=>nomatch z;rw [this];exact h
 | f::fs,W,w0,u,h,b,l,t=>by
  have v:=u f dB;have o:∀f∈fs,f.2.1<ds.length:=λg a=>u g (eI _ a);have n:∀f∈fs,∀s,gD j ds f s->¬j-s<f.2.2.2->af nx f.2.1=some j:=λg a=>t g (eI _ a);have q:((∃s,gD j ds f s)->af nx f.2.1≠some j)->∀x,af nx x=af w0 x\/∃f∈fs,f.2.1=x/\(∃s,gD j ds f s)/\af nx x=some j:=λz x=>by
   rcases l x with e | ⟨g,a,d,i,r⟩
   ·exact .inl e
   ·rcases eG.mp a with rfl | a
    ·subst d;exact absurd r (z i)
    ·exact .inr ⟨g,a,d,i,r⟩
  show nx∈fs.foldl (ag j ds) (ag j ds W f)
  by_cases c:∃s,gD j ds f s
  ·obtain ⟨s,c⟩:=c
   by_cases e:af nx f.2.1=some j
   ·refine z9 m (w0:=w0.set f.2.1 (some j)) o ?_ (by rw [oA,b]) (λx=>?_) n
    ·have:w0.set f.2.1 (some j)∈W.map (λw=>w.set f.2.1 (some j)):=cn.mpr ⟨w0,h,U⟩;rw [cB c];split
     ·exact h_ _ this
     ·exact this
    ·rw [qG (by rw [b];exact v)]
     by_cases k:x=f.2.1
     ·rw [if_pos k,k];exact .inl e
     ·rw [if_neg k];rcases l x with z | ⟨g,a,d,i⟩
      ·exact .inl z
      ·rcases eG.mp a with rfl | a
       ·exact absurd d.symm k
       ·exact .inr ⟨g,a,d,i⟩
   ·refine z9 m (w0:=w0) o ?_ b (q λ_=>e) n;rw [cB c]
    by_cases p:j-s<f.2.2.2
    ·rw [if_pos p];exact i5 _ h
    ·exact absurd (t f dB s c p) e
  ·refine z9 m (w0:=w0) o ?_ b (q λz=>absurd z c) n;rw [dN λs z=>c ⟨s,z⟩];exact h
def good (b:c8->Bool) (B:um) (fs:lW) (la:Int) (k:Nat) (way:c8):Bool:= !brk B way && (way.all Option.isSome || (decide (0<k) && (aY fs (la-k+1) way).all λa=> !brk B a && b a))
def jZ (F:ia) (n:Nat) (B:um) (fs:lW) (la:Int):Nat->c8->Bool
 | 0,_=>false
 | k+1,a=>(bh F n (la-k) a).any (good (jZ F n B fs la k) B fs la k)
structure iW (F:ia) (n:Nat) (fs:lW):Prop where
 to:∀f∈fs,F f.2.1=some (f.1,f.2.2)
 of:∀e f,F e=some f->(f.1,e,f.2)∈fs
 lt:∀e f,F e=some f->f.1<n/\e<n/\1<=f.2.1/\f.2.1<=f.2.2/\F f.1=none
def eV (F:ia) (n:Nat) (a:(Nat->Int)->Nat->Int) (i:Int) (o:Nat->Int):c8:=(List.range n).map λx=>if a o x<i\/(a o x=i/\(F x).isSome=true) then some (a o x) else none
def i_ (n:Nat) (a:(Nat->Int)->Nat->Int) (i:Int) (o:Nat->Int):c8:=(List.range n).map λx=>if a o x<=i then some (a o x) else none
theorem cA:(eV F n tm i o).length=n:=by unfold eV;rw [ax,rp]
theorem zG:(i_ n tm i o).length=n:=by unfold i_;rw [ax,rp]
theorem JY (h:¬x<ds.length):af ds x=none:=by
 cases hx:af ds x with
 | none=>rfl
 | some t=>exact absurd (eE hx) h
theorem JW (S:cx F n tm) (E:iW F n fs) (I:cQ F o) (a:Nat->Int) (H:∀e,a e≠o e->∃f,F e=some f/\tm o f.1<=i/\i<tm o f.1+o e/\i<tm o f.1+a e/\f.2.1<=a e/\a e<=f.2.2):
 ∀k,∃o1,cQ F o1/\(∀e,o1 e=if e<k then a e else o e)/\(∀x,x<n->tm o x<=i->tm o1 x=tm o x)/\∀x,x<n->tm o1 x<=i->tm o x=tm o1 x
 | 0=>⟨o,I,λe=>(if_neg (lU _)).symm,λ_ _ _=>rfl,λ_ _ _=>rfl⟩
 | k+1=>by
  obtain ⟨o1,j,r,p,D⟩:=JW S E I a H k;have G:o1 k=o k:=by rw [r k,if_neg (iD _)]
  by_cases c:a k=o k
  ·refine ⟨o1,j,λe=>?_,p,D⟩;rw [r e]
   by_cases q:e=k
   ·subst q;rw [if_neg (iD _),if_pos (qj _),c]
   ·by_cases d:e<k
    ·rw [if_pos d,if_pos (lS d)]
    ·rw [if_neg d,if_neg (by lia)]
  ·obtain ⟨f,h,u,v,y,A,B⟩:=H k c;obtain ⟨L,O,_⟩:=E.lt k f h;have b:=p f.1 L u;have ok:=j.set h A B;have M:∀{m},m<n->tm o1 m<=i->tm (d8 o1 k (a k)) m=tm o1 m:=λs z=>S.lu j h A B (by rw [b,G];exact v) (by rw [b];exact y) s z;have q:d8 (d8 o1 k (a k)) k (o1 k)=o1:=by
    funext x
    by_cases z:x=k
    ·rw [z,kO]
    ·rw [ml z,ml z]
   have C:tm (d8 o1 k (a k)) f.1=tm o f.1:=by rw [M L (by rw [b];exact u),b]
   have J:=j k f h;have N:∀{m},m<n->tm (d8 o1 k (a k)) m<=i->tm o1 m=tm (d8 o1 k (a k)) m:=λ{m} s z=>by
    have:=S.lu ok h (l:=o1 k) (t:=i) J.1 J.2 (by rw [C,kO];exact y) (by rw [C,G];exact v) s z
    rwa [q] at this
   refine ⟨d8 o1 k (a k),ok,λe=>?_,λx g z=>?_,λx g z=>?_⟩
   ·by_cases z:e=k
    ·subst z;rw [kO,if_pos (qj _)]
    ·rw [ml z,r e]
     by_cases d:e<k
     ·rw [if_pos d,if_pos (lS d)]
     ·rw [if_neg d,if_neg (by lia)]
   ·rw [M g (by rw [p x g z];exact z),p x g z]
   ·have:=N g z;rw [D x g (by rw [this];exact z),this]
theorem Q6 (S:cx F n tm) (k:iW F n fs) (y:cQ F o) (h:nx∈aY fs (i+1) (i_ n tm i o)):∃o',cQ F o'/\nx=eV F n tm (i+1) o':=by
 have R:∀f∈fs,f.2.1<(i_ n tm i o).length:=λf z=>by rw [zG];exact (k.lt _ _ (k.to f z)).2.1
 obtain ⟨w0,H,C,D,Q⟩:=dR R (λw V=>by rw [dF.mp V]) h;cases dF.mp H;clear H h;have m:∀{x},x<n->af (i_ n tm i o) x=if tm o x<=i then some (tm o x) else none:=λl=>cM l;rw [zG] at C;have G:∀{e f},F e=some f->(∃s,gD (i+1) (i_ n tm i o) (f.1,e,f.2) s)->tm o f.1<=i/\i<tm o f.1+o e/\f.2.1<=i+1-tm o f.1:=λ{e f} a ⟨s,r,d,M⟩=>by
  obtain ⟨u,B,_⟩:=k.lt e f a;have r:af (i_ n tm i o) f.1=some s:=r;have d:af (i_ n tm i o) e=none:=d;rw [m u] at r;rw [m B] at d;split at r
  next z=>
   cases r;split at d
   ·cases d
   next p=>
    rw [S.bM y a] at p;exact ⟨z,by lia,M⟩
  ·cases r
 have O:∀{e f},F e=some f->af nx e=some (i+1)->∃s,gD (i+1) (i_ n tm i o) (f.1,e,f.2) s:=λ{e f} a z=>by
  obtain ⟨u,B,_⟩:=k.lt e f a;rcases D e with p | ⟨g,t,rfl,E,_⟩
  ·rw [z,m B] at p;split at p
   next z3=>have:=dG p;lia
   ·cases p
  ·have:=k.to g t;rw [a] at this;cases this;exact E
 let o':Nat->Int:=λe=>match F e with
  | some f=>if tm o f.1<=i/\i<tm o f.1+o e then (if af nx e=some (i+1) then i+1-tm o f.1 else f.2.2) else o e
  | none=>o e
 have I:∀{e f},F e=some f->o' e=if tm o f.1<=i/\i<tm o f.1+o e then (if af nx e=some (i+1) then i+1-tm o f.1 else f.2.2) else o e:=λ{e f} a=>by
  show (match F e with
  | some f=>if tm o f.1<=i/\i<tm o f.1+o e then (if af nx e=some (i+1) then i+1-tm o f.1 else f.2.2) else o e
  | none=>o e)=_
  rw [a]
 have T:∀{e},F e=none->o' e=o e:=λ{e} a=>by
  show (match F e with
  | some f=>if tm o f.1<=i/\i<tm o f.1+o e then (if af nx e=some (i+1) then i+1-tm o f.1 else f.2.2) else o e
  | none=>o e)=_
  rw [a]
 obtain ⟨q,A,W,J,L⟩:=JW (i:=i) S k y o' (λe z=>by
  cases a:F e with
  | none=>exact absurd (T a) z
  | some f=>
   have x1:=y e f a;refine ⟨f,U,?_⟩;have j:=I a
   by_cases c:tm o f.1<=i/\i<tm o f.1+o e
   ·rw [if_pos c] at j
    by_cases d:af nx e=some (i+1)
    ·rw [if_pos d] at j;obtain ⟨_,_,X⟩:=G a (O a d);rw [j];exact ⟨c.1,c.2,by lia,X,by lia⟩
    ·rw [if_neg d] at j;have:=(k.lt e f a).2.2.2.1;rw [j];exact ⟨c.1,c.2,by lia,this,fO _⟩
   ·rw [if_neg c] at j;exact absurd j z) n
 refine ⟨q,A,dZ (C.trans cA.symm) λx l=>?_⟩;rw [C] at l;rw [show af (eV F n tm (i+1) q) x=if tm q x<i+1\/(tm q x=i+1/\(F x).isSome=true) then some (tm q x) else none from cM l]
 by_cases c:tm o x<=i
 ·have j:=J x l c;rw [j,if_pos (.inl (by lia))];rcases D x with z | ⟨g,t,rfl,⟨s,_,z,_⟩,_⟩
  ·rw [z,m l,if_pos c]
  ·rw [m l,if_pos c] at z;cases z
 ·have c':¬tm q x<=i:=λz=>c (by rw [L x l z];exact z);have v:=D x;rw [m l,if_neg c] at v
  cases a:F x with
  | none=>
   rw [if_neg (by rintro (z | ⟨_,z⟩);lia;cases z)];rcases v with z | ⟨g,t,rfl,_⟩
   ·exact z
   ·rw [k.to g t] at a;cases a
  | some f=>
   obtain ⟨u,B,l3,l4,_⟩:=k.lt x f a;have j:=S.bM A a;have e2:=S.bM y a;rw [W x,if_pos l,I a] at j
   by_cases b:tm o f.1<=i
   ·rw [if_pos ⟨b,by lia⟩,J f.1 u b] at j
    by_cases d:af nx x=some (i+1)
    ·rw [if_pos d] at j;rw [d,if_pos (.inr ⟨by lia,U⟩)];congr 1;lia
    ·rw [if_neg d] at j;have N:af nx x=none:=by
      rcases v with z | ⟨_,_,_,_,z⟩
      ·exact z
      ·exact absurd z d
     rw [N];have:¬(f.2.1<=i+1-tm o f.1/\¬i+1-tm o f.1<f.2.2):=λ⟨Y,p⟩=>
      d (Q (f.1,x,f.2) (k.of x f a) (tm o f.1) ⟨by show af _ f.1=_;rw [m u,if_pos b],by show af _ x=_;rw [m l,if_neg c],Y⟩ p)
     rw [if_neg (by rintro (z | ⟨z,_⟩)<;>lia)]
   ·have Z:¬tm q f.1<=i:=λz=>b (by rw [L f.1 u z];exact z);have e4:=A x f a;have e5:=S.bM A a;rw [if_neg (by rintro (z | ⟨z,_⟩)<;>lia)];rcases v with z | ⟨g,t,rfl,E,_⟩
    ·exact z
    ·have:=k.to g t;rw [a] at this;cases this;exact absurd (G a E).1 b
theorem mx (S:cx F n tm) (C:iW F n fs) (Q:F 0=none) (s:∀o,cQ F o->tm o 0=0/\∀i,i<n->0<=tm o i/\tm o i<=la) (u:∀b∈B,b.1<n/\b.2.1<n/\∀o,cQ F o->tm o b.2.1<=tm o b.1+b.2.2) (p:0<n):
 ∀(k:Nat) (o:Nat->Int),cQ F o->(k:Int)<=la->jZ F n B fs la (k+1) (eV F n tm (la-k) o)=true
 | k,o,d,T=>by
  have H:∀{o ds},cQ F o->(∀x t,x<n->af ds x=some t->t=tm o x)->brk B ds=false:=λ{o ds} d h=>GV.mpr λb M x y a O=>by obtain ⟨j,l,L⟩:=u b M;have:=L o d;rw [h _ _ j a,h _ _ l O];exact this
  have e:∀{o i x},x<n->af (eV F n tm i o) x=if tm o x<i\/(tm o x=i/\(F x).isSome=true) then some (tm o x) else none:=λa=>cM a;have g:∀{o i x},x<n->af (i_ n tm i o) x=if tm o x<=i then some (tm o x) else none:=λa=>cM a;obtain ⟨J,R⟩:=s o d;unfold jZ;rw [List.any_eq_true];refine ⟨i_ n tm (la-k) o,?_,?_⟩
  ·have:=Kp (F:=F) (i:=la-k) (ds:=eV F n tm (la-k) o) (way:=i_ n tm (la-k) o) (zG.trans cA.symm) (λx=>?_) (λm _=>?_)
   ·rwa [cA] at this
   ·by_cases a:x<n
    ·rw [e a,g a]
     by_cases c:tm o x<la-k
     ·rw [if_pos (by lia),if_pos (.inl c)];exact .inl U
     ·by_cases r:tm o x=la-k
      ·cases hF:F x with
       | none=>
        rw [if_pos (by lia),if_neg (by rintro (z | ⟨_,z⟩);exact c z;cases z)];exact .inr ⟨U,U,by rw [r]⟩
       | some f=>rw [if_pos (by lia),if_pos (.inr ⟨r,U⟩)];exact .inl U
      ·rw [if_neg (by lia),if_neg (by rintro (z | ⟨z,_⟩)<;>lia)];exact .inl U
    ·exact .inl (by rw [JY (by rw [zG];exact a),JY (by rw [cA];exact a)])
   ·rw [e p,J] at m;split at m
    ·cases m
    next c=>
     have:la-k=0:=by
      by_cases z:0<la-(k:Int)
      ·exact absurd (.inl z) c
      ·lia
     rw [g p,J,this,if_pos (fO _)]
  ·have j:brk B (i_ n tm (la-k) o)=false:=H d λx t a h=>by
    rw [g a] at h;split at h
    ·exact (dG h).symm
    ·cases h
   unfold good;rw [j]
   by_cases A:(i_ n tm (la-k) o).all Option.isSome=true
   ·rw [A];rfl
   ·have G:0<k:=by
     rcases Nat.eq_zero_or_pos k with z | z
     ·refine absurd (jK.mpr λv E=>?_) A;unfold i_ at E;obtain ⟨x,a,rfl⟩:=cn.mp E;have:=(R x (n9.mp a)).2;rw [if_pos (by lia)];rfl
     ·exact z
    have:(aY fs (la-k+1) (i_ n tm (la-k) o)).all (λq=> !brk B q && jZ F n B fs la k q)=true:=by
     refine jK.mpr λq N=>?_;obtain ⟨I,D,rfl⟩:=Q6 S C d N;have l:brk B (eV F n tm (la-k+1) I)=false:=H D λx t a h=>by
      rw [e a] at h;split at h
      ·exact (dG h).symm
      ·cases h
     rw [l]
     cases k with
     | zero=>exact absurd G (iD _)
     | succ k=>
      have:=mx S C Q s u p k I D (by lia);rw [show la-((k+1:Nat):Int)+1=la-(k:Int) by lia,this];rfl
    rw [this,ew G];rw [Bool.not_false,Bool.true_and,Bool.true_and,Bool.or_true]
section
open Classical in
def iY (F:ia) (n:Nat) (B:um) (fs:lW) (la:Int) (j:Nat) (ds:c8):c8:=
 if h:∃a∈bh F n j ds,good (jZ F n B fs la (la-j).toNat) B fs la (la-j).toNat a=true then h.choose else ds
def i7 (F:ia) (n:Nat) (o:Nat->Int) (j:Int) (ds:c8):c8:=(List.range n).map λx=>match af ds x with
 | some t=>some t
 | none=>match F x with
  | some f=>match af ds f.1 with
   | some s=>if s+o x=j then some j else none
   | none=>none
  | none=>none
def jr (F:ia) (n:Nat) (B:um) (fs:lW) (la:Int) (o:Nat->Int):Nat->c8
 | 0=>List.replicate n none
 | j+1=>i7 F n o (j+1:Nat) (iY F n B fs la j (jr F n B fs la o j))
def jf (F:ia) (n:Nat) (B:um) (fs:lW) (la:Int) (o:Nat->Int) (x:Nat):Int:=(af (iY F n B fs la la.toNat (jr F n B fs la o la.toNat)) x).getD 0
theorem yY {j:Nat} (a:(j:Int)<=la) (h:jZ F n B fs la ((la-j).toNat+1) ds=true):iY F n B fs la j ds∈bh F n j ds/\good (jZ F n B fs la (la-j).toNat) B fs la (la-j).toNat (iY F n B fs la j ds)=true:=by unfold jZ at h;rw [List.any_eq_true,show la-((la-(j:Int)).toNat:Int)=j by lia] at h;have e:iY F n B fs la j ds=h.choose:=dif_pos h;rw [e];exact h.choose_spec
theorem HP (h:good W B fs la k way=true):brk B way=false/\(way.all Option.isSome=true\/(0<k/\∀a∈aY fs (la-k+1) way,brk B a=false/\W a=true)):=by
 unfold good at h;rw [kr,Bool.or_eq_true,kr,Bool.not_eq_true',decide_eq_true_iff] at h;refine ⟨h.1,h.2.imp_right λz=>⟨z.1,λa b=>?_⟩⟩;have:=jK.mp z.2 a b
 rwa [kr,Bool.not_eq_true'] at this
theorem u6 (a:ds.length=n) (h:af ds x=some t):af (i7 F n o j ds) x=some t:=by unfold i7;rw [cM (by rw [<-a];exact eE h),h]
theorem wh (h:af (i7 F n o j ds) x=some t):af ds x=some t\/(af ds x=none/\t=j/\∃f s,F x=some f/\af ds f.1=some s/\s+o x=j):=by
 have a:x<n:=by
  have:=eE h;unfold i7 at this
  rwa [ax,rp] at this
 unfold i7 at h;rw [cM a] at h
 cases hd:af ds x with
 | some u=>rw [hd] at h;exact .inl h
 | none=>
  rw [hd] at h
  cases I:F x with
  | none=>rw [I] at h;cases h
  | some f=>
   rw [I] at h
   cases C:af ds f.1 with
   | none=>simp only [C] at h;cases h
   | some s=>
    simp only [C] at h;split at h
    next c=>cases h;exact .inr ⟨U,U,f,s,U,C,c⟩
    ·cases h
theorem Ln (c:x<n) (a:F x=some f) (h:af ds x=none) (b:af ds f.1=some s) (e:s+o x=j):af (i7 F n o j ds) x=some j:=by unfold i7;rw [cM c,h,a];simp only [b];exact if_pos e
theorem z8:(i7 F n o j ds).length=n:=by unfold i7;rw [ax,rp]
structure rC (F:ia) (n:Nat) (o:Nat->Int) (j:Int) (ds:c8):Prop where
 len:ds.length=n
 past:∀{x t},af ds x=some t->0<=t/\t<=j
 xy:∀{e f t},F e=some f->af ds e=some t->∃s,af ds f.1=some s/\t=s+o e
 xC:∀{e f s},F e=some f->af ds e=none->af ds f.1=some s->j<s+o e
theorem rC.n5 (G:rC F n o j ds) (p:iW F n fs) (q:cQ F o) (r:0<=j) (hw:way∈bh F n j ds):rC F n o j way/\(∀{x t},af ds x=some t->af way x=some t)/\∀{x t},af way x=some t->af ds x=some t\/(t=j/\F x=none/\af ds x=none):=by
 have d:=cL (k:=n) (by rw [G.len];exact aj _) hw;have g:∀{x t},af ds x=some t->af way x=some t:=λ{x t} h=>by
  rcases d.2.1 x with z | ⟨_,z,_⟩
  ·rw [z];exact h
  ·rw [h] at z;cases z
 have b:∀{x t},af way x=some t->af ds x=some t\/(t=j/\F x=none/\af ds x=none):=λ{x t} h=>by
  rcases d.2.1 x with z | ⟨_,z,i,l⟩
  ·rw [z] at h;exact .inl h
  ·rw [l] at h;cases h;exact .inr ⟨U,i,z⟩
 refine ⟨⟨d.1.trans G.len,λ{x t} h=>?_,λ{e f t} a h=>?_,λ{e f s} a h m=>?_⟩,g,b⟩
 ·rcases b h with z | ⟨rfl,_⟩
  ·exact G.past z
  ·exact ⟨r,fO _⟩
 ·rcases b h with z | ⟨_,z,_⟩
  ·obtain ⟨s,i,l⟩:=G.xy a z;exact ⟨s,g i,l⟩
  ·rw [a] at z;cases z
 ·have c:af ds e=none:=by
   cases c:af ds e with
   | none=>rfl
   | some t=>rw [g c] at h;cases h
  rcases b m with z | ⟨rfl,_⟩
  ·exact G.xC a c z
  ·have:=q e f a;have:=p.lt e f a;lia
theorem rC.eo (G:rC F n o j way) (g:iW F n fs) (p:cQ F o) (B:0<=j):rC F n o (j+1) (i7 F n o (j+1) way)/\i7 F n o (j+1) way∈aY fs (j+1) way:=by
 refine ⟨⟨z8,λ{x t} h=>?_,λ{e f t} a h=>?_,λ{e f s} a h m=>?_⟩,?_⟩
 ·rcases wh h with z | ⟨_,rfl,_⟩
  ·have:=G.past z;lia
  ·lia
 ·rcases wh h with z | ⟨_,rfl,r,s,b,i,q⟩
  ·obtain ⟨s,b,i⟩:=G.xy a z;exact ⟨s,u6 G.len b,i⟩
  ·rw [a] at b;cases b;exact ⟨s,u6 G.len i,q.symm⟩
 ·have l:=g.lt e f a;have d:af way e=none:=by
   cases d:af way e with
   | none=>rfl
   | some t=>rw [u6 G.len d] at h;cases h
  rcases wh m with z | ⟨_,_,r,C,b,_⟩
  ·have:=G.xC a d z
   by_cases c:s+o e=j+1
   ·rw [Ln l.2.1 a d z c] at h;cases h
   ·lia
  ·rw [l.2.2.2.2] at b;cases b
 ·refine z9 (w0:=way) (z8.trans G.len.symm) (λf z=>by rw [G.len];exact (g.lt _ _ (g.to f z)).2.1) (dF.mpr U) U (λx=>?_) (λf u s k A=>?_)
  ·cases hx:af (i7 F n o (j+1) way) x with
   | none=>
    refine .inl ?_
    cases d:af way x with
    | none=>rfl
    | some t=>rw [u6 G.len d] at hx;cases hx
   | some t=>
    rcases wh hx with z | ⟨v,rfl,f,s,b,i,q⟩
    ·exact .inl z.symm
    ·have:=p x f b;exact .inr ⟨(f.1,x,f.2),g.of x f b,U,⟨s,i,v,by show f.2.1<=_;lia⟩,U⟩
  ·have a:=g.to f u;have:=G.xC a k.2.1 k.1;have m:=p _ _ a;have y:o f.2.1<=f.2.2.2:=m.2;exact Ln (g.lt _ _ a).2.1 a k.2.1 k.1 (by lia)
end
section
theorem PU (f:0<n) (c:ds.length=n) (b:ds.all Option.isSome=true) (d:brk B ds=false):jZ F n B fs la (k+1) ds=true:=by
 unfold jZ;rw [List.any_eq_true];refine ⟨ds,?_,by unfold good;rw [d,b];rfl⟩;have:=Kp (F:=F) (i:=la-k) (ds:=ds) (way:=ds) U (λx=>.inl U) (λe _=>?_)
 ·rwa [c] at this
 ·cases ds with
  | nil=>cases c;exact absurd f (iD _)
  | cons a r=>
   have:a.isSome=true:=jK.mp b a dB;have e:a=none:=e;rw [e] at this;cases this
theorem II (h:ds.all Option.isSome=true) (a:x<ds.length):∃t,af ds x=some t:=by
 have:=jK.mp h _ (rr a);unfold af;rw [gp a]
 cases hd:ds[x] with
 | none=>rw [hd] at this;cases this
 | some t=>exact ⟨t,U⟩
theorem gj:af (List.replicate n none) x=none:=by unfold af;rw [FY];split<;>rfl
abbrev pk (F:ia) (n:Nat) (B:um) (fs:lW) (la:Int) (o:Nat->Int) (j:Nat):c8:=iY F n B fs la j (jr F n B fs la o j)
variable (hf:iW F n fs) (hl:0<=la) (hn:0<n) (hw:jZ F n B fs la (la.toNat+1) (List.replicate n none)=true)
include hf hl hn hw
theorem yQ {o:Nat->Int} (d:cQ F o):∀j:Nat,(j:Int)<=la->rC F n o j (jr F n B fs la o j)/\jZ F n B fs la ((la-j).toNat+1) (jr F n B fs la o j)=true
 | 0,_=>by
  have g:∀x,af (jr F n B fs la o 0) x=none:=λx=>gj;refine ⟨⟨uh,λ{x t} h=>?_,λ{e f t} _ h=>?_,λ{e f s} _ _ h=>?_⟩,?_⟩
  ·rw [g] at h;cases h
  ·rw [g] at h;cases h
  ·rw [g] at h;cases h
  ·rw [show (la-((0:Nat):Int)).toNat=la.toNat by lia];exact hw
 | j+1,u=>by
  obtain ⟨G,W⟩:=yQ d j (by lia);obtain ⟨p,q⟩:=yY (by lia) W;obtain ⟨a,_,_⟩:=G.n5 hf d (by lia) p;obtain ⟨i,r⟩:=a.eo hf d (by lia);rw [show ((j:Int)+1)=((j+1:Nat):Int) by lia] at i;refine ⟨i,?_⟩;obtain ⟨m,b⟩:=HP q;show jZ F n B fs la _ (i7 F n o (j+1:Nat) (pk F n B fs la o j))=true;rcases b with c | ⟨v,b⟩
  ·have e:i7 F n o (j+1:Nat) (pk F n B fs la o j)=pk F n B fs la o j:=dZ (z8.trans a.len.symm) λx l=>by
    rw [z8] at l;obtain ⟨t,k⟩:=II c (by rw [a.len];exact l);rw [k,u6 a.len k]
   rw [e];exact PU hn a.len c m
  ·rw [show la-((la-(j:Int)).toNat:Int)+1=(j:Int)+1 by lia] at b;have:=(b _ r).2;rw [show (la-(j:Int)).toNat=(la-((j+1:Nat):Int)).toNat+1 by lia] at this;exact this
theorem rH {o:Nat->Int} (b:cQ F o) {j:Nat} (a:(j:Int)<=la):rC F n o j (pk F n B fs la o j)/\(∀{x t},af (jr F n B fs la o j) x=some t->af (pk F n B fs la o j) x=some t)/\∀{x t},af (pk F n B fs la o j) x=some t->af (jr F n B fs la o j) x=some t\/(t=j/\F x=none/\af (jr F n B fs la o j) x=none):=by obtain ⟨G,W⟩:=yQ hf hl hn hw b j a;exact G.n5 hf b (by lia) (yY a W).1
theorem VL {o:Nat->Int} (a:cQ F o) {i j:Nat} (h:i<=j):(j:Int)<=la->∀{x t},af (pk F n B fs la o i) x=some t->af (pk F n B fs la o j) x=some t:=by
 induction h with
 | refl=>exact λ_ {x t} h=>h
 | @step m h c=>
  intro b x t e;have:=c (by lia) e;exact (rH hf hl hn hw a b).2.1 (u6 (rH hf hl hn hw a (j:=m) (by lia)).1.len this)
theorem Ib {o:Nat->Int} (b:cQ F o):∀{j:Nat},(j:Int)<=la->∀{x t},af (pk F n B fs la o j) x=some t->∃k:Nat,t=k/\k<=j/\af (pk F n B fs la o k) x=some t
 | 0,a,x,t,h=>by
  rcases (rH hf hl hn hw b a).2.2 h with z | ⟨rfl,_⟩
  ·rw [show jr F n B fs la o 0=List.replicate n none from rfl,gj] at z;cases z
  ·exact ⟨0,U,aj _,h⟩
 | j+1,a,x,t,h=>by
  rcases (rH hf hl hn hw b a).2.2 h with z | ⟨rfl,_⟩
  ·rcases wh z with z | ⟨_,rfl,_⟩
   ·obtain ⟨k,c,d,e⟩:=Ib b (j:=j) (by lia) z;exact ⟨k,c,Nat.le_succ_of_le d,e⟩
   ·exact ⟨j+1,U,aj _,h⟩
  ·exact ⟨j+1,U,aj _,h⟩
theorem qB {o:Nat->Int} (b:cQ F o) {x:Nat} (j:x<n):af (pk F n B fs la o la.toNat) x=some (jf F n B fs la o x)/\brk B (pk F n B fs la o la.toNat)=false:=by
 have a:((la.toNat:Nat):Int)<=la:=by lia
 obtain ⟨G,W⟩:=yQ hf hl hn hw b la.toNat a;obtain ⟨h,i⟩:=yY a W;obtain ⟨f,g⟩:=HP i;refine ⟨?_,f⟩;rcases g with c | ⟨z,_⟩
 ·obtain ⟨t,d⟩:=II c (x:=x) (by rw [(G.n5 hf b (by lia) h).1.len];exact j);have e:jf F n B fs la o x=t:=by unfold jf;rw [d];rfl
  rw [e];exact d
 ·lia
theorem BF {o:Nat->Int} (a:cQ F o) {j:Nat} (b:(j:Int)<=la) {x:Nat} {t:Int} (h:af (pk F n B fs la o j) x=some t):t=jf F n B fs la o x:=by
 have l:=(rH hf hl hn hw a b).1.len;have c:x<n:=by rw [<-l];exact eE h
 have:=VL hf hl hn hw a (j:=la.toNat) (by lia) (by lia) h;rw [(qB hf hl hn hw a c).1] at this;cases this;rfl
theorem QX:cx F n (jf F n B fs la):=by
 refine ⟨λ{o e f} a b=>?_,λ{o e f l t} a b v y N O {m} r h=>?_⟩
 ·obtain ⟨E,G,_⟩:=hf.lt e f b;obtain ⟨s,p,A⟩:=(rH hf hl hn hw a (j:=la.toNat) (by lia)).1.xy b (qB hf hl hn hw a G).1;rw [(qB hf hl hn hw a E).1] at p;cases p;exact A
 ·have ok:=a.set b v y;have D:∀i:Nat,(i:Int)<=t->(i:Int)<=la->jr F n B fs la (d8 o e l) i=jr F n B fs la o i:=λi=>by
   induction i with
   | zero=>intro _ _;rfl
   | succ i d=>
    intro H J;have d:=d (by lia) (by lia);have z:=λ{x t}=>BF hf hl hn hw a (j:=i) (by lia) (x:=x) (t:=t);show i7 F n (d8 o e l) (i+1:Nat) (iY F n B fs la i (jr F n B fs la (d8 o e l) i))=i7 F n o (i+1:Nat) (pk F n B fs la o i);rw [d];unfold i7;refine vd λx _=>?_
    cases hx:af (pk F n B fs la o i) x with
    | some t=>rfl
    | none=>
     cases I:F x with
     | none=>rfl
     | some g=>
      cases C:af (pk F n B fs la o i) g.1 with
      | none=>simp only [C]
      | some s=>
       simp only [C]
       by_cases c:x=e
       ·subst c;rw [b] at I;cases I;have:=z C;rw [kO,if_neg (by lia),if_neg (by lia)]
       ·rw [ml c]
  obtain ⟨k,L,M,u⟩:=Ib hf hl hn hw a (j:=la.toNat) (by lia) (qB hf hl hn hw a r).1;have q:=D k (by lia) (by lia);have:af (pk F n B fs la (d8 o e l) k) m=some (jf F n B fs la o m):=by show af (iY F n B fs la k (jr F n B fs la (d8 o e l) k)) m=_;rw [q];exact u
  exact (BF hf hl hn hw ok (by lia) this).symm
theorem tu (g:F 0=none):cx F n (jf F n B fs la)/\∀o,cQ F o->(jf F n B fs la o 0=0/\∀i,i<n->0<=jf F n B fs la o i/\jf F n B fs la o i<=la)/\∀b∈B,b.1<n->b.2.1<n->jf F n B fs la o b.2.1<=jf F n B fs la o b.1+b.2.2:=by
 refine ⟨QX hf hl hn hw,λo a=>⟨⟨?_,λi f=>?_⟩,λb e c d=>?_⟩⟩
 ·obtain ⟨G,W⟩:=yQ hf hl hn hw a 0 hl;have:=(cL (k:=n) (by rw [G.len];exact aj _) (yY hl W).1).2.2 hn (by rw [show jr F n B fs la o 0=List.replicate n none from rfl,gj]) g;exact (BF hf hl hn hw a hl this).symm
 ·have:=(rH hf hl hn hw a (j:=la.toNat) (by lia)).1.past (qB hf hl hn hw a f).1;lia
 ·exact GV.mp (qB hf hl hn hw a c).2 b e _ _ (qB hf hl hn hw a c).1 (qB hf hl hn hw a d).1
end
end HG
namespace Y0
open PySem L2
seal L2.kT L2.gQ L2.gU L2.eL L2.gu L2.gv L2.gT L2.gS L2.dv Y0.aI
theorem cT.idx {N:Nat} {la:Int} {T F:List (List Int)} (h:cT (N:Int) la T F):Idx N (cU (N:Int) la T F):=λr e=>by obtain ⟨a,b,v,rfl,c,f,d,g,_⟩:=h.ir r e;exact ⟨a.toNat,b.toNat,v,by rw [lA c,lA d],by lia,by lia⟩
theorem V0 {N:Nat} {rows:List (List Int)} (h:Idx N rows) {i:Nat} {r:List Int} (e:rows[i]?=some r):∃(a b:Nat) (m:Int),r=[(a:Int),(b:Int),m]/\a<N/\b<N/\(rows.map fC)[i]?=some (a,b,m):=by obtain ⟨a,b,m,rfl,c,d⟩:=h r (fg e);refine ⟨a,b,m,U,c,d,?_⟩;rw [dC,e];show some ((a:Int).toNat,(b:Int).toNat,m)=_;rw [iU,iU]
theorem v7 {a:Nat} (h:a<ds.length):gI (ds.map oV) (a:Int)=some (oV (HG.af ds a)):=by refine iB ?_;rw [dC,gp h];unfold HG.af;rw [gp h];rfl
def BR:Sp:=λh H Q _=>∃(e g f d:Addr) (N:Nat) (b:Int) (T F:List (List Int)) (a:HG.c8),h=[.ref e,.ref d]/\mf H e g f (N:Int) b T F/\cT (N:Int) b T F/\H d=some (.tup (a.map oV))/\a.length=N/\
 ∀c,ay H c->Q (.bl (HG.brk ((cU (N:Int) b T F).map fC) a)) c
section
abbrev WV:List Str:=["_law_w","_law_done","_law_one","_law_other","_law_most"]
theorem Ae:cf WV Ċ (aT cY):=cH
theorem lj (F:Fn K mg "_law_broken" cY Ċ f fd) (W:Fn K mg "_law_bounds" dX Ġ fB lQ) (X:au P w K mg base aw 1 fB lQ Ġ KH):
 au P w K mg base aw 2 f fd Ċ BR:=by
 refine F.F.cK Ae λ_ x4 _ x9 x6 _ x7 x5 hr x2=>?_;obtain ⟨S,ta,fa,dp,x1,N,Q,O,ds,rfl,T,M,hd,L,k⟩:=x2;refine ⟨_,bp (g_ gB U (gy (bQ X hr W (bY (pv 0))))
  (rP (n:=3) U (eK (bO 2 Ae.nd) (eK (bO 3 Ae.nd) (eK (bO 4 Ae.nd) qE))))
  (a0 (cS (PW.pt (lK (md (B7 (dE oa (pv 1) (pv 2)))) (lK (md (B7 (dE oa (pv 1) (pv 3))))
   (nZ (cR CT (bC gP (dE oa (pv 1) (pv 3)) (dE oa (pv 1) (pv 2))) (pv 4)))))) (a0 (cm rG)) de)))
  (a0 (cm rG)),?_⟩
 refine λN1 c1=>aa U ⟨S,ta,fa,_,N,Q,O,U,T,M,λbl Z è E G=>⟨bl,U,?_,?_⟩⟩
 ·obtain ⟨D,R⟩:=G;exact ⟨_,a5.of R.1⟩
 obtain ⟨D,R⟩:=G;have Yh:=M.idx;generalize cU (x1:Int) N Q O=rows at*;have xh:=E _ _ hd;refine j0 (K:=K) (xs:=D.map V.ref) (λi s Y=>∃p q r,s=[some (.ref S),some (.ref dp),p,q,r]/\(∀x∈(rows.map fC).take i,HG.jI ds x=false)/\ay Z Y) ⟨none,none,none,U,λ_ z=>(nomatch z),ay.refl _⟩ ?_ ?_ ?_
 ·rintro i s j _ ⟨p,q,r,rfl,_,b⟩;exact a5.of (b _ _ R.1)
 ·rintro i x s j h ⟨p,q,r,rfl,o,b⟩;obtain ⟨x3,x8,rfl,hq,lP,km⟩:=R.get h;obtain ⟨d,g,m,e4,Yz,A6,H⟩:=V0 Yh lP;subst e4;have l:=b _ _ xh;have tk:(rows.map fC).take (i+1)=(rows.map fC).take i++[(d,g,m)]:=by rw [hX,H];rfl
  have C:HG.jI ds (d,g,m)=false->∀x∈(rows.map fC).take (i+1),HG.jI ds x=false:=λz x h=>by
   rw [tk] at h;rcases fe.mp h with y | y
   ·exact o x y
   ·rw [dF.mp y];exact z
  have v:=v7 (ds:=ds) (a:=d) (by rw [L];exact Yz);have A:=v7 (ds:=ds) (a:=g) (by rw [L];exact A6);refine ⟨x3,_,U,bU.of (b _ _ km),U,_,_,U,_,_,U,_,_,U,U,?_⟩;refine (aa U (aa U (pF l v ?_)))
  have c:HG.jI ds (d,g,m)=(match HG.af ds d,HG.af ds g with
   | some x,some y=>decide (x+m<y)
   | _,_=>false):=U
  cases I:HG.af ds d with
  | none=>
   rw [I] at c;exact ⟨_,U,du (du ⟨_,_,_,U,C c,b⟩)⟩
  | some t=>
   rw [I] at c v;refine ⟨_,U,fx (aa U (aa U (pF l A ?_)))⟩
   cases J:HG.af ds g with
   | none=>
    rw [J] at c;exact ⟨_,U,du (du ⟨_,_,_,U,C c,b⟩)⟩
   | some u=>
    rw [J] at c A;refine ⟨_,U,fx (aa U (aa U (pF l A (aa U (aa U (pF l v (ri (aa U (ri (ct ?_))))))))))⟩;refine gX (λB=>?_) (λB=>?_)
    ·have u_:m<u-t:=by simpa using B
     have e:HG.brk (rows.map fC) ds=true:=List.any_eq_true.mpr ⟨_,fg H,by rw [c];exact ew (by lia)⟩;have:=k j (E.trans b);rw [e] at this;exact this
    ·have u_:¬m<u-t:=by simpa using B
     exact ⟨_,_,_,U,C (by rw [c];exact cF (by lia)),b⟩
 ·rintro s j ⟨p,q,r,rfl,o,b⟩;apply c1;have Y9:(rows.map fC).take (D.map V.ref).length=rows.map fC:=by
   rw [ax,R.len,<-ax (f:=fC)];exact gC
  rw [Y9] at o;have e:HG.brk (rows.map fC) ds=false:=List.any_eq_false.mpr λx h=>by rw [o x h];exact d_
  have:=k j (E.trans b);rw [e] at this;exact this
end
end Y0
namespace L2
open PySem PySem.Spec PyProof.Rows
section
variable {K:aW}
def Md (K:aW):R2:=λx y H Q=>∃a b c d,x=.ref a/\y=.ref b/\bU K H a c/\bU K H b d/\d≠[]/\c.length+d.length<=sizeLine/\(c=[]->Q (.ref b) H)/\(c≠[]->∀p,H p=none->Q (.ref p) (upd H p (.tup (c++d))))
theorem Iu (x:X.K=K):dH X (binaryOp .Add) (Md K):=by
 subst x;intro G s S H x1 x2 v u Q I m o h;obtain ⟨a,b,p,R,rfl,rfl,d,e,y,A,J,L⟩:=h
 by_cases c:p=[]
 ·cases m;cases o;obtain ⟨B,M,E,_⟩:=I.tuple d;obtain ⟨C,Z,F,_⟩:=I.tuple e;have t:B=[]:=M.gk.mpr c;subst t;obtain ⟨⟨T,q,W,N⟩,k,f,n,i⟩:=id E;obtain ⟨⟨V,r,Y,O⟩,l,g,D,j⟩:=id F;simp only at f i g j;subst f i g j;exact concat_meets ⟨_,k,U⟩ ⟨_,l,U⟩ noFill_tuple_add seq_tuple_add PySem.F.slot_tuple_add PySem.F.entry_tuple_add (PySem.F.args_tuple_add_2 _ _)
   (tuple_addW0 a b #[] C.toArray n D q r N O U) ⟨k,l,.ref b,H,I,U,J c⟩
 ·exact Iw G s S H (.ref a) (.ref b) v u Q I m o ⟨a,b,p,R,U,U,d,e,c,A,λz=>absurd z y,λ_=>L c⟩
end
section
variable {X:Cx}
theorem JX (h:X.K=K):dH X (binaryOp .Add) (y2 K):=by subst h;exact Iw
end
end L2
namespace Y0
open PySem L2
seal L2.kT L2.gQ L2.gU L2.eL L2.gu L2.gv L2.gT L2.gS L2.dv Y0.aI
theorem T4 {i:Nat}:ie ws none (some (i:Int))=ws.take i:=by unfold ie;rw [cb,cZ,List.drop_zero,Nat.sub_zero];rw [<-List.take_eq_take_min]
theorem VQ {i:Nat} (h:i<=ws.length):ie ws (some (i:Int)) none=ws.drop i:=by unfold ie;rw [cb,cZ,Nat.min_eq_left h];exact xO (by rw [yh];exact aj _)
theorem KC {a:List V} {e:Nat} {x:V} (h:e<a.length):(a.take e++[x])++a.drop (e+1)=a.set e x:=by rw [List.set_eq_take_append_cons_drop,if_pos h,oE];rfl
abbrev LZ (K:aW):TE:=m5 (y2 K) (m5 (Md K) (Ao (wq K) (dv 0) yX (yC (dv 1))) (uO (gZ (dv 2) lC))) (Ao (wq K) (dv 0) (yC (m5 (eL λi j=>V.int (i+j)) (dv 1) (tC (.int 1)))) yX)
theorem Vw {e:Nat} (s:H p=some (.tup ws)) (h:e<ws.length) (O:ws.length<=100) (k:∀q g,ay H g->g q=some (.tup (ws.set e x))->Q (.ref q) g):
 LZ K [some (.ref p),some (.int (e:Int)),some x] H Q:=by
 refine aa U (aa U ⟨_,U,p,ws,U,bU.of s,?_,λd B=>?_⟩)
 ·rw [cb];rintro ⟨_,z⟩;rw [Nat.min_eq_left (aP h)] at z;lia
 rw [T4];have N:=aK (o:=.tup (ws.take e)) B;refine aa U ⟨cX U,λb D=>?_⟩;have u:=aK (o:=.tup [x]) D;have A:=u _ _ (ak (H:=H) (a:=d) (o:=.tup (ws.take e)));have l:=N.trans u;have R:(ws.take e).length<=100:=by rw [fU];lia
 have n:upd (upd H d (.tup (ws.take e))) b (.tup [x]) b=some (.tup [x]):=ak;generalize upd (upd H d (.tup (ws.take e))) b (.tup [x])=C at*;have t:∀q c,ay C c->c q=some (.tup (ws.take e++[x]))->Ao (wq K) (dv 0) (yC (m5 (eL λi j=>V.int (i+j)) (dv 1) (tC (.int 1)))) yX [some (.ref p),some (.int (e:Int)),some x] c λy v=>y2 K (.ref q) y v Q:=λq c m r=>by
  have I:=m _ _ (l _ _ s);refine aa U (aa U (ri ⟨_,U,p,ws,U,bU.of I,?_,λL F=>?_⟩))
  ·rw [show (e:Int)+1=((e+1:Nat):Int) by lia,cb];rintro ⟨z,_⟩;lia
  rw [show (e:Int)+1=((e+1:Nat):Int) by lia,VQ (by lia)];have f:=aK (o:=.tup (ws.drop (e+1))) F;refine ⟨q,L,_,_,U,U,bU.of (f _ _ r),bU.of ak,λz=>?_,?_,λz=>?_,λz M G=>?_⟩
  ·exact absurd z (by rw [List.append_eq_nil_iff];exact λz=>nomatch z.2)
  ·rw [ff,yh];show _+1+_<=16777216;lia
  ·refine k q _ ((l.trans m).trans f) ?_;have:=KC (x:=x) h;rw [z,uf] at this;rw [<-this];exact f _ _ r
  ·refine k M _ (((l.trans m).trans f).trans (aK G)) ?_;rw [ak,KC h]
 refine ⟨d,b,_,_,U,U,bU.of A,bU.of n,nofun,?_,λz=>?_,λz J E=>?_⟩
 ·show _+1<=16777216;lia
 ·exact t b C (ay.refl _) (by rw [z];exact n)
 ·exact t J _ (aK E) ak
def gw (H:Hp) (l:Addr) (W:List HG.c8):Prop:=∃a:List Addr,H l=some (.lst (a.map V.ref))/\Paired (λp (b:HG.c8)=>H p=some (.tup (b.map oV))) a W
theorem gw.same (h:gw H l W) (s:ay H H'):gw H' l W:=by obtain ⟨c,a,b⟩:=h;exact ⟨c,s _ _ a,Paired.g9 b λ_ _ z=>s _ _ z⟩
theorem gw.one (h:H p=some (.tup (ds.map oV))) (a:H q=none):gw (upd H q (.lst [.ref p])) q [ds]:=⟨[p],ak,.cons (aK a _ _ h) .nil⟩
theorem gw.cat (h:gw H l W) (h':gw H m C) (a:H l=some (.lst xs)) (b:H m=some (.lst ys)) (j:H q=none):gw (upd H q (.lst (xs++ys))) q (W++C):=by obtain ⟨c,e,f⟩:=h;obtain ⟨d,g,i⟩:=h';rw [e] at a;rw [g] at b;cases a;cases b;have s:=aK (o:=.lst (c.map V.ref++d.map V.ref)) j;refine ⟨c++d,by rw [ak,eH],?_⟩;exact qM (Paired.g9 f λ_ _ z=>s _ _ z) (Paired.g9 i λ_ _ z=>s _ _ z)
theorem gw.lst (h:gw H l W):∃xs,H l=some (.lst xs)/\xs.length=W.length:=by obtain ⟨c,a,b⟩:=h;exact ⟨_,a,by rw [ax,i4 b]⟩
theorem UZ (ds:HG.c8) (e:Nat) (v:Option Int):(ds.set e v).map oV=(ds.map oV).set e (oV v):=by rw [List.map_set]
theorem JI {N e:Nat} {j:Int} (X:me js σ=[none,some (.int (e:Int)),some (.int j)]) (O:gw H l C) (S:∀d∈C,d.length=N) (T:N<=100) (hw:C.length<=1000) (R:e<N) (E:H D=none)
 (k:∀a,ay H a->gw a D (C.map λd=>d.set e (some j))->Q (.ref D) a):rV js (qw 0) LW (LZ K) σ Q (uk K l) H D:=by
 obtain ⟨J,M,B⟩:=O;refine sC (xs:=J.map V.ref) (λi r a=>∃v c,r=[v,some (.int (e:Int)),some (.int j)]/\a D=some (.lst (c.map V.ref))/\Paired (λp (x:HG.c8)=>a p=some (.tup (x.map oV))) c ((C.take i).map λd=>d.set e (some j))/\ay H a) ⟨none,[],X,ak,.nil,aK E⟩ ?_ ?_ ?_
 ·rintro i r s _ ⟨v,c,rfl,_,_,f⟩;exact a5.of (f _ _ M)
 ·rintro i x1 r s g ⟨v,c,rfl,m,h,f⟩;rw [dC] at g
  cases I:J[i]? with
  | none=>rw [I] at g;cases g
  | some p=>
   rw [I] at g;cases g;obtain ⟨d,t,W⟩:=a4 B I;have F:=S d (fg t);have Z:i<C.length:=(eP.mp t).1;refine Vw (f _ _ W) (by rw [ax,F];exact R) (by rw [ax,F];exact T) λq u n y=>⟨_,n _ _ m,?_,_,c++[q],U,?_,?_,λb o A=>?_⟩
   ·rw [ax,i4 h,ax,fU];exact fz (by lia)
   ·rw [ak,eH];rfl
   ·have G:∀{p xs},u p=some (.tup xs)->p≠D:=λL Y=>by
     rw [Y,n _ _ m] at L;cases L
    rw [hX,t,eH];refine qM (Paired.g9 h λp x z=>?_) (.cons ?_ .nil)
    ·have z:=n _ _ z;rw [aq (G z)];exact z
    ·show upd u D _ q=some (.tup ((d.set e (some j)).map oV));rw [aq (G y),y,UZ];rfl
   ·rw [aq (bj A E)];exact n _ _ (f _ _ A)
 ·rintro r s ⟨v,c,rfl,m,h,f⟩;refine k s f ⟨c,m,?_⟩;rw [ax,i4 B,gC] at h;exact h
def T8:List Int->Nat×Nat×Int×Int
 | [a,b,l,m]=>(a.toNat,b.toNat,l,m)
 | _=>(0,0,0,0)
def f9 (F:List (List Int)):HG.lW:=F.map T8
theorem Mm {N:Nat} {la:Int} {T F:List (List Int)} (h:cT (N:Int) la T F):HG.iW (bw F) N (f9 F):=by
 refine ⟨λf c=>?_,λe f c=>?_,λe f c=>?_⟩
 ·obtain ⟨r,d,rfl⟩:=cn.mp c;obtain ⟨a,b,l,m,rfl,_,_,i,_⟩:=h.f r d;exact h.eo (e:=b.toNat) (by rw [lA (eA i)];exact d)
 ·obtain ⟨a,l,m,j,rfl,_⟩:=h.find c;exact cn.mpr ⟨_,j,by show (a.toNat,((e:Int)).toNat,l,m)=_;rw [iU]⟩
 ·have k:=h.iC.lt e f c;have g:=h.iC.num e f c;exact ⟨k.1,k.2,g.1,g.2.1,h.iC.own e f c⟩
def Cw:Sp:=λh H Q _=>∃(e g f c:Addr) (N:Nat) (d:Int) (T F:List (List Int)) (b:HG.c8) (j:Int),h=[.ref e,.int j,.ref c]/\mf H e g f (N:Int) d T F/\cT (N:Int) d T F/\H c=some (.tup (b.map oV))/\b.length=N/\
 ∀l a,ay H a->gw a l (HG.aY (f9 F) j b)->Q (.ref l) a
theorem Kr (h:∀d∈W,d.length=N):(HG.ag j ds W f).length<=2*W.length/\∀d∈HG.ag j ds W f,d.length=N:=by
 have b:∀d∈W.map (λw=>w.set f.2.1 (some j)),d.length=N:=λd a=>by obtain ⟨u,e,rfl⟩:=cn.mp a;rw [oA];exact h u e
 by_cases c:∃s,HG.gD j ds f s
 ·obtain ⟨s,c⟩:=c;rw [HG.cB c];split
  ·refine ⟨by rw [ff,ax];lia,λd a=>?_⟩;rcases fe.mp a with z | z
   ·exact b d z
   ·exact h d z
  ·exact ⟨by rw [ax];lia,b⟩
 ·rw [HG.dN λs z=>c ⟨s,z⟩];exact ⟨by lia,h⟩
section
abbrev MR:List Str:=["_law_w","_law_now","_law_done","_law_ways","_law_one","_law_end","_law_least","_law_most","_law_more"]
theorem oQ:cf MR iv (aT b0):=cH
theorem SN:gF (aT b0) MR (jF [(".0",.local),("_law_way",.local),("_law_end",.free),("_law_now",.free)]) Ğ [none,some 5,some 1]:=jH
theorem S0:(Ğ:List Str).Nodup:=by decide+kernel
theorem iM (F:Fn K mg "_law_fallings" b0 iv f fd):
 au P w K mg base aw 1 f fd iv Cw:=by
 refine F.F.cK oQ λ_ CY _ s x6 _ V' CV hr x7=>?_;obtain ⟨wp,ta,fa,A,N,la,rT,g,ds,j,rfl,D0,X,B,hl,x8⟩:=x7;refine ⟨_,bp (bR 3 oQ.nd (iA (bY (pv 2))))
  (bp (g_ gB U (gy (aF (pv 0)))
   (rP (n:=4) U (eK (bO 4 oQ.nd) (eK (B8 (i:=5) oQ.nd U (Or.inr U)) (eK (bO 6 oQ.nd) (eK (bO 7 oQ.nd) qE)))))
   (a0 (cS (PW.pt (lK (md (B7 (dE oa (pv 2) (pv 4)))) (lK (cR yK (dE oa (pv 2) (pv 5)) jw)
    (nZ (cR Mc (bC gP (pv 1) (dE oa (pv 2) (pv 4))) (pv 6))))))
    (bp (y' (i:=8) oQ.nd U U U (gy (pv 3)) SN (λcl R G O=>⟨bO 0 S0,oi,bC (JX (K:=K) U) (bC (Iu (K:=K) U) (mu (yV (K:=K) U) (pv 0) mi (mj (pv 1))) (cE (bY (pv 2)))) (mu (yV (K:=K) U) (pv 0) (mj (bC gx (pv 1) az)) mi)⟩))
    (bp (o_ (cS (cR oU (bC gP (pv 1) (dE oa (pv 2) (pv 4))) (pv 7)) (a0 (bR 8 oQ.nd (bC qA (pv 8) (pv 3)))) de))
    (a0 (bR 3 oQ.nd (pv 8))))) de)))
  (a0 (cm (pv 3)))),?_⟩
 refine λN1 y=>aa U ⟨cX U,λl0 qZ=>y _ _ ?_⟩;clear y N1;have W0:=gw.one B qZ;have G:=aK (o:=.lst [.ref A]) qZ;generalize upd x6 l0 (.lst [.ref A])=O at*;have Z:=D0.same G;obtain ⟨pf,v⟩:=Z.f;have fl:=X.fl;refine λN1 y=>aa U (aE Z.tup U ⟨fa,U,⟨_,a5.of v.1⟩,?_⟩);refine j0 (K:=K) (a:=fa) (xs:=pf.map V.ref) (λi q r=>∃l I J L M p,q=[some (.ref wp),some (.int j),some (.ref A),some (.ref l),I,J,L,M,p]/\gw r l (((f9 g).take i).foldl (HG.ag j ds) [ds])/\(((f9 g).take i).foldl (HG.ag j ds) [ds]).length<=2 ^ i/\(∀x5∈((f9 g).take i).foldl (HG.ag j ds) [ds],x5.length=N)/\ay O r)
  ⟨l0,none,none,none,none,none,U,W0,aj _,λx5 B=>by rw [dF.mp B];exact hl,ay.refl _⟩ ?_ ?_ ?_
 ·rintro i q u _ ⟨l,I,J,L,M,p,rfl,_,_,_,d⟩;exact a5.of (d _ _ v.1)
 ·rintro i À q u hx ⟨l,I,J,L,M,p,rfl,h,mX,all1,d⟩;obtain ⟨kR,px,rfl,hq,Y,km⟩:=v.get hx;obtain ⟨a',b',c,mo,rfl,x1,x2,x3,x4,_⟩:=X.f px (fg Y);obtain ⟨a,rfl⟩:∃a:Nat,a'=a:=⟨a'.toNat,by lia⟩;obtain ⟨b,rfl⟩:∃b:Nat,b'=b:=⟨b'.toNat,by lia⟩;have hi:i<g.length:=(eP.mp Y).1;have er:(f9 g)[i]?=some (a,b,c,mo):=by
   unfold f9;rw [dC,Y];show some ((a:Int).toNat,(b:Int).toNat,c,mo)=_;rw [iU,iU]
  have tk:((f9 g).take (i+1)).foldl (HG.ag j ds) [ds]=HG.ag j ds (((f9 g).take i).foldl (HG.ag j ds) [ds]) (a,b,c,mo):=by rw [hX,er,ue];rfl
  rw [tk];generalize ((f9 g).take i).foldl (HG.ag j ds) [ds]=W at*;obtain ⟨tD,x⟩:=Kr (j:=j) (ds:=ds) (f:=(a,b,c,mo)) all1;have E:(HG.ag j ds W (a,b,c,mo)).length<=2 ^ (i+1):=by rw [Nat.pow_succ];lia
  have D:=d _ _ (G _ _ B);have t:=v7 (ds:=ds) (a:=a) (by lia);have B1:=v7 (ds:=ds) (a:=b) (by lia);have skip:(∀s,¬HG.gD j ds (a,b,c,mo) s)->gw u l (HG.ag j ds W (a,b,c,mo)):=λno=>by rw [HG.dN no];exact h
  refine ⟨kR,_,U,bU.of (d _ _ km),U,_,_,U,_,_,U,_,_,U,_,_,U,U,?_⟩;refine aa U (aa U (pF D t ?_))
  cases C:HG.af ds a with
  | none=>exact ⟨_,U,du (du ⟨l,_,_,_,_,p,U,skip (λs z=>nomatch C.symm.trans z.1),E,x,d⟩)⟩
  | some s=>
   rw [C] at t;refine ⟨_,U,fx (aa U (aa U (pF D B1 ⟨U,ct ?_⟩)))⟩
   cases hB:HG.af ds b with
   | some Á=>exact du (du ⟨l,_,_,_,_,p,U,skip (λs z=>nomatch hB.symm.trans z.2.1),E,x,d⟩)
   | none=>
    refine fx (aa U (aa U (aa U (pF D t (ri (aa U (ri (ct ?_))))))));refine gX (λk=>?_) (λk=>?_)
    ·have S:c<=j-s:=by simpa using k
     have NY:HG.gD j ds (a,b,c,mo) s:=⟨C,hB,S⟩;have p7:(2:Nat) ^ i<=2 ^ 7:=Nat.pow_le_pow_right (by decide) (by lia);have wl:W.length<=128:=c7 mX p7;obtain ⟨Z',YO,Í⟩:=h.lst;refine λN2 c2=>aa U ⟨l,U,⟨_,a5.of YO⟩,λDa ft=>JI (e:=b) (N:=N) (j:=j) U h all1 (by have:=X.n2;lia) (by lia) (by lia) ft λH2 H Q=>c2 _ _ ?_⟩;clear c2 N2;have O6:=h.same H;have hd2:=H _ _ D;refine λN3 c3=>⟨λq r=>∃m,q=[some (.ref wp),some (.int j),some (.ref A),some (.ref l),some (.int (a:Int)),some (.int (b:Int)),some (.int c),some (.int mo),some (.ref m)]/\gw r m (HG.ag j ds W (a,b,c,mo))/\ay O r,?_,?_⟩
     ·refine aa U (aa U (aa U (pF hd2 t (ri (aa U (ri (ct ?_)))))));refine gX (λk=>?_) (λk=>?_)
      ·have T:j-s<mo:=by simpa using k
       obtain ⟨xs,R,lx⟩:=Q.lst;obtain ⟨ys,ey,ly⟩:=O6.lst;refine aa U (aa U ⟨_,_,_,_,U,U,R,ey,?_,λx9 hp=>⟨x9,U,?_,(d.trans H).trans (aK hp)⟩⟩)
       ·rw [lx,ly,ax];show _<=16777216;lia
       ·rw [HG.cB NY,if_pos T];exact Q.cat O6 R ey hp
      ·have T:¬j-s<mo:=by simpa using k
       refine ⟨Da,U,?_,d.trans H⟩;rw [HG.cB NY,if_neg T];exact Q
     ·rintro q H3 ⟨m,rfl,W3,s3⟩;apply c3;exact aa U ⟨m,_,_,_,_,_,U,W3,E,x,s3⟩
    ·have S:¬c<=j-s:=by simpa using k
     exact ⟨l,_,_,_,_,p,U,skip (λs' z=>by
      have e:=z.1;rw [C] at e;cases e;exact S z.2.2),E,x,d⟩
 ·rintro q u ⟨l,I,J,L,M,p,rfl,h,_,_,d⟩;apply y;rw [show (pf.map V.ref).length=(f9 g).length by rw [ax,v.len];unfold f9;rw [ax],gC] at h;exact aa U (x8 l u (G.trans d) h)
end
theorem IZ (h:cT (N:Int) la T F):bw F i=none↔¬(i:Int)∈F.map sR:=by
 refine ⟨λz d=>?_,λz=>C9 λr c e=>z ?_⟩
 ·obtain ⟨r,c,e⟩:=cn.mp d;obtain ⟨a,b,l,m,rfl,_⟩:=h.f r c;have e:b=(i:Int):=e;subst e;rw [h.eo c] at z;cases z
 ·obtain ⟨a,b,l,m,rfl,_⟩:=h.f r c;have e:some b=some (i:Int):=e;exact cn.mpr ⟨_,c,dG e⟩
def BD:Sp:=λh H Q _=>∃(e g f c:Addr) (N:Nat) (d:Int) (T F:List (List Int)) (b:HG.c8) (j:Int),h=[.ref e,.int j,.ref c]/\mf H e g f (N:Int) d T F/\cT (N:Int) d T F/\H c=some (.tup (b.map oV))/\b.length=N/\
 ∀l a,ay H a->gw a l (HG.bh (bw F) N j b)->Q (.ref l) a
theorem QL (h:∀d∈W,d.length=N):(HG.aC F j ds W m).length<=2*W.length/\∀d∈HG.aC F j ds W m,d.length=N:=by
 have b:∀d∈W.map (λw=>w.set m (some j)),d.length=N:=λd a=>by obtain ⟨u,c,rfl⟩:=cn.mp a;rw [oA];exact h u c
 unfold HG.aC;split
 ·split
  ·exact ⟨by rw [List.nil_append,ax];lia,b⟩
  ·refine ⟨by rw [ff,ax];lia,λd a=>?_⟩;rcases fe.mp a with z | z
   ·exact h d z
   ·exact b d z
 ·exact ⟨by lia,h⟩
section
abbrev Du:List Str:=["_law_w","_law_now","_law_done","_law_ways","_law_moment","_law_later"]
theorem uM:cf Du iv (aT cC):=cH
theorem Tx:gF (aT cC) Du (jF [(".0",.local),("_law_fall",.local)]) ["_law_fall"] [none]:=jH
theorem Tz:gF (aT cC) Du (jF [(".0",.local),("_law_way",.local),("_law_moment",.free),("_law_now",.free)]) ě [none,some 4,some 1]:=jH
theorem TN:(["_law_fall"]:List Str).Nodup:=by decide+kernel
theorem TQ:(ě:List Str).Nodup:=by decide+kernel
theorem mJ (F:Fn K mg "_law_deeds" cC iv f fd) (range:mg "range"=none):
 au P w K mg base aw 1 f fd iv BD:=by
 refine F.F.cK uM λ_ x6 _ px x2 _ x8 x7 hr x3=>?_;obtain ⟨wp,ta,fa,y,N,la,rT,rF,ds,j,rfl,D0,q,C,hl,x4⟩:=x3;refine ⟨_,bp (bR 3 uM.nd (iA (bY (pv 2))))
  (bp (g_ gB U (sE U range (bY (aF (pv 0)))) (B8 (i:=4) uM.nd U (Or.inr U))
   (a0 (cS (PW.pt (lK (cR yK (dE oa (pv 2) (pv 4)) jw)
    (nZ (vK (K0 (K:=K) U) (pv 4) (mh U (gy (aF (pv 0))) Tx (λcl B r G=>⟨bO 0 TN,oi,dE (V3 (K:=K) U) (pv 0) az⟩)) (by with_unfolding_all rfl)))))
    (bp (bR 5 uM.nd (pv 3))
    (bp (o_ (cS (cR fc (pv 4) az) (a0 (bR 5 uM.nd (iA lJ))) de))
    (a0 (bR 3 uM.nd (bC qA (pv 5) (mh U (gy (pv 3)) Tz (λcl B r G=>⟨bO 0 TQ,oi,bC (JX (K:=K) U) (bC (Iu (K:=K) U) (mu (yV (K:=K) U) (pv 0) mi (mj (pv 1))) (cE (bY (pv 2)))) (mu (yV (K:=K) U) (pv 0) (mj (bC gx (pv 1) az)) mi)⟩))))))) de)))
  (a0 (cm (pv 3)))),?_⟩
 refine λT x=>aa U ⟨cX U,λl0 qZ=>x _ _ ?_⟩;clear x T;have W0:=gw.one C qZ;have r:=aK (o:=.lst [.ref y]) qZ;generalize upd x2 l0 (.lst [.ref y])=G at*;have E:=D0.same r;obtain ⟨pf,u⟩:=E.f;have n8:=q.n2;refine λT x=>aa U (aE E.tup U ⟨(N:Int),U,by exact jJ (N+Nat.succ 4611686018427387903),by lia,?_⟩);refine wg (n:=((N:Nat):Int).toNat) (λi b g=>∃l R s,b=[some (.ref wp),some (.int j),some (.ref y),some (.ref l),R,s]/\gw g l (HG.bh (bw rF) i j ds)/\(HG.bh (bw rF) i j ds).length<=2 ^ i/\(∀x1∈HG.bh (bw rF) i j ds,x1.length=N)/\ay G g)
  ⟨l0,none,none,U,W0,aj _,λx1 C=>by rw [dF.mp C];exact hl,ay.refl _⟩ ?_ ?_
 ·rintro i b t hi ⟨l,R,s,rfl,k,mX,all1,c⟩;rw [iU] at hi;have tk:HG.bh (bw rF) (i+1) j ds=HG.aC (bw rF) j ds (HG.bh (bw rF) i j ds) i:=by
   unfold HG.bh;rw [xN,ue];rfl
  rw [tk];generalize HG.bh (bw rF) i j ds=W at*;obtain ⟨tD,J⟩:=QL (F:=bw rF) (j:=j) (ds:=ds) (m:=i) all1;have O:(HG.aC (bw rF) j ds W i).length<=2 ^ (i+1):=by rw [Nat.pow_succ];lia
  have xh:=c _ _ (r _ _ C);have A1:=v7 (ds:=ds) (a:=i) (by lia);have skip:¬(HG.af ds i=none/\bw rF i=none)->gw t l (HG.aC (bw rF) j ds W i):=λno=>by unfold HG.aC;rw [if_neg no];exact k
  have z0:(0:Int)+(i:Int)=(i:Int):=Int.zero_add _;rw [z0];refine aa U (aa U (pF xh A1 ⟨U,ct ?_⟩))
  cases hA:HG.af ds i with
  | some CY=>exact du (du ⟨l,_,s,U,skip (λz=>nomatch hA.symm.trans z.1),O,J,c⟩)
  | none=>
   refine fx (aa U (aa U (aE (c _ _ E.tup) U ⟨fa,U,⟨_,a5.of (c _ _ u.1)⟩,λS ft=>?_⟩)));refine sC (xs:=pf.map V.ref) (λj b g=>∃v,b=[v]/\g S=some (.lst (((rF.take j).map sR).map V.int))/\ay t g) ⟨none,U,ak,aK ft⟩ ?_ ?_ ?_
   ·rintro j b H _ ⟨v,rfl,_,d⟩;exact a5.of (d _ _ (c _ _ u.1))
   ·rintro j CV b H hx ⟨v,rfl,A,d⟩;obtain ⟨kR,x5,rfl,_,lP,km⟩:=u.get hx;obtain ⟨a',b',l,m,rfl,_⟩:=q.f x5 (fg lP);refine (aa U ⟨_,_,_,_,U,U,bU.of (d _ _ (c _ _ km)),U,_,A,?_,_,U,?_,λx9 o e=>?_⟩)
    ·rw [ax,ax,fU];have:=q.fl;exact fz (by lia)
    ·rw [ak,hX,lP,eH,eH];rfl
    ·rw [aq (bj e ft)];exact d _ _ e
   ·rintro b H ⟨v,rfl,A,d⟩;have hle:rF.take (pf.map V.ref).length=rF:=by
     rw [ax,u.len];exact gC
    rw [hle] at A;refine ⟨S,_,U,.inl (a5.of A),U,zA,ct ?_⟩;show if (!m_ (V.int (i:Int)) ((rF.map sR).map V.int))=true then _ else _;rw [zg];refine gX (λh=>?_) (λh=>?_)
    ·have L:¬(i:Int)∈rF.map sR:=by simpa using h
     have own:=(IZ q).mpr L;have p7:(2:Nat) ^ i<=2 ^ 8:=Nat.pow_le_pow_right (by decide) (by lia);have wl:W.length<=256:=c7 mX p7;have I:=k.same d;obtain ⟨Ms,í,Ì⟩:=I.lst;refine λN2 c2=>aa U (c2 _ _ ?_);clear c2 N2;refine λN3 c3=>⟨λb g=>∃m,b=[some (.ref wp),some (.int j),some (.ref y),some (.ref l),some (.int (i:Int)),some (.ref m)]/\gw g m (if i=0 then [] else W)/\ay H g,?_,?_⟩
     ·refine aa U ⟨U,ct ?_⟩;refine gX (λh=>?_) (λh=>?_)
      ·have M:i=0:=by have:(i:Int)=0:=by simpa using h
                      lia
       refine ⟨cN _,λp D=>⟨p,U,?_,aK D⟩⟩;rw [if_pos M];exact ⟨[],ak,.nil⟩
      ·have M:¬i=0:=λz=>h (by rw [z];rfl);refine ⟨l,U,?_,ay.refl _⟩;rw [if_neg M];exact I
     ·rintro b H3 ⟨m,rfl,Y,s3⟩;apply c3;clear c3 N3;have X:=I.same s3;obtain ⟨ZZ,A8,Ë⟩:=X.lst;refine aa U (aa U ⟨l,U,⟨_,a5.of A8⟩,λDb Y6=>JI (e:=i) (N:=N) (j:=j) U X all1 (by lia) (by lia) hi Y6 λH4 Q Z=>?_⟩);obtain ⟨xs,B,lx⟩:=(Y.same Q).lst;obtain ⟨ys,ey,ly⟩:=Z.lst;refine ⟨_,_,_,_,U,U,B,ey,?_,λp D=>⟨p,_,_,U,?_,O,J,(((c.trans d).trans s3).trans Q).trans (aK D)⟩⟩
      ·rw [lx,ly,ax];have:(if i=0 then [] else W).length<=W.length:=by split;exact cN _;exact aj _
       show _<=16777216;lia
      ·unfold HG.aC;rw [if_pos ⟨hA,own⟩];exact (Y.same Q).cat Z B ey D
    ·have L:(i:Int)∈rF.map sR:=by simpa using h
     exact ⟨l,_,s,U,(skip λz=>(IZ q).mp z.2 L).same d,O,J,c.trans d⟩
 ·rintro b t ⟨l,R,s,rfl,k,_,_,c⟩;apply x;rw [iU] at k;exact aa U (x4 l t (r.trans c) k)
end
structure nN (N:Nat) (la:Int) (ds:HG.c8):Prop where
 len:ds.length=N
 num:∀t,some t∈ds->0<=t/\t<=la
def vm (N:Nat) (la:Int) (k:NK):Prop:=0<=k.1/\k.1<=la/\nN N la k.2
structure lX (N:Nat) (la:Int) (xs:iE):Prop where
 nd:(xs.map (·.1)).Nodup
 ok:∀x∈xs,vm N la x.1
def dig:Option Int->Nat
 | none=>0
 | some t=>t.toNat+1
def cd:HG.c8->Nat
 | []=>0
 | o::r=>dig o+6*cd r
theorem Mj (a:la<=4):∀{ds:HG.c8},(∀t,some t∈ds->0<=t/\t<=la)->cd ds<6 ^ ds.length
 | [],_=>by show 0<1;decide
 | o::r,h=>by
  have d:=Mj a (ds:=r) λt b=>h t (eI _ b);have c:dig o<=5:=by
   cases o with
   | none=>exact cN _
   | some t=>
    have:=h t dB;show t.toNat+1<=5;lia
  show dig o+6*cd r<6 ^ (r.length+1);rw [Nat.pow_succ];lia
theorem GY (n:la<=4):∀{a b:HG.c8},a.length=b.length->(∀t,some t∈a->0<=t/\t<=la)->(∀t,some t∈b->0<=t/\t<=la)->cd a=cd b->a=b
 | [],[],_,_,_,_=>rfl
 | [],_::_,h,_,_,_=>nomatch h
 | _::_,[],h,_,_,_=>nomatch h
 | o::r,o'::r',p,h,f,e=>by
  have g:∀{o:Option Int},(∀t,o=some t->0<=t/\t<=la)->dig o<=5:=λ{o} h=>by
   cases o with
   | none=>exact cN _
   | some t=>
    have:=h t U;show t.toNat+1<=5;lia
  have i:∀t,o=some t->0<=t/\t<=la:=λt z=>h t (by rw [<-z];exact dB);have j:∀t,o'=some t->0<=t/\t<=la:=λt z=>f t (by rw [<-z];exact dB);have q:=g i;have s:=g j;have e:dig o+6*cd r=dig o'+6*cd r':=e;have c:dig o=dig o':=by lia
  have k:cd r=cd r':=by lia
  have l:=GY n (Nat.succ.inj p) (λt d=>h t (eI _ d)) (λt d=>f t (eI _ d)) k;have m:o=o':=by
   cases o with
   | none=>cases o' with
    | none=>rfl
    | some t=>exact absurd c (by show ¬0=t.toNat+1;lia)
   | some t=>cases o' with
    | none=>exact absurd c (by show ¬t.toNat+1=0;lia)
    | some u=>
     have c:t.toNat+1=u.toNat+1:=c;have:=i t U;have:=j u U;congr 1;lia
  rw [l,m]
theorem lX.len (T:lX N la xs) (s:N<=4) (i:la<=4):xs.length<=6480:=by
 have r:∀k,vm N la k->k.1.toNat+5*cd k.2<6480:=λk ⟨B,C,h⟩=>by have c:=Mj i h.num;rw [h.len] at c;have p:(6:Nat) ^ N<=6 ^ 4:=Nat.pow_le_pow_right (by decide) s;have D:(6:Nat) ^ 4=1296:=U;lia
 have:=_root_.MH.se 6480 ((xs.map (·.1)).map λk=>k.1.toNat+5*cd k.2) ?_ ?_
 ·rwa [ax,ax] at this
 ·refine ro.mpr (FZ (λ{a b} j l n e=>n ?_) T.nd);obtain ⟨x,d,rfl⟩:=cn.mp j;obtain ⟨y,o,rfl⟩:=cn.mp l;obtain ⟨t,u,f⟩:=T.ok x d;obtain ⟨v,A,g⟩:=T.ok y o;exact Prod.ext (by lia) (GY i (f.len.trans g.len.symm) f.num g.num (by lia))
 ·intro z q;obtain ⟨k,m,rfl⟩:=cn.mp q;obtain ⟨x,d,rfl⟩:=cn.mp m;exact r _ (T.ok x d)
theorem Pg (h:look xs k=none):k∉xs.map (·.1):=λa=>by obtain ⟨x,b,rfl⟩:=cn.mp a;unfold look at h;rw [Option.map_eq_none_iff,List.find?_eq_none] at h;exact h x b (ew U)
theorem lX.put (T:lX N la xs) (c:vm N la k):lX N la (i6 xs k a v):=by
 refine ⟨?_,λx d=>?_⟩
 ·unfold i6;split
  ·rw [List.map_map];have:(xs.map ((·.1) ∘ λx:NK×Addr×Bool=>if x.1=k then (x.1,x.2.1,v) else x))=xs.map (·.1):=vd λx _=>by
    dsimp only [Function.comp];split<;>rfl
   rw [this];exact T.nd
  next h=>
   have h:look xs k=none:=by
    cases c:look xs k with
    | none=>rfl
    | some b=>rw [c] at h;exact absurd U h
   rw [eH];refine List.nodup_append.mpr ⟨T.nd,List.pairwise_singleton _ _,λx d y f e=>Pg h ?_⟩;have e:x=k:=e.trans (dF.mp f);rw [<-e];exact d
 ·rcases Ie d with ⟨y,f,e,_⟩ | ⟨e,_⟩
  ·rw [e];exact T.ok y f
  ·rw [e];exact c
theorem KU (h:nK H k a) (f:H sd=some (jv P w sd xs)) (q:aZ sd H H'):nK H' k a:=by obtain ⟨b,c,d⟩:=h;have e:∀{p g},H p=some (.tup g)->p≠sd:=λz=>cp z f nofun;exact ⟨b,q _ _ c (e c),q _ _ d (e d)⟩
theorem ow (h:jd P w H sd xs) (s:ay H H'):jd P w H' sd xs:=⟨s _ _ h.1,λx d=>let ⟨b,a,c⟩:=h.2 x d;⟨b,s _ _ a,s _ _ c⟩⟩
theorem Pm (h:jd P w H sd xs) (d:nK H k p):jd P w (upd H sd (jv P w sd (i6 xs k p v))) sd (i6 xs k p v):=by
 have q:aZ sd H (upd H sd (jv P w sd (i6 xs k p v))):=λb u e i=>by rw [aq i];exact e
 refine ⟨ak,λx f=>?_⟩;rcases Ie f with ⟨y,g,a,c⟩ | ⟨a,c⟩
 ·rw [a,c];exact KU (h.2 y g) h.1 q
 ·rw [a,c];exact KU d h.1 q
abbrev fi (N:Nat) (la:Int) (T F:List (List Int)):Nat->HG.c8->Bool:=HG.jZ (bw F) N ((cU (N:Int) la T F).map fC) (f9 F) la
def uq (W:Nat->HG.c8->Bool) (la b:Int) (a:NK->Prop) (xs:iE):Prop:=∀k v,look xs k=some v->b<=k.1->¬a k->v=W ((la-k.1).toNat+1) k.2
def vF (P:Program) (w:World) (k:Nat):Sp:=λm H Q _=>∃(i l j h b:Addr) (N:Nat) (a:Int) (T F:List (List Int)) (f:HG.c8) (c:iE),m=[.ref i,.int (a-k),.ref h,.ref b]/\mf H i l j (N:Int) a T F/\cT (N:Int) a T F/\N<=4/\a<=4/\(k:Int)<=a/\
 H h=some (.tup (f.map oV))/\nN N a f/\jd P w H b c/\lX N a c/\uq (fi N a T F) a (a-k) (λ_=>False) c/\
 ∀d e,aZ b H e->jd P w e b d->lX N a d->uq (fi N a T F) a (a-k) (λ_=>False) d->(∀g:NK,g.1<a-k->look d g=look c g)->Q (.bl (fi N a T F (k+1) f)) e
def UN (P:Program) (w:World):Nat->Sp
 | 0=>λ_ _ _ _=>False
 | k+1=>vF P w k
theorem HH (h:some t∈ds):∃x,HG.af ds x=some t:=by obtain ⟨x,a,e⟩:=ye h;refine ⟨x,?_⟩;unfold HG.af;rw [gp a,e];rfl
theorem HV (h:HG.af ds x=some t):some t∈ds:=by have a:=HG.eE h;unfold HG.af at h;rw [gp a] at h;have h:ds[x]=some t:=h;rw [<-h];exact rr a
theorem nN.n5 (h:nN N la ds) (e:0<=j) (f:j<=la) (hw:way∈HG.bh F N j ds):nN N la way:=by
 obtain ⟨b,c,_⟩:=HG.cL (by rw [h.len];exact aj _) hw;refine ⟨b.trans h.len,λt d=>?_⟩;obtain ⟨x,a⟩:=HH d;rcases c x with z | ⟨_,_,_,z⟩
 ·rw [z] at a;exact h.num t (HV a)
 ·rw [z] at a;cases a;exact ⟨e,f⟩
theorem nN.bM (h:nN N la ds) (b:HG.iW F N fs) (i:0<=j) (k:j<=la) (hw:nx∈HG.aY fs j ds):nN N la nx:=by
 obtain ⟨l,c,d,e,_⟩:=HG.dR (λf z=>by rw [h.len];exact (b.lt _ _ (b.to f z)).2.1) (λw hw=>by rw [dF.mp hw]) hw;cases dF.mp c;refine ⟨d.trans h.len,λt g=>?_⟩;obtain ⟨x,a⟩:=HH g;rcases e x with z | ⟨_,_,_,_,z⟩
 ·rw [z] at a;exact h.num t (HV a)
 ·rw [z] at a;cases a;exact ⟨i,k⟩
theorem LD:∀{fs:HG.lW} {W:List HG.c8},(∀d∈W,d.length=ds.length)->(fs.foldl (HG.ag j ds) W).length<=2 ^ fs.length*W.length
 | [],W,_=>by show W.length<=2 ^ 0*W.length;lia
 | f::fs,W,h=>by obtain ⟨a,b⟩:=Kr (j:=j) (ds:=ds) (f:=f) h;have c:=LD (j:=j) (fs:=fs) b;show (fs.foldl (HG.ag j ds) (HG.ag j ds W f)).length<=2 ^ (fs.length+1)*W.length;refine c7 c (c7 (Nat.mul_le_mul_left _ a) ?_);rw [Nat.pow_succ,Nat.mul_assoc];exact aj _
structure Tb (P:Program) (w:World) (W:Nat->HG.c8->Bool) (N:Nat) (la:Int) (key:NK) (sd:Addr) (xs0:iE) (H0 H:Hp) (xs:iE) (v:Bool):Prop where
 nest:jd P w H sd xs
 tab:lX N la xs
 tf:uq W la key.1 (λk=>k=key) xs
 val:look xs key=some v
 old:∀k:NK,k.1<key.1->look xs k=look xs0 k
 kp:aZ sd H0 H
theorem Tb.same (T:Tb P w W N la key sd xs0 H0 H xs v) (s:ay H H'):Tb P w W N la key sd xs0 H0 H' xs v:=
 ⟨ow T.nest s,T.tab,T.tf,T.val,T.old,λb u e n=>s _ _ (T.kp b u e n)⟩
theorem TX (a:jd P w H sd xs) (c:lX N la xs) (d:uq W la key.1 (λk=>k=key) xs) (f:∀k:NK,k.1<key.1->look xs k=look xs0 k) (g:aZ sd H0 H) (h:vm N la key) (i:nK H key p):
 Tb P w W N la key sd xs0 H0 (upd H sd (jv P w sd (i6 xs key p v))) (i6 xs key p v) v:=by
 refine ⟨Pm a i,c.put h,λk u e l n=>?_,?_,λk l=>?_,λb u e n=>?_⟩
 ·rw [BK,if_neg n] at e;exact d k u e l n
 ·rw [BK,if_pos rfl]
 ·have j:k≠key:=λz=>by rw [z] at l;exact absurd l (Int.lt_irrefl _)
  rw [BK,if_neg j];exact f k l
 ·rw [aq n];exact g b u e n
theorem Tb.pz (T:Tb P w W N la key sd xs0 H0 H xs v) (d:H D=some (.lst ys)) (g:∀b u,H0 b=some u->b≠sd->b≠D):Tb P w W N la key sd xs0 H0 (upd H D (.lst zs)) xs v:=by have i:sd≠D:=cp T.nest.1 d nofun;have f:∀{p ys},H p=some (.tup ys)->p≠D:=λz=>cp z d nofun;refine ⟨⟨by rw [aq i];exact T.nest.1,λx h=>?_⟩,T.tab,T.tf,T.val,T.old,λb u e n=>by rw [aq (g b u e n)];exact T.kp b u e n⟩;obtain ⟨b,a,c⟩:=T.nest.2 x h;exact ⟨b,by rw [aq (f a)];exact a,by rw [aq (f c)];exact c⟩
theorem om (a:H sd=some (jv P w sd xs)) (q:aZ sd H H') (h:H p=some (.tup ys)):H' p=some (.tup ys):=q _ _ h (cp h a nofun)
theorem vQ (a:H sd=some (jv P w sd xs)) (q:aZ sd H H') (h:H p=some (.lst ys)):H' p=some (.lst ys):=q _ _ h (cp h a nofun)
theorem Ct (a:H sd=some (jv P w sd xs)) (q:aZ sd H H') (D:mf H wp ta fa n la T F):mf H' wp ta fa n la T F:=by obtain ⟨d,⟨e,b⟩,⟨f,c⟩⟩:=D;exact ⟨om a q d,⟨e,vQ a q b.1,Paired.g9 b.2 λ_ _ z=>om a q z⟩,⟨f,vQ a q c.1,Paired.g9 c.2 λ_ _ z=>om a q z⟩⟩
abbrev CM:TE:=uO (gZ (dv 1) (gZ (dv 2) lC))
theorem Bp (c:σ[1]?=some (some (.int now))) (d:σ[2]?=some (some (.ref dp))) (e:H dp=some (.tup (ds.map oV))) (q:∀p a,ay H a->nK a (now,ds) p->Q (.ref p) a):CM σ H Q:=by refine aa c (aa d ⟨cX U,λp b=>q p _ (aK b) ⟨dp,ak,aK b _ _ e⟩⟩)
theorem Hw (b:σ[1]?=some (some (.int now))) (c:σ[2]?=some (some (.ref dp))) (d:σ[3]?=some (some (.ref sd))) (e:H dp=some (.tup (ds.map oV)))
 (f:jd P w H sd xs) (g:look xs (now,ds)=some v) (q:∀a,ay H a->Q (.bl v) a):Bh P w (dv 3) CM σ H Q:=
 aa d (Bp b c e λp a s k=>⟨sd,p,xs,_,v,U,U,ow f s,k,g,q a s⟩)
theorem Bx (y:N<=4) (x:la<=4) (j:σ[1]?=some (some (.int now))) (l:σ[2]?=some (some (.ref dp))) (m:σ[3]?=some (some (.ref sd))) (t:∀Q:VK,(∀d,ay H d->Q (.bl v) d)->C σ H Q) (o:H dp=some (.tup (ds.map oV)))
 (g1:jd P w H sd xs) (f:lX N la xs) (g:uq W la now (λk=>k=(now,ds)) xs) (h:∀k:NK,k.1<now->look xs k=look xs0 k) (i:aZ sd H0 H) (r:vm N la (now,ds)) (q:∀c z,Tb P w W N la (now,ds) sd xs0 H0 c z v->aZ sd H c->D.nx σ c):Bj P w (dv 3) CM C D σ H:=
 t _ λd a=>aa m (Bp j l (a _ _ o) λp c s k=>⟨sd,p,xs,_,v,U,U,U,ow (ow g1 a) s,k,l9 (f.len y x) (by decide),q _ _ (TX (ow (ow g1 a) s) f g h (λb u e n=>s _ _ (a _ _ (i b u e n))) r k) λb u e n=>by rw [aq n];exact s _ _ (a _ _ e)⟩)
theorem V1 (ds:HG.c8):(!m_ .aH (ds.map oV))=ds.all Option.isSome:=by
 unfold m_
 induction ds with
 | nil=>rfl
 | cons o r a=>
  rw [dt,tY,ve,Bool.not_or,a];cases o<;>rfl
theorem VU (ds:HG.c8):(ds.map oV).all gY=true:=by rw [List.all_map];exact jK.mpr λo _=>by cases o<;>rfl
section
abbrev MN:List Str:=["_law_w","_law_now","_law_done","_law_seen","_law_way","_law_nexts","_law_bad"]
abbrev ML:List Str:=["_law_one","_law_now","_law_seen","_law_w"]
theorem Ai:cf MN qq (aT dW):=cH
theorem Sj:gF (aT dW) MN (jF [(".0",.local),("_law_one",.local),("_law_broken",.globalImplicit),("_law_wins",.globalImplicit),("_law_now",.free),("_law_seen",.free),("_law_w",.free)]) ML [none,some 1,some 3,some 0]:=jH
theorem SA:ML.Nodup:=by decide+kernel
section
seal L2.PE L2.PA L2.PT L2.PS L2.eZ L2.PG L2.kG L2.PI L2.PO L2.uO L2.Bh L2.Bj
theorem Ir (F:Fn K mg "_law_wins" dW qq f fd)
 (FB:Fn K mg "_law_broken" cY Ċ fB lQ) (GB:au P w K mg base aw 2 fB lQ Ċ BR)
 (FD:Fn K mg "_law_deeds" cC iv fD tT) (GD:au P w K mg base aw 1 fD tT iv BD)
 (FF:Fn K mg "_law_fallings" b0 iv fF o7) (GF:au P w K mg base aw 1 fF o7 iv Cw)
 (GR:au P w K mg base aw (o+2) f fd qq (UN P w o)):
 au P w K mg base aw (o+3) f fd qq (vF P w o):=by
 refine F.F.cK Ai λ_ x7 _ x9 H _ x5 x8 hr x3=>?_;obtain ⟨I,ta,fa,dp,p,N,la,h,g,ds,xs,rfl,D0,S,n4,l4,kl,E,tJ,D,T0,R0,k⟩:=x3;have tL:cI 2 _:=hr.mono (by lia);have jj:cI 1 _:=hr.mono (by lia);have hu:=(λ(u:Nat) (x3:u+16*1+200<cLine)=>(by lia:u+2<cLine)) _ jj.un;refine ⟨_,bp (o_ (cS (md (VB hu (cE (a_ (pv 1) (pv 2))) (pv 3)))
  (bp (BA hu (pv 3) (cE (a_ (pv 1) (pv 2))) rG U)
  (a0 (g_ gB U (gy (bQ GD jj FD (eM (pv 0) (pv 1) (pv 2)))) (bO 4 Ai.nd)
   (a0 (cS (PW.pt (lK (pb (pd (Ia hu (pv 3) (cE (a_ (pv 1) (pv 2))) (λ_ _=>rfl)))) (nZ (pb (pd (bQ GB tL FB (a_ (pv 0) (pv 4))))))))
    (a0 (cS (vK (K0 (K:=K) U) jw (pv 4) (by with_unfolding_all rfl))
     (a0 (BA hu (pv 3) (cE (a_ (pv 1) (pv 2))) rG U))
     (a0 (cS (cR oU (pv 1) (aF (pv 0)))
      (bp (bR 5 Ai.nd (bQ GF jj FF (eM (pv 0) (bC gx (pv 1) az) (pv 4))))
      (bp (y' (i:=6) Ai.nd U U U (gy (pv 5)) Sj (λcl ex s0 H0=>⟨bO 0 SA,vI (PW.pt (oX (pd (bQ GB tL FB (a_ (pv 3) (pv 0))))
       (rQ (pb (pd (bQ GR hr F (jh (pv 3) (bC gx (pv 1) az) (pv 0) (pv 2)))))))),az⟩))
      (a0 (BA hu (pv 3) (cE (a_ (pv 1) (pv 2))) (oN (U' jj.units) (pv 6) (iA lJ)) U)))) de)))) de)))))
  de))
  (a0 (cm (Ia hu (pv 3) (cE (a_ (pv 1) (pv 2))) (λ_ _=>rfl)))),?_⟩
 have DA:vm N la (la-(o:Int),ds):=⟨by show 0<=la-(o:Int);lia,by show la-(o:Int)<=la;lia,tJ⟩;have eW:fi N la h g (o+1) ds=(HG.bh (bw g) N (la-o) ds).any (HG.good (fi N la h g o) ((cU (N:Int) la h g).map fC) (f9 g) la o):=U;have Fj:=Mm S;refine λN1 c1=>⟨λB s=>∃O Q R t,B=[some (.ref I),some (.int (la-o)),some (.ref dp),some (.ref p),O,Q,R]/\aZ p H s/\jd P w s p t/\lX N la t/\uq (fi N la h g) la (la-o) (λ_=>False) t/\look t (la-(o:Int),ds)=some (fi N la h g (o+1) ds)/\∀k:NK,k.1<la-o->look t k=look xs k,?_,?_⟩
 ·refine Bp (by rfl) (by rfl) E λp1 H1 s1 K1=>?_;refine aa U ⟨p,p1,xs,_,U,U,ow D s1,K1,_,U,?_⟩
  cases hl:look xs (la-(o:Int),ds) with
  | some v=>
   refine du ⟨none,none,none,xs,U,s1.keep,ow D s1,T0,R0,?_,λ_ _=>rfl⟩;rw [hl,R0 _ v hl (fO _) (λz=>z)];show some (fi N la h g ((la-(la-(o:Int))).toNat+1) ds)=_;rw [show (la-(la-(o:Int))).toNat=o by lia]
  | none=>
   refine fx ?_;have xh:=s1 _ _ E;refine λN2 c2=>Bx (v:=false) (W:=fi N la h g) (N:=N) (la:=la) (xs0:=xs) (H0:=H) n4 l4 U U U (λ_ q=>q _ (ay.refl _)) xh (ow D s1) T0 (λk v e l _=>R0 k v e l (λz=>z)) (λ_ _=>rfl) s1.keep DA λH2 Ms T2 _=>c2 _ _ ?_;clear c2 N2;have D2:=Ct D.1 T2.kp D0;have hd2:=om D.1 T2.kp E;refine aa U (aa U (aa U ⟨I,ta,fa,dp,N,la,h,g,ds,_,U,D2,S,hd2,tJ.len,λlD H3 s3 W3=>⟨lD,U,?_,?_⟩⟩))
   ·obtain ⟨ys,e,_⟩:=W3.lst;exact ⟨_,a5.of e⟩
   have T3:=T2.same s3;obtain ⟨ps,ng,O5⟩:=W3;have all:∀d∈HG.bh (bw g) N (la-o) ds,nN N la d:=λd E=>tJ.n5 (by lia) (by lia) E;generalize HG.bh (bw g) N (la-o) ds=WD at*;generalize hG:HG.good (fi N la h g o) ((cU (N:Int) la h g).map fC) (f9 g) la o=G at*;refine j0 (K:=K) (a:=lD) (xs:=ps.map V.ref) (λi B s=>∃O Q R t,B=[some (.ref I),some (.int (la-o)),some (.ref dp),some (.ref p),O,Q,R]/\Tb P w (fi N la h g) N la (la-(o:Int),ds) p xs H s t ((WD.take i).any G)/\aZ p H3 s) ⟨none,none,none,Ms,U,T3,aZ.refl _ _⟩ ?_ ?_ ?_
   ·rintro i B H4 _ ⟨O,Q,R,Y,rfl,_,q4⟩;exact a5.of (vQ T3.nest.1 q4 ng)
   ·rintro i x4 B H4 y ⟨O,Q,R,Y,rfl,x,q4⟩;rw [dC] at y
    cases hp:ps[i]? with
    | none=>rw [hp] at y;cases y
    | some x2=>
     rw [hp] at y;cases y;obtain ⟨r,hw,qX⟩:=a4 O5 hp;have tI:=all r (fg hw);have tk:(WD.take (i+1)).any G=((WD.take i).any G || G r):=by rw [hX,hw,List.any_append];show (_ || (G r || false))=_;rw [Bool.or_false]
     rw [tk];have D4:=Ct D.1 x.kp D0;have N9:=om D.1 x.kp E;have uV:=om T3.nest.1 q4 qX;refine Hw (by rfl) (by rfl) (by rfl) N9 x.nest x.val λH5 s5=>?_;refine ⟨_,U,?_⟩;have T5:=x.same s5;have q5:aZ p H3 H5:=λb u e n=>s5 _ _ (q4 b u e n)
     cases hv:(WD.take i).any G with
     | true=>
      rw [hv] at T5;exact du (du ⟨_,_,_,Y,U,T5,q5⟩)
     | false=>
      rw [hv] at T5;rw [Bool.false_or];have D5:=D4.same s5;have uU:=s5 _ _ uV;refine fx (aa U (aa U ⟨I,ta,fa,x2,N,la,h,g,r,U,D5,S,uU,tI.len,λH6 s6=>⟨_,U,?_⟩⟩));have M:=T5.same s6;have q6:aZ p H3 H6:=λb u e n=>s6 _ _ (q5 b u e n);have A:G r=(!HG.brk ((cU (N:Int) la h g).map fC) r && (r.all Option.isSome || (decide (0<o) && (HG.aY (f9 g) (la-o+1) r).all λnx=> !HG.brk ((cU (N:Int) la h g).map fC) nx && fi N la h g o nx))):=by rw [<-hG];rfl
      cases hb:HG.brk ((cU (N:Int) la h g).map fC) r with
      | true=>
       rw [hb] at A;have A:G r=false:=A;rw [A];exact du ⟨_,_,_,Y,U,M,q6⟩
      | false=>
       rw [hb,Bool.not_false,Bool.true_and] at A;have D6:=D5.same s6;have Np:=s6 _ _ uU;have Yp:=s6 _ _ (s5 _ _ N9);refine fx (aa U ⟨x2,_,U,.inr (bU.of Np),U,VU r,ct ?_⟩);show if (!m_ .aH (r.map oV))=true then _ else _;rw [V1];refine gX (λhc=>?_) (λhc=>?_)
       ·rw [hc,Bool.true_or] at A;rw [A];exact Bx (v:=true) (W:=fi N la h g) (N:=N) (la:=la) (xs0:=xs) (H0:=H) n4 l4 U U U (λ_ q=>q _ (ay.refl _)) Yp M.nest M.tab M.tf M.old M.kp DA λH7 VZ Z k7=>⟨_,_,_,VZ,U,Z,q6.trans k7⟩
       ·have u_:r.all Option.isSome=false:=Bool.not_eq_true _▸hc;rw [u_,Bool.false_or] at A;refine aa U (aa U (aE D6.tup U (ri (ct ?_))));refine gX (λA5=>?_) (λA5=>?_)
        ·have k0:la-(o:Int)<la:=by simpa using A5
         obtain ⟨m,rfl⟩:∃m,o=m+1:=⟨o-1,by lia⟩;rw [ew (by lia),Bool.true_and] at A;refine λN2 c2=>aa U (aa U (ri (aa U ⟨I,ta,fa,x2,N,la,h,g,r,_,U,D6,S,Np,tI.len,λlN H7 s7 W7=>c2 _ _ ?_⟩)));clear c2 N2;have Z:=M.same s7;have q7:aZ p H3 H7:=λb u e n=>s7 _ _ (q6 b u e n);obtain ⟨qs,Nm,O4⟩:=W7;have Fy:∀nx∈HG.aY (f9 g) (la-((m+1:Nat):Int)+1) r,nN N la nx:=λnx hn=>tI.bM Fj (by lia) (by lia) hn;have WJ:(HG.aY (f9 g) (la-((m+1:Nat):Int)+1) r).length<=1000:=by
          have h1:=LD (j:=la-((m+1:Nat):Int)+1) (ds:=r) (fs:=f9 g) (W:=[r]) λd E=>by rw [dF.mp E]
          have h2:(f9 g).length<=7:=by unfold f9;rw [ax];exact S.fl
          have p7:(2:Nat) ^ (f9 g).length<=2 ^ 7:=Nat.pow_le_pow_right (by decide) h2;have h3:(HG.aY (f9 g) (la-((m+1:Nat):Int)+1) r).length<=2 ^ (f9 g).length*1:=h1;lia
         generalize HG.aY (f9 g) (la-((m+1:Nat):Int)+1) r=NX at*;refine λN3 c3=>aa U ⟨lN,U,⟨_,a5.of Nm⟩,λL ft=>?_⟩;refine sC (xs:=qs.map V.ref) (λj B s=>∃v t c,B=[v,some (.int (la-((m+1:Nat):Int))),some (.ref p),some (.ref I)]/\s L=some (.lst ((List.replicate c (1:Int)).map V.int))/\c<=j/\(c=0↔∀nx∈NX.take j,HG.brk ((cU (N:Int) la h g).map fC) nx=false/\fi N la h g (m+1) nx=true)/\Tb P w (fi N la h g) N la (la-((m+1:Nat):Int),ds) p xs H s t false/\aZ p H7 s)
          ⟨none,Y,0,U,ak,aj _,⟨λ_ x4 y=>(nomatch y),λ_=>rfl⟩,Z.same (aK ft),(aK ft).keep⟩ ?_ ?_ ?_
         ·rintro j B H8 _ ⟨v,Am,c,rfl,_,_,_,_,q8⟩;exact a5.of (vQ Z.nest.1 q8 Nm)
         ·rintro j x4 B H8 y ⟨v,Am,c,rfl,e8,cj,X,J,q8⟩;rw [dC] at y
          cases wR:qs[j]? with
          | none=>rw [wR] at y;cases y
          | some p'=>
           rw [wR] at y;cases y;obtain ⟨nx,DZ,XP⟩:=a4 O4 wR;have hj:j<NX.length:=(eP.mp DZ).1;have uX:=Fy nx (fg DZ);have Nn:=om Z.nest.1 q8 XP;have D8:=Ct D.1 J.kp D0;have M4:NX.take (j+1)=NX.take j++[nx]:=by rw [hX,DZ];rfl
           have Fm:HG.brk ((cU (N:Int) la h g).map fC) nx=false->fi N la h g (m+1) nx=true->(c=0↔∀nx∈NX.take (j+1),HG.brk ((cU (N:Int) la h g).map fC) nx=false/\fi N la h g (m+1) nx=true):=λz1 z2=>by
            rw [M4];refine ⟨λz x1 T=>?_,λz=>X.mpr λx1 T=>z x1 (h_ _ T)⟩;rcases fe.mp T with T | T
            ·exact X.mp z x1 T
            ·rw [dF.mp T];exact ⟨z1,z2⟩
           have bad:∀s t,s L=some (.lst ((List.replicate c (1:Int)).map V.int))->Tb P w (fi N la h g) N la (la-((m+1:Nat):Int),ds) p xs H s t false->aZ p H7 s->¬(HG.brk ((cU (N:Int) la h g).map fC) nx=false/\fi N la h g (m+1) nx=true)->
            ∃ys,s L=some (.lst ys)/\ys.length<sizeLine/\∃v t c,[some (V.ref p'),some (V.int (la-((m+1:Nat):Int))),some (V.ref p),some (V.ref I)]=[v,some (.int (la-((m+1:Nat):Int))),some (.ref p),some (.ref I)]/\upd s L (.lst (ys++[V.int 1])) L=some (.lst ((List.replicate c (1:Int)).map V.int))/\c<=j+1/\(c=0↔∀nx∈NX.take (j+1),HG.brk ((cU (N:Int) la h g).map fC) nx=false/\fi N la h g (m+1) nx=true)/\Tb P w (fi N la h g) N la (la-((m+1:Nat):Int),ds) p xs H (upd s L (.lst (ys++[V.int 1]))) t false/\aZ p H7 (upd s L (.lst (ys++[V.int 1]))):=λs t e x6 q no=>by
            refine ⟨_,e,?_,_,t,c+1,U,?_,by lia,⟨λz=>by lia,λz=>?_⟩,x6.pz e λb u eb n=>?_,λb u eb n=>?_⟩
            ·rw [ax,uh];exact fz (by lia)
            ·rw [ak,List.replicate_succ',eH];rfl
            ·exact absurd (z nx (by rw [M4];exact i5 _ dB)) no
            ·exact bj (Z.kp b u eb n) ft
            ·rw [aq (bj eb ft)];exact q b u eb n
           refine aa U (aa U ⟨I,ta,fa,p',N,la,h,g,nx,U,D8,S,Nn,uX.len,λH9 s9=>⟨_,U,?_⟩⟩);have C:=J.same s9;have e9:=s9 _ _ e8;have q9:aZ p H7 H9:=λb u e n=>s9 _ _ (q8 b u e n)
           cases NB:HG.brk ((cU (N:Int) la h g).map fC) nx with
           | true=>exact fx (fx (bad H9 Am e9 C q9 λz=>nomatch NB.symm.trans z.1))
           | false=>
            refine du (aa U (aa U (ri (aa U (aa U ⟨I,ta,fa,p',p,N,la,h,g,nx,Am,?_,D8.same s9,S,n4,l4,by lia,s9 _ _ Nn,uX,C.nest,C.tab,λk v e l _=>C.tf k v e ?_ ?_,λsT vp Dm Zw Zn yl Dr=>⟨_,U,?_⟩⟩)))))
            ·rw [show la-((m+1:Nat):Int)+1=la-(m:Int) by lia];rfl
            ·show la-((m+1:Nat):Int)<=k.1;lia
            ·rintro rfl;have l:la-(m:Int)<=la-((m+1:Nat):Int):=l;lia
            have NV:=vQ C.nest.1 Dm e9;have O7:Tb P w (fi N la h g) N la (la-((m+1:Nat):Int),ds) p xs H vp sT false:=by
             refine ⟨Zw,Zn,λk v e l n=>?_,?_,λk l=>?_,C.kp.trans Dm⟩
             ·have l:la-((m+1:Nat):Int)<=k.1:=l
              by_cases z:la-(m:Int)<=k.1
              ·exact yl k v e z (λz=>z)
              ·rw [Dr k (by lia)] at e;exact C.tf k v e l n
             ·rw [Dr _ (by show la-((m+1:Nat):Int)<la-(m:Int);lia)];exact C.val
             ·have l':k.1<la-((m+1:Nat):Int):=l;rw [Dr k (by lia)];exact C.old k l
            have MC:=q9.trans Dm
            cases Nc:fi N la h g (m+1) nx with
            | true=>exact du ⟨_,sT,c,U,NV,Nat.le_succ_of_le cj,Fm NB Nc,O7,MC⟩
            | false=>exact fx (bad vp sT NV O7 MC λz=>nomatch Nc.symm.trans z.2)
         ·rintro B H8 ⟨v,Am,c,rfl,e8,_,X,J,q8⟩;apply c3;clear c3 N3;rw [ax,i4 O4,gC] at X;have eg:G r=decide (List.replicate c (1:Int)=[]):=by
           rw [A]
           by_cases z:c=0
           ·rw [ew (by rw [z];rfl)];exact jK.mpr λnx hn=>by rw [(X.mp z nx hn).1,(X.mp z nx hn).2];rfl
           ·rw [cF (by rw [List.replicate_eq_nil_iff];exact z)];refine F_.mpr λx1=>z (X.mpr λnx hn=>?_);have:=jK.mp x1 nx hn
            rwa [kr,Bool.not_eq_true'] at this
          rw [eg];have EU:=om D.1 J.kp E;exact Bx (v:=decide (List.replicate c (1:Int)=[])) (W:=fi N la h g) (N:=N) (la:=la) (xs0:=xs) (H0:=H) n4 l4 U U U
           (λx5 q=>aa U ⟨cN _,λz hz=>⟨L,z,List.replicate c 1,[],U,U,a5.of (aK hz _ _ e8),a5.of ak,q _ (aK hz)⟩⟩) EU J.nest J.tab J.tf J.old J.kp DA λH9 VY C k9=>⟨_,_,_,VY,U,C,(q7.trans q8).trans k9⟩
        ·have k0:¬la-(o:Int)<la:=by simpa using A5
         rw [cF (by lia),Bool.false_and] at A;rw [A];exact ⟨_,_,_,Y,U,M,q6⟩
   ·rintro B H4 ⟨O,Q,R,Y,rfl,x,q4⟩;rw [ax,i4 O5,gC] at x;refine ⟨O,Q,R,Y,U,x.kp,x.nest,x.tab,λk v e l _=>?_,by rw [x.val,eW],x.old⟩
    by_cases c:k=(la-(o:Int),ds)
    ·subst c;rw [x.val] at e;cases e;show _=fi N la h g ((la-(la-(o:Int))).toNat+1) ds;rw [show (la-(la-(o:Int))).toNat=o by lia,eW]
    ·exact x.tf k v e l c
 ·rintro B H1 ⟨O,Q,R,t,rfl,q1,OD,T1,R1,l1,o1⟩;apply c1;exact Hw (by rfl) (by rfl) (by rfl) (om D.1 q1 E) OD l1 λH2 s2=>k t H2 (λb u e n=>s2 _ _ (q1 b u e n)) (ow OD s2) T1 R1 o1
theorem ki (F:Fn K mg "_law_wins" dW qq f fd)
 (a:Fn K mg "_law_broken" cY Ċ o J) (d:au P w K mg base aw 2 o J Ċ BR)
 (b:Fn K mg "_law_deeds" cC iv C tT) (e:au P w K mg base aw 1 C tT iv BD)
 (c:Fn K mg "_law_fallings" b0 iv I o7) (g:au P w K mg base aw 1 I o7 iv Cw):
 ∀k,au P w K mg base aw (k+3) f fd qq (vF P w k)
 | 0=>Ir F a d b e c g ⟨λ_ _ _ _ z=>hQ z,λ_ _ _ _ _ _ _ _ _ _ _ _ _ z=>hQ z⟩
 | k+1=>Ir F a d b e c g (ki F a d b e c g k)
end
end
end Y0
namespace L2
open PySem PySem.Spec PyProof.Rows
section
theorem P2 (g:(d==sysModules)=false) (b:s.heap.get? d=some o) (f:o.ExactDict) (c:o.data=.dict I C)
 (e:Q (.ref s.heap.objs.size) { s with heap:=s.heap.push { cls:=.type "dict_keyiterator",data:=.fields #[.ref d,.int 0 0,.int I.size 0,.int C 0] } }):
 wpAny (model prog w) A (pyIter (.ref d)) Q E s:=by
 have a:s.TypeIs (.ref d) "dict":=⟨o,b,f.1⟩;refine wpAny_pyIter_slot a F.slot_dict_iter (rk F.slot_dict_iter a F.entry_dict_iter ?_ (F.args_dict_iter_1 _));unfold Builtin.«dict.__iter__» Builtin.Dict.dictSlotNone;refine ab (ab (wpAny_notOrdered_dict a (show wpAny _ _ (pure (Value.ref d)) _ _ s from aG ?_)));refine (show wpAny _ _ (Builtin.Dict.showsAll d>>=_) _ _ s from ?_);unfold Builtin.Dict.showsAll;rw [if_neg (by rw [g];exact d_)];refine ab (aG (ab (AL b c (ab (F9 b c (ab (qk (aG ⟨_,U,"dict_keyiterator",_,⟨_,hY _ U,U⟩,xW.lookup,?_⟩))))))));simpa [rawInt] using e
theorem P4 (a:s.heap.IsKeyIter it d i C.size ep) (h:s.heap.get? d=some od) (f:od.data=.dict C ep) (l:C[i]?=some e)
 (j:∀h',h'.IsKeyIter it d (i+1) C.size ep->Heap.SameBut it s.heap h'->Q (some e.key) { s with heap:=h' }):wpAny (model prog w) A (pyNext (.ref it)) Q E s:=by
 obtain ⟨o,c,k,b⟩:=id a;unfold pyNext;refine ab (t_ (vi (name:=Str.ofString "__next__") a.typeIs xW (rk xW a.typeIs Oy ?_ (Oz _))));refine ab (aG (ab (ab ?_)))
 first | refine ab (AW a.typeIs (aG (ab (AG c b ?_)))) | refine ab (A' a.typeIs (aG (ab (AG c b ?_))))
 rw [show Builtin.Dict_items.ownsTuple "dict_keyiterator"=false by decide,if_neg d_];refine (show wpAny _ _ (if (Value.ref d==Value.none)=true then _ else _) _ _ s from ?_);rw [if_neg (show ¬((Value.ref d==Value.none)=true) from d_)];refine ab (aG (ab (AL h f ?_)));rw [if_neg (by simp)];refine ab (aG (ab (F9 h f ?_)));rw [if_neg (by simp)];refine aG ?_;dsimp only;rw [if_neg (show ¬((i:Int)<0) from Int.not_lt.mpr (xX i)),iU,l];dsimp only;refine ab ?_
 first | refine ab (AW a.typeIs (aG (ab (FL a.typeIs ?_)))) | refine ab (A' a.typeIs (aG (ab (FL a.typeIs ?_))))
 refine (show wpAny _ _ (setField (.ref it) 1 (rawInt ((i:Int)+1))>>=_) _ _ s from ab (xY c b (by simp) ?_));have g:(s.heap.update it (Obj.mapFields (·.setIfInBounds 1 (rawInt ((i:Int)+1))))).IsKeyIter it d (i+1) C.size ep:=
  ⟨_,yc _ c (Obj.isFreed_of_fields (F' b _)),(Obj.cls_mapFields ..).trans k,by rw [F' b];simp [rawInt]⟩
 refine ab (kD (ab (FL (s:={ s with heap:=s.heap.update it (Obj.mapFields (·.setIfInBounds 1 (rawInt ((i:Int)+1)))) }) g.typeIs (show wpAny _ _ (pure e.key) _ _ _ from aG (aG ⟨_,U,aG (j _ g (Heap.SameBut.update ..))⟩)))))
theorem VN (q:Hd A s.heap) (a:s.heap.IsKeyIter it d i I.size J) (j:s.heap.get? d=some od) (h:od.data=.dict I J) (n:I.size<=i)
 (l:∀h',Heap.ExtBut it s.heap h'->Q none { s with heap:=h' }):wpAny (model prog w) A (pyNext (.ref it)) Q E s:=by
 obtain ⟨o,c,m,g⟩:=id a;unfold pyNext;refine ab (t_ (vi (name:=Str.ofString "__next__") a.typeIs xW (rk xW a.typeIs Oy ?_ (Oz _))));refine ab (aG (ab (ab ?_)))
 first | refine ab (AW a.typeIs (aG (ab (AG c g ?_)))) | refine ab (A' a.typeIs (aG (ab (AG c g ?_))))
 rw [show Builtin.Dict_items.ownsTuple "dict_keyiterator"=false by decide,if_neg d_];refine (show wpAny _ _ (if (Value.ref d==Value.none)=true then _ else _) _ _ s from ?_);rw [if_neg (show ¬((Value.ref d==Value.none)=true) from d_)];refine ab (aG (ab (AL j h ?_)));rw [if_neg (by simp)];refine ab (aG (ab (F9 j h ?_)));rw [if_neg (by simp)];refine aG ?_;dsimp only;rw [if_neg (show ¬((i:Int)<0) from Int.not_lt.mpr (xX i)),iU,Array.getElem?_eq_none n];dsimp only;refine ab ?_
 first | refine ab (AW a.typeIs (aG ?_)) | refine ab (A' a.typeIs (aG ?_))
 refine (show wpAny _ _ (setField (.ref it) 0 .none>>=_) _ _ s from ab (xY c g (by simp) ?_));have k:∀b o,b≠it->s.heap.get? b=some o->(s.heap.update it (Obj.mapFields (·.setIfInBounds 0 Value.none))).get? b=some o:=λb o f e=>(rq _ _ (aQ f)).trans e;refine yW (A:=A.in1) (s:={ s with heap:=s.heap.update it (Obj.mapFields (·.setIfInBounds 0 Value.none)) }) (Hd.keep (A:=A.in1) q λb C u t x e=>k b _ (λz=>?_) e) λe h' p r=>?_
 ·rw [z,c] at e;cases e;cases m
 ·refine ab (hV (yO (s0:=s) (λb o f z=>p b o (k b o f z)) r l) (λb v z=>?_) λ_ _ z=>z);obtain ⟨rfl,z⟩:=z;exact aG z
end
section
theorem Inv.freeze (I:Inv X pins σ H s) (c:H a=some u) (f:vl (some u)) (g:s.heap.get? a=some o):Inv X pins σ (upd H a (.dY o u)) s:=by
 have i:∀b d,H b=some (.tup d)->b≠a:=λb d r z=>by subst z;rw [c] at r;cases r;exact f
 have h:∀b y,H b=some (.own y)->b≠a:=λb y r z=>by subst z;rw [c] at r;cases r;exact f
 exact I.write (h':=s.heap) (t':=s.toks) (x:=a) (e:=a) (by rw [c];exact f) (.inl U) (λb v _ e=>e) ⟨o,g⟩
  ⟨g,(I.a7 a u c).g8 (λb v _ e=>e) (λb e=>by rw [aq (h b a e)];exact e) λb d e=>by rw [aq (i b d e)];exact e⟩
theorem Inv.CZ (I:Inv X pins σ H s) (h:H a=some (.dY o u)) (m:∀o u,X.gW a≠some (.dY o u)):Inv X pins σ (upd H a u) s:=by
 have d:∀{b:Addr} {x:Option HO},H b=x->(∀o u,x≠some (.dY o u))->b≠a:=λ{b x} e f z=>by subst z;rw [h] at e;exact f _ _ e.symm
 have k:∀b v,dd X.prog X.w H s.heap b v->dd X.prog X.w (upd H a u) s.heap b v:=λb v x=>
  x.g8 (λc v _ e=>e) (λc e=>by rw [aq (d e λ_ _ z=>nomatch z)];exact e) λc l e=>by rw [aq (d e λ_ _ z=>nomatch z)];exact e
 refine ⟨I.ok,I.os,I.bare,⟨I.base.keep,I.base.slot,λb v q n f=>?_,I.base.there,λb l q=>?_,λb i v q=>?_,λb B q=>?_⟩,I.loc,I.cell,?_,λx c e=>?_,λp r=>?_,λb v q=>?_,I.len⟩
 ·have e:=I.base.free b v q n f;rw [aq (d e λ_ _ z=>nomatch z)];exact e
 ·have e:=I.base.g7 b l q;rw [aq (d e λ_ _ z=>nomatch z)];exact e
 ·have e:=I.base.gV b i v q;rw [aq (λz=>by subst z;exact m i v q)];exact e
 ·obtain ⟨t,e⟩:=I.base.ij b B q;exact ⟨t,by rw [aq (d e λ_ _ z=>nomatch z)];exact e⟩
 ·rw [aq (d I.free λ_ _ z=>nomatch z)];exact I.free
 ·rw [aq (d (I.dw x c e) λ_ _ z=>nomatch z)];exact I.dw x c e
 ·obtain ⟨y,j,A⟩:=I.pin p r;exact ⟨y,by rw [aq (d j λ_ _ z=>nomatch z)];exact j,A⟩
 ·by_cases g:b=a
  ·subst g;rw [ak] at q;cases q;exact k b u (I.a7 b _ h).2
  ·rw [aq g] at q;exact k b v (I.a7 b v q)
end
def UI (c:Hp) (t:TE):TE:=λd H Q=>t d H λx b=>∃a o u,b a=some (.dY o u)/\(∀o u,c a≠some (.dY o u))/\Q x (upd b a u)
theorem VH (f:PE X e t):PE X e (UI X.gW t):=by intro g s l H Q I h;refine ar (f g s l H _ I h) λv n k=>?_;obtain ⟨x,m,b,j,i⟩:=k;obtain ⟨a,o,u,c,d,q⟩:=i;exact ⟨x,_,b.CZ c d,j,q⟩
def GG (a:Addr) (o:Obj) (kvs:List (List Key×V)):It:=
 ⟨λi H=>H a=some (.dY o (.dT kvs))/\i<kvs.length,λi H x b=>b=H/\∃q k v,x=.ref q/\kvs[i]?=some (k,v)/\H q=some (.tup (k.map kV)),λi H=>H a=some (.dY o (.dT kvs))/\kvs.length<=i⟩
theorem K2 {b c:Type} {F:b->c->Prop} {l:List b} {m:List c} (h:Paired F l m) {i:Nat} {x:b} (a:l[i]?=some x):∃y,m[i]?=some y/\F x y:=by
 induction h generalizing i with
 | nil=>simp at a
 | cons r _ d=>
  cases i with
  | zero=>simp at a;subst a;exact ⟨_,U,r⟩
  | succ i=>simpa using d (by simpa using a)
theorem RD {a b c:Type} {F:a×b->a×c->Prop} {l:List (a×b)} {m:List (a×c)} (k:Paired F l m) (h:∀p q,F p q->p.1=q.1):l.map (·.1)=m.map (·.1):=by
 induction k with
 | nil=>rfl
 | cons r t d=>rw [dt,dt,d,h _ _ r]
theorem IT {X:Cx} {r:List (Addr×Obj)} {u:St} {H:Hp} {s:Shared} {a:Addr} {o:Obj} {kvs:List (List Key×V)} {b:Array DictEntry} {l:Nat} (I:Inv X r u H s) (h:H a=some (.dY o (.dT kvs))) (m:o.data=.dict b l):
 s.heap.get? a=some o/\b.size=kvs.length/\∀(i:Nat) (k:List Key) (v:V),kvs[i]?=some (k,v)->∃(e:DictEntry) (q:Addr),b[i]?=some e/\e.key=Value.ref q/\H q=some (.tup (k.map kV)):=by
 obtain ⟨f,_,_,D,j,C,z,y,g,A,c,d,B⟩:=(show dd X.prog X.w H s.heap a (.dY o (.dT kvs)) from I.a7 a _ h);rw [f] at g;cases g;rw [m] at c;cases c;refine ⟨f,?_,λi k v n=>?_⟩
 ·rw [<-oH,d,ax,i4 j]
 ·obtain ⟨x,p,_,t,_⟩:=K2 j n;refine ⟨_,x.2.1,by rw [<-AV,d,dC,p];rfl,U,?_⟩;exact t
theorem QZ {tg:Expr} (a it:Addr) (o:Obj) (kvs:List (List Key×V)) {J:Array DictEntry} {G:Nat} (j:o.data=.dict J G):
 sO P w K tg (GG a o kvs) [it] it (λi h=>h.IsKeyIter it a i J.size G) where
 mem:=by simp
 obj:=λi h c b f=>by
  have e:b=it:=by simpa using f
  subst e;obtain ⟨o,e,_,d⟩:=c;exact ⟨o,e,λv z=>by rw [d] at z;cases z⟩
 keep:=λi h g c k=>c.at λo e=>k it (by simp) o e
 item:=by intro X y F x _ i M s O H E I l c B;subst y F x;obtain ⟨A,C⟩:=B;obtain ⟨D,_,S⟩:=IT I A j;obtain ⟨⟨k,v⟩,L⟩:∃p,kvs[i]?=some p:=⟨kvs[i],by simp [C]⟩;obtain ⟨e,q,W,Y,Z⟩:=S i k v L;obtain ⟨m,n,_,r,t,u⟩:=l it (by simp);refine P4 c D j W λg N sb=>?_;have Q:Inv X M O H { s with heap:=g }:=I.turned (t':=s.toks) (λb o f e=>(sb.2 b f).trans e) m n r t u;rw [Y];exact ⟨_,U,letGo_keyiter (s':={ s with heap:=g }) N ⟨.ref q,H,Q,U,⟨U,q,k,v,U,L,Z⟩,N,λb f=>(l b f).1⟩⟩
 done:=by intro X y F x T i M s O H E I l c B;subst y F x;obtain ⟨A,C⟩:=B;obtain ⟨D,hsz,_⟩:=IT I A j;obtain ⟨m,n,_,r,t,u⟩:=l it (by simp);exact VN (ux T I) c D j (uD hsz C) λg R=>⟨U,I.turned (t':=s.toks) (λb o f e=>R b o f e) m n r t u⟩
 self:=λ_ _ _ _ _ c h=>wpAny_pyIter_keyiter c h
section
def TB (d:TE):TI:=λe H R=>d e H λx c=>∃a b,x=.ref a/\c a=some (.dT b)/\((b.map (·.1)).Nodup->∀o,R (GG a o b) (upd c a (.dY o (.dT b))))
theorem VJ {d:Expr} {m:TE} (t:PE X d m):PI X tg d (TB m):=by
 intro C s G H R I h;refine ar (t C s G H _ I h) λv c F=>?_;obtain ⟨x,n,i,E,D⟩:=F;obtain ⟨a,g,e,l,q⟩:=D;subst e;cases E;obtain ⟨_,B,M,A,o,L,J,k,r,j,_,u⟩:=(show dd X.prog X.w n c.heap a (.dT g) from i.a7 a _ l);have y:(g.map (·.1)).Nodup:=by rw [RD A λ_ _ z=>z.1];exact u
 refine P2 B k r j ?_;have f:=i.freeze l trivial k;refine ⟨c.heap.objs.size,[c.heap.objs.size],_,_,_,U,f.kept (t':=c.toks) λb o e=>df _ e,QZ a _ o g j,⟨_,hY _ U,U,U⟩,λb p=>?_,q y o⟩;have e:b=c.heap.objs.size:=by simpa using p
 subst e;exact f.nv (aj _) (f.a7.fresh (aj _))
end
theorem Qu (d:Nat->St->Hp->Prop) (z:d 0 (me js l) (upd H D (.lst [])))
 (s:∀i c b,i<=kvs.length->d i c b->b a=some (.dY o (.dT kvs)))
 (C:∀i k v q c b,kvs[i]?=some (k,v)->b q=some (.tup (k.map kV))->d i c b->g (.ref q) c b λh u=>tc h u λok n=>if ok=true then I h n λy r=>∃ys,r D=some (.lst ys)/\ys.length<sizeLine/\d (i+1) h (upd r D (.lst (ys++[y]))) else d (i+1) h n)
 (A:∀c b,d kvs.length c b->Q (.ref D) b):
 rV js g tc I l Q (GG a o kvs) H D:=by
 refine ⟨λi m l H=>m=kvs.length-i/\i<=kvs.length/\d i l H,⟨kvs.length,by simp,cN _,z⟩,?_⟩;rintro i m c b ⟨rfl,j,p⟩
 by_cases f:i<kvs.length
 ·refine .inr ⟨⟨s i c b j p,f⟩,d (i+1),λG t F=>⟨kvs.length-(i+1),qH f,U,f,F⟩,λx t y=>?_⟩;obtain ⟨e,q,k,v,rfl,E,B⟩:=y;subst e;exact C i k v q c _ E B p
 ·have e:i=kvs.length:=qI j f;subst e;exact .inl ⟨⟨s _ c b j p,aj _⟩,A c b p⟩
end L2
namespace TS
open PySem PyProof PyProof.Rows
def Fg:Bool->Keyed->Array Keyed->Nat->Nat->Nat->StateT SortSt Sem (Option Nat):=sortPriv% PySem.Builtin.gallop
class SK where
 num:Keyed->Int
 ok:Keyed->Prop
 kind:SortKind
def N [SK] (p:Keyed):Int:=SK.num p
def dA [SK] (p:Keyed):Prop:=SK.ok p
def Kk [SK] (xs:Array Keyed) (i:Nat):Int:=match xs[i]? with
 | some p=>N p
 | none=>0
class e_ [SK] (prog:Program) (w:World) (A:Around) (E:Value->Shared->Prop) (s:Shared):Prop where
 lt:∀{st:SortSt} {p q:Keyed} {Q:Option Bool->SortSt->Prop},kindOf st=SK.kind->dA p->dA q->Q (some (decide (N p<N q))) st->wpS (model prog w) A E s (lt' p q) Q st
section
variable [SK]
theorem rW (h:xs[i]?=ys[j]?):Kk xs i=Kk ys j:=by unfold Kk;rw [h]
theorem Pb (f:src<xs.size) (c:d<=src) (k:Nat):
 Kk (bubble xs src d) k=if k=src-d then Kk xs src else if src-d<k/\k<=src then Kk xs (k-1) else Kk xs k:=by
 have e:=getElem?_bubble f d c k
 by_cases a:k=src-d
 ·rw [if_pos a] at*;exact rW e
 rw [if_neg a] at*
 by_cases b:src-d<k/\k<=src
 ·rw [if_pos b] at*;exact rW e
 ·rw [if_neg b] at*;exact rW e
theorem za (b:j<=xs.size) (k:Nat):Kk (mirror xs i j ((j-i) / 2)) k=if i<=k/\k<j then Kk xs (i+j-1-k) else Kk xs k:=by
 have e:=getElem?_mirror_all (i:=i) b k
 by_cases a:i<=k/\k<j
 ·rw [if_pos a] at*;exact rW e
 ·rw [if_neg a] at*;exact rW e
theorem CA (b:j<=xs.size) (a:∀k,i<=k->k<j->Kk xs k=Kk xs (j-1)) (k:Nat):Kk (mirror xs i j ((j-i) / 2)) k=Kk xs k:=by
 rw [za b];split
 ·rename_i h;rw [a k h.1 h.2,a (i+j-1-k) (Kh h.2) (by omega)]
 ·rfl
end
def d0 (left:Bool) (a x:Int):Bool:=if left then decide (x<a) else !decide (a<x)
theorem vV (h:x<=y) (a:d0 l kv y=true):d0 l kv x=true:=by unfold d0 at*;cases l<;>simp_all<;>lia
theorem HL (h:x<=y) (a:d0 l kv x=false):d0 l kv y=false:=by
 cases e:d0 l kv y with
 | false=>rfl
 | true=>rw [vV h e] at a;exact a
section
variable [SK] [e_ prog w A E s] {st:SortSt}
theorem jU (b:a[i]?=some p) (h:Q p st):
 wpS (model prog w) A E s (elem' a i) Q st:=by
 rw [elem'_eq,b];exact aM h
theorem yA (a:kindOf st=SK.kind) (b:dA p) (c:dA q)
 (h:Q (some (decide (N p<N q))) st):wpS (model prog w) A E s (lt' p q) Q st:=e_.lt a b c h
theorem vH (b:kindOf st=SK.kind)
 (e:a[i]?=some p) (c:dA p) (d:dA key) (h:Q (some (d0 l (N key) (N p))) st):
 wpS (model prog w) A E s (do
  let x <-elem' a i
  if l=true then lt' x key else do
   let r <-lt' key x
   pure (Option.map (λx=> !x) r)) Q st:=by
 refine aO (jU e ?_);cases l
 ·exact aO (yA b d c (aM h))
 ·exact yA b c d h
theorem nP (c:∀p,p∈a.toList->dA p) (b:i<a.size):∃p,a[i]?=some p/\dA p/\Kk a i=N p:=
 ⟨a[i],n7 _ i b,c _ (by simp),by unfold Kk;rw [n7 a i b]⟩
abbrev Bf:=Option (Option Nat)×Nat×Nat
theorem Lu {P:Nat->Bool} {n a hi:Nat} {f:Nat->Bf->StateT SortSt Sem (ForInStep Bf)}
 (p:∀i j,i<=j->j<n->P j=true->P i=true)
 (u:∀x a hi,hi<=n->∀Q:ForInStep Bf->SortSt->Prop,(hi<=a->Q (.done (none,a,hi)) st)->
  (a<hi->P (a+(hi-a) / 2)=true->Q (.yield (none,a+(hi-a) / 2+1,hi)) st)->
  (a<hi->P (a+(hi-a) / 2)=false->Q (.yield (none,a,a+(hi-a) / 2)) st)->
  wpS (model prog w) A E s (f x (none,a,hi)) Q st)
 (z:a<=hi) (v:hi<=n) (r:∀i,i<a->P i=true) (t:∀i,hi<=i->i<n->P i=false):
 wpS (model prog w) A E s (forIn [:n] ((none,a,hi):Bf) f)
  (λc d=>d=st/\∃k,c=(none,k,k)/\k<=n/\(∀i,i<k->P i=true)/\(∀i,k<=i->i<n->P i=false)) st:=by
 refine xR
  (I:=λx c d=>d=st/\∃a hi,c=(none,a,hi)/\a<=hi/\hi<=n/\hi-a<=n-x/\
   (∀i,i<a->P i=true)/\(∀i,hi<=i->i<n->P i=false))
  ?_ ?_ ⟨U,a,hi,U,z,v,by lia,r,t⟩
 ·rintro x c d _ D ⟨rfl,a,hi,rfl,q,b,o,g,h⟩;refine u x a hi b _ (λC=>?_) (λB l=>?_) (λB l=>?_)
  ·obtain rfl:a=hi:=by lia
   exact ⟨U,a,U,b,g,h⟩
  ·exact ⟨U,_,hi,U,by lia,b,by omega,λi m=>p i _ (Kc m) (by lia) l,h⟩
  ·refine ⟨U,a,_,U,h9,by lia,by omega,g,λi m y=>?_⟩
   cases e:P i with
   | false=>rfl
   | true=>rw [p _ i m y e] at l;exact l
 ·rintro c d ⟨rfl,a,hi,rfl,q,b,o,g,h⟩;obtain rfl:a=hi:=by simp at o;lia
  exact ⟨U,a,U,b,g,h⟩
theorem yG (D:kindOf st=SK.kind)
 (C:∀p,p∈a.toList->dA p) (F:dA key) (X:b+n<=a.size) (z:∀i j,i<=j->j<n->Kk a (b+i)<=Kk a (b+j)) (Y:hint<n)
 (h:∀k,k<=n->(∀i,i<k->d0 l (N key) (Kk a (b+i))=true)->(∀i,k<=i->i<n->d0 l (N key) (Kk a (b+i))=false)->Q (some k) st):
 wpS (model prog w) A E s (Fg l key a b n hint) Q st:=by
 refine aO ?_;obtain ⟨p,u,v,y⟩:=nP C (i:=b+hint) (lO X Y);refine vH D u v F ?_;rw [<-y]
 cases e:d0 l (N key) (Kk a (b+hint)) with
 | true=>
  dsimp only;rw [if_pos rfl];refine aO (jk (xR
   (I:=λx c m=>m=st/\∃d f,c=(none,d,f)/\d<f/\x<f/\hint+d<n/\d0 l (N key) (Kk a (b+(hint+d)))=true)
   (Q:=λc m=>m=st/\∃d f,c=(none,d,f)/\d<f/\hint+d<n/\d0 l (N key) (Kk a (b+(hint+d)))=true/\
    (hint+f<n->d0 l (N key) (Kk a (b+(hint+f)))=false))
   ?_ ?_ ⟨U,0,1,U,by exact eN,by exact eN,by omega,e⟩) ?_)
  ·rintro x c m _ _ ⟨rfl,d,f,rfl,t,B,q,o⟩;dsimp only
   by_cases g:f>=n-hint
   ·rw [if_pos g];exact aM ⟨U,d,f,U,t,q,o,λh=>absurd h (by lia)⟩
   ·rw [if_neg g];obtain ⟨p,u,v,y⟩:=nP C (i:=b+(hint+f)) (by lia);refine aO (vH D u v F ?_);rw [<-y]
    cases e':d0 l (N key) (Kk a (b+(hint+f))) with
    | true=>exact aM ⟨U,f,2*f+1,U,by lia,by lia,by lia,e'⟩
    | false=>exact aM ⟨U,d,f,U,t,q,o,λ_=>e'⟩
  ·rintro c m ⟨rfl,d,f,rfl,t,B,q,o⟩;exact ⟨U,d,f,U,t,q,o,λh=>absurd h (by simp at B;lia)⟩
  ·rintro c m ⟨rfl,d,f,rfl,t,q,o,G⟩;dsimp only;refine aO (jk (Lu (P:=λi=>d0 l (N key) (Kk a (b+i))) (λi j T W e=>vV (z i j T W) e)
    ?_ (by omega) (by omega) (λi r=>?_) (λi r V=>?_)) ?_)
   ·intro _ d r S Z M O R;dsimp only
    by_cases g:d>=r
    ·rw [if_pos g];exact aM (M g)
    ·rw [if_neg g];obtain ⟨p,u,v,y⟩:=nP C (i:=b+(d+(r-d) / 2)) (Kx X S g);refine aO (vH D u v F ?_);rw [<-y]
     cases e':d0 l (N key) (Kk a (b+(d+(r-d) / 2))) with
     | true=>exact aM (O (sA g) e')
     | false=>exact aM (R (sA g) e')
   ·exact vV (z i (hint+d) (Kc r) (ou q)) o
   ·exact HL (z (hint+f) i (by omega) (ou V)) (G (by lia))
   ·rintro c m ⟨rfl,k,rfl,H,J,L⟩;exact aM (h k H J L)
 | false=>
  dsimp only;rw [if_neg (by decide)];refine aO (jk (xR
   (I:=λx c m=>m=st/\∃d f,c=(none,d,f)/\d<f/\x<f/\d<=hint/\d0 l (N key) (Kk a (b+(hint-d)))=false)
   (Q:=λc m=>m=st/\∃d f,c=(none,d,f)/\d<f/\d<=hint/\d0 l (N key) (Kk a (b+(hint-d)))=false/\
    (f<=hint->d0 l (N key) (Kk a (b+(hint-f)))=true))
   ?_ ?_ ⟨U,0,1,U,by exact eN,by exact eN,by lia,e⟩) ?_)
  ·rintro x c m _ _ ⟨rfl,d,f,rfl,t,B,q,o⟩;dsimp only
   by_cases g:f>=hint+1
   ·rw [if_pos g];exact aM ⟨U,d,f,U,t,q,o,λh=>absurd h (by exact Nat.not_le_of_lt g)⟩
   ·rw [if_neg g];obtain ⟨p,u,v,y⟩:=nP C (i:=b+(hint-f)) (by lia);refine aO (vH D u v F ?_);rw [<-y]
    cases e':d0 l (N key) (Kk a (b+(hint-f))) with
    | true=>exact aM ⟨U,d,f,U,t,q,o,λ_=>e'⟩
    | false=>exact aM ⟨U,f,2*f+1,U,by lia,by lia,by lia,e'⟩
  ·rintro c m ⟨rfl,d,f,rfl,t,B,q,o⟩;exact ⟨U,d,f,U,t,q,o,λh=>absurd h (by simp at B;lia)⟩
  ·rintro c m ⟨rfl,d,f,rfl,t,q,o,G⟩;dsimp only;refine aO (jk (Lu (P:=λi=>d0 l (N key) (Kk a (b+i))) (λi j T W e=>vV (z i j T W) e)
    ?_ (by omega) (by lia) (λi r=>?_) (λi r V=>?_)) ?_)
   ·intro _ d r S Z M O R;dsimp only
    by_cases g:d>=r
    ·rw [if_pos g];exact aM (M g)
    ·rw [if_neg g];obtain ⟨p,u,v,y⟩:=nP C (i:=b+(d+(r-d) / 2)) (Kx X S g);refine aO (vH D u v F ?_);rw [<-y]
     cases e':d0 l (N key) (Kk a (b+(d+(r-d) / 2))) with
     | true=>exact aM (O (sA g) e')
     | false=>exact aM (R (sA g) e')
   ·exact vV (z i (hint-f) (by omega) (Qh Y)) (G (by omega))
   ·exact HL (z (hint-d) i (by omega) (ou V)) o
   ·rintro c m ⟨rfl,k,rfl,H,J,L⟩;exact aM (h k H J L)
end
structure Iv (r:Keyed->Keyed->Prop) (W O X Y:List Keyed):Prop where
 perm:(O++(X++Y)).Perm W
 Df:O.Pairwise r
 sx:X.Pairwise r
 sy:Y.Pairwise r
 lx:∀p∈O,∀q∈X,r p q
 ly:∀p∈O,∀q∈Y,r p q
def Out (r:Keyed->Keyed->Prop) (W R:List Keyed):Prop:=R.Perm W/\R.Pairwise r
theorem Iv.symm {r W O X Y} (h:Iv r W O X Y):Iv r W O Y X:=
 ⟨((FJ (l₁:=Y) (l₂:=X)).append_left O).trans h.perm,h.Df,h.sy,h.sx,h.ly,h.lx⟩
theorem Iv.iJ {r W O u v Y} (h:Iv r W O (u++v) Y) (e:∀p∈u,∀q∈Y,r p q):Iv r W (O++u) v Y:=by
 have d:=List.pairwise_append.mp h.sx;refine ⟨by simpa [oE] using h.perm,?_,d.2.1,h.sy,?_,?_⟩
 ·exact List.pairwise_append.mpr ⟨h.Df,d.1,λp c q b=>h.lx p c q (h_ _ b)⟩
 ·intro p c q b;rcases fe.mp c with a | a
  ·exact h.lx p a q (i5 _ b)
  ·exact d.2.2 p a q b
 ·intro p c q b;rcases fe.mp c with a | a
  ·exact h.ly p a q b
  ·exact e p a q b
theorem Iv.kd {r W O X u v} (h:Iv r W O X (u++v)) (a:∀p∈u,∀q∈X,r p q):Iv r W (O++u) X v:=(h.symm.iJ a).symm
theorem Iv.fin {r W O X Y R} (h:Iv r W O X Y) (b:R.Perm (X++Y)) (e:R.Pairwise r):Out r W (O++R):=by
 refine ⟨(b.append_left O).trans h.perm,List.pairwise_append.mpr ⟨h.Df,e,λp c q d=>?_⟩⟩;rcases fe.mp (b.mem_iff.mp d) with a | a
 ·exact h.lx p c q a
 ·exact h.ly p c q a
section
variable [SK]
def le (p q:Keyed):Prop:=N p<=N q
def ge (p q:Keyed):Prop:=N q<=N p
theorem uG {a:Array Keyed} {i k:Nat} (h:i+k<=a.size):a.toList.drop i=(a.extract i (i+k)).toList++a.toList.drop (i+k):=by rw [vg,vj,Nat.add_sub_cancel_left,<-List.drop_drop,AQ]
theorem Kq {a:Array Keyed} {i:Nat} {p:Keyed} (h:a[i]?=some p):a.toList.drop i=[p]++a.toList.drop (i+1):=by obtain ⟨b,rfl⟩:=O3.mp h;rw [FU (by simpa using b)];simp
theorem B5 (h:p∈(a.extract i j).toList):∃m,i<=m/\m<j/\m<a.size/\Kk a m=N p:=by
 obtain ⟨m,b,e⟩:=ye h;simp only [oH,Array.size_extract] at b;refine ⟨i+m,h9,Kg b,zp b,?_⟩;have:a[i+m]?=some p:=by rw [n7 a (i+m) (zp b)];simp only [Array.getElem_toList,Array.getElem_extract] at e;rw [e]
 unfold Kk;rw [this]
theorem oY (h:a[i]?=some p):Kk a i=N p:=by unfold Kk;rw [h]
theorem uI (f:a.toList.Pairwise le) (e:i<=j) (b:j<a.size):Kk a i<=Kk a j:=by
 rcases AM e with h | rfl
 ·have c:=n7 a i (zu h b);have d:=n7 a j b;rw [oY c,oY d];have:=yd.mp f i j (by simp;exact zu h b) (by simp;exact ou b) h;exact (by simpa using this:le a[i] a[j])
 ·exact fO _
theorem JS (h:p∈a.toList.drop i):∃m,i<=m/\m<a.size/\Kk a m=N p:=by obtain ⟨m,b,e⟩:=ye h;simp only [yh,oH] at b;refine ⟨i+m,h9,su b,oY ?_⟩;rw [n7 a (i+m) (su b)];simpa using e
theorem BL (h:p∈a.toList.take i):∃m,m<i/\m<a.size/\Kk a m=N p:=by obtain ⟨m,b,e⟩:=ye h;simp only [fU,oH] at b;refine ⟨m,B_ b,by lia,oY ?_⟩;rw [n7 a m (by lia)];simpa using e
section lo
abbrev Fv (W:List Keyed) (a b e:Array Keyed) (c d:Nat):Prop:=Iv le W e.toList (a.toList.drop c) (b.toList.drop d)
theorem Fv.s_ (h:Fv W a b out o ib) {k:Nat} (d:o+k<=a.size) (c:∀p∈(a.extract o (o+k)).toList,∀q∈b.toList.drop ib,le p q):
 Fv W a b (out++a.extract o (o+k)) (o+k) ib:=by
 unfold Fv at*;rw [uG d] at h;rw [lV];exact h.iJ c
theorem Fv.sZ (h:Fv W a b out C o) {k:Nat} (d:o+k<=b.size) (c:∀p∈(b.extract o (o+k)).toList,∀q∈a.toList.drop C,le p q):
 Fv W a b (out++b.extract o (o+k)) C (o+k):=by
 unfold Fv at*;rw [uG d] at h;rw [lV];exact h.kd c
theorem Fv.kY (h:Fv W a b out o ib) {p:Keyed} (e:a[o]?=some p) (c:∀q∈b.toList.drop ib,le p q):Fv W a b (out.push p) (o+1) ib:=by unfold Fv at*;rw [Kq e] at h;rw [AK];exact h.iJ (by simpa using c)
theorem Fv.kX (h:Fv W a b out o C) {p:Keyed} (e:b[C]?=some p) (c:∀q∈a.toList.drop o,le p q):Fv W a b (out.push p) o (C+1):=by unfold Fv at*;rw [Kq e] at h;rw [AK];exact h.kd (by simpa using c)
theorem y_ (a:Array Keyed) (i:Nat):(a.extract i a.size).toList=a.toList.drop i:=by rw [vg,vj];exact xO (by simp)
theorem Fv.gA (h:Fv W a b out o C) (c:o=a.size\/C=b.size):Out le W (out++a.extract o a.size++b.extract C b.size).toList:=by
 rw [lV,lV,y_,y_,oE];refine h.fin (List.Perm.refl _) ?_;rcases c with rfl | rfl
 ·rw [List.drop_of_length_le (by simp)];exact h.sy
 ·rw [show b.toList.drop b.size=[] from List.drop_of_length_le (by simp),uf];exact h.sx
theorem Fv.ix (h:Fv W a b out o C) (c:∀p∈b.toList.drop C,∀q∈a.toList.drop o,le p q):Out le W (out++b.extract C b.size++a.extract o a.size).toList:=by rw [lV,lV,y_,y_,oE];exact h.fin FJ (List.pairwise_append.mpr ⟨h.sy,h.sx,c⟩)
end lo
section hi
abbrev Bv (W:List Keyed) (a b e:Array Keyed) (c d:Nat):Prop:=Iv ge W e.toList (a.toList.take c).reverse (b.toList.take d).reverse
theorem L1 {a:Array Keyed} {i n:Nat} (h:i<=n):(a.toList.take n).reverse=(a.extract i n).reverse.toList++(a.toList.take i).reverse:=by
 rw [FH,vg,vj,<-List.reverse_append];congr 1;rw [<-List.drop_take,]
 conv=>lhs;rw [<-AQ i (a.toList.take n)]
 rw [List.take_take,Nat.min_eq_left h]
theorem KN {a:Array Keyed} {i:Nat} {p:Keyed} (h:a[i]?=some p):(a.toList.take (i+1)).reverse=[p]++(a.toList.take i).reverse:=by obtain ⟨b,rfl⟩:=O3.mp h;rw [O0 (by simpa using b),List.reverse_append];simp
theorem Bv.s_ (h:Bv W a b out na nb) {i:Nat} (d:i<=na) (c:∀p∈(a.extract i na).toList,∀q∈b.toList.take nb,ge p q):
 Bv W a b (out++(a.extract i na).reverse) i nb:=by
 unfold Bv at*;rw [L1 d] at h;rw [lV];exact h.iJ (by simpa using c)
theorem Bv.sZ (h:Bv W a b out na nb) {i:Nat} (d:i<=nb) (c:∀p∈(b.extract i nb).toList,∀q∈a.toList.take na,ge p q):
 Bv W a b (out++(b.extract i nb).reverse) na i:=by
 unfold Bv at*;rw [L1 d] at h;rw [lV];exact h.kd (by simpa using c)
theorem Bv.kY (h:Bv W a b out (na+1) nb) {p:Keyed} (e:a[na]?=some p) (c:∀q∈b.toList.take nb,ge p q):Bv W a b (out.push p) na nb:=by unfold Bv at*;rw [KN e] at h;rw [AK];exact h.iJ (by simpa using c)
theorem Bv.kX (h:Bv W a b out na (nb+1)) {p:Keyed} (e:b[nb]?=some p) (c:∀q∈a.toList.take na,ge p q):Bv W a b (out.push p) na nb:=by unfold Bv at*;rw [KN e] at h;rw [AK];exact h.kd (by simpa using c)
theorem ze (a:Array Keyed) (i:Nat):(a.extract 0 i).toList=a.toList.take i:=by rw [vg,vj];simp
theorem Out.rev (h:Out ge W R):Out le W R.reverse:=⟨(FR R).trans h.1,List.pairwise_reverse.mpr h.2⟩
theorem Bv.gA (h:Bv W a b out na nb) (c:na=0\/nb=0):Out le W (a.extract 0 na++b.extract 0 nb++out.reverse).toList:=by
 have:(a.extract 0 na++b.extract 0 nb++out.reverse).toList=(out.toList++((b.toList.take nb).reverse++(a.toList.take na).reverse)).reverse:=by rw [lV,lV,ze,ze,FH];simp
 rw [this];refine (h.fin FJ ?_).rev;rcases c with rfl | rfl
 ·simpa using h.sy
 ·simpa using h.sx
theorem Bv.ix (h:Bv W a b out na nb) (c:∀p∈a.toList.take na,∀q∈b.toList.take nb,ge p q):Out le W (b.extract 0 nb++a.extract 0 na++out.reverse).toList:=by
 have:(b.extract 0 nb++a.extract 0 na++out.reverse).toList=(out.toList++((a.toList.take na).reverse++(b.toList.take nb).reverse)).reverse:=by rw [lV,lV,ze,ze,FH];simp
 rw [this];exact (h.fin (List.Perm.refl _) (List.pairwise_append.mpr ⟨h.sx,h.sy,by simpa using c⟩)).rev
end hi
end
def W_:Array Keyed->Array Keyed->StateT SortSt Sem (Array Keyed):=sortPriv% PySem.Builtin.mergeLo
def Xa:Array Keyed->Array Keyed->StateT SortSt Sem (Array Keyed):=sortPriv% PySem.Builtin.mergeHi
structure Sm (st b_:SortSt):Prop where
 kind:kindOf b_=kindOf st
 arr:arrOf b_=arrOf st
 pend:pendingOf b_=pendingOf st
 fail:failedOf b_=failedOf st
theorem Sm.refl (st:SortSt):Sm st st:=⟨U,U,U,U⟩
def Wm:Nat->StateT SortSt Sem Unit:=sortPriv% PySem.Builtin.setMinGallop
section
variable [SK] [e_ prog w A E s] {st m6:SortSt}
theorem rR (a:c) (h:wpS (model prog w) A E s m Q st):
 wpS (model prog w) A E s (@ite _ c inst m n) Q st:=by rw [if_pos a];exact h
theorem rM (a:¬c) (h:wpS (model prog w) A E s n Q st):
 wpS (model prog w) A E s (@ite _ c inst m n) Q st:=by rw [if_neg a];exact h
theorem yH (a:Sm m6 st) (h:∀b,Sm m6 b->Q () b):wpS (model prog w) A E s (Wm g) Q st:=
 xM (h _ ⟨a.kind,a.arr,a.pend,a.fail⟩)
theorem LL (j:kindOf st=SK.kind)
 (f:∀p,p∈a.toList->dA p) (o:a.toList.Pairwise le) (n:dA key) (g:i<a.size)
 (h:∀k,i+k<=a.size->(∀m,i<=m->m<i+k->d0 l (N key) (Kk a m)=true)->(∀m,i+k<=m->m<a.size->d0 l (N key) (Kk a m)=false)->Q (some k) st):
 wpS (model prog w) A E s (Fg l key a i (a.size-i) 0) Q st:=by
 refine yG j f n (by lia) (λx y q r=>uI o (sv q) (su r)) (Qi g) λk t d e=>?_;refine h k (by lia) (λm b c=>?_) (λm b c=>?_)
 ·have:=d (m-i) (Ci c b);rwa [show i+(m-i)=m by exact jW b] at this
 ·have:=e (m-i) (zq b) (by omega);rwa [show i+(m-i)=m by exact B' b] at this
def SQ {a:Type} (Q I:a->SortSt->Prop):ForInStep a->SortSt->Prop
 | .done c,st=>Q c st
 | .yield c,st=>I c st
theorem vM (I:Nat->β->SortSt->Prop)
 (g:∀i c st,i<n->I i c st->wpS (model prog w) A E s (f i c) (SQ Q (I (i+1))) st)
 (d:∀c st,I n c st->Q c st) (h:I 0 c st):wpS (model prog w) A E s (forIn [:n] c f) Q st:=
 xR I (λi c st _ e b=>jk (g i c st e b) λr j a=>by cases r<;>exact a)
  (λc st a=>d c st (by rwa [Nat.max_eq_right (cN _)] at a)) h
theorem Oq (h:d0 true k x=true):x<k:=by simpa [d0] using h
theorem Fx (h:d0 true k x=false):k<=x:=by simpa [d0] using h
theorem Oo (h:d0 false k x=true):x<=k:=by simpa [d0] using h
theorem by4 (h:d0 false k x=false):k<x:=by simpa [d0] using h
theorem kL (a:c->wpS (model prog w) A E s m Q st)
 (b:¬c->wpS (model prog w) A E s n Q st):wpS (model prog w) A E s (@ite _ c inst m n) Q st:=by
 by_cases h:c
 ·exact rR h (a h)
 ·exact rM h (b h)
theorem i8 {a:Type} {x y:Nat} {d:Decidable ((x==y)=true)} {m n:StateT SortSt Sem a} {Q:a->SortSt->Prop} (b:x=y->wpS (model prog w) A E s m Q st)
 (c:¬x=y->wpS (model prog w) A E s n Q st):wpS (model prog w) A E s (@ite _ ((x==y)=true) d m n) Q st:=
 kL (λh=>b (beq_iff_eq.mp h)) λh=>c λe=>h (beq_iff_eq.mpr e)
theorem nS (d:∀p,p∈a.toList->dA p) (g:i<a.size)
 (h:∀p,a[i]?=some p->dA p->Kk a i=N p->wpS (model prog w) A E s (f p) Q st):wpS (model prog w) A E s (elem' a i>>=f) Q st:=by
 obtain ⟨p,e,b,c⟩:=nP d g;exact aO (jU e (h p e b c))
theorem IA (c:kindOf st=SK.kind) (d:dA y) (e:dA z)
 (a:N y<=N z->wpS (model prog w) A E s (f (some true)) Q st) (b:N z<=N y->wpS (model prog w) A E s (f (some false)) Q st):
 wpS (model prog w) A E s (lt' y z>>=f) Q st:=by
 refine aO (yA c d e ?_)
 by_cases h:N y<N z
 ·rw [ew h];exact a (eA h)
 ·rw [cF h];exact b (Int.not_lt.mp h)
theorem rZ (f:b.toList.Pairwise le) (h:N p<=Kk b j) (q:Keyed) (a:q∈b.toList.drop j):le p q:=by obtain ⟨m,c,d,e⟩:=JS a;unfold le;rw [<-e];exact kF h (uI f c d)
theorem JG (n:b.toList.Pairwise le) (e:Kk b j=N y) (h:∀m,i<=m->m<i+k->Kk a m<=N y)
 (p:Keyed) (c:p∈(a.extract i (i+k)).toList) (q:Keyed) (d:q∈b.toList.drop j):le p q:=by
 obtain ⟨m,f,g,_,l⟩:=B5 c;exact rZ n (by rw [e,<-l];exact h m f g) q d
section
def LQ (F:R->SortSt->Prop) (L I:o->C->J->SortSt->Prop) (c:ForInStep (Option R×o×C×J×γ)) (st:SortSt):Prop:=
 ForInStep.casesOn (motive:=λ_=>Prop) c (λc=>(∃r,c.1=some r/\F r st)\/∃x y z e,c=(none,x,y,z,e)/\L x y z st)
  λc=>∃x y z e,c=(none,x,y,z,e)/\I x y z st
theorem LQ.ret (h:F r st):LQ F L I (.done (some r,g)) st:=.inl ⟨r,U,h⟩
theorem LQ.brk {x y z} (h:L x y z st):LQ F L I (.done (none,x,y,z,e)) st:=.inr ⟨x,y,z,e,U,h⟩
theorem LQ.go {x y z} (h:I x y z st):LQ F L I (.yield (none,x,y,z,e)) st:=⟨x,y,z,e,U,h⟩
theorem uB {n:Nat} {f:Nat->Option R×o×C×J×γ->StateT SortSt Sem (ForInStep (Option R×o×C×J×γ))}
 {k:Option R×o×C×J×γ->StateT SortSt Sem α} {Q:α->SortSt->Prop} (I:Nat->o->C->J->SortSt->Prop) (L:o->C->J->SortSt->Prop)
 (p:∀i x y z e st,I i x y z st->wpS (model prog w) A E s (f i (none,x,y,z,e)) (LQ F L (I (i+1))) st)
 (m:∀x y z st,I n x y z st->L x y z st) {x y z e} (b:I 0 x y z st) (j:∀r g a,F r a->wpS (model prog w) A E s (k (some r,g)) Q a)
 (l:∀x y z e a,L x y z a->wpS (model prog w) A E s (k (none,x,y,z,e)) Q a):wpS (model prog w) A E s (forIn [:n] (none,x,y,z,e) f>>=k) Q st:=by
 refine aO (jk (vM (Q:=λc st=>LQ F L L (.done c) st) (λi c st=>∃x y z e,c=(none,x,y,z,e)/\I i x y z st) ?_ ?_ ⟨x,y,z,e,U,b⟩) ?_)
 ·rintro i c st _ ⟨x,y,z,e,rfl,h⟩;exact jk (p i x y z e st h) λc a h=>by cases c<;>exact h
 ·rintro c st ⟨x,y,z,e,rfl,h⟩;exact .inr ⟨x,y,z,e,U,m x y z st h⟩
 ·rintro ⟨c,d⟩ st (⟨r,rfl,h⟩ | ⟨x,y,z,e,q,h⟩)
  ·exact j r d st h
  ·exact q▸l x y z e st h
end
theorem Vq {Q:Array Keyed->SortSt->Prop} {W:List Keyed} (hW:W=a.toList++b.toList) (T:kindOf st=SK.kind)
 (S:∀p,p∈a.toList->dA p) (H:∀p,p∈b.toList->dA p) (n:a.toList.Pairwise le) (v:b.toList.Pairwise le)
 (na:0<a.size) (nb:0<b.size) (h0:Kk b 0<=Kk a 0) (hl:Kk b (b.size-1)<=Kk a (a.size-1))
 (h:∀r b_,Sm st b_->Out le W r.toList->Q r b_):wpS (model prog w) A E s (W_ a b) Q st:=by
 have I:∀{i j:Nat},i+1=a.size->∀p∈b.toList.drop j,∀q∈a.toList.drop i,le p q:=by intro i j hi p hp;obtain ⟨x,_,x2,x3⟩:=JS hp;refine rZ n ?_;rw [<-x3,show i=a.size-1 by lia];exact kF (uI v (Cd x2) (JZ nb)) hl
 let J:Array Keyed->Nat->Nat->SortSt->Prop:=λf d c b_=>Fv W a b f d c/\d+1<a.size/\c<b.size/\Sm st b_
 let F:Array Keyed->SortSt->Prop:=λr b_=>Out le W r.toList/\Sm st b_
 refine aO (rj (oC ⟨U,nS H nb λy0 e0 _ k0=>?_⟩));have fj:Fv W a b #[y0] 0 1:=by have:Fv W a b #[] 0 0:=⟨by simp [hW],List.Pairwise.nil,n,v,by simp,by simp⟩;exact this.kX e0 (rZ n (k0▸h0))
 refine i8 (λc1=>aM (h _ _ (Sm.refl st) (fj.gA (.inr c1)))) λc1=>i8 (λO=>aM (h _ _ (Sm.refl st) (fj.ix (I O)))) λO=>aO (n6
  (uB (F:=F) (λx f d c b_=>J f d c b_/\x<=d+c) (λ_ _ _ _=>False) ?outer
   (λd c f b_ q=>by obtain ⟨⟨_,j2,j3,_⟩,hx⟩:=q;lia) ⟨⟨fj,uC na O,by lia,Sm.refl st⟩,cN _⟩ (λr _ b_ t=>aM (h r b_ t.2 t.1)) λ_ _ _ _ _ z=>z.elim))
 intro x _ p0 q0 mg b_ hJ;have hx:=hJ.2
 let L:Array Keyed->Nat->Nat->SortSt->Prop:=λf d c b_=>J f d c b_/\x+1<=d+c
 refine uB (F:=F) (λx f d c b_=>J f d c b_/\p0+q0+x<=d+c) L ?one
  (λd c f b_ q=>⟨q.1,by have:=q.2;omega⟩) ⟨hJ.1,aj _⟩ (λr _ b_ t=>aM (LQ.ret t)) ?two
 case one=>
  intro x' f d c e b_ q;refine nS H q.1.2.2.1 λx4 B Y ky=>nS S (aP q.1.2.1) λz C Z kz=>IA (q.1.2.2.2.kind.trans T) Y Z
   (λV=>aO (jU B ?_)) (λV=>aO (jU C ?_))
  ·have G:=q.1.1.kX B (rZ n (kz.symm▸V));refine i8 (λg=>aM (LQ.ret ⟨G.gA (.inr g),q.1.2.2.2⟩)) λg=>?_;have m:J (f.push x4) d (c+1) b_:=⟨G,q.1.2.1,by have:=q.1.2.2.1;exact uC q.1.2.2.1 g,q.1.2.2.2⟩;have:=q.2;exact kL (λ_=>aM (LQ.brk ⟨m,by lia⟩)) λ_=>aM (LQ.go ⟨m,by lia⟩)
  ·have G:=q.1.1.kY C (rZ v (ky.symm▸V));refine i8 (λg=>aM (LQ.ret ⟨G.ix (I g),q.1.2.2.2⟩)) λg=>?_;have m:J (f.push z) (d+1) c b_:=⟨G,by have:=q.1.2.1;exact uC q.1.2.1 g,q.1.2.2.1,q.1.2.2.2⟩;have:=q.2;exact kL (λ_=>aM (LQ.brk ⟨m,by lia⟩)) λ_=>aM (LQ.go ⟨m,by lia⟩)
 case two=>
  intro f d c e eh q;refine aO (rj (oC ⟨U,uB (F:=F) (λ_=>L) L ?_
   (λ_ _ _ _ q=>q) q (λr _ b_ t=>aM (LQ.ret t)) λf d c e ke q=>aO (yH q.1.2.2.2 λbS l=>aM (LQ.go ⟨⟨q.1.1,q.1.2.1,q.1.2.2.1,l⟩,q.2⟩))⟩))
  intro x' f d c e ke q
  extract_lets-underBinder+onlyGivenNames _ pI _ Ò _ Ñ _ Xc _ Zl Zj jp
  have nq:∀(u:Unit) (x5:Nat),wpS (model prog w) A E s (jp u x5) (LQ F L L) ke:=by
   intro _ x5;refine aO (yH q.1.2.2.2 λbS l=>nS H q.1.2.2.1 λx4 B Y ky=>aO (LL (l.kind.trans T) S n Y (i:=d) (aP q.1.2.1) λk g1 g2 g3=>?_));dsimp-zeta only
   extract_lets-underBinder+onlyGivenNames Zk tF
   have X:=q.1.1.s_ g1 (JG v ky λx1 m1 m2=>Oo (g2 x1 m1 m2));have iO:∀(u:Unit) (f:Array Keyed) (i:Nat),Fv W a b f i c->i+1<a.size->d<=i->N x4<=Kk a i->wpS (model prog w) A E s (tF u f i) (LQ F L L) bS:=by
    intro _ f i f1 f2 f3 f4;refine aO (jU B ?_);have R:=f1.kX B (rZ n f4);refine i8 (λg=>aM (LQ.ret ⟨R.gA (.inr g),l⟩)) λg=>nS S (aP f2) λz C Z kz=>
     aO (LL (l.kind.trans T) H v Z (i:=c+1) (by have:=q.1.2.2.1;exact uC q.1.2.2.1 g) λM tS Fi Fh=>?_)
    dsimp-zeta only
    extract_lets-underBinder+onlyGivenNames Zi DC
    have hI:=R.sZ tS (JG n kz λx1 m1 m2=>eA (Oq (Fi x1 m1 m2)));have nk:∀(u:Unit) (f:Array Keyed) (j:Nat),Fv W a b f i j->j<b.size->c+1<=j->N z<=Kk b j->wpS (model prog w) A E s (DC u f j) (LQ F L L) bS:=by intro _ f j d1 d2 d3 d4;refine aO (jU C ?_);have d5:=d1.kY C (rZ v d4);refine i8 (λg=>aM (LQ.ret ⟨d5.ix (I g),l⟩)) λg=>?_;have m:L (f.push z) (i+1) j bS:=⟨⟨d5,uC f2 g,d2,l⟩,by have:=q.2;lia⟩;exact kL (λ_=>aM (LQ.brk m)) λ_=>aM (LQ.go m)
    have D:=Fh (c+1+M) (aj _);refine kL (λy=>i8 (λo=>aM (LQ.ret ⟨hI.gA (.inr o),l⟩)) λo=>?_) λy=>?_
    ·have:c+1+M<b.size:=wa tS o;exact nk () _ (c+1+M) hI this (l8 ..) (Fx (D this))
    ·obtain rfl:M=0:=Nat.eq_zero_of_not_pos y;have:c+1<b.size:=by have:=q.1.2.2.1;exact uC q.1.2.2.1 g
     exact nk () _ (c+1) R this (aj _) (Fx (D this))
   have D:=g3 (d+k) (aj _);refine kL (λy=>i8 (λo=>aM (LQ.ret ⟨X.ix (I o),l⟩)) λo=>i8 (λc6=>aM (LQ.ret ⟨X.gA (.inl c6),l⟩)) λc6=>?_) λy=>?_
   ·have:d+k+1<a.size:=by lia
    exact iO () _ (d+k) X this (l8 ..) (eA (by4 (D (Nat.lt_of_succ_lt this))))
   ·obtain rfl:k=0:=Nat.eq_zero_of_not_pos y;exact iO () _ d q.1.1 q.1.2.1 (aj _) (eA (by4 (D (Nat.lt_of_succ_lt q.1.2.1))))
  exact kL (λ_=>nq () _) λ_=>nq () _
end
section
variable [SK] [e_ prog w A E s] {st m6:SortSt}
theorem LM (i:kindOf st=SK.kind)
 (g:∀p,p∈a.toList->dA p) (o:a.toList.Pairwise le) (j:dA key) (t:n<=a.size) (c:0<n)
 (h:∀k,k<=n->(∀m,m<k->d0 l (N key) (Kk a m)=true)->(∀m,k<=m->m<n->d0 l (N key) (Kk a m)=false)->Q (some k) st):
 wpS (model prog w) A E s (Fg l key a 0 n (n-1)) Q st:=by
 refine yG i g j (by lia) (λx y q u=>uI o (sv q) (by lia)) (JZ c) λk d e f=>?_;refine h k d (λm b=>?_) (λm b r=>?_)
 ·have:=e m b;rwa [AF] at this
 ·have:=f m b r;rwa [AF] at this
theorem vN (f:b.toList.Pairwise le) (a:j<b.size) (h:Kk b j<=N p) (q:Keyed) (c:q∈b.toList.take (j+1)):ge p q:=by obtain ⟨m,d,_,e⟩:=BL c;unfold ge;rw [<-e];exact kF (uI f (rm d) a) h
theorem JH (o:b.toList.Pairwise le) (c:j<b.size) (e:Kk b j=N y) (h:∀m,i<=m->m<k->N y<=Kk a m)
 (p:Keyed) (d:p∈(a.extract i k).toList) (q:Keyed) (f:q∈b.toList.take (j+1)):ge p q:=by
 obtain ⟨m,g,l,_,n⟩:=B5 d;exact vN o c (by rw [e,<-n];exact h m g l) q f
theorem IU (h:∀m,m<j->Kk b m<=N p) (q:Keyed) (a:q∈b.toList.take j):ge p q:=by obtain ⟨m,c,_,d⟩:=BL a;unfold ge;rw [<-d];exact h m c
theorem Vp (hW:W=a.toList++b.toList) (hk:kindOf st=SK.kind)
 (O:∀p,p∈a.toList->dA p) (hb:∀p,p∈b.toList->dA p) (M:a.toList.Pairwise le) (C:b.toList.Pairwise le)
 (pa:0<a.size) (S:0<b.size) (h0:Kk b 0<=Kk a 0) (hl:Kk b (b.size-1)<=Kk a (a.size-1))
 (h:∀r b_,Sm st b_->Out le W r.toList->Q r b_):wpS (model prog w) A E s (Xa a b) Q st:=by
 have R:∀{i j:Nat},j=1->∀p∈a.toList.take i,∀q∈b.toList.take j,ge p q:=by rintro i _ rfl p hp;obtain ⟨x,_,x2,x3⟩:=BL hp;exact vN C S (x3▸kF h0 (uI M (cN _) x2))
 let J:Array Keyed->Nat->Nat->SortSt->Prop:=λc na nb b_=>Bv W a b c na nb/\(0<na/\na<=a.size)/\(1<nb/\nb<=b.size)/\Sm st b_
 let F:Array Keyed->SortSt->Prop:=λr b_=>Out le W r.toList/\Sm st b_
 refine aO (rj (oC ⟨U,nS O (Nat.sub_lt pa Nat.zero_lt_one) λy0 e0 _ k0=>?_⟩));have fj:Bv W a b #[y0] (a.size-1) b.size:=by
  have:Bv W a b #[] (a.size-1+1) (b.size-1+1):=by rw [ub pa,ub S];unfold Bv;rw [xO (by simp),xO (by simp)];refine ⟨?_,List.Pairwise.nil,List.pairwise_reverse.mpr M,List.pairwise_reverse.mpr C,by simp,by simp⟩;rw [hW];exact (FR _).append (FR _)
  exact ub S▸this.kY e0 (vN C (Nat.sub_lt S Nat.zero_lt_one) (k0▸hl))
 refine i8 (λT=>aM (h _ _ (Sm.refl st) (fj.gA (.inl T)))) λT=>i8 (λc2=>aM (h _ _ (Sm.refl st) (fj.ix (R c2)))) λc2=>aO (n6
  (uB (F:=F) (λx na nb c b_=>J c na nb b_/\na+nb+x<=a.size+b.size) (λ_ _ _ _=>False) ?outer
   (λna nb c b_ q=>by have:=q.1.2.1.1;have:=q.2;lia) ⟨⟨fj,⟨tX T,ZGo ..⟩,⟨by lia,aj _⟩,Sm.refl st⟩,vh (ZGo ..) _⟩
   (λr _ b_ B=>aM (h r b_ B.2 B.1)) λ_ _ _ _ _ z=>z.elim))
 intro x p0 q0 _ mg b_ hJ;have hx:=hJ.2
 let L:Nat->Nat->Array Keyed->SortSt->Prop:=λna nb c b_=>J c na nb b_/\na+nb+(x+1)<=a.size+b.size
 refine uB (F:=F) (λx' na nb c b_=>J c na nb b_/\na+nb+x'<=p0+q0) L ?one
  (λna nb c b_ q=>⟨q.1,by have:=q.2;lia⟩) ⟨hJ.1,aj _⟩ (λr _ b_ B=>aM (LQ.ret B)) ?two
 case one=>
  intro x' na nb c e b_ q;have V:na-1+1=na:=ub q.1.2.1.1;have o:=ub (aP q.1.2.2.1.1);have la:na-1<a.size:=c7 (ua V) q.1.2.1.2;have l:nb-1<b.size:=c7 (ua o) q.1.2.2.1.2;have q2:=q.2;refine nS hb l λy G iy ky=>nS O la λz H iz kz=>IA (q.1.2.2.2.kind.trans hk) iy iz
   (λwW=>aO (jU H ?_)) (λwW=>aO (jU G ?_))
  ·have I:Bv W a b (c.push z) (na-1) nb:=Bv.kY (V.symm▸q.1.1) H (o▸vN C l (ky.symm▸wW));refine i8 (λd=>aM (LQ.ret ⟨I.gA (.inl d),q.1.2.2.2⟩)) λd=>?_;have g:J (c.push z) (na-1) nb b_:=⟨I,⟨tX d,aP la⟩,q.1.2.2⟩;exact kL (λ_=>aM (LQ.brk ⟨g,by lia⟩)) λ_=>aM (LQ.go ⟨g,by lia⟩)
  ·have I:Bv W a b (c.push y) na (nb-1):=Bv.kX (o.symm▸q.1.1) G (V▸vN M la (kz.symm▸wW));refine i8 (λd=>aM (LQ.ret ⟨I.ix (R d),q.1.2.2.2⟩)) λd=>?_;have g:J (c.push y) na (nb-1) b_:=⟨I,q.1.2.1,⟨by have:=q.1.2.2.1.1;exact Kz q.1.2.2.1.1 d,aP l⟩,q.1.2.2.2⟩;exact kL (λ_=>aM (LQ.brk ⟨g,by lia⟩)) λ_=>aM (LQ.go ⟨g,by lia⟩)
 case two=>
  intro na nb c e eh q;refine aO (rj (oC ⟨U,uB (F:=F) (λ_=>L) L ?_
   (λ_ _ _ _ q=>q) q (λr _ b_ B=>aM (LQ.ret B)) λna nb c e ke q=>aO (yH q.1.2.2.2 λbS f=>aM (LQ.go ⟨⟨q.1.1,q.1.2.1,q.1.2.2.1,f⟩,q.2⟩))⟩))
  intro x' na nb c e ke q;have o:=ub (aP q.1.2.2.1.1);have l:nb-1<b.size:=c7 (ua o) q.1.2.2.1.2;have Yv:=q.1.2.2.1.1;have q2:=q.2
  extract_lets-underBinder+onlyGivenNames _ È _ Ç _ pI _ Xc _ Zl Zj jp
  have nq:∀(u:Unit) (x1:Nat),wpS (model prog w) A E s (jp u x1) (LQ F L L) ke:=by
   intro _ x1;refine aO (yH q.1.2.2.2 λbS f=>nS hb l λy G iy ky=>aO (LM (f.kind.trans hk) O M iy (n:=na) q.1.2.1.2 q.1.2.1.1 λk Z g2 g3=>?_));dsimp-zeta only
   extract_lets-underBinder+onlyGivenNames kk Zk tF
   have wN:=q.1.1.s_ Z (o▸JH C l ky λm t m2=>eA (by4 (g3 m t m2)));have iO:∀(u:Unit) (i:Nat) (c:Array Keyed),Bv W a b c i nb->0<i->i<=na->(∀m,m<i->Kk a m<=N y)->wpS (model prog w) A E s (tF u i c) (LQ F L L) bS:=by
    intro _ i c f1 f2 f3 f4;have X:i-1+1=i:=ub f2;have li:i-1<a.size:=c7 (ua X) (c7 f3 q.1.2.1.2);refine aO (jU G ?_);have Y:Bv W a b (c.push y) i (nb-1):=Bv.kX (o.symm▸f1) G (IU f4);refine i8 (λd=>aM (LQ.ret ⟨Y.ix (R d),f⟩)) λd=>nS O li λz H iz kz=>
     aO (LM (f.kind.trans hk) hb C iz (n:=nb-1) (aP l) (Nat.sub_pos_of_lt Yv) λk' tS Fi Fh=>?_)
    dsimp-zeta only
    extract_lets-underBinder+onlyGivenNames Ð Zi DC
    have hI:=Y.sZ tS (X▸JH M li kz λm t m2=>Fx (Fh m t m2));have nk:∀(u:Unit) (j:Nat) (c:Array Keyed),Bv W a b c i j->1<j->j<=nb-1->(∀m,m<j->Kk b m<=N z)->wpS (model prog w) A E s (DC u j c) (LQ F L L) bS:=by intro _ j c d1 d2 d3 d4;refine aO (jU H ?_);have d5:Bv W a b (c.push z) (i-1) j:=Bv.kY (X.symm▸d1) H (IU d4);refine i8 (λd=>aM (LQ.ret ⟨d5.gA (.inl d),f⟩)) λd=>?_;have g:L (i-1) j (c.push z) bS:=⟨⟨d5,⟨tX d,aP li⟩,⟨d2,c7 d3 (aP l)⟩,f⟩,by lia⟩;exact kL (λ_=>aM (LQ.brk g)) λ_=>aM (LQ.go g)
    have hz:∀m,m<k'->Kk b m<=N z:=λm t=>eA (Oq (Fi m t));refine kL (λD=>i8 (λv=>aM (LQ.ret ⟨hI.ix (R v),f⟩)) λv=>i8 (λc6=>aM (LQ.ret ⟨hI.gA (.inr c6),f⟩)) λc6=>?_) λD=>?_
    ·exact nk () k' _ hI (by lia) tS hz
    ·obtain rfl:k'=nb-1:=Kb tS D;exact nk () (nb-1) _ Y (Kz q.1.2.2.1.1 d) (aj _) hz
   have hy:∀m,m<k->Kk a m<=N y:=λm t=>Oo (g2 m t);refine kL (λD=>i8 (λv=>aM (LQ.ret ⟨wN.gA (.inl v),f⟩)) λv=>?_) λD=>?_
   ·exact iO () k _ wN (tX v) Z hy
   ·obtain rfl:k=na:=Kb Z D;exact iO () k _ q.1.1 q.1.2.1.1 (aj _) hy
  exact kL (λ_=>nq () _) λ_=>nq () _
end
section
variable [SK]
def dS (xs:Array Keyed) (a b:Nat):Prop:=∀i j,a<=i->i<=j->j<b->Kk xs i<=Kk xs j
theorem KY (b:Nat):∀(l:List Keyed) (n:Nat) (xs:Array Keyed),b+n+l.length<=xs.size->
 ((l.zipIdx n).foldl (λa (c:Keyed×Nat)=>a.setIfInBounds (b+c.2) c.1) xs).toList
   =xs.toList.take (b+n)++(l++xs.toList.drop (b+n+l.length))
 | [],n,xs,_=>by simp
 | p::t,n,xs,h=>by
  simp only [jl] at h;rw [List.zipIdx_cons,List.foldl_cons,KY b t (n+1) _ (by simp;lia)];simp only [Array.toList_setIfInBounds];rw [show b+(n+1)=b+n+1 by exact Eq.refl (b+(n+1)),List.drop_set_of_lt (by lia),jl,
   show b+n+1+t.length=b+n+(t.length+1) by lia]
  have:(xs.toList.set (b+n) p).take (b+n+1)=xs.toList.take (b+n)++[p]:=by rw [O0 (by simp;lia),List.take_set_of_le (aj _)];simp
  rw [this];simp
section seg
variable {xs ys:Array Keyed}
theorem UM (h:ys.toList=xs.toList.take a++(M++xs.toList.drop (a+M.length))) (d:a+M.length<=xs.size):
 (∀m,m<a\/a+M.length<=m->Kk ys m=Kk xs m)/\∀m,(b:m<M.length)->Kk ys (a+m)=N M[m]:=by
 have c:(xs.toList.take a).length=a:=by simp;lia
 refine ⟨λm b=>?_,λm b=>?_⟩
 ·refine rW ?_;rw [<-AV,<-AV,h];rcases b with b | b
  ·rw [nC (v_ b c),AY b]
  ·rw [lT (by lia),c,lT (zq b),List.getElem?_drop];congr 1;lia
 ·refine oY ?_;rw [<-AV,h,lT (by lia),c,Nat.add_sub_cancel_left,nC b,gp b]
theorem Qa (h:ys.toList=xs.toList.take a++(M++xs.toList.drop (a+M.length))) (c:M.Perm (xs.extract a b).toList) (f:b<=xs.size) (d:a<=b):ys.Perm xs:=by
 have g:M.length=b-a:=by rw [c.length_eq];simp;lia
 refine Array.perm_iff_toList_perm.mpr ?_;rw [h];have e:xs.toList=xs.toList.take a++((xs.extract a b).toList++xs.toList.drop (a+M.length)):=by
  conv=>lhs;rw [<-AQ a xs.toList]
  congr 1;have:=uG (a:=xs) (i:=a) (k:=b-a) (zI d f);rw [show a+(b-a)=b by exact jW d] at this;rw [this,show a+M.length=b by lia]
 conv=>rhs;rw [e]
 exact (c.append_right _).append_left _
end seg
structure Bs (a₀:Array Keyed) (st:SortSt):Prop where
 perm:(arrOf st).Perm a₀
 kind:kindOf st=SK.kind
 fail:failedOf st=none
theorem Bs.size {a₀:Array Keyed} {st:SortSt} (h:Bs a₀ st):(arrOf st).size=a₀.size:=h.perm.size_eq
theorem Bs.nums {a₀:Array Keyed} {st:SortSt} (h:Bs a₀ st) (a:∀p,p∈a₀.toList->dA p):∀p,p∈(arrOf st).toList->dA p:=
 λp b=>a p ((Array.perm_iff_toList_perm.mp h.perm).mem_iff.mp b)
theorem I' (e:dS xs a b) (f:b<=xs.size):(xs.extract a b).toList.Pairwise le:=by rw [yd];intro i j d c g;simp only [oH,Array.size_extract] at d c;simp only [Array.getElem_toList,Array.getElem_extract];have:=e (a+i) (a+j) h9 (by lia) (Kg c);rw [oY (n7 xs (a+i) (zp d)),oY (n7 xs (a+j) (zp c))] at this;exact this
theorem yq (c:a+m<b) (_hb:b<=xs.size):Kk (xs.extract a b) m=Kk xs (a+m):=by refine rW ?_;rw [Array.getElem?_extract,if_pos (by lia)]
end
section
variable [SK] [e_ prog w A E s] {st:SortSt}
theorem OS (h:Q ⟨⟩ a):wpS (model prog w) A E s (set a:StateT SortSt Sem PUnit) Q st:=by unfold wpS;rw [StateT.run_set];exact aG ⟨U,h⟩
theorem Vo (h0:∀p,p∈a₀.toList->dA p) (H:Bs a₀ st)
 (hp:pendingOf st=(L++(sa,na,p)::(sb,nb,p')::T).toArray) (N:i=L.length) (X:sb=sa+na) (EA:1<=na) (XY:1<=nb)
 (hsz:sb+nb<=a₀.size) (s1:dS (arrOf st) sa sb) (B:dS (arrOf st) sb (sb+nb))
 (h:∀R,Bs a₀ R->pendingOf R=(L++(sa,na+nb,p)::T).toArray->dS (arrOf R) sa (sb+nb)->
  (∀m,m<sa\/sb+nb<=m->Kk (arrOf R) m=Kk (arrOf st) m)->Q true R):
 wpS (model prog w) A E s (mergeAt' i) Q st:=by
 subst N;have I:=H.nums h0;have y:=H.size;refine aO (n6 ?_);have g1:(pendingOf st)[L.length]?=some (sa,na,p):=by rw [hp];simp
 have g2:(pendingOf st)[L.length+1]?=some (sb,nb,p'):=by rw [hp];simp
 have g3:((pendingOf st).setIfInBounds L.length (sa,na+nb,p)).eraseIdxIfInBounds (L.length+1)=(L++(sa,na+nb,p)::T).toArray:=by rw [hp];apply Array.toList_inj.mp;simp [List.eraseIdx_append_of_length_le]
 refine (show ((pendingOf st)[L.length]?,(pendingOf st)[L.length+1]?)=(some (sa,na,p),some (sb,nb,p')) by rw [g1,g2]).symm▸?_;refine aO (OS (g3.symm▸?_));refine (λ(x3:∀il:SortSt,il=SortSt.mk' (kindOf st) (arrOf st) ((L++(sa,na+nb,p)::T).toArray) (gallopOf st) (failedOf st)->
  wpS (model prog w) A E s _ Q il)=>x3 _ U) ?_
 intro il f;have v:Bs a₀ il:=by rw [f];exact ⟨H.perm,H.kind,H.fail⟩
 have S:arrOf il=arrOf st:=by rw [f]
 have p1:pendingOf il=(L++(sa,na+nb,p)::T).toArray:=by rw [f]
 have keep:dS (arrOf st) sa (sb+nb)->Q true il:=λhs=>h il v p1 (by rw [S];exact hs) (λm _=>by rw [S]);clear f;obtain ⟨x4,ey,iy,ky⟩:=nP I (i:=sb) (by lia);refine aO (jU ey (aO (yG (a:=arrOf st) v.kind I iy (n:=na) (by lia) (λi j A4 F=>s1 _ _ h9 (sv A4) (by lia)) (by exact EA)
  λk k1 k2 k3=>?_)))
 have MW:∀m,sa<=m->m<sa+k->Kk (arrOf st) m<=Kk (arrOf st) sb:=λm d G=>by have:=k2 (m-sa) (Ci G d);rw [show sa+(m-sa)=m by exact jW d] at this;rw [ky];simpa [d0] using this
 have MV:∀m,sa+k<=m->m<sb->Kk (arrOf st) sb<Kk (arrOf st) m:=λm d G=>by have:=k3 (m-sa) (zq d) (by lia);rw [show sa+(m-sa)=m by exact B' d] at this;rw [ky];simpa [d0] using this
 dsimp-zeta only
 by_cases M:na-k=0
 ·refine rR (c:=(na-k==0)=true) (by simpa using M) ?_;refine aM (keep λi j o e g=>?_)
  by_cases F:j<sb
  ·exact s1 i j o e F
  by_cases N:sb<=i
  ·exact B i j N e g
  exact kF (MW i o (by lia)) (B sb j (aj _) (mq F) g)
 refine rM (c:=(na-k==0)=true) (by simpa using M) ?_;obtain ⟨x5,ez,iz,kz⟩:=nP I (i:=sa+k+(na-k)-1) (by lia);have NN:sa+k+(na-k)-1=sb-1:=by lia
 refine aO (jU ez (aO (yG (a:=arrOf st) v.kind I iz (b:=sb) (n:=nb) (by lia) (λi j A4 F=>B _ _ h9 (sv A4) (oq F)) (Ql XY)
  λgH O q2 q3=>?_)))
 rw [NN] at kz;have M9:∀m,sb<=m->m<sb+gH->Kk (arrOf st) m<Kk (arrOf st) (sb-1):=λm d G=>by have:=q2 (m-sb) (Ci G d);rw [show sb+(m-sb)=m by exact jW d] at this;rw [kz];simpa [d0] using this
 have M8:∀m,sb+gH<=m->m<sb+nb->Kk (arrOf st) (sb-1)<=Kk (arrOf st) m:=λm d G=>by have:=q3 (m-sb) (zq d) (by lia);rw [show sb+(m-sb)=m by exact B' d] at this;rw [kz];simpa [d0] using this
 dsimp-zeta only
 by_cases c2:gH=0
 ·refine rR (c:=(gH==0)=true) (by simpa using c2) ?_;refine aM (keep λi j o e g=>?_)
  by_cases F:j<sb
  ·exact s1 i j o e F
  by_cases N:sb<=i
  ·exact B i j N e g
  exact kF (s1 i (sb-1) o (by lia) (Ks EA X)) (M8 j (by lia) g)
 refine rM (c:=(gH==0)=true) (by simpa using c2) ?_
 extract_lets-underBinder+onlyGivenNames x C jp
 have Wl:x.size=na-k:=by show ((arrOf st).extract (sa+k) sb).size=_;rw [Array.size_extract];lia
 have Wk:C.size=gH:=by show ((arrOf st).extract sb (sb+gH)).size=_;rw [Array.size_extract];lia
 have hx:∀q,q∈x.toList->dA q:=λq hq=>I q (by
  have:q∈((arrOf st).extract (sa+k) sb).toList:=hq;rw [vg,vj] at this;exact List.mem_of_mem_drop (qi this))
 have hy:∀q,q∈C.toList->dA q:=λq hq=>I q (by
  have:q∈((arrOf st).extract sb (sb+gH)).toList:=hq;rw [vg,vj] at this;exact List.mem_of_mem_drop (qi this))
 have ox:x.toList.Pairwise le:=I' (xs:=arrOf st) (λi j o e g=>s1 i j (by lia) e g) (Cb hsz y);have oy:C.toList.Pairwise le:=I' (xs:=arrOf st) (λi j o e g=>B i j o e (by lia)) (vZ hsz y O);have hf:Kk C 0<=Kk x 0:=by show Kk ((arrOf st).extract sb (sb+gH)) 0<=Kk ((arrOf st).extract (sa+k) sb) 0;rw [yq (by lia) (vZ hsz y O),yq (by lia) (Cb hsz y)];exact eA (MV _ (by exact eN) (by lia))
 have hl:Kk C (C.size-1)<=Kk x (x.size-1):=by rw [Wl,Wk];show Kk ((arrOf st).extract sb (sb+gH)) _<=Kk ((arrOf st).extract (sa+k) sb) _;rw [yq (by lia) (vZ hsz y O),yq (by lia) (Cb hsz y),show sa+k+(na-k-1)=sb-1 by exact Qp NN M];exact eA (M9 _ h9 (by lia))
 have hW:x.toList++C.toList=((arrOf st).extract (sa+k) (sb+gH)).toList:=by have f:=uG (a:=(arrOf st)) (i:=sa+k) (k:=na-k) (by omega);have V:=uG (a:=(arrOf st)) (i:=sb) (k:=gH) (vZ hsz y O);have e3:=uG (a:=(arrOf st)) (i:=sa+k) (k:=na-k+gH) (by omega);rw [show sa+k+(na-k)=sb by omega] at f;rw [show sa+k+(na-k+gH)=sb+gH by omega] at e3;rw [V] at f;rw [e3,<-oE] at f;exact (List.append_cancel_right f).symm
 have nq:∀r eh,Sm il eh->Out le (x.toList++C.toList) r.toList->wpS (model prog w) A E s (jp r) Q eh:=by
  intro r eh t u;rw [hW] at u;have rl:r.toList.length=na-k+gH:=by rw [u.1.length_eq];simp;lia
  refine aO (xM (aO (n6 (aM ?_))));have W:=KY (sa+k) r.toList 0 (arrOf eh) (by rw [t.arr,S];omega);rw [t.arr,S,Nat.add_zero] at W;have D:=UM W (by omega);have hP:=Qa W u.1 (vZ hsz y O) (by lia);have nh:∀m,sa+k<=m->m<sb+gH->∀x2,x2=Kk (List.foldl (λa (z:Keyed×Nat)=>a.setIfInBounds (sa+k+z.2) z.1) (arrOf st) (r.toList.zipIdx 0)) m->Kk (arrOf st) sb<=x2/\x2<=Kk (arrOf st) (sb-1):=by
   rintro m d G x2 rfl;have:=D.2 (m-(sa+k)) (by omega);rw [show sa+k+(m-(sa+k))=m by exact jW d] at this;rw [this];obtain ⟨m',n1,n2,_,n4⟩:=B5 (u.1.mem_iff.mp (rr (l:=r.toList) (n:=m-(sa+k)) (Ka G X rl M)));rw [<-n4]
   by_cases Z:m'<sb
   ·exact ⟨eA (MV m' n1 Z),s1 _ _ (by lia) (Cd Z) (Ks EA X)⟩
   ·exact ⟨B _ _ (by exact eN) (mq Z) (by lia),eA (M9 m' (mq Z) n2)⟩
  have xg:(failedOf eh).isNone=true:=by rw [t.fail,v.fail];rfl
  have ra:List.foldl (λa x=>match x with | (p,j)=>a.setIfInBounds (sa+k+j) p) (arrOf eh) r.toList.zipIdx
   =List.foldl (λa (z:Keyed×Nat)=>a.setIfInBounds (sa+k+z.2) z.1) (arrOf st) (r.toList.zipIdx 0):=by rw [t.arr,S]
  generalize List.foldl (λa (z:Keyed×Nat)=>a.setIfInBounds (sa+k+z.2) z.1) (arrOf st) (r.toList.zipIdx 0)=Y at ra W D hP nh;refine (show Q (failedOf eh).isNone (SortSt.mk' (kindOf eh) (List.foldl (λa x=>match x with | (p,j)=>a.setIfInBounds (sa+k+j) p) (arrOf eh) r.toList.zipIdx) (pendingOf eh) (gallopOf eh) (failedOf eh)) from ?_);rw [ra,xg];refine h _ ⟨hP.trans H.perm,t.kind.trans v.kind,t.fail.trans v.fail⟩ (t.pend.trans p1) ?_ ?_
  ·show dS Y sa (sb+nb);have pI:∀m,m<sa+k->Kk Y m=Kk (arrOf st) m:=λm d=>D.1 m (.inl d);have pH:∀m,sb+gH<=m->Kk Y m=Kk (arrOf st) m:=λm d=>D.1 m (.inr (by omega));intro i j o e g
   by_cases i1:i<sa+k
   ·rw [pI i i1]
    by_cases j1:j<sa+k
    ·rw [pI j j1];exact s1 i j o e (by lia)
    have:=MW i o i1
    by_cases J:j<sb+gH
    ·exact kF this (nh j (mq j1) J _ U).1
    ·rw [pH j (mq J)];exact kF this (B _ _ (aj _) (by lia) g)
   by_cases i2:i<sb+gH
   ·by_cases J:j<sb+gH
    ·rcases AM e with A4 | rfl
     ·have f:=D.2 (i-(sa+k)) (by omega);have V:=D.2 (j-(sa+k)) (Ka J X rl M);rw [show sa+k+(i-(sa+k))=i by exact PX i1] at f;rw [show sa+k+(j-(sa+k))=j by lia] at V;rw [f,V];exact yd.mp u.2 _ _ _ _ (by lia)
     ·exact fO _
    ·rw [pH j (mq J)];exact kF (nh i (mq i1) i2 _ U).2 (M8 j (mq J) g)
   ·rw [pH i (mq i2),pH j (by lia)];exact B i j (by lia) e g
  ·intro m â;exact D.1 m (by omega)
 by_cases c3:na-k<=gH
 ·refine rR c3 ?_;exact aO (Vq U v.kind hx hy ox oy (by lia) (by lia) hf hl λr eh t u=>nq r eh t u)
 ·refine rM c3 ?_;exact aO (Vp U v.kind hx hy ox oy (by lia) (by lia) hf hl λr eh t u=>nq r eh t u)
end
section
variable [SK]
def Dec (xs:Array Keyed) (a b:Nat):Prop:=∀i j,a<=i->i<=j->j<b->Kk xs j<=Kk xs i
structure Go (a₀:Array Keyed) (lo:Nat) (st b_:SortSt):Prop where
 base:Bs a₀ b_
 pend:pendingOf b_=pendingOf st
 low:∀m,m<lo->Kk (arrOf b_) m=Kk (arrOf st) m
theorem Go.refl {a₀:Array Keyed} {a:Nat} {st:SortSt} (h:Bs a₀ st):Go a₀ a st st:=⟨h,U,λ_ _=>rfl⟩
theorem Go.put {a₀:Array Keyed} {b:Nat} {st a:SortSt} (h:Go a₀ b st a) {xs:Array Keyed} (e:xs.Perm (arrOf a)) (d:∀m,m<b->Kk xs m=Kk (arrOf a) m):
 Go a₀ b st (setArr a xs):=⟨⟨e.trans h.base.perm,h.base.kind,h.base.fail⟩,h.pend,λm c=>(d m c).trans (h.low m c)⟩
theorem dS.snoc (h:dS xs a b) (g:a<b->Kk xs (b-1)<=Kk xs b):dS xs a (b+1):=by
 intro i j c d k
 by_cases f:j<b
 ·exact h i j c d f
 obtain rfl:j=b:=by lia
 by_cases e:i=j
 ·rw [e];exact fO _
 ·exact kF (h i (j-1) c (by lia) (by lia)) (g (by lia))
theorem Dec.snoc (h:Dec xs a b) (g:a<b->Kk xs b<=Kk xs (b-1)):Dec xs a (b+1):=by
 intro i j c d k
 by_cases f:j<b
 ·exact h i j c d f
 obtain rfl:j=b:=by lia
 by_cases e:i=j
 ·rw [e];exact fO _
 ·exact kF (g (by lia)) (h i (j-1) c (by lia) (by lia))
theorem dS.one (xs:Array Keyed) (a:Nat):dS xs a (a+1):=λi j b c d=>by
 obtain rfl:i=j:=by lia
 exact fO _
theorem Dec.rev (h:Dec xs a b) (f:b<=xs.size):dS (mirror xs a b ((b-a) / 2)) a b:=by intro i j c d e;rw [za f,za f,if_pos ⟨c,by lia⟩,if_pos ⟨ph c d,e⟩];exact h _ _ (Kh e) (Qx d) (by omega)
end
section
variable [SK] [e_ prog w A E s] {st:SortSt}
theorem zz (I:Nat->β->SortSt->Prop) (g:a<=n)
 (l:∀i c st,a<=i->i<n->I i c st->wpS (model prog w) A E s (f i c) (SQ Q (I (i+1))) st)
 (j:∀c st,I n c st->Q c st) (h:I a c st):wpS (model prog w) A E s (forIn [a:n] c f) Q st:=
 xR I (λi c st e k d=>jk (l i c st e k d) λr m b=>by cases r<;>exact b)
  (λc st b=>j c st (by rwa [Nat.max_eq_right g] at b)) h
theorem uw (e:∀p,p∈a₀.toList->dA p) (a:Bs a₀ st) (f:i<a₀.size) (g:j<a₀.size)
 (h:Q (some (decide (Kk (arrOf st) i<Kk (arrOf st) j))) st):wpS (model prog w) A E s (ltAt' i j) Q st:=by
 have b:=a.nums e;obtain ⟨p,c,k,m⟩:=nP b (i:=i) (by rw [a.size];exact f);obtain ⟨q,d,l,n⟩:=nP b (i:=j) (by rw [a.size];exact g);rw [ltAt'_eq];refine aO (n6 (aO (jU c (aO (jU d (yA a.kind k l ?_))))))
 rwa [m,n] at h
theorem PV {a q:Nat} {Q:Option Nat->SortSt->Prop} (L:∀p,p∈a₀.toList->dA p) (D:Bs a₀ st) (v:a+q<=a₀.size) (T:1<=q)
 (h:∀m b,1<=m->m<=q->Go a₀ a st b->dS (arrOf b) a (a+m)->Q (some m) b):
 wpS (model prog w) A E s (countRun' a q) Q st:=by
 refine aO (jk (zz
  (I:=λx c b=>b=st/\c=(none,x)/\dS (arrOf st) a (a+x))
  (Q:=λc b=>b=st/\∃n,c=(none,n)/\1<=n/\n<=q/\dS (arrOf st) a (a+n)/\(n=q\/Kk (arrOf st) (a+n)<Kk (arrOf st) (a+n-1)))
  T ?_ ?_ ⟨U,U,dS.one _ _⟩) ?_)
 ·rintro x c b wK Y ⟨rfl,rfl,o⟩;refine aO (uw L D (by show a+x<_;exact lO v Y) (by show a+x-1<_;exact zK v Y) ?_)
  by_cases l:Kk (arrOf b) (a+x)<Kk (arrOf b) (a+x-1)
  ·rw [ew l];exact aM ⟨U,x,U,wK,by exact aP Y,o,.inr l⟩
  ·rw [cF l];exact aM ⟨U,U,o.snoc λ_=>Int.not_lt.mp l⟩
 ·rintro c b ⟨rfl,rfl,o⟩;exact ⟨U,q,U,T,aj _,o,.inl U⟩
 rintro c b ⟨rfl,n,rfl,Z,n2,o,XQ⟩;refine (λ(H:wpS (model prog w) A E s (ite ((n==q)=true) _ _) Q b)=>H) ?_
 by_cases S:n=q
 ·rw [if_pos (by simpa using S)];exact aM (h n _ Z n2 (Go.refl D) o)
 rw [if_neg (by simpa using S)];have l:=XQ.resolve_left S
 extract_lets-underBinder+onlyGivenNames jp
 have nq:∀x3 eh,Go a₀ a b eh->Dec (arrOf eh) a (a+(n+1))->wpS (model prog w) A E s (jp x3) Q eh:=by
  intro _ eh f g;refine aO (rj (oC ⟨U,?_⟩));refine aO (jk (zz
   (I:=λx c d=>∃e,c=(none,x,e)/\Go a₀ a b d/\Dec (arrOf d) a (a+x)/\e+1<=x/\∀i,a+x-(e+1)<=i->i<a+x->Kk (arrOf d) i=Kk (arrOf d) (a+x-1))
   (Q:=λc d=>∃x e,c=(none,x,e)/\n+1<=x/\x<=q/\Go a₀ a b d/\Dec (arrOf d) a (a+x)/\e+1<=x/\∀i,a+x-(e+1)<=i->i<a+x->Kk (arrOf d) i=Kk (arrOf d) (a+x-1))
   (show n+1<=q by lia) ?_ ?_ ⟨0,U,f,g,by exact fQ Z,λi r t=>by congr 1;lia⟩) ?_)
  ·rintro x c d x1 G ⟨e,rfl,f,g,N,F⟩;have z:a+x<=(arrOf d).size:=by rw [f.base.size];lia
   refine aO (uw L f.base (by show a+x<_;exact lO v G) (by show a+x-1<_;exact zK v G) ?_)
   by_cases l:Kk (arrOf d) (a+x)<Kk (arrOf d) (a+x-1)
   ·rw [ew l];dsimp only;rw [if_pos rfl]
    by_cases M:e>0
    ·rw [if_pos M];have u:=CA (i:=a+x-(e+1)) z F;refine aO (AE (aM ⟨0,U,f.put (AD _ _ _ _) (λm _=>u m),?_,by lia,λi r t=>by congr 1;lia⟩));intro i j r t J;show Kk (mirror (arrOf d) _ _ _) j<=Kk (mirror (arrOf d) _ _ _) i;rw [u,u];exact (g.snoc λ_=>eA l) i j r t (by omega)
    ·rw [if_neg M];exact aM ⟨0,U,f,g.snoc λ_=>eA l,by lia,λi r t=>by congr 1;lia⟩
   ·rw [cF l];dsimp only;rw [if_neg (by decide)];refine aO (uw L f.base (zK v G) (lO v G) ?_)
    by_cases W:Kk (arrOf d) (a+x-1)<Kk (arrOf d) (a+x)
    ·rw [ew W];exact aM ⟨x,e,U,by omega,by exact aP G,f,g,N,F⟩
    ·rw [cF W];have heq:Kk (arrOf d) (a+x)=Kk (arrOf d) (a+x-1):=by lia
     refine aM ⟨e+1,U,f,g.snoc λ_=>jV W,sj N,λi r t=>?_⟩;rw [show a+(x+1)-1=a+x by exact Eq.refl (a+(x+1)-1)]
     by_cases hi:i=a+x
     ·rw [hi]
     ·rw [heq];exact F i (by lia) (by lia)
  ·rintro c d ⟨e,rfl,f,g,N,F⟩;exact ⟨q,e,U,by lia,aj _,f,g,N,F⟩
  rintro c d ⟨x,e,rfl,_,G,f,g,N,F⟩;have z:a+x<=(arrOf d).size:=by rw [f.base.size];lia
  refine (λ(H:wpS (model prog w) A E s _ Q d)=>H) ?_
  extract_lets-underBinder+onlyGivenNames r0 _ xx nn
  dsimp-zeta only [r0]
  extract_lets-underBinder+onlyGivenNames tF
  have iO:∀x3 bS,Go a₀ a b bS->Dec (arrOf bS) a (a+x)->wpS (model prog w) A E s (tF x3) Q bS:=by
   intro _ bS f g;have z:a+x<=(arrOf bS).size:=by rw [f.base.size];lia
   refine aO (AE ?_);have R:Go a₀ a b (setArr bS (mirror (arrOf bS) a (a+x) ((a+x-a) / 2))):=
    f.put (AD _ _ _ _) (λm hm=>by rw [za z,if_neg (by lia)])
   have X:dS (arrOf (setArr bS (mirror (arrOf bS) a (a+x) ((a+x-a) / 2)))) a (a+x):=g.rev z;refine (λ(H:∀B,Go a₀ a b B->dS (arrOf B) a (a+x)->wpS (model prog w) A E s _ Q B)=>H _ R X) ?_;intro B R X;refine aO (jk (zz
    (I:=λy c C=>C=B/\c=(none,y)/\dS (arrOf B) a (a+y))
    (Q:=λc C=>C=B/\∃y,c=(none,y)/\1<=y/\y<=q/\dS (arrOf B) a (a+y)) G ?_ ?_ ⟨U,U,X⟩) ?_)
   ·rintro y c C y1 O ⟨rfl,rfl,o⟩;refine aO (uw L R.base (by show a+y<_;exact lO v O) (by show a+y-1<_;exact zK v O) ?_)
    by_cases l:Kk (arrOf C) (a+y)<Kk (arrOf C) (a+y-1)
    ·rw [ew l];exact aM ⟨U,y,U,by lia,by exact aP O,o⟩
    ·rw [cF l];exact aM ⟨U,U,o.snoc λ_=>Int.not_lt.mp l⟩
   ·rintro c C ⟨rfl,rfl,o⟩;exact ⟨U,q,U,T,aj _,o⟩
   ·rintro c C ⟨rfl,y,rfl,y1,O,o⟩;exact aM (h y _ y1 O R o)
  by_cases M:e>0
  ·refine rR (c:=e>0) M ?_;have u:=CA (i:=a+x-(e+1)) z F;refine aO (AE (iO () _ (f.put (AD _ _ _ _) (λm _=>u m)) ?_));intro i j r t J;show Kk (mirror (arrOf d) _ _ _) j<=Kk (mirror (arrOf d) _ _ _) i;rw [u,u];exact g i j r t J
  ·refine rM (c:=e>0) M ?_;exact iO () _ f g
 have z:a+n<=(arrOf b).size:=by rw [D.size];lia
 by_cases c2:n>1
 ·refine rR (c:=n>1) c2 ?_;refine aO (uw L D (by lia) (by show a+n-1<_;omega) ?_)
  by_cases hr:Kk (arrOf b) a<Kk (arrOf b) (a+n-1)
  ·rw [ew hr];exact aM (h n _ Z n2 (Go.refl D) o)
  ·rw [cF hr];have V:∀k,a<=k->k<a+n->Kk (arrOf b) k=Kk (arrOf b) (a+n-1):=λk k1 k2=>by
    have a1:=o a k (aj _) k1 k2;have a2:=o k (a+n-1) k1 (Cd k2) (by omega);lia
   have u:=CA z V;refine aO (AE (nq () _ ((Go.refl D).put (AD _ _ _ _) (λm _=>u m)) ?_));have g:Dec (arrOf b) a (a+n):=λi j r t J=>by rw [V i r (by lia),V j (ph r t) J];exact fO _
   intro i j r t J;show Kk (mirror (arrOf b) _ _ _) j<=Kk (mirror (arrOf b) _ _ _) i;rw [u,u];exact (g.snoc λ_=>eA l) i j r t (by omega)
 ·refine rM (c:=n>1) c2 ?_;obtain rfl:n=1:=by lia
  have g:Dec (arrOf b) a (a+1):=λi j r t J=>by
   obtain rfl:i=j:=by lia
   exact fO _
  exact nq () _ (Go.refl D) (g.snoc λ_=>eA l)
end
theorem V2 {f g:Nat->Int} {k a b:Nat} (t:k<=a) (s:a<=b) (h:∀m,m<a->g m=f m) (l:g a=f b) (r:∀m,a<m+1->m+1<=b->g (m+1)=f m) (low:∀m,k<=m->m<a->f m<=f b) (high:∀m,a<=m->m<b->f b<=f m)
 (n:∀i j,k<=i->i<=j->j<b->f i<=f j):∀i j,k<=i->i<=j->j<b+1->g i<=g j:=λi j o e p=>by
 rcases xQ j a with c | c | c
 ·rw [h j c,h i (l9 e c)];exact n i j o e (gn c s)
 ·subst c;rw [l];rcases AM e with d | d
  ·rw [h i d];exact low i o d
  ·rw [d,l];exact fO _
 ·cases j with
  | zero=>exact absurd c (lU _)
  | succ j=>
   rw [r j c (rm p)];have q:j<b:=Nat.lt_of_succ_lt_succ p;rcases xQ i a with d | d | d
   ·rw [h i d];exact n i j o (rm (Nat.lt_trans d c)) q
   ·rw [d,l];exact high j (rm c) q
   ·cases i with
    | zero=>exact absurd d (lU _)
    | succ i=>
     rw [r i d (c7 e (rm p))];exact n i j (c7 t (rm d)) (Nat.le_of_succ_le_succ e) q
section
variable [SK] [e_ prog w A E s] {st:SortSt}
theorem OT {e n ok:Nat} (W:∀p,p∈a₀.toList->dA p) (Y:Bs a₀ st) (N:e+n<=a₀.size) (B:1<=ok) (a7:ok<=n)
 (hs:dS (arrOf st) e (e+ok)) (h:∀f,Go a₀ e st f->dS (arrOf f) e (e+n)->Q true f):
 wpS (model prog w) A E s (binarySort' e n ok) Q st:=by
 refine aO (jk (zz
  (I:=λk c f=>c=(none,())/\Go a₀ e st f/\dS (arrOf f) e (e+k))
  (Q:=λc f=>c=(none,())/\Go a₀ e st f/\dS (arrOf f) e (e+n)) (show max ok 1<=n by lia) ?_ ?_
  ⟨U,Go.refl Y,by rw [Nat.max_eq_left B];exact hs⟩) ?_)
 ·rintro k c f _ R ⟨rfl,o,t⟩;have hsz:e+k<(arrOf f).size:=by rw [o.base.size];exact lO N R
  refine aO (jk (vM
   (I:=λx c g=>g=f/\∃l r,c=(none,l,r)/\l<=r/\r<=k/\r-l<=k-x/\(∀i,i<l->Kk (arrOf f) (e+i)<=Kk (arrOf f) (e+k))/\
    ∀i,r<=i->i<k->Kk (arrOf f) (e+k)<=Kk (arrOf f) (e+i))
   (Q:=λc g=>g=f/\∃l,c=(none,l,l)/\l<=k/\(∀i,i<l->Kk (arrOf f) (e+i)<=Kk (arrOf f) (e+k))/\
    ∀i,l<=i->i<k->Kk (arrOf f) (e+k)<=Kk (arrOf f) (e+i)) ?_ ?_ ⟨U,0,k,U,by lia,by exact eN,by exact eN,λi hi=>by exact hQ (lU i hi),λi J O=>by lia⟩) ?_)
  ·rintro x c g hx ⟨rfl,l,r,rfl,S,y,T,u,v⟩;dsimp only
   by_cases M:l>=r
   ·rw [if_pos M];obtain rfl:l=r:=by lia
    exact aM ⟨U,l,U,y,u,v⟩
   rw [if_neg M];generalize F:(l+r) / 2=m;refine aO (uw W o.base (i:=e+k) (j:=e+m) (lO N R) (by lia) ?_)
   by_cases D:Kk (arrOf g) (e+k)<Kk (arrOf g) (e+m)
   ·rw [ew D];refine aM ⟨U,l,m,U,by lia,by lia,by omega,u,λi J O=>?_⟩;exact kF (eA D) (t _ _ h9 (sv J) (oq O))
   ·rw [cF D];refine aM ⟨U,m+1,r,U,by lia,by omega,by omega,λi J=>?_,v⟩;exact kF (t _ (e+m) h9 (by lia) (by lia)) (Int.not_lt.mp D)
  ·rintro c g ⟨rfl,l,r,rfl,S,y,T,u,v⟩;obtain rfl:l=r:=by lia
   exact ⟨U,l,U,y,u,v⟩
  ·rintro c g ⟨rfl,l,rfl,y,u,v⟩;refine (λ(H:wpS (model prog w) A E s (do moveDown' (e+k) (e+l);pure (ForInStep.yield (none,()))) _ g)=>H) ?_;rw [moveDown'_eq];have V:e+k-(e+k-(e+l))=e+l:=by lia
   have C:∀m,Kk (bubble (arrOf g) (e+k) (e+k-(e+l))) m=if m=e+l then Kk (arrOf g) (e+k) else if e+l<m/\m<=e+k then Kk (arrOf g) (m-1) else Kk (arrOf g) m:=λm=>by
    have:=Pb (d:=e+k-(e+l)) hsz (ZGo _ _) m
    rwa [V] at this
   refine aO (xM (aM ⟨U,o.put (bubble_perm _ _ _) (λm F=>?_),?_⟩))
   ·rw [C,if_neg (by lia),if_neg λz=>by lia]
   ·refine V2 (a:=e+l) (b:=e+k) (l8 e l) (FG y e) (λm F=>?_) ?_ (λm B X=>?_) (λm G L=>?_) (λm G L=>?_) t
    ·rw [C,if_neg (eF F),if_neg λz=>Nat.lt_asymm F z.1]
    ·rw [C,if_pos rfl]
    ·rw [C,if_neg (vf B),if_pos ⟨B,X⟩,Nat.add_sub_cancel]
    ·obtain ⟨q,rfl⟩:=Nat.exists_eq_add_of_le G;exact u q (Ou L)
    ·obtain ⟨q,rfl⟩:=Nat.exists_eq_add_of_le (c7 (l8 e l) G);exact v q (Nat.le_of_add_le_add_left G) (Ou L)
 ·rintro c f ⟨Z,o,t⟩;exact ⟨Z,o,t⟩
 ·rintro c f ⟨rfl,o,t⟩;exact aM (h f o t)
end
def Run [SK] (xs:Array Keyed):Nat->List (Nat×Nat×Nat)->Nat->Prop
 | s,[],e=>s=e
 | s,r::t,e=>r.1=s/\1<=r.2.1/\dS xs s (s+r.2.1)/\Run xs (s+r.2.1) t e
section run
variable [SK]
theorem Run.le:∀{a s e},Run X s a e->s+a.length<=e
 | [],s,e,h=>by unfold Run at h;simp;lia
 | r::t,s,e,⟨_,c,_,b⟩=>by have:=b.le;simp only [jl];lia
theorem Run.congr:∀{f s e},Run X s f e->(∀m,s<=m->m<e->Kk Y m=Kk X m)->Run Y s f e
 | [],_,_,h,_=>h
 | r::t,s,e,⟨k,l,n,d⟩,b=>by have:=d.le;refine ⟨k,l,λi j a c g=>?_,d.congr λm p o=>b m (by lia) o⟩;rw [b i a (by lia),b j (ph a c) (by lia)];exact n i j a c g
theorem Run.app:∀{l r s e},Run X s (l++r) e↔∃m,Run X s l m/\Run X m r e
 | [],r,s,e=>⟨λh=>⟨s,U,h⟩,λ⟨m,b,c⟩=>by unfold Run at b;subst b;exact c⟩
 | a::l,r,s,e=>⟨λ⟨d,b,c,f⟩=>by
  obtain ⟨m,g,i⟩:=Run.app.mp f;exact ⟨m,⟨d,b,c,g⟩,i⟩,λ⟨m,⟨d,b,c,f⟩,j⟩=>⟨d,b,c,Run.app.mpr ⟨m,f,j⟩⟩⟩
theorem Run.same:∀{f g s e},Run X s f e->f.map (λr=>(r.1,r.2.1))=g.map (λr=>(r.1,r.2.1))->Run X s g e
 | [],[],_,_,h,_=>h
 | a::t,b::o,s,e,⟨k,l,m,n⟩,c=>by simp only [dt,List.cons.injEq,Prod.mk.injEq] at c;obtain ⟨⟨i,d⟩,j⟩:=c;refine ⟨i▸k,d▸l,d▸m,?_⟩;rw [<-d];exact n.same j
 | [],_::_,_,_,_,c=>by simp at c
 | _::_,[],_,_,_,c=>by simp at c
end run
theorem L6 {b c:Type} {f:b->b} {g:b->c} (h:∀x,g (f x)=g x):∀(l:List b) (i:Nat),(l.modify i f).map g=l.map g
 | [],i=>by simp
 | a::t,0=>by simp [h]
 | a::t,i+1=>by simp [L6 h t i]
section
variable [SK] [e_ prog w A E s] {st:SortSt}
structure Pd (a₀:Array Keyed) (lo:Nat) (rs:List (Nat×Nat×Nat)) (st:SortSt):Prop where
 base:Bs a₀ st
 pend:pendingOf st=rs.toArray
 run:Run (arrOf st) 0 rs lo
 top:lo<=a₀.size
theorem IB {c i:Nat} (C:∀p,p∈a₀.toList->dA p) (b:Pd a₀ c rs st) (I:i+1<rs.length)
 (h:∀x a,Pd a₀ c x a->x.length+1=rs.length->(∀m,c<=m->Kk (arrOf a) m=Kk (arrOf st) m)->Q true a):
 wpS (model prog w) A E s (mergeAt' i) Q st:=by
 obtain ⟨L,l,n,T,e,D⟩:∃L l n T,rs=L++l::n::T/\i=L.length:=by refine ⟨rs.take i,rs[i],rs[i+1],rs.drop (i+2),?_,by simp;lia⟩;rw [<-FU,<-FU,AQ]
 obtain ⟨d,j,p⟩:=l;obtain ⟨M,k,J⟩:=n;have u:=b.run;rw [e] at u;obtain ⟨m,F,rfl,o,q,rfl,r,t,g⟩:=Run.app.mp u;dsimp only at o q r t g;have N:=g.le;have H:=b.top;refine Vo C b.base (e▸b.pend) D U o r (by lia) q t λa y z B f=>?_;refine h _ a ⟨y,z,Run.app.mpr ⟨d,F.congr λm _ G=>f m (.inl G),U,by show 1<=j+k;lia,?_,?_⟩,H⟩ (by rw [e];simp;exact Eq.refl (L.length+(T.length+1)+1))
  (λm v=>f m (.inr (by lia)))
 ·show dS _ d (d+(j+k));rw [<-xU];exact B
 ·show Run _ (d+(j+k)) T c;rw [<-xU];exact g.congr λm v _=>f m (.inr v)
theorem OU {Q:Unit->SortSt->Prop} (B:∀p,p∈a₀.toList->dA p) (T:Bs a₀ st) (hp:pendingOf st= #[]) (h2:2<=a₀.size)
 (h:∀e,(arrOf e).Perm a₀->failedOf e=none->dS (arrOf e) 0 a₀.size->Q () e):wpS (model prog w) A E s sortRuns' Q st:=by
 refine aO (n6 ?_);have Nj:=T.size;refine aO (jk (vM
  (I:=λx c e=>∃a g,c=(none,a)/\Pd a₀ a g e/\(x<=a\/a=a₀.size))
  (Q:=λc e=>∃g,c=(none,a₀.size)/\Pd a₀ a₀.size g e) ?big ?tW ⟨0,[],U,⟨T,hp,U,cN _⟩,.inl (aj _)⟩) ?after)
 case tW=>
  rintro c e ⟨a,g,rfl,k,hx⟩;have:=k.top
  change (arrOf st).size<=a\/a=a₀.size at hx
  obtain rfl:a=a₀.size:=by lia
  exact ⟨g,U,k⟩
 case big=>
  rintro x c e _ ⟨a,g,rfl,k,Ô⟩;refine (λ(H:wpS (model prog w) A E s (ite (a>=(arrOf st).size) _ _) _ e)=>H) ?_
  by_cases R:a>=(arrOf st).size
  ·rw [if_pos R];have:=k.top;obtain rfl:a=a₀.size:=by lia
   exact aM ⟨g,U,k⟩
  rw [if_neg R];refine aO (PV B k.base (by show a+((arrOf st).size-a)<=_;lia) (by show 1<=(arrOf st).size-a;lia) λm eh m1 z v N=>?_)
  change m<=(arrOf st).size-a at z
  change Go a₀ a e eh at v
  change dS (arrOf eh) a (a+m) at N
  have C:Pd a₀ a g eh:=⟨v.base,v.pend.trans k.pend,k.run.congr λm _ z=>v.low m z,k.top⟩;refine (λ(H:wpS (model prog w) A E s _ _ eh)=>H) ?_;dsimp-zeta only
  extract_lets-underBinder+onlyGivenNames n0 jp
  have W:∀(u:Unit) n ke,1<=n->a+n<=a₀.size->Pd a₀ a g ke->dS (arrOf ke) a (a+n)->
   wpS (model prog w) A E s (jp u n) (SQ (λc e=>∃g,c=(none,a₀.size)/\Pd a₀ a₀.size g e)
    (λc e=>∃a g,c=(none,a)/\Pd a₀ a g e/\(x+1<=a\/a=a₀.size))) ke:=by
   intro u n ke n1 n2 V F;refine aO (n6 ?_)
   extract_lets-underBinder+onlyGivenNames tF
   have X:∀(u:Unit) bS b,Pd a₀ a b bS->dS (arrOf bS) a (a+n)->
    wpS (model prog w) A E s (tF u) (SQ (λc e=>∃g,c=(none,a₀.size)/\Pd a₀ a₀.size g e)
     (λc e=>∃a g,c=(none,a)/\Pd a₀ a g e/\(x+1<=a\/a=a₀.size))) bS:=by
    intro u bS b d q;refine aO (xM (aM ⟨a+n,b++[(a,n,0)],U,⟨⟨d.base.perm,d.base.kind,d.base.fail⟩,?_,?_,n2⟩,by lia⟩))
    ·show (pendingOf bS).push (a,n,0)=_;rw [d.pend];simp
    ·exact Run.app.mpr ⟨a,d.run,U,n1,q,U⟩
   cases hb:(pendingOf ke).back? with
   | none=>
    exact X () ke g V F
   | some r=>
    obtain ⟨t,o,p1⟩:=r;refine aO (jk (vM
     (I:=λ_ c bS=>c=(none,())/\∃b,Pd a₀ a b bS/\dS (arrOf bS) a (a+n))
     (Q:=λc bS=>c=(none,())/\∃b,Pd a₀ a b bS/\dS (arrOf bS) a (a+n)) ?_ (λc bS hh=>hh) ⟨U,g,V,F⟩) ?_)
    ·rintro x' c bS _ ⟨rfl,b,d,q⟩;refine aO (n6 ?_);have Z:(pendingOf bS).size=b.length:=by rw [d.pend];simp
     dsimp only
     by_cases l:(pendingOf bS).size>1
     ·rw [if_pos l]
      cases hq:(pendingOf bS)[(pendingOf bS).size-2]? with
      | none=>exact aM ⟨U,b,d,q⟩
      | some r=>
       obtain ⟨x1,x2,MI⟩:=r;dsimp only;split
       ·exact aM ⟨U,b,d,q⟩
       ·refine aO (IB B d (by show (pendingOf bS).size-2+1<_;lia) λO Aq J _ Y=>?_);refine aM ⟨U,O,J,λi j y G i3=>?_⟩;rw [Y i y,Y j (ph y G)];exact q i j y G i3
     ·rw [if_neg l];exact aM ⟨U,b,d,q⟩
    ·rintro c bS ⟨rfl,b,d,q⟩;refine aO (xM (X () _ (b.modify (b.length-1) λr=>(r.1,r.2.1,power' (arrOf st).size (2*t+o) (2*t+o+o+n) (arrOf st).size)) ⟨⟨d.base.perm,d.base.kind,d.base.fail⟩,?_,?_,d.top⟩ q))
     ·refine (λ(H:(pendingOf bS).modify ((pendingOf bS).size-1) (λr=>(r.1,r.2.1,power' (arrOf st).size (2*t+o) (2*t+o+o+n) (arrOf st).size))=_)=>H) ?_;rw [d.pend];apply Array.toList_inj.mp;simp
     ·exact d.run.same (L6 (f:=λr=>(r.1,r.2.1,power' (arrOf st).size (2*t+o) (2*t+o+o+n) (arrOf st).size)) (λ_=>rfl) _ _).symm
  by_cases l:m<minRun' (arrOf st).size (arrOf st).size 0
  ·refine rR (c:=m<minRun' (arrOf st).size (arrOf st).size 0) l ?_;refine aO (rj (oC ⟨U,?_⟩));refine aO (OT B v.base (n:=min ((arrOf st).size-a) (minRun' (arrOf st).size (arrOf st).size 0)) (by lia) m1 (by omega) N λke L F=>?_);exact W () (min ((arrOf st).size-a) (minRun' (arrOf st).size (arrOf st).size 0)) ke (by omega) (by lia) ⟨L.base,L.pend.trans C.pend,C.run.congr λm _ z=>L.low m z,C.top⟩ F
  ·refine rM (c:=m<minRun' (arrOf st).size (arrOf st).size 0) l ?_;exact W () m eh m1 (by lia) C N
 case after=>
  rintro c e ⟨g,rfl,k⟩;refine (λ(H:wpS (model prog w) A E s _ Q e)=>H) ?_;dsimp only;have hlen:=k.run.le;refine aO (jk (vM
   (I:=λx c bS=>c=(none,())/\∃b,Pd a₀ a₀.size b bS/\(b.length+x<=a₀.size\/b.length<=1))
   (Q:=λc bS=>c=(none,())/\∃b,Pd a₀ a₀.size b bS/\b.length<=1) ?_ ?_ ⟨U,g,k,.inl (by lia)⟩) ?_)
  ·rintro x' c bS _ ⟨rfl,b,d,D⟩;refine aO (n6 ?_);have Z:(pendingOf bS).size=b.length:=by rw [d.pend];simp
   by_cases l:(pendingOf bS).size<=1
   ·rw [if_pos l];exact aM ⟨U,b,d,vY Z l⟩
   rw [if_neg l];refine aO (IB B d ?_ λO Aq J ä _=>aM ⟨U,O,J,by lia⟩);have key:∀j,j<=(pendingOf bS).size-2->j+1<b.length:=by lia
   refine key _ ?_
   repeat' split
   all_goals first
    | exact aj _
    | exact ZGo _ _
  ·rintro c bS ⟨rfl,b,d,D⟩
   change b.length+(arrOf st).size<=a₀.size\/b.length<=1 at D
   exact ⟨U,b,d,by lia⟩
  ·rintro c bS ⟨rfl,b,d,D⟩;refine aM (h bS d.base.perm d.base.fail ?_);have M:=d.run
   match b,D,M with
   | [],_,M=>unfold Run at M;lia
   | [r],_,⟨_,_,e1,S⟩=>
    unfold Run at S;intro i j i0 y G;exact e1 i j i0 y (v_ G S)
end
section
variable [DecidableEq k] {knd:KeyKind prog w k}
theorem RQ (X:A.handled=none) (T:(d==sysModules)=false) (u:s.heap.DictAt knd d kvs ep) (Z:kvs.length<=sizeLine)
 (G:∀s' g,(∀b o,s.heap.get? b=some o->s'.heap.get? b=some o)->s'.gens=s.gens->s'.drawn=s.drawn->s'.os=s.os->s.toks<=s'.toks->
  ItemsOf (λi v=>∃C x,kvs[i]?=some (C,x)/\knd.is C v=true) g kvs.length->Q g.toList s'):wpAny (model prog w) A (collect (.ref d)) Q E s:=by
 let L:Obj:={ cls:=.type "list",data:=.seq ([]:List Value).toArray }
 have t:=u.lt_size;have h:s.heap.objs.size≠d:=vf t;unfold collect;refine ab (wpAny_runValue (F8 F.entry_proto_collect ?_));rw [Around.under_plainId F.plain_proto_collect _];refine (show wpAny _ A.in1 (newList []>>=λx1=>again (.builtin "list.__iadd__" ⟨[x1,.ref d],[]⟩)) _ _ s from ab (qk (aG ⟨plainId_quiet F.plain_list_iadd _,F8 F.entry_list_iadd ?_⟩)));rw [Around.under_plainId F.plain_list_iadd _];have m:(s.heap.push L).DictAt knd d kvs ep:=u.push _;have O:({ s with heap:=s.heap.push L }:Shared).TypeIs (.ref d) "dict":=m.dictOf.typeIs (s:={ s with heap:=s.heap.push L });have J:(s.heap.push L).get? s.heap.objs.size=some L:=hY _ U;refine (show wpAny _ A.in1 (Builtin.List.listExtendWith (.ref s.heap.objs.size) (.ref d) (.ref s.heap.objs.size)) _ _ { s with heap:=s.heap.push L } from ?_);unfold Builtin.List.listExtendWith;refine ab (wpAny_typeOf O ?_);rw [if_neg (by rw [show Builtin.List.listSameRef (.ref s.heap.objs.size) (.ref d)=false by simp [Builtin.List.listSameRef,h]];decide)];refine ab (wpAny_pyIter_dict T m (ab (kD ?_)));unfold Builtin.List.listLengthHint
 let I:Addr:=(s.heap.push L).objs.size
 let a:Heap:=(s.heap.push L).push { cls:=.type "dict_keyiterator",data:=.fields #[.ref d,.int 0 0,.int kvs.length 0,.int ep 0] }
 have y:a.DictAt knd d kvs ep:=m.push _;have j:({ s with heap:=a }:Shared).TypeIs (.ref d) "dict":=y.dictOf.typeIs (s:={ s with heap:=a });refine ab (wpAny_specialOf (name:=Str.ofString "__len__") j F.slot_dict_len.lookup ?_);generalize l:("dict.__len__":String)=B
 (fail_if_success (clear l B))
 wp_delta
 rw [show splitId B=some ("dict","__len__") from by subst l;decide+kernel];subst l;refine ab (wpAny_isInstance (b:=true) j (by rw [isSubtype_type];kernel_rfl) ?_);rw [if_neg (by decide)];refine (λ(H:wpAny (model prog w) A.in1 (ite _ _ _) _ _ _)=>H) ?_;rw [if_pos (by decide+kernel)];refine ab (wpAny_typeOf j (aG ?_));rw [if_pos (by decide+kernel)]
 let S:Addr:=s.heap.objs.size
 have r:S≠I:=eF (show s.heap.objs.size<(s.heap.push L).objs.size by rw [AA];exact qj _);have V:d≠I:=eF (show d<(s.heap.push L).objs.size by rw [AA];exact lS t);have p:a.get? S=some L:=df _ J;have q:=yc (Obj.mapSeq (·.push Value.none)) p U;have N:=yc (Obj.mapSeq (·.pop)) q U;have n:∀b o,b≠S->a.get? b=some o->((a.update S (Obj.mapSeq (·.push Value.none))).update S (Obj.mapSeq (·.pop))).get? b=some o:=
  λb o c e=>(rq _ _ (aQ c)).trans ((rq _ _ (aQ c)).trans e)
 have W:=(Walks.dictKeys (knd:=knd) (prog:=prog) (w:=w) (A:=A.in1) X I d V kvs ep).toS;have Y:a.IsKeyIter I d 0 kvs.length ep:=⟨_,hY _ U,U,U⟩;refine ab (oC (ab (show wpAny _ A.in1 (updateSeq S (·.push .none)>>=λ_=>updateSeq S (·.pop)) _ _ { s with heap:=a } from ab (wpAny_updateSeq (s:={ s with heap:=a }) p U (wpAny_updateSeq (s:={ s with heap:=a.update S (Obj.mapSeq (·.push Value.none)) }) q U ?_)))));refine aG ⟨plainId_quiet F.plain_extend_loop _,codeAny_extend_loopS W Z S (λz=>(eG.mp z).elim r λz=>h (dF.mp z)) _ kvs.length 0 _ _ _ U (cN _)
  ⟨Y.at λo e=>n _ _ (aQ r) e,y.at' λo e=>n _ _ (aQ h) e⟩ N (ItemsOf.nil _) λs' g x2 f M R=>?_⟩
 refine (show wpAny _ A (load S>>=_) _ _ s' from ab (wpAny_load M (aG (G s' g (λb o e=>?_) f.gens f.drawn f.os f.toks R))));have c:b<s.heap.objs.size:=dz e;refine f.heap b o (λz=>?_) (n b o (eF c) (df _ (df _ e)));rcases eG.mp z with z | z
 ·exact eF c z
 ·have z:=dF.mp z;have D:I=s.heap.objs.size+1:=AA _ _;exact iD _ (gn c (by rw [z,D];exact lB _))
end
theorem JR (vs:List Value):(vs.toArray.zip vs.toArray).toList=vs.map λv=>(v,v):=by
 rw [Array.toList_zip];show vs.zip vs=_
 induction vs with
 | nil=>rfl
 | cons v r a=>simp [a]
section
variable [SK]
theorem Va (f:X.Perm (vs.toArray.zip vs.toArray)) (l:dS X 0 (vs.toArray.zip vs.toArray).size):
 (X.map (·.2)).toList.Perm vs/\(X.map (·.2)).toList.Pairwise λu v=>N (u,u)<=N (v,v):=by
 have a:=Array.perm_iff_toList_perm.mp f;rw [JR] at a;have m:X.size=(vs.toArray.zip vs.toArray).size:=f.size_eq;have b:∀p∈X.toList,p=(p.2,p.2):=λp k=>by obtain ⟨v,_,rfl⟩:=cn.mp (a.mem_iff.mp k);rfl
 rw [Array.toList_map];refine ⟨by simpa [List.map_map,Function.comp_def] using a.map (·.2),?_⟩;rw [ro,yd];intro i j c d h;have g:i<X.size:=by simpa using c
 have e:j<X.size:=by simpa using d
 have:=l i j (cN _) (aP h) (m▸e);rw [oY (n7 X i g),oY (n7 X j e)] at this;rw [<-b _ (rr c),<-b _ (rr d)];exact this
theorem RZ {P:PySem.Fin->Shared->Prop} (m:s.heap.get? a=some (seqObj "list" vs.toArray n)) (r:vs.length<=sizeLine)
 (J:2<=vs.length->∀(h':Heap) (Q:SortKind->Shared->Prop),(∀b o,b≠a->s.heap.get? b=some o->h'.get? b=some o)->Q SK.kind { s with heap:=h' }->
  wpAny (model prog w) A (keyKind' vs.toArray) Q E { s with heap:=h' })
 (L:∀h':Heap,(∀b o,b≠a->s.heap.get? b=some o->h'.get? b=some o)->e_ prog w A E { s with heap:=h' })
 (M:∀v∈vs,dA (v,v))
 (h:∀t:Array Value,t.toList.Perm vs->(t.toList.Pairwise λu v=>N (u,u)<=N (v,v))->P (.done (.ret .none)) { s with heap:=sortedHeap s.heap a vs t }):
 wpAny (model prog w) A (Builtin.«list.sort» ⟨[.ref a],[]⟩) P E s:=by
 rw [list_sort_plain];obtain ⟨g,y⟩:∃g,(s.heap.update a (Obj.mapSeq λ_=> #[])).get? a=some (seqObj "list" #[] g):=⟨_,get?_update_seq m (λ_=> #[])⟩
 let d:Heap:=((s.heap.update a (Obj.mapSeq λ_=> #[])).push (seqObj "tuple" vs.toArray 0)).push (seqObj "list" #[] 0)
 have B:∀b o,b≠a->s.heap.get? b=some o->d.get? b=some o:=λb o H e=>
  df _ (df _ ((rq _ _ (aQ H)).trans e))
 have z:d.get? a=some (seqObj "list" #[] g):=df _ (df _ y);have O:vs.toArray.size=vs.length:=by simp
 refine ab (listItems_at m U (ab (listUpdate_at m U (ab (seqEpoch_at y U (ab (wpAny_newTuple (ab (wpAny_newList (kD ?_) (cN _))) r)))) (by rw [O];exact r) (cN _))));have x:∀c:SortSt,(arrOf c).Perm (vs.toArray.zip vs.toArray)->failedOf c=none->dS (arrOf c) 0 (vs.toArray.zip vs.toArray).size->
  wpAny (model prog w) A (do
   let T:=(<-seqEpoch a) !=g
   Builtin.List.listUpdate (.ref a) λ_=>(arrOf c).map (·.2)
   if let some e:=failedOf c then rule "list.sort.comparison-raised";throw e
   if T then rule "list.sort.modified";raiseError "ValueError" "list modified during sort"
   ret .none) P E { s with heap:=d }:=by
  intro c f l q;obtain ⟨C,S⟩:=Va f q;refine ab (seqEpoch_at z U (ab (listUpdate_at z U ?_ (cN _) ?_)))
  ·rw [l];simp only [bne_self_eq_false,Bool.false_eq_true,if_false];exact aG (h _ C S)
  ·have:=C.length_eq;rw [oH] at this;exact Nat.le_succ_of_le (this▸r)
 refine (show wpAny (model prog w) A _ P E { s with heap:=d } from ?_)
 by_cases k:vs.toArray.size<2
 ·dsimp only;rw [if_pos k,if_pos k];refine ab (aG ?_);rw [StateT.run_pure];refine ab (aG (x (SortSt.mk' general' (vs.toArray.zip vs.toArray) #[] 7 none) (Array.Perm.refl _) U ?_));intro i j _ V I;obtain rfl:i=j:=by simp at I;lia
  exact fO _
 ·dsimp only;rw [if_neg k,if_neg k];refine ab (J (by lia) d _ B ?_);have:=L d B;refine ab (hV (OU (s:={ s with heap:=d }) (a₀:=vs.toArray.zip vs.toArray) (st:=SortSt.mk' SK.kind (vs.toArray.zip vs.toArray) #[] 7 none)
   (Q:=λ_ c=>(arrOf c).Perm (vs.toArray.zip vs.toArray)/\failedOf c=none/\dS (arrOf c) 0 (vs.toArray.zip vs.toArray).size)
   (λp f=>?_) ⟨Array.Perm.refl _,U,U⟩ U (by simp;lia) λc D F G=>⟨D,F,G⟩) ?_ λ_ _ e=>e)
  ·rw [JR] at f;obtain ⟨v,R,rfl⟩:=cn.mp f;exact M v R
  ·rintro ⟨⟨⟩,c⟩ W ⟨rfl,f,l,q⟩;exact x c f l q
end
section
theorem Lv {x:Value} {Q:Value->Shared->Prop} {R:Shared->List Value->Prop}
 (b:wpAny (model prog w) A.in1 (collect x) (λvs s1=>R s1 vs) E s)
 (h:∀s1 vs,R s1 vs->wpAny (model prog w) A.in1 (newList vs>>=λl=>holding [l] (call (.builtin "list.sort") [l])>>=λ_=>ret l) (λa s'=>∃r,a=.done (.ret r)/\Q r s') E s1):
 wpAny (model prog w) A (call (.builtin "sorted") [x]) Q E s:=by
 refine Calls.call_function_entry kind_sorted plain_sorted entry_sorted (args_sorted1 _) ?_;unfold Builtin.«sorted»;refine ab (m:=checkCount "sorted" 1 1 _) (aG ?_);refine ab (hV b (λvs s1 c=>h s1 vs c) λ_ _ e=>e)
end
@[reducible] noncomputable def wB:SK:=⟨λp=>numOf p.1,λp=>∃n t,p.1=.int n t,oneType'⟩
theorem ltI: @e_ wB prog w A E s:=by
 refine @e_.mk wB prog w A E s ?_;rintro f p q Q e ⟨n,t,a⟩ ⟨n',g,b⟩ h;have c: @N wB p=n:=by show numOf p.1=n;rw [a];rfl
 have d: @N wB q=n':=by show numOf q.1=n';rw [b];rfl
 rw [c,d] at h;rw [lt'_eq,a,b];refine aO (n6 ?_);rw [show kindOf f=oneType' from e,keyLt'_oneType];exact aO (rj (t_ (oneLt_int ⟨U,aM h⟩)))
theorem TL (a:IntsAre vs ns) (b:2<=vs.length) (h:Q oneType' s):wpAny (model prog w) A (keyKind' vs.toArray) Q E s:=by
 match vs,b,a with
 | o::c::r,_,a=>rw [keyKind_ints a];exact aG h
section
variable [sk:SK]
theorem JJ {vs:List Value} {Q:Value->Shared->Prop} (i:vs.length<=sizeLine)
 (n:2<=vs.length->∀(A:Around) (E:Value->Shared->Prop) (h':Heap) (Q:SortKind->Shared->Prop),(∀b o,s.heap.get? b=some o->h'.get? b=some o)->Q SK.kind { s with heap:=h' }->
  wpAny (model prog w) A (keyKind' vs.toArray) Q E { s with heap:=h' })
 (p:∀(A:Around) (E:Value->Shared->Prop) (h':Heap),(∀b o,s.heap.get? b=some o->h'.get? b=some o)->e_ prog w A E { s with heap:=h' })
 (q:∀v∈vs,dA (v,v))
 (h:∀(c:Array Value) (h':Heap),c.toList.Perm vs->(c.toList.Pairwise λu v=>N (u,u)<=N (v,v))->(∀b o,s.heap.get? b=some o->h'.get? b=some o)->
  (∃e,h'.get? s.heap.objs.size=some (seqObj "list" c e))->Q (.ref s.heap.objs.size) { s with heap:=h' }):
 wpAny (model prog w) A (newList vs>>=λl=>holding [l] (call (.builtin "list.sort") [l])>>=λ_=>ret l) (λk s'=>∃r,k=.done (.ret r)/\Q r s') E s:=by
 let d:Heap:=s.heap.push (seqObj "list" vs.toArray 0)
 have f:d.get? s.heap.objs.size=some (seqObj "list" vs.toArray 0):=hY _ U;have j:∀(h':Heap),(∀b o,b≠s.heap.objs.size->d.get? b=some o->h'.get? b=some o)->∀b o,s.heap.get? b=some o->h'.get? b=some o:=λh' a b o e=>
  a b o (eF (dz e)) (df _ e)
 refine ab (wpAny_newList ?_ i);refine ab (kD (rk (s:={ s with heap:=d }) slot_list_sort ⟨_,f,U⟩ entry_list_sort (RZ f i (λm h' Q a t=>n m _ _ h' Q (j h' a) t) (λh' a=>p _ _ h' (j h' a)) q λc x y=>⟨_,U,?_⟩) (args_list_sort _)));refine aG ⟨_,U,h c _ x y (λb o e=>?_) (sortedHeap_at f)⟩;have g:b<s.heap.objs.size:=dz e;rw [sortedHeap_old (eF g) (show b<d.objs.size by show b<(s.heap.push _).objs.size;rw [AA];exact lS g)];exact df _ e
end
end TS
namespace L2
open PySem PySem.Spec PyProof.Rows TS
theorem IV:∀{us:List Value} {ns:List Int},us.length=ns.length->(∀(j:Nat) v i,us[j]?=some v->ns[j]?=some i->∃t,v=.int i t)->IntsAre us ns
 | [],[],_,_=>.nil
 | u::us,n::ns,a,h=>by obtain ⟨t,rfl⟩:=h 0 u n U U;exact .cons _ _ (IV (by simpa using a) λj v i b c=>h (j+1) v i (by simpa using b) (by simpa using c))
 | [],_::_,a,_=>by simp at a
 | _::_,[],a,_=>by simp at a
theorem zC (h:IntsAre us ns):us.map numOf=ns/\∀u∈us,∃n t,u=.int n t:=by
 induction h with
 | nil=>exact ⟨U,λ_ h=>nomatch h⟩
 | cons n t h d=>
  obtain ⟨a,b⟩:=d;refine ⟨by rw [dt,a];rfl,λu c=>?_⟩;rcases eG.mp c with rfl | c
  ·exact ⟨n,t,U⟩
  ·exact b u c
theorem Lc:∀{us:List Value},(∀u∈us,∃n t,u=.int n t)->ba ((us.map numOf).map V.int) us
 | [],_=>.nil
 | u::us,h=>by obtain ⟨n,t,rfl⟩:=h u dB;exact .cons ⟨t,U⟩ (Lc λv a=>h v (eI _ a))
theorem Inv.at_ (I:Inv X pins σ H s) (k:∀b o,s.heap.get? b=some o->s1.heap.get? b=some o) (c:s1.gens=s.gens) (a:s1.drawn=s.drawn) (d:s1.os=s.os):Inv X pins σ H s1:=by
 have e:s1={ s with heap:=s1.heap,toks:=s1.toks }:=by obtain ⟨h,g,f,j,i⟩:=s1;cases c;cases a;cases d;rfl
 rw [e];exact I.kept (t':=s1.toks) k
section
theorem RO (hc:X.calm=true):lZ X (.builtin "sorted") (λxs H Q=>∃(p:Addr) (kvs:List (Key×V)) (ns:List Int),xs=[.ref p]/\H p=some (.dK kvs)/\kvs.map (·.1)=ns.map Sum.inl/\
 ∀(l:Addr) (y:List Int),H l=none->y.Perm ns->y.Pairwise (·<=·)->Q (.ref l) (upd H l (.lst (y.map V.int)))):=by
 intro pins s σ H xs f Q I x2 h;obtain ⟨p,kvs,ns,rfl,hp,F,x1⟩:=h;obtain ⟨u,rfl,ru⟩:=rL x2;cases ru;obtain ⟨L,hs,vs,m,Z⟩:=(show dd X.prog X.w H s.heap p (.dK kvs) from I.a7 p _ hp);obtain ⟨ep,o5⟩:=Z.dictAt;have Ya:kvs.length=vs.length:=i4 m;have Nt:kvs.length=ns.length:=by have:=congrArg List.length F;simpa using this
 refine Lv (R:=λa f=>Inv X pins σ H a/\(∀b o,s.heap.get? b=some o->a.heap.get? b=some o)/\IntsAre f ns) (RQ (I.ok.hd hc) hs o5 (vY Ya L) λa acc k hg hd ho _ D=>?_) ?_
 ·refine ⟨I.at_ k hg hd ho,k,IV (by rw [oH,D.1];lia) λj v i N O=>?_⟩;obtain ⟨key,x3,T,W⟩:=D.2 j v (by simpa using N);have d:(kvs.map (·.1))[j]?=some (Sum.inl i):=by rw [F,dC,O];rfl
  rw [dC] at d
  cases C:kvs[j]? with
  | none=>rw [C] at d;cases d
  | some kv=>
   rw [C] at d;obtain ⟨x4,J,B,_⟩:=K2 m C;rw [T] at J;cases J;have e:kv.1=Sum.inl i:=dG d;rw [e] at B;subst B;rcases oz (show rN (Sum.inl i) v=true from W) with ⟨i',t,r,rfl⟩ | ⟨x',t,r,rfl⟩
   ·cases r;exact ⟨t,U⟩
   ·cases r
 ·rintro a f ⟨z,_,c⟩;have Nf:f.length=ns.length:=by rw [<-(zC c).1];simp
  refine JJ (sk:=wB) (s:=a) (vs:=f) (by lia) (λY A E g Q _ hq=>TL (s:={ a with heap:=g }) c Y hq) (λA E g _=>ltI) (λv m=>?_) λq g M o2 k2 x=>?_
  ·obtain ⟨n,t,e⟩:=(zC c).2 v m;exact ⟨n,t,e⟩
  ·obtain ⟨e,x⟩:=x;have dr:∀u∈q.toList,∃n t,u=Value.int n t:=λu hu=>(zC c).2 u (M.mem_iff.mp hu);have S:H a.heap.objs.size=none:=z.a7.fresh (aj _);have G:(q.toList.map numOf).Perm ns:=by rw [<-(zC c).1];exact M.map numOf
   refine ⟨.ref a.heap.objs.size,_,z.laid (t':=a.toks) k2 (aj _) (show dd X.prog X.w _ g _ (.lst ((q.toList.map numOf).map V.int)) from ⟨?_,q.toList,e,Lc dr,by rw [x]⟩),U,x1 _ _ S G ?_⟩
   ·rw [ax,G.length_eq];exact vY Nt L
   ·rw [ro];exact o2
end
def qP (a b m:Int):HO:=.tup [.int a,.int b,.int m]
def vc (H:Hp):Value->Int
 | .ref q=>match H q with
  | some (.tup [.int a,.int b,_])=>a*64+b
  | _=>0
 | _=>0
@[reducible] noncomputable def qR (H:Hp) (g:Int->Int->Int):SK:=
 ⟨λp=>vc H p.1,λp=>∃q a b,p.1=.ref q/\H q=some (qP a b (g a b))/\0<=a/\a<64/\0<=b/\b<64,tuples' true⟩
theorem yM (h:H q=some (qP a b m)):vc H (.ref q)=a*64+b:=by show (match H q with | some (.tup [.int a,.int b,_])=>a*64+b | _=>0)=_;rw [h];rfl
section
def sN (H:Hp) (h:Heap):Prop:=∀q a b m,H q=some (qP a b m)->∃c d e o n,h.get? q=some o/\o.cls=.type "tuple"/\o.data=.seq #[.int a c,.int b d,.int m e] n
theorem sN.keep (x:sN H h) (k:∀b o,h.get? b=some o->h'.get? b=some o):sN H h':=λq a b m e=>by obtain ⟨f,g,i,o,n,c,d⟩:=x q a b m e;exact ⟨f,g,i,o,n,k _ _ c,d⟩
theorem OO (ok:ei P w H h):sN H h:=λq a b m e=>by obtain ⟨_,l,c,o,d,f,n,g⟩:=(show dd P w H h q (qP a b m) from ok q _ e);rcases c with _ | ⟨⟨i,rfl⟩,c⟩;rcases c with _ | ⟨⟨j,rfl⟩,c⟩;rcases c with _ | ⟨⟨k,rfl⟩,c⟩;cases c;exact ⟨i,j,k,o,n,d,f,g⟩
theorem Xd (j:sN H s.heap): @e_ (qR H g) prog w A E s:=by
 refine @e_.mk (qR H g) prog w A E s ?_;rintro C p q Q t ⟨x,a,b,f,k,_,_,R,T⟩ ⟨y,a',b',i,l,M,O,S,V⟩ h;have m: @N (qR H g) p=a*64+b:=by show vc H p.1=_;rw [f,yM k]
 have o: @N (qR H g) q=a'*64+b':=by show vc H q.1=_;rw [i,yM l]
 rw [m,o] at h;obtain ⟨D,F,G,X,n,u,_,v⟩:=j x _ _ _ k;obtain ⟨I,J,L,Y,W,z,_,B⟩:=j y _ _ _ l;rw [lt'_eq,f,i];refine aO (n6 ?_);rw [show kindOf C=tuples' true from t];refine aO (rj (t_ (PySem.W.kat_lt u v z B ?_)));show PySem.W.KatLex prog w A true (decide (3<3)) _ [(.int a D,.int a' I),(.int b F,.int b' J),(.int (g a b) G,.int (g a' b') L)] 0 s;refine PySem.W.kat_cons (xS (PySem.W.kat_go (λe=>PySem.W.kat_yes ?_) λe=>PySem.W.kat_no ?_))
 ·have d:a=a':=by simpa using e
  subst d;refine PySem.W.kat_cons (xS (PySem.W.kat_go (λe=>PySem.W.kat_yes ?_) λe=>PySem.W.kat_no ?_))
  ·have r:b=b':=by simpa using e
   subst r;refine PySem.W.kat_cons (xS (PySem.W.kat_go (λ_=>PySem.W.kat_yes (PySem.W.kat_nil ⟨U,aM ?_⟩)) λe=>absurd e (by simp)));have:decide (a*64+b<a*64+b)=decide (3<3):=by simp
   rw [<-this];exact h
  ·have:decide (a*64+b<a*64+b')=decide (b<b'):=by
    by_cases c:b<b'
    ·rw [ew c,ew (by lia)]
    ·rw [cF c,cF (by lia)]
   rw [this] at h;exact PySem.W.kat_one _ _ (lt_int (show _ from ⟨U,aM h⟩))
 ·have d:a≠a':=by simpa using e
  have:decide (a*64+b<a'*64+b')=decide (a<a'):=by
   by_cases c:a<a'
   ·rw [ew c,ew (by lia)]
   ·rw [cF c,cF (by lia)]
  rw [this] at h;exact oneLt_int ⟨U,aM h⟩
theorem TM (C:sN H s.heap) {vs:List Value} {Q:SortKind->Shared->Prop} (d:∀v∈vs,@dA (qR H g) (v,v)) (G:2<=vs.length) (h:Q (tuples' true) s):wpAny (model prog w) A (keyKind' vs.toArray) Q E s:=by
 have F:∀l:List Value,(∀v∈l,@dA (qR H g) (v,v))->∃c,PySem.W.KatTups s.heap l c/\c.length=l.length/\∀f∈c,∃n t,f=Value.int n t:=by
  intro l
  induction l with
  | nil=>exact λ_=>⟨[],PySem.W.KatTups.nil,U,λ_ h=>nomatch h⟩
  | cons v r D=>
   intro m;obtain ⟨c,j,p,k⟩:=D λv d=>m v (eI _ d);obtain ⟨q,a,b,e,B,_⟩:=m v dB;obtain rfl:v=.ref q:=e;obtain ⟨u,I,J,o,n,x,y,z⟩:=C q _ _ _ B;refine ⟨.int a u::c,PySem.W.KatTups.cons x y z U j,by simp [p],λf i=>?_⟩;rcases eG.mp i with rfl | i
   ·exact ⟨a,u,U⟩
   ·exact k f i
 obtain ⟨c,j,p,k⟩:=F vs d;exact PySem.W.kat_kind (T:=.type "int") j (by lia) (λv d=>by obtain ⟨n,t,rfl⟩:=k v d;exact PySem.W.Looks.of_pure U) (by decide) h
end
section
theorem OW {a:List Addr} {us:List Value} (h:ba (a.map V.ref) us):us=a.map Value.ref:=by
 induction a generalizing us with
 | nil=>cases h;rfl
 | cons p a b=>
  cases h with
  | cons r t=>
   cases r;rw [dt,b t]
theorem Ld:∀(a:List Addr),ba (a.map V.ref) (a.map Value.ref)
 | []=>.nil
 | p::a=>.cons U (Ld a)
theorem RP:lZ X (.builtin "sorted") (λxs H Q=>∃(p:Addr) (ps:List Addr) (g:Int->Int->Int),xs=[.ref p]/\H p=some (.lst (ps.map V.ref))/\
 (∀q∈ps,∃a b,H q=some (qP a b (g a b))/\0<=a/\a<64/\0<=b/\b<64)/\
 ∀(l:Addr) (c:List Addr),H l=none->c.Perm ps->(c.Pairwise λx y=>vc H (.ref x)<=vc H (.ref y))->Q (.ref l) (upd H l (.lst (c.map V.ref)))):=by
 intro pins s σ H xs u Q I r h;obtain ⟨p,ps,g,rfl,S,T,q⟩:=h;obtain ⟨x3,rfl,ru⟩:=rL r;cases ru;obtain ⟨i,its,x1,rv,J⟩:=(show dd X.prog X.w H s.heap p (.lst (ps.map V.ref)) from I.a7 p _ S);rw [ax] at i;obtain rfl:=OW rv;refine Lv (R:=λs1 u=>Inv X pins σ H s1/\u=ps.map Value.ref) (collect_list (vs:=ps.map Value.ref) ⟨_,J,U,x1,U⟩ ⟨I.at_ (s1:={ s with heap:=_ }) (λb x2 e=>?_) U U U,U⟩ (by simpa using i)) ?_
 ·have O:b<s.heap.objs.size:=dz e;rw [Heap.get?_update_ne _ _ _ _ (eF O)];exact df _ e
 ·rintro s1 u ⟨j,rfl⟩;have F:sN H s1.heap:=OO j.a7;have B:∀v∈ps.map Value.ref,@dA (qR H g) (v,v):=λv f=>by
   obtain ⟨x,Y,rfl⟩:=cn.mp f;obtain ⟨a,b,N,k⟩:=T x Y;exact ⟨x,a,b,U,N,k⟩
  refine JJ (sk:=qR H g) (s:=s1) (by simpa using i) (λk A E d Q n W=>TM (s:={ s1 with heap:=d }) (F.keep n) B k W) (λA E d n=>Xd (s:={ s1 with heap:=d }) (F.keep n)) B λG d o t k2 m=>?_;obtain ⟨e,m⟩:=m;obtain ⟨c,D⟩:∃c:List Addr,G.toList=c.map Value.ref:=by
   have:∀l:List Value,(∀v∈l,v∈ps.map Value.ref)->∃c:List Addr,l=c.map Value.ref:=by
    intro l
    induction l with
    | nil=>exact λ_=>⟨[],U⟩
    | cons v r Z=>
     intro z;obtain ⟨c,e⟩:=Z λv f=>z v (eI _ f);obtain ⟨x,_,L⟩:=cn.mp (z v dB);exact ⟨x::c,by rw [dt,e,L]⟩
   exact this _ λv f=>o.mem_iff.mp f
  rw [D] at o t;have Yi:Function.Injective Value.ref:=λa b e=>by cases e;rfl
  have C:c.Perm ps:=by have:=o.map (λv:Value=>match v with | .ref a=>a | _=>0);simpa [List.map_map,Function.comp_def] using this
  have M:H s1.heap.objs.size=none:=j.a7.fresh (aj _);refine ⟨.ref s1.heap.objs.size,_,j.laid (t':=s1.toks) k2 (aj _) (show dd X.prog X.w _ d _ (.lst (c.map V.ref)) from ⟨?_,G.toList,e,by rw [D];exact Ld c,by rw [m]⟩),U,q _ _ M C ?_⟩
  ·rw [ax,C.length_eq];exact i
  ·rw [ro] at t;exact t
end
open PySem PySem.Spec PyProof.Rows
def T':V->Option Int->Option Int->Hp->VK->Prop:=λx d c H Q=>∃a b,x=.ref a/\H a=some (.tup b)/\
 ¬(b3 b.length 0 d=0/\b3 b.length b.length c=b.length)/\∀p,H p=none->Q (.ref p) (upd H p (.tup (ie b d c)))
theorem OY:yk X T':=by intro i s r H x v n o g d m Q I l f j k h;obtain ⟨a,p,e,b,c,q⟩:=h;exact vE i s r H x v n o g d m Q I l f j k ⟨a,p,e,bU.of b,c,q⟩
end L2
namespace Y0
open PySem L2
seal L2.PE L2.PA L2.PT L2.PS L2.eZ L2.PG L2.kG L2.PI L2.PO
seal L2.kT L2.gQ L2.gU L2.eL L2.gu L2.gv L2.gT L2.gS L2.dv Y0.aI
abbrev rA:=Nat×Nat×Int
def gr (H:Hp) (q:Addr) (x:rA):Prop:=H q=some (qP x.1 x.2.1 x.2.2)
theorem gr.same (h:gr H q x) (s:ay H H'):gr H' q x:=s _ _ h
def qt (H:Hp) (q:Addr):rA:=match H q with
 | some (.tup [.int a,.int b,.int v])=>(a.toNat,b.toNat,v)
 | _=>(0,0,0)
theorem HX (h:gr H q x):qt H q=x:=by unfold qt;rw [h];obtain ⟨a,b,v⟩:=x;rfl
theorem PK {a:List Addr} {L:List rA} (h:Paired (gr H) a L):L=a.map (qt H):=by
 induction h with
 | nil=>rfl
 | cons r t b=>rw [dt,<-b,HX r]
theorem I2:∀{a:List Addr},(∀q∈a,gr H q (qt H q))->Paired (gr H) a (a.map (qt H))
 | [],_=>.nil
 | q::_,h=>.cons (h q dB) (I2 λr b=>h r (eI _ b))
theorem R5 {l:List α} {m:List β} (k:Paired F l m):∀x∈l,∃y∈m,F x y:=by
 induction k with
 | nil=>intro x h;cases h
 | cons r t b=>
  intro x h;rcases eG.mp h with rfl | h
  ·exact ⟨_,dB,r⟩
  ·obtain ⟨y,a,c⟩:=b x h;exact ⟨y,eI _ a,c⟩
def iY (st:MU.St) (t:Bool) (k:MU.Key):Option rA:=if k.1=t then (MU.val st k).map λv=>(k.2.1,k.2.2,v) else none
structure Aa (st:MU.St) (t:Bool) (L:List rA):Prop where
 up:L.Pairwise λx y=>((x.1:Int)*64+x.2.1)<=((y.1:Int)*64+y.2.1)
 has:∀a b v,(a,b,v)∈L↔MU.val st (t,a,b)=some v
 once:(L.map λx=>(x.1,x.2.1)).Nodup
def HC (C:Addr):Sp:=λg H Q _=>∃(p e f d:Addr) (n:Nat) (F:MU.c9) (b:MU.St) (t:Bool),g=[.ref p,.str (ju t)]/\eB C H p e f d n F b/\bz n b/\n<=8/\b.rows.length<=16500000/\
 ∀l a c L,H l=none->ay H a->a l=some (.lst (c.map V.ref))->Paired (gr a) c L->Aa b t L->Q (.ref l) a
theorem V4 {kvs:List (List Key×V)} (h:∀a∈kvs,∃k:MU.Key,a.1=bE k):∃b:List MU.Key,kvs.map (·.1)=b.map bE:=by
 induction kvs with
 | nil=>exact ⟨[],U⟩
 | cons a r f=>
  obtain ⟨b,e⟩:=f λa d=>h a (eI _ d);obtain ⟨k,c⟩:=h a dB;exact ⟨k::b,by rw [dt,dt,e,c]⟩
theorem Sk:ie (jb x) (some 1) none=[V.int (x.a:Int),V.int (x.b:Int),V.int x.v]:=by unfold ie jb;rw [cZ,show (some (1:Int))=some ((1:Nat):Int) from rfl,cb];rfl
theorem UY:¬(b3 (jb x).length 0 (some 1)=0/\b3 (jb x).length (jb x).length none=(jb x).length):=λz=>by have h:=z.1;rw [show (some (1:Int))=some ((1:Nat):Int) from rfl,cb] at h;have e:(jb x).length=4:=U;rw [e] at h;cases h
theorem LA:∀{l:List α},(l.map f).Nodup->l.Nodup
 | [],_=>uc
 | a::l,h=>by rw [dt,List.nodup_cons] at h;exact List.nodup_cons.mpr ⟨λz=>h.1 (List.mem_map_of_mem z),LA h.2⟩
theorem TK:decide (V.str (ju a)=V.str (ju b))=decide (a=b):=decide_eq_decide.mpr ⟨λq=>KQ (V.str.inj q),λq=>by rw [q]⟩
section
theorem Ti:cf Ĕ Ĕ (aT aD):=cH
theorem SJ:gF (aT aD) Ĕ (jF [(".0",.local),("key",.local),("kind",.free),("self",.free)]) ["key","kind","self"] [none,some 1,some 0]:=jH
theorem Sy:(["key","kind","self"]:List Str).Nodup:=by decide+kernel
theorem pY {f C:Addr} {fd:FuncData} (F:gq K "best_drawn" "Closing.best_drawn" aD f fd) (T:lF K mg C) (hS:mg "sorted"=none):au P w K mg base aw 1 f fd Ĕ (HC C):=by
 refine F.cK Ti λ_ x6 _ px H _ x8 x7 hr x3=>?_;obtain ⟨p,be,rl,bd,x9,Fa,d,t,rfl,x1,x2,h8,hlen,x4⟩:=x3;have hu:=jt hr;refine ⟨_,a0 (cm (j4 RP (by rfl) hS PyProof.Rows.boot_sorted (bY (VH (mh U (VJ (fJ (pv 0) U)) SJ (λcl ex s0 H0=>⟨bO 0 Sy,vI (cR fc (aF (pv 0)) (pv 1)),mu OY (aF (dE gd (qD (K:=K) U (pv 2) U) (jT hu (qD (K:=K) U (pv 2) U) (pv 0) (λ_ _=>rfl)))) (mj az) mi⟩)))))),?_⟩;obtain ⟨dx,hp⟩:=x1.ins;obtain ⟨qs,ji,b5⟩:=x1.rows;obtain ⟨kvs,N,wZ,lq⟩:=x1.best;obtain ⟨ks,S⟩:=V4 wZ.2;have Yd:kvs.length=ks.length:=by have:=congrArg List.length S;simpa using this
 refine (aa U (ek hp T.cl T.nE nY ⟨bd,kvs,U,N,λqc o G ft=>?_⟩));rw [S] at qc;have knd:ks.Nodup:=LA qc;have known:∀kk∈ks,∃j x,d.best kk=some j/\ae d j=some x/\x.key=kk:=λkk R=>by
  have:(ed kvs (bE kk)).isSome=true:=by
   rw [<-si];have hm:bE kk∈kvs.map (·.1):=by rw [S];exact List.mem_map_of_mem R
   obtain ⟨kv,n,r⟩:=cn.mp hm;exact List.any_eq_true.mpr ⟨kv,n,by simpa using r⟩
  rw [lq] at this
  cases c:d.best kk with
  | none=>rw [c] at this;cases this
  | some j=>
   obtain ⟨x,n,r⟩:=x2.at_ _ _ c;exact ⟨j,x,U,n,r⟩
 have Ot:bd≠p:=cp N hp nofun;have Zh:bd≠rl:=cp N ji nofun;have OH:G≠bd:=λz=>by rw [z,ak] at ft;cases ft
 have NG:H G=none:=by rwa [aq OH] at ft
 refine Qu (a:=bd) (o:=o) (kvs:=kvs) (λi gK Z=>∃v g L,gK=[v,some (.str (ju t)),some (.ref p)]/\Z G=some (.lst (g.map V.ref))/\Paired (gr Z) g L/\L=(ks.take i).filterMap (iY d t)/\g.length<=i/\Z bd=some (.dY o (.dT kvs))/\∀b x,H b=some x->b≠bd->Z b=some x)
  ⟨none,[],[],U,ak,.nil,U,cN _,by rw [aq (aQ OH),ak],λb x e D=>by rw [aq (bj e NG),aq D];exact e⟩ ?_ ?_ ?_
 ·rintro i gK m _ ⟨v,g,L,rfl,_,_,_,_,e,_⟩;exact e
 ·rintro i kx vx q gK m hi k ⟨v,g,L,rfl,e2,ng,M,tN,J,A⟩;obtain ⟨kk,EM,rfl⟩:∃kk,ks[i]?=some kk/\kx=bE kk:=by
   have:=congrArg (λl=>l[i]?) S;simp only [dC,hi] at this
   cases R:ks[i]? with
   | none=>rw [R] at this;cases this
   | some kk=>rw [R] at this;exact ⟨kk,U,dG this⟩
  have å:i<ks.length:=(eP.mp EM).1;have et:ks.take (i+1)=ks.take i++[kk]:=by rw [hX,EM];rfl
  obtain ⟨Y,a,b⟩:=kk;obtain ⟨j,x,xk,s,X5⟩:=known _ (fg EM);have DL:MU.val d (Y,a,b)=some x.v:=by unfold MU.val;rw [xk];show (ae d j).map _=_;rw [s];rfl
  refine (aa U (aE k U (aa U ⟨U,ct ?_⟩)));refine (show if decide (V.str (ju Y)=V.str (ju t))=true then _ else _ from ?_);rw [TK]
  by_cases ht:Y=t
  ·refine gE ht ?_;obtain ⟨q',kR,pw,pu,g1,_,_,g4,g5,_⟩:=yU b5 s;have o5:gI (qs.map V.ref) (j:Int)=some (.ref q'):=iB (by rw [dC,g1];rfl);have dg:ea m bd (.ref q) (some (.int (j:Int))):=.inr ⟨kvs,_,q,.inr ⟨o,J⟩,U,k,by rw [lq,xk];rfl⟩;have w6:∀{b:Addr} {xs:List V},H b=some (.tup xs)->m b=some (.tup xs):=λe=>A _ _ e (cp e N nofun);refine (aa U (ek (A _ _ hp (aQ Ot)) T.cl T.nR pe (aa U (ek (A _ _ hp (aQ Ot)) T.cl T.nE nY (aa U ⟨bd,_,U,dg,Au (A _ _ ji (aQ Zh)) o5 (aE (w6 g4) U ⟨_,U,pw,_,U,w6 g5,UY,λB W=>?_⟩)⟩)))));rw [Sk];have Nu:=gc X5;have e3:upd m B (.tup [V.int (x.a:Int),V.int (x.b:Int),V.int x.v]) B=some (.tup [V.int (x.a:Int),V.int (x.b:Int),V.int x.v]):=ak;have E:=aK (o:=.tup [V.int (x.a:Int),V.int (x.b:Int),V.int x.v]) W;generalize upd m B (.tup [V.int (x.a:Int),V.int (x.b:Int),V.int x.v])=I at*;have NU:=E _ _ e2;have nD:∀{b:Addr} {o:HO},I b=some o->o≠.lst (g.map V.ref)->upd I G (.lst (g.map V.ref++[.ref B])) b=some o:=λ{b o} e D=>by rw [aq (cp e NU D)];exact e
   have keep:∀b y,gr m b y->gr (upd I G (.lst (g.map V.ref++[.ref B]))) b y:=λb y e=>nD (E _ _ e) nofun;refine ⟨_,NU,?_,_,g++[B],L++[(a,b,x.v)],U,?_,?_,?_,?_,?_,λb' y e D=>?_⟩
   ·rw [ax];have:=wZ.1;exact l9 (show g.length<=16500000 by lia) (by decide)
   ·rw [ak,eH];rfl
   ·refine qM (gf ng keep) (.cons ?_ .nil);have:gr I B (a,b,x.v):=by
     unfold gr qP;rw [e3,Nu.2.1,Nu.2.2]
    exact nD this nofun
   ·rw [et,xV,M];have:iY d t (Y,a,b)=some (a,b,x.v):=by
     unfold iY;rw [if_pos ht,DL];rfl
    simp [this]
   ·rw [ff];show g.length+1<=i+1;exact sj tN
   ·exact nD (E _ _ J) nofun
   ·rw [aq (bj e NG)];exact E _ _ (A _ _ e D)
  ·refine iG ht ⟨_,g,L,U,e2,ng,?_,by exact fQ tN,J,A⟩;rw [et,xV,M];have:iY d t (Y,a,b)=none:=if_neg ht;simp [this]
 ·rintro gK m ⟨v,g,L,rfl,e2,ng,M,tN,J,A⟩;refine ⟨bd,o,_,J,λo x5 z=>?_,?_⟩
  ·have z:H bd=some (.dY o x5):=z;rw [N] at z;cases z
  have E:ay H (upd m bd (.dT kvs)):=λb x e=>by
   by_cases c:b=bd
   ·subst c;rw [N] at e;cases e;exact ak
   ·rw [aq c];exact A _ _ e c
  have nb:∀{b:Addr} {x:HO},m b=some x->x≠.dY o (.dT kvs)->upd m bd (.dT kvs) b=some x:=λ{b x} e D=>by rw [aq (cp e J D)];exact e
  have e3:=nb e2 nofun;have wO:Paired (gr (upd m bd (.dT kvs))) g L:=gf ng λb y e=>nb e nofun;generalize upd m bd (.dT kvs)=I at*;have dr:ks.take kvs.length=ks:=by rw [Yd];exact gC
  rw [dr] at M;have DD:∀a b v,(a,b,v)∈L↔MU.val d (t,a,b)=some v:=λa b v=>by
   rw [M,oD]
   constructor
   ·rintro ⟨kk,R,e⟩;unfold iY at e
    by_cases W:kk.1=t
    ·rw [if_pos W] at e
     cases h:MU.val d kk with
     | none=>rw [h] at e;cases e
     | some v'=>
      rw [h] at e;cases e;obtain ⟨t',Q,b'⟩:=kk;cases W;exact h
    ·rw [if_neg W] at e;cases e
   ·intro h;have c:∃j,d.best (t,a,b)=some j:=by
     unfold MU.val at h
     cases k:d.best (t,a,b) with
     | none=>rw [k] at h;cases h
     | some j=>exact ⟨j,U⟩
    obtain ⟨j,hj⟩:=c;have:(ed kvs (bE (t,a,b))).isSome=true:=by rw [lq,hj];rfl
    rw [<-si] at this;obtain ⟨kv,n,r⟩:=List.any_eq_true.mp this;have hm:bE (t,a,b)∈ks.map bE:=by rw [<-S];exact cn.mpr ⟨kv,n,by simpa using r⟩
    obtain ⟨kk,h3,h4⟩:=cn.mp hm;refine ⟨(t,a,b),IX h4▸h3,?_⟩;unfold iY;rw [if_pos rfl,h];rfl
  have small:∀q∈g,∃x∈L,gr I q x/\x.1<8/\x.2.1<8:=λq k=>by
   obtain ⟨x,s,O⟩:=R5 wO q k;refine ⟨x,s,O,?_⟩;obtain ⟨a,b,v⟩:=x;have h:=(DD a b v).mp s;unfold MU.val at h
   cases k:d.best (t,a,b) with
   | none=>rw [k] at h;cases h
   | some j=>
    obtain ⟨w',n,r⟩:=x2.at_ _ _ k;have h3:=x2.lt _ _ n;have h4:=gc r;exact ⟨by show a<8;have:=h4.2.1;lia,by show b<8;have:=h4.2.2;lia⟩
  refine ⟨G,g,λa b=>(MU.val d (t,a.toNat,b.toNat)).getD 0,U,e3,λq k=>?_,λl X hl wQ DM=>?_⟩
  ·obtain ⟨⟨a,b,v⟩,s,O,ha,c⟩:=small q k;refine ⟨a,b,?_,by exact jJ (a+0),by lia,by exact jJ (b+0),by lia⟩;show I q=some (qP a b ((MU.val d (t,((a:Int)).toNat,((b:Int)).toNat)).getD 0));rw [iU,iU,(DD a b v).mp s];exact O
  ·have EF:H l=none:=by
    cases q:H l with
    | none=>rfl
    | some x=>rw [E _ _ q] at hl;cases hl
   have s4:=aK (o:=.lst (X.map V.ref)) hl;have tQ:∀q∈X,gr I q (qt I q):=λq k=>by obtain ⟨x,_,O,_⟩:=small q (wQ.mem_iff.mp k);rw [HX O];exact O
   have NF:(X.map (qt I)).Perm L:=by rw [PK wO];exact wQ.map _
   refine x4 l _ X (X.map (qt I)) EF (E.trans s4) ak (gf (I2 tQ) λq x e=>e.same s4) ⟨?_,λa b v=>?_,?_⟩
   ·rw [ro];refine FZ (λ{x y} s hy e=>?_) DM;rw [yM (tQ x s),yM (tQ y hy)] at e;exact e
   ·rw [NF.mem_iff];exact DD a b v
   ·refine ((NF.map _).nodup_iff).mpr ?_;rw [M];unfold List.Nodup;rw [ro];refine List.Pairwise.filterMap _ (λa Q o4 b c b' u e=>o4 ?_) knd;unfold iY at c u
    by_cases n:a.1=t
    ·by_cases r:Q.1=t
     ·rw [if_pos n] at c;rw [if_pos r] at u
      cases h:MU.val d a with
      | none=>rw [h] at c;cases c
      | some v1=>
       cases Nd:MU.val d Q with
       | none=>rw [Nd] at u;cases u
       | some v2=>
        rw [h] at c;rw [Nd] at u;cases c;cases u;have e:(a.2.1,a.2.2)=(Q.2.1,Q.2.2):=e;exact Prod.ext (n.trans r.symm) e
     ·rw [if_neg r] at u;cases u
    ·rw [if_neg n] at c;cases c
end
end Y0
namespace L2
open PySem PySem.Spec PyProof.Rows
def yn (b:Int) (n:Nat):It:=⟨λi _=>i<n,λi H x a=>a=H/\x=.int (b-i),λi _=>n<=i⟩
theorem R_ {a:Int} {i n:Nat} (l:i<n) (st:IsRangeIter s.heap it (a-(i:Nat)) ((n:Int)-(i:Nat)) (-1))
 (f:∀(t:Tok) h' k,IsRangeIter h' it (a-((i+1:Nat):Int)) ((n:Int)-((i+1:Nat):Int)) (-1)->(∀b o,b∉[it]->s.heap.get? b=some o->h'.get? b=some o)->Q (some (.int (a-(i:Nat)) t)) { s with heap:=h',toks:=k }):
 wpAny (model prog w) A (pyNext (.ref it)) Q E s:=by
 refine wpAny_pyNext_range_item st (by lia) λh' j h=>?_;refine f _ h' _ ?_ λb o g e=>h.extBut b o (λz=>g (by simp [z])) e;have c:a-((i+1:Nat):Int)=a-(i:Int)+ -1:=by lia
 have d:(n:Int)-((i+1:Nat):Int)=(n:Int)-(i:Int)-1:=by lia
 rw [c,d];exact j
theorem QY {M:Expr} (it:Addr) (y:Int) (n:Nat):sO P w K M (yn y n) [it] it (λi h=>IsRangeIter h it (y-(i:Nat)) ((n:Int)-(i:Nat)) (-1)) where
 mem:=by simp
 obj:=λi h a b c=>by
  have e:b=it:=by simpa using c
  subst e;exact ⟨_,a,λv z=>by
   have N:Data.fields _=Data.cell v:=z;cases N⟩
 keep:=λi h d a k=>k it (by simp) _ a
 item:=by intro X r x q _ i A s D H E I f a u;subst r x q;obtain ⟨g,j,_,l,m,p⟩:=f it (by simp);refine R_ u a λt d C B L=>?_;have F:Inv X A D H { s with heap:=d,toks:=C }:=I.turned (λb o c e=>L b o (by simpa using c) e) g j l m p;exact ⟨_,U,y8 (s:={ s with heap:=d,toks:=C }) (n:="range_iterator") B U U (by decide) ⟨.int (y-i),H,F,⟨t,U⟩,⟨U,U⟩,B,λb c=>(f b c).1⟩⟩
 done:=by intro X r x q J i A s D H E I f a u;subst r x q;obtain ⟨g,j,_,l,m,p⟩:=f it (by simp);exact LB (ux J I) a (by have:n<=i:=u;lia) λd G=>⟨U,I.turned (t':=s.toks) (λb o c e=>G b o c e) g j l m p⟩
 self:=λ_ _ _ _ _ a h=>wpAny_pyIter_rangeiter a h
theorem P8 {f:Int} {n:Nat} {g:TG} {o:TS} {D:qp} {a:St} {H:Hp} (c:Nat->St->Hp->Prop) (q:c 0 a H)
 (t:∀i a H,i<n->c i a H->g (.int (f-i)) a H λk h=>o { D with nx:=c (i+1),ct:=c (i+1),bk:=D.nx } k h) (r:∀a H,c n a H->D.nx a H):
 ∃W:Nat->Nat->St->Hp->Prop,(∃m,W 0 m a H)/\∀i m a H,W i m a H->
  ((yn f n).stop i H/\D.nx a H)\/((yn f n).go i H/\∃N:St->Hp->Prop,(∀j b,N j b->∃l,l<m/\W (i+1) l j b)/\∀x b,(yn f n).sS i H x b->g x a b λk h=>o { D with nx:=N,ct:=N,bk:=D.nx } k h):=by
 refine ⟨λi m a H=>m=n-i/\i<=n/\c i a H,⟨n,by simp,cN _,q⟩,?_⟩;rintro i m a H ⟨rfl,s,p⟩
 by_cases d:i<n
 ·refine .inr ⟨d,c (i+1),λj b u=>⟨n-(i+1),qH d,U,d,u⟩,λx b y=>?_⟩;obtain ⟨e,y⟩:=y;subst e y;exact t i a _ d p
 ·have e:i=n:=qI s d;subst e;exact .inl ⟨aj _,r a H p⟩
theorem Ik (n:Nat):Builtin.Range.rangeSize ((n:Int)-1) (-1) (-1)=(n:Int):=by
 unfold Builtin.Range.rangeSize;rw [if_neg (by decide)]
 by_cases h:0<n
 ·rw [if_pos (by lia)];show ((n:Int)-1- -1-1) / 1+1=n;rw [Int.ediv_one];lia
 ·rw [if_neg (by lia)];lia
theorem Qc {n:Nat} (h:n<=20000000):Builtin.Range.small ((n:Int)-1) (-1) (-1)=true:=by unfold Builtin.Range.small;rw [Ik];simp [Builtin.Range.rangeFitsLong];lia
section
def X2 (b:TA):TI:=λd H R=>b d H λc a=>∃n:Nat,c=[.int ((n:Int)-1),.int (-1),.int (-1)]/\n<=20000000/\R (yn ((n:Int)-1) n) a
theorem QP (y:Gl X "range") (z:X.mg "range"=none) (v:PA X [a,b,c] ta) (B:starEach [a,b,c] X.env=[(false,eval a X.env),(false,eval b X.env),(false,eval c X.env)]:=by rfl) (k:starEach [b,c] X.env=[(false,eval b X.env),(false,eval c X.env)]:=by rfl):
 PI X tg (.Call (.Name "range" p) [a,b,c] [] pos) (X2 ta):=by
 intro l s m H R I h;refine Call_ (uz I y z boot_range (A_ (ar (v pos l s m H _ I h) λJ d G=>?_) (by rw [B,k]) (by rw [k];rfl)));obtain ⟨L,j,u,F,C⟩:=G;obtain ⟨n,e,A,q⟩:=C;subst e
 cases F with
 | cons r f=>
  cases f with
  | cons D f=>
   cases f with
   | cons E f=>
    cases f;obtain ⟨t,rfl⟩:=r;obtain ⟨t',rfl⟩:=D;obtain ⟨g,rfl⟩:=E;refine call_range_3 (by decide) ?_ (Or.inl (PyProof.noPylong_small (by lia)));refine wpAny_pyIter_range (IsRange.new ..) (Qc A) ?_;have i:Inv X l m j { d with heap:=d.heap.push { cls:=.type "range",data:=.fields #[.int ((n:Int)-1) t,.int (-1) t',.int (-1) g] },toks:=d.toks }:=u.kept λb o e=>df _ e;refine ⟨(d.heap.push { cls:=.type "range",data:=.fields #[.int ((n:Int)-1) t,.int (-1) t',.int (-1) g] }).objs.size,[(d.heap.push { cls:=.type "range",data:=.fields #[.int ((n:Int)-1) t,.int (-1) t',.int (-1) g] }).objs.size],_,_,j,U,
     i.kept (t':=d.toks) λb o e=>df _ e,QY _ ((n:Int)-1) n,?_,λb x=>?_,q⟩
    ·show IsRangeIter _ _ (((n:Int)-1)-((0:Nat):Int)) ((n:Int)-((0:Nat):Int)) (-1);rw [show ((n:Int)-1)-((0:Nat):Int)=(n:Int)-1 by lia,show (n:Int)-((0:Nat):Int)=Builtin.Range.rangeSize ((n:Int)-1) (-1) (-1) by rw [Ik];lia];exact hY _ U
    ·have e:b=(d.heap.push { cls:=.type "range",data:=.fields #[.int ((n:Int)-1) t,.int (-1) t',.int (-1) g] }).objs.size:=by simpa using x
     subst e;exact i.nv (aj _) (i.a7.fresh (aj _))
end
end L2
namespace Y0
open PySem L2
seal L2.PE L2.PA L2.PT L2.PS L2.eZ L2.PG L2.kG L2.PI L2.PO
seal L2.kT L2.gQ L2.gU L2.eL L2.gu L2.gv L2.gT L2.gS L2.dv Y0.aI
def Mh (rows:List Row):Prop:=∀(i:Nat) (r:Row),rows[i]?=some r->r.used.length<=2/\∀j∈r.used,j<i
structure CF (rows:List Row) (last:Nat) (ns:List Nat):Prop where
 up:ns.Pairwise (·<·)
 le:∀i∈ns,i<=last
 has:last∈ns
 uses:∀i∈ns,∀r,rows[i]?=some r->∀j∈r.used,j∈ns
 why:∀i∈ns,i=last\/∃k∈ns,∃r,rows[k]?=some r/\i∈r.used
structure NI (rows:List Row) (last:Nat) (P:Nat->Prop) (ks:List Nat):Prop where
 once:ks.Nodup
 le:∀k∈ks,k<=last
 has:last∈ks
 why:∀i∈ks,i=last\/∃k∈ks,∃r,rows[k]?=some r/\i∈r.used
 fin:∀k∈ks,P k->∀r,rows[k]?=some r->∀j∈r.used,j∈ks
def sP (a:List Nat) (j:Nat):List Nat:=if j∈a then a else a++[j]
theorem oh:k∈sP ks j↔k∈ks\/k=j:=by
 unfold sP;split
 ·exact ⟨.inl,λh=>h.elim id λe=>e▸‹j∈ks›⟩
 ·simp
theorem NI.add {P:Nat->Prop} (h:NI rows last P ks) (g:m∈ks) (y:rows[m]?=some r) (t:j∈r.used) (v:j<=m) (p:¬P j):NI rows last P (sP ks j):=by
 refine ⟨?_,λk c=>?_,oh.mpr (.inl h.has),λi d=>?_,λk c l f z A u=>?_⟩
 ·unfold sP;split
  ·exact h.once
  ·rename_i x
   exact List.nodup_append.mpr ⟨h.once,List.nodup_cons.mpr ⟨nofun,uc⟩,λa q b s e=>x (by rw [dF.mp s] at e;rw [<-e];exact q)⟩
 ·rcases oh.mp c with c | rfl
  ·exact h.le k c
  ·have:=h.le m g;exact ph v this
 ·rcases oh.mp d with d | rfl
  ·rcases h.why i d with e | ⟨k,c,f,n,o⟩
   ·exact .inl e
   ·exact .inr ⟨k,oh.mpr (.inl c),f,n,o⟩
  ·exact .inr ⟨m,oh.mpr (.inl g),r,y,t⟩
 ·rcases oh.mp c with c | rfl
  ·exact oh.mpr (.inl (h.fin k c l f z A u))
  ·exact absurd l p
def oP (a:List Nat):List Key:=a.map λi:Nat=>Sum.inl (i:Int)
theorem BJ {ks:List Nat} {j:Nat}:(Sum.inl (j:Int):Key)∈oP ks↔j∈ks:=by
 unfold oP;rw [cn]
 constructor
 ·rintro ⟨k,a,e⟩;have:=xT (ud e);exact this▸a
 ·exact λh=>⟨j,h,U⟩
theorem PF {ks:List Nat} {j:Nat} (h:kvs.map (·.1)=oP ks):(d7 kvs (Sum.inl (j:Int)) v).map (·.1)=oP (sP ks j):=by
 have e:(kvs.any λa=>decide (a.1=Sum.inl (j:Int)))=true↔j∈ks:=by
  rw [List.any_eq_true,<-BJ,<-h,cn]
  constructor
  ·rintro ⟨a,c,d⟩;exact ⟨a,c,by simpa using d⟩
  ·rintro ⟨a,c,d⟩;exact ⟨a,c,by simpa using d⟩
 unfold d7 sP
 by_cases b:j∈ks
 ·rw [if_pos (e.mpr b),if_pos b,<-h,List.map_map];refine vd λa _=>?_;show (if a.1=Sum.inl (j:Int) then (a.1,v) else a).1=a.1;split<;>rfl
 ·rw [if_neg (λz=>b (e.mp z)),if_neg b,eH,h];unfold oP;rw [eH];rfl
theorem Rq {c:List Nat} {j:Nat} (h:kvs.map (·.1)=oP c):(ed kvs (Sum.inl (j:Int))).isSome=decide (j∈c):=by
 rw [<-si]
 by_cases a:j∈c
 ·rw [ew a];have:(Sum.inl (j:Int):Key)∈kvs.map (·.1):=by rw [h];exact BJ.mpr a
  obtain ⟨d,b,e⟩:=cn.mp this;exact List.any_eq_true.mpr ⟨d,b,by simpa using e⟩
 ·rw [cF a];refine List.any_eq_false.mpr λd b=>?_;intro z;have:(Sum.inl (j:Int):Key)∈kvs.map (·.1):=cn.mpr ⟨d,b,by simpa using z⟩;rw [h] at this;exact a (BJ.mp this)
def Hh:Sp:=λg H Q _=>∃(f:Addr) (e:List Addr) (a:List Row) (c:Nat),g=[.ref f,.int (c:Int)]/\H f=some (.lst (e.map V.ref))/\Paired (l_ H) e a/\Mh a/\c<a.length/\a.length<=16500000/\
 ∀l b d,H l=none->ay H b->b l=some (.lst (ee d))->CF a c d->Q (.ref l) b
section
abbrev WO:List Str:=["rows","last","needed","at","number"]
theorem Ah:cf WO ĉ (aT bb):=cH
theorem k_ (F:Fn K mg "numbers_needed" bb ĉ f fd) (hR:mg "range"=none) (hS:mg "sorted"=none):au P w K mg base aw 1 f fd ĉ Hh:=by
 refine F.F.cK Ah λ_ x2 _ x5 H _ x4 x3 hr h=>?_;obtain ⟨rl,T,W,last,rfl,ji,b5,hU,qY,hlen,k⟩:=h;have hu:=jt hr;refine ⟨_,bp (bR 2 Ah.nd (VF (Pw (pv 1) rG VM) U U (by simp) (by simp)))
  (bp (g_ gB U (QP U hR (eM (pv 1) (uu u1 az) (uu u1 az))) (bO 3 Ah.nd)
   (a0 (cS (md (B0 hu (pv 3) (pv 2)) (by with_unfolding_all rfl))
    (a0 (g_ gB U (Bu (aF (dE gd (pv 0) (pv 3)))) (bO 4 Ah.nd)
     (a0 (yZ hu (pv 2) (pv 4) rG U)))) de)))
  (a0 (cm (j4 (RO U) (by rfl) hS PyProof.Rows.boot_sorted (bY (pv 2)))))),?_⟩
 refine λN1 Z d hd=>(aa U ⟨ak,[(Sum.inl (last:Int),.bl true)],U,by simp,Z _ _ ?_⟩);rw [I4];have DQ:T.length=W.length:=i4 b5;have e1:upd H d (.dK (qz [] [(Sum.inl (last:Int),.bl true)])) d=some (.dK [(Sum.inl (last:Int),.bl true)]):=ak;have s1:=aK (o:=.dK (qz [] [(Sum.inl (last:Int),.bl true)])) hd;generalize upd H d (.dK (qz [] [(Sum.inl (last:Int),.bl true)]))=H1 at*;clear Z N1;have ev:[V.int (last:Int),V.int (-1),V.int (-1)]=[V.int (((last+1:Nat):Int)-1),V.int (-1),V.int (-1)]:=by rw [show ((last+1:Nat):Int)-1=(last:Int) by lia]
 refine λN2 c2=>(aa U ⟨_,U,_,U,last+1,ev,by lia,?_⟩);refine P8 (λi A I=>∃X y g ks,A=[some (.ref rl),some (.int (last:Int)),some (.ref d),X,y]/\I d=some (.dK g)/\g.map (·.1)=oP ks/\NI W last (λk=>last<k+i) ks/\∀b o,H b=some o->I b=some o)
  ⟨none,none,_,[last],U,e1,U,⟨List.nodup_cons.mpr ⟨nofun,uc⟩,λk p=>by rw [dF.mp p];exact aj _,dF.mpr U,λk p=>.inl (dF.mp p),λk p hp=>by have:=dF.mp p;lia⟩,λb o e=>s1 _ _ e⟩ ?_ ?_
 ·rintro i A S E ⟨X,y,g,ks,rfl,t,s,c,u⟩;obtain ⟨at_,o5⟩:∃at_,at_+i=last:=⟨last-i,by lia⟩;have ex:V.int ((((last+1:Nat):Int)-1)-(i:Int))=V.int (at_:Int):=by rw [show (((last+1:Nat):Int)-1)-(i:Int)=(at_:Int) by lia]
  rw [ex];have dg:ea S d (.int (at_:Int)) (ed g (Sum.inl (at_:Int))):=ea.k (k:=Sum.inl (at_:Int)) t;refine (aa U (aa U ⟨d,_,U,dg,_,U,?_⟩));rw [Rq s]
  by_cases v:at_∈ks
  ·refine gE v ?_;obtain ⟨q,hq⟩:∃q,T[at_]?=some q:=⟨_,gp (by lia)⟩;obtain ⟨r,J,pw,pu,g4,_,g6⟩:=a4 b5 hq;have EZ:gI (T.map V.ref) (at_:Int)=some (.ref q):=iB (by rw [dC,hq];rfl);refine (aa U (uJ U (u _ _ ji) EZ (aE (u _ _ g4) U ⟨pu,U,⟨_,bU.of (u _ _ g6)⟩,?_⟩)));refine VW (K:=K) (a:=pu) (xs:=r.used.map λi:Nat=>V.int (i:Int)) (λm A I=>∃y g ks,A=[some (.ref rl),some (.int (last:Int)),some (.ref d),some (.int (at_:Int)),y]/\I d=some (.dK g)/\g.map (·.1)=oP ks/\NI W last (λk=>last<k+i) ks/\at_∈ks/\(∀j∈r.used.take m,j∈ks)/\∀b o,H b=some o->I b=some o)
    ⟨y,g,ks,U,t,s,c,v,λj n=>by simp at n,u⟩ ?_ ?_ ?_
   ·rintro m A Y _ ⟨_,_,_,rfl,_,_,_,_,_,O⟩;exact bU.of (O _ _ g6)
   ·rintro m x1 A Y M ⟨y,g,ks,rfl,t,s,c,v,R,O⟩;rw [dC] at M
    cases n:r.used[m]? with
    | none=>rw [n] at M;cases M
    | some j=>
     rw [n] at M;cases M;have xc:=fg n;have Yg:=(hU at_ r J).2 j xc;have Q:g.length<=last+1:=by
      have B:=congrArg List.length s;unfold oP at B;rw [ax,ax] at B;have:=MH.se (last+1) ks c.once λz N=>by have:=c.le z N;exact BY this
      exact uD B this
     refine (aa U (aa U ⟨d,_,U,nH.k (k:=Sum.inl (j:Int)) t (vD (by lia)),?_⟩));refine ⟨_,_,sP ks j,U,ak,PF s,c.add v J xc (aP Yg) (by lia),oh.mpr (.inl v),λj' G=>?_,λb o e=>?_⟩
     ·rw [hX,n] at G;rcases fe.mp G with G | G
      ·exact oh.mpr (.inl (R j' G))
      ·exact oh.mpr (.inr (by simpa using G))
     ·rw [aq (bj e hd)];exact O _ _ e
   ·rintro A Y ⟨y,g,ks,rfl,t,s,c,v,R,O⟩;have dr:r.used.take (r.used.map λi:Nat=>V.int (i:Int)).length=r.used:=by rw [ax];exact gC
    rw [dr] at R;refine ⟨_,_,g,ks,U,t,s,⟨c.once,c.le,c.has,c.why,λk p hp D L j n=>?_⟩,O⟩
    by_cases e:k=at_
    ·subst e;rw [J] at L;cases L;exact R j n
    ·exact c.fin k p (by lia) D L j n
  ·refine iG v ⟨_,_,g,ks,U,t,s,⟨c.once,c.le,c.has,c.why,λk p hp D L j n=>?_⟩,u⟩;exact c.fin k p (by have:k≠at_:=λe=>v (e▸p);lia) D L j n
 ·rintro A S ⟨X,y,g,ks,rfl,t,s,c,u⟩;refine c2 _ _ (aa U ⟨d,g,ks.map λi:Nat=>(i:Int),U,t,by rw [s,List.map_map];rfl,λl x Q wQ DM=>?_⟩);have EF:H l=none:=by
   cases q:H l with
   | none=>rfl
   | some x1=>rw [u _ _ q] at Q;cases Q
  have xo:∀{l:List Int},(∀z∈l,0<=z)->(l.map Int.toNat).map (λi:Nat=>(i:Int))=l:=λ{l} h=>by
   rw [List.map_map]
   conv=>rhs;rw [<-List.map_id l]
   exact vd λz N=>lA (h z N)
  have XX:∀z∈x,0<=z:=λz N=>by obtain ⟨k,_,rfl⟩:=cn.mp (wQ.mem_iff.mp N);exact jJ (k+0)
  have C:(x.map Int.toNat).Perm ks:=by
   have:=wQ.map Int.toNat;rw [List.map_map] at this;have e:ks.map (Int.toNat ∘ λi:Nat=>(i:Int))=ks:=by
    conv=>rhs;rw [<-List.map_id ks]
    exact vd λz _=>iU z
   rw [e] at this;exact this
  have s3:ay H (upd S l (.lst (x.map V.int))):=λb o e=>by rw [aq (bj (u _ _ e) Q)];exact u _ _ e
  refine k l _ (x.map Int.toNat) EF s3 ?_ ⟨?_,λi E=>c.le i (C.mem_iff.mp E),C.mem_iff.mpr c.has,λi E D J j n=>?_,λi E=>?_⟩
  ·rw [ak];unfold ee;have e:x.map V.int=(x.map Int.toNat).map λi:Nat=>V.int (i:Int):=by
    conv=>lhs;rw [<-xo XX]
    rw [List.map_map];rfl
   rw [e]
  ·have qc:(x.map Int.toNat).Nodup:=C.nodup_iff.mpr c.once;have B:(x.map Int.toNat).Pairwise (·<=·):=by
    rw [ro];exact DM.imp λh=>Int.toNat_le_toNat h
   exact B.imp₂ (λa b h h'=>FC h h') qc
  ·have Nv:=C.mem_iff.mp E;have:=c.le i Nv;exact C.mem_iff.mpr (c.fin i Nv (by lia) D J j n)
  ·rcases c.why i (C.mem_iff.mp E) with e | ⟨k',uY,D,B,h2⟩
   ·exact .inl e
   ·exact .inr ⟨k',C.mem_iff.mpr uY,D,B,h2⟩
end
def u7 (rows:List Row) (ns:List Nat) (i:Nat):Option Row:=(rows[i]?).map λr=>⟨r.bP,r.word,r.used.map λj=>ns.idxOf j⟩
def Iz (rows:List Row) (ns:List Nat):List Row:=ns.filterMap (u7 rows ns)
theorem UR {ns:List Nat} {m x:Nat} (b:ns.Nodup) (h:ns[m]?=some x):ns.idxOf x=m:=by obtain ⟨a,rfl⟩:=eP.mp h;exact List.Nodup.idxOf_getElem b m a
theorem PL {ns:List Nat} (h:ns.Pairwise (·<·)):ns.Nodup:=h.imp λh=>eF h
theorem OP {ns:List Nat} (h:ns.Pairwise (·<·)) {m x j:Nat} (d:ns[m]?=some x) (b:j∈ns) (k:j<x):j∈ns.take m:=by
 obtain ⟨i,a,e⟩:=ye b;obtain ⟨c,f⟩:=eP.mp d;have g:i<m:=eO λz=>by
  rcases AM (jm z) with z | z
  ·have:=yd.mp h m i c a z;lia
  ·subst z;lia
 rw [<-e];exact List.mem_take_iff_getElem.mpr ⟨i,by lia,U⟩
def IE:Sp:=λh H Q _=>∃(g:Addr) (f:List Addr) (a:List Row) (c:Nat),h=[.ref g,.int (c:Int)]/\H g=some (.lst (f.map V.ref))/\Paired (l_ H) f a/\Mh a/\c<a.length/\a.length<=16500000/\
 ∀l b d e,H l=none->ay H b->CF a c d->b l=some (.lst (e.map V.ref))->Paired (l_ b) e (Iz a d)->Q (.ref l) b
section
abbrev MP:List Str:=["rows","last","places","paper","number","row"]
theorem wu:cf MP ĉ (aT bg):=cH
theorem SU:gF (aT bg) MP (jF [(".0",.local),("used",.local),("places",.free)]) ["used","places"] [none,some 2]:=jH
theorem S7:(["used","places"]:List Str).Nodup:=by decide+kernel
theorem j7 (F:Fn K mg "paper_up_to" bg ĉ f fd) (hL:mg "len"=none) (hT:mg "tuple"=none)
 (FN:Fn K mg "numbers_needed" bb ĉ fN o6) (GN:au P w K mg base aw 1 fN o6 ĉ Hh):au P w K mg base aw 2 f fd ĉ IE:=by
 refine F.F.cK wu λ_ x4 _ x7 H _ x6 x5 hr h=>?_;obtain ⟨rl,qs,C,Y,rfl,ji,b5,hU,qY,hlen,k⟩:=h;have hu:=jt hr;refine ⟨_,bp (vB (i:=2) wu.nd U (Or.inr U) I_)
  (bp (bR 3 wu.nd (iA lJ))
  (bp (g_ gB U (gy (bQ GN hr FN (a_ (pv 0) (pv 1)))) (bO 4 wu.nd)
   (bp (bR 5 wu.nd (dE gd (pv 0) (pv 4)))
   (bp (yZ hu (pv 2) (pv 4) (j4 wo (by rfl) hL PySem.boot_len (bY (pv 3))) U)
   (a0 (fH (oW qm oG ql ov (pv 3) (bY (cE (eM (aF (pv 5)) (aF (pv 5)) (qK C4 (by rfl) hT (by decide+kernel) (bY (mh U (Bu (aF (pv 5))) SU (λcl ex s0 H0=>⟨bO 0 S7,oi,jT hu (pv 1) (pv 0) (λ_ _=>rfl)⟩)))))))))))))
  (a0 (cm (pv 3))))),?_⟩
 refine λN1 c1 d hd=>c1 _ _ ?_;have s1:=aK (o:=.dK []) hd;have e1:upd H d (.dK []) d=some (.dK []):=ak;generalize upd H d (.dK [])=H1 at*;clear c1 N1;refine λN2 c2=>⟨cN _,λpl T=>c2 _ _ ?_⟩;have s2:=aK (o:=.lst []) T;have e2:upd H1 pl (.lst []) pl=some (.lst []):=ak;have ME:H pl=none:=by
  cases q:H pl with
  | none=>rfl
  | some x2=>rw [s1 _ _ q] at T;cases T
 have NW:d≠pl:=bj e1 T;generalize upd H1 pl (.lst [])=H2 at*;clear c2 N2;have As:=s1.trans s2;have DQ:qs.length=C.length:=i4 b5;refine λN3 c3=>(aa U (aa U ⟨rl,qs,C,Y,U,As _ _ ji,gf b5 λq r e=>e.same As,hU,qY,hlen,λl H3 ns S s3 el A=>?_⟩));have qc:=PL A.up;have Þ:ns.length<=Y+1:=MH.se (Y+1) ns qc λx3 hz=>by have:=A.le x3 hz;exact BY this
 have Wv:=As.trans s3;have YQ:=s3 _ _ (s2 _ _ e1);have YM:=s3 _ _ e2;have lH:H l=none:=by
  cases q:H l with
  | none=>rfl
  | some x2=>rw [As _ _ q] at S;cases S
 have ld:l≠d:=aQ (bj (s2 _ _ e1) S);have lp:l≠pl:=aQ (bj e2 S);refine ⟨l,U,⟨_,a5.of el⟩,?_⟩;refine j0 (K:=K) (a:=l) (xs:=ee ns) (λm t u=>∃v4 v5 g p,t=[some (.ref rl),some (.int (Y:Int)),some (.ref d),some (.ref pl),v4,v5]/\u d=some (.dK g)/\g.length<=m/\
  (∀j:Nat,j∈ns.take m->ed g (Sum.inl (j:Int))=some (.int (ns.idxOf j:Int)))/\u pl=some (.lst (p.map V.ref))/\p.length=m/\Paired (l_ u) p ((ns.take m).filterMap (u7 C ns))/\u l=some (.lst (ee ns))/\ay H u)
  ⟨none,none,[],[],U,YQ,aj _,λj n=>by simp at n,YM,U,.nil,el,Wv⟩ ?_ ?_ ?_
 ·rintro m t s _ ⟨_,_,_,_,rfl,_,_,_,_,_,_,e,_⟩;exact a5.of e
 ·rintro m x2 t s c ⟨v4,v5,g,p,rfl,M,wZ,lq,N,tM,W,NS,s4⟩;unfold ee at c;rw [dC] at c
  cases n:ns[m]? with
  | none=>rw [n] at c;cases c
  | some num=>
   rw [n] at c;cases c;have ß:m<ns.length:=(eP.mp n).1;have D':=A.le num (fg n);obtain ⟨q,hq⟩:∃q,qs[num]?=some q:=⟨_,gp (by lia)⟩;obtain ⟨r,lP,y,pu,g4,g5,g6⟩:=a4 b5 hq;have o5:gI (qs.map V.ref) (num:Int)=some (.ref q):=iB (by rw [dC,hq];rfl);refine λN5 c5=>(aa U (uJ U (s4 _ _ ji) o5 (c5 _ _ ?_)));clear c5 N5;refine λN6 c6=>(aa U ⟨pl,_,U,.inl (a5.of N),aa U (aa U ⟨d,_,U,nH.k (k:=Sum.inl (num:Int)) M (vD (by lia)),c6 _ _ ?_⟩)⟩);rw [ax,tM];clear c6 N6;have B:∀{b:Addr} {o:HO},s b=some o->b≠d->upd s d (.dK (d7 g (Sum.inl (num:Int)) (.int (m:Int)))) b=some o:=λe ne=>by rw [aq ne];exact e
   have NT:upd s d (.dK (d7 g (Sum.inl (num:Int)) (.int (m:Int)))) d=some (.dK (d7 g (Sum.inl (num:Int)) (.int (m:Int)))):=ak;have z:ay H (upd s d (.dK (d7 g (Sum.inl (num:Int)) (.int (m:Int))))):=λb o e=>B (s4 _ _ e) (bj e hd);have NP:=B N (aQ NW);have dy:=B NS ld;have DU:Paired (l_ (upd s d (.dK (d7 g (Sum.inl (num:Int)) (.int (m:Int)))))) p ((ns.take m).filterMap (u7 C ns)):=gf W λq r ⟨y,pu,O,Q,R⟩=>
    ⟨y,pu,B O (cp O M nofun),B Q (cp Q M nofun),B R (cp R M nofun)⟩
   generalize upd s d (.dK (d7 g (Sum.inl (num:Int)) (.int (m:Int))))=H5 at*;have et:ns.take (m+1)=ns.take m++[num]:=by rw [hX,n];rfl
   have wY:∀j:Nat,j∈ns.take (m+1)->ed (d7 g (Sum.inl (num:Int)) (.int (m:Int))) (Sum.inl (j:Int))=some (.int (ns.idxOf j:Int)):=λj tO=>by
    rw [vT]
    by_cases e:j=num
    ·subst e;rw [if_pos rfl,UR qc n]
    ·rw [if_neg (show ¬((Sum.inl (j:Int):Key)=Sum.inl (num:Int)) from λx3=>e (xT (ud x3)))];rw [et] at tO;rcases fe.mp tO with h | h
     ·exact lq j h
     ·exact absurd (dF.mp h) e
   have wL:=hU num r lP;refine (aa U ⟨.inl ⟨U,_,a5.of NP⟩,aa U (aE (z _ _ g4) U (aa U (aE (z _ _ g4) U (aa U (aE (z _ _ g4) U ⟨pu,U,⟨_,bU.of (z _ _ g6)⟩,λDa ft=>?_⟩)))))⟩);refine IL (xs:=r.used.map λi:Nat=>V.int (i:Int)) (λa t u=>∃x1,t=[x1,some (.ref d)]/\u Da=some (.lst (((r.used.take a).map λj=>ns.idxOf j).map λi:Nat=>V.int (i:Int)))/\ay H5 u) ⟨none,U,ak,aK ft⟩ ?_ ?_ ?_
   ·rintro a t I _ ⟨x1,rfl,_,E⟩;exact bU.of (E _ _ (z _ _ g6))
   ·rintro a x2 t I c ⟨x1,rfl,L,E⟩;rw [dC] at c
    cases A3:r.used[a]? with
    | none=>rw [A3] at c;cases c
    | some j=>
     rw [A3] at c;cases c;have xc:=fg A3;have Ye:=A.uses num (fg n) r lP j xc;have uZ:j∈ns.take (m+1):=by rw [et];exact h_ _ (OP A.up n Ye (wL.2 j xc))
     have dg:ea I d (.int (j:Int)) (some (.int (ns.idxOf j:Int))):=by have:=ea.k (k:=Sum.inl (j:Int)) (E _ _ NT);rw [wY j uZ] at this;exact this
     refine (aa U (aa U ⟨d,_,U,dg,_,L,?_,_,U,?_,λb o e=>?_⟩))
     ·rw [ax,ax,fU];exact fz (Ce wL.1)
     ·rw [ak,hX,A3,eH,eH];rfl
     ·rw [aq (bj e ft)];exact E _ _ e
   ·rintro t I ⟨x1,rfl,L,E⟩;have dr:r.used.take (r.used.map λi:Nat=>V.int (i:Int)).length=r.used:=by rw [ax];exact gC
    rw [dr] at L;refine ⟨Da,_,U,.inl ⟨a5.of L,λx XA=>⟨cX U,λD DO=>?_⟩⟩⟩;have s7:=aK (o:=.tup ((r.used.map λj=>ns.idxOf j).map λi:Nat=>V.int (i:Int))) XA;have e7:upd I x (.tup ((r.used.map λj=>ns.idxOf j).map λi:Nat=>V.int (i:Int))) x=some (.tup ((r.used.map λj=>ns.idxOf j).map λi:Nat=>V.int (i:Int))):=ak;generalize upd I x (.tup ((r.used.map λj=>ns.idxOf j).map λi:Nat=>V.int (i:Int)))=H7 at*;have s8:=aK (o:=.tup [.ref y,.str (jc r.word),.ref x]) DO;have e8:upd H7 D (.tup [.ref y,.str (jc r.word),.ref x]) D=some (.tup [.ref y,.str (jc r.word),.ref x]):=ak;generalize upd H7 D (.tup [.ref y,.str (jc r.word),.ref x])=J at*;have v:=(E.trans s7).trans s8;have NO:=v _ _ NP;refine (pG NO (by rw [ax,tM];exact vD (by lia)) ?_);have X:∀{b:Addr} {o:HO},J b=some o->b≠pl->upd J pl (.lst (p.map V.ref++[.ref D])) b=some o:=λe ne=>by rw [aq ne];exact e
    have G:∀{b:Addr} {xs:List V},J b=some (.tup xs)->upd J pl (.lst (p.map V.ref++[.ref D])) b=some (.tup xs):=λe=>X e (cp e NO nofun);refine ⟨_,_,_,p++[D],U,X (v _ _ NT) NW,c7 (uF _ _ _) (sj wZ),wY,?_,by rw [ff,tM];rfl,?_,X (v _ _ dy) lp,λb o e=>X (v _ _ (z _ _ e)) (bj e ME)⟩
    ·rw [ak,eH];rfl
    ·rw [et,xV];refine qM (gf DU λq r' ⟨W9,Aw,O,Q,R⟩=>⟨W9,Aw,G (v _ _ O),G (v _ _ Q),G (v _ _ R)⟩) ?_;have er:u7 C ns num=some ⟨r.bP,r.word,r.used.map λj=>ns.idxOf j⟩:=by unfold u7;rw [lP];rfl
     rw [show [num].filterMap (u7 C ns)=[⟨r.bP,r.word,r.used.map λj=>ns.idxOf j⟩] by simp [er]];exact .cons ⟨y,x,G e8,G (v _ _ (z _ _ g5)),G (s8 _ _ e7)⟩ .nil
 ·rintro t s ⟨v4,v5,g,p,rfl,_,_,_,N,_,W,NS,s4⟩;have dr:ns.take (ee ns).length=ns:=by unfold ee;rw [ax];exact gC
  rw [dr] at W;exact c3 _ _ (aa U (k pl s ns p ME s4 A N W))
end
def qC (F:MU.c9) (x:rA):Bool:=match F x.2.1 with
 | some f=>decide (f.2.1<x.2.2) && decide (x.2.2<=f.2.2)
 | none=>false
def IF:Sp:=λa H Q _=>∃(d q:Addr) (F:MU.c9) (x:rA) (f:Nat×Int×Int),a=[.ref d,.ref q]/\jR H d F/\gr H q x/\F x.2.1=some f/\Q (.bl (qC F x)) H
section
theorem LS:cf ["by_end","wait","fall"] ĕ (aT di):=cH
theorem lg (F:Fn K mg "is_told" di ĕ f fd):au P w K mg base aw 1 f fd ĕ IF:=by
 refine F.F.cK LS λ_ A _ s H _ Q E r h=>?_;obtain ⟨d,q,j,x,a,rfl,i,g,e,k⟩:=h;have t:=jt r;refine ⟨_,bV (bR 2 LS.nd (jT t (pv 0) (aF (pv 1)) (λ_ _=>rfl)))
  (a0 (cm (BV oU jO (aF (pv 2)) (aF (pv 1)) (aF (pv 2))))),?_⟩
 obtain ⟨y,o,v,u,n⟩:=i.at_;obtain ⟨p,l,b⟩:=n _ _ e;have m:qC j x=(decide (a.2.1<x.2.2) && decide (x.2.2<=a.2.2)):=by unfold qC;rw [e]
 rw [m] at k;refine (aa U (aa U (aE g U ⟨d,_,U,l▸ea.k (k:=Sum.inl (x.2.1:Int)) o,?_⟩)));refine (aa U (aE b U (aa U (aE g U (ri ⟨_,U,?_⟩)))))
 by_cases c:a.2.1<x.2.2
 ·rw [ew c] at k;refine gE c (aa U (aE b U (ri ?_)));exact k
 ·rw [cF c] at k;exact iG c k
def Vh (H:Hp) (r:Addr) (st:MU.St) (F:MU.c9):Prop:=∃a b c d L M,H r=some (.tup [.str "rule",.ref a,.ref b])/\H a=some (.lst (c.map V.ref))/\Paired (gr H) c L/\Aa st true L/\
 H b=some (.lst (d.map V.ref))/\Paired (gr H) d (M.filter (qC F))/\Aa st false M
def Vr (H:Hp) (r:Addr) (st:MU.St) (b:Nat):Prop:=∃l a c,H r=some (.tup [.str "paper",.ref l])/\H l=some (.lst (c.map V.ref))/\Paired (l_ H) c (Iz st.rows a)/\CF st.rows b a
def gO (n:Nat) (la:Int) (T F:List (List Int)) (Te:Nat):MU.St:=MU.run n (bw F) (jP n la T F) Te
def Hf (f:Addr):Sp:=λg H Q _=>∃(e:Addr) (n:Nat) (a:Int) (T F:List (List Int)) (d:Nat),g=[.ref e]/\jN f H e (n:Int) a T F/\cT (n:Int) a T F/\vu n (bw F) (jP n a T F) d/\
 ∀r c,H r=none->ay H c->(∀b,(gO n a T F d).bar=some b->Vr c r (gO n a T F d) b->Q (.ref r) c)/\((gO n a T F d).bar=none->Vh c r (gO n a T F d) (bw F)->Q (.ref r) c)
theorem CO:cf ["web","closing","waits"] ċ (aT eX):=cH
theorem SO:gF (aT eX) ["web","closing","waits"] (jF [(".0",.local),("wait",.local),("is_told",.globalImplicit),("closing",.free)]) ["wait","closing"] [none,some 1]:=jH
theorem S3:(["wait","closing"]:List Str).Nodup:=by decide+kernel
theorem pV (F:Fn K mg "kept" eX ċ f fd) (T:lF K mg C) (M:Mk K C fI) (hC:mg "Closing"=some (.ref C))
 (bI:fb K Ft ĝ []) (GI:au P w K mg base aw 4 fI Ft ĝ (Im C CW))
 (mA:ic K C "draw_all" fA) (bA:fb K YJ č []) (GA:au P w K mg base aw 5 fA YJ č (Mo C))
 (mB:ic K C "best_drawn" fB) (bB:fb K lQ Ĕ []) (GB:au P w K mg base aw 1 fB lQ Ĕ (HC C))
 (FP:Fn K mg "paper_up_to" bg ĉ fP YH) (GP:au P w K mg base aw 2 fP YH ĉ IE)
 (FT:Fn K mg "is_told" di ĕ fT qf) (GT:au P w K mg base aw 1 fT qf ĕ IF):au P w K mg base aw 6 f fd ċ (Hf CW):=by
 refine F.F.cK CO λ_ x5 _ x8 H _ x7 x6 hr x3=>?_;obtain ⟨wb,n,s,t,rF,Te,rfl,W0,W,hE,x2⟩:=x3;have jj:cI 1 _:=hr.mono (by decide);have tL:cI 2 _:=hr.mono (by decide);refine ⟨_,bp (vB (i:=1) CO.nd U (Or.inr U) (I0 M GI hr U hC bI .nil fy (bY (pv 0))))
  (bp (fH (zk (pv 1) T.cl mA GA hr bA .nil fy))
  (bp (cS (cR Iy (fJ (pv 1) U) jw) (a0 (cm (cE (a_ dJ (bQ GP tL FP (a_ (fJ (pv 1) U) (fJ (pv 1) U))))))) de)
  (bp (y' (i:=2) CO.nd U U U (gy (ig (pv 1) T.cl mB GB jj bB .nil fy (bY dJ))) SO (λcl ex s0 H0=>⟨bO 0 S3,vI (pd (bQ GT jj FT (a_ (qD (K:=K) U (pv 1) U) (pv 0)))),pv 0⟩))
  (a0 (cm (cE (eM dJ (ig (pv 1) T.cl mB GB jj bB .nil fy (bY dJ)) (pv 2)))))))),?_⟩
 have n2:=W.n2;refine λN1 c1=>(aa U (λp m X N7 _=>?_));have W1:jN CW (upd (upd H m (.own p)) p (.ins C m [])) wb (n:Int) s t rF:=W0.same λb o e=>by rw [aq (bj e X),aq (bj e N7)];exact e
 have qW:∀b o,H b=some o->upd (upd H m (.own p)) p (.ins C m []) b=some o:=λb o e=>by rw [aq (bj e X),aq (bj e N7)];exact e
 refine ⟨p,wb,m,n,s,t,rF,U,ak,W1,W,λH2 R rl bd c2 _ ji EX k2=>⟨U,c1 _ _ ?_⟩⟩;have s2:ay H H2:=λb o e=>k2 _ _ (qW _ _ e) (bj e X);have qU:∀{b:Addr},upd (upd H m (.own p)) p (.ins C m []) b=none->H b=none:=λ{b} e=>by
  cases q:H b with
  | none=>rfl
  | some x=>rw [qW _ _ q] at e;cases e
 have Av:=qU ji;have A9:=qU EX;clear c1 N1;obtain ⟨ð,uW⟩:=c2.ins;refine λN2 N_=>(aa U (jg uW (kJ) ⟨p,R,rl,bd,n,_,_,Te,U,c2,Cj W,W.iC,zL n2,hE,λH3 z h k3=>N_ _ _ ?_⟩));clear N_;have EW:MU.run n (bw rF) (jP n s t rF) Te=gO n s t rF Te:=U;rw [EW] at z h;have s3:ay H H3:=λb o e=>k3 _ _ (s2 _ _ e) (bj e X) (bj e Av) (bj e A9);have hU:f_ (gO n s t rF Te):=BP (L3 _ _ Ll) Te;have ny:(gO n s t rF Te).rows.length<=16000000:=hE.ny Te (aj _);generalize gO n s t rF Te=st at*;obtain ⟨ï,Y⟩:=z.ins;obtain ⟨qs,qa,b5⟩:=z.rows;refine λN3 N'=>(aa U (ek Y T.cl T.nX yu ⟨U,ct ?_⟩));have qV:∀{k:Hp} {b:Addr},ay H k->k b=none->H b=none:=λ{k b} ss e=>by
  cases q:H b with
  | none=>rfl
  | some x=>rw [ss _ _ q] at e;cases e
 cases lr:st.bar with
 | some b=>
  obtain ⟨r0,XN,_⟩:=hU.2 b lr;have hb:=(eP.mp XN).1;refine oT U (aa U (ek Y T.cl T.nR pe (aa U (ek Y T.cl T.nX yu ⟨rl,qs,st.rows,b,by rw [lr];rfl,qa,b5,hU.1,hb,by lia,λl H4 ns u _ G hN S ng=>⟨cX U,λx1 E=>?_⟩⟩))));have c:=aK (o:=.tup [.str "paper",.ref l]) E;have Ar:=(s3.trans G).trans c;exact (x2 x1 _ (qV (s3.trans G) E) Ar).1 b lr ⟨l,ns,u,ak,c _ _ S,gf ng λq x1 e=>e.same c,hN⟩
 | none=>
  refine gL U (N' _ _ ?_);clear N' N3;have X1:∀{J:Bool} {L:List rA},Aa st J L->L.length<=64/\∀x∈L,∃w',w'.tie=J/\w'.b=x.2.1/\∃j,ae st j=some w':=λ{J L} hB=>by
   have mem:∀x∈L,∃w',w'.tie=J/\w'.a=x.1/\w'.b=x.2.1/\∃j,ae st j=some w':=λx d=>by
    obtain ⟨a,b,v⟩:=x;have hv:=(hB.has a b v).mp d;unfold MU.val at hv
    cases I:st.best (J,a,b) with
    | none=>rw [I] at hv;cases hv
    | some j=>
     obtain ⟨w',h1,h2⟩:=h.good.at_ _ _ I;have h4:=gc h2;exact ⟨w',h4.1,h4.2.1,h4.2.2,j,h1⟩
   refine ⟨?_,λx d=>?_⟩
   ·have qc:(L.map λx=>x.1*8+x.2.1).Nodup:=by
     have h0:=hB.once;unfold List.Nodup at h0 ⊢;rw [ro] at h0 ⊢;refine FZ (λ{x y} d r e x4=>e ?_) h0;obtain ⟨N,_,_,b1,j1,e1⟩:=mem x d;obtain ⟨w2,_,_,b2,j2,e2⟩:=mem y r;have l1:=h.good.lt _ _ e1;have l2:=h.good.lt _ _ e2;exact Prod.ext (by show x.1=y.1;lia) (by show x.2.1=y.2.1;lia)
    have:=MH.se 64 _ qc λx4 hz=>by obtain ⟨x,d,rfl⟩:=cn.mp hz;obtain ⟨N,_,a1,b1,j1,e1⟩:=mem x d;have l1:=h.good.lt _ _ e1;show x.1*8+x.2.1<64;lia
    rwa [ax] at this
   ·obtain ⟨N,h1,_,h2,h3⟩:=mem x d;exact ⟨N,h1,h2,h3⟩
  refine λN4 c4=>(aa U (jg Y (kJ) ⟨p,R,rl,bd,n,_,st,false,U,z,h.good,zL n2,by lia,λl H4 u M _ G S ng hM=>⟨l,U,⟨_,a5.of S⟩,λO ft=>?_⟩⟩));obtain ⟨Y5,Y4⟩:=X1 hM;have tN:u.length=M.length:=i4 ng;have NZ:=z.same G;refine sC (K:=K) (a:=l) (xs:=u.map V.ref) (λi gK k=>∃v g,gK=[v,some (.ref p)]/\k O=some (.lst (g.map V.ref))/\Paired (gr k) g ((M.take i).filter (qC (bw rF)))/\g.length<=i/\ay H4 k) ⟨none,[],U,ak,.nil,aj _,aK ft⟩ ?_ ?_ ?_
  ·rintro i gK Q _ ⟨v,g,rfl,_,_,_,c⟩;exact a5.of (c _ _ S)
  ·rintro i y gK Q r ⟨v,g,rfl,B,D,EJ,c⟩;rw [dC] at r
   cases I:u[i]? with
   | none=>rw [I] at r;cases r
   | some q=>
    rw [I] at r;cases r;obtain ⟨x,d,Nl⟩:=a4 ng I;have hi:i<M.length:=(eP.mp d).1;obtain ⟨N,t1,b1,j1,g1⟩:=Y4 x (fg d);obtain ⟨fa,N0⟩:=h.ends j1 N g1 t1;rw [b1] at N0;have A:=NZ.same c;obtain ⟨YS,uU⟩:=A.ins;have et:M.take (i+1)=M.take i++[x]:=by rw [hX,d];rfl
    refine (aa U (ek uU T.cl T.nB Mi (aa U ⟨R,q,_,x,fa,U,A.eo,Nl.same c,N0,_,U,?_⟩)))
    cases ht:qC (bw rF) x with
    | true=>
     refine fx (aa U ⟨_,B,?_,_,g++[q],U,?_,?_,?_,λb o e=>?_⟩)
     ·rw [ax];exact fz (by lia)
     ·rw [ak,eH];rfl
     ·rw [et,List.filter_append];have kp:∀b y,gr Q b y->gr (upd Q O (.lst (g.map V.ref++[.ref q]))) b y:=λb y e=>by
       unfold gr;rw [aq (cp e B nofun)];exact e
      refine qM (gf D kp) ?_;rw [show [x].filter (qC (bw rF))=[x] by simp [ht]];exact .cons (kp _ _ (Nl.same c)) .nil
     ·rw [ff];show g.length+1<=i+1;exact sj EJ
     ·rw [aq (bj e ft)];exact c _ _ e
    | false=>
     refine du ⟨_,g,U,B,?_,by exact fQ EJ,c⟩;rw [et,List.filter_append];rw [show [x].filter (qC (bw rF))=[] by simp [ht],uf];exact D
  ·rintro gK Q ⟨v,g,rfl,B,D,EJ,c⟩;have dr:M.take (u.map V.ref).length=M:=by rw [ax,tN];exact gC
   rw [dr] at D;refine c4 _ _ ?_;have A:=NZ.same c;obtain ⟨YS,uU⟩:=A.ins;have Ar:=(s3.trans G).trans c;refine (aa U (jg uU (kJ) ⟨p,R,rl,bd,n,_,st,true,U,A,h.good,zL n2,by lia,λl6 H6 WA L _ s6 YN DT hL=>(aa U ⟨cX U,λx1 E=>?_⟩)⟩));have s7:=aK (o:=.tup [.str "rule",.ref l6,.ref O]) E;have Dh:=s6.trans s7;exact (x2 x1 _ (qV (Ar.trans s6) E) (Ar.trans Dh)).2 lr ⟨l6,O,WA,g,L,M,ak,s7 _ _ YN,gf DT λq x e=>e.same s7,hL,Dh _ _ B,gf D λq x e=>e.same Dh,hM⟩
end
end Y0
namespace MU
def qr (F:c9) (D:ah->Prop) (st:St) (r:Row):Prop:=
 (r.word=.told/\r.used=[]/\D r.bP)\/
 (r.word=.a3/\∃i p,r.used=[i]/\ae st i=some p/\cz F p=some r.bP)\/
 (r.word=.aS/\∃i p,r.used=[i]/\ae st i=some p/\cD F p=some r.bP)\/
 (r.word=.sure/\∃i p,r.used=[i]/\ae st i=some p/\cG F p=some r.bP)\/
 (r.word=.ao/\∃i p,r.used=[i]/\ae st i=some p/\cy F p=some r.bP)\/
 (r.word=.sum/\∃i j p q,r.used=[i,j]/\ae st i=some p/\ae st j=some q/\av p q=some r.bP)\/
 (r.word=.back/\∃i j p q,r.used=[i,j]/\ae st i=some p/\ae st j=some q/\aR F p q=some r.bP)
variable {n:Nat}
theorem qr.ext (h:qr F D s r) (e:Ext s s'):qr F D s' r:=by
 have o:∀{f:ah->Option ah},(∃i p,r.used=[i]/\ae s i=some p/\f p=some r.bP)->∃i p,r.used=[i]/\ae s' i=some p/\f p=some r.bP:=λh=>by obtain ⟨i,p,a,b,c⟩:=h;exact ⟨i,p,a,br e b,c⟩
 have t:∀{f:ah->ah->Option ah},(∃i j p q,r.used=[i,j]/\ae s i=some p/\ae s j=some q/\f p q=some r.bP)->∃i j p q,r.used=[i,j]/\ae s' i=some p/\ae s' j=some q/\f p q=some r.bP:=λh=>by obtain ⟨i,j,p,q,a,b,c,d⟩:=h;exact ⟨i,j,p,q,a,br e b,br e c,d⟩
 rcases h with h | ⟨w,h⟩ | ⟨w,h⟩ | ⟨w,h⟩ | ⟨w,h⟩ | ⟨w,h⟩ | ⟨w,h⟩
 ·exact .inl h
 ·exact .inr (.inl ⟨w,o h⟩)
 ·exact .inr (.inr (.inl ⟨w,o h⟩))
 ·exact .inr (.inr (.inr (.inl ⟨w,o h⟩)))
 ·exact .inr (.inr (.inr (.inr (.inl ⟨w,o h⟩))))
 ·exact .inr (.inr (.inr (.inr (.inr (.inl ⟨w,t h⟩)))))
 ·exact .inr (.inr (.inr (.inr (.inr (.inr ⟨w,t h⟩)))))
def Drawn (F:c9) (D:ah->Prop) (st:St):Prop:=∀(i:Nat) (r:Row),st.rows[i]?=some r->qr F D st r
theorem Lz {w:ah} (h:Drawn F D st) (c:qr F D st ⟨w,word,us⟩):Drawn F D (take st w word us):=λi r a=>by
 have e:=vS st w word us;unfold take at a;split at a
 ·have a:(st.rows++[(⟨w,word,us⟩:Row)])[i]?=some r:=a
  by_cases b:i<st.rows.length
  ·rw [nC b] at a;exact (h i r a).ext e
  ·rw [lT (by exact jm b)] at a
   cases o:i-st.rows.length with
   | zero=>rw [o] at a;cases a;exact c.ext e
   | succ k=>rw [o] at a;cases a
 ·exact (h i r a).ext e
theorem K8 (h:Drawn F D st) (a:∀w,o=some w->qr F D st ⟨w,word,us⟩):Drawn F D (put st o word us):=by
 cases o with
 | none=>exact h
 | some w=>exact Lz h (a w U)
theorem zc (h:Drawn F D st) (b:∀w,(∃a p,[i]=[a]/\ae st a=some p/\f p=some w)->qr F D st ⟨w,word,[i]⟩):Drawn F D (a6 f word i st):=K8 h λw e=>by
 cases o:ae st i with
 | none=>rw [o] at e;cases e
 | some p=>rw [o] at e;exact b w ⟨i,p,U,o,e⟩
theorem IP (h:Drawn F D st) (c:∀w,(∃a b p q,[i,j]=[a,b]/\ae st a=some p/\ae st b=some q/\f p q=some w)->qr F D st ⟨w,word,[i,j]⟩):Drawn F D (ai f word i j st):=K8 h λw e=>by
 cases o:ae st i with
 | none=>rw [o] at e;cases e
 | some p=>
  rw [o] at e;have e:((ae st j).bind λq=>f p q)=some w:=e
  cases C:ae st j with
  | none=>rw [C] at e;cases e
  | some q=>rw [C] at e;exact c w ⟨i,j,p,q,U,o,C,e⟩
theorem wj (b:∀s j,Drawn F D s->Drawn F D (g s j)):∀(l:List Nat) (s:St),Drawn F D s->Drawn F D (l.foldl g s)
 | [],_,h=>h
 | a::l,s,h=>wj b l _ (b s a h)
theorem KA (h:Drawn F D s):∀t,Drawn F D (run n F s t)
 | 0=>h
 | t+1=>by
  have a:=KA h t;show Drawn F D (look n F t (run n F s t));unfold look;have c:∀i j s,Drawn F D s->Drawn F D (ai av .sum i j s):=λi j s h=>IP h λw e=>.inr (.inr (.inr (.inr (.inr (.inl ⟨U,e⟩)))));have b:∀i j s,Drawn F D s->Drawn F D (ai (aR F) .back i j s):=λi j s h=>IP h λw e=>.inr (.inr (.inr (.inr (.inr (.inr ⟨U,e⟩)))));split
  ·split
   ·split
    ·exact wj (λs j h=>b j t s h) _ _ (wj (λs j h=>c j t s h) _ _ (wj (λs j h=>c t j s h) _ _ (zc (zc a λw e=>.inr (.inl ⟨U,e⟩)) λw e=>.inr (.inr (.inl ⟨U,e⟩)))))
    ·exact wj (λs j h=>b t j s h) _ _ (zc (zc a λw e=>.inr (.inr (.inr (.inl ⟨U,e⟩)))) λw e=>.inr (.inr (.inr (.inr (.inl ⟨U,e⟩)))))
   ·exact a
  ·exact a
theorem L7:∀(rows:List ah) (s:St),Drawn F D s->(∀w∈rows,D w)->Drawn F D (ja rows s)
 | [],_,h,_=>h
 | w::r,_,h,a=>L7 r _ (Lz h (.inl ⟨U,U,a w dB⟩)) λc b=>a c (eI _ b)
theorem RK:Drawn F D empty:=λi r h=>by simp [empty] at h
end MU
namespace HK
abbrev c9:=Nat->Option (Nat×Int×Int)
structure Cl (F:c9) (u wt:Nat->Nat->Option Int):Prop where
 Xy:∀a,u a a=none
 loop:∀{a b v v'},u a b=some v->u b a=some v'->0<=v+v'
 sum:∀{a b c v v'},u a b=some v->u b c=some v'->a≠c->∃z,u a c=some z/\z<=v+v'
 a3:∀{a e v f},u a e=some v->F e=some f->∃z,wt a e=some z/\f.2.2-v<=z
 aS:∀{e b v f},u e b=some v->v<0->F e=some f->(b=f.1/\0<=f.2.1+v)\/∃z,u f.1 b=some z/\z<=f.2.1+v
 sure:∀{a e x f},wt a e=some x->F e=some f->(a=f.1/\min x f.2.1<=0)\/∃z,u a f.1=some z/\z<=-min x f.2.1
 back:∀{x e a k v f},wt x e=some k->u a x=some v->F e=some f->a≠e->∃z,wt a e=some z/\min k f.2.2-v<=z
 ao:∀{e' e k g f},wt e' e=some k->0<k->F e'=some g->F e=some f->∃z,wt g.1 e=some z/\min k f.2.2-g.2.1<=z
 long:∀{x e k f},wt x e=some k->F e=some f->f.2.2<k->(∃v,u x e=some v/\v<0)\/∃y k0 v v' k1,u x y=some v'/\v'<=v/\wt y e=some k1/\k0<=k1/\k=min k0 f.2.2-v
 bM:∀{e f},F e=some f->1<=f.2.1/\f.2.1<=f.2.2/\F f.1=none
structure Inv (F:c9) (u wt:Nat->Nat->Option Int) (c:Nat->Option Int) (i:Int):Prop where
 past:∀{x s},c x=some s->s<i
 K:∀{x y s t v},c x=some s->c y=some t->u x y=some v->t<=s+v
 dl:∀{x y s v},c x=some s->c y=none->u x y=some v->i<=s+v
 W:∀{x e s k f},c x=some s->wt x e=some k->F e=some f->f.2.1<k->(∃t,c e=some t/\t<=s)\/∃t,c f.1=some t/\t+k<=s
 xy:∀{e f t},F e=some f->c e=some t->∃s,c f.1=some s/\s+f.2.1<=t/\t<=s+f.2.2
 xC:∀{e f s},F e=some f->c e=none->c f.1=some s->i<=s+f.2.2
def CD (F:c9) (u a:Nat->Nat->Option Int) (c:Nat->Option Int) (i:Int) (R:Nat->Prop) (y:Nat):Prop:=
 (∀z v,u y z=some v->(∀t,c z=some t->t<=i+v)/\(c z=none->0<v\/(v=0/\R z)))/\
 ∀e k f,a y e=some k->F e=some f->f.2.1<k->k<=f.2.2->(∃t,c e=some t)\/∃t,c f.1=some t/\t+k<=i
structure Out (F:c9) (c:Nat->Option Int) (i:Int) (S:Nat->Prop):Prop where
 ok:∀{e},S e->∃f s,F e=some f/\c e=none/\c f.1=some s/\s+f.2.1<=i/\i<=s+f.2.2
 all:∀{e f s},F e=some f->c e=none->c f.1=some s->s+f.2.2<=i->S e
open Classical in
def put (c:Nat->Option Int) (i:Int) (S:Nat->Prop):Nat->Option Int:=λx=>if S x then some i else c x
theorem vC (h:S x):put c i S x=some i:=if_pos h
theorem jy (h:¬S x):put c i S x=c x:=if_neg h
theorem gh (h:put c i S x=some t):(S x/\t=i)\/(¬S x/\c x=some t):=by
 by_cases e:S x
 ·rw [vC e] at h;cases h;exact .inl ⟨e,U⟩
 ·rw [jy e] at h;exact .inr ⟨e,h⟩
theorem sf (h:put c i S x=none):¬S x/\c x=none:=by
 by_cases e:S x
 ·rw [vC e] at h;cases h
 ·rw [jy e] at h;exact ⟨e,h⟩
section
theorem Sh (I:Inv F u wt c i) (a:c x=some s) (h:u x y=some v) (b:s+v<i):∃t,c y=some t/\t<=s+v:=by
 cases hy:c y with
 | none=>have:=I.dl a hy h;lia
 | some t=>exact ⟨t,U,I.K a hy h⟩
theorem TV (C:Cl F u wt) (I:Inv F u wt c i) (O:Out F c i S) (p:S e) (h:u e z=some v):(∀t,put c i S z=some t->t<=i+v)/\(put c i S z=none->0<=v):=by
 obtain ⟨f,s,d,_,b,x,A⟩:=O.ok p
 by_cases k:0<=v
 ·refine ⟨λt a=>?_,λ_=>k⟩;rcases gh a with ⟨_,rfl⟩ | ⟨_,a⟩
  ·exact jz k
  ·have:=I.past a;lia
 ·rcases C.aS h (qJ k) d with ⟨rfl,m⟩ | ⟨y,m,B⟩
  ·refine ⟨λt a=>?_,λa=>?_⟩
   ·rcases gh a with ⟨j,_⟩ | ⟨_,a⟩
    ·obtain ⟨n,r,l,_⟩:=O.ok j;rw [(C.bM d).2.2] at l;cases l
    ·rw [b] at a;cases a;lia
   ·rw [(sf a).2] at b;cases b
  ·have E:=C.bM d;obtain ⟨t,g,D⟩:=Sh I b m (by lia);have q:¬S z:=λj=>by
    obtain ⟨n,r,_,o,_⟩:=O.ok j;rw [o] at g;cases g
   rw [jy q,g];exact ⟨λG e=>by cases e;lia,λe=>nomatch e⟩
structure nJ (F:c9) (u wt:Nat->Nat->Option Int) (n:Nat) (c1:Nat->Option Int) (i:Int) (r:Nat->Prop):Prop where
 own:∀{y},r y->F y=none/\c1 y=none
 lt:∀{y},r y->y<n
 lets:∀{y},r y->CD F u wt c1 i r y
 most:∀R:Nat->Prop,(∀y,R y->F y=none/\c1 y=none/\y<n)->(∀y,R y->CD F u wt c1 i R y)->∀y,R y->r y
theorem yT (O:Out F c i S) (h:F x=none):¬S x:=λb=>by obtain ⟨f,s,a,_⟩:=O.ok b;rw [h] at a;cases a
theorem up1 (O:Out F c i S) (h:c x=some t):put c i S x=some t:=by refine (jy λb=>?_).trans h;obtain ⟨f,s,_,a,_⟩:=O.ok b;rw [h] at a;cases a
theorem KK (C:Cl F u wt) (I:Inv F u wt c i) (O:Out F c i S) (R:nJ F u wt n (put c i S) i r) (a:put (put c i S) i r x=some s) (h:u x z=some v):(∀t,put c i S z=some t->t<=s+v)/\(put c i S z=none->i<=s+v):=by
 rcases gh a with ⟨p,d⟩ | ⟨_,a⟩
 ·obtain ⟨e,g⟩:=(R.lets p).1 z v h;rw [d];refine ⟨e,λb=>?_⟩;rcases g b with o | o<;>lia
 ·rcases gh a with ⟨j,d⟩ | ⟨_,a⟩
  ·obtain ⟨e,g⟩:=TV C I O j h;rw [d];exact ⟨e,λb=>by have:=g b;lia⟩
  ·refine ⟨λt k=>?_,λb=>I.dl a (sf b).2 h⟩;rcases gh k with ⟨j,l⟩ | ⟨_,k⟩
   ·obtain ⟨f,q,_,m,_⟩:=O.ok j;rw [l];exact I.dl a m h
   ·exact I.K a k h
theorem Ls (C:Cl F u wt) (I:Inv F u wt c i) (O:Out F c i S) (R:nJ F u wt n (put c i S) i r) (a:put (put c i S) i r x=some s) (h:wt x e=some k) (g:F e=some f) (v:k<=f.2.1) (y:s-k<i):∃t,c f.1=some t/\t<=s-k:=by
 have j:min k f.2.1=k:=by lia
 have d:=yT O (C.bM g).2.2;rcases C.sure h g with ⟨l,b⟩ | ⟨z,b,q⟩
 ·rw [j] at b;rw [l] at a;rcases gh a with ⟨_,rfl⟩ | ⟨_,a⟩
  ·lia
  ·rw [jy d] at a;exact ⟨s,a,by lia⟩
 ·rw [j] at q;obtain ⟨m,p⟩:=KK C I O R a b
  cases o:c f.1 with
  | none=>
   have:=p (by rw [jy d];exact o);lia
  | some t=>exact ⟨t,U,by have:=m t (by rw [jy d];exact o);lia⟩
theorem Lf (C:Cl F u wt) (I:Inv F u wt c i) (O:Out F c i S) (R:nJ F u wt n (put c i S) i r) (p:put (put c i S) i r x=some s) (h:wt x e=some k) (g:F e=some f) (G:f.2.1<k):(∃t,put c i S e=some t/\t<=s)\/∃t,c f.1=some t/\t+k<=s:=by
 have T:=C.bM g;have W:=yT O T.2.2;have over:∀{t},c f.1=some t->t+f.2.2<=i->∃q,put c i S e=some q/\q<=i:=λ{t} Y m=>by
  cases he:c e with
  | some q=>exact ⟨q,up1 O he,by have:=I.past he;exact eA this⟩
  | none=>exact ⟨i,vC (O.all g he Y m),fO _⟩
 have L:∀{y sy ky},c y=some sy->wt y e=some ky->sy-ky<i->(∃t,put c i S e=some t/\t<=sy)\/∃t,c f.1=some t/\t<=sy-ky:=λ{y sy ky} d J V=>by
  by_cases H:f.2.1<ky
  ·rcases I.W d J g H with ⟨t,a,l⟩ | ⟨t,a,l⟩
   ·exact .inl ⟨t,up1 O a,l⟩
   ·exact .inr ⟨t,a,by lia⟩
  ·refine .inr ?_;have Z:put (put c i S) i r y=some sy:=by
    refine (jy λo=>?_).trans (up1 O d);have:=(R.own o).2;rw [up1 O d] at this;cases this
   exact Ls C I O R Z J g (jV H) V
 rcases gh p with ⟨o,z⟩ | ⟨_,p⟩
 ·
  rw [z]
  by_cases m:k<=f.2.2
  ·rcases (R.lets o).2 e k f h g G m with ⟨t,a⟩ | ⟨t,a,l⟩
   ·refine .inl ⟨t,a,?_⟩;rcases gh a with ⟨_,M⟩ | ⟨_,a⟩
    ·lia
    ·have:=I.past a;exact eA this
   ·rw [jy W] at a;exact .inr ⟨t,a,l⟩
  ·rcases C.long h g (qJ m) with ⟨v,a,l⟩ | ⟨y,k0,v,v',k1,a,l,D,N,h5⟩
   ·obtain ⟨A,B⟩:=(R.lets o).1 e v a
    cases he:put c i S e with
    | none=>have:=B he;omega
    | some t=>exact .inl ⟨t,U,by have:=A t he;lia⟩
   ·obtain ⟨A,B⟩:=(R.lets o).1 y v' a;have hv:v<0:=by omega
    cases d:put c i S y with
    | none=>have:=B d;omega
    | some sy=>
     have Ù:=A sy d;have X4:c y=some sy:=by
      rcases gh d with ⟨_,M⟩ | ⟨_,d⟩
      ·lia
      ·exact d
     by_cases E:sy-k1<i
     ·rcases L X4 D E with ⟨t,b,j⟩ | ⟨t,b,j⟩
      ·exact .inl ⟨t,b,by lia⟩
      ·exact .inr ⟨t,b,by lia⟩
     ·omega
 ·rcases gh p with ⟨X,z⟩ | ⟨_,p⟩
  ·
   rw [z];obtain ⟨x2,sb,a,_,D,N,_⟩:=O.ok X;have hg:=C.bM a;obtain ⟨x1,Q,h7⟩:=C.ao h (by lia) a g
   by_cases E:sb-x1<i
   ·rcases L D Q E with ⟨t,b,j⟩ | ⟨t,b,j⟩
    ·exact .inl ⟨t,b,by lia⟩
    ·by_cases m:k<=f.2.2
     ·exact .inr ⟨t,b,by lia⟩
     ·exact .inl (over b (by lia))
   ·omega
  ·rcases I.W p h g G with ⟨t,b,j⟩ | ⟨t,b,j⟩
   ·exact .inl ⟨t,up1 O b,j⟩
   ·exact .inr ⟨t,b,j⟩
theorem JQ (C:Cl F u wt) (I:Inv F u wt c i) (O:Out F c i S) (R:nJ F u wt n (put c i S) i r) (d:put (put c i S) i r x=some s) (h:wt x e=some k) (a:F e=some f) (j:s-k<i):(∃t,put c i S e=some t/\t<=s)\/∃t,c f.1=some t/\t<=s-k:=by
 by_cases b:f.2.1<k
 ·rcases Lf C I O R d h a b with h | ⟨t,g,l⟩
  ·exact .inl h
  ·exact .inr ⟨t,g,by lia⟩
 ·exact .inr (Ls C I O R d h a (jV b) j)
theorem IS (C:Cl F u wt) (I:Inv F u wt c i) (O:Out F c i S) (R:nJ F u wt n (put c i S) i r) (e:put (put c i S) i r x=some s) (h:u x z=some v) (a:F z=some f) (m:s+v<=i):∃t,put c i S z=some t:=by
 obtain ⟨k,d,j⟩:=C.a3 h a;have p:=C.bM a;rcases JQ C I O R e d a (by lia) with ⟨t,b,_⟩ | ⟨t,b,l⟩
 ·exact ⟨t,b⟩
 ·cases o:c z with
  | some g=>exact ⟨g,up1 O o⟩
  | none=>exact ⟨i,vC (O.all a o b (by lia))⟩
theorem Pp (C:Cl F u wt) (I:Inv F u wt c i) (O:Out F c i S) (R:nJ F u wt n (put c i S) i r) (W:∀{a b v},u a b=some v->b<n) (d:put (put c i S) i r x=some s) (h:u x y=some v) (k:F y=none) (V:put c i S y=none) (J:s+v<=i):r y:=by
 refine R.most (λy=>r y\/(F y=none/\put c i S y=none/\∃x s v,put (put c i S) i r x=some s/\u x y=some v/\s+v<=i)) ?_ ?_ y (.inr ⟨k,V,x,s,v,d,h,J⟩)
 ·rintro y (h | ⟨G,A,x,s,v,_,m,_⟩)
  ·obtain ⟨G,A⟩:=R.own h;exact ⟨G,A,R.lt h⟩
  ·exact ⟨G,A,W m⟩
 ·rintro y (l | ⟨_,A,x,s,v,d,m,J⟩)
  ·obtain ⟨q,D⟩:=R.lets l;refine ⟨λz v p=>⟨(q z v p).1,λj=>?_⟩,D⟩;rcases (q z v p).2 j with h | ⟨h,M⟩
   ·exact .inl h
   ·exact .inr ⟨h,.inl M⟩
  ·refine ⟨λz L p=>?_,λe x1 f T k hk hm=>?_⟩
   ·by_cases e:x=z
    ·subst e;have Q:=C.loop m p;refine ⟨λt g=>?_,λj=>?_⟩
     ·rcases gh d with ⟨l,rfl⟩ | ⟨_,d⟩
      ·rw [(R.own l).2] at g;cases g
      ·rw [d] at g;cases g;lia
     ·rcases gh d with ⟨l,rfl⟩ | ⟨_,d⟩
      ·by_cases E:L=0
       ·exact .inr ⟨E,.inl l⟩
       ·exact .inl (by lia)
      ·rw [d] at j;cases j
    ·obtain ⟨X,o,N⟩:=C.sum m p e;obtain ⟨q,D⟩:=KK C I O R d o;refine ⟨λt g=>by have:=q t g;lia,λj=>?_⟩;have:=D j
     by_cases E:L=0
     ·cases Nz:F z with
      | some f=>
       obtain ⟨t,g⟩:=IS C I O R d o Nz (by lia);rw [j] at g;cases g
      | none=>exact .inr ⟨E,.inr ⟨Nz,j,x,s,X,d,o,by lia⟩⟩
     ·exact .inl (by lia)
   ·by_cases H:x=e
    ·subst H;rcases gh d with ⟨l,_⟩ | ⟨_,d⟩
     ·rw [(R.own l).1] at k;cases k
     ·exact .inl ⟨s,d⟩
    ·obtain ⟨k1,o,N⟩:=C.back T m k H;have Q:=C.bM k;rcases JQ C I O R d o k (by lia) with ⟨t,B,_⟩ | ⟨t,B,Y⟩
     ·exact .inl ⟨t,B⟩
     ·exact .inr ⟨t,up1 O B,by lia⟩
theorem Inv.next (C:Cl F u wt) (I:Inv F u wt c i) (O:Out F c i S) (R:nJ F u wt n (put c i S) i r) (V:∀{a b v},u a b=some v->b<n):Inv F u wt (put (put c i S) i r) (i+1):=by
 have A:∀{x t},put c i S x=some t->put (put c i S) i r x=some t:=λ{x t} h=>by refine (jy λq=>?_).trans h;rw [(R.own q).2] at h;cases h
 have T:∀{x s},put c i S x=some s->s<=i:=λ{x s} h=>by
  rcases gh h with ⟨_,rfl⟩ | ⟨_,h⟩
  ·exact fO _
  ·have:=I.past h;exact eA this
 refine ⟨λ{x s} h=>?_,λ{x y s t v} m j h=>?_,λ{x y s v} m j h=>?_,λ{x e s k f} m h d M=>?_,λ{e f t} d g=>?_,λ{e f s} d g p=>?_⟩
 ·rcases gh h with ⟨_,rfl⟩ | ⟨_,h⟩
  ·lia
  ·have:=T h;lia
 ·obtain ⟨E,G⟩:=KK C I O R m h;rcases gh j with ⟨q,rfl⟩ | ⟨_,j⟩
  ·exact G (R.own q).2
  ·exact E t j
 ·obtain ⟨Q,j⟩:=sf j;have:=(KK C I O R m h).2 j
  by_cases z:s+v<=i
  ·cases d:F y with
   | some f=>
    obtain ⟨t,D⟩:=IS C I O R m h d z;rw [j] at D;cases D
   | none=>exact absurd (Pp C I O R V m h d j z) Q
  ·lia
 ·rcases Lf C I O R m h d M with ⟨t,l,o⟩ | ⟨t,l,o⟩
  ·exact .inl ⟨t,A l,o⟩
  ·exact .inr ⟨t,A (up1 O l),o⟩
 ·rcases gh g with ⟨q,_⟩ | ⟨_,g⟩
  ·rw [(R.own q).1] at d;cases d
  ·rcases gh g with ⟨B,rfl⟩ | ⟨_,g⟩
   ·obtain ⟨W,s,l,o,H,J,L⟩:=O.ok B;rw [d] at l;cases l;exact ⟨s,A (up1 O H),J,L⟩
   ·obtain ⟨s,l,o⟩:=I.xy d g;exact ⟨s,A (up1 O l),o⟩
 ·obtain ⟨_,g⟩:=sf g;obtain ⟨B,g⟩:=sf g;have N:=C.bM d;rcases gh p with ⟨_,rfl⟩ | ⟨_,p⟩
  ·lia
  ·rw [jy (yT O N.2.2)] at p;have:=I.xC d g p
   by_cases z:s+f.2.2<=i
   ·exact absurd (O.all d g p z) B
   ·lia
end
end HK
namespace MU
theorem BO (g:bz n st) (h:st.bar=none) (b:ae st i=some p):∃z,val st p.key=some z/\¬dh p.tie p.v z:=by
 obtain ⟨j,k,c⟩:=g.top i p b;obtain ⟨d,a,f⟩:=g.at_ _ _ c;refine ⟨d.v,lM c a,?_⟩
 by_cases e:i=j
 ·subst e;rw [b] at a;cases a;exact uH _ _
 ·exact Lh (g.drop h i j p d b a f.symm (wa k e))
theorem yI (g:st.bar=none) (h:Kn st ⟨true,a,b,v⟩):(a=b/\0<=v)\/∃z,val st (true,a,b)=some z/\z<=v:=by
 by_cases e:a=b
 ·refine .inl ⟨e,?_⟩
  by_cases d:v<0
  ·exact absurd g (h.2 ⟨U,e,d⟩)
  ·exact jV d
 ·obtain ⟨z,f,c⟩:=h.1 e;refine .inr ⟨z,f,?_⟩;unfold dh at c;rw [if_pos rfl] at c;exact jV c
theorem BG (e:a≠b) (h:Kn st ⟨false,a,b,v⟩):∃z,val st (false,a,b)=some z/\v<=z:=by obtain ⟨z,d,c⟩:=h.1 e;refine ⟨z,d,?_⟩;unfold dh at c;rw [if_neg d_] at c;exact jV c
theorem Fin.cl (h:Fin n F most s0 T) (s:(run n F s0 T).bar=none) (hD:Drawn F D (run n F s0 T)) (hT:∀x,D x->x.tie=true):HK.Cl F (λa b=>val (run n F s0 T) (true,a,b)) (λa b=>val (run n F s0 T) (false,a,b)):=by
 have g:=u9 h.iC h.good T;have u:∀{x1 a b v},val (run n F s0 T) (x1,a,b)=some v->a≠b:=λ{x1 a b v} C=>by obtain ⟨i,p,_,j,_,L,G,_⟩:=h.row C;have:=g.ne s i p j;rw [L,G] at this;exact this
 refine ⟨λa=>?_,λ{a b v v'} l j=>?_,λ{a b c v v'} l j E'=>?_,λ{a e v f} l d=>?_,λ{e b v f} l C d=>?_,λ{a e x f} l d=>?_,λ{x e a k v f} l j d X=>?_,λ{e' e k g' f} l hk hg d=>?_,λ{x en k f} l d hk=>?_,λ{e f} d=>?_⟩
 ·cases C:val (run n F s0 T) (true,a,a) with
  | none=>rfl
  | some v=>exact absurd U (u C)
 ·rcases yI s (h.sum l j) with ⟨_,m⟩ | ⟨z,m,_⟩
  ·exact m
  ·exact absurd U (u m)
 ·rcases yI s (h.sum l j) with ⟨e,_⟩ | m
  ·exact absurd e E'
  ·exact m
 ·exact BG (u l) (h.a3 l (u l) d)
 ·rcases yI s (h.aS l (u l) C d) with ⟨B,V⟩ | m
  ·exact .inl ⟨B.symm,V⟩
  ·exact .inr m
 ·rcases yI s (h.sure l d) with ⟨B,V⟩ | m
  ·exact .inl ⟨B,by lia⟩
  ·exact .inr m
 ·exact BG X (h.back l j X d)
 ·refine BG ?_ (h.ao l (u l) hk hg d);intro B;have:=h.iC.own _ _ hg;rw [B,d] at this;cases this
 ·obtain ⟨i,p,_,j,Q,L,G,pv,_⟩:=h.row l;have ë:=j;unfold ae at j
  cases hr:(run n F s0 T).rows[i]? with
  | none=>rw [hr] at j;cases j
  | some r=>
   rw [hr] at j;have j:r.bP=p:=dG j;have O:∀{x y z},r.bP=(⟨true,x,y,z⟩:ah)->False:=λ{x y z} e=>by rw [<-j,e] at Q;cases Q
   rcases hD i r hr with ⟨_,_,x2⟩ | ⟨_,E,q,_,N,e⟩ | ⟨_,E,q,_,_,e⟩ | ⟨_,E,q,_,_,e⟩ | ⟨_,E,q,_,_,e⟩ | ⟨_,E,j',q,H,_,_,_,e⟩ | ⟨_,E,j',q,H,_,N,DR,e⟩
   ·have:=hT _ x2;rw [j,Q] at this;cases this
   ·unfold cz at e;split at e
    ·rename_i c
     cases o:F q.b with
     | none=>rw [o] at e;cases e
     | some W=>
      rw [o] at e;have e:=(dG e).symm;rw [j] at e;have R:q.a=x:=by rw [<-L,e]
      have t:q.b=en:=by rw [<-G,e]
      rw [t,d] at o;cases o;obtain ⟨z,I,A⟩:=BO g s N;have M:q.key=(true,x,en):=by unfold ah.key;rw [c.1,R,t]
      rw [M] at I;unfold dh at A;rw [if_pos c.1] at A;exact .inl ⟨z,I,by lia⟩
    ·cases e
   ·unfold cD at e;split at e
    ·cases d:F q.a with
     | none=>rw [d] at e;cases e
     | some f=>rw [d] at e;exact (O (dG e).symm).elim
    ·cases e
   ·unfold cG at e;split at e
    ·cases d:F q.b with
     | none=>rw [d] at e;cases e
     | some f=>rw [d] at e;exact (O (dG e).symm).elim
    ·cases e
   ·unfold cy at e;split at e
    ·cases ho:F q.a with
     | none=>rw [ho] at e;cases e
     | some x3=>
      rw [ho] at e
      cases J:F q.b with
      | none=>rw [J] at e;cases e
      | some W=>
       rw [J] at e;have e:=(dG e).symm;rw [j] at e;have t:q.b=en:=by rw [<-G,e]
       rw [t,d] at J;cases J;have kv:k=min q.v f.2.2-x3.2.1:=by rw [<-pv,e]
       have:=h.iC.num _ _ ho;omega
    ·cases e
   ·unfold av at e;split at e
    ·exact (O (dG e).symm).elim
    ·cases e
   ·unfold aR at e;split at e
    ·rename_i c
     cases o:F q.b with
     | none=>rw [o] at e;cases e
     | some W=>
      rw [o] at e;have e:=(dG e).symm;rw [j] at e;have R:H.a=x:=by rw [<-L,e]
      have t:q.b=en:=by rw [<-G,e]
      rw [t,d] at o;cases o;have kv:k=min q.v f.2.2-H.v:=by rw [<-pv,e]
      obtain ⟨z,I,A⟩:=BO g s DR;obtain ⟨y,y1,S⟩:=BO g s N;have M:H.key=(true,x,q.a):=by unfold ah.key;rw [c.2.1,R,c.2.2.1]
      have w_:q.key=(false,q.a,en):=by unfold ah.key;rw [c.1,t]
      rw [M] at I;rw [w_] at y1;unfold dh at A S;rw [if_pos c.2.1] at A;rw [if_neg (by rw [c.1];exact d_)] at S;exact .inr ⟨q.a,q.v,H.v,z,y,I,jV A,y1,jV S,kv⟩
    ·cases e
 ·have:=h.iC.num _ _ d;exact ⟨this.1,this.2.1,h.iC.own _ _ d⟩
end MU
namespace HK
structure Zero (F:c9) (u:Nat->Nat->Option Int) (n:Nat) (la:Int):Prop where
 own:F 0=none
 pos:0<n
 lt:∀{a b v},u a b=some v->a<n/\b<n
 Mz:∀{y},y<n->y≠0->∃v,u y 0=some v/\v<=0
 of0:∀{y},y<n->y≠0->∃v,u 0 y=some v/\v<=la
theorem Zero.nonneg (Z:Zero F u n la) (C:Cl F u wt) (h:u 0 y=some v):0<=v:=by
 have b:y≠0:=λe=>by rw [e,C.Xy] at h;cases h
 obtain ⟨d,a,c⟩:=Z.Mz (Z.lt h).2 b;have:=C.loop h a;lia
theorem Zero.jC (Z:Zero F u n la) (C:Cl F u wt) (h:wt 0 e=some k) (a:F e=some f) (d:0<k):False:=by
 have g:=C.bM a;rcases C.sure h a with ⟨_,c⟩ | ⟨z,b,c⟩
 ·lia
 ·have:=Z.nonneg C b;lia
theorem Zero.wD (Z:Zero F u n la) (C:Cl F u wt) (h:u 0 e=some v) (d:v<=0):F e=none:=by
 cases hf:F e with
 | none=>rfl
 | some f=>
  obtain ⟨k,a,b⟩:=C.a3 h hf;have c:=C.bM hf;exact (Z.jC C a hf (by lia)).elim
theorem Rc (Z:Zero F u n la) (C:Cl F u wt) (l:∀x,c x=none) (R:nJ F u wt n c 0 r):r 0:=by
 refine R.most (λy=>y=0\/∃v,u 0 y=some v/\v<=0) ?_ ?_ 0 (.inl U)
 ·rintro y (rfl | ⟨v,a,j⟩)
  ·exact ⟨Z.own,l _,Z.pos⟩
  ·exact ⟨Z.wD C a j,l _,(Z.lt a).2⟩
 ·intro y p;refine ⟨λz i h=>⟨λt m=>(by rw [l] at m;cases m),λ_=>?_⟩,λe k f o b D G=>?_⟩
  ·rcases p with rfl | ⟨v,a,j⟩
   ·have:=Z.nonneg C h
    by_cases d:i=0
    ·exact .inr ⟨d,.inr ⟨i,h,by lia⟩⟩
    ·exact .inl (by lia)
   ·by_cases e:0=z
    ·subst e;have:=C.loop a h
     by_cases d:i=0
     ·exact .inr ⟨d,.inl U⟩
     ·exact .inl (by lia)
    ·obtain ⟨B,g,s⟩:=C.sum a h e;have:=Z.nonneg C g
     by_cases d:i=0
     ·exact .inr ⟨d,.inr ⟨B,g,by lia⟩⟩
     ·exact .inl (by lia)
  ·have E:=C.bM b;refine (?_:False).elim;rcases p with rfl | ⟨v,a,j⟩
   ·exact Z.jC C o b (by lia)
   ·have A:0≠e:=λq=>by rw [<-q,Z.own] at b;cases b
    obtain ⟨H,g,s⟩:=C.back o a b A;exact Z.jC C g b (by lia)
theorem Sr (a:∀x,c x=none) (i:Int):Inv F u wt c i:=by
 refine ⟨?_,?_,?_,?_,?_,?_⟩
 ·intro x s h;rw [a] at h;cases h
 ·intro x y s t v h;rw [a] at h;cases h
 ·intro x y s v h;rw [a] at h;cases h
 ·intro x e s k f h;rw [a] at h;cases h
 ·intro e f t _ h;rw [a] at h;cases h
 ·intro e f s _ _ h;rw [a] at h;cases h
structure At (F:c9) (u wt:Nat->Nat->Option Int) (c:Nat->Option Int) (i:Int):Prop where
 inv:Inv F u wt c i
 zero:0<i->c 0=some 0
 fresh:i=0->∀x,c x=none
theorem At.next (Z:Zero F u n la) (C:Cl F u wt) (k:0<=i) (A:At F u wt c i) (O:Out F c i S) (R:nJ F u wt n (put c i S) i r):At F u wt (put (put c i S) i r) (i+1):=by
 refine ⟨A.inv.next C O R (λh=>(Z.lt h).2),λ_=>?_,λh=>by lia⟩
 by_cases a:i=0
 ·have d:=A.fresh a;have e:∀x,put c i S x=none:=λx=>by
   refine (jy λj=>?_).trans (d x);obtain ⟨f,s,_,_,b,_⟩:=O.ok j;rw [d] at b;cases b
  subst a;exact vC (Rc Z C e R)
 ·have h:=up1 O (A.zero (by lia));refine (jy λg=>?_).trans h;rw [(R.own g).2] at h;cases h
theorem At.done (Z:Zero F u n la) (C:Cl F u wt) (f:0<=la) (A:At F u wt c (la+1)) (d:y<n):∃t,c y=some t/\0<=t/\t<=la:=by
 have a:=A.zero (by lia)
 by_cases e:y=0
 ·exact ⟨0,e▸a,by exact jJ (0+0),f⟩
 ·obtain ⟨v,b,h⟩:=Z.of0 d e;obtain ⟨j,g,i⟩:=Z.Mz d e
  cases o:c y with
  | none=>have:=A.inv.dl a o b;lia
  | some t=>exact ⟨t,U,by have:=A.inv.K o a g;lia,by have:=A.inv.K a o b;lia⟩
def Ma (F:ia) (u a:Nat->Nat->Option Int) (n:Nat) (c:Nat->Option Int) (i:Int) (y:Nat):Prop:=∃R:Nat->Prop,(∀z,R z->(F z=none/\c z=none/\z<n)/\CD F u a c i R z)/\R y
def oS (F:ia) (o:Nat->Int) (c:Nat->Option Int) (i:Int) (e:Nat):Prop:=∃f s,F e=some f/\c e=none/\c f.1=some s/\s+o e=i
def step (F:ia) (u a:Nat->Nat->Option Int) (n:Nat) (c:Nat->Option Int) (i:Int) (S:Nat->Prop):Nat->Option Int:=put (put c i S) i (Ma F u a n (put c i S) i)
def gM (F:ia) (u a:Nat->Nat->Option Int) (n:Nat) (o:Nat->Int):Nat->(Nat->Option Int)
 | 0=>λ_=>none
 | i+1=>step F u a n (gM F u a n o i) i (oS F o (gM F u a n o i) i)
section
theorem BN:nJ F u wt n c i (Ma F u wt n c i):=by
 refine ⟨λ⟨R,h,d⟩=>⟨(h _ d).1.1,(h _ d).1.2.1⟩,λ⟨R,h,d⟩=>(h _ d).1.2.2,λ{y} ⟨R,h,d⟩=>?_,λR g j y d=>⟨R,λz f=>⟨g z f,j z f⟩,d⟩⟩;obtain ⟨a,b⟩:=(h _ d).2;refine ⟨λz v e=>⟨(a z v e).1,λq=>?_⟩,b⟩;rcases (a z v e).2 q with q | ⟨k,l⟩
 ·exact .inl q
 ·exact .inr ⟨k,R,h,l⟩
structure Pl (F:ia) (o:Nat->Int) (c:Nat->Option Int) (i:Int):Prop where
 a:∀{e f t},F e=some f->c e=some t->∃s,c f.1=some s/\t=s+o e
 b:∀{e f s},F e=some f->c e=none->c f.1=some s->i<=s+o e
theorem Pl.out (P:Pl F o c i) (g:cQ F o):Out F c i (oS F o c i):=by
 refine ⟨λ{e} ⟨f,s,a,b,d,h⟩=>?_,λ{e f s} a b d h=>?_⟩
 ·have:=g e f a;exact ⟨f,s,a,b,d,by lia,by lia⟩
 ·have:=g e f a;have:=P.b a b d;exact ⟨f,s,a,b,d,by lia⟩
theorem BE (O:Out F c i S) (h:c x=some t):step F u wt n c i S x=some t:=by have a:=up1 O h;refine (jy λb=>?_).trans a;rw [(BN.own b).2] at a;cases a
theorem Pl.next (P:Pl F o c i) (C:Cl F u wt) (j:cQ F o):Pl F o (step F u wt n c i (oS F o c i)) (i+1):=by
 have O:=P.out j;have q:∀{e f},F e=some f->put c i (oS F o c i) f.1=c f.1:=λh=>jy (yT O (C.bM h).2.2);refine ⟨λ{e f t} h a=>?_,λ{e f s} h a b=>?_⟩
 ·rcases gh a with ⟨m,_⟩ | ⟨_,a⟩
  ·have:=(BN.own m).1;rw [h] at this;cases this
  ·rcases gh a with ⟨⟨r,s,d,g,k,l⟩,rfl⟩ | ⟨_,a⟩
   ·rw [h] at d;cases d;exact ⟨s,BE O k,l.symm⟩
   ·obtain ⟨s,d,g⟩:=P.a h a;exact ⟨s,BE O d,g⟩
 ·obtain ⟨_,a⟩:=sf a;obtain ⟨p,a⟩:=sf a;have v:=j e f h;have x:=C.bM h;rcases gh b with ⟨_,rfl⟩ | ⟨_,b⟩
  ·lia
  ·rw [q h] at b;have:=P.b h a b
   by_cases z:s+o e=i
   ·exact absurd ⟨f,s,h,a,b,z⟩ p
   ·lia
theorem vJ (Z:Zero F u n la) (C:Cl F u wt) (c:cQ F o) (i:Nat):At F u wt (gM F u wt n o i) i/\Pl F o (gM F u wt n o i) i:=by
 induction i with
 | zero=>exact ⟨⟨Sr (λ_=>rfl) _,λh=>absurd h (by exact Int.not_lt.mpr (fO ↑0)),λ_ _=>rfl⟩,λh b=>(nomatch b),λh b d=>(nomatch d)⟩
 | succ i a=>exact ⟨a.1.next Z C (by exact jJ (i+0)) (a.2.out c) BN,a.2.next C c⟩
theorem K6 (Z:Zero F u n la) (C:Cl F u wt) (a:cQ F o) (h:i<=j) (b:gM F u wt n o i x=some t):gM F u wt n o j x=some t:=by
 induction h with
 | refl=>exact b
 | step _ c=>exact BE ((vJ Z C a _).2.out a) c
theorem JA (Z:Zero F u n la) (C:Cl F u wt) (a:cQ F o) (b:gM F u wt n o i x=some t) (c:gM F u wt n o j x=some t'):t=t':=by
 rcases Nat.le_total i j with h | h
 ·have:=K6 Z C a h b;rw [c] at this;cases this;rfl
 ·have:=K6 Z C a h c;rw [b] at this;cases this;rfl
theorem QQ (h:gM F u wt n o j x=some t):∃k:Nat,t=k/\gM F u wt n o (k+1) x=some t:=by
 induction j with
 | zero=>cases h
 | succ j b=>
  rcases gh h with ⟨_,e⟩ | ⟨_,a⟩
  ·exact ⟨j,e,h⟩
  ·rcases gh a with ⟨_,e⟩ | ⟨_,a⟩
   ·exact ⟨j,e,h⟩
   ·exact b a
def fL (F:ia) (u a:Nat->Nat->Option Int) (n:Nat) (la:Int) (o:Nat->Int) (x:Nat):Int:=(gM F u a n o (la.toNat+1) x).getD 0
theorem tm_at (Z:Zero F u n la) (C:Cl F u wt) (d:0<=la) (f:cQ F o) (g:x<n):gM F u wt n o (la.toNat+1) x=some (fL F u wt n la o x)/\0<=fL F u wt n la o x/\fL F u wt n la o x<=la:=by
 have A:=(vJ Z C f (la.toNat+1)).1;rw [show ((la.toNat+1:Nat):Int)=la+1 by lia] at A;obtain ⟨t,a,b,c⟩:=A.done Z C d g;have e:fL F u wt n la o x=t:=by unfold fL;rw [a];rfl
 rw [e];exact ⟨a,b,c⟩
theorem pC (Z:Zero F u n la) (C:Cl F u wt) (b:0<=la) (a:cQ F o):fL F u wt n la o 0=0:=by have:=(vJ Z C a (la.toNat+1)).1.zero (by lia);unfold fL;rw [this];rfl
theorem m4 (Z:Zero F u n la) (C:Cl F u wt) (b:0<=la) (a:cQ F o) (h:u x y=some v):fL F u wt n la o y<=fL F u wt n la o x+v:=by obtain ⟨c,d⟩:=Z.lt h;exact (vJ Z C a (la.toNat+1)).1.inv.K (tm_at Z C b a c).1 (tm_at Z C b a d).1 h
theorem mz (Z:Zero F u n la) (C:Cl F u wt) (g:0<=la) (v:fw n F most):cx F n (fL F u wt n la):=by
 refine ⟨λ{o e f} b d=>?_,λ{o e f l t} b d I J N O {m} y h=>?_⟩
 ·obtain ⟨D,E,_⟩:=fo v d;obtain ⟨s,a,j⟩:=(vJ Z C b (la.toNat+1)).2.a d (tm_at Z C g b E).1;rw [(tm_at Z C g b D).1] at a;cases a;exact j
 ·have ok:=b.set d I J;have G:=(tm_at Z C g b (fo v d).1).1;have L:∀i:Nat,(i:Int)<=t+1->gM F u wt n (d8 o e l) i=gM F u wt n o i:=λi=>by
   induction i with
   | zero=>intro _;rfl
   | succ i r=>
    intro H;have r:=r (by exact eA H);show step F u wt n (gM F u wt n (d8 o e l) i) i (oS F (d8 o e l) (gM F u wt n (d8 o e l) i) i)=step F u wt n (gM F u wt n o i) i (oS F o (gM F u wt n o i) i);rw [r];have:oS F (d8 o e l) (gM F u wt n o i) i=oS F o (gM F u wt n o i) i:=by
     funext x
     by_cases c:x=e
     ·subst c;have A:∀{s},gM F u wt n o i f.1=some s->s=fL F u wt n la o f.1:=λh=>JA Z C b h G;refine propext ⟨λ⟨B,s,a,j,p,q⟩=>?_,λ⟨B,s,a,j,p,q⟩=>?_⟩
      ·rw [d] at a;cases a;rw [kO,A p] at q;lia
      ·rw [d] at a;cases a;rw [A p] at q;lia
     ·unfold oS;rw [ml c]
    rw [this]
  obtain ⟨k,M,z⟩:=QQ (tm_at Z C g b y).1;rw [<-L (k+1) (by lia)] at z;exact (JA Z C ok z (tm_at Z C g ok y).1).symm
end
end HK
namespace Y0
open PySem L2
abbrev Aj (st:MU.St) (a b:Nat):Option Int:=MU.val st (true,a,b)
abbrev Mn (st:MU.St) (a b:Nat):Option Int:=MU.val st (false,a,b)
section
variable {n:Nat}
theorem Tw (a:cT (n:Int) la T F) (b:vu n (bw F) (jP n la T F) Te) (c:(gO n la T F Te).bar=none):HK.Cl (bw F) (Aj (gO n la T F Te)) (Mn (gO n la T F Te)):=
 MU.Fin.cl (D:=λx=>x∈(cU (n:Int) la T F).map eJ) ⟨a.iC,(Cj a).good,λt d=>(b.first t d).1,b.end_.elim id λz=>absurd c z⟩ c (MU.KA (MU.L7 _ _ MU.RK λ_ h=>h) Te) λx e=>(rK a.ir x e).2.2
theorem Cz (j:cT (n:Int) la T F) (h:r∈cU (n:Int) la T F):∃z,Aj (gO n la T F Te) (eJ r).a (eJ r).b=some z/\z<=(eJ r).v:=by
 obtain ⟨a,b,v,rfl,k,_,l,_,m⟩:=j.ir r h;have f:a.toNat≠b.toNat:=by lia
 obtain ⟨u,g,c⟩:=zY _ empty _ (cn.mpr ⟨_,h,U⟩) (show (eJ [a,b,v]).a≠(eJ [a,b,v]).b from f);obtain ⟨e,i,d⟩:=(MU.pj (n:=n) (F:=bw F) (s:=jP n la T F) (cN Te)).2 (true,a.toNat,b.toNat) u f g;refine ⟨e,i,?_⟩;unfold dh at c d;have c:¬if true=true then v<u else u<v:=c;have d:¬if true=true then u<e else e<u:=d;rw [if_pos rfl] at c d;show e<=v;lia
theorem OV (d:cT (n:Int) la T F) (s:(gO n la T F Te).bar=none):HK.Zero (bw F) (Aj (gO n la T F Te)) n la:=by
 have u:=d.n1;have p:bz n (gO n la T F Te):=MU.u9 d.iC (Cj d).good Te;have room:∀{y:Nat},y<n->y≠0->[0,(y:Int),la]∈cU (n:Int) la T F/\[(y:Int),0,0]∈cU (n:Int) la T F:=λ{y} e c=>by obtain ⟨j,o⟩:=BX (la:=la) (i:=y-1) (k:=((n:Int)-1).toNat) (PZ e c);rw [show ((y-1:Nat):Int)+1=(y:Int) by exact Q4 c] at j o;exact ⟨h_ _ (h_ _ j),h_ _ (h_ _ o)⟩
 refine ⟨C9 λr t z=>?_,by lia,λ{a b v} h=>(MU.nV p s h).2,λ{y} e c=>?_,λ{y} e c=>?_⟩
 ·obtain ⟨a,b,l,m,rfl,_,_,q,_⟩:=d.f r t;have z:some b=some ((0:Nat):Int):=z;cases z;exact absurd q (by exact Int.not_lt.mpr (fO ↑0))
 ·obtain ⟨z,f,g⟩:=Cz (Te:=Te) d (room e c).2;exact ⟨z,f,g⟩
 ·obtain ⟨z,f,g⟩:=Cz (Te:=Te) d (room e c).1;exact ⟨z,f,g⟩
end
theorem Lq:∀{k:Nat} {r:List Int},r∈gN la k->∃i:Nat,i<k/\(r=[0,(i:Int)+1,la]\/r=[(i:Int)+1,0,0])
 | 0,_,h=>nomatch h
 | k+1,r,h=>by
  unfold gN at h;rcases fe.mp h with h | h
  ·obtain ⟨i,a,b⟩:=Lq h;exact ⟨i,by exact fQ a,b⟩
  ·rcases eG.mp h with h | h
   ·exact ⟨k,by exact eN,.inl h⟩
   ·exact ⟨k,by exact eN,.inr (dF.mp h)⟩
theorem Lx (d:oK rows) (h:r∈gb rows):∃a b l m:Int,[a,b,l,m]∈rows/\(r=[a,b,m]\/r=[b,a,-l]):=by
 unfold gb at h;obtain ⟨x,f,e⟩:=List.mem_flatten.mp h;obtain ⟨y,c,rfl⟩:=cn.mp f;obtain ⟨a,b,l,m,rfl⟩:=d y c;rcases eG.mp e with h | h
 ·exact ⟨a,b,l,m,c,.inl h⟩
 ·exact ⟨a,b,l,m,c,.inr (dF.mp h)⟩
theorem Qd (h:[a,b,l,m]∈rows):[a,b,m]∈gb rows/\[b,a,-l]∈gb rows:=by unfold gb;exact ⟨List.mem_flatten.mpr ⟨_,cn.mpr ⟨_,h,U⟩,dB⟩,List.mem_flatten.mpr ⟨_,cn.mpr ⟨_,h,U⟩,eI _ dB⟩⟩
section
variable {n:Nat}
theorem ON (h:cT (n:Int) la T F) (S:HK.cx (bw F) n tm) (q:∀o,HK.cQ (bw F) o->tm o 0=0/\∀i,i<n->0<=tm o i/\tm o i<=la)
 (g:∀{a b l m:Int},[a,b,l,m]∈T->∀o,HK.cQ (bw F) o->l<=tm o b.toNat-tm o a.toNat/\tm o b.toNat-tm o a.toNat<=m) (c:r∈cU (n:Int) la T F) (f:HK.cQ (bw F) o):tm o (eJ r).b<=tm o (eJ r).a+(eJ r).v:=by
 obtain ⟨G,k⟩:=q o f;unfold cU at c;rcases fe.mp c with c | c
 ·rcases fe.mp c with c | c
  ·obtain ⟨i,z,rfl | rfl⟩:=Lq c
   ·show tm o ((i:Int)+1).toNat<=tm o 0+la;have:=k ((i:Int)+1).toNat (by omega);lia
   ·show tm o 0<=tm o ((i:Int)+1).toNat+0;have:=k ((i:Int)+1).toNat (by omega);lia
  ·obtain ⟨a,b,l,m,d,rfl | rfl⟩:=Lx h.ko c
   ·have:=g d o f;show tm o b.toNat<=tm o a.toNat+m;lia
   ·have:=g d o f;show tm o a.toNat<=tm o b.toNat+ -l;lia
 ·obtain ⟨a,b,l,m,d,e⟩:=Lx h.iQ c;obtain ⟨x,y,A,B,p,C,D,v,E,_⟩:=h.f _ d;cases p;have u:((b.toNat:Nat):Int)=b:=lA (eA v);have j:=h.eo (e:=b.toNat) (by rw [u];exact d);have s:=f _ _ j;have t:=S.bM f j;dsimp only at s t;rcases e with rfl | rfl
  ·show tm o b.toNat<=tm o a.toNat+m;lia
  ·show tm o a.toNat<=tm o b.toNat+ -l;lia
theorem Pn (h:cT (n:Int) la T F) (S:HK.cx (bw F) n tm) (j:∀o,HK.cQ (bw F) o->tm o 0=0/\∀i,i<n->0<=tm o i/\tm o i<=la)
 (k:∀{a b l m:Int},[a,b,l,m]∈T->∀o,HK.cQ (bw F) o->l<=tm o b.toNat-tm o a.toNat/\tm o b.toNat-tm o a.toNat<=m) (t:Nat):(gO n la T F t).bar=none:=by
 have g:HK.cQ (bw F) (λe=>((bw F e).map λf=>f.2.1).getD 0):=λe f c=>by dsimp only;rw [c];exact ⟨fO _,(h.iC.num e f c).2.1⟩
 refine S.wF h.iC (MU.K' _ _ MU.QM λw d=>?_) (L3 _ _ Ll) g t;obtain ⟨r,q,rfl⟩:=cn.mp d;obtain ⟨s,u,v⟩:=rK h.ir _ d;refine ⟨s,u,λ_ o p=>ON h S j k q p,λz=>absurd (v.symm.trans z) (by decide)⟩
end
seal L2.kT L2.gQ L2.gU L2.eL L2.gu L2.gv L2.gT L2.gS L2.dv Y0.aI
theorem cT.take (h:cT n la T F) (i j:Nat):cT n la (T.take i) (F.take j):=by
 refine ⟨h.n1,h.n2,h.l1,h.l2,?_,?_,λr c=>h.t r (qi c),λr c=>h.f r (qi c),λa b r g d f e=>?_,λr c g k=>h.own r (qi c) g (qi k)⟩
 ·rw [fU];have:=h.tl;lia
 ·rw [fU];have:=h.fl;lia
 ·rw [List.getElem?_take] at d f;split at d
  ·split at f
   ·exact h.one a b r g d f e
   ·cases f
  ·cases d
theorem QD {N Te:Nat} {la:Int} {T F:List (List Int)} (d:cT (N:Int) la T F) (O:vu N (bw F) (jP N la T F) Te):
 (gO N la T F Te).bar=none↔fi N la T F (la.toNat+1) (List.replicate N none)=true:=by
 have n:=Mm d;have j:0<=la:=by have:=d.l1;lia
 have D:0<N:=by have:=d.n1;lia
 have y:bw F 0=none:=by
  cases h:bw F 0 with
  | none=>rfl
  | some f=>
   obtain ⟨_,_,_,_,_,_,_,z,_⟩:=d.find h;exact absurd z (Int.lt_irrefl _)
 have v:∀b∈(cU (N:Int) la T F).map fC,∃r∈cU (N:Int) la T F,b=((eJ r).a,(eJ r).b,(eJ r).v)/\b.1<N/\b.2.1<N:=λb t=>by obtain ⟨r,p,rfl⟩:=cn.mp t;obtain ⟨a,c,x3,rfl,q,s⟩:=d.idx r p;exact ⟨_,p,U,by show (a:Int).toNat<N;lia,by show (c:Int).toNat<N;lia⟩
 refine ⟨λA=>?_,λV=>?_⟩
 ·have Z:=OV (Te:=Te) d A;have C:=Tw d O A;have S:=HK.mz Z C j d.iC;have k:HK.cQ (bw F) (λe=>((bw F e).map λf=>f.2.1).getD 0):=λe f i=>by
   dsimp only;rw [i];exact ⟨fO _,(d.iC.num e f i).2.1⟩
  have:=HG.mx S n y (λo g=>⟨HK.pC Z C j g,λx1 Q=>(HK.tm_at Z C j g Q).2⟩) (B:=(cU (N:Int) la T F).map fC) (λb t=>by
   obtain ⟨r,p,rfl,q,s⟩:=v b t;refine ⟨q,s,λo g=>?_⟩;obtain ⟨z,M,e2⟩:=Cz (Te:=Te) d p;have x2:=HK.m4 Z C j g M;show _<=_+(eJ r).v;lia) D la.toNat _ k (by lia)
  rw [show la-((la.toNat:Nat):Int)=0 by lia] at this;have e:HG.eV (bw F) N (HK.fL (bw F) (Aj (gO N la T F Te)) (Mn (gO N la T F Te)) N la) 0 (λe=>((bw F e).map λf=>f.2.1).getD 0)=List.replicate N none:=by
   refine HG.dZ (by rw [HG.cA,uh]) λx u=>?_;rw [HG.cA] at u;have q:=(HK.tm_at Z C j k u).2.1;rw [HG.gj];show HG.af ((List.range N).map _) x=none;rw [HG.cM u];refine if_neg ?_;rintro (z | ⟨z,Y⟩)
   ·lia
   ·obtain ⟨f,i⟩:=Option.isSome_iff_exists.mp Y;have s:=S.bM k i;have h3:=(HK.tm_at Z C j k (n.lt x f i).1).2.1;have h4:=(k x f i).1;have h5:=(n.lt x f i).2.2.1;lia
  rw [e] at this;exact this
 ·obtain ⟨S,h⟩:=HG.tu n j D V y;refine Pn d S (λo g=>(h o g).1) (λ{a b l m} R o g=>?_) Te;obtain ⟨W,X⟩:=Qd R;have H:[a,b,m]∈cU (N:Int) la T F:=h_ _ (i5 _ W);have I:[b,a,-l]∈cU (N:Int) la T F:=h_ _ (i5 _ X);obtain ⟨_,_,_,J⟩:=v _ (cn.mpr ⟨_,H,U⟩);obtain ⟨_,_,_,L⟩:=v _ (cn.mpr ⟨_,I,U⟩);have E:=(h o g).2 _ (cn.mpr ⟨_,H,U⟩) J.1 J.2;have G:=(h o g).2 _ (cn.mpr ⟨_,I,U⟩) L.1 L.2;have E:HG.jf _ _ _ _ _ o b.toNat<=HG.jf _ _ _ _ _ o a.toNat+m:=E;have G:HG.jf _ _ _ _ _ o a.toNat<=HG.jf _ _ _ _ _ o b.toNat+ -l:=G;lia
end Y0
namespace L2
open PySem PySem.Spec PyProof.Rows
end L2
namespace Y0
open PySem L2
seal L2.PE L2.PA L2.PT L2.PS L2.eZ L2.PG L2.kG L2.PI L2.PO
theorem G' {a:List Addr} {i:Nat}:ie (a.map V.ref) none (some (i:Int))=(a.take i).map V.ref:=by unfold ie;rw [cb,cZ,List.drop_zero,Nat.sub_zero,List.map_take];rw [<-List.take_eq_take_min]
theorem C0:∀{l:List α} {m:List β} (n:Nat),Paired F l m->Paired F (l.take n) (m.take n)
 | _,_,0,_=>.nil
 | _,_,_+1,.nil=>.nil
 | _,_,n+1,.cons r t=>.cons r (C0 n t)
seal L2.kT L2.gQ L2.gU L2.eL L2.gu L2.gv L2.gT L2.gS L2.dv Y0.aI
theorem sY (o:wx H) (h:a5 K H a (ns.map V.int)):ma K H a ns:=by
 rcases h with (h | h) | h
 ·rcases o a with z | ⟨b,c,z⟩
  ·rw [z] at h;cases h
  ·rw [z] at h;cases h
 ·exact .inl h
 ·exact .inr h
def qQ (K:aW):Sp:=λd H Q _=>∃a c,d=[.ref a]/\ma K H a c/\∀b,Q (.bl true) b
structure yj (K:aW) (mg:Str->Option Value):Prop where
 Xx:mg "isinstance"=none
 tuple:mg "tuple"=none
 int:mg "int"=none
 range:mg "range"=none
theorem UX:PySem.W.kitOne K (.type "tuple") (.type "tuple")=some true:=by unfold PySem.W.kitOne;rw [if_pos (by decide+kernel)]
section
abbrev MS:List Str:=["_law_script","_law_d","_law_w","_law_found","_law_due"]
theorem uK:cf MS ġ (aT pE):=cH
theorem SI:gF (aT pE) MS (jF [(".0",.local),("_law_k",.local)]) ["_law_k"] [none]:=jH
theorem Sw:(["_law_k"]:List Str).Nodup:=by decide+kernel
theorem ts (ZT:Fn K mg "law" pE ġ f fd) (T:yj K mg) (TC:nO K mg C)
 (FW:Fn K mg "_law_web" m8 MX fW Fp) (GW:au P w K mg base aw 3 fW Fp MX (Mq K))
 (M:Mk K C fI) (bI:fb K Ft ă []) (GI:au P w K mg base aw 3 fI Ft ă (HD C))
 (FK:Fn K mg "kept" eX ċ fK Fs) (GK:au P w K mg base aw 6 fK Fs ċ (Hf C))
 (FV:Fn K mg "_law_wins" dW qq fV NL) (L:∀k,au P w K mg base aw (k+3) fV NL qq (vF P w k)):
 au P w K mg base aw 8 f fd ġ (qQ K):=by
 have L:au P w K mg base aw 7 fV NL qq (λF H Q E=>∃k,k<=4/\vF P w k F H Q E):=
  ⟨λF H Q E ⟨k,_,h⟩=>(L k).len F H Q E h,λx1 outer x2 H args us F Q E A e0 l hv ⟨k,hk,h⟩=>(L k).run x1 outer x2 H args us F Q E (A.mono (by lia)) e0 l hv h⟩
 refine ZT.F.cK uK λ_ x1 _ x2 H _ Q E A h=>?_;obtain ⟨a,ns,rfl,Y1,k⟩:=h;have DP:cI 3 _:=A.mono (by decide);have XM:cI 4 _:=A.mono (by decide);have XJ:cI 6 _:=A.mono (by decide);refine ⟨_,bp (bR 1 uK.nd (iA (a_ (pv 0) az)))
  (bp (bR 2 uK.nd (bQ GW DP FW (jh (pv 1) az az az)))
  (bp (bR 2 uK.nd (cE (jh (aF (pv 2)) (aF (pv 2)) (mu BC (aF (pv 2)) mi (mj az)) (mu BC (aF (pv 2)) mi (mj az)))))
  (bp (bR 3 uK.nd (bQ GK XJ FK (bY (I0 M GI XM U TC.Xb bI .nil fy (jh (aF (pv 2)) (aF (pv 2)) (aF (pv 2)) (aF (pv 2)))))))
  (bp (bR 4 uK.nd (bQ L A FV (jh (pv 2) az (qK C4 (by rfl) T.tuple (by decide+kernel) (bY (mh U (sE U T.range (bY (aF (pv 2)))) SI (λcl ex s0 H0=>⟨bO 0 Sw,oi,jw⟩)))) VG)))
  (a0 (cm (v9 (j4 RH (by rfl) T.Xx (by decide+kernel) (a_ (pv 3) (VC (v:=.ty "tuple") U T.tuple (by decide+kernel) U)))
   (Bt (oN fc (aF (pv 3)) (dE gd (iA (a_ dJ dJ)) (qK Qt (by rfl) T.int (by decide+kernel) (bY (pv 4))))))))))))),?_⟩
 refine λt g=>aa U ⟨cX U,λd hd=>g _ _ ?_⟩;have D0:dI K a (upd H d (.lst [.ref a,.int 0])) d:=⟨⟨0,ak⟩,⟨ns,Y1.same (aK hd)⟩⟩;generalize upd H d (.lst [.ref a,.int 0])=H0 at*;clear g t;refine λt g=>aa U ⟨d,a,4,4,2,U,D0,by decide,by decide,by decide,by decide,by decide,by decide,λwp ta fa n c rT rF H1 B RT RF i n2 nm lm D1 k1 Â ì ny=>g _ _ ?_⟩;clear g t;obtain ⟨N,rfl⟩:∃N:Nat,n=N:=⟨n.toNat,by lia⟩;obtain ⟨W,Rt⟩:=RT;obtain ⟨S,Rf⟩:=RF;refine λt g=>aa U (aE B U (aa U (aE B U (aa U (aE B U ⟨_,U,ta,_,U,a5.of Rt.1,λm wX=>?_⟩)))));rw [show (4:Int)=((4:Nat):Int) from rfl,G'];have D:=aK (o:=.lst ((W.take 4).map V.ref)) wX;refine aa U (aE (D _ _ B) U ⟨_,U,fa,_,U,a5.of (D _ _ Rf.1),λp A2=>?_⟩);rw [show (2:Int)=((2:Nat):Int) from rfl,G'];have q:=aK (o:=.lst ((S.take 2).map V.ref)) A2;refine ⟨cX U,λG X6=>g _ _ ?_⟩;clear g t;have u:=aK (o:=.tup [.int (N:Int),.int c,.ref m,.ref p]) X6;have s:mf (upd (upd (upd H1 m (.lst ((W.take 4).map V.ref))) p (.lst ((S.take 2).map V.ref))) G (.tup [.int (N:Int),.int c,.ref m,.ref p])) G m p (N:Int) c (rT.take 4) (rF.take 2):=by
  refine ⟨ak,⟨W.take 4,u _ _ (q _ _ ak),?_⟩,⟨S.take 2,u _ _ ak,?_⟩⟩
  ·exact Paired.g9 (C0 4 Rt.2) λ_ _ z=>u _ _ (q _ _ (D _ _ z))
  ·exact Paired.g9 (C0 2 Rf.2) λ_ _ z=>u _ _ (q _ _ (D _ _ z))
 have i:=i.take 4 2;generalize rT.take 4=J,rF.take 2=I at*;generalize upd (upd (upd H1 m (.lst ((W.take 4).map V.ref))) p (.lst ((S.take 2).map V.ref))) G (.tup [.int (N:Int),.int c,.ref m,.ref p])=H2 at*;clear D q u Rt Rf B D0 D1 k1;obtain ⟨Te,hE⟩:=Rh i i.l2;have iff:=QD i hE;refine λt g=>aa U (aE s.tup U (aa U (aE s.tup U (aa U (aE s.tup U (aa U (aE s.tup U λx dx nx WK Æ=>?_)))))));have q:ay H2 (upd (upd H2 dx (.own x)) x (.ins C dx [])):=λb o e=>by rw [aq (bj e nx),aq (bj e WK)];exact e
 refine ⟨x,dx,_,c,m,p,J,I,U,ak,s.t.same q,s.f.same q,i,λH4 W4 k4=>⟨U,?_⟩⟩;have u:ay H2 H4:=λb o e=>k4 b o (q b o e) (bj e nx);have key:∀r H5,ay H4 H5->(∃rest,H5 r=some (.tup (V.str (if (gO N c J I Te).bar=none then "rule" else "paper")::rest)))->t [some (.ref a),some (.ref d),some (.ref G),some (.ref r),none] H5:=λr H5 X ⟨rest,er⟩=>g _ _ (by
  clear g;have D5:=s.same (u.trans X);have n8:=i.n2;refine λN2 c2=>aa U (aa U (aE D5.tup U ⟨(N:Int),U,by exact jJ (N+Nat.succ 4611686018427387903),by lia,λDa ft=>?_⟩));refine zO (n:=((N:Nat):Int).toNat) (λj gK H'=>∃v,gK=[v]/\H' Da=some (.lst (List.replicate j V.aH))/\ay H5 H') ⟨none,U,ak,aK ft⟩ ?_ ?_
  ·rintro j gK H6 hj ⟨v,rfl,R,Y⟩;rw [iU] at hj;refine ⟨_,R,?_,_,U,?_,λb o e=>?_⟩
   ·rw [uh];exact fz (by lia)
   ·rw [ak,List.replicate_succ']
   ·rw [aq (bj e ft)];exact Y _ _ e
  ·rintro gK H6 ⟨v,rfl,R,Y⟩;rw [iU] at R;refine ⟨Da,_,U,.inl ⟨a5.of R,λO Yn=>λy XI=>?_⟩⟩;have s7:=aK (o:=.tup (List.replicate N V.aH)) Yn;have s8:=aK (o:=jv P w y []) XI;have EU:upd (upd H6 O (.tup (List.replicate N V.aH))) y (jv P w y []) O=some (.tup ((List.replicate N (none:Option Int)).map oV)):=by
    rw [List.map_replicate];exact s8 _ _ ak
   have e8:=s8 _ _ (s7 _ _ (Y _ _ er));have D8:=((D5.same Y).same s7).same s8;have N8:jd P w (upd (upd H6 O (.tup (List.replicate N V.aH))) y (jv P w y [])) y []:=⟨ak,λ_ z=>nomatch z⟩;refine ⟨c.toNat,by lia,G,m,p,O,y,N,c,J,I,List.replicate N none,[],?_,D8,i,by lia,lm,by have:=i.l1;lia,EU,⟨uh,λx5 ht=>?_⟩,N8,⟨uc,λ_ z=>(nomatch z)⟩,λ_ _ z=>(nomatch z),λZ_ H9 q9 _ _ _ _=>c2 _ _ ?_⟩
   ·rw [show c-((c.toNat:Nat):Int)=0 by have:=i.l1;lia];rfl
   ·exact nomatch (List.eq_of_mem_replicate ht)
   clear c2 N2;have e9:=om N8.1 q9 e8;refine aa U ⟨_,_,_,_,U,.tup e9,UX,_,U,fx ?_⟩;refine aa U (aE e9 (iB (j:=0) U) ⟨cX U,λlp ã=>aa U (.inr ⟨_,U,?_⟩)⟩)
   by_cases l:(gO N c J I Te).bar=none
   ·have hw:=iff.mp l;rw [if_pos l,hw];exact Au ak U ⟨U,yr (k _) U⟩
   ·have hw:fi N c J I (c.toNat+1) (List.replicate N none)=false:=F_.mpr λz=>l (iff.mpr z);rw [if_neg l,hw];exact Au ak U ⟨U,yr (k _) U⟩)
 refine ⟨x,N,c,J,I,Te,U,W4,i,hE,λr H5 Û X=>⟨λb l hP=>?_,λlr Y2=>?_⟩⟩
 ·obtain ⟨x4,nn,ps,g1,_⟩:=hP;exact key r H5 X ⟨_,by rw [if_neg (by rw [l];exact λz=>nomatch z)];exact g1⟩
 ·obtain ⟨lt,lw,ps,qs,x3,MM,g1,_⟩:=Y2;exact key r H5 X ⟨_,by rw [if_pos lr];exact g1⟩
end
end Y0
namespace L2
theorem jo:∀{us:List α},us.length=n+1->∃a t,us=a::t/\t.length=n
 | a::t,h=>⟨a,t,U,Nat.succ.inj h⟩
theorem mX (us:List α) (h:us.length=1):∃a,us=[a]:=by obtain ⟨a,c,rfl,b⟩:=jo h;obtain rfl:=xZ b;exact ⟨a,U⟩
theorem tD (us:List α) (h:us.length=2):∃a b,us=[a,b]:=by obtain ⟨a,e,rfl,c⟩:=jo h;obtain ⟨b,f,rfl,d⟩:=jo c;obtain rfl:=xZ d;exact ⟨a,b,U⟩
theorem Dy (us:List α) (h:us.length=3):∃a b c,us=[a,b,c]:=by obtain ⟨a,g,rfl,d⟩:=jo h;obtain ⟨b,i,rfl,e⟩:=jo d;obtain ⟨c,j,rfl,f⟩:=jo e;obtain rfl:=xZ f;exact ⟨a,b,c,U⟩
theorem Su (us:List α) (h:us.length=4):∃a b c d,us=[a,b,c,d]:=by obtain ⟨a,j,rfl,e⟩:=jo h;obtain ⟨b,k,rfl,f⟩:=jo e;obtain ⟨c,l,rfl,g⟩:=jo f;obtain ⟨d,m,rfl,i⟩:=jo g;obtain rfl:=xZ i;exact ⟨a,b,c,d,U⟩
theorem Sv (us:List α) (h:us.length=5):∃a b c d e,us=[a,b,c,d,e]:=by obtain ⟨a,l,rfl,f⟩:=jo h;obtain ⟨b,m,rfl,g⟩:=jo f;obtain ⟨c,n,rfl,i⟩:=jo g;obtain ⟨d,o,rfl,j⟩:=jo i;obtain ⟨e,p,rfl,k⟩:=jo j;obtain rfl:=xZ k;exact ⟨a,b,c,d,e,U⟩
end L2
namespace Y0
open PySem L2
section
theorem xK {A B C D E F V:Type} {p:A->B->C->D->E->F->List V->Prop} (h:∀b c d e f g a,p b c d e f g [a]):∀b c d e f g (us:List V),us.length=1->p b c d e f g us:=λ_ _ _ _ _ _ us i=>by obtain ⟨a,rfl⟩:=L2.mX us i;exact h _ _ _ _ _ _ _
theorem xJ {A B C D E F V:Type} {p:A->B->C->D->E->F->List V->Prop} (h:∀c d e f g i a b,p c d e f g i [a,b]):∀c d e f g i (us:List V),us.length=2->p c d e f g i us:=λ_ _ _ _ _ _ us j=>by obtain ⟨a,b,rfl⟩:=L2.tD us j;exact h _ _ _ _ _ _ _ _
theorem xI {A B C D E F V:Type} {p:A->B->C->D->E->F->List V->Prop} (h:∀d e f g i j a b c,p d e f g i j [a,b,c]):∀d e f g i j (us:List V),us.length=3->p d e f g i j us:=λ_ _ _ _ _ _ us k=>by obtain ⟨a,b,c,rfl⟩:=L2.Dy us k;exact h _ _ _ _ _ _ _ _ _
theorem xH {A B C D E F V:Type} {p:A->B->C->D->E->F->List V->Prop} (h:∀e f g i j k a b c d,p e f g i j k [a,b,c,d]):∀e f g i j k (us:List V),us.length=4->p e f g i j k us:=λ_ _ _ _ _ _ us l=>by obtain ⟨a,b,c,d,rfl⟩:=L2.Su us l;exact h _ _ _ _ _ _ _ _ _ _
theorem xG {A B C D E F V:Type} {p:A->B->C->D->E->F->List V->Prop} (h:∀f g i j k l a b c d e,p f g i j k l [a,b,c,d,e]):∀f g i j k l (us:List V),us.length=5->p f g i j k l us:=λ_ _ _ _ _ _ us m=>by obtain ⟨a,b,c,d,e,rfl⟩:=L2.Sv us m;exact h _ _ _ _ _ _ _ _ _ _ _
theorem rh {x:Str} {st:Stmt} {m:List Str} {f:Addr} {o:Value} {p d:Option Addr} {q:Array (Option Value)} {i g j b e:Value} (X:K.In h) (G:h.Ns mainGlobals mg) (a:PySem.W.nsIn K mainGlobals x=some (some (.ref f)):=by k_is)
 (l:K.lookup f=some ⟨o,p,.func (PySem.W.fnOf x x (n_ st) (kM st) (aT st) .none i g j d b e),q⟩:=by k_is) (c:PySem.W.codeIn K b x=true:=by k_is) (k:PySem.W.keepIn K (.ref f)=true:=by k_is)
 (n:∀(i g j:Value) (d:Option Addr) (b e:Value) (us:List Value),us.length=m.length->bindArgs (PySem.W.fnOf x x (n_ st) (kM st) (aT st) .none i g j d b e) ⟨us,[]⟩=pure (m.zip us):=by first | exact Y0.xK λ_ _ _ _ _ _ _=>rfl | exact Y0.xJ λ_ _ _ _ _ _ _ _=>rfl | exact Y0.xI λ_ _ _ _ _ _ _ _ _=>rfl | exact Y0.xH λ_ _ _ _ _ _ _ _ _ _=>rfl | exact Y0.xG λ_ _ _ _ _ _ _ _ _ _ _=>rfl):
 Fn K mg x st m f (PySem.W.fnOf x x (n_ st) (kM st) (aT st) .none i g j d b e):=
 have F:=Hv (st:=st) l c k
 ⟨F,F.binds n,rn X G a⟩
structure ym (K:aW) (C:Addr) (m q:Str) (st:Stmt) (ps:List Str) (f:Addr) (fd:FuncData):Prop where
 F:gq K m q st f fd
 b:fb K fd ps []
 a:PySem.W.findIn K (.ref C) m=some (some (.ref f))
 i:PySem.W.isFn K (.ref f)=true
theorem ym.eD (h:ym K C m q st ps f fd):ic K C m f:=⟨h.a,h.i,h.F.kp⟩
theorem wG {C:Addr} {x q:Str} {st:Stmt} {m:List Str} {f:Addr} {o:Value} {p d:Option Addr} {r:Array (Option Value)} {h g j b e:Value} (a:PySem.W.findIn K (.ref C) x=some (some (.ref f)):=by k_is) (i:PySem.W.isFn K (.ref f)=true:=by k_is)
 (l:K.lookup f=some ⟨o,p,.func (PySem.W.fnOf x q (n_ st) (kM st) (aT st) .none h g j d b e),r⟩:=by k_is) (c:PySem.W.codeIn K b q=true:=by k_is) (k:PySem.W.keepIn K (.ref f)=true:=by k_is)
 (n:∀(h g j:Value) (d:Option Addr) (b e:Value) (us:List Value),us.length=m.length->bindArgs (PySem.W.fnOf x q (n_ st) (kM st) (aT st) .none h g j d b e) ⟨us,[]⟩=pure (m.zip us):=by first | exact Y0.xK λ_ _ _ _ _ _ _=>rfl | exact Y0.xJ λ_ _ _ _ _ _ _ _=>rfl | exact Y0.xI λ_ _ _ _ _ _ _ _ _=>rfl | exact Y0.xH λ_ _ _ _ _ _ _ _ _ _=>rfl | exact Y0.xG λ_ _ _ _ _ _ _ _ _ _ _=>rfl):
 ym K C x q st m f (PySem.W.fnOf x q (n_ st) (kM st) (aT st) .none h g j d b e):=
 have F:=Hv (st:=st) l c k
 ⟨F,F.binds n,a,i⟩
theorem aB {h:Heap} (X:K.In h) (_G:h.Ns mainGlobals mg) (x:Str) (st:Stmt) (a:List Str) (e:∃f fd,Fn (L2.fX X) mg x st a f fd:=by unfold L2.fX;exact ⟨_,_,Y0.rh ‹_› ‹_›⟩):∃f fd,Fn (L2.fX X) mg x st a f fd:=e
theorem da (a:PySem.W.nsIn (L2.fX X) mainGlobals o=some (some (.ref C))) (m q:Str) (st:Stmt) (c:List Str) (e:∃C f fd,PySem.W.nsIn (L2.fX X) mainGlobals o=some (some (.ref C))/\ym (L2.fX X) C m q st c f fd:=by unfold L2.fX;exact ⟨_,_,_,by k_is,Y0.wG⟩):∃f fd,ym (L2.fX X) C m q st c f fd:=by obtain ⟨g,f,fd,b,d⟩:=e;rw [a] at b;cases b;exact ⟨f,fd,d⟩
structure yi (K:aW) (mg:Str->Option Value) (C:Addr):Prop where
 tc:nO K mg C
 Dv:PySem.W.makesIn K C=true
 kc:PySem.W.keepIn K (.ref C)=true
theorem sU (X:K.In h) (G:h.Ns mainGlobals mg) (a:PySem.W.nsIn K mainGlobals "Web"=some (some (.ref C)):=by k_is) (i:PySem.W.plainGet K C Str.empty=true:=by k_is) (b:PySem.W.hasDictIn K C=true:=by k_is) (j:PySem.W.plainOver K C=true:=by k_is)
 (k:PySem.W.findIn K (.ref C) "__setattr__"=some (some (.builtin "object.__setattr__")):=by k_is) (mk:PySem.W.makesIn K C=true:=by k_is) (c:PySem.W.keepIn K (.ref C)=true:=by k_is)
 (d:PySem.W.findIn K (.ref C) "many"=some none:=by k_is) (e:PySem.W.findIn K (.ref C) "last"=some none:=by k_is) (f:PySem.W.findIn K (.ref C) "told_ties"=some none:=by k_is) (g:PySem.W.findIn K (.ref C) "told_falls"=some none:=by k_is):yi K mg C:=
 ⟨⟨⟨i,b,j,k⟩,d,e,f,g,rn X G a⟩,mk,c⟩
theorem pA (X:K.In h) (G:h.Ns mainGlobals mg) (a:PySem.W.nsIn K mainGlobals "MOST_MOMENTS"=some (some (.int 8 t1)):=by k_is) (b:PySem.W.nsIn K mainGlobals "LATEST_LAST"=some (some (.int 60 o)):=by k_is)
 (c:PySem.W.nsIn K mainGlobals "WIDEST_SPAN"=some (some (.int 60 t3)):=by k_is) (d:PySem.W.nsIn K mainGlobals "LONGEST_FALL"=some (some (.int 60 C)):=by k_is) (z:PySem.W.nsIn K mainGlobals "list"=some none:=by k_is):iV mg:=
 ⟨⟨t1,rn X G a⟩,⟨o,rn X G b⟩,⟨t3,rn X G c⟩,⟨C,rn X G d⟩,qo X G z⟩
structure yp (K:aW) (mg:Str->Option Value) (C:Addr):Prop where
 tc:lF K mg C
 Dv:PySem.W.makesIn K C=true
 kc:PySem.W.keepIn K (.ref C)=true
 g:mg "Closing"=some (.ref C)
theorem tV (X:K.In h) (G:h.Ns mainGlobals mg) (a:PySem.W.nsIn K mainGlobals "Closing"=some (some (.ref C)):=by k_is) (j:PySem.W.plainGet K C Str.empty=true:=by k_is) (b:PySem.W.hasDictIn K C=true:=by k_is) (k:PySem.W.plainOver K C=true:=by k_is)
 (l:PySem.W.findIn K (.ref C) "__setattr__"=some (some (.builtin "object.__setattr__")):=by k_is) (mk:PySem.W.makesIn K C=true:=by k_is) (c:PySem.W.keepIn K (.ref C)=true:=by k_is)
 (d:PySem.W.findIn K (.ref C) "many"=some none:=by k_is) (e:PySem.W.findIn K (.ref C) "by_end"=some none:=by k_is) (f:PySem.W.findIn K (.ref C) "rows"=some none:=by k_is) (g:PySem.W.findIn K (.ref C) "best"=some none:=by k_is) (i:PySem.W.findIn K (.ref C) "bar"=some none:=by k_is)
 (m:PySem.W.nsIn K mainGlobals "len"=some none:=by k_is) (n:PySem.W.nsIn K mainGlobals "range"=some none:=by k_is):yp K mg C:=
 ⟨⟨⟨j,b,k,l⟩,d,e,f,g,i,qo X G m,qo X G n⟩,mk,c,rn X G a⟩
theorem pB (X:K.In h) (G:h.Ns mainGlobals mg) (a:PySem.W.nsIn K mainGlobals "USED_KINDS"=some (some (.ref u))) (t:CH K u uv) (z:PySem.W.nsIn K mainGlobals "tuple"=some none):ui K mg:=
 ⟨⟨u,rn X G a,t⟩,qo X G z⟩
end
end Y0
inductive PySem.W.Fast:Prop|tw12572841952683300038|tw1923501148427250537|tw7055651223543986009|tw5779190138799924413|tw13203774517211501814|tw2400364885359555303|tw3393411740272302747|tw8391265193845947331|tw7053674671121508945|tw13910045515430491585|tw3433594985811501399|tw8540868779740107984|tw10439525038320863188|tw16186241516149223865|tw12676906215908152357|tw3355292449426998850|tw13195254409903313317|tw1086984726872907301|tw16061755951064647324|tw9636767247463694533|tw3409975884614547923|tw4981070173472741701|tw1692572873830489236|tw2514963021309908648|tw14627837621699378057|tw74476980139751268|tw9173419953899678852|tw16760424764540036977|tw13342835766138808080|tw17357761019494702515|tw9607674837838755516|tw9402905719372499757|tw14692439517855299162|tw9654885638571068896|tw363672969620141174|tw1142993010914735348|tw12572421672324453696|tw5942785464042782010|tw15991954969364831344|tw1542667132296958020|tw13338227484880819781|tw18305129832075507972|tw7400531523737542225|tw13408478172577288105|tw6505294019086669151|tw12964615609261183883|tw3808940097983231949|tw11146290040185675233|tw5258394628765737831|tw1781185604086286341|tw11114021816061784599|tw16977180238389378355|tw16673348653176286887|tw9002644475185107986|tw7516084709444623892|tw9178634060967046513|tw3740398150470633998|tw17339247773766487260|tw5215778581318385925|tw12023159004503166629|tw3895608319261455010|tw13977385126565609007|tw7752349138267021146|tw16002024987866917988|tw11398170607224659391|tw15765975781719046076|tw1877403164273813146|tw8283532974325911713|tw15436430526971025193|tw576323874794574479|tw13982301286706528315|tw10495812943563442089|tw10094107366807579005|tw1910196859842568150|tw2152465690232510559|tw8232064106106619051|tw17090539219334970004|tw15908326195636254752|tw10365608704246531557|tw5416943290932001549|tw5559784839062157136|tw14432446938167903801|tw7294322387515116596|tw6825375195397143256|tw15191708386243055474|tw1983110196655044402|tw3446622363683266805|tw7907327247908935472|tw4861124521863496462|tw15241366661121161619|tw14798707436638696394|tw11840501171243850313|tw7332931273059042098|tw13968594299439177486|tw4672316078957687167|tw13901801466413299345|tw7127562925119525795|tw2658695157482450843|tw2341915341396261839|tw13070013998443183492|tw15133066717725102085|tw14391608549461222464|tw793714924563733157|tw8260556837316517977|tw13803077673923469085|tw10980308877237597165|tw2649103329455290030|tw13454421129695376914|tw18102875913798587309|tw11759400612479030504
open PySem PySem.W PyProof.Rows L2 Y0
set_option maxRecDepth 100000 in
set_option maxHeartbeats 0 in
theorem PySem.Challenge.cw_momentties_k12_whole_hands_by_play_holds : PySem.Challenge.rw_momentties_k12_whole_hands_by_play.Holds := by
 w_on;o_law;k_head;(case hw=>w_witness2)
 k_fill
 refine PQ (l:=PySem.Challenge.rw_momentties_k12_whole_hands_by_play) (n:=63) (k:=8) (x:="_law_script") (CX:=aw) (sp:=qQ) U (by decide) U ⟨U,by decide,by decide⟩ (λw h Y=>PySem.W.kIn_of Y) ?F (λK H a ns hl hO hS=>⟨a,ns,U,sY hO hS,λ_=>rfl⟩) (λ_ _ _ _ z=>z)
 case F=>
  intro w mg fa h KX G X_;obtain ⟨Eu,Uu,J4⟩:=aB KX G "room_bounds" bJ ċ;obtain ⟨Ev,Uv,J5⟩:=aB KX G "span_bounds" bH Ģ;obtain ⟨U3,Gx,Je⟩:=aB KX G "bounds_with" bL Ė;obtain ⟨Ew,Uw,J6⟩:=aB KX G "told_bounds" bG ċ;obtain ⟨Ea,Ua,Jl⟩:=aB KX G "falls_by_end" bt ċ;obtain ⟨U8,G8,Jj⟩:=aB KX G "by_sum" dV Đ;obtain ⟨U6,G0,Jh⟩:=aB KX G "by_late" dm Ĉ;obtain ⟨U7,G7,Ji⟩:=aB KX G "by_soon" dk Ĉ;obtain ⟨U9,G9,Jk⟩:=aB KX G "by_sure" dj Ć;obtain ⟨U4,Gy,Jf⟩:=aB KX G "by_back" dn ď;obtain ⟨U5,Gz,Jg⟩:=aB KX G "by_cross" cJ Ć;obtain ⟨Ex,Ux,J7⟩:=aB KX G "what_follows" aX ć;obtain ⟨U2,Gw,Jd⟩:=aB KX G "bars_every_hand" aU Ĝ;have Ja:∃C,yp (fX KX) mg C/\PySem.W.nsIn (fX KX) mainGlobals "Closing"=some (some (.ref C)):=by unfold fX;exact ⟨_,tV KX G,by k_is⟩
  obtain ⟨Gs,Ja,Gp⟩:=Ja;obtain ⟨E7,Oh,Gi⟩:=da Gp "__init__" "Closing.__init__" cv ĝ;obtain ⟨E8,Oi,Gj⟩:=da Gp "is_news" "Closing.is_news" bx Ě;obtain ⟨Oa,Ol,Gm⟩:=da Gp "take" "Closing.take" cu Ă;obtain ⟨E3,Od,Gd⟩:=da Gp "draw" "Closing.draw" bu Č;obtain ⟨E9,Oj,Gk⟩:=da Gp "known_of" "Closing.known_of" aN Ď;obtain ⟨Ob,Om,Gn⟩:=da Gp "ties_to" "Closing.ties_to" aV đ;obtain ⟨E5,Of,Gg⟩:=da Gp "draw_from_tie" "Closing.draw_from_tie" aL ē;obtain ⟨E6,Og,Gh⟩:=da Gp "draw_from_wait" "Closing.draw_from_wait" aJ ę;obtain ⟨E4,Oe,Ge⟩:=da Gp "draw_all" "Closing.draw_all" bq č;obtain ⟨E2,Oc,Gc⟩:=da Gp "best_drawn" "Closing.best_drawn" aD Ĕ;obtain ⟨Es,Us,J2⟩:=aB KX G "numbers_needed" bb ĉ;obtain ⟨Et,Ut,J3⟩:=aB KX G "paper_up_to" bg ĉ;obtain ⟨Eb,Ub,Jm⟩:=aB KX G "is_told" di ĕ;obtain ⟨Ec,Uc,Jn⟩:=aB KX G "kept" eX ċ;obtain ⟨U1,Gv,Jc⟩:=aB KX G "are_two_moments" aA ą;obtain ⟨Ep,Uq,J0⟩:=aB KX G "look_over_size" bf Ē;obtain ⟨Er,Ur,J1⟩:=aB KX G "look_over_ties" bc Ę;obtain ⟨Eo,Up,Jz⟩:=aB KX G "look_over_falls" a9 ė;have Jb:∃C,yi (fX KX) mg C/\PySem.W.nsIn (fX KX) mainGlobals "Web"=some (some (.ref C)):=by unfold fX;exact ⟨_,sU KX G,by k_is⟩
  obtain ⟨Gu,Jb,Gq⟩:=Jb;obtain ⟨Ez,Uz,J9⟩:=da Gq "__init__" "Web.__init__" dP ă;obtain ⟨E1,U0,Gb⟩:=da Gq "ties" "Web.ties" dO č;obtain ⟨Ey,Uy,J8⟩:=da Gq "falls" "Web.falls" dq č;obtain ⟨Ek,Uk,Jv⟩:=aB KX G "_law_next" hH Ā;obtain ⟨Ej,Uj,Ju⟩:=aB KX G "_law_named" ip ā;obtain ⟨Ei,Ui,Jt⟩:=aB KX G "_law_falls" iq Ą;obtain ⟨El,Ul,Jw⟩:=aB KX G "_law_ties" iK xv;obtain ⟨Em,Um,Jx⟩:=aB KX G "_law_web" m8 MX;obtain ⟨Ee,Ue,Jp⟩:=aB KX G "_law_bounds" dX Ġ;obtain ⟨Ef,Uf,Jq⟩:=aB KX G "_law_broken" cY Ċ;obtain ⟨Eh,Uh,Js⟩:=aB KX G "_law_fallings" b0 iv;obtain ⟨Eg,Ug,Jr⟩:=aB KX G "_law_deeds" cC iv;obtain ⟨En,Uo,Jy⟩:=aB KX G "_law_wins" dW qq;have Jo:∃f fd,Fn (fX KX) mg "law" pE ġ f fd/\∀(s:Shared) (u:Value),BindsTo s fd ⟨[u],[]⟩ [("_law_script",u)]:=by unfold fX;exact ⟨_,_,rh KX G,λs u=>.of_eq U⟩
  obtain ⟨Ed,Ud,Jo,Gr⟩:=Jo;have TW:iV mg:=pA KX G;have TU:ui (fX KX) mg:=by
   unfold fX
   refine' pB KX G ?a ?t ?z
   (case a=>k_is);(case t=>with_unfolding_all rfl);(case z=>k_is)
  have Z:PySem.W.nsIn (fX KX) mainGlobals "min"=some none/\PySem.W.nsIn (fX KX) mainGlobals "max"=some none/\PySem.W.nsIn (fX KX) mainGlobals "sorted"=some none/\PySem.W.nsIn (fX KX) mainGlobals "isinstance"=some none/\PySem.W.nsIn (fX KX) mainGlobals "int"=some none:=by
   unfold fX
   refine' ⟨?a,?b,?c,?d,?e⟩
   (case a|b|c|d|e=>k_is)
  have zl:=Ja.tc.len;have zr:=Ja.tc.range;have zt:=TU.tuple;have zm:=qo KX G Z.1;have zx:=qo KX G Z.2.1;have zs:=qo KX G Z.2.2.1;have TE:yj (fX KX) mg:=⟨qo KX G Z.2.2.2.1,zt,qo KX G Z.2.2.2.2,zr⟩;have e0:=X_.symm.trans Jo.g;cases e0;refine ⟨Ud,Gr,λbase kb nb=>?gg⟩
  case gg=>
   have GN:=pS (P:=gm) (w:=w) (base:=base) Jv zl;have GM:=mE (P:=gm) (w:=w) (base:=base) Ju;have GF:=mI Jt Jv GN zm zr;have GT:=pL Jw Jv GN zm zx zr;have GW:=tp Jx Jv GN Ju GM Jt GF Jw GT;have G2:=tq (P:=gm) (w:=w) (base:=base) Jc;have GS:=pQ (P:=gm) (w:=w) (base:=base) J0 TW;have ZC:=mG J1 TW Jc G2;have ZD:=lb Jz TW Jc G2;have GI:=pW J9.F TW Jb.tc J0 GS J1 ZC Jz ZD;have Gt:=mC (P:=gm) (w:=w) (base:=base) Gb.F TW Jb.tc;have Gf:=lh (P:=gm) (w:=w) (base:=base) J8.F TW Jb.tc;have Z7:=pR (P:=gm) (w:=w) (base:=base) J4 ⟨zr⟩ Jb.tc;have Z6:=pO (P:=gm) (w:=w) (base:=base) J5;have ZO:=pJ Je Jb.tc J4 Z7 J5 Z6 J8.eD J8.b Gf;have Z5:=pK J6 Jb.tc Je ZO Gb.eD Gb.b Gt;have ZS:=mO Jl Jb.tc J8.eD J8.b Gf;have W1:=tr (P:=gm) (w:=w) (base:=base) Jj;have W2:=pU (P:=gm) (w:=w) (base:=base) Jh;have W3:=pP (P:=gm) (w:=w) (base:=base) Ji;have W4:=pN (P:=gm) (w:=w) (base:=base) Jk ⟨zm⟩;have W5:=p_ (P:=gm) (w:=w) (base:=base) Jf ⟨zm⟩;have W6:=mL (P:=gm) (w:=w) (base:=base) Jg ⟨zm⟩;have Z4:=jA J7 TU Jj W1 Jh W2 Ji W3 Jk W4 Jf W5 Jg W6;have ZR:=pZ (P:=gm) (w:=w) (base:=base) Jd;have Z9:=pT (P:=gm) (w:=w) (base:=base) Gj.F Ja.tc;have OF:=pM Gm.F Ja.tc Gj.eD Gj.b Z9 Jd ZR;have OG:=pX Gd.F Ja.tc Gm.eD Gm.b OF J7 Z4;have ZF:=mH (P:=gm) (w:=w) (base:=base) Gk.F Ja.tc;have OE:=kZ (P:=gm) (w:=w) (base:=base) Gn.F Ja.tc;have ZI:=iL Gh.F Ja.tc Gd.eD Gd.b OG Gn.eD Gn.b OE;have ZJ:=j9 Gg.F Ja.tc Gd.eD Gd.b OG Gn.eD Gn.b OE Gk.eD Gk.b ZF;have ZM:=jB Ge.F Ja.tc Gg.eD Gg.b ZJ Gh.eD Gh.b ZI;have ZN:=mM Gi.F Ja.tc Jb.tc Gm.eD Gm.b OF Jl ZS J6 Z5;have ZQ:=pY (P:=gm) (w:=w) (base:=base) Gc.F Ja.tc zs;have ZA:=k_ (P:=gm) (w:=w) (base:=base) J2 zr zs;have Z8:=j7 J3 zl zt J2 ZA;have ZH:=lg (P:=gm) (w:=w) (base:=base) Jm;have ZG:=pV Jn Ja.tc ⟨Ja.Dv,Gi.a,Gi.i,Ja.kc⟩ Ja.g Gi.b ZN Ge.eD Ge.b ZM Gc.eD Gc.b ZQ J3 Z8 Jm ZH;have ZE:=j8 (P:=gm) (w:=w) (base:=base) Jp zr;have ZP:=lj Jq Jp ZE.fn;have ZK:=iM (P:=gm) (w:=w) (base:=base) Js;have ZL:=mJ (P:=gm) (w:=w) (base:=base) Jr zr;have Z3:=ki Jy Jq ZP Jr ZL Js ZK;exact ts Jo TE Jb.tc Jx GW ⟨Jb.Dv,J9.a,J9.i,Jb.kc⟩ J9.b GI Jn ZG Jy Z3
