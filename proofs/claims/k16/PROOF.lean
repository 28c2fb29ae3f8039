import PyProof.Rows.All
import Wide.All
import OpenK.AllK
import Wide.FinOn
import Lean
import PyProof.EqAt
import PyProof.EqKinds
import PyProof.TupleCall
import PySem.Challenge.RW_momentties_k16_whole_fixed_then_hand_the
import KE.KTabLook
import PyProof.DictWalks
import PyProof.Rows.DictUnroll
import PyProof.Rows.SortShell
import PyProof.CollectWalk
import PyProof.DictTruth
import KE.KSortTup
import KE.KLam
abbrev oU := @Int.le_trans
abbrev gJ := @List.mem_append_left
abbrev qz := @Array.toList_append
abbrev OO := @List.length_drop
abbrev oS := @Nat.le_succ
abbrev eR := @Int.le_of_lt
abbrev mi := @Int.toNat_of_nonneg
abbrev xc := @PySem.mem_of_lookup
abbrev sr := @Array.length_toList
abbrev aB := @Ne.symm
abbrev pV := @List.mem_iff_getElem?
abbrev A' := @PySem.boot_len
abbrev tV := @PySem.W.mg_none_of
abbrev ah := @PySem.wpAny_bind
abbrev aW := @PySem.wpAny_pure
abbrev so := @PySem.F.plainAttrs_list
abbrev qy := @PySem.F.slot_list_append
abbrev sk := @PySem.F.type_list_append
abbrev aI := @List.length_map
abbrev gu := @List.getElem?_eq_some_iff
abbrev av := @Nat.le_refl
abbrev lz := @List.getElem?_eq_getElem
abbrev cR := @PySem.Heap.get?_push_of_some
abbrev f9 := @Classical.byContradiction
abbrev fG := @List.getElem?_map
abbrev gK := @List.mem_of_getElem?
abbrev iU := @List.size_toArray
abbrev iT := @List.length_append
abbrev f_ := @List.mem_cons_of_mem
abbrev dN := @List.mem_cons_self
abbrev fC := @Bool.false_ne_true
abbrev dM := @Option.some.inj
abbrev gv := @List.lookup_cons
abbrev fY := @List.map_append
abbrev dP := @Nat.zero_le
abbrev aS := @Nat.le_of_lt
abbrev dr := @PySem.Heap.lt_size
abbrev iD := @List.mem_singleton
abbrev eh := @List.mem_cons
abbrev fj := @List.map_cons
abbrev dq := @Nat.le_trans
abbrev jY := @PySem.Heap.get?_push_size
abbrev jN := @List.take_length
abbrev h_ := @Nat.ne_of_lt
abbrev mC := @List.getElem?_append_right
abbrev jX := @List.length_take
abbrev iC := @Nat.lt_of_lt_of_le
abbrev jW := @List.mem_append_right
abbrev jF := @List.mem_append
abbrev mf := @List.length_cons
abbrev me := @List.getElem?_append_left
abbrev eI := @List.mem_map
abbrev IK := @List.getElem_of_mem
abbrev DY := @List.pairwise_iff_getElem
abbrev lu := @List.take_succ
abbrev zK := @List.all_eq_true
abbrev hX := @Int.toNat_natCast
abbrev zJ := @decide_eq_true_eq
abbrev DZ := @List.getD_eq_getElem?_getD
abbrev j8 := @Nat.lt_irrefl
abbrev zL := @List.getElem_mem
abbrev ON := @List.length_nil
abbrev mh := @Nat.le_of_not_lt
abbrev oR := @Nat.not_lt_zero
abbrev pU := @beq_self_eq_true
abbrev jZ := @decide_eq_true
abbrev gA := @decide_eq_false
abbrev kX := @PySem.Heap.get?_update_other
abbrev f7 := @Nat.le.refl
abbrev iN := @Nat.le.step
abbrev hV := @False.elim
abbrev jg := @Int.le_refl
abbrev ip := @Int.NonNeg.mk
abbrev pT := @Nat.lt_of_le_of_lt
abbrev tU := @PySem.Heap.get?_update_self
abbrev tS := @List.filterMap_cons
abbrev tR := @List.length_range
abbrev sj := @Bool.and_eq_true
abbrev vA := @List.pairwise_map
abbrev AZ := @List.extract_eq_take_drop
abbrev DX := @List.eq_nil_of_length_eq_zero
abbrev w_ := @List.foldl_append
abbrev wZ := @List.append_assoc
abbrev pR := @Nat.le_add_right
abbrev zI := @PySem.Obj.data_mapFields
abbrev wY := @List.foldl_cons
abbrev tQ := @PySem.W.mg_of
abbrev DW := @PySem.W.callWith_K
abbrev tP := @List.mem_filterMap
abbrev m9 := @List.mem_range
abbrev DV := @Array.getElem?_eq_some_iff
abbrev bE := PySem.W.Frag
noncomputable abbrev iM := PySem.Challenge.rw_momentties_k16_whole_fixed_then_hand_the.prog
noncomputable section
variable {P:PySem.Program} {w:PySem.World} {K:bE} {mg:PySem.Str->Option PySem.Value} {base:PySem.Heap}
set_option linter.all false
section
variable {a b c d e f g h k l m n:Nat} {p q r s t u v w x y z:Int}
theorem oz:p<=p:=jg p
theorem Yv:¬a<b->b+(a-b)=a:=by lia
theorem FY:a<=b->a<b+1:=Nat.lt_succ_of_le
theorem vW:a<b->b-(a+1)<b-a:=Nat.sub_succ_lt_self b a
theorem Rf:1<=a->b=c+a->b-1<b:=by omega
theorem KA:a<b->0<b:=Nat.zero_lt_of_lt
theorem FZ:a<min b c-d->d+a<c:=by omega
theorem KC:a<b->c<=a+1->c<=b:=fun h0 h1=>dq h1 h0
theorem Rg:a<b->¬a=0->a-1<Int.toNat ((b:Int)-1):=by omega
theorem F_:a+b<=c->b<=c-a:=Nat.le_sub_of_add_le'
theorem Yw:¬a<b->b+c+(a+c-(b+c))=a+c:=by omega
theorem GC:a+b<=c->a+(c-a)=c:=by lia
theorem BL:a<b->b<=a->False:=by lia
theorem BM:a<=b->a+(b-a)<=b:=by lia
theorem nc:¬p<q->q<=p:=by lia
theorem Rh:a=b+c->a=b+d->c=d:=by lia
theorem Yx:a+b<c->a<c:=Nat.lt_of_add_right_lt
theorem Yy:p<=q->p<=max q r:=by lia
theorem mw:0<=p->q<=q+p:=Int.le_add_of_nonneg_right
theorem Yz:a<=b->c-b<=c-a:=fun h0=>Nat.sub_le_sub_left h0 c
theorem Ri:¬a=0->a-1<a:=Nat.sub_one_lt
theorem GG:a<b->b<c->a<c:=Nat.lt_trans
theorem Y1:p<q->¬q=p:=Int.ne_of_gt
theorem Rj:a<b->c=b+d->c=a->e=f:=by lia
theorem Y2:a<=b->a-c<=b:=by omega
theorem xP:a<=b->a+c<=b+c:=fun h0=>Nat.add_le_add_right h0 c
theorem RG:a-b<=c->a<=c+b:=Nat.le_add_of_sub_le
theorem RH:a+b<=c->d<=b->¬d<=e->a+(e+(d-e)/2)<c:=by lia
theorem Y3:a+b<=c->a=d->b=e->d+e<=c:=by lia
theorem GH:a<=b->b<=c->a+(b-a)<=c:=by lia
theorem Y4:¬a<b->b+c+(a+c-(b+c))<=a+c:=by lia
theorem KD:a<min b c->a<b:=by lia
theorem RI:a+3*(b+c)+d<e->a+c+3*b+d<e:=by lia
theorem vX:a<=b->¬a<b->a=b:=by lia
theorem X_:a<b->a+(b-a)=b:=by lia
theorem RJ:a<b->c=b+d->c=a->False:=by lia
theorem RK:1<a->¬a-1=1->1<a-1:=by lia
theorem BN:a=b->a<=c->b<=c:=fun h0 h1=>le_of_eq_of_le (h0.symm) h1
theorem Al:a<b->¬a+1=b->a+1<b:=Nat.lt_of_le_of_ne
theorem Ya: -max p (-q)<=q:=by lia
theorem RL:a<b->b-1<b:=Nat.sub_one_lt_of_lt
theorem Yb:a+16*(b+1)+c<d->a+3+16*b+c<d:=by lia
theorem o_:p<=q->q<=r->p<=r:=oU
theorem GJ:a+1<b->b<=8->a<7:=by lia
theorem KG:a+b<=c->d=c->a<=d:=by lia
theorem RM:a<b->7*a+7+(7*b-(7*a+7))=7*b:=by omega
theorem Yc:a+16*(b+c)+d<e->a+c+16*b+d<e:=by lia
theorem BO:a<b->(a:Int)<(b:Int):=by lia
theorem GL:a+b<=c->d<b->a+d-e<c:=by omega
theorem xQ:(a:Int)<=8->a<=8:=Int.ofNat_le.mp
theorem RN:¬a=0->((a-1:Nat):Int)+1=(a:Int):=by lia
theorem tj:a<b+1->¬a=b->a<b:=by lia
theorem xR:a<b-c->c+a<b:=Nat.add_lt_of_lt_sub'
theorem jQ:a<=a+b:=pR a b
theorem Yd:a+16*b+c<d->e<=b->a+16*e+c<d:=by lia
theorem RO:a<b+c->b=d+e->f=e-g+c->¬e-g=0->a-(d+g)<f:=by lia
theorem lA:¬a<b->b<=a:=mh
theorem Ye:a+b+200<c->a+64<c:=by lia
theorem Yf:a<b->a-c<b:=Nat.sub_lt_of_lt
theorem KH:a<b->a<=b-1:=Nat.le_sub_one_of_lt
theorem Yg:a<b->a<=Int.toNat ((b:Int)-1):=by omega
theorem RQ:a<=b->¬0<b-a->a=b:=by lia
theorem Yh:min p q<=q:=Int.min_le_right p q
theorem Yi:a<b->0<b-a:=Nat.zero_lt_sub_of_lt
theorem Ks:a<b+1->a<=b:=Nat.le_of_lt_succ
theorem uv:a<=b->b<=c->a<=c:=dq
theorem An:a=b->b<=c->a<=c:=le_of_eq_of_le
theorem GQ:a<=b->b=b-a+a:=by lia
theorem Yj:a+3*b+c<d->e<=b->a+3*e+c<d:=by lia
theorem Yk:p<q->p<=q:=eR
theorem BP:a+b<=c->d=c->e<=b->a+e<=d:=by lia
theorem Yl:a<b->b=c->a<c:=Nat.lt_of_lt_of_eq
theorem Ym:a=b->b<=c->a+(c-a)=c:=by lia
theorem qh:a+b<=c->d<b->a+d<c:=by lia
theorem Kt:1<=a->a-1<a:=Nat.sub_one_lt_of_lt
theorem Yn:a+b+c<d->a<d:=by lia
theorem Rk:a<min b c-d->d+a<b:=by omega
theorem pd:p<=q->p<=q:=fun h0=>h0
theorem Ku:a<=2->min b a<=1000:=by lia
theorem tw:a<b->c+a<c+b:=fun h0=>Nat.add_lt_add_left h0 c
theorem GU:a<=b+c->b<=d+e->a<=d+(c+e):=by lia
theorem Yo:¬(a:Int)<0:=Int.not_ofNat_neg a
theorem BQ:0<=p->p<(a:Int)->Int.toNat p<a:=by lia
theorem Hh:2<=p->0<p-1:=by lia
theorem xS:a<=b->c+a<=c+b:=by lia
theorem gM:a<b->b<=c->a<c:=iC
theorem Kv:a<=b+c->b<=d->a<=d+c:=by lia
theorem Kw:a<b->a<b+c:=Nat.lt_add_right c
theorem Hi:0<=p->((Int.toNat p:Nat):Int)=p:=mi
theorem BR:a<b->c=b->a<c:=fun h0 h1=>Nat.lt_of_lt_of_eq h0 (h1.symm)
theorem BS:a<=b->¬a=b->a<b:=Nat.lt_of_le_of_ne
theorem s_:¬a=0->0<a:=Nat.zero_lt_of_ne_zero
theorem Rm:a<b->c<=c+b-1-a:=by omega
theorem Rn:a<=b->b-a+a=b:=Nat.sub_add_cancel
theorem Yp:min a b=a->a<=b:=by lia
theorem tf:a<b->a<b:=fun h0=>h0
theorem xT:¬a<=b->b<a:=Nat.lt_of_not_le
theorem Kx:a<b+c->b<=a->a-b<c:=fun h0 h1=>Nat.sub_lt_left_of_lt_add h1 h0
theorem Yq:a+1<=b-c->c+a<b:=Nat.add_lt_of_lt_sub'
theorem m_:a<=b->a+(b-a)=b:=Nat.add_sub_cancel'
theorem vY:¬p<=q->q<p:=Int.lt_of_not_ge
theorem Yr:a+b-1=c->¬b=0->a+(b-1)=c:=by lia
theorem Ys: -p<=q->-max p r<=q:=by lia
end
set_option Elab.async false
set_option maxRecDepth 100000
namespace L2
open PySem PySem.Spec PyProof.Rows
abbrev gk (C:Addr) (dx:Option Addr) (t tb:Value):Obj:={ cls:=.ref C,dict:=dx,data:=.fields #[t,tb,.none,.none,.bool false,.none] }
def Hd (A:Around) (h:Heap):Prop:=A.handled=none\/∃(a C:Addr) (dx:Option Addr) (t tb:Value),A.handled=some (.ref a)/\h.get? a=some (gk C dx t tb)
theorem Z':entryFor table "proto.unchain"=some Builtin.«proto.unchain»:=entryFor_of_tree (by kernel_rfl)
section
theorem Hd.keep (q:Hd A h) (k:∀b C dx t tb,h.get? b=some (gk C dx t tb)->h'.get? b=some (gk C dx t tb)):Hd A h':=by
 rcases q with q | ⟨a,C,dx,t,tb,q,e⟩
 ·exact .inl q
 ·exact .inr ⟨a,C,dx,t,tb,q,k a C dx t tb e⟩
theorem XU (q:Hd A s.heap) (he:s.heap.get? e=some oe) (hc:∃n,oe.cls=.type n) (hd:oe.data=.fields vs) (hz:2<vs.size)
 (h:∀h',Heap.SameBut e s.heap h'->(∃o,h'.get? e=some o/\o.cls=oe.cls)->E (.ref e) { s with heap:=h' }):wpAny (model prog w) A (raiseNew (.ref e):Sem α) Q E s:=by
 unfold raiseNew;refine ah (wpAny_handled ?_);rcases q with q | ⟨a,C,dx,t,tb,q,ea⟩
 ·rw [q];exact ah (aW (wpAny_throw (h s.heap (Heap.SameBut.refl ..) ⟨oe,he,rfl⟩)))
 ·rw [q];have ne:a≠e:=fun z=>by
   rw [z,he] at ea;obtain ⟨n,hn⟩:=hc;rw [dM ea] at hn;cases hn
  dsimp only;rw [if_pos (show (Value.ref a !=Value.ref e)=true by simp [ne])];refine ah (wpAny_holding (wpAny_runValue (codeAny_builtin Z' ?_)));show wpAny _ _ (field (.ref a) 2>>=_) _ _ s;refine ah (wpAny_field ea rfl (x:=.none) rfl ?_);rw [if_pos (by rfl)];refine ah (aW (aW ?_));refine ah (wpAny_setField (a:=e) he hd hz ?_);exact wpAny_throw (h _ (Heap.SameBut.update ..) ⟨_,tU _ he (Obj.isFreed_of_fields (zI hd _)),Obj.cls_mapFields ..⟩)
theorem Ft (q:Hd A s.heap)
 (h:∀e h',(∀b o,s.heap.get? b=some o->h'.get? b=some o)->(∃o,h'.get? e=some o/\o.cls=.type "StopIteration")->E (.ref e) { s with heap:=h' }):
 wpAny (model prog w) A (newExc (.type "StopIteration") []>>=fun x=>(raiseNew x:Sem α)) Q E s:=by
 refine ah ?_;unfold newExc newTuple;refine ah (wpAny_newObj_type ?_ (by size_fits));refine ah (wpAny_of_eq (a:=Value.none) (by first | rfl | (simp only [firstArgMember];rfl)) ?_);refine wpAny_newObj_type ?_ (by size_fits);refine XU (q.keep fun b C dx t tb e=>cR _ (cR _ e)) (jY _ rfl) ⟨_,rfl⟩ rfl (by simp;exact aS (Nat.le_add_left (Nat.succ 2).succ 2)) fun h' sb ⟨o,eo,ec⟩=>?_;refine h _ h' (fun b o' e=>?_) ⟨o,eo,ec⟩;have e1:=cR (h:=s.heap) { cls:=.type "tuple",data:=.seq ([]:List Value).toArray } e;exact (sb.2 b (h_ (dr e1))).trans (cR _ e1)
theorem Fx {it:Addr} {s0:Shared} {e:Addr} {h':Heap} {Q:Option Value->Shared->Prop} (k:∀b o,b≠it->s0.heap.get? b=some o->h'.get? b=some o) (t:∃o,h'.get? e=some o/\o.cls=.type "StopIteration") (hQ:∀h',Heap.ExtBut it s0.heap h'->Q none { s0 with heap:=h' }):
 wpAny (model prog w) A (isInstance (.ref e) (.type "StopIteration")) (fun b s'=>b=true/\Q none s') E { s0 with heap:=h' }:=by
 obtain ⟨o,e1,e2⟩:=t;exact wpAny_isInstance (T:="StopIteration") (b:=true) ⟨o,e1,e2⟩ isSubtype_stop ⟨rfl,hQ h' fun b u hb e=>k b u hb e⟩
theorem ZJ {it l:Addr} {i:Nat} {items:Array Value} {Q:Option Value->Shared->Prop} (q:Hd A s.heap) (st:s.heap.IsListIter it l i) (hl:s.heap.IsList l items) (hx:items[i]?=none)
 (hQ:∀h',Heap.ExtBut it s.heap h'->Q none { s with heap:=h' }):wpAny (model prog w) A (pyNext (.ref it)) Q E s:=by
 obtain ⟨u,hu,cu,du⟩:=id st;obtain ⟨v,hv,_,nv,dv⟩:=hl;unfold pyNext;refine ah (wpAny_attempt (wpAny_callSpecial?_slot (name:=Str.ofString "__next__") st.typeIs slot_listiter_next (wpAny_call_entry slot_listiter_next st.typeIs entry_listiter_next ?_ (args_listiter_next _))));show wpAny _ _ (field (.ref it) 0>>=_) _ _ s;refine ah (wpAny_field hu du (x:=.ref l) rfl ?_);rw [if_neg (show ¬((Value.ref l==Value.none)=true) from fC)];refine ah (wpAny_field hu du (x:=.int i 0) rfl (ah (wpAny_seqItems hv dv ?_)));simp only [hX,hx];refine ah (wpAny_rule (ah (wpAny_setField hu du (by simp) ?_)));have other:∀b o,b≠it->s.heap.get? b=some o->(s.heap.update it (Obj.mapFields (·.setIfInBounds 0 Value.none))).get? b=some o:=fun b o hb e=>(kX _ _ (aB hb)).trans e;refine Ft (A:=A.in1) (s:={ s with heap:=s.heap.update it (Obj.mapFields (·.setIfInBounds 0 Value.none)) }) (Hd.keep (A:=A.in1) q fun b C dx t tb e=>other b _ (fun z=>?_) e) fun e h' kk te=>?_
 ·rw [z,hu] at e;cases e;cases cu
 ·refine ah (wpAny_mono (Fx (s0:=s) (fun b o hb z=>kk b o (other b o hb z)) te hQ) (fun b s' z=>?_) fun _ _ z=>z);obtain ⟨rfl,z⟩:=z;exact aW z
theorem Tj {it:Addr} {x left step:Int} {Q:Option Value->Shared->Prop} (q:Hd A s.heap) (st:IsRangeIter s.heap it x left step) (hz:left<=0)
 (hQ:∀h',Heap.ExtBut it s.heap h'->Q none { s with heap:=h' }):wpAny (model prog w) A (pyNext (.ref it)) Q E s:=by
 have ty:s.TypeIs (.ref it) "range_iterator":=⟨_,st,rfl⟩;unfold pyNext;refine ah (wpAny_attempt (wpAny_callSpecial?_slot (name:=Str.ofString "__next__") ty F.slot_range_iterator_next (wpAny_call_entry F.slot_range_iterator_next ty F.entry_range_iterator_next ?_ (F.args_range_iterator_next_1 _))));show wpAny _ _ (field (.ref it) 0>>=_) _ _ s;refine ah (wpAny_field st rfl (x:=rawInt x) rfl (ah (wpAny_field st rfl (x:=rawInt left) rfl (ah (wpAny_field st rfl (x:=rawInt step) rfl ?_)))));show wpAny _ _ (if left<=0 then _ else _) _ _ s;rw [if_pos hz];refine ah (wpAny_rule ?_);refine ah ?_;refine Ft (A:=A.in1) (s:=s) q fun e h' kk te=>?_;refine ah (wpAny_mono (Fx (s0:=s) (fun b o _ z=>kk b o z) te hQ) (fun b s' z=>?_) fun _ _ z=>z);obtain ⟨rfl,z⟩:=z;exact aW z
theorem Zx {it t:Addr} {i:Nat} {items:Array Value} {Q:Option Value->Shared->Prop} (q:Hd A s.heap) (st:IsTupIter s.heap it t i) (hl:IsTup s.heap t items) (hx:items[i]?=none)
 (hQ:∀h',Heap.ExtBut it s.heap h'->Q none { s with heap:=h' }):wpAny (model prog w) A (pyNext (.ref it)) Q E s:=by
 obtain ⟨u,hu,cu,du⟩:=id st;obtain ⟨v,hv,_,nv,dv⟩:=hl;unfold pyNext;refine ah (wpAny_attempt (wpAny_callSpecial?_slot (name:=Str.ofString "__next__") st.typeIs slot_tupleiter_next (wpAny_call_entry slot_tupleiter_next st.typeIs entry_tupleiter_next ?_ (args_tupleiter_next _))));show wpAny _ _ (field (.ref it) 0>>=_) _ _ s;refine ah (wpAny_field hu du (x:=.ref t) rfl ?_);rw [if_neg (show ¬((Value.ref t==Value.none)=true) from fC)];refine ah (wpAny_field hu du (x:=.int i 0) rfl (ah (wpAny_seqItems hv dv ?_)));simp only [hX,hx];refine ah (wpAny_rule (ah (wpAny_setField hu du (by simp) ?_)));have other:∀b o,b≠it->s.heap.get? b=some o->(s.heap.update it (Obj.mapFields (·.setIfInBounds 0 Value.none))).get? b=some o:=fun b o hb e=>(kX _ _ (aB hb)).trans e;refine Ft (A:=A.in1) (s:={ s with heap:=s.heap.update it (Obj.mapFields (·.setIfInBounds 0 Value.none)) }) (Hd.keep (A:=A.in1) q fun b C dx tt tb e=>other b _ (fun z=>?_) e) fun e h' kk te=>?_
 ·rw [z,hu] at e;cases e;cases cu
 ·refine ah (wpAny_mono (Fx (s0:=s) (fun b o hb z=>kk b o (other b o hb z)) te hQ) (fun b s' z=>?_) fun _ _ z=>z);obtain ⟨rfl,z⟩:=z;exact aW z
theorem ZY {lo:Int} {i n:Nat} (hi:i<n) (st:IsRangeIter s.heap it (lo+(i:Nat)*1) ((n:Int)-(i:Nat)) 1)
 (hQ:∀(t:Tok) h' tk,IsRangeIter h' it (lo+((i+1:Nat):Int)*1) ((n:Int)-((i+1:Nat):Int)) 1->(∀b o,b∉[it]->s.heap.get? b=some o->h'.get? b=some o)->Q (some (.int (lo+(i:Nat)*1) t)) { s with heap:=h',toks:=tk }):
 wpAny (model prog w) A (pyNext (.ref it)) Q E s:=by
 refine wpAny_pyNext_range_item st (by lia) fun h' ag sb=>?_;refine hQ _ h' _ ?_ fun b o hb e=>sb.extBut b o (fun z=>hb (by simp [z])) e;have e1:lo+((i+1:Nat):Int)*1=lo+(i:Int)*1+1:=by lia
 have e2:(n:Int)-((i+1:Nat):Int)=(n:Int)-(i:Int)-1:=by lia
 rw [e1,e2];exact ag
end
abbrev Key:=Sum Int Str
def xr:Key->Value->Bool
 | .inl k,v=>Value.isInt k v
 | .inr x,v=>Value.isStrOf x v
def zH1 (w:World):Key->Int
 | .inl k=>hashInt k
 | .inr x=>hashStr w x
theorem t8:∀{k:Key} {v:Value},xr k v=true->(∃i t,k=Sum.inl i/\v=Value.int i t)\/(∃x t,k=Sum.inr x/\v=Value.str x t)
 | .inl i,v,h=>by obtain ⟨t,e⟩:=Value.isInt_shape (k:=i) (v:=v) h;exact .inl ⟨i,t,rfl,e⟩
 | .inr x,v,h=>by obtain ⟨t,e⟩:=Value.isStrOf_shape (x:=x) (v:=v) h;exact .inr ⟨x,t,rfl,e⟩
theorem YC (i:Int) (t:Tok):xr (.inl i) (.int i t)=true:=by simp [xr,Value.isInt]
theorem YD (x:Str) (t:Tok):xr (.inr x) (.str x t)=true:=by simp [xr,Value.isStrOf]
theorem zD2 (a b:Int):decide ((Sum.inl a:Key)=Sum.inl b)=(a==b):=by
 by_cases e:a=b
 ·subst e;simp
 ·have h:¬(Sum.inl a:Key)=Sum.inl b:=fun q=>e (Sum.inl.inj q);rw [gA h];exact (beq_eq_false_iff_ne.mpr e).symm
theorem zDz (a b:Str):decide ((Sum.inr a:Key)=Sum.inr b)=decide (a=b):=by
 by_cases e:a=b
 ·subst e;simp
 ·have h:¬(Sum.inr a:Key)=Sum.inr b:=fun q=>e (Sum.inr.inj q);rw [gA h,gA e]
theorem zD1 (a:Int) (b:Str):decide ((Sum.inl a:Key)=Sum.inr b)=false:=gA nofun
theorem zD0 (a:Str) (b:Int):decide ((Sum.inr a:Key)=Sum.inl b)=false:=gA nofun
def mX (prog:Program) (w:World):PySem.KeyKind prog w Key where
 is:=xr
 hash:=zH1 w
 inj:=fun v a b ha hb=>by
  rcases t8 ha with ⟨i,t,rfl,rfl⟩ | ⟨x,t,rfl,rfl⟩
  ·rcases t8 hb with ⟨j,u,rfl,e⟩ | ⟨y,u,rfl,e⟩
   ·injection e with e1 _;rw [e1]
   ·exact nomatch e
  ·rcases t8 hb with ⟨j,u,rfl,e⟩ | ⟨y,u,rfl,e⟩
   ·exact nomatch e
   ·injection e with e1 _;rw [e1]
 byValue:=fun k v h=>by rcases t8 h with ⟨i,t,rfl,rfl⟩ | ⟨x,t,rfl,rfl⟩<;>rfl
 pyHash:=fun hv h=>by
  rcases t8 hv with ⟨i,t,rfl,rfl⟩ | ⟨x,t,rfl,rfl⟩
  ·exact wpAny_pyHash_int h
  ·exact wpAny_pyHash_str h
 eqBool:=fun hu hv h=>by
  rcases t8 hu with ⟨i,t,rfl,rfl⟩ | ⟨x,t,rfl,rfl⟩
  ·rcases t8 hv with ⟨j,u,rfl,rfl⟩ | ⟨y,u,rfl,rfl⟩
   ·rw [zD2] at h;exact wpAny_eqBool_int h
   ·rw [zD1] at h;exact SeqAt.EqAt.int_str i t y u _ _ _ _ h
  ·rcases t8 hv with ⟨j,u,rfl,rfl⟩ | ⟨y,u,rfl,rfl⟩
   ·rw [zD0] at h;exact SeqAt.EqAt.str_int x t j u _ _ _ _ h
   ·rw [zDz] at h;exact wpAny_eqBool_str h
 «strs»:=fun k x t v h=>by
  rcases t8 h with ⟨i,u,rfl,e⟩ | ⟨y,u,rfl,e⟩
  ·exact nomatch e
  ·injection e with e1 _
   subst e1;cases v<;>rfl
theorem ZK (prog:Program) (w:World) (i:Int) (t:Tok):(mX prog w).is (.inl i) (.int i t)=true:=YC i t
theorem ZL (prog:Program) (w:World) (x:Str) (t:Tok):(mX prog w).is (.inr x) (.str x t)=true:=YD x t
inductive V where
 | aR | bl (b:Bool) | int (i:Int) | str (x:Str) | pQ (b:Array UInt8) | zA (b:UInt64) | ref (a:Addr) | ty (n:String)
 deriving DecidableEq
def bU:V->Value->Prop
 | .aR,u=>u=Value.none
 | .bl b,u=>u=Value.bool b
 | .int i,u=>∃t,u=Value.int i t
 | .str x,u=>∃t,u=Value.str x t
 | .pQ b,u=>∃t,u=Value.bytes b t
 | .zA b,u=>∃t,u=Value.float b t
 | .ref a,u=>u=Value.ref a
 | .ty n,u=>u=Value.type n
abbrev bq:List V->List Value->Prop:=Paired bU
theorem bq.length (r:bq xs us):xs.length=us.length:=Paired.length r
theorem bq.get:∀{xs:List V} {us:List Value} {i:Nat} {x:V},bq xs us->xs[i]?=some x->∃u,us[i]?=some u/\bU x u
 | _,_,_,_,.nil,e=>by simp at e
 | _,_,0,_,.cons r _,e=>by simp at e;subst e;exact ⟨_,rfl,r⟩
 | _,_,i+1,x,.cons _ t,e=>by obtain ⟨u,h1,h2⟩:=bq.get (i:=i) (x:=x) t (by simpa using e);exact ⟨u,by simpa using h1,h2⟩
theorem bq.set (r:bU x u):∀{xs:List V} {us:List Value} (i:Nat),bq xs us->bq (xs.set i x) (us.set i u)
 | _,_,_,.nil=>.nil
 | _,_,0,.cons _ t=>.cons r t
 | _,_,i+1,.cons q t=>.cons q (bq.set r i t)
theorem bq.append {xs ys:List V} {us ws:List Value} (h:bq xs us) (s:bq ys ws):bq (xs++ys) (us++ws):=by
 induction h with
 | nil=>exact s
 | cons r t ih=>exact .cons r ih
theorem bq.take:∀{xs:List V} {us:List Value} (n:Nat),bq xs us->bq (xs.take n) (us.take n)
 | _,_,0,_=>.nil
 | _,_,_+1,.nil=>.nil
 | _,_,n+1,.cons r t=>.cons r (bq.take n t)
theorem bq.drop:∀{xs:List V} {us:List Value} (n:Nat),bq xs us->bq (xs.drop n) (us.drop n)
 | _,_,0,r=>r
 | _,_,_+1,.nil=>.nil
 | _,_,n+1,.cons _ t=>bq.drop n t
def kf:Option V->Option Value->Prop
 | some v,some u=>bU v u
 | none,none=>True
 | _,_=>False
def KV {κ:Type}:List (κ×V)->List (κ×Value)->Prop:=Paired fun (p:κ×V) (q:κ×Value)=>p.1=q.1/\bU p.2 q.2
def kV:Key->V
 | .inl i=>.int i
 | .inr x=>.str x
inductive HO where
 | lst (xs:List V)
 | tup (xs:List V)
 | dK (kvs:List (Key×V)) | dT (kvs:List (List Key×V))
 | set (S:Int->Bool) (n:Nat)
 | ins (C dx:Addr) (fs:List (Str×V))
 | own (x:Addr)
 | xd (fs:List (Str×V))
 | met (f x:Addr)
 | LG (lo hi:Int)
 | gY (o:Obj) (u:HO)
 | i7 (ps:Array Value)
 | ext (φ:Heap->Prop)
abbrev Hp:=Addr->Option HO
def upd (H:Hp) (a:Addr) (o:HO):Hp:=fun b=>if b=a then some o else H b
theorem aq:upd H a o a=some o:=by unfold upd;rw [if_pos rfl]
theorem aj (h:b≠a):upd H a o b=H b:=by unfold upd;rw [if_neg h]
theorem Qh:upd (upd H a o) a u=upd H a u:=by funext b;unfold upd;split<;>rfl
theorem cB {H:Hp} {a b:Addr} {o u:HO} (h:H a=some o) (h':H b=some u) (d:o≠u):a≠b:=by intro e;subst e;rw [h] at h';exact d (dM h')
theorem aP {H:Hp} {a b:Addr} {o:HO} (h:H a=some o) (h':H b=none):a≠b:=by intro e;subst e;rw [h] at h';cases h'
section
variable (P:Program) (w:World)
def eK (H:Hp) (h:Heap) (a:Addr):HO->Prop
 | .lst xs=>xs.length<=sizeLine/\∃(its:List Value) (n:Nat),bq xs its/\h.get? a=some { cls:=.type "list",data:=.seq its.toArray n }
 | .tup xs=>xs.length<=sizeLine/\∃its:List Value,bq xs its/\IsTup h a its.toArray
 | .dK kvs=>kvs.length<=sizeLine/\(a==sysModules)=false/\∃vs,KV kvs vs/\h.DictOf (mX P w) a vs
 | .dT kvs=>kvs.length<=sizeLine/\(a==sysModules)=false/\∃xs:List (List Key×Addr×Value),
  Paired (fun (p:List Key×V) (q:List Key×Addr×Value)=>p.1=q.1/\H q.2.1=some (.tup (p.1.map kV))/\bU p.2 q.2.2) kvs xs/\
  ∃o es ep,h.get? a=some o/\o.ExactDict/\o.data=.dict es ep/\es.toList=xs.map (entryOfKey (tupleKind (mX P w)))/\(xs.map (·.1)).Nodup
 | .set S n=>h.SetOf (intKind P w) a S n
 | .ins C dx fs=>H dx=some (.own a)/\fs.length<=1000/\dx≠a/\h.get? a=some (PySem.W.instObj C dx)/\
  ∃mA,h.Ns1 dx mA/\(∀f,kf (fs.lookup f) (mA f))/\PySem.Within mA (fs.map (·.1))
 | .own _=>∃o,h.get? a=some o
 | .xd fs=>∃mA,h.Ns1 a mA/\∀f,kf (fs.lookup f) (mA f)
 | .LG lo hi=>∃t u v,h.get? a=some { cls:=.type "range",data:=.fields #[.int lo t,.int hi u,.int 1 v] }
 | .gY o u=>h.get? a=some o/\eK H h a u
 | .i7 ps=>h.get? a=some { cls:=.none,data:=.fields ps }
 | .met f x=>h.get? a=some (PySem.W.methodObj (.ref f) (.ref x))
 | .ext φ=>φ h/\(∃o,h.get? a=some o)/\∀h1 h2:Heap,φ h1->(∀o,h1.get? a=some o->h2.get? a=some o)->φ h2
def eS (H:Hp) (h:Heap):Prop:=∀a o,H a=some o->eK P w H h a o
end
section
theorem eK.lt (x:eK P w H h a o):a<h.objs.size:=by
 cases o with
 | lst xs=>obtain ⟨_,_,_,_,e⟩:=x;exact dr e
 | tup xs=>obtain ⟨_,_,_,p⟩:=x;exact p.lt
 | dK kvs=>obtain ⟨_,_,_,_,o,_,_,e,_⟩:=x;exact dr e
 | dT kvs=>obtain ⟨_,_,_,_,o,_,_,e,_⟩:=x;exact dr e
 | set S n=>obtain ⟨o,_,_,_,e,_⟩:=x;exact dr e
 | ins C dx fs=>obtain ⟨_,_,_,e,_⟩:=x;exact dr e
 | own y=>obtain ⟨_,e⟩:=x;exact dr e
 | xd fs=>obtain ⟨_,⟨_,_,_,e,_⟩,_⟩:=x;exact dr e
 | LG lo hi=>obtain ⟨_,_,_,e⟩:=x;exact dr e
 | gY ob u=>obtain ⟨e,_⟩:=x;exact dr e
 | i7 ps=>exact dr (show h.get? a=some _ from x)
 | met f y=>exact dr (show h.get? a=some _ from x)
 | ext φ=>obtain ⟨_,⟨_,e⟩,_⟩:=x;exact dr e
theorem Paired.yK {l₁:List α} {l₂:List β} (h:Paired F l₁ l₂) (f:∀a b,F a b->G a b):Paired G l₁ l₂:=by
 induction h with
 | nil=>exact .nil
 | cons r t ih=>exact .cons (f _ _ r) ih
theorem eK.eW (x:eK P w H h a o) (k:∀b u,(b=a\/H b=some (.own a))->h.get? b=some u->h'.get? b=some u)
 (ho:∀b,H b=some (.own a)->H' b=some (.own a)) (ht:∀b xs,H b=some (.tup xs)->H' b=some (.tup xs)):eK P w H' h' a o:=by
 induction o with
 | lst xs=>obtain ⟨z,its,n,r,e⟩:=x;exact ⟨z,its,n,r,k _ _ (.inl rfl) e⟩
 | tup xs=>obtain ⟨z,its,r,ob,e,c⟩:=x;exact ⟨z,its,r,ob,k _ _ (.inl rfl) e,c⟩
 | dK kvs=>obtain ⟨z,y,vs,r,ob,es,ep,e,c⟩:=x;exact ⟨z,y,vs,r,ob,es,ep,k _ _ (.inl rfl) e,c⟩
 | dT kvs=>
  obtain ⟨z,y,xs,r,ob,es,ep,e,c⟩:=x;exact ⟨z,y,xs,Paired.yK r fun p q z=>⟨z.1,ht _ _ z.2.1,z.2.2⟩,ob,es,ep,k _ _ (.inl rfl) e,c⟩
 | set S n=>obtain ⟨ob,es,ep,t,e,c⟩:=x;exact ⟨ob,es,ep,t,k _ _ (.inl rfl) e,c⟩
 | ins C dx fs=>
  obtain ⟨d,z,ne,e,mA,⟨od,es,ep,e2,c⟩,r⟩:=x;exact ⟨ho _ d,z,ne,k _ _ (.inl rfl) e,mA,⟨od,es,ep,k _ _ (.inr d) e2,c⟩,r⟩
 | own y=>obtain ⟨ob,e⟩:=x;exact ⟨ob,k _ _ (.inl rfl) e⟩
 | xd fs=>obtain ⟨mA,⟨od,es,ep,e,c⟩,r⟩:=x;exact ⟨mA,⟨od,es,ep,k _ _ (.inl rfl) e,c⟩,r⟩
 | LG lo hi=>obtain ⟨t,u,v,e⟩:=x;exact ⟨t,u,v,k _ _ (.inl rfl) e⟩
 | gY ob u ih=>obtain ⟨e,q⟩:=x;exact ⟨k _ _ (.inl rfl) e,ih q⟩
 | i7 ps=>
  have e:h.get? a=some { cls:=.none,data:=.fields ps }:=x;show h'.get? a=some { cls:=.none,data:=.fields ps };exact k a _ (.inl rfl) e
 | met f y=>
  have e:h.get? a=some (PySem.W.methodObj (.ref f) (.ref y)):=x;show h'.get? a=some (PySem.W.methodObj (.ref f) (.ref y));exact k a _ (.inl rfl) e
 | ext φ=>obtain ⟨p,⟨o,e⟩,st⟩:=x;exact ⟨st _ _ p fun o q=>k _ _ (.inl rfl) q,⟨o,k _ _ (.inl rfl) e⟩,st⟩
theorem eS.lt (x:eS P w H h) (e:H a=some o):a<h.objs.size:=(x a o e).lt
theorem eS.fresh (x:eS P w H h) (e:h.objs.size<=a):H a=none:=by
 cases q:H a with
 | none=>rfl
 | some u=>exact absurd (iC (x.lt q) e) (j8 _)
theorem eS.kept (x:eS P w H h) (k:∀b u,h.get? b=some u->h'.get? b=some u):eS P w H h':=fun a o e=>
 (x a o e).eW (fun b u _ q=>k b u q) (fun _ q=>q) fun _ _ q=>q
theorem eS.laid (x:eS P w H h) (k:∀b u,h.get? b=some u->h'.get? b=some u) (hp:h.objs.size<=a) (new:eK P w (upd H a o) h' a o):eS P w (upd H a o) h':=fun b u e=>by
 have hn:=x.fresh hp
 by_cases hb:b=a
 ·subst hb;rw [aq] at e;cases e;exact new
 ·rw [aj hb] at e;exact (x b u e).eW (fun c v _ q=>k c v q) (fun c q=>by rw [aj (aP q hn)];exact q) fun c xs q=>by rw [aj (aP q hn)];exact q
end
def Rd (H:Hp) (a:Addr) (u:HO):Prop:=H a=some u\/∃o,H a=some (.gY o u)
theorem Rd.ok (r:Rd H a u) (x:eS P w H h):eK P w H h a u:=by
 rcases r with r | ⟨o,r⟩
 ·exact x a u r
 ·obtain ⟨_,q⟩:=x a _ r;exact q
def A_:Option HO->Prop
 | some (.lst _)=>True
 | some (.dK _)=>True
 | some (.dT _)=>True
 | some (.set _ _)=>True
 | some (.ins _ _ _)=>True
 | some (.ext _)=>True
 | _=>False
section
variable {P:Program} {w:World} {H:Hp} {h h':Heap} {x e:Addr} {o':HO}
theorem eS.write (ok:eS P w H h) (mu:A_ (H x)) (he:e=x\/H e=some (.own x)) (k:∀b u,b≠e->h.get? b=some u->h'.get? b=some u) (AK:∃u,h'.get? e=some u)
 (new:eK P w (upd H x o') h' x o'):eS P w (upd H x o') h':=fun b u q=>by
 have vc:∀c y,H c=some (.own y)->c≠x:=fun c y r z=>by subst z;rw [r] at mu;exact mu
 have yI:∀c xs,H c=some (.tup xs)->c≠x:=fun c xs r z=>by subst z;rw [r] at mu;exact mu
 by_cases hb:b=x
 ·subst hb;rw [aq] at q;cases q;exact new
 ·rw [aj hb] at q
  by_cases tM:b=e
  ·have q':H b=some (.own x):=by
    rcases he with z | z
    ·exact absurd (tM.trans z) hb
    ·rw [tM];exact z
   rw [q] at q';cases q';obtain ⟨v,hv⟩:=AK;exact ⟨v,by rw [tM];exact hv⟩
  ·refine (ok b u q).eW (fun c v hc r=>k c v ?_ r) (fun c r=>by rw [aj (vc c b r)];exact r) fun c xs r=>by rw [aj (yI c xs r)];exact r
   rcases hc with rfl | hc
   ·exact tM
   ·rintro rfl;rcases he with z | z
    ·exact vc c b hc z
    ·rw [hc] at z;cases z;exact hb rfl
end
structure Un (fs ex:List Addr) (H H':Hp) (h h':Heap):Prop where
 keep:∀b o,h.get? b=some o->H b=none->b∉fs->b∉ex->h'.get? b=some o
 slot:∀b o,h.get? b=some o->H b=none->b∈fs->b∉ex->∃sl,h'.get? b=some { o with slots:=sl }
 free:∀b o,h.get? b=some o->H b=none->b∉ex->H' b=none
 there:∀b o,h.get? b=some o->b∉ex->∃o',h'.get? b=some o'
 gO:∀b xs,H b=some (.tup xs)->H' b=some (.tup xs)
 g9:∀b o u,H b=some (.gY o u)->H' b=some (.gY o u)
 i6:∀b ps,H b=some (.i7 ps)->∃more,H' b=some (.i7 (ps++more))
section
variable {fs fs' ex IG:List Addr} {H H1 H2:Hp} {h h1 h2 h':Heap} {a x e:Addr} {o:HO}
theorem Un.any (u:Un fs ex H H1 h h1) (q:h.get? b=some ob) (n:H b=none) (hx:b∉ex):∃sl,h1.get? b=some { ob with slots:=sl }:=by
 by_cases hb:b∈fs
 ·exact u.slot b ob q n hb hx
 ·exact ⟨ob.slots,u.keep b ob q n hb hx⟩
theorem Un.kept (k:∀b u,h.get? b=some u->h'.get? b=some u):Un fs ex H H h h':=
 ⟨fun b ob q _ _ _=>k b ob q,fun b ob q _ _ _=>⟨ob.slots,k b ob q⟩,fun _ _ _ n _=>n,fun b ob q _=>⟨ob,k b ob q⟩,fun _ _ q=>q,fun _ _ _ q=>q,fun _ ps q=>⟨#[],by rw [q];simp⟩⟩
theorem Un.refl:Un fs ex H H h h:=Un.kept fun _ _ q=>q
theorem Un.laid (k:∀b u,h.get? b=some u->h'.get? b=some u) (hp:h.objs.size<=a) (hn:H a=none):Un fs ex H (upd H a o) h h' where
 keep:=fun b u q _ _ _=>k b u q
 slot:=fun b u q _ _ _=>⟨u.slots,k b u q⟩
 free:=fun b u q n _=>by rw [aj (h_ (iC (dr q) hp))];exact n
 there:=fun b u q _=>⟨u,k b u q⟩
 gO:=fun b xs q=>by rw [aj (aP q hn)];exact q
 g9:=fun b u xs q=>by rw [aj (aP q hn)];exact q
 i6:=fun b ps q=>⟨#[],by rw [aj (aP q hn),q];simp⟩
theorem Un.write (mu:A_ (H x)) (he:e=x\/H e=some (.own x)) (k:∀b u,b≠e->h.get? b=some u->h'.get? b=some u) (AK:∃u,h'.get? e=some u):Un fs ex H (upd H x o) h h':=by
 have hx:∀b,H b=none->b≠x:=fun b n z=>by subst z;rw [n] at mu;exact mu
 have hb:∀b,H b=none->b≠e:=fun b n z=>by
  subst z;rcases he with r | r
  ·exact hx b n r
  ·rw [n] at r;cases r
 have hm:∀b u,H b=some u->¬A_ (some u)->b≠x:=fun b u q nm z=>by subst z;rw [q] at mu;exact nm mu
 refine ⟨fun b u q n _ _=>k b u (hb b n) q,fun b u q n _ _=>⟨u.slots,k b u (hb b n) q⟩,fun b u q n _=>by rw [aj (hx b n)];exact n,fun b u q _=>?_,
  fun b xs q=>by rw [aj (hm b _ q fun z=>z)];exact q,fun b u xs q=>by rw [aj (hm b _ q fun z=>z)];exact q,fun b ps q=>⟨#[],by rw [aj (hm b _ q fun z=>z),q];simp⟩⟩
 by_cases tM:b=e
 ·subst tM;exact AK
 ·exact ⟨u,k b u tM q⟩
end
def HL (h:Heap) (H:Hp):List Addr:=(List.range h.objs.size).filter fun a=>(H a).isSome
def sG (h:Heap) (H:Hp):Heap:=PySem.W.hideAll h (HL h H)
theorem YA (h:Heap) (H:Hp):(sG h H).objs.size=h.objs.size:=PySem.W.hideAll_size _ _
theorem Xh (e:h.get? b=some o) (n:H b=none):(sG h H).get? b=some o:=
 PySem.W.hideAll_get _ e fun hm=>by have q:(H b).isSome=true:=(List.mem_filter.mp hm).2;rw [n] at q;simp at q
theorem zBp (e:(sG h H).get? b=some o):h.get? b=some o/\H b=none:=by
 have e':h.get? b=some o:=PySem.W.of_hideAll (HL h H) e;refine ⟨e',?_⟩
 cases q:H b with
 | none=>rfl
 | some x=>
  have hm:b∈HL h H:=List.mem_filter.mpr ⟨m9.mpr (dr e'),by simp [q]⟩;have z:(sG h H).get? b=none:=PySem.W.hideAll_none (HL h H) hm;rw [z] at e;cases e
structure Mod (K:bE) (mg:Str->Option Value) (base:Heap):Prop where
 wG:K.In base
 glob:base.Ns mainGlobals mg
 blt:∃mb,base.Ns builtinsNs mb/\∀x:Str,x≠"__name__"->mb x=bootBuiltins x
 nolimit:base.NoLimit
structure Cx where
 prog:Program
 w:World
 K:bE
 mg:Str->Option Value
 base:Heap
 A:Around
 N:List Str
 bX:Shared
 gb:Hp
 env:Env
 outer:List Env
 stack:List Env
 ex:List Addr
 fn:Str->Bool
 calm:Bool
 pn:List (Addr×Obj)
 xe:Value->Shared->Prop
def je (l:List Env):List Addr:=l.filterMap (·.frame)
abbrev Cx.fs (X:Cx):List Addr:=je X.outer
def xf (sc:Scope) (x:Str):Prop:=sc.names.lookup x=some .local\/sc.names.lookup x=some .cell\/sc.names.lookup x=some .free
def Loc (sc:Scope) (x:Str):Prop:=sc.names.lookup x=some .local\/sc.names.lookup x=some .cell
def zIq (env:Env) (h:Heap) (m:Str->Option Value) (x:Str) (u:Value):Prop:=
 (env.kindOf x=some .local/\m x=some u)\/((env.kindOf x=some .cell\/env.kindOf x=some .free)/\∃c,env.cells.lookup x=some c/\h.IsCell c (some u))
structure Cx.Ok (X:Cx):Prop where
 mod:Mod X.K X.mg X.base
 kind:X.env.scope.kind=.function
 glob:X.env.globals=mainGlobals
 blt:X.env.builtins=builtinsNs
 above:X.bX.heap.objs.size<=X.env.locals
 inj:∀x y c,X.env.cells.lookup x=some c->X.env.cells.lookup y=some c->x=y
 has:∀x,(X.env.kindOf x=some .cell\/X.env.kindOf x=some .free)->∃c,X.env.cells.lookup x=some c
 vz:∀x c,X.fn x=true->X.env.cells.lookup x=some c->X.bX.heap.objs.size<=c
 hd:X.calm=true->X.A.handled=none
 frames:X.A.frames=some X.stack
 wq:X.stack=X.outer\/(X.stack=X.env::X.outer/\X.env.frame=some X.env.locals)
 AU:∀b∈X.ex,b≠X.env.locals/\∀x c,X.env.cells.lookup x=some c->c≠b
 bs:∀b o,X.base.get? b=some o->X.bX.heap.get? b=some o/\X.gb b=none
 oQ:X.base.objs.size<=X.bX.heap.objs.size
 kF:∀b o,X.base.get? b=some o->b∉X.ex
 kT:∀b∈X.ex,b∉X.fs
 eG:X.bX.heap.FunFrames X.base X.outer
 pM:∀b∈X.fs,X.gb b=none
structure Inv (X:Cx) (pins:List (Addr×Obj)) (σ:List (Option V)) (H:Hp) (s:Shared):Prop where
 ok:X.Ok
 os:s.os=X.bX.os
 bare:AllBare s.gens
 base:Un X.fs X.ex X.gb H X.bX.heap s.heap
 loc:∃m,s.heap.Ns X.env.locals m/\∀(i:Nat) (x:Str) (v:V),X.N[i]?=some x->σ[i]?=some (some v)->xf X.env.scope x->∃u,bU v u/\zIq X.env s.heap m x u
 cell:∀x c,X.env.cells.lookup x=some c->∃v,s.heap.IsCell c v
 free:H X.env.locals=none
 cI:∀x c,X.env.cells.lookup x=some c->H c=none
 pin:∀p∈X.pn++pins,s.heap.get? p.1=some p.2/\H p.1=none/\p.1≠X.env.locals/\p.1∉X.fs/\∀v,p.2.data≠.cell v
 af:eS X.prog X.w H s.heap
 len:σ.length=X.N.length
section
variable {X:Cx} {pins:List (Addr×Obj)} {σ:List (Option V)} {H H':Hp} {s:Shared} {h':Heap}
theorem Cx.Ok.LR (ok:X.Ok) (e:X.base.get? b=some o):b∉X.fs:=fun hb=>by have:=(ok.eG.mem hb).1;rw [e] at this;cases this
theorem Inv.bs (I:Inv X pins σ H s):∀b o,X.base.get? b=some o->s.heap.get? b=some o/\H b=none:=fun b o e=>
 ⟨I.base.keep b o (I.ok.bs b o e).1 (I.ok.bs b o e).2 (I.ok.LR e) (I.ok.kF b o e),I.base.free b o (I.ok.bs b o e).1 (I.ok.bs b o e).2 (I.ok.kF b o e)⟩
theorem Inv.bk (I:Inv X pins σ H s):∀b o,X.base.get? b=some o->s.heap.get? b=some o:=fun b o e=>(I.bs b o e).1
theorem Inv.mod (I:Inv X pins σ H s):Mod X.K X.mg X.base:=I.ok.mod
theorem Inv.gG (I:Inv X pins σ H s):X.K.In s.heap:=I.ok.mod.wG.keeps I.bk
theorem Inv.lt (I:Inv X pins σ H s):X.env.locals<s.heap.objs.size:=let ⟨_,hn,_⟩:=I.loc;hn.lt
theorem Inv.sz (I:Inv X pins σ H s):X.bX.heap.objs.size<=s.heap.objs.size:=dq I.ok.above (aS I.lt)
theorem Inv.LP (I:Inv X pins σ H s) (h:s.heap.objs.size<=a):a∉X.fs:=fun hb=>by obtain ⟨_,o,ho,_⟩:=I.ok.eG.mem hb;exact absurd (iC (dr ho) (dq I.sz h)) (j8 _)
theorem Inv.zE (I:Inv X pins σ H s):∀x c,X.env.cells.lookup x=some c->c≠X.env.locals:=fun x c e z=>by obtain ⟨v,o,ho,hd⟩:=I.cell x c e;obtain ⟨m,⟨o',es,ep,mz,AM,_⟩,_⟩:=I.loc;rw [z,mz] at ho;cases ho;rw [AM] at hd;cases hd
theorem Inv.eG (I:Inv X pins σ H s):s.heap.FunFrames X.base X.outer:=by
 have all:∀(l:List Env),(∀b∈je l,b∈X.fs)->X.bX.heap.FunFrames X.base l->s.heap.FunFrames X.base l:=by
  intro l
  induction l with
  | nil=>intro _ _;trivial
  | cons env r ih=>
   intro hs hl;obtain ⟨hk,⟨L,o,hf,hn,ho,hd⟩,hr⟩:=hl;have hL:L∈X.fs:=hs L (by unfold je;rw [tS,hf];exact dN);obtain ⟨sl,e⟩:=I.base.slot L o ho (I.ok.pM L hL) hL fun z=>I.ok.kT L z hL;exact ⟨hk,⟨L,_,hf,hn,e,hd⟩,ih (fun b hb=>hs b (by unfold je;rw [tS,hf];exact f_ _ hb)) hr⟩
 exact all X.outer (fun _ hb=>hb) I.ok.eG
theorem Inv.stack (I:Inv X pins σ H s):s.heap.FunFrames X.base X.stack:=by
 rcases I.ok.wq with e | ⟨e,hf⟩
 ·rw [e];exact I.eG
 ·rw [e];obtain ⟨m,hn,_⟩:=I.loc;refine .cons (by rw [I.ok.kind];decide) hf hn ?_ I.eG;exact Heap.get?_none_of_le (dq I.ok.oQ I.ok.above)
theorem Inv.ko (I:Inv X pins σ H s):∀b∈je X.stack,b∈X.env.locals::X.fs:=fun b hb=>by
 rcases I.ok.wq with e | ⟨e,hf⟩
 ·rw [e] at hb;exact f_ _ hb
 ·rw [e] at hb;unfold je at hb;rw [tS,hf] at hb;exact hb
theorem Inv.gP (I:Inv X pins σ H s):∀b∈je X.stack,H b=none:=fun b hb=>by
 rcases eh.mp (I.ko b hb) with e | hb
 ·rw [e];exact I.free
 ·obtain ⟨_,o,ho,_⟩:=I.ok.eG.mem hb;exact I.base.free b o ho (I.ok.pM b hb) fun z=>I.ok.kT b z hb
theorem Inv.step {g':Array GenState} {t':Nat} {d':Drawn} {ch:List Addr} (I:Inv X pins σ H s)
 (tL:∀b∈ch,(b∈X.ex\/X.bX.heap.objs.size<=b)/\b≠X.env.locals/\(∀x c,X.env.cells.lookup x=some c->c≠b)/\∀p∈X.pn++pins,p.1≠b)
 (keep:∀b o,b≠X.env.locals->b∉X.fs->b∉ch->s.heap.get? b=some o->H b=none->h'.get? b=some o)
 (slot:∀b o,b≠X.env.locals->b∈X.fs->b∉ch->s.heap.get? b=some o->H b=none->∃sl,h'.get? b=some { o with slots:=sl }) (free:∀b o,b∉ch->s.heap.get? b=some o->H b=none->H' b=none)
 (there:∀b o,b∉ch->s.heap.get? b=some o->∃o',h'.get? b=some o')
 (gO:∀b xs,H b=some (.tup xs)->H' b=some (.tup xs)) (g9:∀b o u,H b=some (.gY o u)->H' b=some (.gY o u)) (i6:∀b ps,H b=some (.i7 ps)->∃more,H' b=some (.i7 (ps++more)))
 (ns:∀m,s.heap.Ns X.env.locals m->h'.Ns X.env.locals m) (af:eS X.prog X.w H' h') (hg:AllBare g'):
 Inv X pins σ H' { s with heap:=h',gens:=g',drawn:=d',toks:=t' }:=by
 have Vy:∀b o,X.bX.heap.get? b=some o->b≠X.env.locals:=fun b o e=>h_ (iC (dr e) I.ok.above);have HX:∀b o,X.bX.heap.get? b=some o->b∉X.ex->b∉ch:=fun b o e hx hb=>by
  rcases (tL b hb).1 with z | z
  ·exact hx z
  ·exact absurd (iC (dr e) z) (j8 _)
 have cellK:∀x c,X.env.cells.lookup x=some c->∀v,s.heap.IsCell c v->h'.IsCell c v:=fun x c e v ⟨o,ho,hd⟩=>by
  have Cy:c∉ch:=fun z=>(tL c z).2.2.1 x c e rfl
  by_cases hc:c∈X.fs
  ·obtain ⟨sl,q⟩:=slot c o (I.zE x c e) hc Cy ho (I.cI x c e);exact ⟨_,q,hd⟩
  ·exact ⟨o,keep c o (I.zE x c e) hc Cy ho (I.cI x c e),hd⟩
 refine ⟨I.ok,I.os,hg,⟨fun b o e n hb hx=>?_,fun b o e n hb hx=>?_,fun b o e n hx=>?_,fun b o e hx=>?_,fun b xs e=>gO b xs (I.base.gO b xs e),fun b o xs e=>g9 b o xs (I.base.g9 b o xs e),fun b ps e=>?_⟩,?_,fun x c e=>?_,?_,fun x c e=>?_,fun p hp=>?_,af,I.len⟩
 ·exact keep b o (Vy b o e) hb (HX b o e hx) (I.base.keep b o e n hb hx) (I.base.free b o e n hx)
 ·obtain ⟨sl,e1⟩:=I.base.slot b o e n hb hx;obtain ⟨A7,e2⟩:=slot b _ (Vy b o e) hb (HX b o e hx) e1 (I.base.free b o e n hx);exact ⟨A7,e2⟩
 ·obtain ⟨o',e1⟩:=I.base.there b o e hx;exact free b o' (HX b o e hx) e1 (I.base.free b o e n hx)
 ·obtain ⟨o',e1⟩:=I.base.there b o e hx;exact there b o' (HX b o e hx) e1
 ·obtain ⟨m1,e1⟩:=I.base.i6 b ps e;obtain ⟨m2,e2⟩:=i6 b _ e1;exact ⟨m1++m2,by rw [e2,Array.append_assoc]⟩
 ·obtain ⟨m,hn,hl⟩:=I.loc;refine ⟨m,ns m hn,fun i x v e1 e2 e3=>?_⟩;obtain ⟨u,r,l⟩:=hl i x v e1 e2 e3;refine ⟨u,r,?_⟩;rcases l with l | ⟨k,c,e,z⟩
  ·exact .inl l
  ·exact .inr ⟨k,c,e,cellK x c e _ z⟩
 ·obtain ⟨v,z⟩:=I.cell x c e;exact ⟨v,cellK x c e v z⟩
 ·obtain ⟨m,⟨o,_,_,ho,_⟩,_⟩:=I.loc;exact free _ o (fun z=>(tL _ z).2.1 rfl) ho I.free
 ·obtain ⟨v,o,ho,hd⟩:=I.cell x c e;exact free c o (fun z=>(tL c z).2.2.1 x c e rfl) ho (I.cI x c e)
 ·obtain ⟨e,n,ne,nf,d⟩:=I.pin p hp;have Cy:p.1∉ch:=fun z=>(tL p.1 z).2.2.2 p hp rfl;exact ⟨keep p.1 p.2 ne nf Cy e n,free p.1 p.2 Cy e n,ne,nf,d⟩
theorem Inv.un {t':Nat} (I:Inv X pins σ H s) (u:Un X.fs [] H H' s.heap h') (af:eS X.prog X.w H' h'):Inv X pins σ H' { s with heap:=h',toks:=t' }:=by
 obtain ⟨m,⟨o,es,ep,ho,r⟩,_⟩:=id I.loc;obtain ⟨sl,hL⟩:=u.any ho I.free (by simp);exact I.step (g':=s.gens) (d':=s.drawn) (ch:=[]) (fun _ z=>nomatch z) (fun b o _ hb _ e n=>u.keep b o e n hb (by simp)) (fun b o _ hb _ e n=>u.slot b o e n hb (by simp)) (fun b o _ e n=>u.free b o e n (by simp)) (fun b o _ e=>u.there b o e (by simp)) u.gO u.g9 u.i6 (fun m' hm=>by
  obtain ⟨o',DH,IH,mz,r'⟩:=hm;rw [ho] at mz;cases mz;exact ⟨_,DH,IH,hL,r'⟩) af I.bare
theorem Inv.call {g':Array GenState} {t':Nat} {d':Drawn} {ch:List Addr} (I:Inv X pins σ H s) (u:Un (je X.stack) ch H H' s.heap h') (af:eS X.prog X.w H' h') (hg:AllBare g')
 (tL:∀b∈ch,(b∈X.ex\/X.bX.heap.objs.size<=b)/\b≠X.env.locals/\(∀x c,X.env.cells.lookup x=some c->c≠b)/\∀p∈X.pn++pins,p.1≠b):
 Inv X pins σ H' { s with heap:=h',gens:=g',drawn:=d',toks:=t' }:=by
 obtain ⟨m,⟨o,es,ep,ho,r⟩,_⟩:=id I.loc;obtain ⟨sl,hL⟩:=u.any ho I.free fun z=>(tL _ z).2.1 rfl;exact I.step (ch:=ch) tL (fun b o hL hb hc e n=>u.keep b o e n (fun z=>(eh.mp (I.ko b z)).elim hL hb) hc) (fun b o _ _ hc e n=>u.any e n hc) (fun b o hc e n=>u.free b o e n hc) (fun b o hc e=>u.there b o e hc) u.gO u.g9 u.i6 (fun m' hm=>by
  obtain ⟨o',DH,IH,mz,r'⟩:=hm;rw [ho] at mz;cases mz;exact ⟨_,DH,IH,hL,r'⟩) af hg
theorem Inv.turned {t':Nat} {it:Addr} (I:Inv X pins σ H s) (k:∀b o,b≠it->s.heap.get? b=some o->h'.get? b=some o) (hn:H it=none) (hL:it≠X.env.locals)
 (h1:it∈X.ex\/X.bX.heap.objs.size<=it) (h2:∀x c,X.env.cells.lookup x=some c->c≠it) (h3:∀p∈X.pn++pins,p.1≠it):Inv X pins σ H { s with heap:=h',toks:=t' }:=by
 have Vw:∀b u,H b=some u->b≠it:=fun b u e z=>by rw [z,hn] at e;cases e
 refine I.step (g':=s.gens) (d':=s.drawn) (ch:=[it]) (fun b hb=>?_) (fun b o _ _ hc e _=>k b o (fun z=>hc (by simp [z])) e) (fun b o _ _ hc e _=>⟨o.slots,k b o (fun z=>hc (by simp [z])) e⟩) (fun _ _ _ _ n=>n)
  (fun b o hc e=>⟨o,k b o (fun z=>hc (by simp [z])) e⟩) (fun _ _ e=>e) (fun _ _ _ e=>e) (fun b ps e=>⟨#[],by rw [e];simp⟩) (fun m hm=>?_) (fun b u e=>?_) I.bare
 ·have e:b=it:=by simpa using hb
  subst e;exact ⟨h1,hL,h2,h3⟩
 ·obtain ⟨o,es,ep,ho,r⟩:=hm;exact ⟨o,es,ep,k _ o (aB hL) ho,r⟩
 ·refine (I.af b u e).eW (fun c v hc q=>k c v ?_ q) (fun _ q=>q) fun _ _ q=>q;rcases hc with z | z
  ·rw [z];exact Vw b u e
  ·exact Vw c _ z
theorem Inv.tok (I:Inv X pins σ H s) (t:Nat):Inv X pins σ H { s with toks:=t }:=I.un (h':=s.heap) (t':=t) Un.refl I.af
theorem Inv.kept (I:Inv X pins σ H s) (k:∀b u,s.heap.get? b=some u->h'.get? b=some u):Inv X pins σ H { s with heap:=h',toks:=t' }:=I.un (Un.kept k) (I.af.kept k)
theorem Inv.laid (I:Inv X pins σ H s) (k:∀b u,s.heap.get? b=some u->h'.get? b=some u) (hp:s.heap.objs.size<=a) (new:eK X.prog X.w (upd H a o) h' a o):
 Inv X pins σ (upd H a o) { s with heap:=h',toks:=t' }:=I.un (Un.laid k hp (I.af.fresh hp)) (I.af.laid k hp new)
theorem Inv.write (I:Inv X pins σ H s) (mu:A_ (H x)) (he:e=x\/H e=some (.own x)) (k:∀b u,b≠e->s.heap.get? b=some u->h'.get? b=some u) (AK:∃u,h'.get? e=some u)
 (new:eK X.prog X.w (upd H x o) h' x o):Inv X pins σ (upd H x o) { s with heap:=h',toks:=t' }:=I.un (Un.write mu he k AK) (I.af.write mu he k AK new)
theorem Inv.o6 (I:Inv X pins σ H s) (h:∀p∈wA,s.heap.get? p.1=some p.2/\H p.1=none/\p.1≠X.env.locals/\p.1∉X.fs/\∀v,p.2.data≠.cell v):Inv X wA σ H s:=
 ⟨I.ok,I.os,I.bare,I.base,I.loc,I.cell,I.free,I.cI,fun p hp=>(jF.mp hp).elim (fun z=>I.pin p (gJ _ z)) (h p),I.af,I.len⟩
theorem Q4 {N:List Str} (hN:N.Nodup) {i j:Nat} {x:Str} (a:N[i]?=some x) (b:N[j]?=some x):i=j:=by obtain ⟨h1,e1⟩:=gu.mp a;obtain ⟨h2,e2⟩:=gu.mp b;exact (List.getElem_inj hN).mp (e1.trans e2.symm)
theorem Sa {M:Model} {A:Around} {E:Value->Shared->Prop} {i:Nat} {x:Str} {v:V} {u:Value} {Q:Unit->Shared->Prop} (I:Inv X pins σ H s) (hN:X.N.Nodup) (hi:X.N[i]?=some x) (hx:Loc X.env.scope x) (r:bU v u)
 (h:∀s',Inv X pins (σ.set i (some v)) H s'->(∃a,Heap.SameBut a s.heap s'.heap/\(a=X.env.locals\/X.env.cells.lookup x=some a))->Q () s') (hf:X.fn x=true\/X.env.scope.names.lookup x=some .local:=by first | exact .inl rfl | exact .inr rfl | assumption):wpAny M A (storeName X.env x u) Q E s:=by
 obtain ⟨m,hn,hl⟩:=id I.loc;have N7:(X.env.scope.kind==.class || (X.env.scope.kind==.module && X.env.locals !=X.env.globals))=false:=by rw [I.ok.kind];rfl
 have Dk:i<σ.length:=by rw [I.len];exact (gu.mp hi).1
 have zE:=I.zE;have tracked:∀{a:Addr} {h':Heap},(∃o,s.heap.get? a=some o/\H a=none)->Heap.SameBut a s.heap h'->eS X.prog X.w H h':=fun {a h'} ha hs b ob e=>by
  obtain ⟨_,_,oG⟩:=ha;refine (I.af b ob e).eW (fun c w' hc q=>(hs.2 c ?_).trans q) (fun _ q=>q) fun _ _ q=>q;rintro rfl;rcases hc with rfl | hc
  ·rw [oG] at e;cases e
  ·rw [oG] at hc;cases hc
 rcases hx with hk | hk
 ·refine wpAny_storeName_local hk hn (fun h' Im hs=>?_) N7;obtain ⟨oL,_,_,zc,_⟩:=id hn;refine h _ ⟨I.ok,I.os,I.bare,⟨fun b o e n hb hx=>?_,fun b o e n hb hx=>?_,I.base.free,fun b o e hx=>?_,I.base.gO,I.base.g9,I.base.i6⟩,⟨_,Im,fun j y v' e1 e2 e3=>?_⟩,fun y c e=>?_,I.free,I.cI,fun p hp=>?_,tracked ⟨oL,zc,I.free⟩ hs,by simpa using I.len⟩ ⟨_,hs,.inl rfl⟩
  ·exact (hs.2 b (h_ (iC (dr e) I.ok.above))).trans (I.base.keep b o e n hb hx)
  ·obtain ⟨sl,e1⟩:=I.base.slot b o e n hb hx;exact ⟨sl,(hs.2 b (h_ (iC (dr e) I.ok.above))).trans e1⟩
  ·obtain ⟨o',e1⟩:=I.base.there b o e hx;exact ⟨o',(hs.2 b (h_ (iC (dr e) I.ok.above))).trans e1⟩
  ·by_cases hj:j=i
   ·subst hj;rw [hi] at e1;cases e1;rw [List.getElem?_set_self Dk] at e2;cases e2;exact ⟨u,r,.inl ⟨hk,by simp⟩⟩
   ·rw [List.getElem?_set_ne (aB hj)] at e2;obtain ⟨u',r',q⟩:=hl j y v' e1 e2 e3;refine ⟨u',r',?_⟩;rcases q with ⟨k,e⟩ | ⟨k,c,e,z⟩
    ·refine .inl ⟨k,?_⟩;have:y≠x:=fun e=>hj (Q4 hN e1 (e▸hi));simp [this,e]
    ·exact .inr ⟨k,c,e,z.sameBut hs (zE y c e)⟩
  ·obtain ⟨w',z⟩:=I.cell y c e;exact ⟨w',z.sameBut hs (zE y c e)⟩
  ·obtain ⟨e,n,ne,nf,d⟩:=I.pin p hp;exact ⟨(hs.2 p.1 ne).trans e,n,ne,nf,d⟩
 ·have Nr:X.fn x=true:=by
   rcases hf with z | z
   ·exact z
   ·rw [z] at hk;cases hk
  obtain ⟨c,hc⟩:=I.ok.has x (.inl hk);obtain ⟨w',z⟩:=I.cell x c hc;refine wpAny_storeName_cell I.ok.kind hk hc z (fun h' jE hs=>?_);obtain ⟨oc,VP,MI⟩:=id z;refine h { s with heap:=h' } ⟨I.ok,I.os,I.bare,⟨fun b o e n hb hx=>?_,fun b o e n hb hx=>?_,I.base.free,fun b o e hx=>?_,I.base.gO,I.base.g9,I.base.i6⟩,⟨m,hn.sameBut hs (aB (zE x c hc)),fun j y v' e1 e2 e3=>?_⟩,fun y c' e=>?_,I.free,I.cI,fun p hp=>?_,tracked ⟨oc,VP,I.cI x c hc⟩ hs,by simpa using I.len⟩ ⟨c,hs,.inr hc⟩
  ·exact (hs.2 b (h_ (iC (dr e) (I.ok.vz x c Nr hc)))).trans (I.base.keep b o e n hb hx)
  ·obtain ⟨sl,e1⟩:=I.base.slot b o e n hb hx;exact ⟨sl,(hs.2 b (h_ (iC (dr e) (I.ok.vz x c Nr hc)))).trans e1⟩
  ·obtain ⟨o',e1⟩:=I.base.there b o e hx;exact ⟨o',(hs.2 b (h_ (iC (dr e) (I.ok.vz x c Nr hc)))).trans e1⟩
  ·by_cases hj:j=i
   ·subst hj;rw [hi] at e1;cases e1;rw [List.getElem?_set_self Dk] at e2;cases e2;exact ⟨u,r,.inr ⟨.inl hk,c,hc,jE⟩⟩
   ·rw [List.getElem?_set_ne (aB hj)] at e2;obtain ⟨u',r',q⟩:=hl j y v' e1 e2 e3;refine ⟨u',r',?_⟩;rcases q with q | ⟨k,c',e,z'⟩
    ·exact .inl q
    ·refine .inr ⟨k,c',e,z'.sameBut hs ?_⟩;rintro rfl;exact hj (Q4 hN e1 (I.ok.inj _ _ _ e hc▸hi))
  ·by_cases Wa:c'=c
   ·subst Wa;exact ⟨_,jE⟩
   ·obtain ⟨w2,z2⟩:=I.cell y c' e;exact ⟨w2,z2.sameBut hs Wa⟩
  ·obtain ⟨e,n,ne,nf,d⟩:=I.pin p hp;refine ⟨(hs.2 p.1 ?_).trans e,n,ne,nf,d⟩;intro q;rw [q,VP] at e;have q':oc=p.2:=dM e;exact d w' (by rw [<-q'];exact MI)
theorem Kp (I:Inv X pins σ H s) (hN:X.N.Nodup) (hi:X.N[i]?=some x) (hx:Loc X.env.scope x) (r:bU v u)
 (h:∀s',Inv X pins (σ.set i (some v)) H s'->Q () s') (hf:X.fn x=true\/X.env.scope.names.lookup x=some .local:=by first | exact .inl rfl | exact .inr rfl | assumption):wpAny M A (storeName X.env x u) Q E s:=
 Sa I hN hi hx r (fun s' I' _=>h s' I') hf
theorem Inv.oP (I:Inv X pins σ H s) (ho:s'.os=s.os) (u:Un (je X.stack) ch H H' s.heap s'.heap) (af:eS X.prog X.w H' s'.heap) (hg:AllBare s'.gens)
 (tL:∀b∈ch,(b∈X.ex\/X.bX.heap.objs.size<=b)/\b≠X.env.locals/\(∀x c,X.env.cells.lookup x=some c->c≠b)/\∀p∈X.pn++pins,p.1≠b):Inv X pins σ H' s':=by
 obtain ⟨h',g',d',t',o'⟩:=s';have e:o'=s.os:=ho;subst e;exact I.call (g':=g') (t':=t') (d':=d') u af hg tL
end
abbrev XK:=Value->Option Addr->Hp->Prop
abbrev St:=List (Option V)
abbrev VK:=V->Hp->Prop
abbrev TE:=St->Hp->VK->Prop
abbrev TT:=St->Hp->(Bool->Hp->Prop)->Prop
abbrev TA:=St->Hp->(List V->Hp->Prop)->Prop
structure v_ where
 nx:St->Hp->Prop
 rt:VK
 bk:St->Hp->Prop:=fun _ _=>False
 ct:St->Hp->Prop:=fun _ _=>False
abbrev TS:=v_->St->Hp->Prop
theorem fi {α β:Type} {p q r:α->β->Prop} {P:Prop} (h:∃a b,p a b/\q a b/\r a b) (k:∀a b,p a b->q a b->r a b->P):P:=by obtain ⟨a,b,x,y,z⟩:=h;exact k a b x y z
theorem WA {α:Type} {p q:α->Prop} {P:Prop} (h:∃a,p a/\q a) (k:∀a,p a->q a->P):P:=by obtain ⟨a,x,y⟩:=h;exact k a x y
def EP (X:Cx) (pins:List (Addr×Obj)) (σ:St) (Q:VK) (u:Value) (s':Shared):Prop:=∃v H',Inv X pins σ H' s'/\bU v u/\Q v H'
def TP (X:Cx) (pins:List (Addr×Obj)) (σ:St) (Q:Bool->Hp->Prop) (b:Bool) (s':Shared):Prop:=∃H',Inv X pins σ H' s'/\Q b H'
def AP (X:Cx) (pins:List (Addr×Obj)) (σ:St) (Q:List V->Hp->Prop) (us:List Value) (s':Shared):Prop:=∃vs H',Inv X pins σ H' s'/\bq vs us/\Q vs H'
def SP (X:Cx) (pins:List (Addr×Obj)) (D:v_) (f:Flow) (s':Shared):Prop:=
 match f with
 | .next=>∃ae H',Inv X pins ae H' s'/\D.nx ae H'
 | .brk=>∃ae H',Inv X pins ae H' s'/\D.bk ae H'
 | .cont=>∃ae H',Inv X pins ae H' s'/\D.ct ae H'
 | .ret u=>∃v ae H',Inv X pins ae H' s'/\bU v u/\D.rt v H'
def PE (X:Cx) (e:Expr) (t:TE):Prop:=
 ∀(pins:List (Addr×Obj)) (s:Shared) (σ:St) (H:Hp) (Q:VK),Inv X pins σ H s->t σ H Q->wpAny (model X.prog X.w) X.A (eval e X.env) (EP X pins σ Q) X.xe s
def PT (X:Cx) (e:Expr) (t:TT):Prop:=
 ∀(pins:List (Addr×Obj)) (s:Shared) (σ:St) (H:Hp) (Q:Bool->Hp->Prop),Inv X pins σ H s->t σ H Q->wpAny (model X.prog X.w) X.A (isTrue e X.env (eval e X.env)) (TP X pins σ Q) X.xe s
def PW (X:Cx) (e:Expr) (t:TT):Prop:=
 ∀(whole:Sem Value) (pins:List (Addr×Obj)) (s:Shared) (σ:St) (H:Hp) (Q:Bool->Hp->Prop),Inv X pins σ H s->t σ H Q->wpAny (model X.prog X.w) X.A (isTrue e X.env whole) (TP X pins σ Q) X.xe s
theorem PW.pt (h:PW X e t):PT X e t:=h _
def PA (X:Cx) (es:List Expr) (t:TA):Prop:=
 ∀(pos:Pos) (pins:List (Addr×Obj)) (s:Shared) (σ:St) (H:Hp) (Q:List V->Hp->Prop),Inv X pins σ H s->t σ H Q->wpAny (model X.prog X.w) X.A (spliced (backTo pos (starEach es X.env))) (AP X pins σ Q) X.xe s
def PS (X:Cx) (st:Stmt) (t:TS):Prop:=
 ∀(pins:List (Addr×Obj)) (s:Shared) (σ:St) (H:Hp) (D:v_),Inv X pins σ H s->t D σ H->wpAny (model X.prog X.w) X.A (exec st X.env) (SP X pins D) X.xe s
def gB (X:Cx) (st:List Stmt) (t:TS):Prop:=
 ∀(pins:List (Addr×Obj)) (s:Shared) (σ:St) (H:Hp) (D:v_),Inv X pins σ H s->t D σ H->wpAny (model X.prog X.w) X.A (execs st X.env) (SP X pins D) X.xe s
theorem ax (h:wpAny M A t Q E s) (hQ:∀a s,Q a s->Q' a s):wpAny M A t Q' E s:=wpAny_mono h hQ fun _ _ x=>x
section
variable {X:Cx}
def vB (i:Nat):TE:=fun σ H Q=>∃v,σ[i]?=some (some v)/\Q v H
def tC (v:V):TE:=fun _ H Q=>Q v H
theorem JD (hN:X.N[i]?=some x) (hv:xf X.env.scope x) (hd:(x==("__debug__":Str))=false:=by decide) (jD:(x==("__classdict__":Str))=false:=by decide):PE X (.Name x pos) (vB i):=by
 intro pins s σ H Q I h;obtain ⟨v,e,h⟩:=h;obtain ⟨m,hn,hl⟩:=I.loc;obtain ⟨u,r,l⟩:=hl i x v hN e hv;have fin:EP X pins σ Q u s:=⟨v,H,I,r,h⟩;rcases l with ⟨hk,hm⟩ | ⟨hk,c,hc,j6⟩
 ·exact wpAny_Name (wpAny_loadName_local I.ok.kind hk hn hm fin) hd
 ·rcases hk with hk | hk
  ·exact wpAny_Name (wpAny_loadName_cell I.ok.kind hk hc j6 fin) hd
  ·exact wpAny_Name (wpAny_loadName_free I.ok.kind hk hc j6 fin jD) hd
theorem aG {i j pos}:PE X (.Constant (.int i) j pos) (tC (.int i)):=fun _ _ _ H _ I h=>wpAny_Constant_int ⟨.int i,H,I.tok _,⟨_,rfl⟩,h⟩
theorem zR {b j pos}:PE X (.Constant (.bool b) j pos) (tC (.bl b)):=fun _ _ _ H _ I h=>Constant_bool ⟨.bl b,H,I,rfl,h⟩
theorem og {j pos}:PE X (.Constant .none j pos) (tC .aR):=fun _ _ _ H _ I h=>Constant_none ⟨.aR,H,I,rfl,h⟩
theorem ft {x j pos}:PE X (.Constant (.str x) j pos) (tC (.str x)):=fun _ _ _ H _ I h=>Calls.Constant_str ⟨.str x,H,I.tok _,⟨_,rfl⟩,h⟩
def Gl (X:Cx) (x:Str):Prop:=X.env.kindOf x=some .globalImplicit
theorem xG (I:Inv X pins σ H s) (hg:Gl X x) (hm:X.mg x=some u) (h:Q u s)
 (hd:(x==("__debug__":Str))=false:=by decide):wpAny (model X.prog X.w) X.A (eval (.Name x pos) X.env) Q E s:=
 Calls.Name_function_global I.ok.kind hg (Calls.loadGlobal_global (by rw [I.ok.glob];exact I.mod.glob.keeps I.bk) hm h) hd
theorem xu (I:Inv X pins σ H s) (hg:Gl X x) (hm:X.mg x=none) (hv:bootBuiltins x=some u) (h:Q u s)
 (hn:x≠"__name__":=by decide) (hd:(x==("__debug__":Str))=false:=by decide):wpAny (model X.prog X.w) X.A (eval (.Name x pos) X.env) Q E s:=by
 obtain ⟨mb,h1,h2⟩:=I.mod.blt;exact Calls.Name_function_global I.ok.kind hg (Calls.loadGlobal_builtin (by rw [I.ok.glob];exact I.mod.glob.keeps I.bk) hm (by rw [I.ok.blt];exact h1.keeps I.bk) ((h2 x hn).trans hv) h) hd
theorem Ad (hg:Gl X x) (hm:X.mg x=some u) (r:bU v u) (hd:(x==("__debug__":Str))=false:=by decide):PE X (.Name x pos) (tC v):=
 fun _ _ _ H _ I h=>xG I hg hm ⟨v,H,I,r,h⟩ hd
variable {a b:Expr} {ta tb:TE} {pos:Pos}
def PC (X:Cx) (op:CmpOp) (a b:Expr) (t:TE):Prop:=
 ∀(pins:List (Addr×Obj)) (s:Shared) (σ:St) (H:Hp) (Q:VK),Inv X pins σ H s->t σ H Q->
  wpAny (model X.prog X.w) X.A (eval a X.env) (fun v ar=>wpAny (model X.prog X.w) X.A (eval b X.env) (fun u g7=>wpAny (model X.prog X.w) X.A (compareOp op v u) (EP X pins σ Q) X.xe g7) X.xe ar) X.xe s
def tB (t:TE):TT:=fun σ H Q=>t σ H fun x H1=>∃c,x=.bl c/\Q c H1
theorem xA (h:PC X op a b t) (h1:behindInMarks op b=false:=by first | exact Cv _ (by decide) (by decide) | rfl):PT X (.Compare a [op] [b] pos) (tB t):=by intro pins s σ H Q I hw;refine wpAny_isTrue_Compare1 (ax (h pins s σ H _ I hw) fun v s1 h1=>ax h1 fun u s2 h2=>ax h2 fun c s3 zz=>?_) h1;obtain ⟨x,H1,I1,r1,q1⟩:=zz;obtain ⟨d,rfl,q⟩:=q1;cases r1;exact wpAny_truthy_bool ⟨H1,I1,q⟩
theorem xw (h:PE X e t) (he:∀whole,isTrue e X.env whole=(do let v <-whole;standAt e.pos;holding [v] (truthy v)):=by intro _;rfl):PT X e (tB t):=by intro pins s σ H Q I hw;refine isTrue_plain (ax (h pins s σ H _ I hw) fun v s1 zz=>?_) (he _);obtain ⟨x,H1,I1,r1,q1⟩:=zz;obtain ⟨d,rfl,q⟩:=q1;cases r1;exact wpAny_truthy_bool ⟨H1,I1,q⟩
variable {tA HM:TT} {rest:List Expr}
def zG3 (t u:TT):TT:=fun σ H Q=>t σ H fun c H1=>if c=true then u σ H1 Q else Q false H1
def tOr (t u:TT):TT:=fun σ H Q=>t σ H fun c H1=>if c=true then Q true H1 else u σ H1 Q
def zGx (t:TT):TT:=fun σ H Q=>t σ H fun c H1=>Q (!c) H1
theorem xI (ha:PT X a tA):PW X (.BoolOp .And [a] pos) tA:=by
 intro wh pins s σ H Q I h;refine isTrue_and (ax (ha pins s σ H Q I h) fun c s1 e=>?_)
 cases c with
 | true=>exact isTrue_and_nil e
 | false=>exact e
theorem Aa (ha:PT X a tA):PW X (.BoolOp .Or [a] pos) tA:=by
 intro wh pins s σ H Q I h;refine isTrue_or (ax (ha pins s σ H Q I h) fun c s1 e=>?_)
 cases c with
 | false=>exact isTrue_or_nil e
 | true=>exact e
theorem xy (ha:PT X a tA) (hb:PW X (.BoolOp .And (b::rest) pos) HM):PW X (.BoolOp .And (a::b::rest) pos) (zG3 tA HM):=by
 intro wh pins s σ H Q I h;refine isTrue_and (ax (ha pins s σ H _ I h) fun c s1 zz=>?_);obtain ⟨H1,I1,q1⟩:=zz
 cases c with
 | true=>exact hb wh pins s1 σ H1 Q I1 q1
 | false=>exact ⟨H1,I1,q1⟩
theorem vI (ha:PT X a tA) (hb:PW X (.BoolOp .Or (b::rest) pos) HM):PW X (.BoolOp .Or (a::b::rest) pos) (tOr tA HM):=by
 intro wh pins s σ H Q I h;refine isTrue_or (ax (ha pins s σ H _ I h) fun c s1 zz=>?_);obtain ⟨H1,I1,q1⟩:=zz
 cases c with
 | true=>exact ⟨H1,I1,q1⟩
 | false=>exact hb wh pins s1 σ H1 Q I1 q1
theorem xB (ha:PT X a tA):PT X (.UnaryOp .Not a pos) (zGx tA):=by intro pins s σ H Q I h;exact isTrue_not (ha pins s σ H (fun c H1=>Q (!c) H1) I h)
def zE1 (ta tb:TE):TE:=fun σ H Q=>ta σ H fun x H1=>∃c,x=.bl c/\if c=true then tb σ H1 Q else Q (.bl false) H1
def zGw (ta tb:TE):TE:=fun σ H Q=>ta σ H fun x H1=>∃c,x=.bl c/\if c=true then Q (.bl true) H1 else tb σ H1 Q
def zEt (ta:TE):TE:=fun σ H Q=>ta σ H fun x H1=>∃c,x=.bl c/\Q (.bl (!c)) H1
theorem JC {op} (h:PE X a t):PE X (.BoolOp op [a] pos) t:=fun pins s σ H Q I hw=>BoolOp_one (h pins s σ H Q I hw)
theorem Fc (ha:PE X a ta) (hb:PE X (.BoolOp .And (b::rest) pos) tb):PE X (.BoolOp .And (a::b::rest) pos) (zE1 ta tb):=by
 intro pins s σ H Q I h;refine BoolOp_and (ax (ha pins s σ H _ I h) fun v s1 zz=>?_);obtain ⟨x,H1,I1,r1,q1⟩:=zz;obtain ⟨c,rfl,q1⟩:=q1;cases r1;refine wpAny_truthy_bool ?_
 cases c with
 | true=>exact hb pins s1 σ H1 Q I1 q1
 | false=>exact ⟨.bl false,H1,I1,rfl,q1⟩
theorem zFg (ha:PE X a ta) (hb:PE X (.BoolOp .Or (b::rest) pos) tb):PE X (.BoolOp .Or (a::b::rest) pos) (zGw ta tb):=by
 intro pins s σ H Q I h;refine BoolOp_or (ax (ha pins s σ H _ I h) fun v s1 zz=>?_);obtain ⟨x,H1,I1,r1,q1⟩:=zz;obtain ⟨c,rfl,q1⟩:=q1;cases r1;refine wpAny_truthy_bool ?_
 cases c with
 | false=>exact hb pins s1 σ H1 Q I1 q1
 | true=>exact ⟨.bl true,H1,I1,rfl,q1⟩
theorem zDp (ha:PE X a ta):PE X (.UnaryOp .Not a pos) (zEt ta):=by intro pins s σ H Q I h;refine UnaryOp_ (ax (ha pins s σ H _ I h) fun v s1 zz=>?_);obtain ⟨x,H1,I1,r1,q1⟩:=zz;obtain ⟨c,rfl,q1⟩:=q1;cases r1;exact not_of (wpAny_truthy_bool ⟨.bl (!c),H1,I1,rfl,q1⟩)
def tIf (t:TT) (ta tb:TE):TE:=fun σ H Q=>t σ H fun c H1=>if c=true then ta σ H1 Q else tb σ H1 Q
theorem QA (hc:PT X c tA) (ha:PE X a ta) (hb:PE X b tb):PE X (.IfExp c a b pos) (tIf tA ta tb):=by
 intro pins s σ H Q I h;refine wpAny_IfExp (ax (hc pins s σ H _ I h) fun d s1 zz=>?_);obtain ⟨H1,I1,q1⟩:=zz
 cases d with
 | true=>exact ha pins s1 σ H1 Q I1 q1
 | false=>exact hb pins s1 σ H1 Q I1 q1
end
def a9 (K:bE) (H:Hp) (a:Addr) (xs:List V):Prop:=
 Rd H a (.lst xs)\/
  ∃(o:Obj) (its:Array Value) (n:Nat),K.lookup a=some o/\o.cls=.type "list"/\o.dict=none/\o.data=.seq its n/\its.size<=sizeLine/\bq xs its.toList
def dm (K:bE) (H:Hp) (a:Addr) (xs:List V):Prop:=
 Rd H a (.tup xs)\/
  ∃(o:Obj) (its:Array Value) (n:Nat),K.lookup a=some o/\o.cls=.type "tuple"/\o.data=.seq its n/\its.size<=sizeLine/\bq xs its.toList
def zIm:Value->Option V
 | .none=>some .aR
 | .bool b=>some (.bl b)
 | .int i _=>some (.int i)
 | .str x _=>some (.str x)
 | .bytes b _=>some (.pQ b)
 | .float b _=>some (.zA b)
 | .ref a=>some (.ref a)
 | .type n=>some (.ty n)
 | _=>none
theorem bU.abs (r:bU x u):zIm u=some x:=by
 cases x with
 | aR=>cases r;rfl
 | bl _=>cases r;rfl
 | int _=>obtain ⟨t,rfl⟩:=r;rfl
 | str _=>obtain ⟨t,rfl⟩:=r;rfl
 | pQ _=>obtain ⟨t,rfl⟩:=r;rfl
 | zA _=>obtain ⟨t,rfl⟩:=r;rfl
 | ref _=>cases r;rfl
 | ty _=>cases r;rfl
theorem bU.inj (r:bU x u) (q:bU y u):x=y:=dM (r.abs.symm.trans q.abs)
theorem bq.inj {xs ys:List V} {us:List Value} (h:bq xs us) (h':bq ys us):xs=ys:=by
 induction h generalizing ys with
 | nil=>cases h';rfl
 | cons r t ih=>
  cases h' with
  | cons r' t'=>rw [r.inj r',ih t']
section
variable {X:Cx} {pins:List (Addr×Obj)} {σ:St} {H:Hp} {s:Shared} {a:Addr} {xs ys:List V}
theorem a9.of (h:H a=some (.lst xs)):a9 K H a xs:=.inl (.inl h)
theorem dm.of (h:H a=some (.tup xs)):dm K H a xs:=.inl (.inl h)
theorem Inv.list (I:Inv X pins σ H s) (h:a9 X.K H a xs):∃its:List Value,bq xs its/\PlainL s.heap a its.toArray/\xs.length<=sizeLine:=by
 rcases h with h | ⟨o,its,n,hk,hc,hd,hs,hz,r⟩
 ·obtain ⟨z,its,n,r,e⟩:=h.ok I.af;exact ⟨its,r,⟨_,n,e,rfl,rfl,rfl⟩,z⟩
 ·refine ⟨its.toList,r,⟨o,n,I.gG a o hk,hc,hd,by simpa using hs⟩,?_⟩;have e:=r.length;simp only [sr] at e;exact An e hz
theorem Inv.tuple (I:Inv X pins σ H s) (h:dm X.K H a xs):∃its:List Value,bq xs its/\IsTup s.heap a its.toArray/\xs.length<=sizeLine:=by
 rcases h with h | ⟨o,its,n,hk,hc,hs,hz,r⟩
 ·obtain ⟨z,its,r,p⟩:=h.ok I.af;exact ⟨its,r,p,z⟩
 ·refine ⟨its.toList,r,⟨o,I.gG a o hk,hc,n,by simpa using hs⟩,?_⟩;have e:=r.length;simp only [sr] at e;exact An e hz
theorem Inv.rq (I:Inv X pins σ H s) (h:a9 X.K H a xs) (h':a9 X.K H a ys):xs=ys:=by
 obtain ⟨its,r,⟨o,n,e,_,_,d⟩,_⟩:=I.list h;obtain ⟨its',r',⟨o',n',e',_,_,d'⟩,_⟩:=I.list h';rw [e] at e';cases e';rw [d] at d'
 injection d' with d1 _
 have:its=its':=by simpa using congrArg Array.toList d1
 subst this;exact r.inj r'
theorem Inv.pe (I:Inv X pins σ H s) (h:dm X.K H a xs) (h':dm X.K H a ys):xs=ys:=by
 obtain ⟨its,r,⟨o,e,_,n,d⟩,_⟩:=I.tuple h;obtain ⟨its',r',⟨o',e',_,n',d'⟩,_⟩:=I.tuple h';rw [e] at e';cases e';rw [d] at d'
 injection d' with d1 _
 have:its=its':=by simpa using congrArg Array.toList d1
 subst this;exact r.inj r'
end
abbrev Cx.jt (X:Cx) (E:Value->Shared->Prop):Cx:={ X with xe:=E }
abbrev Cx.wC (X:Cx):Cx:=X.jt fun _ _=>False
theorem Cx.Ok.jt {X:Cx} (ok:X.Ok) (E:Value->Shared->Prop):(X.jt E).Ok:=
 ⟨ok.mod,ok.kind,ok.glob,ok.blt,ok.above,ok.inj,ok.has,ok.vz,ok.hd,ok.frames,ok.wq,ok.AU,ok.bs,ok.oQ,ok.kF,ok.kT,ok.eG,ok.pM⟩
theorem Cx.Ok.dS {X:Cx} {E:Value->Shared->Prop} (ok:(X.jt E).Ok):X.Ok:=
 ⟨ok.mod,ok.kind,ok.glob,ok.blt,ok.above,ok.inj,ok.has,ok.vz,ok.hd,ok.frames,ok.wq,ok.AU,ok.bs,ok.oQ,ok.kF,ok.kT,ok.eG,ok.pM⟩
section
variable {X:Cx} {pins:List (Addr×Obj)} {σ:St} {H:Hp} {s:Shared} {E:Value->Shared->Prop}
theorem Inv.jt (I:Inv X pins σ H s) (E:Value->Shared->Prop):Inv (X.jt E) pins σ H s:=⟨I.ok.jt E,I.os,I.bare,I.base,I.loc,I.cell,I.free,I.cI,I.pin,I.af,I.len⟩
theorem Inv.dS (I:Inv (X.jt E) pins σ H s):Inv X pins σ H s:=⟨I.ok.dS,I.os,I.bare,I.base,I.loc,I.cell,I.free,I.cI,I.pin,I.af,I.len⟩
theorem SP.dS (h:SP (X.jt E) pins D f s'):SP X pins D f s':=by
 cases f with
 | next=>obtain ⟨ae,H',I,q⟩:=h;exact ⟨ae,H',I.dS,q⟩
 | brk=>obtain ⟨ae,H',I,q⟩:=h;exact ⟨ae,H',I.dS,q⟩
 | cont=>obtain ⟨ae,H',I,q⟩:=h;exact ⟨ae,H',I.dS,q⟩
 | ret u=>obtain ⟨v,ae,H',I,r,q⟩:=h;exact ⟨v,ae,H',I.dS,r,q⟩
theorem gB.wC {st:List Stmt} {t:TS} (h:gB X.wC st t):gB X st t:=fun pins s σ H D I hw=>
 wpAny_mono (h pins s σ H D (I.jt _) hw) (fun _ _ q=>q.dS) fun _ _ z=>hV z
end
section
variable {X:Cx} {st:Stmt} {rest:List Stmt} {t u:TS} {e:Expr} {te:TE} {pos:Pos}
def zEu:TS:=fun D σ H=>D.nx σ H
def zGu (t u:TS):TS:=fun D σ H=>t { D with nx:=u D } σ H
theorem eV:gB X [] zEu:=fun _ _ σ H _ I h=>wpAny_execs_nil ⟨σ,H,I,h⟩
theorem bo (h1:PS X st t) (h2:gB X rest u):gB X (st::rest) (zGu t u):=by
 intro pins s σ H D I h;refine wpAny_execs_cons (ax (h1 pins s σ H { D with nx:=u D } I h) fun f s1 q=>?_)
 cases f with
 | next=>
  obtain ⟨ae,H',I',q⟩:=q;exact h2 pins s1 ae H' D I' q
 | ret v=>exact q
 | brk=>exact q
 | cont=>exact q
theorem aA (h1:PS X st t):gB X [st] t:=by
 intro pins s σ H D I h;refine wpAny_execs_cons (ax (h1 pins s σ H D I h) fun f s1 q=>?_)
 cases f with
 | next=>exact wpAny_execs_nil q
 | ret v=>exact q
 | brk=>exact q
 | cont=>exact q
theorem Inv.quiet (I:Inv X pins σ H s):interactive X.env=false:=by simp [interactive,I.ok.kind]
def zEx (te:TE):TS:=fun D σ H=>te σ H fun _ H1=>D.nx σ H1
theorem gE (he:PE X e te) (hs:swapsWith e none pos.line X.env=pure false:=by rfl):PS X (.Expr e pos) (zEx te):=by intro pins s σ H D I h;exact wpAny_Expr_any (ax (he pins s σ H _ I h) fun v s1 zz=>L2.fi zz fun x H1 I1 r1 q1=>⟨σ,H1,I1,q1⟩) I.quiet hs
def zGv (te:TE):TS:=fun D σ H=>te σ H D.rt
theorem cG (he:PE X e te):PS X (.Return (some e) pos) (zGv te):=by intro pins s σ H D I h;exact wpAny_Return_some (ax (he pins s σ H _ I h) fun v s1 zz=>L2.fi zz fun x H1 I1 r1 q1=>⟨x,σ,H1,I1,r1,q1⟩)
def zGz (c:TT) (t u:TS):TS:=fun D σ H=>c σ H fun b H1=>if b=true then t D σ H1 else u D σ H1
theorem eM (hc:PT X c tc) (ha:gB X a t) (hb:gB X b u):PS X (.If c a b pos) (zGz tc t u):=by
 intro pins s σ H D I h;refine wpAny_If (ax (hc pins s σ H _ I h) fun d s1 zz=>?_);obtain ⟨H1,I1,q1⟩:=zz
 cases d with
 | true=>exact ha pins s1 σ H1 D I1 q1
 | false=>exact hb pins s1 σ H1 D I1 q1
def zC3:TS:=fun _ _ _=>False
theorem xX:gB X sts zC3:=fun _ _ _ _ _ _ h=>h.elim
end
abbrev TG:=V->St->Hp->(St->Hp->Prop)->Prop
abbrev D_:=List V->St->Hp->(St->Hp->Prop)->Prop
def PG (X:Cx) (target:Expr) (t:TG):Prop:=
 ∀(pins:List (Addr×Obj)) (s:Shared) (σ:St) (H:Hp) (v:V) (u:Value) (Q:St->Hp->Prop),Inv X pins σ H s->bU v u->t v σ H Q->
  wpAny (model X.prog X.w) X.A (assign target X.env u) (fun _ s'=>∃ae H',Inv X pins ae H' s'/\Q ae H') X.xe s
def pW (X:Cx) (ts:List Expr) (t:D_):Prop:=
 ∀(pins:List (Addr×Obj)) (s:Shared) (σ:St) (H:Hp) (vs:List V) (us:List Value) (Q:St->Hp->Prop),Inv X pins σ H s->bq vs us->t vs σ H Q->
  wpAny (model X.prog X.w) X.A (assignInOrder ((assignEach ts X.env).map (·.2)) us) (fun _ s'=>∃ae H',Inv X pins ae H' s'/\Q ae H') X.xe s
abbrev Tt:=V->V->V->Hp->(Hp->Prop)->Prop
def Ts (X:Cx) (t:Tt):Prop:=
 ∀(pins:List (Addr×Obj)) (s:Shared) (σ:St) (H:Hp) (o i v:V) (ov iv u:Value) (Q:Hp->Prop),Inv X pins σ H s->bU o ov->bU i iv->bU v u->t o i v H Q->
  wpAny (model X.prog X.w) X.A (setItem ov iv u) (fun _ s'=>∃H',Inv X pins σ H' s'/\Q H') X.xe s
abbrev OQ:=V->V->Hp->VK->Prop
def WT (X:Cx) (op:Operator) (t:OQ):Prop:=
 ∀(pins:List (Addr×Obj)) (s:Shared) (σ:St) (H:Hp) (x y:V) (v u:Value) (Q:VK),Inv X pins σ H s->bU x v->bU y u->t x y H Q->
  wpAny (model X.prog X.w) X.A (inplaceOp op v u) (EP X pins σ Q) X.xe s
section
variable {X:Cx} {pos:Pos}
def xq (i:Nat):TG:=fun v σ H Q=>Q (σ.set i (some v)) H
theorem zBi (hN:X.N.Nodup) (hi:X.N[i]?=some x) (hx:Loc X.env.scope x) (hf:X.fn x=true\/X.env.scope.names.lookup x=some .local:=by first | exact .inl rfl | exact .inr rfl | assumption):PG X (.Name x pos) (xq i):=by intro pins s σ H v u Q I r h;exact wpAny_assign_Name (Kp I hN hi hx r (fun s' I'=>⟨_,H,I',h⟩) hf)
def zH5:D_:=fun vs σ H Q=>vs=[]/\Q σ H
def zFr (t:TG) (u:D_):D_:=fun vs σ H Q=>∃v r,vs=v::r/\t v σ H fun ae H'=>u r ae H' Q
theorem sU:pW X [] zH5:=by intro pins s σ H vs us Q I r h;obtain ⟨e,h⟩:=h;subst e;cases r;exact assignInOrder_nil ⟨σ,H,I,h⟩
theorem eN (h1:PG X e t) (h2:pW X es u)
 (hs:(assignEach (e::es) X.env).map (·.2)=assign e X.env::(assignEach es X.env).map (·.2):=by rfl):pW X (e::es) (zFr t u):=by
 intro pins s σ H vs us Q I r h;obtain ⟨v,vr,e1,h⟩:=h;subst e1
 cases r with
 | cons r rr=>
  rw [hs];refine assignInOrder_cons (ax (h1 pins s σ H _ _ _ I r h) fun _ s1 zz=>?_);obtain ⟨tZ,H1,I1,q1⟩:=zz;exact h2 pins s1 tZ H1 _ _ Q I1 rr q1
def Tu (K:bE) (n:Nat) (t:D_):TG:=fun v σ H Q=>∃a xs,v=.ref a/\dm K H a xs/\xs.length=n/\t xs σ H Q
theorem uk (hc:X.calm=true) (h:pW X es t)
 (hn:(assignEach es X.env).length=n:=by rfl) (rK:(assignEach es X.env).findIdx? (·.1)=none:=by rfl):PG X (.Tuple es k pos) (Tu X.K n t):=by
 intro pins s σ H v u Q I r hw;obtain ⟨a,xs,e1,hq,hl,hw⟩:=hw;subst e1;cases r;obtain ⟨its,rv,ht,hz⟩:=I.tuple hq;refine assign_Tuple_tuple (I.ok.hd hc) ht (by simp [hn,<-hl,rv.length]) rK fun h' hx=>?_;have I1:Inv X pins σ H { s with heap:=h' }:=I.kept (t':=s.toks) fun b o e=>hx b o (h_ (dr e)) e;exact h pins _ σ H xs _ Q I1 (by simpa using rv) hw
def zH4 (to ti:TE) (t:Tt):TG:=fun v σ H Q=>to σ H fun o H1=>ti σ H1 fun i H2=>t o i v H2 fun H3=>Q σ H3
theorem uj (ho:PE X o to) (hi:PE X i ti) (hs:Ts X t)
 (ha:∀v,assign (.Subscript o i pos) X.env v=(do
  let ov <-holding [v] (eval o X.env)
  let iv <-holding [v,ov] (eval i X.env)
  standAt pos
  holding [v,ov,iv] (setItem ov iv v)
  release [v,ov,iv] []):=by intro _;rfl):PG X (.Subscript o i pos) (zH4 to ti t):=by
 intro pins s σ H v u Q I r h;rw [ha];refine ah (wpAny_holding (ax (ho pins s σ H _ I h) fun ov s1 zz=>?_));obtain ⟨x,H1,I1,r1,q1⟩:=zz;refine ah (wpAny_holding (ax (hi pins s1 σ H1 _ I1 q1) fun iv s2 zz=>?_));obtain ⟨y,H2,I2,r2,q2⟩:=zz;refine ah (wpAny_standAt (ah (wpAny_holding (ax (hs pins s2 σ H2 x y v ov iv u _ I2 r1 r2 r q2) fun _ s3 zz=>?_))));obtain ⟨H3,I3,q3⟩:=zz;exact wpAny_release ⟨σ,H3,I3,q3⟩
def Cb (te:TE) (g:TG):TS:=fun D σ H=>te σ H fun x H1=>g x σ H1 D.nx
theorem um (he:PE X e te) (hg:PG X tg g) (hs:swapsWithSole [tg] e pos.line X.env=pure false:=by rfl) (hw:swappedStores [tg] e X.env=pure none:=by rfl)
 (h1:(assignEach [tg] X.env).map (·.2)=[assign tg X.env]:=by rfl):PS X (.Assign [tg] e pos) (Cb te g):=by
 intro pins s σ H D I h;refine wpAny_Assign_stores (ax (he pins s σ H _ I h) fun v s1 zz=>?_) hs hw;obtain ⟨x,H1,I1,r1,q1⟩:=zz;rw [h1];exact ax (hg pins s1 σ H1 x v _ I1 r1 q1) fun _ s2 q=>q
theorem qH (hN:X.N.Nodup) (hi:X.N[i]?=some x) (hx:Loc X.env.scope x) (he:PE X e te) (hs:swapsWith e (some (.Name x pos')) pos.line X.env=pure false:=by rfl) (hf:X.fn x=true\/X.env.scope.names.lookup x=some .local:=by first | exact .inl rfl | exact .inr rfl | assumption):
 PS X (.Assign [.Name x pos'] e pos) (Cb te (xq i)):=by
 intro pins s σ H D I h;refine wpAny_Assign_Name (ax (he pins s σ H _ I h) fun v s1 zz=>?_) hs;obtain ⟨y,H1,I1,r1,q1⟩:=zz;exact Kp I1 hN hi hx r1 (fun s2 I2=>⟨_,H1,I2,q1⟩) hf
def zG2 (i:Nat) (te:TE) (ti:OQ):TS:=fun D σ H=>∃x,σ[i]?=some (some x)/\te σ H fun y H1=>ti x y H1 fun z H2=>D.nx (σ.set i (some z)) H2
theorem JF (hN:X.N.Nodup) (hi:X.N[i]?=some x) (hx:Loc X.env.scope x) (he:PE X e te) (ho:WT X op ti) (hf:X.fn x=true\/X.env.scope.names.lookup x=some .local:=by first | exact .inl rfl | exact .inr rfl | assumption):
 PS X (.AugAssign (.Name x pos') op e pos) (zG2 i te ti):=by
 intro pins s σ H D I h;obtain ⟨v,e1,h⟩:=h;obtain ⟨m,hn,hl⟩:=I.loc;have vis:xf X.env.scope x:=by rcases hx with k | k;exact .inl k;exact .inr (.inl k)
 obtain ⟨u,r,l⟩:=hl i x v hi e1 vis;refine wpAny_AugAssign_Name ?_;have go:wpAny (model X.prog X.w) X.A (eval e X.env) (fun w g7=>wpAny (model X.prog X.w) X.A (inplaceOp op u w) (fun r jL=>wpAny (model X.prog X.w) X.A (storeName X.env x r) (fun _=>SP X pins D .next) X.xe jL) X.xe g7) X.xe s:=by refine ax (he pins s σ H _ I h) fun w s1 zz=>?_;obtain ⟨y,H1,I1,r1,q1⟩:=zz;refine ax (ho pins s1 σ H1 v y u w _ I1 r r1 q1) fun z s2 zz=>?_;obtain ⟨zv,H2,I2,r2,q2⟩:=zz;exact Kp I2 hN hi hx r2 (fun s3 I3=>⟨_,H2,I3,q2⟩) hf
 rcases l with ⟨hk,hm⟩ | ⟨hk,c,hc,j6⟩
 ·exact wpAny_loadName_local I.ok.kind hk hn hm go
 ·rcases hk with hk | hk
  ·exact wpAny_loadName_cell I.ok.kind hk hc j6 go
  ·rcases hx with k | k
   ·have:X.env.scope.names.lookup x=some .free:=hk;rw [k] at this;cases this
   ·have:X.env.scope.names.lookup x=some .free:=hk;rw [k] at this;cases this
def ipI (f:Int->Int->Int):OQ:=fun x y H Q=>∃i j,x=.int i/\y=.int j/\Q (.int (f i j)) H
theorem IZ:WT X .Add (ipI fun i j=>i+j):=by intro pins s σ H x y v u Q I r1 r2 h;obtain ⟨i,j,e1,e2,q⟩:=h;subst e1;subst e2;obtain ⟨t,rfl⟩:=r1;obtain ⟨t',rfl⟩:=r2;exact iadd_int ⟨.int _,H,I.tok _,⟨_,rfl⟩,q⟩
end
section
variable {X:Cx} {pos:Pos}
def zC1 (c:TT) (tb:TS):TS:=fun D σ H=>∃W:Nat->St->Hp->Prop,(∃m,W m σ H)/\∀m σ H,W m σ H->
 c σ H fun b H1=>if b=true then ∃N:St->Hp->Prop,(∀ae H',N ae H'->∃m',m'<m/\W m' ae H')/\tb { D with nx:=N,ct:=N,bk:=D.nx } σ H1 else D.nx σ H1
theorem QC (hp:PassesOwn (model X.prog X.w) X.A X.env X.xe) (hc:PT X c tc) (hb:gB X body tb):PS X (.While c body [] pos) (zC1 tc tb):=by
 intro pins s σ H D I h;obtain ⟨W,⟨m0,w0⟩,turn⟩:=h;refine wpAny_While (codeAny_whileLoop (fun n s'=>∃ae H',Inv X pins ae H' s'/\W n ae H') ?_ m0 ⟨σ,H,I,w0⟩);rintro n s1 ⟨tZ,H1,I1,w1⟩;refine wpAny_passesOwn hp (ax (hc pins s1 tZ H1 _ I1 (turn n tZ H1 w1)) fun b s2 zz=>?_);obtain ⟨H2,I2,q2⟩:=zz
 cases b with
 | true=>
  obtain ⟨N,hN,q2⟩:=q2;rw [if_pos rfl];refine wpAny_passesOwn hp (ax (hb pins s2 tZ H2 _ I2 q2) fun f s3 q3=>?_)
  cases f with
  | next=>
   obtain ⟨eJ,H3,I3,n3⟩:=q3;obtain ⟨m',hm,w3⟩:=hN eJ H3 n3;exact ⟨m',hm,eJ,H3,I3,w3⟩
  | cont=>
   obtain ⟨eJ,H3,I3,n3⟩:=q3;obtain ⟨m',hm,w3⟩:=hN eJ H3 n3;exact ⟨m',hm,eJ,H3,I3,w3⟩
  | brk=>exact q3
  | ret v=>exact q3
 | false=>
  rw [if_neg fC];exact wpAny_execs_nil ⟨tZ,H2,I2,q2⟩
end
structure It where
 go:Nat->Hp->Prop
 yl:Nat->Hp->V->Hp->Prop
 stop:Nat->Hp->Prop
def sE (X:Cx) (pins:List (Addr×Obj)) (H:Hp) (b:Addr):Prop:=
 H b=none/\b≠X.env.locals/\b∉X.fs/\(b∈X.ex\/X.bX.heap.objs.size<=b)/\(∀x c,X.env.cells.lookup x=some c->c≠b)/\∀p∈X.pn++pins,p.1≠b
theorem Inv.rZ (I:Inv X pins σ H s) (hb:s.heap.objs.size<=b) (hn:H' b=none):sE X pins H' b:=by
 refine ⟨hn,Nat.ne_of_gt (iC I.lt hb),I.LP hb,.inr (dq I.sz hb),fun x c e z=>?_,fun p hp z=>?_⟩
 ·obtain ⟨v,q⟩:=I.cell x c e;exact absurd (iC q.lt (by rw [z];exact hb)) (j8 _)
 ·exact absurd (iC (dr (I.pin p hp).1) (by rw [z];exact hb)) (j8 _)
def zF6 (X:Cx):Prop:=X.A.handled=none\/∃(a C:Addr) (dx:Option Addr) (t tb:Value) (u:HO),X.A.handled=some (.ref a)/\X.gb a=some (.gY (gk C dx t tb) u)
def nZ (X:Cx):Prop:=X.calm=true\/zF6 X
theorem Bk (q:nZ X) (I:Inv X pins σ H s):Hd X.A s.heap:=by
 rcases q with q | q | ⟨a,C,dx,t,tb,u,q,e⟩
 ·exact .inl (I.ok.hd q)
 ·exact .inl q
 ·exact .inr ⟨a,C,dx,t,tb,q,(I.af a _ (I.base.g9 a _ _ e)).1⟩
theorem nZ.in_ (q:nZ X) (I:Inv X pins σ H s) (h1:Y.calm=X.calm) (h2:Y.A.handled=X.A.handled) (h3:∀a o u,H a=some (.gY o u)->Y.gb a=some (.gY o u)):nZ Y:=by
 rcases q with q | q | ⟨a,C,dx,t,tb,u,q,e⟩
 ·exact .inl (h1.trans q)
 ·exact .inr (.inl (h2.trans q))
 ·exact .inr (.inr ⟨a,C,dx,t,tb,u,h2.trans q,h3 _ _ _ (I.base.g9 a _ _ e)⟩)
structure yh (P:Program) (w:World) (K:bE) (tg:Expr) (J:It) (fp:List Addr) (it:Addr) (tn:Nat->Heap->Prop):Prop where
 mem:it∈fp
 obj:∀i h,tn i h->∀b∈fp,∃o,h.get? b=some o/\∀v,o.data≠.cell v
 keep:∀i h h',tn i h->(∀b∈fp,∀o,h.get? b=some o->h'.get? b=some o)->tn i h'
 item:∀(X:Cx),X.prog=P->X.w=w->X.K=K->nZ X->∀(i:Nat) (pins:List (Addr×Obj)) (s:Shared) (σ:St) (H:Hp) (E:Value->Shared->Prop),Inv X pins σ H s->(∀b∈fp,sE X pins H b)->tn i s.heap->J.go i H->
  wpAny (model P w) X.A (pyNext (.ref it)) (fun r s1=>∃u,r=some u/\
   wpAny (model P w) X.A (letOwnedTupleGo tg (.ref it) u) (fun _ s2=>∃x H',Inv X pins σ H' s2/\bU x u/\J.yl i H x H'/\tn (i+1) s2.heap/\∀b∈fp,H' b=none) E s1) E s
 done:∀(X:Cx),X.prog=P->X.w=w->X.K=K->nZ X->∀(i:Nat) (pins:List (Addr×Obj)) (s:Shared) (σ:St) (H:Hp) (E:Value->Shared->Prop),Inv X pins σ H s->(∀b∈fp,sE X pins H b)->tn i s.heap->J.stop i H->
  wpAny (model P w) X.A (pyNext (.ref it)) (fun r s1=>r=none/\Inv X pins σ H s1) E s
 self:∀(A:Around) (i:Nat) (s:Shared) (Q:Value->Shared->Prop) (E:Value->Shared->Prop),tn i s.heap->Q (.ref it) s->wpAny (model P w) A (pyIter (.ref it)) Q E s
abbrev TI:=St->Hp->(It->Hp->Prop)->Prop
def WU (X:Cx) (pins:List (Addr×Obj)) (σ:St) (tg:Expr) (R:It->Hp->Prop) (Ia:Value) (s2:Shared):Prop:=
 ∃(it:Addr) (fp:List Addr) (tn:Nat->Heap->Prop) (J:It) (H':Hp),Ia=.ref it/\Inv X pins σ H' s2/\yh X.prog X.w X.K tg J fp it tn/\tn 0 s2.heap/\(∀b∈fp,sE X pins H' b)/\R J H'
def PI (X:Cx) (tg iter:Expr) (wi:TI):Prop:=
 ∀(pins:List (Addr×Obj)) (s:Shared) (σ:St) (H:Hp) (R:It->Hp->Prop),Inv X pins σ H s->wi σ H R->
  wpAny (model X.prog X.w) X.A (eval iter X.env) (fun v s1=>wpAny (model X.prog X.w) X.A (pyIter v) (WU X pins σ tg R) X.xe s1) X.xe s
theorem EN (ho:s.heap.get? it=some o) (hc:o.cls=.type n) (hd:o.data=.fields vs)
 (hn:["enumerate","zip","dict_itemiterator","dict_reverseitemiterator","odict_iterator","itertools.zip_longest","itertools.pairwise"].contains n=false) (hQ:Q () s):wpAny M A (letOwnedTupleGo tg (.ref it) u) Q E s:=by
 unfold letOwnedTupleGo;cases tg<;>first
  | exact aW hQ
  | (cases u<;>first
   | exact aW hQ
   | (refine ah (wpAny_load ho ?_)
      rw [hc,hd];show wpAny M A (if (["enumerate","zip","dict_itemiterator","dict_reverseitemiterator","odict_iterator","itertools.zip_longest","itertools.pairwise"].contains n && vs[0]?==some (rawInt _))=true then _ else _) Q E s;rw [if_neg (by intro h;rw [hn,Bool.false_and] at h;cases h)];exact aW hQ))
def Bb (K:bE) (a:Addr):It:=
 ⟨fun i H=>∃xs x,a9 K H a xs/\xs[i]?=some x,fun i H x H'=>H'=H/\∀xs,a9 K H a xs->xs[i]?=some x,fun i H=>∃xs,a9 K H a xs/\xs.length<=i⟩
def Ba (K:bE) (a:Addr):It:=
 ⟨fun i H=>∃xs x,dm K H a xs/\xs[i]?=some x,fun i H x H'=>H'=H/\∀xs,dm K H a xs->xs[i]?=some x,fun i H=>∃xs,dm K H a xs/\xs.length<=i⟩
def xi (lo:Int) (n:Nat):It:=⟨fun i _=>i<n,fun i H x H'=>H'=H/\x=.int (lo+i),fun i _=>n<=i⟩
theorem Ze {tg:Expr} (a it:Addr):yh P w K tg (Bb K a) [it] it (fun i h=>h.IsListIter it a i) where
 mem:=by simp
 obj:=fun i h st b hb=>by
  have e:b=it:=by simpa using hb
  subst e;obtain ⟨o,e,c,d⟩:=st;exact ⟨o,e,fun v z=>by rw [d] at z;cases z⟩
 keep:=fun i h h' st k=>st.at fun o e=>k it (by simp) o e
 item:=by intro X hP hw hK hc i pins s σ H E I hf st hg;subst hP hw hK;obtain ⟨xs,x,hq,hx⟩:=hg;obtain ⟨its,rv,p,hz⟩:=I.list hq;obtain ⟨u,hu,ru⟩:=rv.get hx;obtain ⟨f0,f1,f2,f3,f4,f5⟩:=hf it (by simp);refine wpAny_pyNext_list_item st p.isList (x:=u) (by simpa using hu) fun h' ag sb=>?_;have I1:Inv X pins σ H { s with heap:=h' }:=I.turned (t':=s.toks) (fun b o hb e=>(sb.2 b hb).trans e) f0 f1 f3 f4 f5;obtain ⟨o,e,c,d⟩:=id ag;exact ⟨u,rfl,EN (s:={ s with heap:=h' }) e c d (by decide) ⟨x,H,I1,ru,⟨rfl,fun ys hy=>by rw [I.rq hy hq];exact hx⟩,ag,fun b hb=>(hf b hb).1⟩⟩
 done:=by intro X hP hw hK hc i pins s σ H E I hf st hg;subst hP hw hK;obtain ⟨xs,hq,hx⟩:=hg;obtain ⟨its,rv,p,hz⟩:=I.list hq;obtain ⟨f0,f1,f2,f3,f4,f5⟩:=hf it (by simp);have hl:=rv.length;exact ZJ (Bk hc I) st p.isList (by simp;exact BN hl hx) fun h' eb=>⟨rfl,I.turned (t':=s.toks) (fun b o hb e=>eb b o hb e) f0 f1 f3 f4 f5⟩
 self:=fun _ _ _ _ _ st h=>wpAny_pyIter_listiter st h
theorem Zz {tg:Expr} (a it:Addr):yh P w K tg (Ba K a) [it] it (fun i h=>h.IsTupleIter it a i) where
 mem:=by simp
 obj:=fun i h st b hb=>by
  have e:b=it:=by simpa using hb
  subst e;obtain ⟨o,e,c,d⟩:=st;exact ⟨o,e,fun v z=>by rw [d] at z;cases z⟩
 keep:=fun i h h' st k=>st.at fun o e=>k it (by simp) o e
 item:=by intro X hP hw hK hc i pins s σ H E I hf st hg;subst hP hw hK;obtain ⟨xs,x,hq,hx⟩:=hg;obtain ⟨its,rv,p,hz⟩:=I.tuple hq;obtain ⟨u,hu,ru⟩:=rv.get hx;obtain ⟨f0,f1,f2,f3,f4,f5⟩:=hf it (by simp);refine wpAny_pyNext_tuple_item st (show s.heap.IsTuple a its.toArray from p) (x:=u) (by simpa using hu) fun h' ag sb=>?_;have I1:Inv X pins σ H { s with heap:=h' }:=I.turned (t':=s.toks) (fun b o hb e=>(sb.2 b hb).trans e) f0 f1 f3 f4 f5;obtain ⟨o,e,c,d⟩:=id ag;exact ⟨u,rfl,EN (s:={ s with heap:=h' }) e c d (by decide) ⟨x,H,I1,ru,⟨rfl,fun ys hy=>by rw [I.pe hy hq];exact hx⟩,ag,fun b hb=>(hf b hb).1⟩⟩
 done:=by intro X hP hw hK hc i pins s σ H E I hf st hg;subst hP hw hK;obtain ⟨xs,hq,hx⟩:=hg;obtain ⟨its,rv,p,hz⟩:=I.tuple hq;obtain ⟨f0,f1,f2,f3,f4,f5⟩:=hf it (by simp);have hl:=rv.length;exact Zx (Bk hc I) st p (by simp;exact BN hl hx) fun h' eb=>⟨rfl,I.turned (t':=s.toks) (fun b o hb e=>eb b o hb e) f0 f1 f3 f4 f5⟩
 self:=fun _ _ _ _ _ st h=>wpAny_pyIter_tupleiter st h
theorem Zy {tg:Expr} (it:Addr) (lo:Int) (n:Nat):yh P w K tg (xi lo n) [it] it (fun i h=>IsRangeIter h it (lo+(i:Nat)*1) ((n:Int)-(i:Nat)) 1) where
 mem:=by simp
 obj:=fun i h st b hb=>by
  have e:b=it:=by simpa using hb
  subst e;exact ⟨_,st,fun v z=>by
   have z':Data.fields _=Data.cell v:=z;cases z'⟩
 keep:=fun i h h' st k=>k it (by simp) _ st
 item:=by intro X hP hw hK hc i pins s σ H E I hf st hg;subst hP hw hK;obtain ⟨f0,f1,f2,f3,f4,f5⟩:=hf it (by simp);refine ZY hg st fun t h' tk ag kk=>?_;have I1:Inv X pins σ H { s with heap:=h',toks:=tk }:=I.turned (fun b o hb e=>kk b o (by simpa using hb) e) f0 f1 f3 f4 f5;refine ⟨_,rfl,EN (s:={ s with heap:=h',toks:=tk }) (n:="range_iterator") ag rfl rfl (by decide) ⟨.int (lo+i),H,I1,⟨t,?_⟩,⟨rfl,rfl⟩,ag,fun b hb=>(hf b hb).1⟩⟩;rw [Int.mul_one]
 done:=by intro X hP hw hK hc i pins s σ H E I hf st hg;subst hP hw hK;obtain ⟨f0,f1,f2,f3,f4,f5⟩:=hf it (by simp);exact Tj (Bk hc I) st (by have:n<=i:=hg;omega) fun h' eb=>⟨rfl,I.turned (t':=s.toks) (fun b o hb e=>eb b o hb e) f0 f1 f3 f4 f5⟩
 self:=fun _ _ _ _ _ st h=>wpAny_pyIter_rangeiter st h
section
variable {X:Cx} {tg:Expr}
def zFp (K:bE) (tl:TE):TI:=fun σ H R=>tl σ H fun x H1=>∃a,x=.ref a/\(∃xs,a9 K H1 a xs)/\R (Bb K a) H1
def zH3 (K:bE) (tl:TE):TI:=fun σ H R=>tl σ H fun x H1=>∃a,x=.ref a/\(∃xs,dm K H1 a xs)/\R (Ba K a) H1
theorem iH {l:Expr} {tl:TE} (hl:PE X l tl):PI X tg l (zFp X.K tl):=by
 intro pins s σ H R I h;refine ax (hl pins s σ H _ I h) fun v s1 zz=>?_;obtain ⟨x,H1,I1,r1,q1⟩:=zz;obtain ⟨a,e,⟨xs,hq⟩,q⟩:=q1;subst e;cases r1;obtain ⟨its,rv,p,hz⟩:=I1.list hq;refine wpAny_pyIter_list p.isList ?_;refine ⟨s1.heap.objs.size,[s1.heap.objs.size],_,_,H1,rfl,I1.kept (t':=s1.toks) fun b o e=>cR _ e,Ze a _,⟨_,jY _ rfl,rfl,rfl⟩,fun b hb=>?_,q⟩;have e:b=s1.heap.objs.size:=by simpa using hb
 subst e;exact I1.rZ (av _) (I1.af.fresh (av _))
theorem JE {l:Expr} {tl:TE} (hl:PE X l tl):PI X tg l (zH3 X.K tl):=by
 intro pins s σ H R I h;refine ax (hl pins s σ H _ I h) fun v s1 zz=>?_;obtain ⟨x,H1,I1,r1,q1⟩:=zz;obtain ⟨a,e,⟨xs,hq⟩,q⟩:=q1;subst e;cases r1;obtain ⟨its,rv,p,hz⟩:=I1.tuple hq;refine wpAny_pyIter_tuple (show s1.heap.IsTuple a its.toArray from p) ?_;refine ⟨s1.heap.objs.size,[s1.heap.objs.size],_,_,H1,rfl,I1.kept (t':=s1.toks) fun b o e=>cR _ e,Zz a _,⟨_,jY _ rfl,rfl,rfl⟩,fun b hb=>?_,q⟩;have e:b=s1.heap.objs.size:=by simpa using hb
 subst e;exact I1.rZ (av _) (I1.af.fresh (av _))
theorem QF {lo hi:Int} {tk:Nat} (I:Inv X pins σ H s) (h1: -(2 ^ 62)<=lo) (h2:lo<2 ^ 62) (h3: -(2 ^ 62)<=hi) (h4:hi<2 ^ 62)
 (q:R (xi lo (hi-lo).toNat) H):wpAny (model X.prog X.w) X.A (pyIter (.ref s.heap.objs.size)) (WU X pins σ tg R) E { s with heap:=s.heap.push { cls:=.type "range",data:=.fields #[.int lo t,.int hi u,.int 1 v] },toks:=tk }:=by
 refine wpAny_pyIter_range (IsRange.new ..) (small_one h1 h2 h3 h4) ?_;have I1:Inv X pins σ H { s with heap:=s.heap.push { cls:=.type "range",data:=.fields #[.int lo t,.int hi u,.int 1 v] },toks:=tk }:=I.kept fun b o e=>cR _ e;refine ⟨(s.heap.push { cls:=.type "range",data:=.fields #[.int lo t,.int hi u,.int 1 v] }).objs.size,[(s.heap.push { cls:=.type "range",data:=.fields #[.int lo t,.int hi u,.int 1 v] }).objs.size],_,_,H,rfl,
  I1.kept (t':=tk) fun b o e=>cR _ e,Zy _ lo (hi-lo).toNat,?_,fun b hb=>?_,q⟩
 ·have e1:lo+((0:Nat):Int)*1=lo:=by simp
  have e2:(((hi-lo).toNat:Nat):Int)-((0:Nat):Int)=Builtin.Range.rangeSize lo hi 1:=by rw [rangeSize_one];split<;>omega
  show IsRangeIter _ _ (lo+((0:Nat):Int)*1) ((((hi-lo).toNat:Nat):Int)-((0:Nat):Int)) 1;rw [e1,e2];exact jY _ rfl
 ·have e:b=(s.heap.push { cls:=.type "range",data:=.fields #[.int lo t,.int hi u,.int 1 v] }).objs.size:=by simpa using hb
  subst e;exact I1.rZ (av _) (I1.af.fresh (av _))
def zFo (ta:TA):TI:=fun σ H R=>ta σ H fun vs H1=>∃j:Int,vs=[.int j]/\-(2 ^ 62)<=j/\j<2 ^ 62/\R (xi 0 j.toNat) H1
def zFn (ta:TA):TI:=fun σ H R=>ta σ H fun vs H1=>∃i j:Int,vs=[.int i,.int j]/\(-(2 ^ 62)<=i/\i<2 ^ 62/\-(2 ^ 62)<=j/\j<2 ^ 62)/\R (xi i (j-i).toNat) H1
theorem ux (hg:Gl X "range") (hm:X.mg "range"=none) (ha:PA X [a] ta) (hs:starEach [a] X.env=[(false,eval a X.env)]:=by rfl):PI X tg (.Call (.Name "range" p) [a] [] pos) (zFo ta):=by
 intro pins s σ H R I h;refine Call_ (xu I hg hm boot_range (PyProof.Rows.callWith_type1 (ax (ha pos pins s σ H _ I h) fun us s1 zz=>?_) hs rfl));obtain ⟨vs,H1,I1,r1,q1⟩:=zz;obtain ⟨j,e,q1,q2,q⟩:=q1;subst e
 cases r1 with
 | cons r rr=>
  cases rr;obtain ⟨t,rfl⟩:=r;exact call_range_1 (QF I1 (by omega) (by omega) q1 q2 (by simpa using q))
theorem YN (hg:Gl X "range") (hm:X.mg "range"=none) (ha:PA X [a,b] ta) (hs:starEach [a,b] X.env=[(false,eval a X.env),(false,eval b X.env)]:=by rfl) (kK:starEach [b] X.env=[(false,eval b X.env)]:=by rfl):
 PI X tg (.Call (.Name "range" p) [a,b] [] pos) (zFn ta):=by
 intro pins s σ H R I h;refine Call_ (xu I hg hm boot_range (PyProof.Rows.callWith_type1 (ax (ha pos pins s σ H _ I h) fun us s1 zz=>?_) (by rw [hs,kK]) (by rw [kK];rfl)));obtain ⟨vs,H1,I1,r1,q1⟩:=zz;obtain ⟨i,j,e,⟨q1,q2,q3,q4⟩,q⟩:=q1;subst e
 cases r1 with
 | cons r rr=>
  cases rr with
  | cons r' rr=>
   cases rr;obtain ⟨t,rfl⟩:=r;obtain ⟨t',rfl⟩:=r';exact call_range_2 (QF I1 q1 q2 q3 q4 q)
def TR (wi:TI) (g:TG) (tb:TS):TS:=fun D σ H=>wi σ H fun J H1=>∃W:Nat->Nat->St->Hp->Prop,(∃m,W 0 m σ H1)/\∀i m σ H,W i m σ H->
 (J.stop i H/\D.nx σ H)\/(J.go i H/\∃N:St->Hp->Prop,(∀ae H',N ae H'->∃m',m'<m/\W (i+1) m' ae H')/\∀x H',J.yl i H x H'->g x σ H' fun iW H2=>tb { D with nx:=N,ct:=N,bk:=D.nx } iW H2)
def Bx (fp:List Addr) (h:Heap):List (Addr×Obj):=fp.filterMap fun b=>(h.get? b).map fun o=>(b,o)
theorem Ho (hb:b∈fp) (e:h.get? b=some o):(b,o)∈Bx fp h:=tP.mpr ⟨b,hb,by rw [e];rfl⟩
theorem YV (hp:p∈Bx fp h):p.1∈fp/\h.get? p.1=some p.2:=by
 obtain ⟨b,hb,e⟩:=tP.mp hp
 cases q:h.get? b with
 | none=>rw [q] at e;cases e
 | some o=>
  rw [q] at e;have e':(b,o)=p:=dM e;subst e';exact ⟨hb,q⟩
theorem Inv.pinned (I:Inv X pins σ H s) (hf:∀b∈fp,sE X pins H b) (ho:∀b∈fp,∃o,s.heap.get? b=some o/\∀v,o.data≠.cell v):Inv X (pins++Bx fp s.heap) σ H s:=
 I.o6 fun p hp=>(jF.mp hp).elim (fun z=>I.pin p (jW _ z)) fun z=>by obtain ⟨hb,e⟩:=YV z;obtain ⟨f0,f1,f2,_⟩:=hf p.1 hb;obtain ⟨o,e',d⟩:=ho p.1 hb;rw [e] at e';cases e';exact ⟨e,f0,f1,f2,d⟩
theorem Inv.gN (I:Inv X (pins++pl) σ H s):Inv X pins σ H s:=I.o6 fun p hp=>I.pin p (jW _ (gJ _ hp))
theorem zBd (hp:PassesOwn (model X.prog X.w) X.A X.env X.xe) (hc:nZ X) (hi:PI X tg iter wi) (hg:PG X tg g) (hb:gB X body tb)
 (hs:∀x,foldedSetIterable iter X.env x=pure x:=by intro _;rfl):PS X (.For tg iter body [] pos) (TR wi g tb):=by
 intro pins s σ H D I h;refine wpAny_For (ax (hi pins s σ H _ I h) fun v s1 h1=>ax h1 fun Ia s2 h2=>?_) hs;obtain ⟨it,fp,tn,J,H2,e,I2,T,aZ,f2,W,⟨m0,w0⟩,turn⟩:=h2;subst e;have ng:∀{H':Hp},(∀b∈fp,H' b=none)->∀b∈fp,sE X pins H' b:=fun hn b hb=>⟨hn b hb,(f2 b hb).2⟩;refine codeAny_forLoop_any (fun n s'=>∃i ae H',Inv X pins ae H' s'/\tn i s'.heap/\(∀b∈fp,H' b=none)/\W i n ae H') ?_ m0 ⟨0,σ,H2,I2,aZ,fun b hb=>(f2 b hb).1,w0⟩;rintro n s3 ⟨i,eJ,H3,I3,cm,Wt,w3⟩;rcases turn i n eJ H3 w3 with ⟨stop,qn⟩ | ⟨go,N,hN,step⟩
 ·refine wpAny_passesOwn hp (ax (T.done X rfl rfl rfl hc i pins s3 eJ H3 X.xe I3 (ng Wt) cm stop) fun r s4 ⟨hr,I4⟩=>?_);subst hr;exact wpAny_execs_nil ⟨eJ,H3,I4,qn⟩
 ·refine wpAny_passesOwn hp (ax (T.item X rfl rfl rfl hc i pins s3 eJ H3 X.xe I3 (ng Wt) cm go) fun r s4 zz=>L2.WA zz fun u hr h4=>?_);subst hr;refine wpAny_passesOwn hp (ax h4 fun _ s5 zz=>?_);obtain ⟨x,H5,I5,r5,y5,lG,IF⟩:=zz;have I5':=I5.pinned (ng IF) (T.obj _ _ lG);refine wpAny_passesOwn hp (ax (hg _ s5 eJ H5 x u _ I5' r5 (step x H5 y5)) fun _ s6 zz=>?_);obtain ⟨Xb,H6,I6,q6⟩:=zz;refine wpAny_passesOwn hp (ax (hb _ s6 Xb H6 _ I6 q6) fun f s7 q7=>?_);have again:∀{qA:St} {H7:Hp},Inv X (pins++Bx fp s5.heap) qA H7 s7->N qA H7->∃m,m<n/\∃i ae H',Inv X pins ae H' s7/\tn i s7.heap/\(∀b∈fp,H' b=none)/\W i m ae H':=fun {qA H7} I7 n7=>by
   obtain ⟨m',hm,w7⟩:=hN qA H7 n7;refine ⟨m',hm,i+1,qA,H7,I7.gN,T.keep _ _ _ lG fun b hb o e=>(I7.pin (b,o) (jW _ (jW _ (Ho hb e)))).1,fun b hb=>?_,w7⟩;obtain ⟨o,e,d⟩:=T.obj _ _ lG b hb;exact (I7.pin (b,o) (jW _ (jW _ (Ho hb e)))).2.1
  cases f with
  | next=>obtain ⟨qA,H7,I7,n7⟩:=q7;exact again I7 n7
  | cont=>obtain ⟨qA,H7,I7,n7⟩:=q7;exact again I7 n7
  | brk=>obtain ⟨qA,H7,I7,q7⟩:=q7;exact ⟨qA,H7,I7.gN,q7⟩
  | ret v=>obtain ⟨x7,qA,H7,I7,r7,q7⟩:=q7;exact ⟨x7,qA,H7,I7.gN,r7,q7⟩
theorem iG (hp:PassesOwn (model X.prog X.w) X.A X.env X.xe) (hc:X.calm=true) (hi:PI X tg iter wi) (hg:PG X tg g) (hb:gB X body tb)
 (hs:∀x,foldedSetIterable iter X.env x=pure x:=by intro _;rfl):PS X (.For tg iter body [] pos) (TR wi g tb):=zBd hp (.inl hc) hi hg hb hs
end
theorem km {a:Addr} {xs:List V} {g:TG} {tb:TS} {D:v_} {σ:St} {H:Hp} (Pv:Nat->St->Hp->Prop) (h0:Pv 0 σ H) (hl:∀i σ H,i<=xs.length->Pv i σ H->a9 K H a xs)
 (hs:∀i x σ H,xs[i]?=some x->Pv i σ H->g x σ H fun iW H2=>tb { D with nx:=Pv (i+1),ct:=Pv (i+1),bk:=D.nx } iW H2) (hd:∀σ H,Pv xs.length σ H->D.nx σ H):
 ∃W:Nat->Nat->St->Hp->Prop,(∃m,W 0 m σ H)/\∀i m σ H,W i m σ H->
  ((Bb K a).stop i H/\D.nx σ H)\/((Bb K a).go i H/\∃N:St->Hp->Prop,(∀ae H',N ae H'->∃m',m'<m/\W (i+1) m' ae H')/\∀x H',(Bb K a).yl i H x H'->g x σ H' fun iW H2=>tb { D with nx:=N,ct:=N,bk:=D.nx } iW H2):=by
 refine ⟨fun i m σ H=>m=xs.length-i/\i<=xs.length/\Pv i σ H,⟨xs.length,by simp,dP _,h0⟩,?_⟩;rintro i m σ H ⟨rfl,hi,p⟩;have q:=hl i σ H hi p
 by_cases aF:i<xs.length
 ·refine .inr ⟨⟨xs,xs[i],q,by simp [aF]⟩,Pv (i+1),fun ae H' p'=>⟨xs.length-(i+1),vW aF,rfl,aF,p'⟩,fun x H' y=>?_⟩;obtain ⟨e,y⟩:=y;subst e;exact hs i x σ _ (y xs q) p
 ·have e:i=xs.length:=vX hi aF;subst e;exact .inl ⟨⟨xs,q,av _⟩,hd σ H p⟩
theorem zB3 {a:Addr} {xs:List V} {g:TG} {tb:TS} {D:v_} {σ:St} {H:Hp} (Pv:Nat->St->Hp->Prop) (h0:Pv 0 σ H) (hl:∀i σ H,i<=xs.length->Pv i σ H->dm K H a xs)
 (hs:∀i x σ H,xs[i]?=some x->Pv i σ H->g x σ H fun iW H2=>tb { D with nx:=Pv (i+1),ct:=Pv (i+1),bk:=D.nx } iW H2) (hd:∀σ H,Pv xs.length σ H->D.nx σ H):
 ∃W:Nat->Nat->St->Hp->Prop,(∃m,W 0 m σ H)/\∀i m σ H,W i m σ H->
  ((Ba K a).stop i H/\D.nx σ H)\/((Ba K a).go i H/\∃N:St->Hp->Prop,(∀ae H',N ae H'->∃m',m'<m/\W (i+1) m' ae H')/\∀x H',(Ba K a).yl i H x H'->g x σ H' fun iW H2=>tb { D with nx:=N,ct:=N,bk:=D.nx } iW H2):=by
 refine ⟨fun i m σ H=>m=xs.length-i/\i<=xs.length/\Pv i σ H,⟨xs.length,by simp,dP _,h0⟩,?_⟩;rintro i m σ H ⟨rfl,hi,p⟩;have q:=hl i σ H hi p
 by_cases aF:i<xs.length
 ·refine .inr ⟨⟨xs,xs[i],q,by simp [aF]⟩,Pv (i+1),fun ae H' p'=>⟨xs.length-(i+1),vW aF,rfl,aF,p'⟩,fun x H' y=>?_⟩;obtain ⟨e,y⟩:=y;subst e;exact hs i x σ _ (y xs q) p
 ·have e:i=xs.length:=vX hi aF;subst e;exact .inl ⟨⟨xs,q,av _⟩,hd σ H p⟩
theorem BW {lo:Int} {n:Nat} {g:TG} {tb:TS} {D:v_} {σ:St} {H:Hp} (Pv:Nat->St->Hp->Prop) (h0:Pv 0 σ H)
 (hs:∀i σ H,i<n->Pv i σ H->g (.int (lo+i)) σ H fun iW H2=>tb { D with nx:=Pv (i+1),ct:=Pv (i+1),bk:=D.nx } iW H2) (hd:∀σ H,Pv n σ H->D.nx σ H):
 ∃W:Nat->Nat->St->Hp->Prop,(∃m,W 0 m σ H)/\∀i m σ H,W i m σ H->
  ((xi lo n).stop i H/\D.nx σ H)\/((xi lo n).go i H/\∃N:St->Hp->Prop,(∀ae H',N ae H'->∃m',m'<m/\W (i+1) m' ae H')/\∀x H',(xi lo n).yl i H x H'->g x σ H' fun iW H2=>tb { D with nx:=N,ct:=N,bk:=D.nx } iW H2):=by
 refine ⟨fun i m σ H=>m=n-i/\i<=n/\Pv i σ H,⟨n,by simp,dP _,h0⟩,?_⟩;rintro i m σ H ⟨rfl,hi,p⟩
 by_cases aF:i<n
 ·refine .inr ⟨aF,Pv (i+1),fun ae H' p'=>⟨n-(i+1),vW aF,rfl,aF,p'⟩,fun x H' y=>?_⟩;obtain ⟨e,y⟩:=y;subst e y;exact hs i σ _ aF p
 ·have e:i=n:=vX hi aF;subst e;exact .inl ⟨av _,hd σ H p⟩
abbrev R2:=V->V->Hp->VK->Prop
def fH (X:Cx) (f:Value->Value->Sem Value) (r:R2):Prop:=
 ∀(pins:List (Addr×Obj)) (s:Shared) (σ:St) (H:Hp) (x y:V) (v u:Value) (Q:VK),Inv X pins σ H s->bU x v->bU y u->r x y H Q->
  wpAny (model X.prog X.w) X.A (f v u) (EP X pins σ Q) X.xe s
def OP (X:Cx) (f:Value->Sem Value) (r:V->Hp->VK->Prop):Prop:=
 ∀(pins:List (Addr×Obj)) (s:Shared) (σ:St) (H:Hp) (x:V) (v:Value) (Q:VK),Inv X pins σ H s->bU x v->r x H Q->
  wpAny (model X.prog X.w) X.A (f v) (EP X pins σ Q) X.xe s
def ug (X:Cx) (f:Value) (r:List V->Hp->VK->Prop):Prop:=
 ∀(pins:List (Addr×Obj)) (s:Shared) (σ:St) (H:Hp) (xs:List V) (us:List Value) (Q:VK),Inv X pins σ H s->bq xs us->r xs H Q->
  wpAny (model X.prog X.w) X.A (call f us) (EP X pins σ Q) X.xe s
def uD (r:R2) (ta tb:TE):TE:=fun σ H Q=>ta σ H fun x H1=>tb σ H1 fun y H2=>r x y H2 Q
def tUn (r:V->Hp->VK->Prop) (ta:TE):TE:=fun σ H Q=>ta σ H fun x H1=>r x H1 Q
def rI (C:Int->Int->Prop) (g:Int->Int->V):R2:=fun x y H Q=>∃i j,x=.int i/\y=.int j/\C i j/\Q (g i j) H
def wz (g:Int->Int->V):R2:=fun x y H Q=>∃i j,x=.int i/\y=.int j/\Q (g i j) H
def rU (g:Int->V):V->Hp->VK->Prop:=fun x H Q=>∃i,x=.int i/\Q (g i) H
section
variable {X:Cx} {a b c:Expr} {ta tb tc:TE} {pos:Pos}
theorem KU (ha:PE X a ta) (hb:PE X b tb) {pins:List (Addr×Obj)} {s:Shared} {σ:St} {H:Hp} {R:V->V->Hp->Prop} (I:Inv X pins σ H s)
 (h:ta σ H fun x H1=>tb σ H1 fun y H2=>R x y H2) {Q:Value->Shared->Prop} {f:Value->Value->Sem Value}
 (hf:∀v u s2 x y H2,Inv X pins σ H2 s2->bU x v->bU y u->R x y H2->wpAny (model X.prog X.w) X.A (f v u) Q X.xe s2):
 wpAny (model X.prog X.w) X.A (eval a X.env) (fun v ar=>wpAny (model X.prog X.w) X.A (eval b X.env) (fun u g7=>wpAny (model X.prog X.w) X.A (f v u) Q X.xe g7) X.xe ar) X.xe s:=by
 refine ax (ha pins s σ H _ I h) fun v s1 zz=>?_;obtain ⟨x,H1,I1,r1,q1⟩:=zz;refine ax (hb pins s1 σ H1 _ I1 q1) fun u s2 zz=>?_;obtain ⟨y,H2,I2,r2,q2⟩:=zz;exact hf v u s2 x y H2 I2 r1 r2 q2
theorem cE {op:Operator} {r:R2} (ho:fH X (binaryOp op) r) (ha:PE X a ta) (hb:PE X b tb):PE X (.BinOp a op b pos) (uD r ta tb):=by intro pins s σ H Q I h;exact wpAny_BinOp (KU ha hb I h fun v u s2 x y H2 I2 rx ry q=>ho pins s2 σ H2 x y v u Q I2 rx ry q)
theorem vK (ho:OP X (unaryOp op) r) (ha:PE X a ta):PE X (.UnaryOp op a pos) (tUn r ta):=by intro pins s σ H Q I h;exact UnaryOp_ (ax (ha pins s σ H _ I h) fun v s1 zz=>L2.fi zz fun x H1 I1 r1 q1=>ho pins s1 σ H1 x v Q I1 r1 q1)
theorem Vr {f:Value->Value->Sem Value} {C:Int->Int->Prop} {g:Int->Int->Int}
 (rule:∀(i j:Int) (t u:Tok) (s:Shared) (Q:Value->Shared->Prop) (E:Value->Shared->Prop),C i j->Q (.int (g i j) s.toks) { s with toks:=s.toks+1 }->wpAny (model X.prog X.w) X.A (f (.int i t) (.int j u)) Q E s):
 fH X f (rI C fun i j=>.int (g i j)):=by
 intro pins s σ H x y v u Q I rx ry h;obtain ⟨i,j,rfl,rfl,hc,q⟩:=h;obtain ⟨t,rfl⟩:=rx;obtain ⟨t',rfl⟩:=ry;exact rule i j t t' s _ _ hc ⟨.int (g i j),H,I.tok _,⟨_,rfl⟩,q⟩
theorem T7 {f:Value->Value->Sem Value} {g:Int->Int->Int}
 (rule:∀(i j:Int) (t u:Tok) (s:Shared) (Q:Value->Shared->Prop) (E:Value->Shared->Prop),Q (.int (g i j) s.toks) { s with toks:=s.toks+1 }->wpAny (model X.prog X.w) X.A (f (.int i t) (.int j u)) Q E s):
 fH X f (wz fun i j=>.int (g i j)):=by
 intro pins s σ H x y v u Q I rx ry h;obtain ⟨i,j,rfl,rfl,q⟩:=h;obtain ⟨t,rfl⟩:=rx;obtain ⟨t',rfl⟩:=ry;exact rule i j t t' s _ _ ⟨.int (g i j),H,I.tok _,⟨_,rfl⟩,q⟩
theorem HD {f:Value->Value->Sem Value} {g:Int->Int->Bool}
 (rule:∀(i j:Int) (t u:Tok) (s:Shared) (Q:Value->Shared->Prop) (E:Value->Shared->Prop),Q (.bool (g i j)) s->wpAny (model X.prog X.w) X.A (f (.int i t) (.int j u)) Q E s):
 fH X f (wz fun i j=>.bl (g i j)):=by
 intro pins s σ H x y v u Q I rx ry h;obtain ⟨i,j,rfl,rfl,q⟩:=h;obtain ⟨t,rfl⟩:=rx;obtain ⟨t',rfl⟩:=ry;exact rule i j t t' s _ _ ⟨.bl (g i j),H,I,rfl,q⟩
def KZ (i j:Int):Prop:=(-(2 ^ 64)<i/\i<2 ^ 64)\/(-(2 ^ 64)<j/\j<2 ^ 64)
theorem KZ.ok (h:KZ i j):IntMulOk i j:=by
 rcases h with ⟨h1,h2⟩ | ⟨h1,h2⟩
 ·exact .of_left (intBits_le_64 h1 h2)
 ·exact .of_right (intBits_le_64 h1 h2)
theorem jo:fH X (binaryOp .Add) (wz fun i j=>.int (i+j)):=T7 fun _ _ _ _ _ _ _ q=>add_int q
theorem jK:fH X (binaryOp .Sub) (wz fun i j=>.int (i-j)):=T7 fun _ _ _ _ _ _ _ q=>sub_int q
theorem zDt:fH X (binaryOp .Mult) (rI KZ fun i j=>.int (i*j)):=Vr fun _ _ _ _ _ _ _ hc q=>mul_int q hc.ok
theorem JK:fH X (binaryOp .Mod) (rI (fun _ j=>0<j) fun i j=>.int (i % j)):=Vr fun i j _ _ _ _ _ hc q=>by have h1:(0:Int)<j:=hc;exact mod_int' (Y1 hc) (by rw [Int.fmod_eq_emod_of_nonneg i (Yk hc)];exact q)
theorem unI {f:Value->Sem Value} {g:Int->Int}
 (rule:∀(i:Int) (t:Tok) (s:Shared) (Q:Value->Shared->Prop) (E:Value->Shared->Prop),Q (.int (g i) s.toks) { s with toks:=s.toks+1 }->wpAny (model X.prog X.w) X.A (f (.int i t)) Q E s):
 OP X f (rU fun i=>.int (g i)):=by
 intro pins s σ H x v Q I rx h;obtain ⟨i,rfl,q⟩:=h;obtain ⟨t,rfl⟩:=rx;exact rule i t s _ _ ⟨.int (g i),H,I.tok _,⟨_,rfl⟩,q⟩
theorem vM:OP X (unaryOp .USub) (rU fun i=>.int (-i)):=unI fun _ _ _ _ _ q=>neg_int q
end
def TN:V->V->Bool
 | .aR,.aR=>true | .aR,.int _=>true | .int _,.aR=>true | .aR,.bl _=>true | .bl _,.aR=>true | .aR,.str _=>true | .str _,.aR=>true
 | .int _,.int _=>true | .bl _,.bl _=>true | .str _,.str _=>true | .pQ _,.pQ _=>true
 | .int _,.str _=>true | .str _,.int _=>true | .bl _,.str _=>true | .str _,.bl _=>true
 | _,_=>false
def Vm:R2:=fun x y H Q=>TN x y=true/\Q (.bl (decide (x=y))) H
def rNe:R2:=fun x y H Q=>TN x y=true/\Q (.bl (!decide (x=y))) H
theorem P6:decide (V.int i=V.int j)=(i==j):=by rw [Bool.eq_iff_iff];simp
theorem UR:decide (V.bl i=V.bl j)=(i==j):=by rw [Bool.eq_iff_iff];simp
theorem P7:decide (V.str i=V.str j)=(i==j):=by rw [Bool.eq_iff_iff];simp
theorem P5:decide (V.pQ i=V.pQ j)=(i.toList==j.toList):=by rw [Bool.eq_iff_iff];cases i;cases j;simp
section
variable {X:Cx} {a b c:Expr} {ta tb tc:TE} {pos:Pos}
theorem gm (I:Inv X pins σ H s) (q:Q (.bl k) H) (e:k=k'):EP X pins σ Q (.bool k') s:=by subst e;exact ⟨.bl k,H,I,rfl,q⟩
theorem iu:fH X (compareOp .Eq) Vm:=by
 intro pins s σ H x y v u Q I rx ry h;obtain ⟨hs,q⟩:=h
 cases x with
 | aR=>
  cases rx
  cases y with
  | aR=>cases ry;exact PySem.EqNone.eq_none_none (gm I q (by simp))
  | bl j=>cases ry;exact PySem.EqNone.eq_none_bool (gm I q (by simp))
  | int j=>obtain ⟨t',rfl⟩:=ry;exact PySem.EqNone.eq_none_int (gm I q (by simp))
  | str j=>obtain ⟨t',rfl⟩:=ry;exact PySem.EqNone.eq_none_str (gm I q (by simp))
  | _=>exact absurd (show false=true from hs) fC
 | bl i=>
  cases rx
  cases y with
  | aR=>cases ry;exact PySem.EqNone.eq_bool_none (gm I q (by simp))
  | bl j=>cases ry;exact eq_bool (gm I q UR)
  | str j=>obtain ⟨t',rfl⟩:=ry;exact PySem.EqMixed.eq_bool_str (gm I q (by simp))
  | _=>exact absurd (show false=true from hs) fC
 | int i=>
  obtain ⟨t,rfl⟩:=rx
  cases y with
  | aR=>cases ry;exact PySem.EqNone.eq_int_none (gm I q (by simp))
  | int j=>obtain ⟨t',rfl⟩:=ry;exact eq_int (gm I q P6)
  | str j=>obtain ⟨t',rfl⟩:=ry;exact PySem.EqMixed.eq_int_str (gm I q (by simp))
  | _=>exact absurd (show false=true from hs) fC
 | str i=>
  obtain ⟨t,rfl⟩:=rx
  cases y with
  | aR=>cases ry;exact PySem.EqNone.eq_str_none (gm I q (by simp))
  | bl j=>cases ry;exact PySem.EqMixed.eq_str_bool (gm I q (by simp))
  | int j=>obtain ⟨t',rfl⟩:=ry;exact PySem.EqMixed.eq_str_int (gm I q (by simp))
  | str j=>obtain ⟨t',rfl⟩:=ry;exact eq_str (gm I q P7)
  | _=>exact absurd (show false=true from hs) fC
 | pQ i=>
  obtain ⟨t,rfl⟩:=rx
  cases y with
  | pQ j=>obtain ⟨t',rfl⟩:=ry;exact PySem.W.eq_bytes (gm I q P5)
  | _=>exact absurd (show false=true from hs) fC
 | _=>cases y<;>exact absurd (show false=true from hs) fC
theorem EO:fH X (compareOp .NotEq) rNe:=by
 intro pins s σ H x y v u Q I rx ry h;obtain ⟨hs,q⟩:=h
 cases x with
 | aR=>
  cases rx
  cases y with
  | aR=>cases ry;exact PySem.EqNone.ne_none_none (gm I q (by simp))
  | bl j=>cases ry;exact PySem.EqNone.ne_none_bool (gm I q (by simp))
  | int j=>obtain ⟨t',rfl⟩:=ry;exact PySem.EqNone.ne_none_int (gm I q (by simp))
  | str j=>obtain ⟨t',rfl⟩:=ry;exact PySem.EqNone.ne_none_str (gm I q (by simp))
  | _=>exact absurd (show false=true from hs) fC
 | bl i=>
  cases rx
  cases y with
  | aR=>cases ry;exact PySem.EqNone.ne_bool_none (gm I q (by simp))
  | bl j=>cases ry;exact ne_bool (gm I q (congrArg not UR))
  | str j=>obtain ⟨t',rfl⟩:=ry;exact PySem.EqMixed.ne_bool_str (gm I q (by simp))
  | _=>exact absurd (show false=true from hs) fC
 | int i=>
  obtain ⟨t,rfl⟩:=rx
  cases y with
  | aR=>cases ry;exact PySem.EqNone.ne_int_none (gm I q (by simp))
  | int j=>obtain ⟨t',rfl⟩:=ry;exact ne_int (gm I q (congrArg not P6))
  | str j=>obtain ⟨t',rfl⟩:=ry;exact PySem.EqMixed.ne_int_str (gm I q (by simp))
  | _=>exact absurd (show false=true from hs) fC
 | str i=>
  obtain ⟨t,rfl⟩:=rx
  cases y with
  | aR=>cases ry;exact PySem.EqNone.ne_str_none (gm I q (by simp))
  | bl j=>cases ry;exact PySem.EqMixed.ne_str_bool (gm I q (by simp))
  | int j=>obtain ⟨t',rfl⟩:=ry;exact PySem.EqMixed.ne_str_int (gm I q (by simp))
  | str j=>obtain ⟨t',rfl⟩:=ry;exact ne_str (gm I q (congrArg not P7))
  | _=>exact absurd (show false=true from hs) fC
 | pQ i=>
  obtain ⟨t,rfl⟩:=rx
  cases y with
  | pQ j=>obtain ⟨t',rfl⟩:=ry;exact PySem.W.ne_bytes (gm I q (congrArg not P5))
  | _=>exact absurd (show false=true from hs) fC
 | _=>cases y<;>exact absurd (show false=true from hs) fC
theorem vJ:fH X (compareOp .Lt) (wz fun i j=>.bl (decide (i<j))):=HD fun _ _ _ _ _ _ _ q=>lt_int q
theorem n_:fH X (compareOp .LtE) (wz fun i j=>.bl (decide (i<=j))):=HD fun _ _ _ _ _ _ _ q=>le_int q
theorem TY:fH X (compareOp .Gt) (wz fun i j=>.bl (decide (j<i))):=HD fun _ _ _ _ _ _ _ q=>gt_int q
theorem zFi:fH X (compareOp .GtE) (wz fun i j=>.bl (decide (j<=i))):=HD fun _ _ _ _ _ _ _ q=>ge_int q
theorem JJ:fH X (compareOp .Is) (fun x y H Q=>y=.aR/\Q (.bl (decide (x=.aR))) H):=by
 intro pins s σ H x y v u Q I rx ry h;obtain ⟨rfl,q⟩:=h;cases ry;refine is_none_gen (gm I q ?_);cases x<;>first
  | (cases rx;rfl)
  | (obtain ⟨t,rfl⟩:=rx;rfl)
theorem Qa:fH X (compareOp .IsNot) (fun x y H Q=>y=.aR/\Q (.bl (!decide (x=.aR))) H):=by
 intro pins s σ H x y v u Q I rx ry h;obtain ⟨rfl,q⟩:=h;cases ry;refine isnot_none_gen (gm I q ?_);cases x<;>first
  | (cases rx;rfl)
  | (obtain ⟨t,rfl⟩:=rx;rfl)
theorem Pq (b:Expr) (h:op≠.In:=by decide) (h2:op≠.NotIn:=by decide):behindInMarks op b=false:=by
 have e1:(op==CmpOp.In)=false:=by cases op<;>first | rfl | exact absurd rfl h
 have e2:(op==CmpOp.NotIn)=false:=by cases op<;>first | rfl | exact absurd rfl h2
 cases b<;>simp [behindInMarks,e1,e2]
theorem zBl (ho:fH X (compareOp op) r) (ha:PE X a ta) (hb:PE X b tb) (hm:behindInMarks op b=false):PE X (.Compare a [op] [b] pos) (uD r ta tb):=by intro pins s σ H Q I h;exact wpAny_Compare1 (KU ha hb I h fun v u s2 x y H2 I2 rx ry q=>ho pins s2 σ H2 x y v u Q I2 rx ry q) hm
def EW (t:TE):TT:=fun σ H Q=>t σ H fun x H'=>∃k,x=.bl k/\Q k H'
theorem B9 (ho:fH X (compareOp op) r) (ha:PE X a ta) (hb:PE X b tb) (hm:behindInMarks op b=false):PT X (.Compare a [op] [b] pos) (EW (uD r ta tb)):=by
 intro pins s σ H Q I h;refine wpAny_isTrue_Compare1 (ax (ha pins s σ H _ I h) fun v s1 zz=>L2.fi zz fun x H1 I1 r1 q1=>ax (hb pins s1 σ H1 _ I1 q1) fun u s2 zz=>L2.fi zz fun y H2 I2 r2 q2=>
  ax (ho pins s2 σ H2 x y v u _ I2 r1 r2 q2) fun c s3 zz=>?_) hm
 obtain ⟨z,H3,I3,r3,k,e,q3⟩:=zz;subst e;cases r3;exact wpAny_truthy_bool ⟨H3,I3,q3⟩
theorem vC {X:Cx} {a b:Expr} {ta tb:TE} {pos:Pos} {op:CmpOp} {r:R2} (ho:fH X (compareOp op) r) (ha:PE X a ta) (hb:PE X b tb) (h:op≠.In:=by decide) (h2:op≠.NotIn:=by decide):PE X (.Compare a [op] [b] pos) (uD r ta tb):=zBl ho ha hb (Pq _ h h2)
theorem ef {X:Cx} {a b:Expr} {ta tb:TE} {pos:Pos} {op:CmpOp} {r:R2} (ho:fH X (compareOp op) r) (ha:PE X a ta) (hb:PE X b tb) (h:op≠.In:=by decide) (h2:op≠.NotIn:=by decide):PT X (.Compare a [op] [b] pos) (EW (uD r ta tb)):=B9 ho ha hb (Pq _ h h2)
def Pn (r r':R2) (ta tb tc:TE):TE:=fun σ H Q=>ta σ H fun x H1=>tb σ H1 fun y H2=>r x y H2 fun z H3=>∃k,z=.bl k/\
 (if k=true then tc σ H3 fun w' H4=>r' y w' H4 Q else Q (.bl false) H3)
theorem Kh (ho:fH X (compareOp op) r) (mz:fH X (compareOp wB) r') (ha:PE X a ta) (hb:PE X b tb) (hc:PE X c tc)
 (hm:lastMarks [op,wB] [b,c]=false:=by with_unfolding_all rfl):PE X (.Compare a [op,wB] [b,c] pos) (Pn r r' ta tb tc):=by
 intro pins s σ H Q I h;refine Compare_chain (ax (ha pins s σ H _ I h) fun v s1 zz=>L2.fi zz fun x H1 I1 r1 q1=>chain_link (ax (hb pins s1 σ H1 _ I1 q1) fun u s2 zz=>L2.fi zz fun y H2 I2 r2 q2=>
  ax (ho pins s2 σ H2 x y v u _ I2 r1 r2 q2) fun d s3 zz=>?_)) hm
 obtain ⟨z,H3,I3,r3,k,e,q3⟩:=zz;subst e;cases r3;refine wpAny_truthy_bool ?_
 cases k with
 | false=>exact ite_ff ⟨.bl false,H3,I3,rfl,q3⟩
 | true=>exact ite_tt (chain_last (ax (hc pins s3 σ H3 _ I3 q3) fun w' s4 zz=>L2.fi zz fun z' H4 I4 r4 q4=>mz pins s4 σ H4 y z' u w' Q I4 r2 r4 q4))
theorem QD (ho:fH X (compareOp op) r) (mz:fH X (compareOp wB) r') (ha:PE X a ta) (hb:PE X b tb) (hc:PE X c tc)
 (hm:lastMarks [op,wB] [b,c]=false:=by with_unfolding_all rfl):PT X (.Compare a [op,wB] [b,c] pos) (EW (Pn r r' ta tb tc)):=by
 intro pins s σ H Q I h;refine isTrue_chain (ax (ha pins s σ H _ I h) fun v s1 zz=>L2.fi zz fun x H1 I1 r1 q1=>test_link (ax (hb pins s1 σ H1 _ I1 q1) fun u s2 zz=>L2.fi zz fun y H2 I2 r2 q2=>
  ax (ho pins s2 σ H2 x y v u _ I2 r1 r2 q2) fun d s3 zz=>?_)) hm
 obtain ⟨z,H3,I3,r3,k,e,q3⟩:=zz;subst e;cases r3;refine wpAny_truthy_bool ?_
 cases k with
 | false=>
  obtain ⟨k',e',q'⟩:=q3;cases e';exact ite_ff ⟨H3,I3,q'⟩
 | true=>
  refine ite_tt (test_last (ax (hc pins s3 σ H3 _ I3 q3) fun w' s4 zz=>L2.fi zz fun z' H4 I4 r4 q4=>ax (mz pins s4 σ H4 y z' u w' _ I4 r2 r4 q4) fun d' s5 zz=>?_));obtain ⟨z2,H5,I5,r5,k2,e2,q5⟩:=zz;subst e2;cases r5;exact wpAny_truthy_bool ⟨H5,I5,q5⟩
theorem Fb:(sizeLine:Nat)<2 ^ 63:=by rw [sizeLine_eq];decide
theorem zU (r:bq [x] us):∃u,us=[u]/\bU x u:=by
 cases r with
 | cons r1 r2=>cases r2;exact ⟨_,rfl,r1⟩
theorem UL (r:bq [x,y] us):∃u w',us=[u,w']/\bU x u/\bU y w':=by
 cases r with
 | cons r1 r2=>
  cases r2 with
  | cons r3 r4=>cases r4;exact ⟨_,_,rfl,r1,r3⟩
theorem Ru (hc:X.calm=true):ug X (.builtin "max") (fun xs H Q=>∃i j,xs=[.int i,.int j]/\Q (.int (if j>i then j else i)) H):=by
 intro pins s σ H xs us Q I r h;obtain ⟨i,j,rfl,q⟩:=h;obtain ⟨u,w',rfl,⟨t,rfl⟩,⟨t',rfl⟩⟩:=UL r;refine max_two_ints (I.ok.hd hc) fun h' tk k=>⟨_,H,I.kept k,?_,q⟩
 by_cases hj:j>i
 ·rw [if_pos hj,if_pos hj];exact ⟨_,rfl⟩
 ·rw [if_neg hj,if_neg hj];exact ⟨_,rfl⟩
theorem xU (hc:X.calm=true):ug X (.builtin "min") (fun xs H Q=>∃i j,xs=[.int i,.int j]/\Q (.int (if j<i then j else i)) H):=by
 intro pins s σ H xs us Q I r h;obtain ⟨i,j,rfl,q⟩:=h;obtain ⟨u,w',rfl,⟨t,rfl⟩,⟨t',rfl⟩⟩:=UL r;refine min_two_ints (I.ok.hd hc) fun h' tk k=>⟨_,H,I.kept k,?_,q⟩
 by_cases hj:j<i
 ·rw [if_pos hj,if_pos hj];exact ⟨_,rfl⟩
 ·rw [if_neg hj,if_neg hj];exact ⟨_,rfl⟩
end
structure yc (h:Heap) (x dx C:Addr) (mA:Str->Option Value):Prop where
 obj:h.get? x=some (PySem.W.instObj C dx)
 ns:h.Ns1 dx mA
 ne:dx≠x
theorem YF {h:Heap} {dx:Addr} {mA:Str->Option Value} (n:h.Ns1 dx mA):∃od,h.get? dx=some od/\∀name,PySem.W.lookIn name od=some (mA name):=by
 obtain ⟨o,es,ep,ho,hd,hk,_,hm⟩:=n;refine ⟨o,ho,fun name=>?_⟩;have e:=hm name;unfold nsFind findBy at e;rw [<-Array.find?_toList] at e;unfold PySem.W.lookIn;rw [hd];dsimp only;split
 ·rename_i y q
  rw [q] at e;exact congrArg some e
 ·rename_i q
  rw [q] at e;have a:es.toList.any (·.refKey)=false:=by rw [List.any_eq_false];intro y hy;obtain ⟨z,t,nI⟩:=hk y (Array.mem_toList_iff.mp hy);simp [DictEntry.refKey,nI]
  have a':¬es.toList.any (·.refKey)=true:=by rw [a];exact fC
  rw [if_neg a'];exact congrArg some e
theorem yc.look (I:yc h x dx C mA):∃od,PySem.W.InstAt h x (PySem.W.instObj C dx) C (some od)/\∀name,PySem.W.lookIn name od=some (mA name):=
 let ⟨od,ho,hl⟩:=YF I.ns
 ⟨od,⟨I.obj,rfl,rfl,ho⟩,hl⟩
section
variable {prog:Program} {w:World} {A:Around} {E:Value->Shared->Prop} {s:Shared} {K:bE} {x dx C f:Addr} {mA:Str->Option Value} {name:Str} {v:Value}
theorem zB2 (X:K.In s.heap) (I:yc s.heap x dx C mA) (hg:PySem.W.plainGet K C name=true) (hh:PySem.W.hasDictIn K C=true)
 (ha:PySem.W.findIn K (.ref C) name=some none) (hv:mA name=some v) (eO:PySem.W.handedIn v=true) (h:Q v { s with toks:=s.toks+1 }):
 wpAny (model prog w) A (getAttr (.ref x) name expr) Q E s:=by
 obtain ⟨od,J,hl⟩:=I.look;exact PySem.W.get_value X J (PySem.W.plainGet_of hg).1 (PySem.W.findObj_own hh ha rfl (by rw [hl,hv])) eO h
theorem X7 (X:K.In s.heap) (I:yc s.heap x dx C mA) (hg:PySem.W.plainGet K C name=true)
 (hf:PySem.W.findIn K (.ref C) name=some (some (.ref f))) (ht:PySem.W.isFn K (.ref f)=true) (hv:mA name=none) (h:Q (.ref f,[.ref x]) s):
 wpAny (model prog w) A (getMethod (.ref x) name pl) Q E s:=by
 obtain ⟨od,J,hl⟩:=I.look;exact PySem.W.method_fn X J (PySem.W.plainGet_of hg).1 (PySem.W.plainGet_of hg).2 hf (beq_iff_eq.mp ht) (by show (PySem.W.lookIn name od).map (·.isSome)=some false;rw [hl,hv];rfl) h
theorem zA5 (X:K.In s.heap) (I:yc s.heap x dx C mA)
 (hs:PySem.W.findIn K (.ref C) "__setattr__"=some (some (.builtin "object.__setattr__"))) (hp:PySem.W.plainOver K C=true) (ht:PySem.W.takerIn K C name=some none) (hh:PySem.W.hasDictIn K C=true)
 (hw:PySem.Within mA ns) (hsz:ns.length<=sizeLine)
 (h:∀h',yc h' x dx C (fun y=>if y=name then some v else mA y)->Heap.SameBut dx s.heap h'->Q () { s with heap:=h',toks:=s.toks+2 }):
 wpAny (model prog w) A (setAttr (.ref x) name v) Q E s:=by
 obtain ⟨od,J,hl⟩:=I.look;refine PySem.W.set_plain X J hs (PySem.W.osa_open (s:={ s with toks:=s.toks+1 }) (r:=none) X J hp ht fun b=>?_);obtain ⟨cd,hc,AM⟩:=PySem.W.any_some hh;have hx:s.heap.get? x=some ⟨.ref C,some dx,.plain,#[]⟩:=I.obj;refine ah (aW (ah (ah (wpAny_loadPart hx (ah (PySem.W.Looks.here (s:={ s with toks:=s.toks+1 }) (PySem.W.looks_clsIn X hc) ?_))))));rw [AM];refine aW (a:=some dx) (ah (aW (ah ?_)));refine wpAny_nsSet1 (s:={ s with toks:=s.toks+1 }) I.ns fun h' wK kK=>?_;obtain ⟨oD,esD,epD,ML,Nz,NF⟩:=wK.count (PySem.Within.cons name v hw);refine ah (wpAny_lookBehind ML (by rw [Nz];exact pastItsLine_dict (dq NF (by rw [mf];exact xP hsz))) ?_);exact aW (h _ ⟨(kK.2 _ (aB I.ne)).trans I.obj,wK,I.ne⟩ kK)
theorem Xm (X:K.In s.heap) (hm:PySem.W.makesIn K C=true)
 (hi:PySem.W.findIn K (.ref C) "__init__"=some (some (.ref f))) (hf:PySem.W.typeIn K (.ref f)=some (.type "function"))
 (h:codeAny (model prog w) (A.under (.builtin "type.__call__" ⟨.ref C::vs,kw⟩)) (.call (.ref f) ⟨.ref (s.heap.objs.size+1)::vs,kw⟩) (PySem.W.InitBack (s.heap.objs.size+1) R)
  { s with heap:=(s.heap.push PySem.W.emptyDict).push (PySem.W.instObj C s.heap.objs.size) }):
 codeAny (model prog w) A (.call (.ref C) ⟨vs,kw⟩) R s:=by
 obtain ⟨hh,g,d,t,os⟩:=s;exact PySem.W.make_core (PySem.W.makes_of X hm) (PySem.W.looks_findIn X hi) (fun self=>PySem.W.bind_fn X self hf) (.inl rfl) h
end
def aL (f:Str) (v:V):List (Str×V)->List (Str×V)
 | []=>[(f,v)]
 | (g,x)::r=>if g=f then (g,v)::r else (g,x)::aL f v r
theorem mx (f g:Str) (v:V):∀fs:List (Str×V),(aL f v fs).lookup g=if g=f then some v else fs.lookup g
 | []=>by
  show List.lookup g [(f,v)]=_
  by_cases h:g=f
  ·have hb:(g==f)=true:=beq_iff_eq.mpr h;simp only [List.lookup,hb,if_pos h]
  ·have hb:(g==f)=false:=beq_eq_false_iff_ne.mpr h;simp only [List.lookup,hb,if_neg h]
 | (k,x)::r=>by
  have ih:=mx f g v r;rw [show aL f v ((k,x)::r)=(if k=f then (k,v)::r else (k,x)::aL f v r) from rfl]
  by_cases hk:k=f
  ·rw [if_pos hk]
   by_cases h:g=k
   ·have hb:(g==k)=true:=beq_iff_eq.mpr h;simp only [List.lookup,hb,if_pos (h.trans hk)]
   ·have hb:(g==k)=false:=beq_eq_false_iff_ne.mpr h;simp only [List.lookup,hb,if_neg (fun e:g=f=>h (e.trans hk.symm))]
  ·rw [if_neg hk]
   by_cases h:g=k
   ·have hb:(g==k)=true:=beq_iff_eq.mpr h;simp only [List.lookup,hb,if_neg (fun e:g=f=>hk (h.symm.trans e))]
   ·have hb:(g==k)=false:=beq_eq_false_iff_ne.mpr h;simp only [List.lookup,hb];exact ih
theorem K4 (f:Str) (v:V):∀fs:List (Str×V),f∈(aL f v fs).map (·.1)/\∀g,g∈fs.map (·.1)->g∈(aL f v fs).map (·.1)
 | []=>⟨by simp [aL],fun g h=>by simp at h⟩
 | (k,x)::r=>by
  obtain ⟨i1,i2⟩:=K4 f v r;rw [show aL f v ((k,x)::r)=(if k=f then (k,v)::r else (k,x)::aL f v r) from rfl]
  by_cases hk:k=f
  ·rw [if_pos hk];subst hk;exact ⟨by simp,fun g h=>by simpa using h⟩
  ·rw [if_neg hk];refine ⟨?_,fun g h=>?_⟩
   ·rw [fj];exact f_ _ i1
   ·rw [fj] at h ⊢;rcases eh.mp h with e | e
    ·exact eh.mpr (.inl e)
    ·exact f_ _ (i2 g e)
theorem Ta (f:Str) (v:V):∀fs:List (Str×V),(aL f v fs).length<=fs.length+1
 | []=>by simp [aL]
 | (k,x)::r=>by
  have ih:=Ta f v r;rw [show aL f v ((k,x)::r)=(if k=f then (k,v)::r else (k,x)::aL f v r) from rfl]
  by_cases hk:k=f
  ·rw [if_pos hk,mf,mf];exact jQ
  ·rw [if_neg hk,mf,mf];exact xP ih
theorem kf.some_of (r:kf (some v) o):∃u,o=some u/\bU v u:=by
 cases o with
 | none=>exact (show False from r).elim
 | some u=>exact ⟨u,rfl,r⟩
theorem kf.none_of (r:kf none o):o=none:=by
 cases o with
 | none=>rfl
 | some u=>exact (show False from r).elim
theorem Y9 (r:bU v u):PySem.W.handedIn u=true:=by
 cases v with
 | aR=>cases (show u=Value.none from r);rfl
 | bl b=>cases (show u=Value.bool b from r);rfl
 | int i=>obtain ⟨t,e⟩:=(show ∃t,u=Value.int i t from r);cases e;rfl
 | str x=>obtain ⟨t,e⟩:=(show ∃t,u=Value.str x t from r);cases e;rfl
 | pQ b=>obtain ⟨t,e⟩:=(show ∃t,u=Value.bytes b t from r);cases e;rfl
 | zA b=>obtain ⟨t,e⟩:=(show ∃t,u=Value.float b t from r);cases e;rfl
 | ref a=>cases (show u=Value.ref a from r);rfl
 | ty n=>cases (show u=Value.type n from r);rfl
section
variable {P:Program} {w:World} {H H':Hp} {h h':Heap} {a C dx:Addr} {fs fs':List (Str×V)}
theorem J' (af:eS P w H h) (e:H a=some (.ins C dx fs)):∃mA,yc h a dx C mA/\(∀f,kf (fs.lookup f) (mA f))/\PySem.Within mA (fs.map (·.1))/\fs.length<=1000/\H dx=some (.own a):=by obtain ⟨d,z,ne,ob,mA,n,r,q⟩:=(show eK P w H h a (.ins C dx fs) from af a _ e);exact ⟨mA,⟨ob,n,ne⟩,r,q,z,d⟩
end
structure sv (K:bE) (C:Addr):Prop where
 pg:PySem.W.plainGet K C Str.empty=true
 hd:PySem.W.hasDictIn K C=true
 po:PySem.W.plainOver K C=true
 sa:PySem.W.findIn K (.ref C) "__setattr__"=some (some (.builtin "object.__setattr__"))
theorem sv.get {C:Addr} (c:sv K C) (f:Str):PySem.W.plainGet K C f=true:=c.pg
def mM (K:bE) (C:Addr) (f:Str):Prop:=PySem.W.findIn K (.ref C) f=some none
theorem mM.Ci {C:Addr} {f:Str} (n:mM K C f):PySem.W.takerIn K C f=some none:=by unfold PySem.W.takerIn;rw [show PySem.W.findIn K (.ref C) f=some none from n];rfl
structure jH (K:bE) (C:Addr) (m:Str) (f:Addr):Prop where
 at_:PySem.W.findIn K (.ref C) m=some (some (.ref f))
 fn:PySem.W.isFn K (.ref f)=true
 kp:PySem.W.keepIn K (.ref f)=true
section
variable {X:Cx} {pins:List (Addr×Obj)} {σ:St} {H:Hp} {s:Shared} {a C dx:Addr} {fs:List (Str×V)} {f:Str} {v:V} {A:Around} {E:Value->Shared->Prop}
theorem Z8 (I:Inv X pins σ H s) (e:H a=some (.ins C dx fs)) (c:sv X.K C) (n:mM X.K C f) (l:fs.lookup f=some v)
 (h:∀u s',Inv X pins σ H s'->bU v u->Q u s'):wpAny (model X.prog X.w) A (getAttr (.ref a) f b) Q E s:=by
 obtain ⟨mA,O,r,_,_,_⟩:=J' I.af e;obtain ⟨u,hu,ru⟩:=kf.some_of (v:=v) (o:=mA f) (by rw [<-l];exact r f);exact zB2 I.gG O (c.get f) c.hd n hu (Y9 ru) (h u _ (I.tok _) ru)
theorem Sx (I:Inv X pins σ H s) (e:H a=some (.ins C dx fs)) (c:sv X.K C) (k:jH X.K C m g) (l:fs.lookup m=none)
 (h:Q (.ref g,[.ref a]) s):wpAny (model X.prog X.w) A (getMethod (.ref a) m pl) Q E s:=by
 obtain ⟨mA,O,r,_,_,_⟩:=J' I.af e;have hn:mA m=none:=kf.none_of (by rw [<-l];exact r m);exact X7 I.gG O (c.get m) k.at_ k.fn hn h
theorem Zv (I:Inv X pins σ H s) (e:H a=some (.ins C dx fs)) (c:sv X.K C) (n:mM X.K C f) (hl:fs.length<1000) (ry:bU y u)
 (h:∀s',Inv X pins σ (upd H a (.ins C dx (aL f y fs))) s'->Q () s'):wpAny (model X.prog X.w) A (setAttr (.ref a) f u) Q E s:=by
 obtain ⟨mA,O,r,wi,_,ho⟩:=J' I.af e;have hz:(fs.map (·.1)).length<=sizeLine:=by rw [aI,sizeLine_eq];omega
 refine zA5 I.gG O c.sa c.po n.Ci c.hd wi hz fun h' O' sb=>h _ ?_;have hd:∃o,h'.get? dx=some o:=let ⟨o,_,_,e',_⟩:=O'.ns;⟨o,e'⟩;refine I.write (x:=a) (e:=dx) (by rw [e];exact True.intro) (.inr ho) (fun b q hb z=>(sb.2 b hb).trans z) hd ?_;refine ⟨by rw [aj O.ne];exact ho,?_,O.ne,O'.obj,_,O'.ns,fun g=>?_,fun g hg=>?_⟩
 ·have:=Ta f y fs;exact KC hl this
 ·show kf ((aL f y fs).lookup g) (if g=f then some u else mA g);rw [mx]
  by_cases q:g=f
  ·rw [if_pos q,if_pos q];exact ry
  ·rw [if_neg q,if_neg q];exact r g
 ·by_cases q:g=f
  ·rw [q];exact (K4 f y fs).1
  ·refine (K4 f y fs).2 g (wi g fun z=>hg ?_);show (if g=f then some u else mA g)=none;rw [if_neg q];exact z
theorem Inv.made (I:Inv X pins σ H s):Inv X pins σ (upd (upd H s.heap.objs.size (.own (s.heap.objs.size+1))) (s.heap.objs.size+1) (.ins C s.heap.objs.size []))
 { s with heap:=(s.heap.push PySem.W.emptyDict).push (PySem.W.instObj C s.heap.objs.size) }:=by
 have e1:(s.heap.push PySem.W.emptyDict).get? s.heap.objs.size=some PySem.W.emptyDict:=jY s.heap rfl;have e2:((s.heap.push PySem.W.emptyDict).push (PySem.W.instObj C s.heap.objs.size)).get? (s.heap.objs.size+1)=some (PySem.W.instObj C s.heap.objs.size):=by
  have:=jY (s.heap.push PySem.W.emptyDict) (o:=PySem.W.instObj C s.heap.objs.size) rfl
  rwa [Heap.size_push] at this
 have e3:(s.heap.push PySem.W.emptyDict).Ns s.heap.objs.size (fun _=>none):=⟨PySem.W.emptyDict,#[],_,e1,rfl,(fun e he=>absurd he (by simp)),fun _=>rfl⟩;have I1:=I.laid (a:=s.heap.objs.size) (o:=.own (s.heap.objs.size+1)) (h':=s.heap.push PySem.W.emptyDict) (t':=s.toks) (fun b u q=>cR _ q) (av _) ⟨_,e1⟩;refine I1.laid (a:=s.heap.objs.size+1) (o:=.ins C s.heap.objs.size []) (t':=s.toks) (fun b u q=>cR _ q) (Nat.le_of_eq (Heap.size_push _ _)) ?_;have ne:s.heap.objs.size≠s.heap.objs.size+1:=h_ (Nat.lt_succ_self _);refine ⟨by rw [aj ne,aq],dP _,ne,e2,fun _=>none,(Heap.Ns1.of_empty e3).at fun o q=>cR _ q,fun _=>True.intro,fun y hy=>absurd rfl hy⟩
theorem zB9 (hb:attributeBase e f env (eval e env)=eval e env)
 (h:wpAny (model prog w) A (eval e env) (fun o ar=>wpAny (model prog w) A (getAttr o f true) Q E ar) E s):wpAny (model prog w) A (eval (.Attribute e f pos) env) Q E s:=
 Attribute_any_ h (by rw [arm_eval_Attribute,hb])
end
def TQ (K:bE) (ta:TE) (f:Str):TE:=fun σ H Q=>ta σ H fun x H1=>∃a C dx fs v,x=.ref a/\H1 a=some (.ins C dx fs)/\sv K C/\mM K C f/\fs.lookup f=some v/\Q v H1
def zHh (K:bE) (ta tv:TE) (f:Str):TS:=fun D σ H=>tv σ H fun y H1=>ta σ H1 fun x H2=>∃a C dx fs,x=.ref a/\H2 a=some (.ins C dx fs)/\sv K C/\mM K C f/\fs.length<1000/\
 D.nx σ (upd H2 a (.ins C dx (aL f y fs)))
section
variable {X:Cx} {o e value:Expr} {f:Str} {pos pos' tpos:Pos} {ta tv:TE}
theorem fq (he:PE X e ta) (hb:attributeBase e f X.env (eval e X.env)=eval e X.env):PE X (.Attribute e f pos) (TQ X.K ta f):=by intro pins s σ H Q I h;refine zB9 hb (ax (he pins s σ H _ I h) fun u s1 zz=>?_);obtain ⟨x,H1,I1,rx,a,C,dx,fs,v,ex,ea,c,n,l,q⟩:=zz;subst ex;obtain rfl:u=Value.ref a:=rx;exact Z8 I1 ea c n l fun u' s2 I2 ru=>⟨v,H1,I2,ru,q⟩
theorem sP (ha:PE X o ta) (hv:PE X value tv) (hs:swapsWith value (some (.Attribute o f pos')) pos.line X.env=pure false):PS X (.Assign [.Attribute o f pos'] value pos) (zHh X.K ta tv f):=by intro pins s σ H D I h;refine plainObj_wpAny_Assign_Attribute (ax (hv pins s σ H _ I h) fun u s1 zz=>L2.fi zz fun y H1 I1 ry q=>ax (ha pins s1 σ H1 _ I1 q) fun ov s2 zz=>?_) hs;obtain ⟨x,H2,I2,rx,a,C,dx,fs,ex,ea,c,n,l,q2⟩:=zz;subst ex;obtain rfl:ov=Value.ref a:=rx;exact Zv I2 ea c n l ry fun s3 I3=>⟨σ,_,I3,q2⟩
end
section
variable {X:Cx} {pins:List (Addr×Obj)} {σ:St} {H:Hp} {s:Shared} {A:Around} {E:Value->Shared->Prop} {Q:Value->Shared->Prop} {c:Value} {b:Bool}
end
structure cJ (k:Nat) (A:Around):Prop where
 hd:A.handled=none
 dp:A.depth+3*k+5<recursionLimit
 un:A.units+16*k+200<cLine
theorem cJ.mono (r:cJ k A) (h:j<=k):cJ j A:=⟨r.hd,by have:=r.dp;exact Yj this h,by have:=r.un;exact Yd this h⟩
theorem cJ.deeper (r:cJ (k+1) A) (env:Env):cJ k (A.deeper env):=
 ⟨r.hd,by have:=r.dp;show A.depth+1+3*k+5<_;exact RI this,by have:=r.un;show A.units+3+16*k+200<_;exact Yb this⟩
theorem Zk {A:Around} {C:Addr} {us:List Value} {kw:List (Str×Value)}:(A.under (.builtin "type.__call__" ⟨.ref C::us,kw⟩)).depth=A.depth+1:=by first | rfl | simp [Around.under,Code.weight,Code.isCreation,Code.isGuard,Code.isCaller,Code.frames,Code.isFrame,guardIds]
theorem Zl {A:Around} {C:Addr} {us:List Value} {kw:List (Str×Value)}:(A.under (.builtin "type.__call__" ⟨.ref C::us,kw⟩)).units=A.units+1:=by first | rfl | simp [Around.under,Code.cUnits,Code.frames,Code.isFrame]
theorem cJ.make (r:cJ (k+1) A) (C:Addr) (us:List Value) (kw:List (Str×Value)):cJ k (A.under (.builtin "type.__call__" ⟨.ref C::us,kw⟩)):=
 ⟨r.hd,by have:=r.dp;rw [Zk];exact RI this,by have:=r.un;rw [Zl];exact Yc this⟩
theorem cJ.depth (r:cJ k A):A.depth<recursionLimit:=by have:=r.dp;exact Yn this
theorem cJ.units (r:cJ k A):A.units+64<cLine:=by have:=r.un;exact Ye this
def qB:TA:=fun _ H Q=>Q [] H
def kY (ta:TE) (tr:TA):TA:=fun σ H Q=>ta σ H fun x H1=>tr σ H1 fun xs H2=>Q (x::xs) H2
section
variable {X:Cx} {e:Expr} {es:List Expr} {te:TE} {t:TA} {pos:Pos}
theorem qG:PA X [] qB:=fun _ _ _ _ H Q I h=>Calls.spliced_nil ⟨[],H,I,.nil,h⟩
theorem vP (ha:PE X e te) (hr:PA X es t) (hs:starEach (e::es) X.env=(false,eval e X.env)::starEach es X.env:=by rfl):PA X (e::es) (kY te t):=by intro pos pins s σ H Q I h;rw [hs];show wpAny _ _ (spliced ((false,eval e X.env)::backTo pos (starEach es X.env))) _ _ s;refine Calls.spliced_cons (ax (ha pins s σ H _ I h) fun u s1 zz=>?_);obtain ⟨x,H1,I1,r1,q1⟩:=zz;exact ax (hr pos pins s1 σ H1 _ I1 q1) fun us s2 zz=>L2.fi zz fun xs H2 I2 r2 q2=>⟨x::xs,H2,I2,.cons r1 r2,q2⟩
theorem dU {n:Nat} (h:Nat.ble n sizeLine=true):n<=sizeLine:=Nat.le_of_ble_eq_true h
theorem cF {X:Cx} {x:Str} {e:Expr} {te:TE} {pos pos':Pos} (i:Nat) (hN:X.N.Nodup) (he:PE X e te) (hi:X.N[i]?=some x:=by rfl) (hx:Loc X.env.scope x:=by exact Or.inl rfl) (hs:swapsWith e (some (.Name x pos')) pos.line X.env=pure false:=by rfl) (hf:X.fn x=true\/X.env.scope.names.lookup x=some .local:=by first | exact .inl rfl | exact .inr rfl | assumption):PS X (.Assign [.Name x pos'] e pos) (Cb te (xq i)):=qH (i:=i) hN hi hx he hs hf
theorem bV {X:Cx} {x:Str} {pos:Pos} (i:Nat) (hN:X.N.Nodup) (hi:X.N[i]?=some x:=by rfl) (hx:Loc X.env.scope x:=by exact Or.inl rfl) (hf:X.fn x=true\/X.env.scope.names.lookup x=some .local:=by first | exact .inl rfl | exact .inr rfl | assumption):PG X (.Name x pos) (xq i):=zBi (i:=i) hN hi hx hf
theorem bR {X:Cx} {a:Expr} {ta:TE} (ha:PE X a ta) (hs:starEach [a] X.env=(false,eval a X.env)::starEach [] X.env:=by rfl):PA X [a] (kY ta qB):=vP ha qG hs
theorem bS {X:Cx} {a b:Expr} {ta tb:TE} (ha:PE X a ta) (hb:PE X b tb) (hs:starEach [a,b] X.env=(false,eval a X.env)::starEach [b] X.env:=by rfl) (kK:starEach [b] X.env=(false,eval b X.env)::starEach [] X.env:=by rfl):PA X [a,b] (kY ta (kY tb qB)):=vP ha (bR hb kK) hs
theorem iQ {X:Cx} {a b c:Expr} {ta tb tc:TE} (ha:PE X a ta) (hb:PE X b tb) (hc:PE X c tc) (hs:starEach [a,b,c] X.env=(false,eval a X.env)::starEach [b,c] X.env:=by rfl) (kK:starEach [b,c] X.env=(false,eval b X.env)::starEach [c] X.env:=by rfl) (lQ:starEach [c] X.env=(false,eval c X.env)::starEach [] X.env:=by rfl):PA X [a,b,c] (kY ta (kY tb (kY tc qB))):=vP ha (bS hb hc kK lQ) hs
theorem nk {X:Cx} {a b c d:Expr} {ta tb tc td:TE} (ha:PE X a ta) (hb:PE X b tb) (hc:PE X c tc) (hd:PE X d td) (hs:starEach [a,b,c,d] X.env=(false,eval a X.env)::starEach [b,c,d] X.env:=by rfl) (kK:starEach [b,c,d] X.env=(false,eval b X.env)::starEach [c,d] X.env:=by rfl) (lQ:starEach [c,d] X.env=(false,eval c X.env)::starEach [d] X.env:=by rfl) (tG:starEach [d] X.env=(false,eval d X.env)::starEach [] X.env:=by rfl):PA X [a,b,c,d] (kY ta (kY tb (kY tc (kY td qB)))):=vP ha (iQ hb hc hd kK lQ tG) hs
def Le (t:TA):TE:=fun σ H Q=>t σ H fun xs H1=>xs.length<=sizeLine/\∀p,H1 p=none->Q (.ref p) (upd H1 p (.tup xs))
def zGy (t:TA):TE:=fun σ H Q=>t σ H fun xs H1=>xs.length<=sizeLine/\∀p,H1 p=none->Q (.ref p) (upd H1 p (.lst xs))
theorem eU {x1} (h:PA X es t):PE X (.Tuple es x1 pos) (Le t):=by intro pins s σ H Q I hq;refine wpAny_Tuple_spliced (ax (h pos pins s σ H _ I hq) fun us s1 zz=>?_);obtain ⟨xs,H1,I1,r,z,q⟩:=zz;refine ⟨by rw [<-r.length];exact z,?_⟩;have hf:H1 s1.heap.objs.size=none:=I1.af.fresh (av _);refine ⟨.ref s1.heap.objs.size,upd H1 s1.heap.objs.size (.tup xs),I1.laid (t':=s1.toks) (fun b u e=>cR _ e) (av _) ?_,rfl,q _ hf⟩;exact ⟨z,us,r,⟨_,jY _ rfl,rfl,_,rfl⟩⟩
theorem l9 (h:PA X es t):PE X (.List es pos) (zGy t):=by intro pins s σ H Q I hq;refine wpAny_List_spliced (ax (h pos pins s σ H _ I hq) fun us s1 zz=>?_);obtain ⟨xs,H1,I1,r,z,q⟩:=zz;refine ⟨by rw [<-r.length];exact z,?_⟩;have hf:H1 s1.heap.objs.size=none:=I1.af.fresh (av _);refine ⟨.ref s1.heap.objs.size,upd H1 s1.heap.objs.size (.lst xs),I1.laid (t':=s1.toks) (fun b u e=>cR _ e) (av _) ?_,rfl,q _ hf⟩;exact ⟨z,us,0,r,jY _ rfl⟩
end
abbrev Sp:=List V->Hp->VK->XK->Prop
abbrev pX:=List Env->Hp->Shared->XK->Value->Shared->Prop
structure t_ (P:Program) (w:World) (K:bE) (mg:Str->Option Value) (base:Heap) (A:Around) (outer:List Env) (s:Shared) (H:Hp):Prop where
 frames:A.frames=some outer
 mod:Mod K mg base
 bs:∀b o,base.get? b=some o->s.heap.get? b=some o/\H b=none
 oQ:base.objs.size<=s.heap.objs.size
 eG:s.heap.FunFrames base outer
 pM:∀b∈je outer,H b=none
 af:eS P w H s.heap
 bare:AllBare s.gens
def CE (outer:List Env) (P:Program) (w:World) (H:Hp) (s:Shared) (Q:VK) (u:Value) (s':Shared):Prop:=
 ∃v H',s'.os=s.os/\AllBare s'.gens/\Un (je outer) [] H H' s.heap s'.heap/\eS P w H' s'.heap/\bU v u/\Q v H'
def CR (CX:pX) (outer:List Env) (P:Program) (w:World) (H:Hp) (s:Shared) (Q:VK) (E:XK) (r:Result) (s':Shared):Prop:=
 match r with
 | .ok (.ret u)=>CE outer P w H s Q u s'
 | .ok _=>False
 | .error e=>CX outer H s E e s'
structure au (P:Program) (w:World) (K:bE) (mg:Str->Option Value) (base:Heap) (CX:pX) (k:Nat) (f:Addr) (fd:FuncData) (ps:List Str) (sp:Sp):Prop where
 len:∀vs H Q E,sp vs H Q E->vs.length=ps.length
 run:∀(A:Around) (outer:List Env) (s:Shared) (H:Hp) (args:Args) (us:List Value) (vs:List V) (Q:VK) (E:XK),cJ k A->t_ P w K mg base A outer s H->BindsTo s fd args (ps.zip us)->bq vs us->sp vs H Q E->
  codeAny (model P w) A (.call (.ref f) args) (CR CX outer P w H s Q E) s
theorem t_.make {A:Around} {outer:List Env} {s:Shared} {H:Hp} (e:t_ P w K mg base A outer s H) (C:Addr) (us:List Value) (kw:List (Str×Value)):
 t_ P w K mg base (A.under (.builtin "type.__call__" ⟨.ref C::us,kw⟩)) outer s H:=⟨by first | exact e.frames | (simpa [Around.under,Code.envs,Code.isFrame,pushEnvs] using e.frames),e.mod,e.bs,e.oQ,e.eG,e.pM,e.af,e.bare⟩
section
variable {X:Cx} {pins:List (Addr×Obj)} {σ:St} {H:Hp} {s s':Shared}
theorem Inv.vy (I:Inv X pins σ H s):t_ X.prog X.w X.K X.mg X.base X.A X.stack s H:=
 ⟨I.ok.frames,I.ok.mod,I.bs,dq I.ok.oQ I.sz,I.stack,I.gP,I.af,I.bare⟩
theorem Inv.after (I:Inv X pins σ H s) (h:CE X.stack X.prog X.w H s Q u s'):EP X pins σ Q u s':=by obtain ⟨v,H',os,bare,un,af,r,q⟩:=h;obtain ⟨hh,g,d,t,os'⟩:=s';obtain rfl:os'=s.os:=os;exact ⟨v,H',I.call (h':=hh) (g':=g) (d':=d) (t':=t) (ch:=[]) un af bare (fun b z=>absurd z (by simp)),r,q⟩
end
def Lq (sp:Sp) (jM:List V) (E:XK) (t:TA):TE:=fun σ H Q=>t σ H fun vs H1=>sp (vs++jM) H1 Q E
def Lr (C:Addr) (m:Str) (sp:Sp) (jM:List V) (E:XK) (ta:TE) (t:TA):TE:=fun σ H Q=>ta σ H fun x H1=>∃a dx fs,x=.ref a/\H1 a=some (.ins C dx fs)/\fs.lookup m=none/\
 t σ H1 fun vs H2=>sp (x::(vs++jM)) H2 Q E
def zEv (C:Addr) (sp:Sp) (jM:List V) (E:XK) (t:TA):TE:=fun σ H Q=>t σ H fun vs H1=>∀x dx,H1 x=none->H1 dx=none->dx≠x->
 sp (.ref x::(vs++jM)) (upd (upd H1 dx (.own x)) x (.ins C dx [])) (fun v H2=>v=.aR/\Q (.ref x) H2) E
def eT (K:bE) (fd:FuncData) (ps:List Str) (ds:List Value):Prop:=
 ∀(s:Shared) (us:List Value),K.In s.heap->(us++ds).length=ps.length->BindsTo s fd ⟨us,[]⟩ (ps.zip (us++ds))
theorem eT.all {fd:FuncData} {ps:List Str} (h:∀us:List Value,us.length=ps.length->bindArgs fd ⟨us,[]⟩=pure (ps.zip us)):eT K fd ps []:=fun s us _ hl=>by rw [List.append_nil] at hl ⊢;exact .of_eq (h us hl)
def qF (CX:pX) (X:Cx) (E:XK):Prop:=∀(pins:List (Addr×Obj)) (σ:St) (H:Hp) (s:Shared) (e:Value) (s':Shared),Inv X pins σ H s->CX X.stack H s E e s'->X.xe e s'
section
variable {X:Cx} {CX:pX} {k:Nat} {f C:Addr} {fd:FuncData} {ps:List Str} {sp:Sp} {jM:List V} {ds:List Value} {E:XK} {x m:Str} {p pos apos:Pos} {e o:Expr} {es:List Expr} {ta:TE} {t:TA}
theorem JG (F:au X.prog X.w X.K X.mg X.base CX k f fd ps sp) (hr:cJ k X.A) (hb:eT X.K fd ps ds) (hd:bq jM ds) (hx:qF CX X E)
 (I:Inv X pins σ H s) (r:bq vs us) (h:sp (vs++jM) H Q E):wpAny (model X.prog X.w) X.A (call (.ref f) us) (EP X pins σ Q) X.xe s:=by
 have r2:bq (vs++jM) (us++ds):=r.append hd;have hl:(us++ds).length=ps.length:=by rw [<-r2.length];exact F.len _ _ _ _ h
 refine wpAny_call (codeAny_mono (F.run X.A X.stack s H ⟨us,[]⟩ (us++ds) (vs++jM) Q E hr I.vy (hb s us I.gG hl) r2 h) fun r s' hq=>?_)
 cases r with
 | error e=>exact hx pins σ H s e s' I hq
 | ok fl=>
  cases fl with
  | ret u=>exact I.after hq
  | next=>exact hV hq
  | brk=>exact hV hq
  | cont=>exact hV hq
theorem B4 (F:au X.prog X.w X.K X.mg X.base CX k f fd ps sp) (hr:cJ k X.A) (hg:Gl X x) (hm:X.mg x=some (.ref f)) (hk:PySem.W.keepIn X.K (.ref f)=true) (hb:eT X.K fd ps ds) (hd:bq jM ds) (hx:qF CX X E)
 (ha:PA X (e::es) t) (lW:(x==("__debug__":Str))=false:=by decide) (he:starEach (e::es) X.env=(false,eval e X.env)::starEach es X.env:=by rfl) (eP:(backTo pos (starEach es X.env)).any (·.1)=false:=by rfl):
 PE X (.Call (.Name x p) (e::es) [] pos) (Lq sp jM E t):=by
 intro pins s σ H Q I h;refine wpAny_Call_Name_kw (xG I hg hm ?_ lW);refine DW (h₀:=X.base) I.ok.mod.wG hk (ax (ha pos pins s σ H _ I h) fun us s1 zz=>L2.fi zz fun vs H1 I1 r q=>⟨I1.gG,?_⟩) he eP;exact JG F hr hb hd hx I1 r q
theorem kj (he:PE X o ta) (c:sv X.K C) (hm:jH X.K C m f) (F:au X.prog X.w X.K X.mg X.base CX k f fd ps sp) (hr:cJ k X.A) (hb:eT X.K fd ps ds) (hd:bq jM ds) (hx:qF CX X E) (ha:PA X (e::es) t)
 (rK:starEach (e::es) X.env=(false,eval e X.env)::starEach es X.env:=by rfl) (eP:(backTo pos (starEach es X.env)).any (·.1)=false:=by rfl)
 (ht:eval (.Call (.Attribute o m apos) (e::es) [] pos) X.env=(do
  let ov <-eval o X.env
  standAt apos.atName
  let (f,first) <-holding [ov] (getMethod ov m pl)
  callWith pos f first (backTo pos (starEach (e::es) X.env)) (backToKw pos (keywordEach [] X.env))):=by rfl):
 PE X (.Call (.Attribute o m apos) (e::es) [] pos) (Lr C m sp jM E ta t):=by
 intro pins s σ H Q I h;refine PySem.W.methodCall_KW (pl:=pl) (ax (he pins s σ H _ I h) fun u s1 zz=>?_) ht;obtain ⟨x,H1,I1,rx,a,dx,fs,ex,ea,l,q⟩:=zz;subst ex;obtain rfl:u=Value.ref a:=rx;refine Sx I1 ea c hm l ?_;refine DW (first:=[.ref a]) (h₀:=X.base) I.ok.mod.wG hm.kp (ax (ha pos pins s1 σ H1 _ I1 q) fun us s2 zz=>L2.fi zz fun vs H2 I2 r q2=>⟨I2.gG,?_⟩) rK eP;exact JG (us:=.ref a::us) (vs:=.ref a::vs) F hr hb hd hx I2 (.cons rfl r) q2
theorem Ag (he:PE X o ta) (c:sv X.K C) (hm:jH X.K C m f) (F:au X.prog X.w X.K X.mg X.base CX k f fd ps sp) (hr:cJ k X.A) (hb:eT X.K fd ps ds) (hd:bq jM ds) (hx:qF CX X E)
 (ht:eval (.Call (.Attribute o m apos) [] [] pos) X.env=(do
  let ov <-eval o X.env
  standAt apos.atName
  let (f,first) <-holding [ov] (getMethod ov m pl)
  callWith pos f first (backTo pos (starEach [] X.env)) (backToKw pos (keywordEach [] X.env))):=by rfl):
 PE X (.Call (.Attribute o m apos) [] [] pos) (Lr C m sp jM E ta qB):=by
 intro pins s σ H Q I h;refine PySem.W.methodCall_KW (pl:=pl) (ax (he pins s σ H _ I h) fun u s1 zz=>?_) ht;obtain ⟨x,H1,I1,rx,a,dx,fs,ex,ea,l,q⟩:=zz;subst ex;obtain rfl:u=Value.ref a:=rx;refine Sx I1 ea c hm l ?_;exact PySem.W.callWith_K0 (first:=[.ref a]) I1.gG hm.kp (JG (us:=[.ref a]) (vs:=[.ref a]) F hr hb hd hx I1 (.cons rfl .nil) q)
structure Mk (K:bE) (C f:Addr):Prop where
 makes:PySem.W.makesIn K C=true
 init:PySem.W.findIn K (.ref C) "__init__"=some (some (.ref f))
 fn:PySem.W.isFn K (.ref f)=true
 kp:PySem.W.keepIn K (.ref C)=true
theorem X9 (M:Mk X.K C f) (F:au X.prog X.w X.K X.mg X.base CX k f fd ps sp) (hr:cJ (k+1) X.A) (hb:eT X.K fd ps ds) (hd:bq jM ds)
 (hx:qF CX X E) (I:Inv X pins σ H s) (r:bq vs us)
 (h:∀x dx,H x=none->H dx=none->dx≠x->sp (.ref x::(vs++jM)) (upd (upd H dx (.own x)) x (.ins C dx [])) (fun v H2=>v=.aR/\Q (.ref x) H2) E):
 wpAny (model X.prog X.w) X.A (call (.ref C) us) (EP X pins σ Q) X.xe s:=by
 have hq:=h (s.heap.objs.size+1) s.heap.objs.size (I.af.fresh (oS _)) (I.af.fresh (av _)) (h_ (Nat.lt_succ_self _));have I2:=Inv.made (C:=C) I;have r2:bq (V.ref (s.heap.objs.size+1)::(vs++jM)) (Value.ref (s.heap.objs.size+1)::(us++ds)):=.cons rfl (r.append hd);have hl:(Value.ref (s.heap.objs.size+1)::us++ds).length=ps.length:=by have e:=r2.length;rw [F.len _ _ _ _ hq] at e;exact e.symm
 refine wpAny_call (Xm (f:=f) I.gG M.makes M.init (beq_iff_eq.mp M.fn) (codeAny_mono (F.run _ X.stack _ _ ⟨Value.ref (s.heap.objs.size+1)::us,[]⟩ (Value.ref (s.heap.objs.size+1)::(us++ds)) _ _ E (hr.make C us [])
  (I2.vy.make C us []) (hb _ (Value.ref (s.heap.objs.size+1)::us) I2.gG hl) r2 hq) fun r s' jy=>?_))
 cases r with
 | error e=>exact hx pins σ _ _ e s' I2 jy
 | ok fl=>
  cases fl with
  | ret u=>
   obtain ⟨v,H',I3,rv,ev,q3⟩:=I2.after jy;subst ev;exact ⟨rv,⟨V.ref (s.heap.objs.size+1),H',I3,rfl,q3⟩⟩
  | next=>exact hV jy
  | brk=>exact hV jy
  | cont=>exact hV jy
theorem JT (M:Mk X.K C f) (F:au X.prog X.w X.K X.mg X.base CX k f fd ps sp) (hr:cJ (k+1) X.A) (hg:Gl X x) (hm:X.mg x=some (.ref C)) (hb:eT X.K fd ps ds) (hd:bq jM ds) (hx:qF CX X E)
 (ha:PA X (e::es) t) (lW:(x==("__debug__":Str))=false:=by decide) (he:starEach (e::es) X.env=(false,eval e X.env)::starEach es X.env:=by rfl) (eP:(backTo pos (starEach es X.env)).any (·.1)=false:=by rfl):
 PE X (.Call (.Name x p) (e::es) [] pos) (zEv C sp jM E t):=by
 intro pins s σ H Q I h;refine wpAny_Call_Name_kw (xG I hg hm ?_ lW);refine DW (h₀:=X.base) I.ok.mod.wG M.kp (ax (ha pos pins s σ H _ I h) fun us s1 zz=>L2.fi zz fun vs H1 I1 r q=>⟨I1.gG,?_⟩) he eP;exact X9 M F hr hb hd hx I1 r q
end
section
variable {X:Cx} {CX:pX} {k:Nat} {f C:Addr} {fd:FuncData} {ps ks:List Str} {sp:Sp} {E:XK} {x m:Str} {p pos apos kpos:Pos} {e o:Expr} {es:List Expr} {kws:List Keyword} {te ta:TE} {t tk:TA} {nm:Option Str}
variable {g:List Value->List Value->List Value} {gV:List V->List V->List V}
end
structure cC (N P:List Str) (sc:Scope):Prop where
 kind:sc.kind=.function
 co:sc.isCoroutine=false
 gen:sc.isGenerator=false
 nd:N.Nodup
 pre:N.take P.length=P
 par:∀x∈P,sc.names.lookup x=some .local\/sc.names.lookup x=some .cell
 jw:∀y∈sc.names,y.2≠.free
theorem de {N P:List Str} {sc:Scope} (h1:sc.kind=.function:=by rfl) (h2:sc.isCoroutine=false:=by rfl) (h3:sc.isGenerator=false:=by rfl) (h4:N.Nodup:=by decide+kernel) (h5:N.take P.length=P:=by rfl) (h6:∀x∈P,sc.names.lookup x=some .local\/sc.names.lookup x=some .cell:=by decide+kernel) (h7:∀y∈sc.names,y.2≠.free:=by decide+kernel):cC N P sc:=⟨h1,h2,h3,h4,h5,h6,h7⟩
theorem Rt {kindOf:Str->Option NameKind} {x:Str}:∀{binds:List (Str×Value)} {m:Str->Option Value},(∀v,(x,v)∉binds)->bindL kindOf binds m x=m x
 | [],_,_=>rfl
 | (n,v)::r,m,h=>by
  unfold bindL;rw [Rt fun w hw=>h w (f_ _ hw)];split
  ·have:x≠n:=by rintro rfl;exact h v dN
   simp [this]
  ·rfl
theorem Rq {kindOf:Str->Option NameKind} {x:Str}:∀{binds:List (Str×Value)} {m:Str->Option Value},(∀v,(x,v)∉binds)->bindC kindOf binds m x=m x
 | [],_,_=>rfl
 | (n,v)::r,m,h=>by
  unfold bindC;rw [Rq fun w hw=>h w (f_ _ hw)];split
  ·rfl
  ·have:x≠n:=by rintro rfl;exact h v dN
   simp [this]
theorem Rr {kindOf:Str->Option NameKind} {x:Str} {v:Value}:∀{P:List Str} {vs:List Value} {i:Nat} {m:Str->Option Value},P.Nodup->P[i]?=some x->vs[i]?=some v->kindOf x=some .local->
 bindL kindOf (P.zip vs) m x=some v
 | [],_,_,_,_,h,_,_=>by simp at h
 | _::_,[],_,_,_,_,h,_=>by simp at h
 | p::P,w::vs,0,m,nd,h1,h2,hk=>by simp at h1 h2;subst h1;subst h2;show bindL kindOf ((p,w)::P.zip vs) m p=_;unfold bindL;rw [Rt fun v hv=>(List.nodup_cons.mp nd).1 (List.of_mem_zip hv).1,if_pos hk];simp
 | p::P,w::vs,i+1,m,nd,h1,h2,hk=>by show bindL kindOf ((p,w)::P.zip vs) m x=_;unfold bindL;exact Rr (i:=i) (List.nodup_cons.mp nd).2 (by simpa using h1) (by simpa using h2) hk
theorem Rp {kindOf:Str->Option NameKind} {x:Str} {v:Value}:∀{P:List Str} {vs:List Value} {i:Nat} {m:Str->Option Value},P.Nodup->P[i]?=some x->vs[i]?=some v->kindOf x≠some .local->
 bindC kindOf (P.zip vs) m x=some v
 | [],_,_,_,_,h,_,_=>by simp at h
 | _::_,[],_,_,_,_,h,_=>by simp at h
 | p::P,w::vs,0,m,nd,h1,h2,hk=>by simp at h1 h2;subst h1;subst h2;show bindC kindOf ((p,w)::P.zip vs) m p=_;unfold bindC;rw [Rq fun v hv=>(List.nodup_cons.mp nd).1 (List.of_mem_zip hv).1,if_neg hk];simp
 | p::P,w::vs,i+1,m,nd,h1,h2,hk=>by show bindC kindOf ((p,w)::P.zip vs) m x=_;unfold bindC;exact Rp (i:=i) (List.nodup_cons.mp nd).2 (by simpa using h1) (by simpa using h2) hk
def jA (N:List Str) (vs:List V):St:=vs.map some++List.replicate (N.length-vs.length) none
def mH (CX:pX) (P:Program) (w:World) (K:bE) (mg:Str->Option Value) (base:Heap) (N:List Str) (qual:Str) (scope:Scope) (f:Addr) (cd:Value) (A:Around) (outer:List Env) (s:Shared) (H:Hp) (E:XK):Cx where
 prog:=P
 w:=w
 K:=K
 mg:=mg
 base:=base
 A:=A.deeper (envOfC qual scope s.heap.objs.size f cd)
 N:=N
 bX:=s
 gb:=H
 env:=envOfC qual scope s.heap.objs.size f cd
 outer:=outer
 stack:=envOfC qual scope s.heap.objs.size f cd::outer
 ex:=[]
 calm:=true
 fn:=fun _=>true
 pn:=[]
 xe:=fun e s'=>wpAny (model P w) (A.deeper (envOfC qual scope s.heap.objs.size f cd)) (leaving (envOfC qual scope s.heap.objs.size f cd) e) (fun _ qS=>CX outer H s E e qS) (fun e' qS=>CX outer H s E e' qS) s'
theorem QG {sc:Scope} {n:Nat} {x:Str} (h:sc.names.lookup x=some .cell):∃c,(cellsFrom n sc.names []).lookup x=some c:=by have q:=PySem.W.cellsFrom_some sc.names n [] (.inl h);exact Option.isSome_iff_exists.mp q
theorem YB {CX:pX} {N ps:List Str} {qual:Str} {scope:Scope} {f:Addr} {cd:Value} {A:Around} {outer:List Env} {s s1:Shared} {H:Hp} {E:XK} {us:List Value} {vs:List V}
 (S:cC N ps scope) (hd:A.handled=none) (e0:t_ P w K mg base A outer s H) (hl:vs.length=ps.length) (r:bq vs us)
 (x:InCallC s s.heap.objs.size (bindL (envOfC qual scope s.heap.objs.size f cd).kindOf (ps.zip us) fun _=>none) (cellsFrom (s.heap.objs.size+1) scope.names []) (bindC (envOfC qual scope s.heap.objs.size f cd).kindOf (ps.zip us) fun _=>none) s1):
 Inv (mH CX P w K mg base N qual scope f cd A outer s H E) [] (jA N vs) H s1:=by
 have eP:ps.length<=N.length:=by have:=congrArg List.length S.pre;rw [jX] at this;exact Yp this
 obtain ⟨h1,tk,rfl,hk⟩:=x.done;have yJ:∀b:Addr,b∉(mH CX P w K mg base N qual scope f cd A outer s H E).ex:=fun b z=>absurd (show b∈([]:List Addr) from z) (by simp);refine ⟨⟨e0.mod,S.kind,rfl,rfl,av _,fun y z c h1 h2=>?_,fun y hy=>?_,fun y c _ h=>?_,fun _=>hd,Around.frames_deeper e0.frames,.inr ⟨rfl,rfl⟩,fun b z=>absurd z (yJ b),e0.bs,e0.oQ,fun b _ _=>yJ b,fun b z=>absurd z (yJ b),e0.eG,e0.pM⟩,
  rfl,e0.bare,Un.kept hk,⟨_,x.toInCall.ns,fun i y v h1 h2 h3=>?_⟩,fun y c h=>⟨_,x.cell y c h⟩,e0.af.fresh (av _),fun y c h=>?_,fun p hp=>absurd (show p∈([]:List (Addr×Obj)) from hp) (by simp),e0.af.kept hk,?_⟩
 ·exact name_of_addr x.apart (xc h1) (xc h2)
 ·have hy:scope.names.lookup y=some .cell\/scope.names.lookup y=some .free:=hy;rcases hy with hy | hy
  ·exact QG hy
  ·exact absurd rfl (S.jw _ (xc hy))
 ·exact aS (x.above y c (xc h))
 ·have hi:i<vs.length:=by
   unfold jA at h2
   by_cases hi:i<vs.length
   ·exact hi
   ·rw [mC (by simpa using hi)] at h2;rw [List.getElem?_replicate] at h2;split at h2<;>cases h2
  have ha:vs[i]?=some v:=by
   unfold jA at h2;rw [me (by simpa using hi),fG] at h2
   cases e:vs[i]? with
   | none=>rw [e] at h2;cases h2
   | some a=>rw [e] at h2;cases h2;rfl
  obtain ⟨u,hu,rv⟩:=r.get ha;have hp:ps[i]?=some y:=by rw [<-S.pre,List.getElem?_take_of_lt (Yl hi hl)];exact h1
  have V0:ps.Nodup:=by rw [<-S.pre];exact S.nd.sublist (List.take_sublist _ _)
  refine ⟨u,rv,?_⟩;rcases S.par y (gK hp) with k | k
  ·exact .inl ⟨k,Rr V0 hp hu k⟩
  ·obtain ⟨c,e⟩:=QG (n:=s.heap.objs.size+1) k;refine .inr ⟨.inl k,c,e,?_⟩;have q:=x.cell y c e;rw [Rp V0 hp hu (by show scope.names.lookup y≠_;rw [k];decide)] at q;exact q
 ·exact e0.af.fresh (aS (x.above y c (xc h)))
 ·unfold jA;show _=N.length;rw [iT,aI,List.length_replicate];exact Ym hl eP
theorem Lp {CX:pX} {k:Nat} {f:Addr} {name qual:Str} {params:Arguments} {body:List Stmt} {scope:Scope} {dV kV doc pm df ct oc:Value} {an od:Option Addr}
 {o9:Array (Option Value)} {N ps:List Str} {sp:Sp} (lk:K.lookup f=some ⟨oc,od,.func (PySem.W.fnOf name qual params body scope dV kV doc pm an df ct),o9⟩) (jD:PySem.W.codeIn K df qual=true) (S:cC N ps scope)
 (len:∀vs H Q E,sp vs H Q E->vs.length=ps.length)
 (dJ:∀(A:Around) (outer:List Env) (s:Shared) (H:Hp) (vs:List V) (Q:VK) (E:XK),cJ k (A.deeper (envOfC qual scope s.heap.objs.size f df))->sp vs H Q E->
  ∃t,gB (mH CX P w K mg base N qual scope f df A outer s H E) body t/\t { nx:=fun _ H'=>Q .aR H',rt:=Q } (jA N vs) H):
 au P w K mg base CX (k+1) f (PySem.W.fnOf name qual params body scope dV kV doc pm an df ct) ps sp:=by
 refine ⟨len,fun A outer s H args us vs Q E hr e0 hb r my=>?_⟩;have hl:=len _ _ _ _ my;have KX:K.In s.heap:=e0.mod.wG.keeps fun b o e=>(e0.bs b o e).1;have lim:s.heap.NoLimit:=e0.mod.nolimit.keeps fun b o e=>(e0.bs b o e).1;have lU:∀y∈ps.zip us,scope.names.lookup y.1=some .local\/(scope.names.lookup y.1=some .cell/\((cellsFrom (s.heap.objs.size+1) scope.names []).lookup y.1).isSome=true):=fun ⟨n,v⟩ hy=>by
  rcases S.par n (List.of_mem_zip hy).1 with q | q
  ·exact .inl q
  ·exact .inr ⟨q,PySem.W.cellsFrom_some _ _ _ (.inl q)⟩
 refine codeAny_call_function hr.depth (KX _ _ lk) rfl S.co S.gen rfl (PySem.W.codeRec_of KX jD) (hb _ _ _ _ ?_);refine wpAny_newFunctionEnv_cells S.kind lU fun env he s1 x=>?_;subst he;refine ⟨lim.keeps x.toInCall.keep,codeAny_func ?_⟩;obtain ⟨t,ht,hq⟩:=dJ A outer s H vs Q E (hr.deeper _) my;have I:Inv (mH CX P w K mg base N qual scope f df A outer s H E) [] (jA N vs) H s1:=YB S hr.hd e0 hl r x;refine wpAny_mono (ht [] s1 (jA N vs) H _ I hq) (fun fl s' hs=>?_) fun e s' hs=>hs;have fin:∀{ae:St} {H':Hp} {v:V} {u:Value},Inv (mH CX P w K mg base N qual scope f df A outer s H E) [] ae H' s'->bU v u->Q v H'->CE outer P w H s Q u s':=
  fun {ae H' v u} J rv q=>⟨v,H',J.os,J.bare,J.base,J.af,rv,q⟩
 cases fl with
 | ret u=>
  obtain ⟨v,ae,H',J,rv,q⟩:=hs;exact fin J rv q
 | next=>
  obtain ⟨ae,H',J,q⟩:=hs;exact fin (v:=V.aR) (u:=Value.none) J rfl q
 | brk=>
  obtain ⟨_,_,_,q⟩:=hs;exact hV q
 | cont=>
  obtain ⟨_,_,_,q⟩:=hs;exact hV q
section
variable {X:Cx} {x:Str} {p pos:Pos} {e:Expr} {es:List Expr} {t:TA} {id T:String} {r:List V->Hp->VK->Prop}
def Vg (r:List V->Hp->VK->Prop) (t:TA):TE:=fun σ H Q=>t σ H fun vs H1=>r vs H1 Q
theorem lB (hc:ug X (.builtin id) r) (hg:Gl X x) (hm:X.mg x=none) (hv:bootBuiltins x=some (.builtin id)) (ha:PA X (e::es) t) (hn:x≠"__name__":=by decide) (lW:(x==("__debug__":Str))=false:=by decide)
 (he:starEach (e::es) X.env=(false,eval e X.env)::starEach es X.env:=by rfl) (eP:(backTo pos (starEach es X.env)).any (·.1)=false:=by rfl):PE X (.Call (.Name x p) (e::es) [] pos) (Vg r t):=by
 intro pins s σ H Q I h;refine wpAny_Call_Name_kw (xu I hg hm hv ?_ hn lW);exact PyProof.Rows.callWith_builtin1 (ax (ha pos pins s σ H _ I h) fun us s1 zz=>L2.fi zz fun vs H1 I1 r1 q1=>hc pins s1 σ H1 vs us Q I1 r1 q1) he eP
theorem vZ (hc:ug X (.type T) r) (hg:Gl X x) (hm:X.mg x=none) (hv:bootBuiltins x=some (.type T)) (ha:PA X (e::es) t) (hn:x≠"__name__":=by decide) (lW:(x==("__debug__":Str))=false:=by decide)
 (he:starEach (e::es) X.env=(false,eval e X.env)::starEach es X.env:=by rfl) (eP:(backTo pos (starEach es X.env)).any (·.1)=false:=by rfl):PE X (.Call (.Name x p) (e::es) [] pos) (Vg r t):=by
 intro pins s σ H Q I h;refine wpAny_Call_Name_kw (xu I hg hm hv ?_ hn lW);exact PyProof.Rows.callWith_type1 (ax (ha pos pins s σ H _ I h) fun us s1 zz=>L2.fi zz fun vs H1 I1 r1 q1=>hc pins s1 σ H1 vs us Q I1 r1 q1) he eP
end
end L2
namespace HT
open PySem PyProof.Rows
section
open PySem.SeqAt
open PySem.AutoSeq1 (wpAny_loadPart')
open PySem.MeetsSeq PySem.MeetsSeq2 PySem.MeetsSeq3
end
section
variable {prog:Program} {w:World} {A:Around} {E:Value->Shared->Prop} {s:Shared}
def cv (n d:Nat):Option Int->Nat
 | none=>d
 | some v=>if v<0 then (v+(n:Int)).toNat else min v.toNat n
theorem jv (n d:Nat):cv n d none=d:=rfl
theorem gS (n d k:Nat):cv n d (some (k:Int))=min k n:=by show (if (k:Int)<0 then ((k:Int)+(n:Int)).toNat else min (k:Int).toNat n)=min k n;rw [if_neg Yo,hX]
theorem zDi (n d:Nat) (hd:d<=n) (o:Option Int):cv n d o<=n:=by
 cases o with
 | none=>exact hd
 | some v=>
  show (if v<0 then (v+(n:Int)).toNat else min v.toNat n)<=n
  by_cases hv:v<0
  ·rw [if_pos hv];omega
  ·rw [if_neg hv];exact Nat.min_le_right _ _
theorem PH (v:Int) (n d:Nat):(if v<0 then max (v+(n:Int)) 0 else min v (n:Int))=((cv n d (some v):Nat):Int):=by
 show (if v<0 then max (v+(n:Int)) 0 else min v (n:Int))=(((if v<0 then (v+(n:Int)).toNat else min v.toNat n):Nat):Int)
 by_cases hv:v<0
 ·simp only [if_pos hv];omega
 ·simp only [if_neg hv];omega
theorem Z3 (lo hi:Option Int) (n:Nat):Builtin.Slice.sliceAdjust lo hi 1 (n:Int)=(((cv n 0 lo:Nat):Int),((cv n n hi:Nat):Int)):=by
 have h1:¬((1:Int)<0):=by omega
 unfold Builtin.Slice.sliceAdjust;simp only [h1,if_false];refine Prod.ext ?_ ?_
 ·cases lo with
  | none=>rfl
  | some v=>exact PH v n 0
 ·cases hi with
  | none=>rfl
  | some v=>exact PH v n n
theorem Zq (i j:Nat):Builtin.Slice.slicePlaces (i:Int) (j:Int) 1=j-i:=by
 unfold Builtin.Slice.slicePlaces;have h1:(1:Int)>0:=by omega
 simp only [h1,if_true,Int.ediv_one];split<;>omega
theorem S8 (p:IsPart v o) (h:Q o s):wpAny (model prog w) A (Builtin.Slice.slicePartIndex v) Q E s:=by
 cases p with
 | none=>exact slicePart_none h
 | int i t=>exact slicePart_int h
theorem zi6 {sl:Addr} {vl vu:Value} {lo hi:Option Int} {n:Nat} {Q:Int×Int×Nat->Shared->Prop} (hs:s.heap.IsSliceOf sl vl vu .none) (pl:IsPart vl lo) (pu:IsPart vu hi)
 (h:Q (((cv n 0 lo:Nat):Int),1,cv n n hi-cv n 0 lo) s):wpAny (model prog w) A (Builtin.Slice.sliceApplied (.ref sl) (pure (n:Int))) Q E s:=by
 obtain ⟨os,CQ,V_,Iz⟩:=id hs;unfold Builtin.Slice.sliceApplied Builtin.Slice.sliceFields;refine ah (ah (wpAny_field CQ Iz (x:=vl) rfl (ah (wpAny_field CQ Iz (x:=vu) rfl (ah (wpAny_field CQ Iz (x:=.none) rfl (aW ?_)))))));refine ah (slicePart_none ?_);show wpAny _ _ (if ((1:Int)==0)=true then _ else _) _ _ s;rw [if_neg (by decide)];refine ah (S8 pl (ah (S8 pu (ah (aW ?_)))));show wpAny _ _ (match Builtin.Slice.sliceAdjust lo hi 1 (n:Int) with | (lo,hi)=>pure (lo,(1:Int),Builtin.Slice.slicePlaces lo hi 1)) _ _ s;rw [Z3 lo hi n];show wpAny _ _ (pure (((cv n 0 lo:Nat):Int),(1:Int),Builtin.Slice.slicePlaces ((cv n 0 lo:Nat):Int) ((cv n n hi:Nat):Int) 1)) _ _ s;rw [Zq];exact aW h
theorem X2 (xs:Array Value) (i k:Nat):((List.range k).filterMap fun (m:Nat)=>xs[((i:Int)+(m:Int)*1).toNat]?).toArray=((xs.toList.drop i).take k).toArray:=by
 have e:(fun (m:Nat)=>xs[((i:Int)+(m:Int)*1).toNat]?)=fun m=>xs[i+m]?:=by
  funext m
  have:((i:Int)+(m:Int)*1).toNat=i+m:=by omega
  rw [this]
 rw [e];have:=pick_run xs i k;rw [List.filterMap_map] at this;have e2:((fun x=>xs[x]?) ∘ fun x=>i+x)=fun m=>xs[i+m]?:=rfl;rw [e2] at this;rw [this]
theorem gX {t sl:Addr} {items:Array Value} {vl vu:Value} {lo hi:Option Int} {Q:Value->Shared->Prop} (ht:IsTup s.heap t items) (hs:s.heap.IsSliceOf sl vl vu .none) (pl:IsPart vl lo) (pu:IsPart vu hi)
 (hw:¬(cv items.size 0 lo=0/\cv items.size items.size hi=items.size))
 (h:Q (.ref s.heap.objs.size) { s with heap:=s.heap.push { cls:=.type "tuple",data:=.seq ((items.toList.drop (cv items.size 0 lo)).take (cv items.size items.size hi-cv items.size 0 lo)).toArray } })
 (hsz:items.size<=sizeLine):wpAny (model prog w) A (getItem (.ref t) (.ref sl)) Q E s:=by
 have oC:sizeOk (.seq ((items.toList.drop (cv items.size 0 lo)).take (cv items.size items.size hi-cv items.size 0 lo)).toArray):=by show ((items.toList.drop (cv items.size 0 lo)).take (cv items.size items.size hi-cv items.size 0 lo)).toArray.size<=sizeLine;rw [iU,jX,OO,sr];omega
 have hj:cv items.size items.size hi<=items.size:=zDi _ _ (av _) hi;obtain ⟨os,CQ,V_,Iz⟩:=id hs;have hTs:s.TypeIs (.ref sl) "slice":=⟨os,CQ,V_⟩;unfold getItem
 try with_reducible refine wpAny_holding ?_
 first | refine ah (aW ?_) | skip
 refine ah (wpAny_sequenceKey ht.typeIs (by decide) ?_);refine ah (wpAny_callSpecial?_slot (name:=Str.ofString "__getitem__") ht.typeIs PyProof.Rows.slot_tuple_getitem
  (wpAny_call_entry PyProof.Rows.slot_tuple_getitem ht.typeIs entry_tuple_getitem ?_ (args_tuple_getitem _ _)))
 show wpAny _ _ (Builtin.Tuple.tupleItemsOf (.ref t)>>=_) _ _ s;refine ah (tupleItemsOf_ ht ?_);refine ah (wpAny_typeOf hTs ?_);rw [if_pos (by decide)];refine ah (zi6 hs pl pu ?_);have kM:¬((((cv items.size 0 lo:Nat):Int)==0 && (1:Int)==1 && (cv items.size items.size hi-cv items.size 0 lo)==items.size)=true):=by intro q;rw [sj,sj] at q;have q1:((cv items.size 0 lo:Nat):Int)=0:=eq_of_beq q.1.1;have q2:cv items.size items.size hi-cv items.size 0 lo=items.size:=eq_of_beq q.2;exact hw ⟨by omega,by omega⟩
 show wpAny _ _ (if (((cv items.size 0 lo:Nat):Int)==0 && (1:Int)==1 && (cv items.size items.size hi-cv items.size 0 lo)==items.size)=true then _ else _) _ _ s;rw [if_neg kM,X2]
 first
  | exact ah (m:=Builtin.Tuple.tupleExact _) (wpAny_newObj_type (aW ⟨_,rfl,aW h⟩) oC)
  | exact ah (m:=Builtin.Tuple.tupleExact _) (wpAny_newObj_type (ah (aW (aW ⟨_,rfl,aW h⟩))) oC)
  | exact ah (ah (m:=Builtin.Tuple.tupleExact _) (wpAny_newObj_type (aW (aW ⟨_,rfl,aW h⟩)) oC))
  | exact ah (ah (m:=Builtin.Tuple.tupleExact _) (wpAny_newObj_type (aW ⟨_,rfl,aW h⟩) oC))
end
end HT
open HT (cv jv gS)
namespace L2
open PySem PySem.Spec PyProof.Rows
abbrev TO:=St->Hp->(Option Int->Hp->Prop)->Prop
def PO (X:Cx) (e:Option Expr) (t:TO):Prop:=
 ∀(pins:List (Addr×Obj)) (s:Shared) (σ:St) (H:Hp) (Q:Option Int->Hp->Prop),Inv X pins σ H s->t σ H Q->
  wpAny (model X.prog X.w) X.A (evalPart e X.env) (fun u s'=>∃o H',Inv X pins σ H' s'/\IsPart u o/\Q o H') X.xe s
def zAu:TO:=fun _ H Q=>Q none H
def zEs (t:TE):TO:=fun σ H Q=>t σ H fun x H1=>∃i,x=.int i/\Q (some i) H1
section
variable {X:Cx} {e:Expr} {te:TE} {lo hi:Option Expr} {tl th:TO} {pos p2:Pos}
theorem B7:PO X none zAu:=by intro pins s σ H Q I h;rw [evalPart_none];exact aW ⟨none,H,I,.none,h⟩
theorem B8 (h:PE X e te):PO X (some e) (zEs te):=by intro pins s σ H Q I hw;rw [evalPart_some];refine ax (h pins s σ H _ I hw) fun u s1 zz=>?_;obtain ⟨x,H1,I1,r1,q1⟩:=zz;obtain ⟨i,rfl,q⟩:=q1;obtain ⟨t,rfl⟩:=r1;exact ⟨some i,H1,I1,.int i t,q⟩
def IL (X:Cx) (r:V->Option Int->Option Int->Hp->VK->Prop):Prop:=
 ∀(pins:List (Addr×Obj)) (s:Shared) (σ:St) (H:Hp) (x:V) (v vl vu:Value) (lo hi:Option Int) (sl:Addr) (Q:VK),Inv X pins σ H s->bU x v->s.heap.IsSliceOf sl vl vu .none->IsPart vl lo->IsPart vu hi->r x lo hi H Q->
  ∃T id,typeLookup (.type T) "__getitem__"=pure (some (.builtin id))/\s.TypeIs v T/\wpAny (model X.prog X.w) X.A (getItem v (.ref sl)) (EP X pins σ Q) X.xe s
def tSl (r:V->Option Int->Option Int->Hp->VK->Prop) (te:TE) (tl th:TO):TE:=fun σ H Q=>te σ H fun x H1=>tl σ H1 fun l H2=>th σ H2 fun u H3=>r x l u H3 Q
theorem BE (hr:IL X r) (he:PE X e te) (hl:PO X lo tl) (hu:PO X hi th):PE X (.Subscript e (.Slice lo hi none p2) pos) (tSl r te tl th):=by intro pins s σ H Q I h;refine Subscript_ (ax (he pins s σ H _ I h) fun v s1 zz=>?_);obtain ⟨x,H1,I1,r1,q1⟩:=zz;refine wpAny_Slice (ax (hl pins s1 σ H1 _ I1 q1) fun vl s2 zz=>L2.fi zz fun l H2 I2 pl q2=>ax (hu pins s2 σ H2 _ I2 q2) fun vu s3 zz=>?_);obtain ⟨u,H3,I3,pu,q3⟩:=zz;rw [evalPart_none];refine aW ?_;have I4:Inv X pins σ H3 { s3 with heap:=s3.heap.push { cls:=.type "slice",data:=.fields #[vl,vu,.none] } }:=I3.kept (t':=s3.toks) fun b ob q=>cR _ q;obtain ⟨T,id,hT,ht,hg⟩:=hr pins { s3 with heap:=s3.heap.push { cls:=.type "slice",data:=.fields #[vl,vu,.none] } } σ H3 x v vl vu l u s3.heap.objs.size Q I4 r1 (Heap.IsSliceOf.new ..) pl pu q3;show wpAny (model X.prog X.w) X.A (subscriptTail e (.Slice lo hi none p2) v (.ref s3.heap.objs.size)) (EP X pins σ Q) X.xe { s3 with heap:=s3.heap.push { cls:=.type "slice",data:=.fields #[vl,vu,.none] } };exact tail_any (ops:=[.ref s3.heap.objs.size,v]) ht hT hg (by with_unfolding_all rfl)
def oX (xs:List V) (lo hi:Option Int):List V:=(xs.drop (cv xs.length 0 lo)).take (cv xs.length xs.length hi-cv xs.length 0 lo)
theorem SX (xs:List V) (lo hi:Option Int):(oX xs lo hi).length<=xs.length:=by unfold oX;rw [jX,OO];omega
def zHi (K:bE):V->Option Int->Option Int->Hp->VK->Prop:=fun x lo hi H Q=>∃a xs,x=.ref a/\dm K H a xs/\
 ¬(cv xs.length 0 lo=0/\cv xs.length xs.length hi=xs.length)/\∀p,H p=none->Q (.ref p) (upd H p (.tup (oX xs lo hi)))
theorem Fh:IL X (zHi X.K):=by
 intro pins s σ H x v vl vu lo hi sl Q I rx hs pl pu h;obtain ⟨a,xs,rfl,hx,hw,q⟩:=h;cases rx;obtain ⟨its,r,ht,hz⟩:=I.tuple hx;have hlen:its.toArray.size=xs.length:=by rw [iU];exact r.length.symm
 refine ⟨"tuple",_,PyProof.Rows.slot_tuple_getitem.lookup,ht.typeIs,?_⟩;refine HT.gX ht hs pl pu (by rw [hlen];exact hw) ?_ (by rw [hlen];exact hz);rw [hlen];refine ⟨.ref s.heap.objs.size,_,I.laid (t':=s.toks) (o:=.tup (oX xs lo hi)) (fun b ob q=>cR _ q) (av _) ?_,rfl,q _ (I.af.fresh (av _))⟩;exact ⟨dq (SX xs lo hi) hz,_,(r.drop (cv xs.length 0 lo)).take (cv xs.length xs.length hi-cv xs.length 0 lo),IsTup.new _ _⟩
end
def qm (n:Nat) (i:Int):Option Nat:=if 0<=i then (if i<n then some i.toNat else none) else if-(n:Int)<=i then some (i+n).toNat else none
def jf {α:Type} (xs:List α) (i:Int):Option α:=(qm xs.length i).bind fun j=>xs[j]?
theorem PD (h:qm n i=some j):seqIndex? i n=some j/\j<n/\-(n:Int)<=i/\i<n:=by
 unfold qm at h
 by_cases h0:0<=i
 ·rw [if_pos h0] at h
  by_cases h1:i<n
  ·rw [if_pos h1] at h;have e:i.toNat=j:=dM h;exact ⟨by rw [seqIndex_of h0 h1,e],by omega,by omega,h1⟩
  ·rw [if_neg h1] at h;cases h
 ·rw [if_neg h0] at h
  by_cases h1: -(n:Int)<=i
  ·rw [if_pos h1] at h;have e:(i+n).toNat=j:=dM h;exact ⟨by rw [seqIndex_neg (vY h0) h1,e],by omega,h1,by omega⟩
  ·rw [if_neg h1] at h;cases h
theorem P0 (h:jf xs i=some v):∃j,seqIndex? i xs.length=some j/\xs[j]?=some v/\j<xs.length/\-(xs.length:Int)<=i/\i<xs.length:=by
 unfold jf at h
 cases e:qm xs.length i with
 | none=>rw [e] at h;cases h
 | some j=>
  rw [e] at h;obtain ⟨h1,h2,h3,h4⟩:=PD e;exact ⟨j,h1,h,h2,h3,h4⟩
theorem lg {α:Type} {xs:List α} {j:Nat} {v:α} (h:xs[j]?=some v):jf xs (j:Int)=some v:=by
 have hj:j<xs.length:=(gu.mp h).1;have e:qm xs.length (j:Int)=some j:=by unfold qm;rw [if_pos (by omega),if_pos (BO hj)];simp
 unfold jf;rw [e];exact h
theorem Xd (xs:List α) (v:α):jf (xs++[v]) (-1)=some v:=by
 have hl:(xs++[v]).length=xs.length+1:=by simp
 have e:qm (xs++[v]).length (-1)=some xs.length:=by unfold qm;rw [hl,if_neg (by decide),if_pos (by omega)];congr 1;omega
 unfold jf;rw [e];show (xs++[v])[xs.length]?=some v;simp
def zCf (b:Expr):Prop:=∀o i,subscripted b false o i=operate [o,i] (getItem o i)
def zO (X:Cx) (r:R2):Prop:=
 ∀(value slice:Expr) (pins:List (Addr×Obj)) (s:Shared) (σ:St) (H:Hp) (x y:V) (v u:Value) (Q:VK),Inv X pins σ H s->bU x v->bU y u->r x y H Q->
  subscripted slice false v u=operate [v,u] (getItem v u)->wpAny (model X.prog X.w) X.A (subscriptTail value slice v u) (EP X pins σ Q) X.xe s
def MtR (X:Cx) (id:String) (r:V->List V->Hp->VK->Prop):Prop:=
 ∀(pins:List (Addr×Obj)) (s:Shared) (σ:St) (H:Hp) (x:V) (xs:List V) (v:Value) (us:List Value) (Q:VK),Inv X pins σ H s->bU x v->bq xs us->r x xs H Q->
  wpAny (model X.prog X.w) X.A (call (.builtin id) (v::us)) (EP X pins σ Q) X.xe s
section
variable {X:Cx} {a b:Expr} {ta tb:TE} {pos:Pos}
theorem cY (hr:zO X r) (ha:PE X a ta) (hb:PE X b tb) (hs:zCf b:=by exact fun _ _=>rfl):PE X (.Subscript a b pos) (uD r ta tb):=by intro pins s σ H Q I h;exact Subscript_ (KU ha hb I h fun v u s2 x y H2 I2 rx ry q=>hr a b pins s2 σ H2 x y v u Q I2 rx ry q (hs _ _))
def T9 (K:bE):R2:=fun x y H Q=>∃p xs i v,x=.ref p/\y=.int i/\a9 K H p xs/\jf xs i=some v/\Q v H
def TB (K:bE):R2:=fun x y H Q=>∃p xs i v,x=.ref p/\y=.int i/\dm K H p xs/\jf xs i=some v/\Q v H
theorem J_:zO X (T9 X.K):=by
 intro value slice pins s σ H x y v u Q I rx ry h hs;obtain ⟨p,xs,i,z,rfl,rfl,hq,he,q⟩:=h;cases rx;obtain ⟨t,rfl⟩:=ry;obtain ⟨its,r,pl,hz⟩:=I.list hq;obtain ⟨j,h1,h2,h3,h4,h5⟩:=P0 he;obtain ⟨w,ew,uH⟩:=r.get h2;have hl:=r.length;have hn:=Fb;have fin:EP X pins σ Q w s:=⟨z,H,I,uH,q⟩
 by_cases h0:0<=i
 ·have hj:i.toNat=j:=by
   rw [seqIndex_of h0 h5] at h1;exact dM h1
  exact item_listR pl.isList h0 (by omega) (by rw [hj];simpa using ew) fin hs
 ·have hj:(i+(its.toArray.size:Int)).toNat=j:=by
   rw [seqIndex_neg (vY h0) h4] at h1;rw [iU,<-hl];exact dM h1
  exact subscriptTail_builtinR (x:=w) pl.isList.typeIs slot_list_getitem.lookup
   (wpAny_getItem_list_neg (Q:=fun r s'=>r=w/\EP X pins σ Q r s') pl.isList (vY h0) (by rw [iU]<;>omega) (by omega) (by rw [hj];simpa using ew) ⟨rfl,fin⟩) hs
theorem UY:zO X (TB X.K):=by
 intro value slice pins s σ H x y v u Q I rx ry h hs;obtain ⟨p,xs,i,z,rfl,rfl,hq,he,q⟩:=h;cases rx;obtain ⟨t,rfl⟩:=ry;obtain ⟨its,r,pl,hz⟩:=I.tuple hq;obtain ⟨j,h1,h2,h3,h4,h5⟩:=P0 he;obtain ⟨w,ew,uH⟩:=r.get h2;have hl:=r.length;have hn:=Fb;have fin:EP X pins σ Q w s:=⟨z,H,I,uH,q⟩;exact subscriptTail_builtinR (x:=w) pl.typeIs slot_tuple_getitem.lookup
  (getItem_tuple (j:=j) (Q:=fun r s'=>r=w/\EP X pins σ Q r s') pl (by omega) (by omega) (by rw [iU,<-hl];exact h1) (by simpa using ew) ⟨rfl,fin⟩) hs
theorem Zm (its:List Value) (n j:Nat) (u:Value):Obj.mapSeq (·.setIfInBounds j u) { cls:=.type "list",data:=.seq its.toArray n }={ cls:=.type "list",data:=.seq (its.set j u).toArray n }:=by simp [Obj.mapSeq]
theorem Inv.lst (I:Inv X pins σ H s) (h:H p=some (.lst xs)):
 ∃(its:List Value) (n:Nat),bq xs its/\s.heap.get? p=some { cls:=.type "list",data:=.seq its.toArray n }/\xs.length<=sizeLine:=by
 obtain ⟨z,its,n,r,e⟩:=I.af p _ h;exact ⟨its,n,r,e,z⟩
theorem Inv.yL {pins:List (Addr×Obj)} {σ:St} {H:Hp} {s:Shared} {p:Addr} {xs ys:List V} {its its':List Value} {n n':Nat} {f:Obj->Obj} (I:Inv X pins σ H s) (h:H p=some (.lst xs))
 (ho:s.heap.get? p=some { cls:=.type "list",data:=.seq its.toArray n }) (hf:f { cls:=.type "list",data:=.seq its.toArray n }={ cls:=.type "list",data:=.seq its'.toArray n' }) (r:bq ys its') (hz:ys.length<=sizeLine) (t:Nat):
 Inv X pins σ (upd H p (.lst ys)) { s with heap:=s.heap.update p f,toks:=t }:=by
 have e:(s.heap.update p f).get? p=some { cls:=.type "list",data:=.seq its'.toArray n' }:=by rw [tU f ho (by rw [hf]<;>rfl),hf]
 refine I.write (x:=p) (e:=p) (by rw [h];trivial) (.inl rfl) (fun b u hb q=>(kX _ _ (aB hb)).trans q) ⟨_,e⟩ ?_;exact ⟨hz,its',n',r,e⟩
def zFe:V->V->V->Hp->(Hp->Prop)->Prop:=fun o i v H Q=>∃p xs k j,o=.ref p/\i=.int k/\H p=some (.lst xs)/\qm xs.length k=some j/\Q (upd H p (.lst (xs.set j v)))
theorem u7:Ts X zFe:=by
 intro pins s σ H o i v ov iv u Q I ro ri rv h;obtain ⟨p,xs,k,j,rfl,rfl,hp,hj,q⟩:=h;cases ro;obtain ⟨t,rfl⟩:=ri;obtain ⟨its,n,r,ho,hz⟩:=I.lst hp;obtain ⟨h1,h2,h3,h4⟩:=PD hj;have hl:=r.length;have hn:=Fb;have I':Inv X pins σ (upd H p (.lst (xs.set j v))) { s with heap:=s.heap.update p (Obj.mapSeq (·.setIfInBounds j u)) }:=
  I.yL hp ho (Zm its n j u) (r.set rv j) (by rw [List.length_set];exact hz) s.toks
 by_cases h0:0<=k
 ·have hk:k.toNat=j:=by
   rw [seqIndex_of h0 h4] at h1;exact dM h1
  exact PySem.W.ki_setAt ho h0 (by omega) (by rw [iU,<-hl];exact h4) (by rw [hk];exact ⟨_,I',q⟩)
 ·have hk:(k+(its.toArray.size:Int)).toNat=j:=by
   rw [seqIndex_neg (vY h0) h3] at h1;rw [iU,<-hl];exact dM h1
  exact PySem.W.ki_setBack ho (vY h0) (by rw [iU,<-hl];exact h3) (by omega) (by rw [hk];exact ⟨_,I',q⟩)
theorem ZS (lo hi:Option Int) (n:Nat):(sliceBounds lo hi none n).1=((cv n 0 lo:Nat):Int)/\(sliceBounds lo hi none n).2.1=((cv n n hi:Nat):Int)/\(sliceBounds lo hi none n).2.2=1:=by
 refine ⟨?_,?_,rfl⟩
 ·cases lo with
  | none=>simp [sliceBounds,cv]
  | some i=>
   simp only [sliceBounds,cv,Option.getD_none,show (1:Int)>0 by decide,if_true]
   by_cases h:i<0
   ·simp only [h,if_true]<;>omega
   ·simp only [h,if_false]<;>omega
 ·cases hi with
  | none=>simp [sliceBounds,cv]
  | some i=>
   simp only [sliceBounds,cv,Option.getD_none,show (1:Int)>0 by decide,if_true]
   by_cases h:i<0
   ·simp only [h,if_true]<;>omega
   ·simp only [h,if_false]<;>omega
theorem ZZ (its:List Value) (lo hi:Option Int):slicePick its.toArray lo hi none=((its.drop (cv its.length 0 lo)).take (cv its.length its.length hi-cv its.length 0 lo)).toArray:=by obtain ⟨h1,h2,h3⟩:=ZS lo hi its.toArray.size;unfold slicePick;rw [h1,h2,h3];simp only [sliceRange_one,pick_run,iU]<;>rfl
def zHj (K:bE):V->Option Int->Option Int->Hp->VK->Prop:=fun x lo hi H Q=>∃a xs,x=.ref a/\a9 K H a xs/\∀p,H p=none->Q (.ref p) (upd H p (.lst (oX xs lo hi)))
theorem zA4:IL X (zHj X.K):=by intro pins s σ H x v vl vu lo hi sl Q I rx hs pl pu h;obtain ⟨a,xs,rfl,hx,q⟩:=h;cases rx;obtain ⟨its,r,ht,hz⟩:=I.list hx;have hlen:=r.length;refine ⟨"list",_,slot_list_getitem.lookup,ht.isList.typeIs,?_⟩;refine wpAny_getItem_list_slice ht.isList hs pl pu .none (by simp) ?_ (by rw [iU]<;>omega);rw [ZZ,<-hlen];refine ⟨.ref s.heap.objs.size,_,I.laid (t':=s.toks) (o:=.lst (oX xs lo hi)) (fun b ob q=>cR _ q) (av _) ?_,rfl,q _ (I.af.fresh (av _))⟩;exact ⟨dq (SX xs lo hi) hz,_,0,(r.drop (cv xs.length 0 lo)).take (cv xs.length xs.length hi-cv xs.length 0 lo),jY _ rfl⟩
def kg:V->Bool
 | .aR=>true
 | .bl _=>true
 | .int _=>true
 | .str _=>true
 | _=>false
def qx:V->V->Bool
 | .aR,.aR=>true
 | .bl a,.bl b=>a==b
 | .bl a,.int b=>(if a then 1 else 0)==b
 | .int a,.bl b=>a==(if b then 1 else 0)
 | .int a,.int b=>a==b
 | .str a,.str b=>a==b
 | _,_=>false
theorem UT (ry:bU y u) (rx:bU x v) (fy:kg y=true) (fx:kg x=true):SeqAt.EqAt A s u v (qx y x):=by
 cases y with
 | aR=>
  cases ry
  cases x with
  | aR=>cases rx;exact SeqAt.EqAt.same _
  | bl b=>cases rx;exact SeqAt.EqAt.none_bool b
  | int b=>obtain ⟨t,rfl⟩:=rx;exact SeqAt.EqAt.none_int b t
  | str b=>obtain ⟨t,rfl⟩:=rx;exact SeqAt.EqAt.none_str b t
  | _=>exact absurd (show false=true from fx) fC
 | bl a=>
  cases ry
  cases x with
  | aR=>cases rx;exact SeqAt.EqAt.bool_none a
  | bl b=>cases rx;exact SeqAt.EqAt.bool_bool a b
  | int b=>obtain ⟨t,rfl⟩:=rx;exact SeqAt.EqAt.bool_int a b t
  | str b=>obtain ⟨t,rfl⟩:=rx;exact SeqAt.EqAt.bool_str a b t
  | _=>exact absurd (show false=true from fx) fC
 | int a=>
  obtain ⟨t',rfl⟩:=ry
  cases x with
  | aR=>cases rx;exact SeqAt.EqAt.int_none a t'
  | bl b=>cases rx;exact SeqAt.EqAt.int_bool a t' b
  | int b=>obtain ⟨t,rfl⟩:=rx;exact SeqAt.EqAt.int_int a t' b t
  | str b=>obtain ⟨t,rfl⟩:=rx;exact SeqAt.EqAt.int_str a t' b t
  | _=>exact absurd (show false=true from fx) fC
 | str a=>
  obtain ⟨t',rfl⟩:=ry
  cases x with
  | aR=>cases rx;exact SeqAt.EqAt.str_none a t'
  | bl b=>cases rx;exact SeqAt.EqAt.str_bool a t' b
  | int b=>obtain ⟨t,rfl⟩:=rx;exact SeqAt.EqAt.str_int a t' b t
  | str b=>obtain ⟨t,rfl⟩:=rx;exact SeqAt.EqAt.str_str a t' b t
  | _=>exact absurd (show false=true from fx) fC
 | _=>exact absurd (show false=true from fy) fC
def nQ (x:V) (u:Value):Bool:=match u with
 | .none=>qx .aR x
 | .bool b=>qx (.bl b) x
 | .int i _=>qx (.int i) x
 | .str z _=>qx (.str z) x
 | _=>false
theorem UU (r:bU y u) (f:kg y=true):nQ x u=qx y x:=by
 cases y with
 | aR=>cases r;rfl
 | bl b=>cases r;rfl
 | int i=>obtain ⟨t,rfl⟩:=r;rfl
 | str z=>obtain ⟨t,rfl⟩:=r;rfl
 | _=>exact absurd (show false=true from f) fC
theorem Fu {xs:List V} {us:List Value} (h:bq xs us) (f:xs.all kg=true):us.any (nQ x)=xs.any fun y=>qx y x:=by
 induction h with
 | nil=>rfl
 | cons r t ih=>
  rw [List.all_cons,sj] at f;rw [List.any_cons,List.any_cons,UU r f.1,ih f.2]
theorem FG (rx:bU x v) (fx:kg x=true) {xs:List V} {us:List Value} (h:bq xs us) (f:xs.all kg=true):∀u∈us,SeqAt.EqAt A s u v (nQ x u):=by
 induction h with
 | nil=>intro u hu;cases hu
 | cons r t ih=>
  intro u' hu;rw [List.all_cons,sj] at f;rcases eh.mp hu with rfl | hu
  ·rw [UU r f.1];exact UT r rx f.1 fx
  ·exact ih f.2 u' hu
def ve (x:V) (xs:List V):Bool:=xs.any fun y=>qx y x
def HS (K:bE) (neg:Bool):R2:=fun x y H Q=>∃p xs,y=.ref p/\(a9 K H p xs\/dm K H p xs)/\kg x=true/\xs.all kg=true/\Q (.bl (if neg then !ve x xs else ve x xs)) H
theorem K9:fH X (compareOp .In) (HS X.K false):=by
 intro pins s σ H x y v u Q I rx ry h;obtain ⟨p,xs,rfl,hq,fx,fs,q⟩:=h;cases ry;rcases hq with hq | hq
 ·obtain ⟨its,r,pl,hz⟩:=I.list hq;refine SeqAt.in_listAt (nQ x) pl.isList (fun w hw=>FG rx fx r fs w (by simpa using hw)) ⟨.bl _,H,I,rfl,?_⟩;rw [show its.toArray.any (nQ x)=its.any (nQ x) by simp,Fu r fs];exact q
 ·obtain ⟨its,r,pl,hz⟩:=I.tuple hq;refine SeqAt.in_tupleAt (nQ x) pl (fun w hw=>FG rx fx r fs w (by simpa using hw)) ⟨.bl _,H,I,rfl,?_⟩;rw [show its.toArray.any (nQ x)=its.any (nQ x) by simp,Fu r fs];exact q
theorem ZT:fH X (compareOp .NotIn) (HS X.K true):=by
 intro pins s σ H x y v u Q I rx ry h;obtain ⟨p,xs,rfl,hq,fx,fs,q⟩:=h;cases ry;rcases hq with hq | hq
 ·obtain ⟨its,r,pl,hz⟩:=I.list hq;refine SeqAt.notIn_listAt (nQ x) pl.isList (fun w hw=>FG rx fx r fs w (by simpa using hw)) ⟨.bl _,H,I,rfl,?_⟩;rw [show its.toArray.any (nQ x)=its.any (nQ x) by simp,Fu r fs];exact q
 ·obtain ⟨its,r,pl,hz⟩:=I.tuple hq;refine SeqAt.notIn_tupleAt (nQ x) pl (fun w hw=>FG rx fx r fs w (by simpa using hw)) ⟨.bl _,H,I,rfl,?_⟩;rw [show its.toArray.any (nQ x)=its.any (nQ x) by simp,Fu r fs];exact q
theorem Ar:ug X (.builtin "len") (fun xs H Q=>∃p ys,xs=[.ref p]/\(a9 X.K H p ys\/dm X.K H p ys)/\Q (.int ys.length) H):=by
 intro pins s σ H xs us Q I r h;obtain ⟨p,ys,rfl,hq,q⟩:=h;obtain ⟨u,rfl,rx⟩:=zU r;cases rx;have hn:=Fb;rcases hq with hq | hq
 ·obtain ⟨its,r',pl,hz⟩:=I.list hq;have hlen:=r'.length;exact Calls.call_len_list pl.isList (by simp only [iU]<;>omega) ⟨.int ys.length,H,I.tok _,⟨s.toks+1,by rw [iU,hlen]⟩,q⟩
 ·obtain ⟨its,r',pl,hz⟩:=I.tuple hq;have hlen:=r'.length;exact len_tuple pl (by simp only [iU]<;>omega) ⟨.int ys.length,H,I.tok _,⟨s.toks+1,by rw [iU,hlen]⟩,q⟩
theorem As:ug X (.type "list") (fun xs H Q=>∃p ys,xs=[.ref p]/\(a9 X.K H p ys\/dm X.K H p ys)/\∀l,H l=none->Q (.ref l) (upd H l (.lst ys))):=by
 intro pins s σ H xs us Q I r h;obtain ⟨p,ys,rfl,hq,q⟩:=h;obtain ⟨u,rfl,rx⟩:=zU r;cases rx;have fin:∀(its:List Value),bq ys its->ys.length<=sizeLine->∀(h':Heap) (c':Nat),(∀b o',s.heap.get? b=some o'->h'.get? b=some o')->
  h'.get? s.heap.objs.size=some { cls:=.type "list",dict:=none,data:=.seq its.toArray c',slots:= #[] }->EP X pins σ Q (.ref s.heap.objs.size) { s with heap:=h' }:=fun its r' hz h' c' kp e=>
  ⟨.ref s.heap.objs.size,_,I.laid (t':=s.toks) kp (av _) (show eK X.prog X.w _ h' _ (.lst ys) from ⟨hz,its,c',r',e⟩),rfl,q _ (I.af.fresh (av _))⟩
 rcases hq with hq | hq
 ·obtain ⟨its,r',pl,hz⟩:=I.list hq;have hlen:=r'.length;obtain ⟨o,ho,hc,n,hd⟩:=pl.isList;exact call_list_seq p (.inl rfl) ho hc hd (fun h' c' kp e=>fin its r' hz h' c' kp e) (by simp only [iU]<;>omega)
 ·obtain ⟨its,r',pl,hz⟩:=I.tuple hq;have hlen:=r'.length;obtain ⟨o,ho,hc,n,hd⟩:=pl;exact call_list_seq p (.inr rfl) ho hc hd (fun h' c' kp e=>fin its r' hz h' c' kp e) (by simp only [iU]<;>omega)
theorem To:ug X (.type "tuple") (fun xs H Q=>∃p ys,xs=[.ref p]/\((a9 X.K H p ys/\∀l,H l=none->Q (.ref l) (upd H l (.tup ys)))\/(dm X.K H p ys/\Q (.ref p) H))):=by
 intro pins s σ H xs us Q I r h;obtain ⟨p,ys,rfl,h⟩:=h;obtain ⟨u,rfl,rx⟩:=zU r;cases rx;rcases h with ⟨hq,q⟩ | ⟨hq,q⟩
 ·obtain ⟨its,r',pl,hz⟩:=I.list hq;have hlen:=r'.length;refine call_tuple_list pl.isList (fun h' kp=>?_) (by simp only [iU]<;>omega);have I1:Inv X pins σ H { s with heap:=h' }:=I.kept (t':=s.toks) kp;have I2:Inv X pins σ (upd H h'.objs.size (.tup ys)) { s with heap:=h'.push { cls:=.type "tuple",data:=.seq its.toArray } }:=
   I1.laid (t':=s.toks) (fun b o e=>cR _ e) (av _) (show eK X.prog X.w _ _ _ (.tup ys) from ⟨hz,its,r',IsTup.new _ _⟩)
  exact ⟨.ref h'.objs.size,_,I2,rfl,q _ (I1.af.fresh (av _))⟩
 ·obtain ⟨its,r',pl,hz⟩:=I.tuple hq;exact call_tuple_same pl ⟨.ref p,H,I,rfl,q⟩
def Vd (K:bE) (T:String) (x:V) (H:Hp):Prop:=match x with
 | .str _=>T="str"
 | .int _=>T="int"
 | .ref p=>(T="list"/\∃xs,a9 K H p xs)\/(T="tuple"/\∃o,K.lookup p=some o/\o.cls=.type "tuple"/\o.dict=none)\/
  (T="dict"/\((∃kvs,H p=some (.dK kvs))\/∃kvs,H p=some (.dT kvs)))\/(T="set"/\∃S n,H p=some (.set S n))
 | _=>False
theorem zC0 (I:Inv X pins σ H s) (r:bU x v) (ty:Vd X.K T x H):
 s.TypeIs v T/\∀a,v=.ref a->∃ob,s.heap.get? a=some ob/\ob.dict=none:=by
 cases x with
 | str z=>
  obtain ⟨t,rfl⟩:=r;cases (show T="str" from ty);exact ⟨typeIs_str s z t,fun _ e=>nomatch e⟩
 | int i=>
  obtain ⟨t,rfl⟩:=r;cases (show T="int" from ty);exact ⟨typeIs_int s i t,fun _ e=>nomatch e⟩
 | ref p=>
  cases r;rcases ty with ⟨rfl,xs,hq⟩ | ⟨rfl,o,hk,hc,hd⟩ | ⟨rfl,hk⟩ | ⟨rfl,S,n,hk⟩
  ·obtain ⟨its,_,pl,_⟩:=I.list hq;refine ⟨pl.isList.typeIs,fun a e=>?_⟩;cases e;obtain ⟨o,n,e,c,hd,_⟩:=pl;exact ⟨o,e,hd⟩
  ·refine ⟨⟨o,I.gG p o hk,hc⟩,fun a e=>?_⟩;cases e;exact ⟨o,I.gG _ o hk,hd⟩
  ·have z:∃o,s.heap.get? p=some o/\o.ExactDict:=by
    rcases hk with ⟨kvs,hk⟩ | ⟨kvs,hk⟩
    ·obtain ⟨_,_,_,_,o,_,_,e,ex,_⟩:=I.af p _ hk;exact ⟨o,e,ex⟩
    ·obtain ⟨_,_,_,_,o,_,_,e,ex,_⟩:=I.af p _ hk;exact ⟨o,e,ex⟩
   obtain ⟨o,e,ex⟩:=z;refine ⟨⟨o,e,ex.1⟩,fun a e2=>?_⟩;cases e2;exact ⟨o,e,ex.2.1⟩
  ·obtain ⟨o,_,_,_,e,ex,_⟩:=I.af p _ hk;refine ⟨⟨o,e,ex.1⟩,fun a e2=>?_⟩;cases e2;exact ⟨o,e,ex.2.1⟩
 | _=>exact hV ty
def tBM (K:bE) (T:String) (r:V->List V->Hp->VK->Prop) (to:TE) (t:TA):TE:=fun σ H Q=>to σ H fun x H1=>Vd K T x H1/\t σ H1 fun xs H2=>r x xs H2 Q
variable {o e:Expr} {es:List Expr} {to:TE} {t:TA} {name:Str} {apos g_:Pos} {T id:String} {r:V->List V->Hp->VK->Prop}
theorem qE (pa:PlainAttrs T) (slot:Slot T name id) (hty:typeOf (.builtin id)=pure (.type "method_descriptor")) (hm:MtR X id r) (ho:PE X o to) (ha:PA X (e::es) t)
 (rV:attributeBase o name X.env (eval o X.env)=eval o X.env:=by rfl)
 (Nu:((backTo g_ (starEach (e::es) X.env)).all (fun x=> !x.1) && (backToKw g_ (keywordEach [] X.env)).all (fun x=>x.1.isSome)
  && decide ((e::es).length+([]:List Keyword).length+(if ([]:List Keyword).isEmpty then 0 else 1)<30))=true:=by rfl)
 (De:(apos.endLine==g_.line)=true:=by rfl) (hs:starEach (e::es) X.env=(false,eval e X.env)::starEach es X.env:=by rfl) (yZ:(backTo g_ (starEach es X.env)).any (·.1)=false:=by rfl):
 PE X (.Call (.Attribute o name apos) (e::es) [] g_) (tBM X.K T r to t):=by
 intro pins s σ H Q I h;refine wpAny_Call_method_late rV Nu De rfl (ax (ho pins s σ H _ I h) fun v s1 zz=>?_);obtain ⟨x,H1,I1,r1,ty,q1⟩:=zz;obtain ⟨h1,h2⟩:=zC0 I1 r1 ty;refine ⟨T,id,pa,slot,hty,h1,h2,?_⟩;have hA:=ha g_ pins s1 σ H1 _ I1 q1;rw [hs] at hA ⊢;refine Calls.callWith_builtin (by show (false || (backTo g_ (starEach es X.env)).any (·.1))=false;rw [yZ]<;>rfl) (Calls.evalArgs_plain ?_);exact ax hA fun us s2 zz=>L2.fi zz fun vs H2 I2 r2 q2=>hm pins s2 σ H2 x vs v us Q I2 r1 r2 q2
end
def MtM (X:Cx) (id:String) (r:V->List V->Hp->VK->Prop):Prop:=
 ∀(pins:List (Addr×Obj)) (s:Shared) (σ:St) (H:Hp) (x:V) (xs:List V) (v:Value) (us:List Value) (Q:VK),Inv X pins σ H s->bU x v->bq xs us->r x xs H Q->
  wpAny (model X.prog X.w) X.A (call (.builtin id) (v::us)) (EP X pins σ Q) X.xe s
theorem bq.one {x:V} {us:List Value} (h:bq [x] us):∃u,us=[u]/\bU x u:=by
 cases h with
 | cons r t=>
  cases t;exact ⟨_,rfl,r⟩
theorem bq.rep (h:bq xs us):∀k:Nat,bq (List.replicate k xs).flatten (List.replicate k us).flatten
 | 0=>.nil
 | k+1=>by rw [List.replicate_succ,List.replicate_succ,List.flatten_cons,List.flatten_cons];exact bq.append h (bq.rep h k)
theorem Rz (its:List Value):∀(k:Nat) (acc:List Value),
 List.foldl (fun x1 x2=>x1++x2) acc.toArray (List.replicate k its.toArray)=(acc++(List.replicate k its).flatten).toArray
 | 0,acc=>by simp
 | k+1,acc=>by
  have e:acc.toArray++its.toArray=(acc++its).toArray:=by simp
  have e2:(acc++its)++(List.replicate k its).flatten=acc++(List.replicate (k+1) its).flatten:=by rw [List.replicate_succ,List.flatten_cons,wZ]
  rw [<-e2,<-Rz its k (acc++its),<-e,List.replicate_succ,wY]
section
variable {X:Cx} {pins:List (Addr×Obj)} {σ:St} {H:Hp} {s:Shared} {l b:Addr} {xs ys zs:List V}
theorem Inv.LU {its its':List Value} {n:Nat} {f:Array Value->Array Value} {t':Nat} (I:Inv X pins σ H s) (hH:H l=some (.lst xs))
 (e:s.heap.get? l=some { cls:=.type "list",data:=.seq its.toArray n }) (hf:f its.toArray=its'.toArray) (hv:bq ys its') (hz:ys.length<=sizeLine):
 Inv X pins σ (upd H l (.lst ys)) { s with heap:=s.heap.update l (Obj.mapSeq f),toks:=t' }:=by
 have q:=PySem.IsL.update e f;rw [hf] at q;refine I.write (x:=l) (e:=l) (by rw [hH];exact trivial) (.inl rfl) (fun b' u hb hu=>(kX s.heap (Obj.mapSeq f) (aB hb)).trans hu) ⟨_,q⟩ ?_;exact ⟨hz,its',_,hv,q⟩
theorem Inv.yM (I:Inv X pins σ H s) (hv:bq ys its) (hz:ys.length<=sizeLine):
 Inv X pins σ (upd H s.heap.objs.size (.lst ys)) { s with heap:=s.heap.push { cls:=.type "list",data:=.seq its.toArray },toks:=t' }:=
 I.laid (fun _ _ q=>cR _ q) (av _) ⟨hz,its,0,hv,jY _ rfl⟩
theorem Inv.fresh (I:Inv X pins σ H s):H s.heap.objs.size=none:=I.af.fresh (av _)
theorem Inv.vd (I:Inv X pins σ H s) (hH:H l=some (.lst xs)):xs.length<=sizeLine/\∃(its:List Value) (n:Nat),bq xs its/\xs.length=its.length/\s.heap.get? l=some { cls:=.type "list",data:=.seq its.toArray n }:=by obtain ⟨z,its,n,r,e⟩:=I.af l _ hH;exact ⟨z,its,n,r,r.length,e⟩
theorem Xw (h:n<=sizeLine):Builtin.List.listTooLong n=false:=by unfold Builtin.List.listTooLong;exact gA (by omega)
end
section
variable {X:Cx}
def zBc:V->List V->Hp->VK->Prop:=fun x vs H Q=>∃l xs y,x=.ref l/\vs=[y]/\H l=some (.lst xs)/\xs.length<sizeLine/\Q .aR (upd H l (.lst (xs++[y])))
theorem qi:MtM X "list.append" zBc:=by intro pins s σ H x vs v us Q I rx rv h;obtain ⟨l,xs,y,rfl,rfl,hH,hz,q⟩:=h;cases rx;obtain ⟨u,rfl,ru⟩:=rv.one;obtain ⟨z,its,n,r,hl,e⟩:=I.vd hH;refine call_meets qy ⟨_,e,rfl⟩ F.entry_list_append (F.args_list_append_2 _ _) (PySem.list_append l its.toArray n u (by rw [iU];omega)) ⟨e,?_⟩;refine ⟨.aR,_,I.LU (its':=its++[u]) hH e (by simp) (r.append (.cons ru .nil)) ?_,rfl,q⟩;rw [iT,List.length_singleton];omega
def zHl:R2:=fun x y H Q=>∃l b xs zs,x=.ref l/\y=.ref b/\H l=some (.lst xs)/\H b=some (.lst zs)/\xs.length+zs.length<=sizeLine/\∀p,H p=none->Q (.ref p) (upd H p (.lst (xs++zs)))
theorem JI:fH X (binaryOp .Add) zHl:=by
 intro pins s σ H x y v u Q I rx ry h;obtain ⟨l,b,xs,zs,rfl,rfl,hH,hB,hz,q⟩:=h;cases rx;cases ry;obtain ⟨z,its,n,r,hl,e⟩:=I.vd hH;obtain ⟨z2,CC,n2,r2,oE,e2⟩:=I.vd hB;refine PySem.P.add_list e e2 ?_ (by rw [iU,iU];exact Y3 hz hl oE);have ea:its.toArray++CC.toArray=(its++CC).toArray:=by simp
 rw [ea];exact ⟨.ref _,_,I.yM (t':=s.toks) (r.append r2) (by rw [iT];omega),rfl,q _ I.fresh⟩
def zHk:R2:=fun x y H Q=>∃l k xs,x=.ref l/\y=.int k/\H l=some (.lst xs)/\-(2 ^ 63)<=k/\k<2 ^ 63/\xs.length*k.toNat<=sizeLine/\
 ∀p,H p=none->Q (.ref p) (upd H p (.lst (List.replicate k.toNat xs).flatten))
theorem zBv (xs:List α) (k:Nat):(List.replicate k xs).flatten.length=k*xs.length:=by
 induction k with
 | zero=>simp
 | succ k ih=>rw [List.replicate_succ,List.flatten_cons,iT,ih,Nat.succ_mul,Nat.add_comm]
theorem Bw:fH X (binaryOp .Mult) zHk:=by
 intro pins s σ H x y v u Q I rx ry h;obtain ⟨l,k,xs,rfl,rfl,hH,h1,h2,hz,q⟩:=h;cases rx;obtain ⟨t,rfl⟩:=ry;obtain ⟨z,its,n,r,hl,e⟩:=I.vd hH;have hlen:its.toArray.size*k.toNat<=sizeLine:=by rw [iU,<-hl];exact hz
 have NC:¬its.toArray.size*k.toNat>(2 ^ 63-1) / 8:=by
  have:(sizeLine:Nat)<=(2 ^ 63-1) / 8:=by decide
  omega
 have Nt:¬(!Builtin.List.listFitsIndex k)=true:=by rw [fitsIndex_both h1 h2];exact fC
 have Dd:¬Builtin.List.listTooLong (its.toArray.size*k.toNat)=true:=by rw [Xw hlen];exact fC
 have pH:List.foldl (fun x1 x2=>x1++x2) #[] (List.replicate (if its.toArray.isEmpty=true then 0 else k.toNat) its.toArray)=(List.replicate k.toNat its).flatten.toArray:=by
  have f0:∀m:Nat,List.foldl (fun x1 x2=>x1++x2) #[] (List.replicate m its.toArray)=(List.replicate m its).flatten.toArray:=fun m=>by have:=Rz its m [];rw [List.nil_append] at this;exact this
  rw [f0]
  cases its with
  | nil=>simp
  | cons a r'=>rw [if_neg (by simp)]
 refine wpAny_binaryOp_repeat_ref (T:="list") (U:="int") (by decide) ⟨_,e,rfl⟩ (fun s'=>typeIs_int s' k t) noFill_list_mul F.fills_int_mul F.slot_int_rmul repeat_list F.slot_int_index.lookup
  (call_meets F.slot_int_rmul (typeIs_int s k t) F.entry_int_rmul (F.args_int_rmul_2 _ _) (int___rmul___int_list k t l its.toArray n)
   ⟨e,rfl,⟨_,e,rfl⟩,call_meets F.slot_list_mul ⟨_,e,rfl⟩ F.entry_list_mul (F.args_list_mul_2 _ _) (AutoListH.list___mul___list_int_3 l its.toArray n k t Nt NC Dd) ⟨e,?_⟩⟩)
 rw [pH];exact ⟨.ref _,_,I.yM (t':=s.toks) (r.rep k.toNat) (by rw [zBv,Nat.mul_comm];exact hz),rfl,q _ I.fresh⟩
end
section
variable {prog:Program} {w:World} {A:Around} {E:Value->Shared->Prop} {s:Shared}
set_option maxRecDepth 100000 in
end
section
variable {X:Cx}
end
end L2
namespace Xa
open PySem PySem.W PySem.Calls PyProof.Rows
theorem zkm {P:Params}:∀(ns:List Int) (vs:List Value),WellAll P h vs (ns.map WData.int)->IntsAre vs ns:=by
 intro ns
 induction ns with
 | nil=>
  intro vs w;rw [List.map_nil] at w;cases w;exact .nil
 | cons n ns ih=>
  intro vs w;rw [fj] at w
  cases w with
  | cons a b=>
   cases a;exact .cons _ _ (ih _ b)
theorem YT {l:OpenLaw} {n:Nat} (hn:l.most=some n) {P:Params} {h:Heap} {args:List WData} {vals:List Value}
 (vm:l.row.toRowW.claim.pre args=true) (Mn:WellAll P h vals args):
 ∃a vs ns,vals=[Value.ref a]/\args=[WData.list (ns.map WData.int)]/\h.get? a=some { cls:=.type "list",data:=.seq vs.toArray }/\IntsAre vs ns/\ns.length<=n:=by
 have Mz:WShape.hasAll [] args [.list .int]=true:=(pre_splitW vm).1;have hc:l.pre.holds [] { args:=args }=true:=(pre_splitW vm).2;obtain ⟨d,r,rfl,h1,h2⟩:=hasAllW_cons Mz;obtain rfl:=hasAllW_nil h2;obtain ⟨xs,rfl,h3⟩:=hasW_list h1;obtain ⟨ns,rfl⟩:=items_int h3;have hlen:ns.length<=n:=by
  unfold OpenLaw.pre at hc;have h4:(WTm.not (.lt (.lit (.int (n:Int))) (.len (.arg 0)))).holds [] { args:=[.list (ns.map .int)] }=true:=by have h4:=(holds_andW hc).1;rw [hn] at h4;exact h4
  have h5:=condW_of h4 (w_not (w_lt w_lit (w_len_list (w_arg rfl))));rw [aI] at h5;refine mh fun q=>?_;have q':(n:Int)<((ns.length:Nat):Int):=BO q
  first
   | (rw [jZ q'] at h5;exact absurd h5 (by decide))
   | (simp at h5;omega)
 cases Mn with
 | cons w1 w2=>
  cases w2
  cases w1 with
  | list ho bQ=>exact ⟨_,_,ns,rfl,rfl,ho,zkm ns _ bQ,hlen⟩
theorem YR (l:OpenLaw) (args:List WData):l.row.toRowW.claim.post args (.bool true) args=true:=
 postW_of (r:=l.row.toRowW) (X:=(true==true))
  (show WShape.has [] (.bool true) .bool=true by first | rfl | decide | simp [WShape.has,WShape.arms,WShape.armsAll])
  (show (WTm.eq .res (.lit (.bool true))).value [] { args:=args,res:=some (.bool true),after:=args }=some (.bool (true==true)) from w_eq_bool (w_res rfl) w_lit) rfl
theorem md {l:OpenLaw} {n:Nat} {q:Program} {loose:List Str} {XP:(Str->Option Value)->Heap->Prop} {YP:World->Heap->Prop} {d:DefRec}
 (hn:l.most=some n) (Ny:d.params.defaults=[])
 (call:∀(w:World) (bX ar:Shared) (mg mb:Str->Option Value) (fa:Addr) (o:Obj) (pm cd doc:Value) (a:Addr) (vs:List Value) (ns:List Int),
  Ground q loose [] XP w bX mg mb ar.heap->YP w ar.heap->
  ar.heap.get? fa=some o->o.data=.func (docDef d.name d.params d.body d.scope pm cd doc)->ar.heap.CodeRec cd d.name->mg d.name=some (.ref fa)->
  ar.heap.get? a=some { cls:=.type "list",data:=.seq vs.toArray }->IntsAre vs ns->ns.length<=n->ar.gens= #[]->
  codeAny (model l.prog w) callerA (.call (.ref fa) ⟨[.ref a],[]⟩) (fun r s'=>r=.ok (.ret (.bool true))/\OldK ar.heap s'.heap/\s'.os=ar.os/\AllBare s'.gens) ar):
 WalkO q loose XP YP l.row.toRowW d [] (fun f vs=>PySem.call f vs):=by
 intro w bX ar mg mb G Y fa o pm cd doc dV kV ho hd jD hD CZ hg args vals as vm hlay hrd Mn rN;obtain rfl:dV=.none:=Dflts.none hD Ny;obtain rfl:kV=.none:=Dflts.noKw hD;obtain ⟨a,vs,ns,rfl,rfl,zb,hints,hlen⟩:=YT hn vm Mn;refine enter_call (codeAny_mono (call w bX ar mg mb fa o pm cd doc a vs ns G Y ho (fd_plain hd) jD CZ zb hints hlen hg) fun r s' hq=>?_);obtain ⟨rfl,h2,h3,h4⟩:=hq;exact ⟨.inl ⟨.bool true,.bool true,[],rfl,fun _=>rfl,.bool true,YR l _,fun _=>⟨List.Pairwise.nil,fun _ hm=>(nomatch hm)⟩⟩,h2,h3,h4⟩
section
variable {prog:Program} {w:World} {A:Around} {E:Value->Shared->Prop} {s:Shared} {K:Frag}
end
end Xa
namespace L2
open PySem PySem.Spec PyProof.Rows
theorem Sj:∀{vs:List Value} {ns:List Int},IntsAre vs ns->bq (ns.map V.int) vs
 | _,_,.nil=>.nil
 | _,_,.cons n t h=>.cons ⟨t,rfl⟩ (Sj h)
abbrev iq {K:bE} {h:Heap} (_:K.In h):bE:=K
def mV (s:Stmt) (j:Nat):Stmt:=match s with
 | .ClassDef _ _ _ body _ _ _ _ _ _ _=>body.getD j (.Pass ⟨0,0,0,0⟩)
 | _=>.Pass ⟨0,0,0,0⟩
def sW (s:Stmt):Arguments:=match s with
 | .FunctionDef _ a _ _ _ _ _ _ _ _=>a
 | _=>{ posonlyargs:=[],args:=[],vararg:=none,kwonlyargs:=[],kw_defaults:=[],kwarg:=none,defaults:=[] }
def mS (s:Stmt):List Stmt:=match s with
 | .FunctionDef _ _ b _ _ _ _ _ _ _=>b
 | _=>[]
def aU (s:Stmt):Scope:=match s with
 | .FunctionDef _ _ _ _ _ _ sc _ _ _=>sc
 | _=>{ kind:=.function,names:=[],isGenerator:=false,isCoroutine:=false }
abbrev a7:pX:=fun _ _ _ _ _ _=>False
abbrev E0:XK:=fun _ _ _=>False
theorem gD:qF a7 X E0:=fun _ _ _ _ _ _ _ h=>h.elim
structure gC (K:bE) (x qual:Str) (st:Stmt) (f:Addr) (fd:FuncData):Prop where
 ex:∃(oc:Value) (od:Option Addr) (kV doc pm:Value) (an:Option Addr) (df ct:Value) (o9:Array (Option Value)),
  fd=PySem.W.fnOf x qual (sW st) (mS st) (aU st) .none kV doc pm an df ct/\K.lookup f=some ⟨oc,od,.func fd,o9⟩/\PySem.W.codeIn K df qual=true
 kp:PySem.W.keepIn K (.ref f)=true
section
variable {P:Program} {w:World} {K:bE} {mg:Str->Option Value} {base:Heap}
theorem gC.ok {x qual:Str} {st:Stmt} {f:Addr} {fd:FuncData} {N ps:List Str} {k:Nat} {sp:Sp} (F:gC K x qual st f fd) (S:cC N ps (aU st)) (len:∀vs H Q E,sp vs H Q E->vs.length=ps.length)
 (dJ:∀(df:Value) (A:Around) (outer:List Env) (s:Shared) (H:Hp) (vs:List V) (Q:VK) (E:XK),cJ k (A.deeper (envOfC qual (aU st) s.heap.objs.size f df))->sp vs H Q E->
  ∃t,gB (mH a7 P w K mg base N qual (aU st) f df A outer s H E).wC (mS st) t/\t { nx:=fun _ H'=>Q .aR H',rt:=Q } (jA N vs) H):au P w K mg base a7 (k+1) f fd ps sp:=by
 obtain ⟨oc,od,kV,doc,pm,an,df,ct,o9,rfl,lk,jD⟩:=F.ex;refine Lp lk jD S len fun A outer s H vs Q E hr my=>?_;obtain ⟨t,h,q⟩:=dJ df A outer s H vs Q E hr my;exact ⟨t,h.wC,q⟩
theorem gC.dw {x qual:Str} {st:Stmt} {f:Addr} {fd:FuncData} {N ps:List Str} {k:Nat} {sp:Sp} (F:gC K x qual st f fd) (S:cC N ps (aU st)) (dJ:∀(df:Value) (A:Around) (outer:List Env) (s:Shared) (H:Hp) (vs:List V) (Q:VK) (E:XK),cJ k (A.deeper (envOfC qual (aU st) s.heap.objs.size f df))->sp vs H Q E->
  ∃t,gB (mH a7 P w K mg base N qual (aU st) f df A outer s H E).wC (mS st) t/\t { nx:=fun _ H'=>Q .aR H',rt:=Q } (jA N vs) H) (len:∀vs H Q E,sp vs H Q E->vs.length=ps.length:=by intro _ _ _ _ h;repeat (first|(obtain ⟨rfl,_⟩:=h;rfl)|obtain ⟨_,h⟩:=h)):au P w K mg base a7 (k+1) f fd ps sp:=F.ok S len dJ
theorem gC.binds {x qual:Str} {st:Stmt} {f:Addr} {fd:FuncData} {ps:List Str} (F:gC K x qual st f fd)
 (h:∀(kV doc pm:Value) (an:Option Addr) (df ct:Value) (us:List Value),us.length=ps.length->bindArgs (PySem.W.fnOf x qual (sW st) (mS st) (aU st) .none kV doc pm an df ct) ⟨us,[]⟩=pure (ps.zip us)):eT K fd ps []:=by
 obtain ⟨oc,od,kV,doc,pm,an,df,ct,o9,rfl,lk,jD⟩:=F.ex;exact .all (h kV doc pm an df ct)
theorem IW {x qual:Str} {st:Stmt} {f:Addr} {oc:Value} {od an:Option Addr} {o9:Array (Option Value)} {kV doc pm df ct:Value} (l:K.lookup f=some ⟨oc,od,.func (PySem.W.fnOf x qual (sW st) (mS st) (aU st) .none kV doc pm an df ct),o9⟩)
 (c:PySem.W.codeIn K df qual=true) (k:PySem.W.keepIn K (.ref f)=true):gC K x qual st f (PySem.W.fnOf x qual (sW st) (mS st) (aU st) .none kV doc pm an df ct):=⟨⟨oc,od,kV,doc,pm,an,df,ct,o9,rfl,l,c⟩,k⟩
end
theorem mJ (hr:cJ k A):A.units+1<cLine:=pT (Nat.add_le_add_left (by decide:1<=64) _) hr.units
theorem gy (h:n<=1000):n<sizeLine:=pT h (by decide)
section
variable {X:Cx}
theorem pv (i:Nat) (hN:X.N[i]?=some x:=by rfl) (hv:xf X.env.scope x:=by first | exact Or.inl rfl | exact Or.inr (Or.inl rfl) | exact Or.inr (Or.inr rfl)) (hd:(x==("__debug__":Str))=false:=by decide)
 (jD:(x==("__classdict__":Str))=false:=by decide):PE X (.Name x pos) (vB i):=JD hN hv hd jD
end
theorem ji {A B:Prop} (h:B):if false=true then A else B:=by rw [if_neg fC];exact h
theorem nU {A B:Prop} (h:A):if true=true then A else B:=by rw [if_pos rfl];exact h
theorem j_ {c A B:Prop} [Decidable c] (h1:c->A) (h2:¬c->B):if c then A else B:=by
 by_cases h:c
 ·rw [if_pos h];exact h1 h
 ·rw [if_neg h];exact h2 h
theorem vG {c A B:Prop} [Decidable c] (hc:c) (h:B):if (!decide c)=true then A else B:=by rw [jZ hc];exact ji h
def a8 (H H':Hp):Prop:=∀b o,H b=some o->H' b=some o
theorem a8.refl (H:Hp):a8 H H:=fun _ _ h=>h
theorem a8.trans (a:a8 H H1) (b:a8 H1 H2):a8 H H2:=fun c o h=>b c o (a c o h)
theorem a8.free (e:a8 H H') (h:H' l=Option.none):H l=Option.none:=by
 cases q:H l with
 | none=>rfl
 | some o=>
  rw [e l o q] at h;cases h
section
theorem YU (I:Nat->Shared->Prop)
 (turn:∀n s,I n s->wpAny (model prog w) A (pyNext it) (fun r ar=>match r with
  | none=>R (.ok .next) ar
  | some v=>wpAny (model prog w) A (letOwnedTupleGo target it v) (fun _ wk=>wpAny (model prog w) A (assign target env v) (fun _ g7=>
   wpAny (model prog w) A (forIn ifs true fun c r=>if r=true then do let ok <-isTrue c env (eval c env);pure (ForInStep.yield ok) else pure (ForInStep.yield r)) (fun ok jL=>
    if ok=true then wpAny (model prog w) A (eval elt env) (fun x uE=>
     wpAny (model prog w) A (call (.builtin "list.append") [acc,x]) (fun _ Cj=>∃m,m<n/\I m Cj) (fun _ _=>False) uE) (fun _ _=>False) jL
    else ∃m,m<n/\I m jL) (fun _ _=>False) g7) (fun _ _=>False) wk) (fun _ _=>False) ar) (fun _ _=>False) s)
 (n:Nat) (h:I n s):codeAny (model prog w) A (.compLoop (.ListComp elt [⟨target,iter,ifs,0⟩] scope pos) 0 it acc env) R s:=by
 refine codeAny_loop rfl I (fun n s hI=>?_) n h;show wpAny _ A ((compTurn (.ListComp elt [⟨target,iter,ifs,0⟩] scope pos) 0 it acc env).onRaise (fun x=>do noteFrame x env;theTreesLotGoes x)) _ _ s;refine wpAny_noted ?_;rw [compTurn_list];refine ah (wpAny_standAt (ah (wpAny_mono (turn n s hI) (fun r ar b_=>?_) fun _ _ h'=>h'.elim)))
 cases r with
 | none=>exact aW b_
 | some v=>
  refine ah (wpAny_mono b_ (fun _ wk CD=>?_) fun _ _ h'=>h'.elim);refine ah (wpAny_mono CD (fun _ g7 kI=>ah (wpAny_mono kI (fun ok jL vg=>?_) fun _ _ h'=>h'.elim)) fun _ _ h'=>h'.elim)
  cases ok with
  | false=>exact aW ⟨rfl,vg⟩
  | true=>
   exact ah (ah (wpAny_mono vg (fun x uE Mf=>ah (wpAny_mono Mf (fun _ Cj Me=>aW (aW ⟨rfl,Me⟩)) fun _ _ h'=>h'.elim)) fun _ _ h'=>h'.elim))
end
theorem Z5 {env:Env} {f:(Str×NameKind)->List (Str×Addr)->Sem (ForInStep (List (Str×Addr)))}
 (h1:∀n k cs,k≠NameKind.free->f (n,k) cs=pure (.yield cs)) (h2:∀n a cs,env.cells.lookup n=some a->f (n,.free) cs=pure (.yield ((n,a)::cs))):
 ∀(names:List (Str×NameKind)) (acc:List (Str×Addr)),(∀x∈names,x.2=.free->∃c,env.cells.lookup x.1=some c)->(∀x c,acc.lookup x=some c->env.cells.lookup x=some c)->
  ∃cl,forIn names acc f=pure cl/\(∀x c,cl.lookup x=some c->env.cells.lookup x=some c/\((∃c',acc.lookup x=some c')\/(x,NameKind.free)∈names))/\
   ∀x,((∃c,acc.lookup x=some c)\/(x,NameKind.free)∈names)->∃c,cl.lookup x=some c:=by
 intro names
 induction names with
 | nil=>exact fun acc _ ha=>⟨acc,rfl,fun x c e=>⟨ha x c e,.inl ⟨c,e⟩⟩,fun x hx=>hx.elim (fun z=>z) fun z=>nomatch z⟩
 | cons y r ih=>
  intro acc hn ha;obtain ⟨n,k⟩:=y;have hr:∀x∈r,x.2=.free->∃c,env.cells.lookup x.1=some c:=fun x hx=>hn x (f_ _ hx)
  by_cases hk:k=.free
  ·subst hk;obtain ⟨a,e⟩:=hn (n,.free) dN rfl;have e:env.cells.lookup n=some a:=e;have rX:∀x c,((n,a)::acc).lookup x=some c->env.cells.lookup x=some c:=fun x c q=>by
    rw [gv] at q
    cases hx:x==n with
    | true=>rw [hx] at q;cases q;rw [beq_iff_eq.mp hx];exact e
    | false=>rw [hx] at q;exact ha x c q
   obtain ⟨cl,e1,e2,e3⟩:=ih ((n,a)::acc) hr rX;refine ⟨cl,?_,fun x c q=>?_,fun x hx=>?_⟩
   ·rw [List.forIn_cons,h2 n a acc e,pure_bind];exact e1
   ·obtain ⟨q1,q2⟩:=e2 x c q;refine ⟨q1,?_⟩;rcases q2 with ⟨c',q2⟩ | q2
    ·rw [gv] at q2
     cases hx:x==n with
     | true=>rw [beq_iff_eq.mp hx];exact .inr dN
     | false=>rw [hx] at q2;exact .inl ⟨c',q2⟩
    ·exact .inr (f_ _ q2)
   ·refine e3 x ?_;rcases hx with ⟨c,hx⟩ | hx
    ·refine .inl ?_;rw [gv]
     cases x==n with
     | true=>exact ⟨a,rfl⟩
     | false=>exact ⟨c,hx⟩
    ·rcases eh.mp hx with z | z
     ·cases z;exact .inl ⟨a,by rw [gv,pU]⟩
     ·exact .inr z
  ·obtain ⟨cl,e1,e2,e3⟩:=ih acc hr ha;refine ⟨cl,?_,fun x c q=>?_,fun x hx=>?_⟩
   ·rw [List.forIn_cons,h1 n k acc hk,pure_bind];exact e1
   ·obtain ⟨q1,q2⟩:=e2 x c q;exact ⟨q1,q2.elim .inl fun z=>.inr (f_ _ z)⟩
   ·refine e3 x ?_;rcases hx with hx | hx
    ·exact .inl hx
    ·rcases eh.mp hx with z | z
     ·cases z;exact absurd rfl hk
     ·exact .inr z
theorem KJ {scope:Scope} {env:Env} (h:∀x∈scope.names,x.2=.free->∃c,env.cells.lookup x.1=some c):
 ∃cl,closureFor scope env=pure cl/\(∀x c,cl.lookup x=some c->env.cells.lookup x=some c/\(x,NameKind.free)∈scope.names)/\∀x,(x,NameKind.free)∈scope.names->∃c,cl.lookup x=some c:=by
 obtain ⟨cl,e1,e2,e3⟩:=Z5 (env:=env) (f:=fun x cs=>if (x.2==NameKind.free)=true then do let a <-cellOf env x.1;pure (ForInStep.yield ((x.1,a)::cs)) else pure (ForInStep.yield cs))
  (fun n k cs hk=>by
   have:(k==NameKind.free)=false:=by simpa using hk
   simp only [this,Bool.false_eq_true,if_false])
  (fun n a cs e=>by
   simp only [pU,if_true,cellOf,e,pure_bind])
  scope.names [] h (fun x c q=>nomatch q)
 refine ⟨cl,?_,fun x c q=>?_,fun x hx=>e3 x (.inr hx)⟩
 ·unfold closureFor
  first
   | (rw [show (forIn scope.names ([]:List (Str×Addr)) _:Sem (List (Str×Addr)))=pure cl from e1];rfl)
   | (simp only [e1,pure_bind];done)
   | exact (congrArg (fun z=>z>>=fun cs=>pure cs) e1).trans (pure_bind _ _)
 ·obtain ⟨q1,q2⟩:=e2 x c q;exact ⟨q1,q2.elim (fun ⟨_,z⟩=>nomatch z) fun z=>z⟩
theorem Tp {env:Env}:∀{names:List (Str×NameKind)} {x:Str},names.lookup x=some .free->
 (names.map fun (n,k)=>if (k==NameKind.free && env.scope.kind==.function && env.kindOf n==some .cell) then (n,NameKind.cell) else (n,k)).lookup x=some .cell\/
 (names.map fun (n,k)=>if (k==NameKind.free && env.scope.kind==.function && env.kindOf n==some .cell) then (n,NameKind.cell) else (n,k)).lookup x=some .free
 | [],_,h=>by simp at h
 | (n,k)::r,x,h=>by
  have ih:= @Tp env r x;show List.lookup x ((if (k==NameKind.free && env.scope.kind==.function && env.kindOf n==some .cell)=true then (n,NameKind.cell) else (n,k))::_)=_\/
   List.lookup x ((if (k==NameKind.free && env.scope.kind==.function && env.kindOf n==some .cell)=true then (n,NameKind.cell) else (n,k))::_)=_
  cases hx:x==n with
  | true=>
   simp only [gv,hx] at h;cases h
   by_cases hc:(NameKind.free==NameKind.free && env.scope.kind==.function && env.kindOf n==some .cell)=true
   ·rw [if_pos hc];exact .inl (by simp [gv,hx])
   ·rw [if_neg hc];exact .inr (by simp [gv,hx])
  | false=>
   simp only [gv,hx] at h
   by_cases hc:(k==NameKind.free && env.scope.kind==.function && env.kindOf n==some .cell)=true
   ·rw [if_pos hc];simp only [gv,hx];exact ih h
   ·rw [if_neg hc];simp only [gv,hx];exact ih h
def ix (X:Cx) (scope:Scope) (cl:List (Str×Addr)) (N:List Str) (ex:List Addr) (s:Shared) (H:Hp):Cx where
 prog:=X.prog
 w:=X.w
 K:=X.K
 mg:=X.mg
 base:=X.base
 A:=X.A
 N:=N
 bX:=s
 gb:=H
 env:=compEnvC scope cl s.heap.objs.size X.env
 outer:=X.stack
 stack:=X.stack
 ex:=ex
 fn:=fun x=>scope.names.lookup x==some .local
 calm:=X.calm
 pn:=[]
 xe:=fun _ _=>False
def sQ (js:List (Option Nat)) (σ:St):St:=js.map fun j=>match j with
 | none=>none
 | some j=>(σ[j]?).join
structure jB (sc:Scope) (NX:List Str) (scope:Scope) (N:List Str) (js:List (Option Nat)):Prop where
 kind:scope.kind=.function
 cell:∀x∈scope.names,x.2≠.cell
 loc:∀x∈scope.names,x.2=.local->scope.names.lookup x.1=some .local
 free:∀x∈scope.names,x.2=.free->scope.names.lookup x.1=some .free/\(sc.names.lookup x.1=some .cell\/sc.names.lookup x.1=some .free)
 len:js.length=N.length
 at_:∀p∈js.zip N,p.1=none\/∃j∈List.range NX.length,p.1=some j/\NX[j]?=some p.2/\(p.2,NameKind.free)∈scope.names
theorem nS {sc:Scope} {NX:List Str} {scope:Scope} {N:List Str} {js:List (Option Nat)} (h1:scope.kind=.function:=by rfl) (h2:∀x∈scope.names,x.2≠.cell:=by decide+kernel) (h3:∀x∈scope.names,x.2=.local->scope.names.lookup x.1=some .local:=by decide+kernel) (h4:∀x∈scope.names,x.2=.free->scope.names.lookup x.1=some .free/\(sc.names.lookup x.1=some .cell\/sc.names.lookup x.1=some .free):=by decide+kernel) (h5:js.length=N.length:=by rfl) (h6:∀p∈js.zip N,p.1=none\/∃j∈List.range NX.length,p.1=some j/\NX[j]?=some p.2/\(p.2,NameKind.free)∈scope.names:=by decide+kernel):jB sc NX scope N js:=⟨h1,h2,h3,h4,h5,h6⟩
section
theorem Xi (I:Inv X pins σ H s) (C:jB X.env.scope X.N scope N js) (c2:∀x c,cl.lookup x=some c->X.env.cells.lookup x=some c/\(x,NameKind.free)∈scope.names)
 (c3:∀x,(x,NameKind.free)∈scope.names->∃c,cl.lookup x=some c) (hex:∀b∈ex,sE X pins H b/\b<s.heap.objs.size)
 (m5:h1.Ns s.heap.objs.size fun _=>none) (hk:∀b o,s.heap.get? b=some o->h1.get? b=some o):Inv (ix X scope cl N ex s H) [] (sQ js σ) H { s with heap:=h1,toks:=tk }:=by
 have fr:∀x,(x,NameKind.free)∈scope.names->(relabel scope X.env).names.lookup x=some .cell\/(relabel scope X.env).names.lookup x=some .free:=fun x hx=>Tp (C.free _ hx rfl).1;refine ⟨⟨I.ok.mod,C.kind,I.ok.glob,I.ok.blt,av _,fun x y c e1 e2=>I.ok.inj x y c (c2 x c e1).1 (c2 y c e2).1,fun x hx=>?_,fun x c hf e=>?_,I.ok.hd,I.ok.frames,.inl rfl,fun b hb=>⟨h_ (hex b hb).2,fun x c e=>(hex b hb).1.2.2.2.2.1 x c (c2 x c e).1⟩,I.bs,dq I.ok.oQ I.sz,fun b o e hb=>?_,fun b hb hf=>?_,I.stack,I.gP⟩,
  rfl,I.bare,Un.kept hk,⟨fun _=>none,m5,fun i x v e1 e2 e3=>?_⟩,fun x c e=>?_,I.af.fresh (av _),fun x c e=>I.cI x c (c2 x c e).1,fun p hp=>absurd (show p∈([]:List (Addr×Obj)) from hp) (by simp),I.af.kept hk,?_⟩
 ·
  have hx:(relabel scope X.env).names.lookup x=some .cell\/(relabel scope X.env).names.lookup x=some .free:=hx;have hm:(x,NameKind.free)∈scope.names:=by
   have key:∀k,(relabel scope X.env).names.lookup x=some k->k=.cell\/k=.free->(x,NameKind.free)∈scope.names:=fun k hl hk=>by
    have m:=xc hl;obtain ⟨⟨n,k'⟩,hm,e⟩:=eI.mp m;dsimp only at e
    by_cases hc:(k'==NameKind.free && X.env.scope.kind==.function && X.env.kindOf n==some .cell)=true
    ·rw [if_pos hc] at e;cases e;have:k'=.free:=by
      simp only [sj,beq_iff_eq] at hc;exact hc.1.1
     subst this;exact hm
    ·rw [if_neg hc] at e;cases e;rcases hk with z | z
     ·exact absurd z (C.cell _ hm)
     ·subst z;exact hm
   rcases hx with z | z
   ·exact key _ z (.inl rfl)
   ·exact key _ z (.inr rfl)
  exact c3 x hm
 ·have hf:(scope.names.lookup x==some .local)=true:=hf;have e':=(C.free _ (c2 x c e).2 rfl).1;rw [e'] at hf;exact absurd hf (by decide)
 ·obtain ⟨⟨_,_,_,hz,_⟩,_⟩:=hex b hb;rcases hz with z | z
  ·exact I.ok.kF b o e z
  ·exact absurd (iC (iC (dr e) I.ok.oQ) z) (j8 _)
 ·obtain ⟨⟨_,hL,Dm,_⟩,_⟩:=hex b hb;rcases eh.mp (I.ko b hf) with z | z
  ·exact hL z
  ·exact Dm z
 ·
  unfold sQ at e2;rw [fG] at e2
  cases ej:js[i]? with
  | none=>rw [ej] at e2;cases e2
  | some oj=>
   rw [ej] at e2
   cases oj with
   | none=>cases e2
   | some j=>
    have oO:(σ[j]?).join=some v:=dM e2;have OG:σ[j]?=some (some v):=by
     cases q:σ[j]? with
     | none=>rw [q] at oO;cases oO
     | some z=>rw [q] at oO;exact congrArg some oO
    have e1:N[i]?=some x:=e1;have hz:(some j,x)∈js.zip N:=pV.mpr ⟨i,by rw [List.getElem?_zip_eq_some];exact ⟨ej,e1⟩⟩;obtain ⟨a1,a2⟩:X.N[j]?=some x/\(x,NameKind.free)∈scope.names:=by
     rcases C.at_ _ hz with q | ⟨j',_,q,a1,a2⟩
     ·cases q
     ·cases q;exact ⟨a1,a2⟩
    have a1:X.N[j]?=some x:=a1;have a2:(x,NameKind.free)∈scope.names:=a2;obtain ⟨_,b2⟩:=C.free _ a2 rfl;have b2:X.env.scope.names.lookup x=some .cell\/X.env.scope.names.lookup x=some .free:=b2;obtain ⟨m,_,hl⟩:=I.loc;obtain ⟨u,r,l⟩:=hl j x v a1 OG (.inr b2);refine ⟨u,r,?_⟩;rcases l with ⟨k,_⟩ | ⟨_,c,hc,z⟩
    ·have k:X.env.scope.names.lookup x=some .local:=k;rcases b2 with b2 | b2<;>(rw [b2] at k;cases k)
    ·obtain ⟨c',jE⟩:=c3 x a2;have:=(c2 x c' jE).1;rw [hc] at this;cases this;obtain ⟨o,ho,hd⟩:=z;exact .inr ⟨fr x a2,c,jE,⟨o,hk _ _ ho,hd⟩⟩
 ·obtain ⟨v,o,ho,hd⟩:=I.cell x c (c2 x c e).1;exact ⟨v,o,hk _ _ ho,hd⟩
 ·show (sQ js σ).length=N.length;unfold sQ;rw [aI];exact C.len
end
def zN (X:Cx) (ifs:List Expr) (t:TT):Prop:=
 ∀(pins:List (Addr×Obj)) (s:Shared) (σ:St) (H:Hp) (Q:Bool->Hp->Prop),Inv X pins σ H s->t σ H Q->
  wpAny (model X.prog X.w) X.A (forIn ifs true fun c r=>if r=true then do let ok <-isTrue c X.env (eval c X.env);pure (ForInStep.yield ok) else pure (ForInStep.yield r)) (TP X pins σ Q) X.xe s
def zG4:TT:=fun _ H Q=>Q true H
theorem sY:zN X [] zG4:=fun _ _ _ H _ I h=>wpAny_tests_nil ⟨H,I,h⟩
theorem B5 (h:PT X c t):zN X [c] t:=fun pins s σ H Q I hw=>wpAny_tests_one (h pins s σ H Q I hw)
def Ab (js:List (Option Nat)) (g:TG) (tc:TT) (te:TE) (σ:St) (Q:VK) (J:It) (H1:Hp) (D:Addr):Prop:=∃W:Nat->Nat->St->Hp->Prop,(∃m,W 0 m (sQ js σ) (upd H1 D (.lst [])))/\
 ∀i m ae H',W i m ae H'->(J.stop i H'/\Q (.ref D) H')\/(J.go i H'/\∃N:St->Hp->Prop,(∀iW H2,N iW H2->∃m',m'<m/\W (i+1) m' iW H2)/\
  ∀x H2,J.yl i H' x H2->g x ae H2 fun eJ H3=>tc eJ H3 fun ok H4=>if ok=true then te eJ H4 fun y H5=>∃ys,H5 D=some (.lst ys)/\ys.length<sizeLine/\N eJ (upd H5 D (.lst (ys++[y]))) else N eJ H4)
def EV (js:List (Option Nat)) (wi:TI) (g:TG) (tc:TT) (te:TE):TE:=fun σ H Q=>wi σ H fun J H1=>∀D,H1 D=none->Ab js g tc te σ Q J H1 D
def nP (l:List (Str×NameKind)):Scope:={ kind:=.function,names:=l,isGenerator:=false,isCoroutine:=false,more:=[] }
section
theorem QI {cl:List (Str×Addr)} {pins:List (Addr×Obj)} {σ:St} {H:Hp} {s:Shared} {E:Value->Shared->Prop} {Q:VK} {RR:Value->Addr->Result->Shared->Prop} (hc:nZ X) (C:jB X.env.scope X.N scope N js)
 (c2:∀x c,cl.lookup x=some c->X.env.cells.lookup x=some c/\(x,NameKind.free)∈scope.names) (c3:∀x,(x,NameKind.free)∈scope.names->∃c,cl.lookup x=some c)
 (hb:∀cl ex s H,nZ (ix X scope cl N ex s H)->PG (ix X scope cl N ex s H) tg g/\zN (ix X scope cl N ex s H) ifs tc/\PE (ix X scope cl N ex s H) elt te)
 {it:Addr} {fp:List Addr} {tn:Nat->Heap->Prop} {J:It} (I:Inv X pins σ H s) (T:yh X.prog X.w X.K tg J fp it tn) (st:tn 0 s.heap) (f2:∀b∈fp,sE X pins H b)
 (q:∀D,H D=none->Ab js g tc te σ Q J H D)
 (hRR:∀D C' H' s',Q (.ref D) H'->(∃m,s'.heap.Ns C' m)->H' C'=none->X.bX.heap.objs.size<=C'->C'≠X.env.locals->(∀x c,X.env.cells.lookup x=some c->c≠C')->(∀p∈X.pn++pins,p.1≠C')->Inv X pins σ H' s'->RR (.ref D) C' (.ok .next) s'):
 wpAny (model X.prog X.w) X.A (newList []) (fun acc jL=>wpAny (model X.prog X.w) X.A (newFunctionEnv scope X.env.globals cl [] X.env.qual none .none (some X.env)) (fun DN uE=>
  codeAny (model X.prog X.w) X.A (.compStart (.ListComp elt [⟨tg,iter,ifs,0⟩] scope pos) 0 (.ref it) acc { DN with scope:=relabel scope X.env }) (RR acc DN.locals) uE) E jL) E s:=by
 have hD:H s.heap.objs.size=none:=I.fresh;have I3:Inv X pins σ (upd H s.heap.objs.size (.lst [])) { s with heap:=s.heap.push { cls:=.type "list",data:=.seq ([]:List Value).toArray } }:=I.yM (its:=[]) (ys:=[]) (t':=s.toks) .nil (dP _);refine wpAny_newObj_type (wpAny_newFunctionEnv C.cell (by intro y hy;simp at hy) (fun b_ nG nC=>?_) C.kind);dsimp only at nG nC ⊢;generalize lQ:({ s with heap:=s.heap.push { cls:=.type "list",data:=.seq ([]:List Value).toArray } }:Shared)=s3 at I3;have Nj:s.heap.push { cls:=.type "list",dict:=none,data:=.seq ([]:List Value).toArray }=s3.heap:=by rw [<-lQ]
 rw [Nj] at nG nC ⊢;have kp:∀b o,s3.heap.get? b=some o->b_.get? b=some o:=fun b o e=>nC.extBut b o (h_ (dr e)) (cR _ e);have aF:∀b∈fp,b<s.heap.objs.size:=fun b hb=>by obtain ⟨o,e,_⟩:=T.obj 0 s.heap st b hb;exact dr e
 have Vi:s3.heap.objs.size=s.heap.objs.size+1:=by rw [<-Nj,Heap.size_push]
 have f3:∀b∈fp,sE X pins (upd H s.heap.objs.size (.lst [])) b:=fun b hb=>by obtain ⟨h1,h2⟩:=f2 b hb;exact ⟨by rw [aj (h_ (aF b hb))];exact h1,h2⟩
 have IY:∀tk,Inv (ix X scope cl N fp s3 (upd H s.heap.objs.size (.lst []))) [] (sQ js σ) (upd H s.heap.objs.size (.lst [])) { s3 with heap:=b_,toks:=tk }:=fun tk=>
  Xi I3 C c2 c3 (fun b hb=>⟨f3 b hb,by rw [Vi];exact Nat.lt_succ_of_lt (aF b hb)⟩) nG kp
 have gF:tn 0 b_:=T.keep 0 s.heap b_ st fun b _ o e=>kp b o (by rw [<-Nj];exact cR _ e);obtain ⟨W,⟨m0,w0⟩,turn⟩:=q s.heap.objs.size hD;have ND:nZ (ix X scope cl N fp s3 (upd H s.heap.objs.size (.lst []))):=hc.in_ I3 rfl rfl fun _ _ _ z=>z;have hbY:=hb cl fp s3 (upd H s.heap.objs.size (.lst [])) ND;obtain ⟨hg,hif,he⟩:=hbY;have ng:∀{H':Hp},(∀b∈fp,H' b=none)->∀b∈fp,sE (ix X scope cl N fp s3 (upd H s.heap.objs.size (.lst []))) [] H' b:=fun hn b hb=>by
  obtain ⟨_,hL,Dm,_,j5,_⟩:=f2 b hb;refine ⟨hn b hb,h_ (by show b<s3.heap.objs.size;rw [Vi];exact Nat.lt_succ_of_lt (aF b hb)),fun z=>?_,.inl hb,fun x c e=>j5 x c (c2 x c e).1,fun p hp=>absurd (show p∈([]:List (Addr×Obj)) from hp) (by simp)⟩;rcases eh.mp (I.ko b z) with z | z
  ·exact hL z
  ·exact Dm z
 have loop:∀s4:Shared,s4={ s3 with heap:=b_,toks:=s.toks+([]:List (Str×Value)).length }->
  codeAny (model X.prog X.w) X.A (.compLoop (.ListComp elt [⟨tg,iter,ifs,0⟩] scope pos) 0 (.ref it) (.ref s.heap.objs.size) (compEnvC scope cl s3.heap.objs.size X.env)) (RR (.ref s.heap.objs.size) s3.heap.objs.size) s4:=by
  rintro s4 rfl;refine YU (fun n s'=>∃i ae H',Inv (ix X scope cl N fp s3 (upd H s.heap.objs.size (.lst []))) [] ae H' s'/\tn i s'.heap/\(∀b∈fp,H' b=none)/\W i n ae H') ?_ m0
   ⟨0,_,_,IY _,gF,fun b hb=>(f3 b hb).1,w0⟩
  rintro n s5 ⟨i,EH,H5,I5,lG,IF,w5⟩;rcases turn i n EH H5 w5 with ⟨stop,qn⟩ | ⟨go,Nx,hN,step⟩
  ·refine ax (T.done (ix X scope cl N fp s3 (upd H s.heap.objs.size (.lst []))) rfl rfl rfl ND i [] s5 EH H5 _ I5 (ng IF) lG stop) fun r s6 ⟨hr,I6⟩=>?_;subst hr;obtain ⟨m,hn,_⟩:=I6.loc;refine hRR _ _ H5 s6 qn ⟨m,hn⟩ I6.free (dq I3.sz (av _)) (Nat.ne_of_gt I3.lt) (fun x c e z=>?_) (fun p hp z=>?_) (I3.oP I6.os I6.base I6.af I6.bare fun b hb=>?_)
   ·obtain ⟨v,o,ho,_⟩:=I3.cell x c e;exact absurd (dr ho) (by rw [z];exact j8 _)
   ·exact absurd (dr (I3.pin p hp).1) (by rw [z];exact j8 _)
   ·obtain ⟨_,hL,_,hx,j5,hp⟩:=f2 b hb;exact ⟨hx,hL,j5,hp⟩
  ·refine ax (T.item (ix X scope cl N fp s3 (upd H s.heap.objs.size (.lst []))) rfl rfl rfl ND i [] s5 EH H5 _ I5 (ng IF) lG go) fun r s6 zz=>L2.WA zz fun u hr h6=>?_;subst hr;refine ax h6 fun _ s7 zz=>?_;obtain ⟨x,H7,I7,r7,y7,L6,fr7⟩:=zz;have I7':=I7.pinned (ng fr7) (T.obj _ _ L6);refine ax (hg _ s7 EH H7 x u _ I7' r7 (step x H7 y7)) fun _ s8 zz=>?_;obtain ⟨EG,H8,I8,q8⟩:=zz;refine ax (hif _ s8 EG H8 _ I8 q8) fun ok s9 zz=>?_;obtain ⟨H9,I9,q9⟩:=zz;have again:∀{s':Shared} {ae:St} {H':Hp},Inv (ix X scope cl N fp s3 (upd H s.heap.objs.size (.lst []))) ([]++Bx fp s7.heap) ae H' s'->Nx ae H'->
    ∃m,m<n/\∃i Bh OU,Inv (ix X scope cl N fp s3 (upd H s.heap.objs.size (.lst []))) [] Bh OU s'/\tn i s'.heap/\(∀b∈fp,OU b=none)/\W i m Bh OU:=fun {s' ae H'} I' n'=>by
    obtain ⟨m',hm,w'⟩:=hN ae H' n';refine ⟨m',hm,i+1,ae,H',I'.gN,T.keep _ _ _ L6 fun b hb o e=>(I'.pin (b,o) (jW _ (jW _ (Ho hb e)))).1,fun b hb=>?_,w'⟩;obtain ⟨o,e,_⟩:=T.obj _ _ L6 b hb;exact (I'.pin (b,o) (jW _ (jW _ (Ho hb e)))).2.1
   cases ok with
   | false=>exact again I9 q9
   | true=>
    refine ax (he _ s9 EG H9 _ I9 q9) fun yv LD zz=>?_;obtain ⟨y,tW,I10,r10,ys,hDD,MR,n10⟩:=zz;refine ax (qi _ LD EG tW (.ref s.heap.objs.size) [y] (.ref s.heap.objs.size) [yv] (fun _ H'=>Nx EG H') I10 rfl (.cons r10 .nil) ⟨_,ys,y,rfl,rfl,hDD,MR,n10⟩) fun _ LC zz=>?_;obtain ⟨_,OT,I11,_,n11⟩:=zz;exact again I11 n11
 have e4:({ s with heap:=b_,toks:=s.toks+([]:List (Str×Value)).length }:Shared)={ s3 with heap:=b_,toks:=s.toks+([]:List (Str×Value)).length }:=by rw [<-lQ]
 exact codeAny_compStart_list (loop _ e4) (T.self _ 0 _ _ _ gF (loop _ e4))
theorem Xz (hc:nZ X) (hi:PI X tg iter wi) (C:jB X.env.scope X.N scope N js)
 (hb:∀cl ex s H,nZ (ix X scope cl N ex s H)->PG (ix X scope cl N ex s H) tg g/\zN (ix X scope cl N ex s H) ifs tc/\PE (ix X scope cl N ex s H) elt te)
 (hs:∀x,foldedSetIterable iter X.env x=pure x:=by intro _;rfl):PE X (.ListComp elt [⟨tg,iter,ifs,0⟩] scope pos) (EV js wi g tc te):=by
 intro pins s σ H Q I h;obtain ⟨cl,j5,c2,c3⟩:=KJ (scope:=scope) (env:=X.env) fun x hx hf=>I.ok.has x.1 (C.free x hx hf).2;rw [eval_ListComp];refine wpAny_comprehension_free (use:=none) rfl hs j5 C.kind C.loc (ax (hi pins s σ H _ I h) fun xv ar b_=>ax b_ fun Ia g7 kI=>?_);obtain ⟨it,fp,tn,J,H2,rfl,I2,T,aZ,f2,q⟩:=kI;refine QI (RR:=fun acc C'=>compPost (model X.prog X.w) X.A X.xe none (EP X pins σ Q) acc C') hc C c2 c3 hb I2 T aZ f2 q ?_;intro D C' H' s' hq m5 pK hsz hL vt za I';obtain ⟨m,hn⟩:=m5;refine ⟨m,hn,fun h' sb=>⟨.ref D,H',?_,rfl,hq⟩⟩;exact I'.turned (t':=s'.toks) (fun b o hb e=>(sb.2 b hb).trans e) pK (aB (aB hL)) (.inr hsz) vt za
theorem qg (hc:X.calm=true) (hi:PI X tg iter wi) (C:jB X.env.scope X.N scope N js)
 (hb:∀cl ex s H,PG (ix X scope cl N ex s H) tg g/\zN (ix X scope cl N ex s H) ifs tc/\PE (ix X scope cl N ex s H) elt te)
 (hs:∀x,foldedSetIterable iter X.env x=pure x:=by intro _;rfl):PE X (.ListComp elt [⟨tg,iter,ifs,0⟩] scope pos) (EV js wi g tc te):=Xz (.inl hc) hi C (fun cl ex s H _=>hb cl ex s H) hs
theorem XS (hN:X.N.Nodup) (iS:X.N[i]?=some y) (hy:X.env.scope.names.lookup y=some .local) (hc:nZ X) (hi:PI X tg iter wi) (C:jB X.env.scope X.N scope N js)
 (hb:∀cl ex s H,nZ (ix X scope cl N ex s H)->PG (ix X scope cl N ex s H) tg g/\zN (ix X scope cl N ex s H) ifs tc/\PE (ix X scope cl N ex s H) elt te)
 (Mx:swapsWith (.ListComp elt [⟨tg,iter,ifs,0⟩] scope pos) (some (.Name y py)) yq.line X.env=pure true:=by rfl)
 (hs:∀x,foldedSetIterable iter X.env x=pure x:=by intro _;rfl):PS X (.Assign [.Name y py] (.ListComp elt [⟨tg,iter,ifs,0⟩] scope pos) yq) (Cb (EV js wi g tc te) (xq i)):=by
 intro pins s σ H D I h;obtain ⟨cl,j5,c2,c3⟩:=KJ (scope:=scope) (env:=X.env) fun x hx hf=>I.ok.has x.1 (C.free x hx hf).2;rw [exec_Assign_Name_used _ _ _ _ Mx];refine ah (wpAny_standAt (ah ?_));show wpAny _ X.A (do let _ <-comprehension (.ListComp elt [⟨tg,iter,ifs,0⟩] scope pos) scope X.env _ (newList []) false (eval iter X.env) (some (assign (.Name y py) X.env))) _ _ s;refine ah (wpAny_mono (wpAny_comprehension_free (use:=some (assign (.Name y py) X.env)) (Q:=fun _ s'=>SP X pins D .next s') rfl hs j5 C.kind C.loc (ax (hi pins s σ H _ I h) fun xv ar b_=>ax b_ fun Ia g7 kI=>?_))
  (fun _ s' hq=>aW (aW hq)) fun _ _ e=>e)
 obtain ⟨it,fp,tn,J,H2,rfl,I2,T,aZ,f2,q⟩:=kI;refine QI (Q:=fun x H1=>xq i x σ H1 D.nx) (RR:=fun acc C'=>compPost (model X.prog X.w) X.A X.xe (some (assign (.Name y py) X.env)) (fun _ s'=>SP X pins D .next s') acc C') hc C c2 c3 hb I2 T aZ f2 q ?_;intro Da C' H' s' hq m5 pK hsz hL vt za I';obtain ⟨m,hn⟩:=m5;show wpAny _ X.A (assign (.Name y py) X.env (.ref Da)) _ _ _;refine wpAny_assign_Name (Sa I' hN iS (.inl hy) (v:=.ref Da) rfl (fun s2 I2 hx=>?_) (.inr hy));obtain ⟨a,sba,ha⟩:=hx;have cK:C'≠a:=by
  rcases ha with z | z
  ·rw [z];exact hL
  ·exact fun e=>vt y a z e.symm
 refine ⟨m,hn.sameBut sba cK,fun h' sb=>⟨_,H',?_,hq⟩⟩;exact I2.turned (t':=s2.toks) (fun b o hb e=>(sb.2 b hb).trans e) pK hL (.inr hsz) vt za
theorem JU (hN:X.N.Nodup) (iS:X.N[i]?=some y) (hy:X.env.scope.names.lookup y=some .local) (hc:X.calm=true) (hi:PI X tg iter wi) (C:jB X.env.scope X.N scope N js)
 (hb:∀cl ex s H,PG (ix X scope cl N ex s H) tg g/\zN (ix X scope cl N ex s H) ifs tc/\PE (ix X scope cl N ex s H) elt te)
 (Mx:swapsWith (.ListComp elt [⟨tg,iter,ifs,0⟩] scope pos) (some (.Name y py)) yq.line X.env=pure true:=by rfl)
 (hs:∀x,foldedSetIterable iter X.env x=pure x:=by intro _;rfl):PS X (.Assign [.Name y py] (.ListComp elt [⟨tg,iter,ifs,0⟩] scope pos) yq) (Cb (EV js wi g tc te) (xq i)):=XS hN iS hy (.inl hc) hi C (fun cl ex s H _=>hb cl ex s H) Mx hs
end
section
theorem BX {lo:Int} {n:Nat} (Pv:Nat->St->Hp->Prop) (h0:Pv 0 (sQ js σ) (upd H D (.lst [])))
 (hs:∀i ae H',i<n->Pv i ae H'->g (.int (lo+i)) ae H' fun eJ H3=>tc eJ H3 fun ok H4=>if ok=true then te eJ H4 fun y H5=>∃ys,H5 D=some (.lst ys)/\ys.length<sizeLine/\Pv (i+1) eJ (upd H5 D (.lst (ys++[y]))) else Pv (i+1) eJ H4)
 (hd:∀ae H',Pv n ae H'->Q (.ref D) H'):
 Ab js g tc te σ Q (xi lo n) H D:=by
 refine ⟨fun i m σ H=>m=n-i/\i<=n/\Pv i σ H,⟨n,by simp,dP _,h0⟩,?_⟩;rintro i m ae H' ⟨rfl,hi,p⟩
 by_cases aF:i<n
 ·refine .inr ⟨aF,Pv (i+1),fun iW H2 p'=>⟨n-(i+1),vW aF,rfl,aF,p'⟩,fun x H2 y=>?_⟩;obtain ⟨e,y⟩:=y;subst e y;exact hs i ae _ aF p
 ·have e:i=n:=vX hi aF;subst e;exact .inl ⟨av _,hd ae H' p⟩
theorem xV {a:Addr} {xs:List V} (Pv:Nat->St->Hp->Prop) (h0:Pv 0 (sQ js σ) (upd H D (.lst []))) (hl:∀i ae H',i<=xs.length->Pv i ae H'->a9 K H' a xs)
 (hs:∀i x ae H',xs[i]?=some x->Pv i ae H'->g x ae H' fun eJ H3=>tc eJ H3 fun ok H4=>if ok=true then te eJ H4 fun y H5=>∃ys,H5 D=some (.lst ys)/\ys.length<sizeLine/\Pv (i+1) eJ (upd H5 D (.lst (ys++[y]))) else Pv (i+1) eJ H4)
 (hd:∀ae H',Pv xs.length ae H'->Q (.ref D) H'):
 Ab js g tc te σ Q (Bb K a) H D:=by
 refine ⟨fun i m σ H=>m=xs.length-i/\i<=xs.length/\Pv i σ H,⟨xs.length,by simp,dP _,h0⟩,?_⟩;rintro i m ae H' ⟨rfl,hi,p⟩;have q:=hl i ae H' hi p
 by_cases aF:i<xs.length
 ·refine .inr ⟨⟨xs,xs[i],q,by simp [aF]⟩,Pv (i+1),fun iW H2 p'=>⟨xs.length-(i+1),vW aF,rfl,aF,p'⟩,fun x H2 y=>?_⟩;obtain ⟨e,y⟩:=y;subst e;exact hs i x ae _ (y xs q) p
 ·have e:i=xs.length:=vX hi aF;subst e;exact .inl ⟨⟨xs,q,av _⟩,hd ae H' p⟩
end
end L2
set_option maxHeartbeats 4000000
namespace L2
open PySem PySem.Spec PyProof.Rows
abbrev tN:List Value:=[.type "ValueError",.type "Exception",.type "BaseException",.type "object"]
def jO (a C:Addr) (dx:Option Addr):HO:=.ext fun h=>∃t:Addr,h.get? a=some (gk C dx (.ref t) .none)
def ud (d:Addr) (fs:List (Str×V)):HO:=.ext fun h=>∃mA,h.Ns1 d mA/\(∀f,kf (fs.lookup f) (mA f))/\PySem.Within mA (fs.map (·.1))
section
theorem JR (e:h.get? a=some (gk C dx (.ref t) .none)):eK P w H h a (jO a C dx):=⟨⟨t,e⟩,⟨_,e⟩,fun _ _ ⟨t',e'⟩ k=>⟨t',k _ e'⟩⟩
theorem JQ (ok:eS P w H h) (e:H a=some (jO a C dx)):∃t:Addr,h.get? a=some (gk C dx (.ref t) .none):=(ok a _ e).1
theorem zB5 (n:h.Ns1 d mA) (r:∀f,kf (fs.lookup f) (mA f)) (wi:PySem.Within mA (fs.map (·.1))):eK P w H h d (ud d fs):=by refine ⟨⟨mA,n,r,wi⟩,?_,fun h1 h2 ⟨m,n1,r1,w1⟩ k=>⟨m,n1.at k,r1,w1⟩⟩;obtain ⟨o,_,_,e,_⟩:=n;exact ⟨o,e⟩
theorem zCz (e:H a=some o):upd H a o=H:=by
 funext b
 by_cases hb:b=a
 ·rw [hb,aq,e]
 ·rw [aj hb]
end
theorem Inv.lD (I:Inv X pins σ H s) (kp:∀b u,b≠a->s.heap.get? b=some u->h'.get? b=some u) (hf:H a=none)
 (hs:X.bX.heap.objs.size<=a) (hL:a≠X.env.locals) (hc:∀x c,X.env.cells.lookup x=some c->c≠a) (hp:∀p∈X.pn++pins,p.1≠a) (new:eK X.prog X.w (upd H a o) h' a o):Inv X pins σ (upd H a o) { s with heap:=h',toks:=t' }:=by
 have na:∀b u,H b=some u->b≠a:=fun b u e=>aP e hf;refine I.step (g':=s.gens) (d':=s.drawn) (ch:=[a]) (fun b hb=>?_) (fun b u _ _ hb e _=>kp b u (fun z=>hb (by simp [z])) e) (fun b u _ _ hb e _=>⟨u.slots,kp b u (fun z=>hb (by simp [z])) e⟩) (fun b u hb _ n=>by rw [aj fun z=>hb (by simp [z])];exact n)
  (fun b u hb e=>⟨u,kp b u (fun z=>hb (by simp [z])) e⟩) (fun b xs e=>by rw [aj (na b _ e)];exact e) (fun b u xs e=>by rw [aj (na b _ e)];exact e) (fun b ps e=>⟨#[],by rw [aj (na b _ e),e];simp⟩) (fun m hm=>?_) (fun b u e=>?_) I.bare
 ·have e:b=a:=by simpa using hb
  subst e;exact ⟨.inr hs,hL,hc,hp⟩
 ·obtain ⟨ob,es,ep,ho,r⟩:=hm;exact ⟨ob,es,ep,kp _ ob (aB hL) ho,r⟩
 ·by_cases hb:b=a
  ·subst hb;rw [aq] at e;cases e;exact new
  ·rw [aj hb] at e;refine (I.af b u e).eW (fun c v jE q=>kp c v ?_ q) (fun c q=>by rw [aj (na c _ q)];exact q) fun c xs q=>by rw [aj (na c _ q)];exact q
   rcases jE with z | z
   ·rw [z];exact hb
   ·exact na c _ z
structure sD (K:bE) (C M fI:Addr):Prop where
 obj:∃(nm q:Str) (N:Addr) (bs:List Value) (sn:List Str) (sub:List Value) (ab:Bool) (col:Option Bool) (dd:Option Addr) (k0 k1 k2 k3 k5:Option Value),
  K.lookup C=some (excClassObj nm q C N bs (.ref M::tN) true sn sub ab col dd k0 k1 k2 k3 k5 "ValueError.__new__")/\PySem.W.nsOkIn K N=true/\PySem.W.nsIn K N "__init__"=some (some (.ref fI))
 tail:PySem.W.tailIn K tN (.ref M::tN)=true
 fn:PySem.W.isFn K (.ref fI)=true
 kp:PySem.W.keepIn K (.ref C)=true
 sa:PySem.W.findIn K (.ref C) "__setattr__"=some (some (.builtin "object.__setattr__"))
theorem Zo {h:Heap} {N:Addr} {m:Str->Option Value} {n:Str} {v:Value} (X:K.In h) (G:h.Ns N m) (e:PySem.W.nsIn K N n=some (some v)):m n=some v:=by
 obtain ⟨o,es,ep,ho,hd,_,hf⟩:=G;unfold PySem.W.nsIn at e;split at e
 ·rename_i c d DH n' sl q
  have z:=X _ _ q;rw [ho] at z;cases z;cases hd;split at e
  ·rename_i en he
   cases e;rw [<-hf];unfold nsFind findBy;rw [<-Array.find?_toList,he];rfl
  ·split at e<;>cases e
 ·cases e
section
variable {os:OsState}
theorem Z_ (T:OwnTail h tN bm)
 (hC:h.get? C=some (excClassObj nm q C N bs bm vq sn sub ab col dd k0 k1 k2 k3 k5 "ValueError.__new__")) (hn:h.Ns N mN) (hi:mN "__init__"=some (.ref fI)) (Dq:h.get? fI=some oI) (Dn:oI.cls=.type "function")
 (hq:wpAny (model prog w) A (call (.ref fI) (.ref (h.objs.size+1)::args)) (fun r s'=>r=.none/\Q (.done (.ret (.ref (h.objs.size+1)))) s') E
  ⟨(h.push { cls:=.type "tuple",data:=.seq args.toArray }).push (gk C none (.ref h.objs.size) .none),g,d,t,os⟩) (hz:args.length<=sizeLine):
 wpAny (model prog w) A (Builtin.«type.__call__» ⟨.ref C::args,[]⟩) Q E ⟨h,g,d,t,os⟩:=by
 have F:=PySem.F.excBase_ValueError
 repeat (first | with_reducible refine wpAny_loadPart_at hC ?_ | with_reducible refine wpAny_madeBy_exc hC ?_ | wp_step)
 refine codeAny_call_builtin_code (Code.quiet_builtin _ F.quiet) (wpAny_check_new_subT F T hC ?_);refine codeAny_exc_new_subT F T hC ?_ hz;show wpAny _ _ _ _ _ _;have kp:∀b o,h.get? b=some o->((h.push { cls:=.type "tuple",data:=.seq args.toArray }).push (gk C none (.ref h.objs.size) .none)).get? b=some o:=
  fun b o e=>cR _ (cR _ e)
 have Wn:=kp _ _ hC;have Nv:=kp _ _ Dq;have zd:((h.push { cls:=.type "tuple",data:=.seq args.toArray }).push (gk C none (.ref h.objs.size) .none)).Ns N mN:=hn.keeps kp;have ff:((h.push { cls:=.type "tuple",data:=.seq args.toArray }).push (gk C none (.ref h.objs.size) .none)).get? (h.objs.size+1)=some (gk C none (.ref h.objs.size) .none):=by heap_get
 have hcC:(Value.ref C::bm).contains (.ref C)=true:=by simp
 have T1:=T.keeps kp;unfold isInstance
 repeat (first | with_reducible refine wpAny_loadPart_at ff ?_ | (with_reducible refine wpAny_isSubtype_exc Wn ?_;rw [hcC]) | wp_step)
 show wpAny _ _ (typeLookup (.ref C) _) _ _ _;refine wpAny_typeLookup_tail Wn zd T1 F.mroIs F.init.lookup ?_;rw [hi];refine wpAny_holding (ah ?_);unfold bindSpecial;refine ah (wpAny_typeOf (T:="function") ⟨_,Nv,Dn⟩ ?_);rw [if_pos (by decide)];refine aW (ah (wpAny_mono hq (fun r s' hr=>?_) fun _ _ x=>x));obtain ⟨rfl,hQ⟩:=hr
 wp_walk
 exact hQ
theorem Xf (T:OwnTail h tN bm)
 (hC:h.get? C=some (excClassObj nm q C N bs bm vq sn sub ab col dd k0 k1 k2 k3 k5 "ValueError.__new__")) (hn:h.Ns N mN) (hi:mN "__init__"=some (.ref fI)) (Dq:h.get? fI=some oI) (Dn:oI.cls=.type "function")
 (hq:wpAny (model prog w) (A.under (.builtin "type.__call__" ⟨.ref C::args,[]⟩)) (call (.ref fI) (.ref (h.objs.size+1)::args)) (fun r s'=>r=.none/\Q (.ref (h.objs.size+1)) s') E
  ⟨(h.push { cls:=.type "tuple",data:=.seq args.toArray }).push (gk C none (.ref h.objs.size) .none),g,d,t,os⟩) (hz:args.length<=sizeLine):
 wpAny (model prog w) A (call (.ref C) args) Q E ⟨h,g,d,t,os⟩:=by
 have f1:=tc_lookup;have f2:=tc_bind (.ref C);have hT:(⟨h,g,d,t,os⟩:Shared).TypeIs (.ref C) "type":=⟨_,hC,rfl⟩;refine wpAny_call (codeAny_of_tree ?_);show wpAny _ _ (callAny (.ref C) _) _ _ _
 repeat (any_goals (first | assumption | with_reducible refine wpAny_loadPart_at hC ?_ | wp_step))
 refine ⟨rfl,?_⟩;refine codeAny_call_builtin_at (Code.quiet_builtin _ (by decide+kernel)) entry_typeCall (wpAny_check_type_call_sub hC (Z_ T hC hn hi Dq Dn ?_ hz));exact hq
end
def zC4 (C:Addr) (sp:Sp) (E:XK) (t:TA):TE:=fun σ H Q=>t σ H fun vs H1=>vs.length<=sizeLine/\∀x,H1 x=none->sp (.ref x::vs) (upd H1 x (jO x C none)) (fun v H2=>v=.aR/\Q (.ref x) H2) E
section
theorem YS {pins:List (Addr×Obj)} {σ:St} {H:Hp} {s:Shared} {Q:VK} {us:List Value} {vs:List V} (M:sD X.K C Mo f) (F:au X.prog X.w X.K X.mg X.base CX k f fd ps sp) (hr:cJ (k+1) X.A) (hb:eT X.K fd ps [])
 (hx:qF CX X E) (I:Inv X pins σ H s) (r:bq vs us) (hz:vs.length<=sizeLine)
 (hq:∀x,H x=none->sp (.ref x::vs) (upd H x (jO x C none)) (fun v H2=>v=.aR/\Q (.ref x) H2) E):wpAny (model X.prog X.w) X.A (call (.ref C) us) (EP X pins σ Q) X.xe s:=by
 obtain ⟨nm,q,N,bs,sn,sub,ab,col,dd,k0,k1,k2,k3,k5,lk,nok,ini⟩:=M.obj;have hK:=I.gG;have hC:=hK _ _ lk;have T:=PySem.W.tail_of_in hK M.tail;have m5:s.heap.Ns N (s.heap.nsMap N):=.of_isNs (PySem.W.isNs_of_in hK nok);have gp:=Zo hK m5 ini;have hlf:∃oI,s.heap.get? f=some oI/\oI.cls=.type "function":=by
  have ty:PySem.W.typeIn X.K (.ref f)=some (.type "function"):=beq_iff_eq.mp M.fn;unfold PySem.W.typeIn at ty
  cases hl:X.K.lookup f with
  | none=>simp [hl] at ty
  | some o=>exact ⟨o,hK _ _ hl,by simpa [hl] using ty⟩
 obtain ⟨oI,Dq,Dn⟩:=hlf;have h1:=hq (s.heap.objs.size+1) (I.af.fresh (oS _));have kp:∀b o,s.heap.get? b=some o->((s.heap.push { cls:=.type "tuple",data:=.seq us.toArray }).push (gk C none (.ref s.heap.objs.size) .none)).get? b=some o:=
  fun b o e=>cR _ (cR _ e)
 have ff:((s.heap.push { cls:=.type "tuple",data:=.seq us.toArray }).push (gk C none (.ref s.heap.objs.size) .none)).get? (s.heap.objs.size+1)=some (gk C none (.ref s.heap.objs.size) .none):=by
  have z:=jY (s.heap.push { cls:=.type "tuple",data:=.seq us.toArray }) (o:=gk C none (.ref s.heap.objs.size) .none) rfl
  rwa [Heap.size_push] at z
 have I2:Inv X pins σ (upd H (s.heap.objs.size+1) (jO (s.heap.objs.size+1) C none)) { s with heap:=(s.heap.push { cls:=.type "tuple",data:=.seq us.toArray }).push (gk C none (.ref s.heap.objs.size) .none) }:=
  I.laid (t':=s.toks) kp (oS _) (JR ff)
 have r2:bq (V.ref (s.heap.objs.size+1)::vs) (Value.ref (s.heap.objs.size+1)::us):=.cons rfl r;have hl:(Value.ref (s.heap.objs.size+1)::us).length=ps.length:=by rw [<-r2.length];exact F.len _ _ _ _ h1
 have iB:=hb { s with heap:=(s.heap.push { cls:=.type "tuple",data:=.seq us.toArray }).push (gk C none (.ref s.heap.objs.size) .none) } (Value.ref (s.heap.objs.size+1)::us) I2.gG (by simpa using hl);rw [List.append_nil] at iB;obtain ⟨hh,gg,se,tt,oo⟩:=s;refine Xf T hC m5 gp Dq Dn ?_ (by rw [<-r.length];exact hz);refine wpAny_call (codeAny_mono (F.run _ X.stack _ _ ⟨Value.ref (hh.objs.size+1)::us,[]⟩ (Value.ref (hh.objs.size+1)::us) _ _ E (hr.make C us []) (I2.vy.make C us []) iB r2 h1) fun r s' jy=>?_)
 cases r with
 | error e=>exact hx pins σ _ _ e s' I2 jy
 | ok fl=>
  cases fl with
  | ret u=>
   obtain ⟨v,H',I3,rv,ev,q3⟩:=I2.after jy;subst ev;exact ⟨rv,⟨V.ref (hh.objs.size+1),H',I3,rfl,q3⟩⟩
  | next=>exact hV jy
  | brk=>exact hV jy
  | cont=>exact hV jy
theorem X1 (M:sD X.K C Mo f) (F:au X.prog X.w X.K X.mg X.base CX k f fd ps sp) (hr:cJ (k+1) X.A) (hg:Gl X x) (hm:X.mg x=some (.ref C)) (hb:eT X.K fd ps []) (hx:qF CX X E)
 (ha:PA X (e::es) t) (lW:(x==("__debug__":Str))=false:=by decide) (he:starEach (e::es) X.env=(false,eval e X.env)::starEach es X.env:=by rfl) (eP:(backTo pos (starEach es X.env)).any (·.1)=false:=by rfl):
 PE X (.Call (.Name x p) (e::es) [] pos) (zC4 C sp E t):=by
 intro pins s σ H Q I h;refine wpAny_Call_Name_kw (xG I hg hm ?_ lW);refine DW (h₀:=X.base) I.ok.mod.wG M.kp (ax (ha pos pins s σ H _ I h) fun us s1 zz=>?_) he eP;obtain ⟨vs,H1,I1,r,z,q⟩:=zz;refine ⟨I1.gG,?_⟩;exact YS M F hr hb hx I1 r z q
end
theorem YH (I:Inv X pins σ H s) (M:sD X.K C Mo f)
 (hH:H x=some (jO x C dx)) (hz:us.length<=sizeLine) (hq:∀s',Inv X pins σ H s'->Q .none s'):wpAny (model X.prog X.w) A (call (.builtin "ValueError.__init__") (.ref x::us)) Q E s:=by
 obtain ⟨nm,q,N,bs,sn,sub,ab,col,dd,k0,k1,k2,k3,k5,lk,_⟩:=M.obj;have hK:=I.gG;have hC:=hK _ _ lk;have T:=PySem.W.tail_of_in hK M.tail;have F:=PySem.F.excBase_ValueError;obtain ⟨t,ff⟩:=JQ I.af hH;have fin:∀(v:Addr) (tk:Nat),Inv X pins σ H { s with heap:=(s.heap.push { cls:=.type "tuple",data:=.seq us.toArray }).update x (Obj.mapFields (·.setIfInBounds 0 (.ref v))),toks:=tk }:=fun v tk=>by
  have e1:(s.heap.push { cls:=.type "tuple",data:=.seq us.toArray }).get? x=some (gk C dx (.ref t) .none):=cR _ ff;have e2:((s.heap.push { cls:=.type "tuple",data:=.seq us.toArray }).update x (Obj.mapFields (·.setIfInBounds 0 (.ref v)))).get? x=some (gk C dx (.ref v) .none):=tU _ e1 rfl;have z:=I.write (x:=x) (e:=x) (o:=jO x C dx) (h':=(s.heap.push { cls:=.type "tuple",data:=.seq us.toArray }).update x (Obj.mapFields (·.setIfInBounds 0 (.ref v)))) (t':=tk) (by rw [hH];exact True.intro) (.inl rfl)
   (fun b u hb e=>(kX _ _ (aB hb)).trans (cR _ e)) ⟨_,e2⟩ (JR e2)
  rwa [zCz hH] at z
 obtain ⟨hh,gg,se,tt,oo⟩:=s;refine wpAny_call (codeAny_call_builtin F.init.plain F.initEntry (wpAny_check_init_subT F T hC ff rfl ?_))
 wp_walk
 exact hq _ (fin _ _)
open PySem PySem.Spec PyProof.Rows Builtin Builtin.ObjectAttr
structure TV (K:bE) (Mo:Addr):Prop where
 ty:PySem.W.typeIn K (.ref Mo)=some (.type "type")
 ga:PySem.W.specialIn K (.ref Mo) "__getattribute__"=some (some (.builtin "type.__getattribute__"))
 gt:PySem.W.findIn K (.type "type") "__getattribute__"=some (some (.builtin "type.__getattribute__"))
 op:PySem.W.nsIn K cStatics "thirdparty.any"=some none
 fc:PySem.W.findCls K (.ref Mo) (.type "type") "__init__"=some (.val (.builtin "ValueError.__init__"))
 si:PySem.W.subIn K (.type "type") (.type "type")=some true
def zE0 (K:bE) (t:TA):TE:=fun σ H Q=>t σ H fun vs H1=>∃x rest C Mo f dx,vs=.ref x::rest/\H1 x=some (jO x C dx)/\sD K C Mo f/\rest.length<=sizeLine/\Q .aR H1
theorem zBm (B:TV X.K Mo) (hg:Gl X x) (hm:X.mg x=some (.ref Mo)) (ha:PA X (e::es) t) (lW:(x==("__debug__":Str))=false:=by decide)
 (rK:starEach (e::es) X.env=(false,eval e X.env)::starEach es X.env:=by rfl) (eP:(backTo pos (starEach es X.env)).any (·.1)=false:=by rfl)
 (ht:eval (.Call (.Attribute (.Name x p) "__init__" apos) (e::es) [] pos) X.env=(do
  let ov <-eval (.Name x p) X.env
  standAt apos.atName
  let (f,first) <-holding [ov] (getMethod ov "__init__" pl)
  callWith pos f first (backTo pos (starEach (e::es) X.env)) (backToKw pos (keywordEach [] X.env))):=by rfl):
 PE X (.Call (.Attribute (.Name x p) "__init__" apos) (e::es) [] pos) (zE0 X.K t):=by
 intro pins s σ H Q I h;refine PySem.W.methodCall_KW (pl:=pl) (xG I hg hm ?_ lW) ht;unfold getMethod;refine ah ((PySem.W.looks_specialIn I.gG B.ga).here ?_);dsimp only;rw [if_pos (by decide+kernel)];refine ah (PySem.W.cls_open I.gG (PySem.W.looks_opaque I.gG B.op) (PySem.W.looks_typeIn I.gG B.ty) B.gt (PySem.W.looks_hook I.gG rfl) B.si B.fc ?_);refine aW ?_;show wpAny _ _ (handedOut (.builtin "ValueError.__init__")) _ _ _;rw [PySem.W.handedOut_of (by decide+kernel)];refine aW (aW ?_);refine PyProof.Rows.callWith_builtin1 (ax (ha pos pins _ σ H _ (I.tok _) h) fun us s1 zz=>?_) rK eP;obtain ⟨vs,H1,I1,r1,y,rest,C,Mo',f,dx,e1,hH,M,hz,q⟩:=zz;subst e1
 cases r1 with
 | cons ra rb=>
  cases ra;exact YH I1 M hH (by rw [<-rb.length];exact hz) fun s2 I2=>⟨.aR,H1,I2,rfl,q⟩
theorem ZH {X:Cx} {A:Around} {E:Value->Shared->Prop} {C Mo f0 x:Addr} {dx:Option Addr} {pins:List (Addr×Obj)} {σ:St} {H:Hp} {s:Shared} {Q:Unit->Shared->Prop} {nm:Str} {y:V} {u:Value} (I:Inv X pins σ H s) (M:sD X.K C Mo f0)
 (na:PySem.W.findIn X.K (.ref C) nm=some none) (hH:H x=some (jO x C none)) (ru:bU y u)
 (hq:∀d s',H d=none->d≠x->Inv X pins σ (upd (upd H x (jO x C (some d))) d (ud d [(nm,y)])) s'->Q () s'):wpAny (model X.prog X.w) A (setAttr (.ref x) nm u) Q E s:=by
 obtain ⟨cnm,q,N,bs,sn,sub,ab,col,dd,k0,k1,k2,k3,k5,lk,_⟩:=M.obj;have hK:=I.gG;have hC:=hK _ _ lk;have SF:=PySem.F.store_object;obtain ⟨t,ff⟩:=JQ I.af hH;have LT:PySem.W.Looks (model X.prog X.w) s.heap (typeOf (.ref x)) (.ref C):=(PySem.W.Looks.ld ff).andThen .now;have j5:PySem.W.clsIn X.K C=some { name:=cnm,bases:=bs,mro:=.ref C::.ref Mo::tN,ns:=N,qualname:=q,hasDict:=true,slotNames:=sn,subclasses:=sub,abstract:=ab,collection:=col,hasDel:=false }:=by unfold PySem.W.clsIn;rw [lk]
 have LM:PySem.W.Looks (model X.prog X.w) s.heap (mroOf (.ref C)) (.ref C::.ref Mo::tN):=(PySem.W.looks_clsIn hK j5).andThen .now;have L5:PySem.W.Looks (model X.prog X.w) s.heap (isInstance (.ref x) (.type "object")) true:=LT.andThen (PySem.W.looks_mroIn hK (by unfold PySem.W.mroIn;rw [j5];rfl));have Mi:x≠s.heap.objs.size:=h_ (dr ff);have fin:∀(h':Heap) (tk:Nat),h'.Ns1 s.heap.objs.size (fun z=>if z=nm then some u else none)->
  Heap.SameBut s.heap.objs.size ((s.heap.push { cls:=.type "dict",data:=.dict #[] }).update x fun o=>{ cls:=o.cls,dict:=some s.heap.objs.size,data:=o.data,slots:=o.slots }) h'->Q () { s with heap:=h',toks:=tk }:=fun h' tk n1 sb=>by
  refine hq s.heap.objs.size _ I.fresh (aB Mi) ?_;have e1:(s.heap.push { cls:=.type "dict",data:=.dict #[] }).get? x=some (gk C none (.ref t) .none):=cR _ ff;have e2:((s.heap.push { cls:=.type "dict",data:=.dict #[] }).update x fun o=>{ cls:=o.cls,dict:=some s.heap.objs.size,data:=o.data,slots:=o.slots }).get? x=some (gk C (some s.heap.objs.size) (.ref t) .none):=tU _ e1 rfl;have I1:=I.write (x:=x) (e:=x) (o:=jO x C (some s.heap.objs.size)) (h':=(s.heap.push { cls:=.type "dict",data:=.dict #[] }).update x fun o=>{ cls:=o.cls,dict:=some s.heap.objs.size,data:=o.data,slots:=o.slots }) (t':=s.toks)
   (by rw [hH];exact True.intro) (.inl rfl) (fun b v hb e=>(kX _ _ (aB hb)).trans (cR _ e)) ⟨_,e2⟩ (JR e2)
  have e3:((s.heap.push { cls:=.type "dict",data:=.dict #[] }).update x fun o=>{ cls:=o.cls,dict:=some s.heap.objs.size,data:=o.data,slots:=o.slots }).objs.size=s.heap.objs.size+1:=by rw [Heap.size_after_update,Heap.size_push]
  have hf:upd H x (jO x C (some s.heap.objs.size)) s.heap.objs.size=none:=by rw [aj (aB Mi)];exact I.fresh
  have hd0:X.bX.heap.objs.size<=s.heap.objs.size:=I.sz;have kp:∀b o,b≠s.heap.objs.size->((s.heap.push { cls:=.type "dict",data:=.dict #[] }).update x fun o=>{ cls:=o.cls,dict:=some s.heap.objs.size,data:=o.data,slots:=o.slots }).get? b=some o->h'.get? b=some o:=fun b o hb e=>(sb.2 b hb).trans e;have new:eK X.prog X.w (upd (upd H x (jO x C (some s.heap.objs.size))) s.heap.objs.size (ud s.heap.objs.size [(nm,y)])) h' s.heap.objs.size (ud s.heap.objs.size [(nm,y)]):=by
   refine zB5 n1 (fun z=>?_) (fun z hz=>?_)
   ·show kf (List.lookup z [(nm,y)]) (if z=nm then some u else none);rw [gv]
    by_cases e:z=nm
    ·subst e;rw [pU,if_pos rfl];exact ru
    ·rw [show (z==nm)=false from beq_eq_false_iff_ne.mpr e,if_neg e];exact True.intro
   ·by_cases e:z=nm
    ·subst e;exact dN
    ·exact absurd (if_neg e) hz
  exact I1.lD (t':=tk) kp hf hd0 (fun z=>by
   have:=I.lt;rw [z] at this;exact j8 _ this) (fun y' c e z=>by
   obtain ⟨v,o,ho,_⟩:=I.cell y' c e;have:=dr ho;rw [z] at this;exact j8 _ this) (fun p hp z=>by
   have:=dr (I.pin p hp).1;rw [z] at this;exact j8 _ this) new
 obtain ⟨hh,gg,se,tt,oo⟩:=s;unfold setAttr;refine ah (wpAny_mkText (ah ?_));unfold callSpecial? specialOf;refine ah (ah (LT.at ((PySem.W.looks_findIn hK M.sa).at (wpAny_holding (ah ?_)))));rw [SF.slot.bind];refine aW (ah (wpAny_call (codeAny_call_builtin SF.slot.plain SF.entry (@PySem.W.check_slot (model X.prog X.w) _ _ ⟨hh,gg,se,tt+1,oo⟩ "object.__setattr__" "object" "__setattr__" (.ref x) [.str nm tt,u] [] _ SF.kind SF.split L5 (SF.args (.ref x) (.str nm tt) u) ?_))));show wpAny _ A.in1 (Builtin.«object.__setattr__» ⟨[.ref x,.str nm tt,u],[]⟩) _ _ _;rw [PySem.W.osa_eq,refuse_eq];refine ah (ah (LT.at (ah (LM.at ?_))));rw [refuseLoop_ref,refuseLoop_ref,PySem.F.store_ValueError.passes];refine aW (ah (LT.at (ah ((PySem.W.looks_findIn hK na).at (ah (aW ?_))))));refine ah (aW (ah (ah (wpAny_loadPart (o:=gk C none (.ref t) .none) ff (ah ((PySem.W.looks_clsIn hK j5).at ?_))))));have CH:(hh.push { cls:=.type "dict",data:=.dict #[] }).get? x=some (gk C none (.ref t) .none):=cR _ ff;refine ah (wpAny_alloc' ?_);refine ah (wpAny_update' CH ?_);refine aW ?_;have hgd:((hh.push { cls:=.type "dict",data:=.dict #[] }).update x fun o=>{ cls:=o.cls,dict:=some hh.objs.size,data:=o.data,slots:=o.slots }).get? hh.objs.size=some { cls:=.type "dict",data:=.dict #[] }:=
  (Heap.get?_update_ne _ _ _ _ Mi.symm).trans (Heap.get?_push_at rfl rfl)
 have pI:((hh.push { cls:=.type "dict",data:=.dict #[] }).update x fun o=>{ cls:=o.cls,dict:=some hh.objs.size,data:=o.data,slots:=o.slots }).Ns hh.objs.size (fun _=>none):=
  ⟨_,#[],_,hgd,rfl,fun e he=>absurd he (by simp),fun _=>rfl⟩
 show wpAny _ _ (storeInDict hh.objs.size (.str nm tt) nm u) _ _ _;unfold storeInDict newKeyGuard;refine ah (aW (ah (wpAny_nsSet1 (Heap.Ns1.of_empty pI) fun h' Im hs=>?_)));obtain ⟨oD,esD,epD,ML,Nz,NF⟩:=Im.count (Within.cons nm u Within.nil);refine ah (wpAny_lookBehind ML (by rw [Nz];exact pastItsLine_dict (dq NF (by rw [mf,ON,sizeLine_eq];lia))) ?_)
 wp_walk
 exact fin _ _ Im hs
def zFa (K:bE) (ta tv:TE) (f:Str):TS:=fun D σ H=>tv σ H fun y H1=>ta σ H1 fun x H2=>∃a C Mo f0,x=.ref a/\H2 a=some (jO a C none)/\sD K C Mo f0/\PySem.W.findIn K (.ref C) f=some none/\
 ∀d,H2 d=none->d≠a->D.nx σ (upd (upd H2 a (jO a C (some d))) d (ud d [(f,y)]))
theorem zBe {X:Cx} {o value:Expr} {f:Str} {pos pos':Pos} {ta tv:TE} (ha:PE X o ta) (hv:PE X value tv) (hs:swapsWith value (some (.Attribute o f pos')) pos.line X.env=pure false):PS X (.Assign [.Attribute o f pos'] value pos) (zFa X.K ta tv f):=by intro pins s σ H D I h;refine plainObj_wpAny_Assign_Attribute (ax (hv pins s σ H _ I h) fun u s1 zz=>L2.fi zz fun y H1 I1 ry q=>ax (ha pins s1 σ H1 _ I1 q) fun ov s2 zz=>?_) hs;obtain ⟨x,H2,I2,rx,a,C,Mo,f0,ex,ea,M,na,q2⟩:=zz;subst ex;obtain rfl:ov=Value.ref a:=rx;exact ZH (dx:=none) I2 M na ea ry fun d s3 hd hda I3=>⟨σ,_,I3,q2 d hd hda⟩
def p_ (h0 h:Heap) (H:Hp) (a C:Addr) (dx:Option Addr):Prop:=
 h0.get? a=none/\H a=none/\∃t tb,h.get? a=some (gk C dx t tb)/\
  (tb=.none\/∃T oT ts,tb=.ref T/\T≠a/\h0.get? T=none/\H T=none/\h.get? T=some oT/\oT.data=.fields ts/\ts[3]?=some .none)
def JO (h0 h:Heap) (H:Hp) (a C:Addr) (dx:Option Addr) (L:Addr):Prop:=
 h0.get? a=none/\H a=none/\∃t T oT ts,h.get? a=some (gk C dx t (.ref T))/\T≠a/\h0.get? T=none/\H T=none/\h.get? T=some oT/\oT.data=.fields ts/\ts[3]?=some (rawInt L)
def om (fs:List Addr) (h0 h h':Heap) (H:Hp):Prop:=
 (∀b o,(H b≠none\/h0.get? b≠none)->b∉fs->h.get? b=some o->h'.get? b=some o)/\∀b o,(H b≠none\/h0.get? b≠none)->h.get? b=some o->∃sl,h'.get? b=some { o with slots:=sl }
theorem om.trans (x:om fs h0 h1 h2 H) (y:om fs h0 h2 h3 H):om fs h0 h1 h3 H:=
 ⟨fun b o z hb e=>y.1 b o z hb (x.1 b o z hb e),fun b o z e=>by
  obtain ⟨_,e1⟩:=x.2 b o z e;obtain ⟨sl,e2⟩:=y.2 b _ z e1;exact ⟨sl,e2⟩⟩
theorem zG5 (C:Addr) (dx:Option Addr) (t tb v:Value):Obj.mapFields (·.setIfInBounds 1 v) (gk C dx t tb)=gk C dx t v:=by simp [Obj.mapFields]
section
theorem Rw (pK:A.frames=some (env::outer)) (hl:s.heap.FunFrames base (env::outer)) (hf:env.frame=some L)
 (he:s.heap.get? a=some (gk C dx t tb)) (Ws:h0.get? a=none) (Wk:H a=none) (AE:∀b o,h0.get? b=some o->∃o',s.heap.get? b=some o') (iA:∀b,s.heap.objs.size<=b->H b=none)
 (hq:∀h',JO h0 h' H a C dx L->om (je (env::outer)) h0 s.heap h' H->Q () { s with heap:=h' }):
 wpAny M A (do let fr <-frameOf env;let pl <-entryPlaceOf L IB;let b <-EntryCells.newEntry head fr .none (rawInt L) .none pl;setField (.ref a) 1 b) Q E s:=by
 have CV:a∉je (env::outer):=fun hm=>by obtain ⟨_,o,ho,MP⟩:=hl.mem hm;rw [he] at ho;cases ho;exact MP _ rfl
 refine ah (wpAny_frameOf_fun pK hl hf fun b_ lO=>?_);refine ah (wpAny_entryPlaceOf fun pl eP=>?_);unfold EntryCells.newEntry newFields;refine ah (wpAny_newObj_type ?_ (eP.sizeOk5 _ _ _ _ _));have V':b_.get? a=some (gk C dx t tb):=(lO.2.1 a CV).trans he;have VZ:=cR (h:=b_) { cls:=.type "traceback",dict:=none,data:=.fields ([head,.ref L,.none,rawInt L,.none]++(if pl.isEmpty then List.replicate 6 Value.none else pl)).toArray } V';refine wpAny_setField VZ rfl (by simp) ?_;have qr:b_.objs.size≠a:=Nat.ne_of_gt (dr V');have he3:=(tU (Obj.mapFields (·.setIfInBounds 1 (Value.ref b_.objs.size))) VZ rfl).trans (congrArg some (zG5 C dx t tb (.ref b_.objs.size)));have hT3:=(kX (b_.push { cls:=.type "traceback",dict:=none,data:=.fields ([head,.ref L,.none,rawInt L,.none]++(if pl.isEmpty then List.replicate 6 Value.none else pl)).toArray })
  (Obj.mapFields (·.setIfInBounds 1 (Value.ref b_.objs.size))) (aB qr)).trans (jY b_ rfl)
 have kb:∀b o,b≠a->b_.get? b=some o->((b_.push { cls:=.type "traceback",dict:=none,data:=.fields ([head,.ref L,.none,rawInt L,.none]++(if pl.isEmpty then List.replicate 6 Value.none else pl)).toArray }).update a (Obj.mapFields (·.setIfInBounds 1 (Value.ref b_.objs.size)))).get? b=some o:=
  fun b o hb e=>(kX _ _ (aB hb)).trans (cR _ e)
 have ne:∀b,(H b≠none\/h0.get? b≠none)->b≠a:=fun b z e=>by subst e;exact z.elim (fun q=>q Wk) fun q=>q Ws
 refine hq _ ⟨Ws,Wk,t,b_.objs.size,_,_,he3,qr,(by
  cases q:h0.get? b_.objs.size with
  | none=>rfl
  | some o=>
   obtain ⟨o',e'⟩:=AE _ o q;exact absurd (dr e') (by rw [lO.1];exact j8 _)),iA _ (by rw [lO.1];exact av _),hT3,rfl,by simp⟩ ⟨fun b o z hb e=>?_,fun b o z e=>?_⟩
 ·exact kb b o (ne b z) ((lO.2.1 b hb).trans e)
 ·obtain ⟨sl,e1⟩:=lO.2.2 b o e;exact ⟨sl,kb b _ (ne b z) e1⟩
theorem Q5 (pK:A.frames=some (env::outer)) (hl:s.heap.FunFrames base (env::outer)) (hf:env.frame=some L) (fl:p_ h0 s.heap H a C dx) (AE:∀b o,h0.get? b=some o->∃o',s.heap.get? b=some o') (iA:∀b,s.heap.objs.size<=b->H b=none)
 (hq:∀h',JO h0 h' H a C dx L->om (je (env::outer)) h0 s.heap h' H->Q () { s with heap:=h' }):wpAny M A (noteFrame (.ref a) env) Q E s:=by
 obtain ⟨f1,f2,t,tb,he,hb⟩:=fl;unfold noteFrame;simp only [hf];rcases hb with rfl | ⟨T,oT,ts,rfl,qr,nK,zw,hT,hd,h3⟩
 ·refine ah (wpAny_field he rfl (x:=.none) rfl ?_);rw [if_neg (by decide)];exact Rw pK hl hf he f1 f2 AE iA hq
 ·refine ah (wpAny_field he rfl (x:=.ref T) rfl ?_);rw [if_pos (show (Value.ref T !=Value.none)=true from by simp)];refine ah (wpAny_field hT hd h3 ?_);rw [if_neg (show ¬((Value.none==rawInt L)=true) from by simp [rawInt])];refine ah (wpAny_setField hT hd (DV.mp h3).1 ?_);have other:∀b,b≠T->(s.heap.update T (Obj.mapFields (·.setIfInBounds 3 Value.none))).get? b=s.heap.get? b:=fun b hb=>kX _ _ (aB hb);have noT:∀b o,s.heap.get? b=some o->(∀vs,o.data≠.fields vs)->b≠T:=fun b o e hn q=>by
   rw [q,hT] at e;cases e;exact hn ts hd
  have neT:∀b,(H b≠none\/h0.get? b≠none)->b≠T:=fun b z e=>by subst e;exact z.elim (fun q=>q zw) fun q=>q nK
  have sze:(s.heap.update T (Obj.mapFields (·.setIfInBounds 3 Value.none))).objs.size=s.heap.objs.size:=Heap.size_after_update ..;refine Rw (s:={ s with heap:=s.heap.update T (Obj.mapFields (·.setIfInBounds 3 Value.none)) }) pK (hl.of_keeps fun b o e hn=>⟨o,(other b (noT b o e hn)).trans e,rfl⟩) hf ((other a (aB qr)).trans he) f1 f2
   (fun b o e=>by
    obtain ⟨o',e'⟩:=AE b o e;exact ⟨o',(other b fun z=>by rw [z,nK] at e;cases e).trans e'⟩) (fun b hb=>iA b (by rw [sze] at hb;exact hb)) fun h' n k=>hq h' n ⟨fun b o z hb e=>k.1 b o z hb ((other b (neT b z)).trans e),fun b o z e=>k.2 b o z ((other b (neT b z)).trans e)⟩
theorem Q0 (n:JO h0 s.heap H a C dx L) (hq:∀h',p_ h0 h' H a C dx->om [] h0 s.heap h' H->Q () { s with heap:=h' }):wpAny M A (setFlight (.ref a) none) Q E s:=by
 obtain ⟨f1,f2,t,T,oT,ts,he,qr,nK,zw,hT,hd,h3⟩:=n;have neT:∀b,(H b≠none\/h0.get? b≠none)->b≠T:=fun b z e=>by subst e;exact z.elim (fun q=>q zw) fun q=>q nK
 have lQ:3<ts.size:=(DV.mp h3).1;unfold setFlight;refine ah (wpAny_field he rfl (x:=.ref T) rfl ?_);rw [if_pos (show (Value.ref T !=Value.none)=true from by simp)];refine wpAny_setField hT hd lQ (hq _ ⟨f1,f2,t,.ref T,(kX _ _ qr).trans he,.inr ⟨T,_,_,rfl,qr,nK,zw,tU _ hT (Obj.isFreed_of_fields (zI hd _)),zI hd _,by simp [lQ]⟩⟩ ⟨fun b o z _ e=>?_,fun b o z e=>⟨o.slots,?_⟩⟩)
 ·exact (kX _ _ (aB (neT b z))).trans e
 ·exact (kX _ _ (aB (neT b z))).trans e
theorem X' (fl:p_ h0 s.heap H a C dx) (hq:∀h',p_ h0 h' H a C dx->om [] h0 s.heap h' H->Q () { s with heap:=h' }):wpAny M A (setFlight (.ref a) none) Q E s:=by
 obtain ⟨f1,f2,t,tb,he,hb⟩:=id fl;rcases hb with rfl | ⟨T,oT,ts,rfl,qr,nK,zw,hT,hd,h3⟩
 ·unfold setFlight;refine ah (wpAny_field he rfl (x:=.none) rfl ?_);rw [if_neg (by decide)];exact aW (hq s.heap fl ⟨fun _ _ _ _ e=>e,fun _ o _ e=>⟨o.slots,e⟩⟩)
 ·have neT:∀b,(H b≠none\/h0.get? b≠none)->b≠T:=fun b z e=>by
   subst e;exact z.elim (fun q=>q zw) fun q=>q nK
  have lQ:3<ts.size:=(DV.mp h3).1;unfold setFlight;refine ah (wpAny_field he rfl (x:=.ref T) rfl ?_);rw [if_pos (show (Value.ref T !=Value.none)=true from by simp)];refine wpAny_setField hT hd lQ (hq _ ⟨f1,f2,t,.ref T,(kX _ _ qr).trans he,.inr ⟨T,_,_,rfl,qr,nK,zw,tU _ hT (Obj.isFreed_of_fields (zI hd _)),zI hd _,by simp [lQ]⟩⟩ ⟨fun b o z _ e=>?_,fun b o z e=>⟨o.slots,?_⟩⟩)
  ·exact (kX _ _ (aB (neT b z))).trans e
  ·exact (kX _ _ (aB (neT b z))).trans e
theorem RD (pK:A.frames=some (env::outer)) (hl:s.heap.FunFrames base (env::outer)) (hf:env.frame=some L) (fl:p_ h0 s.heap H a C dx) (AE:∀b o,h0.get? b=some o->∃o',s.heap.get? b=some o') (iA:∀b,s.heap.objs.size<=b->H b=none)
 (hq:∀h',p_ h0 h' H a C dx->om (je (env::outer)) h0 s.heap h' H->Q () { s with heap:=h' }):wpAny M A (leaving env (.ref a)) Q E s:=by
 unfold leaving;refine ah (Q5 pK hl hf fl AE iA fun h1 n1 k1=>?_);exact Q0 (s:={ s with heap:=h1 }) n1 fun h2 f2 k2=>hq h2 f2 (k1.trans ⟨fun b o z _ e=>k2.1 b o z (by simp) e,k2.2⟩)
end
def iV (P:Program) (w:World):pX:=fun outer H s E e s'=>∃(a C:Addr) (dx:Option Addr) (H':Hp),e=.ref a/\s'.os=s.os/\AllBare s'.gens/\Un (je outer) [] H H' s.heap s'.heap/\eS P w H' s'.heap/\
 p_ s.heap s'.heap H' a C dx/\E (.ref C) dx H'
theorem eS.fz (ok:eS P w H h) (k:om fs h0 h h' H) (hf:∀b∈fs,H b=none):eS P w H h':=fun b u e=>by
 refine (ok b u e).eW (fun c v hc q=>?_) (fun _ q=>q) fun _ _ q=>q;have hn:H c≠none:=by
  rcases hc with rfl | hc
  ·rw [e];simp
  ·rw [hc];simp
 exact k.1 c v (.inl hn) (fun z=>hn (hf c z)) q
theorem Un.fz (u:Un fs ex H H' h0 h1) (k:om gs h0 h1 h2 H') (hg:∀b o,h0.get? b=some o->b∈gs->b∈fs):Un fs ex H H' h0 h2:=by
 refine ⟨fun b o e n hb hx=>k.1 b o (.inr (by rw [e];simp)) (fun z=>hb (hg b o e z)) (u.keep b o e n hb hx),fun b o e n hb hx=>?_,u.free,fun b o e hx=>?_,u.gO,u.g9,u.i6⟩
 ·obtain ⟨sl,q⟩:=u.slot b o e n hb hx;obtain ⟨A7,q'⟩:=k.2 b _ (.inr (by rw [e];simp)) q;exact ⟨A7,q'⟩
 ·obtain ⟨o',q⟩:=u.there b o e hx;obtain ⟨sl,q'⟩:=k.2 b _ (.inr (by rw [e];simp)) q;exact ⟨_,q'⟩
section
variable {K:bE}
theorem UM (I:Inv (mH (iV P w) P w K mg base N qual scope f cd A outer s H EX) pins σ H' s') (fl:p_ s.heap s'.heap H' a C dx) (hE:EX (.ref C) dx H'):
 (mH (iV P w) P w K mg base N qual scope f cd A outer s H EX).xe (.ref a) s':=by
 show wpAny (model P w) (A.deeper (envOfC qual scope s.heap.objs.size f cd)) (leaving (envOfC qual scope s.heap.objs.size f cd) (.ref a)) (fun _ qS=>iV P w outer H s EX (.ref a) qS) _ s';refine RD (L:=s.heap.objs.size) I.ok.frames I.stack rfl fl (fun b o e=>I.base.there b o e (by intro z;exact absurd (show b∈([]:List Addr) from z) (by simp))) (fun b hb=>I.af.fresh hb) fun h' f' k=>?_;refine ⟨a,C,dx,H',rfl,I.os,I.bare,I.base.fz k fun b o e hb=>?_,I.af.fz k I.gP,f',hE⟩;unfold je at hb;rw [tS] at hb;rcases eh.mp hb with z | z
 ·exact absurd (dr e) (by rw [z];exact j8 _)
 ·exact z
theorem p_.back (fl:p_ h1 h H a C dx) (k:∀b o,h0.get? b=some o->∃o',h1.get? b=some o'):p_ h0 h H a C dx:=by
 have no:∀b,h1.get? b=none->h0.get? b=none:=fun b e=>by
  cases q:h0.get? b with
  | none=>rfl
  | some o=>
   obtain ⟨o',e'⟩:=k b o q;rw [e] at e';cases e'
 obtain ⟨f1,f2,t,tb,he,hb⟩:=fl;refine ⟨no a f1,f2,t,tb,he,?_⟩;rcases hb with z | ⟨T,oT,ts,e,qr,nK,r⟩
 ·exact .inl z
 ·exact .inr ⟨T,oT,ts,e,qr,no T nK,r⟩
theorem TZ (h:∀C dx H',E C dx H'->EX C dx H'):qF (iV P w) (mH (iV P w) P w K mg base N qual scope f cd A outer s H EX) E:=by intro pins σ H1 s1 e s' I hx;obtain ⟨a,C,dx,H',rfl,os,bare,un,af,fl,hE⟩:=hx;have I':=I.oP (s':=s') (ch:=[]) os un af bare (fun b z=>absurd z (by simp));exact UM I' (fl.back fun b o e=>I.base.there b o e (by intro z;exact absurd (show b∈([]:List Addr) from z) (by simp))) (h _ _ _ hE)
end
def forget (H:Hp) (a:Addr):Hp:=fun b=>if b=a then none else H b
theorem uw (h:b≠a):forget H a b=H b:=by unfold forget;rw [if_neg h]
theorem SY:forget H a a=none:=by unfold forget;rw [if_pos rfl]
theorem Hy (h:H b=none):forget H a b=none:=by
 unfold forget;split
 ·rfl
 ·exact h
theorem Inv.forget (I:Inv X pins σ H s) (hH:H a=some (jO a C dx)):Inv X pins σ (L2.forget H a) s:=by
 have ne:∀b u,H b=some u->(∀φ,u≠.ext φ)->b≠a:=fun b u e hu z=>by subst z;rw [hH] at e;exact hu _ (dM e).symm
 refine ⟨I.ok,I.os,I.bare,⟨I.base.keep,I.base.slot,fun b o e n hx=>Hy (I.base.free b o e n hx),I.base.there,fun b xs e=>?_,fun b o u e=>?_,fun b ps e=>?_⟩,I.loc,I.cell,Hy I.free,fun x c e=>Hy (I.cI x c e),fun p hp=>?_,fun b u e=>?_,I.len⟩
 ·have q:=I.base.gO b xs e;rw [uw (ne b _ q (fun _ z=>nomatch z))];exact q
 ·have q:=I.base.g9 b o u e;rw [uw (ne b _ q (fun _ z=>nomatch z))];exact q
 ·obtain ⟨more,q⟩:=I.base.i6 b ps e;exact ⟨more,by rw [uw (ne b _ q (fun _ z=>nomatch z))];exact q⟩
 ·obtain ⟨e,n,r⟩:=I.pin p hp;exact ⟨e,Hy n,r⟩
 ·by_cases hb:b=a
  ·rw [hb,SY] at e;cases e
  ·rw [uw hb] at e;exact (I.af b u e).eW (fun c v _ q=>q) (fun c q=>by rw [uw (ne c _ q (fun _ z=>nomatch z))];exact q) fun c xs q=>by rw [uw (ne c _ q (fun _ z=>nomatch z))];exact q
def zC2 (K:bE) (H0:Hp) (EX:XK) (te:TE):TS:=fun _ σ H=>te σ H fun x H1=>∃a C Mo f dx,x=.ref a/\H1 a=some (jO a C dx)/\sD K C Mo f/\H0 a=none/\EX (.ref C) dx (forget H1 a)
theorem Zs (hh:A.handled=none)
 (h:wpAny M A x (fun v ar=>∃e C dx t nm q N bs bm vq sn sub ab col dd k0 k1 k2 k3 k5 Vx,v=.ref e/\bm.contains (.type "BaseException")=true/\ar.heap.get? C=some (excClassObj nm q C N bs bm vq sn sub ab col dd k0 k1 k2 k3 k5 Vx)/\
  ar.heap.get? e=some (gk C dx t .none)/\E (.ref e) ar) E s):wpAny M A (raiseStmt env (some x) none) Q E s:=by
 unfold raiseStmt;refine ah (wpAny_mono h (fun v ar b_=>?_) fun _ _ x=>x);obtain ⟨e,C,dx,t,nm,q,N,bs,bm,vq,sn,sub,ab,col,dd,k0,k1,k2,k3,k5,Vx,rfl,rV,hC,he,hE⟩:=b_;have hcB:(Value.ref C::bm).contains (.type "BaseException")=true:=by rw [List.contains_cons,rV,Bool.or_true]
 obtain ⟨hp,g,d,tk,os⟩:=ar
 repeat (first | with_reducible refine wpAny_loadPart_at he ?_ | with_reducible refine wpAny_loadPart_at hC ?_ | (with_reducible refine wpAny_isSubtype_exc hC ?_;rw [hcB]) | wp_step)
 exact wpAny_raiseNew_none hh hE
section
variable {K:bE}
theorem XR (he:PE (mH (iV P w) P w K mg base N qual scope f cd A outer s H EX) x te):PS (mH (iV P w) P w K mg base N qual scope f cd A outer s H EX) (.Raise (some x) none pos) (zC2 K H EX te):=by
 intro pins s1 σ H1 D I h;rw [arm_exec_Raise];refine ah (wpAny_standAt (Zs (I.ok.hd rfl) ?_));refine ah (ax (he pins s1 σ H1 _ I h) fun v s2 zz=>ah (wpAny_standAt (aW ?_)));obtain ⟨y,H2,I2,ry,a,C,Mo,f',dx,e1,hH,M,h0,hE⟩:=zz;subst e1;cases ry;obtain ⟨nm,q,Nn,bs,sn,sub,ab,col,dd,k0,k1,k2,k3,k5,lk,_,_⟩:=M.obj;obtain ⟨t,ff⟩:=JQ I2.af hH;refine ⟨a,C,dx,.ref t,nm,q,Nn,bs,_,_,sn,sub,ab,col,dd,k0,k1,k2,k3,k5,_,rfl,rfl,I2.gG _ _ lk,ff,?_⟩;refine UM (I2.forget hH) ⟨?_,SY,.ref t,.none,ff,.inl rfl⟩ hE
 cases q0:s.heap.get? a with
 | none=>rfl
 | some o=>
  have z:=I2.base.free a o q0 h0 (by intro z;exact absurd (show a∈([]:List Addr) from z) (by simp));rw [hH] at z;cases z
end
def zIp (X:Cx) (pins:List (Addr×Obj)) (Ex:Addr->Option Addr->St->Hp->Prop):Value->Shared->Prop:=fun e s'=>∃a C dx σ H tZ H1 s1,e=.ref a/\Inv X pins tZ H1 s1/\Inv X pins σ H s'/\
 (∀b o,s1.heap.get? b=some o->∃o',s'.heap.get? b=some o')/\p_ s1.heap s'.heap H a C dx/\Ex C dx σ H
def xo (X:Cx) (pins:List (Addr×Obj)) (Ex:Addr->Option Addr->St->Hp->Prop):Cx where
 prog:=X.prog
 w:=X.w
 K:=X.K
 mg:=X.mg
 base:=X.base
 A:=X.A
 N:=X.N
 bX:=X.bX
 gb:=X.gb
 env:=X.env
 outer:=X.outer
 stack:=X.stack
 ex:=X.ex
 fn:=X.fn
 calm:=X.calm
 pn:=X.pn++pins
 xe:=zIp X pins Ex
def BK (X:Cx) (e:Value):Cx where
 prog:=X.prog
 w:=X.w
 K:=X.K
 mg:=X.mg
 base:=X.base
 A:=X.A.mark (some e)
 N:=X.N
 bX:=X.bX
 gb:=X.gb
 env:=X.env
 outer:=X.outer
 stack:=X.stack
 ex:=X.ex
 fn:=X.fn
 calm:=false
 pn:=X.pn
 xe:=fun _ _=>False
section
theorem Inv.Cf (I:Inv X pins σ H s):Inv (xo X pins Ex) [] σ H s:=
 ⟨⟨I.ok.mod,I.ok.kind,I.ok.glob,I.ok.blt,I.ok.above,I.ok.inj,I.ok.has,I.ok.vz,I.ok.hd,I.ok.frames,I.ok.wq,I.ok.AU,I.ok.bs,I.ok.oQ,I.ok.kF,I.ok.kT,I.ok.eG,I.ok.pM⟩,
  I.os,I.bare,I.base,I.loc,I.cell,I.free,I.cI,fun p hp=>I.pin p (by have z:p∈(X.pn++pins)++[]:=hp;simpa using z),I.af,I.len⟩
theorem Inv.iJ (I:Inv (xo X pins Ex) wA σ H s):Inv X pins σ H s:=
 ⟨⟨I.ok.mod,I.ok.kind,I.ok.glob,I.ok.blt,I.ok.above,I.ok.inj,I.ok.has,I.ok.vz,I.ok.hd,I.ok.frames,I.ok.wq,I.ok.AU,I.ok.bs,I.ok.oQ,I.ok.kF,I.ok.kT,I.ok.eG,I.ok.pM⟩,
  I.os,I.bare,I.base,I.loc,I.cell,I.free,I.cI,fun p hp=>I.pin p (gJ _ hp),I.af,I.len⟩
theorem Inv.wj (I:Inv X pins σ H s):Inv (BK X e) pins σ H s:=
 ⟨⟨I.ok.mod,I.ok.kind,I.ok.glob,I.ok.blt,I.ok.above,I.ok.inj,I.ok.has,I.ok.vz,(fun z=>absurd (show false=true from z) fC),I.ok.frames,I.ok.wq,I.ok.AU,I.ok.bs,I.ok.oQ,I.ok.kF,I.ok.kT,I.ok.eG,I.ok.pM⟩,
  I.os,I.bare,I.base,I.loc,I.cell,I.free,I.cI,I.pin,I.af,I.len⟩
theorem Inv.jR (hd:X.calm=true->X.A.handled=none) (I:Inv (BK X e) pins σ H s):Inv X pins σ H s:=
 ⟨⟨I.ok.mod,I.ok.kind,I.ok.glob,I.ok.blt,I.ok.above,I.ok.inj,I.ok.has,I.ok.vz,hd,I.ok.frames,I.ok.wq,I.ok.AU,I.ok.bs,I.ok.oQ,I.ok.kF,I.ok.kT,I.ok.eG,I.ok.pM⟩,
  I.os,I.bare,I.base,I.loc,I.cell,I.free,I.cI,I.pin,I.af,I.len⟩
theorem SP.iJ (h:SP (xo X pins Ex) [] D f s):SP X pins D f s:=by
 cases f with
 | next=>obtain ⟨ae,H',I,q⟩:=h;exact ⟨ae,H',I.iJ,q⟩
 | brk=>obtain ⟨ae,H',I,q⟩:=h;exact ⟨ae,H',I.iJ,q⟩
 | cont=>obtain ⟨ae,H',I,q⟩:=h;exact ⟨ae,H',I.iJ,q⟩
 | ret u=>obtain ⟨v,ae,H',I,r,q⟩:=h;exact ⟨v,ae,H',I.iJ,r,q⟩
theorem SP.jR (hd:X.calm=true->X.A.handled=none) (h:SP (BK X e) pins D f s):SP X pins D f s:=by
 cases f with
 | next=>obtain ⟨ae,H',I,q⟩:=h;exact ⟨ae,H',I.jR hd,q⟩
 | brk=>obtain ⟨ae,H',I,q⟩:=h;exact ⟨ae,H',I.jR hd,q⟩
 | cont=>obtain ⟨ae,H',I,q⟩:=h;exact ⟨ae,H',I.jR hd,q⟩
 | ret u=>obtain ⟨v,ae,H',I,r,q⟩:=h;exact ⟨v,ae,H',I.jR hd,r,q⟩
theorem Inv.r_ (I:Inv X pins σ H s) (k:om (X.env.locals::X.fs) h0 s.heap h' H) (h1:∀b o,X.bX.heap.get? b=some o->h0.get? b≠none) (hL:h0.get? X.env.locals≠none) (hC:∀x c,X.env.cells.lookup x=some c->h0.get? c≠none) (hP:∀p∈X.pn++pins,h0.get? p.1≠none):
 Inv X pins σ H { s with heap:=h' }:=by
 obtain ⟨m,⟨oL,es,ep,zc,r⟩,hl⟩:=id I.loc;obtain ⟨sl,hL'⟩:=k.2 _ oL (.inr hL) zc;have cellK:∀x c,X.env.cells.lookup x=some c->∀v,s.heap.IsCell c v->h'.IsCell c v:=fun x c e v ⟨o,ho,hd⟩=>by obtain ⟨sl,q⟩:=k.2 c o (.inr (hC x c e)) ho;exact ⟨_,q,hd⟩
 refine ⟨I.ok,I.os,I.bare,⟨fun b o e n hb hx=>?_,fun b o e n hb hx=>?_,I.base.free,fun b o e hx=>?_,I.base.gO,I.base.g9,I.base.i6⟩,⟨m,⟨_,es,ep,hL',r⟩,fun i x v e1 e2 e3=>?_⟩,fun x c e=>?_,I.free,I.cI,fun p hp=>?_,?_,I.len⟩
 ·refine k.1 b o (.inr (h1 b o e)) (fun z=>?_) (I.base.keep b o e n hb hx);rcases eh.mp z with z | z
  ·exact absurd (iC (dr e) I.ok.above) (by rw [z];exact j8 _)
  ·exact hb z
 ·obtain ⟨sl,q⟩:=I.base.slot b o e n hb hx;obtain ⟨A7,q'⟩:=k.2 b _ (.inr (h1 b o e)) q;exact ⟨A7,q'⟩
 ·obtain ⟨o',q⟩:=I.base.there b o e hx;obtain ⟨A7,q'⟩:=k.2 b _ (.inr (h1 b o e)) q;exact ⟨_,q'⟩
 ·obtain ⟨u,rv,l⟩:=hl i x v e1 e2 e3;refine ⟨u,rv,?_⟩;rcases l with l | ⟨kd,c,e,z⟩
  ·exact .inl l
  ·exact .inr ⟨kd,c,e,cellK x c e _ z⟩
 ·obtain ⟨v,z⟩:=I.cell x c e;exact ⟨v,cellK x c e v z⟩
 ·obtain ⟨e,n,ne,nf,d⟩:=I.pin p hp;refine ⟨k.1 p.1 p.2 (.inr (hP p hp)) (fun z=>?_) e,n,ne,nf,d⟩;rcases eh.mp z with z | z
  ·exact ne z
  ·exact nf z
 ·refine I.af.fz k fun b hb=>?_;rcases eh.mp hb with z | z
  ·rw [z];exact I.free
  ·obtain ⟨_,o,ho,_⟩:=I.ok.eG.mem z;exact I.base.free b o ho (I.ok.pM b z) fun q=>I.ok.kT b q z
end
def zGt (K:bE) (Cn:Addr) (Ex:Addr->Option Addr->St->Hp->Prop) (tb ts:TS):TS:=fun D σ H=>tb D σ H/\∀C dx ae H',Ex C dx ae H'->PySem.W.exmOne K (.ref C) (.ref Cn)=some true/\ts D ae H'
theorem zDm (CK:X.stack=X.env::X.outer) (pK:X.env.frame=some X.env.locals) (hg:Gl X cn) (hm:X.mg cn=some (.ref Cn))
 (hb:∀pins,gB (xo X pins Ex) body tb) (hs:∀e,gB (BK X e) (b0::Ck) ts) (hex:X.ex=[]:=by rfl) (lW:(cn==("__debug__":Str))=false:=by decide):
 PS X (.Try body [.ExceptHandler (some (.Name cn np)) none (b0::Ck) hpos] [] [] pos) (zGt X.K Cn Ex tb ts):=by
 intro pins s σ H D I h;obtain ⟨h1,h2⟩:=h;refine wpAny_Try_except (wpAny_mono (hb pins [] s σ H D I.Cf h1) (fun f s1 q=>?_) fun e s1 he=>?_)
 ·have q':=SP.iJ q
  cases f with
  | next=>exact wpAny_execs_nil q'
  | ret v=>exact q'
  | brk=>exact q'
  | cont=>exact q'
 ·obtain ⟨a,C,dx,ae,H',tZ,H1,s0,rfl,I0,I1,th,fl,hx⟩:=he;obtain ⟨MQ,hq⟩:=h2 C dx ae H' hx;have Dm:je (X.env::X.outer)=X.env.locals::X.fs:=by
   unfold Cx.fs je;rw [tS,pK]
  have k1:∀b o,X.bX.heap.get? b=some o->s0.heap.get? b≠none:=fun b o e=>by obtain ⟨o',q⟩:=I0.base.there b o e (by rw [hex];simp);rw [q];simp
  have kL:s0.heap.get? X.env.locals≠none:=by obtain ⟨m,⟨o,_,_,ho,_⟩,_⟩:=I0.loc;rw [ho];simp
  have kC:∀x c,X.env.cells.lookup x=some c->s0.heap.get? c≠none:=fun x c e=>by obtain ⟨v,o,ho,_⟩:=I0.cell x c e;rw [ho];simp
  have kP:∀p∈X.pn++pins,s0.heap.get? p.1≠none:=fun p hp=>by rw [(I0.pin p hp).1];simp
  have Nq:X.A.frames=some (X.env::X.outer):=by rw [<-CK];exact I.ok.frames
  refine Q5 (L:=X.env.locals) Nq (by rw [<-CK];exact I1.stack) pK fl th (fun b hb=>I1.af.fresh hb) fun oJ n2 LZ=>?_;rw [Dm] at LZ;have I2:=I1.r_ LZ k1 kL kC kP;refine Q0 (s:={ s1 with heap:=oJ }) n2 fun h3 f3 V9=>?_;have LY:om (X.env.locals::X.fs) s0.heap oJ h3 H':=⟨fun b o z _ e=>V9.1 b o z (by simp) e,V9.2⟩;have I3:=I2.r_ LY k1 kL kC kP;have I3':Inv (BK X (.ref a)) pins ae H' { s1 with heap:=h3 }:=I3.wj;refine wpAny_handleBy_cons (codeAny_handlers_test (xG I3' hg hm ?_ lW)) (by intro z;cases z);obtain ⟨_,_,t,tb',ff,_⟩:=id f3;have LT:PySem.W.Looks (model X.prog X.w) h3 (typeOf (.ref a)) (.ref C):=(PySem.W.Looks.ld ff).andThen .now;refine (PySem.W.exm_one I3.gG LT MQ).here (s:={ s1 with heap:=h3 }) ?_;refine codeAny_handlers_suite ?_;refine X' (s:={ s1 with heap:=h3 }) f3 fun h4 _ V8=>?_;have LX:om (X.env.locals::X.fs) s0.heap h3 h4 H':=⟨fun b o z _ e=>V8.1 b o z (by simp) e,V8.2⟩;have I4:=I3.r_ LX k1 kL kC kP;refine wpAny_mono (hs (.ref a) pins _ ae H' D I4.wj hq) (fun f s5 q5=>SP.jR I.ok.hd q5) fun _ _ z=>z.elim
section
def zAx (r r' Cr:R2) (ta tb tc td:TE):TE:=fun σ H Q=>ta σ H fun x H1=>tb σ H1 fun y H2=>r x y H2 fun z H3=>∃k,z=.bl k/\
 (if k=true then tc σ H3 fun x2 H4=>r' y x2 H4 fun z2 H5=>∃k2,z2=.bl k2/\(if k2=true then td σ H5 fun x3 H6=>Cr x2 x3 H6 Q else Q (.bl false) H5) else Q (.bl false) H3)
theorem Su (ho:fH X (compareOp op) r) (mz:fH X (compareOp wB) r') (MN:fH X (compareOp Ct) Cr) (ha:PE X a ta) (hb:PE X b tb) (hc:PE X c tc) (hd:PE X d td)
 (hm:lastMarks [op,wB,Ct] [b,c,d]=false:=by with_unfolding_all rfl):PT X (.Compare a [op,wB,Ct] [b,c,d] pos) (EW (zAx r r' Cr ta tb tc td)):=by
 intro pins s σ H Q I h;refine isTrue_chain (ax (ha pins s σ H _ I h) fun v s1 zz=>L2.fi zz fun x H1 I1 r1 q1=>test_link (ax (hb pins s1 σ H1 _ I1 q1) fun u s2 zz=>L2.fi zz fun y H2 I2 r2 q2=>
  ax (ho pins s2 σ H2 x y v u _ I2 r1 r2 q2) fun z s3 zz=>?_)) hm
 obtain ⟨z',H3,I3,r3,k,e,q3⟩:=zz;subst e;cases r3;refine wpAny_truthy_bool ?_
 cases k with
 | false=>
  obtain ⟨k',e',q'⟩:=q3;cases e';exact ite_ff ⟨H3,I3,q'⟩
 | true=>
  refine ite_tt (test_link (ax (hc pins s3 σ H3 _ I3 q3) fun x2 s4 zz=>L2.fi zz fun y4 H4 I4 r4 q4=>ax (mz pins s4 σ H4 y y4 u x2 _ I4 r2 r4 q4) fun z2 s5 zz=>?_));obtain ⟨z5,H5,I5,r5,k2,e2,q5⟩:=zz;subst e2;cases r5;refine wpAny_truthy_bool ?_
  cases k2 with
  | false=>
   obtain ⟨k',e',q'⟩:=q5;cases e';exact ite_ff ⟨H5,I5,q'⟩
  | true=>
   refine ite_tt (test_last (ax (hd pins s5 σ H5 _ I5 q5) fun x3 s6 zz=>L2.fi zz fun y6 H6 I6 r6 q6=>ax (MN pins s6 σ H6 y4 y6 x2 x3 _ I6 r4 r6 q6) fun z3 s7 zz=>?_));obtain ⟨z7,H7,I7,r7,k3,e3,q7⟩:=zz;subst e3;cases r7;exact wpAny_truthy_bool ⟨H7,I7,q7⟩
theorem Qi:∀{xs:List V} {us:List Value},xs.length=us.length->(∀(i:Nat) x u,xs[i]?=some x->us[i]?=some u->bU x u)->bq xs us
 | [],[],_,_=>.nil
 | [],_::_,h,_=>by simp at h
 | _::_,[],h,_=>by simp at h
 | x::xs,u::us,h,r=>.cons (r 0 x u rfl rfl) (Qi (by simpa using h) fun i y v e1 e2=>r (i+1) y v (by simpa using e1) (by simpa using e2))
theorem zl7 (h:ItemsOf (fun i v=>∃t,v=.int (0+(i:Int)*1) t) acc j):bq ((List.range j).map fun (i:Nat)=>V.int (i:Int)) acc.toList:=by
 refine Qi (by simp [h.1]) fun i x u e1 e2=>?_;rw [fG] at e1;have hi:i<j:=by have:=(gu.mp e2).1;rw [sr,h.1] at this;exact this
 rw [List.getElem?_range hi] at e1;cases e1;obtain ⟨t,e⟩:=h.2 i u (by simpa using e2);exact ⟨t,by rw [e];congr 1;lia⟩
def Zw (ta:TA):TE:=fun σ H Q=>ta σ H fun vs H1=>∃j:Nat,vs=[.int j]/\j<=1000000/\∀l,H1 l=none->Q (.ref l) (upd H1 l (.lst ((List.range j).map fun (i:Nat)=>V.int (i:Int))))
theorem Ti (hc:X.calm=true) (hg:Gl X "list") (hm:X.mg "list"=none) (hg2:Gl X "range") (C_:X.mg "range"=none) (ha:PA X [a] ta)
 (hs:starEach [.Call (.Name "range" p2) [a] [] pf] X.env=[(false,eval (.Call (.Name "range" p2) [a] [] pf) X.env)]:=by rfl) (kK:starEach [a] X.env=[(false,eval a X.env)]:=by rfl):
 PE X (.Call (.Name "list" p) [.Call (.Name "range" p2) [a] [] pf] [] pos) (Zw ta):=by
 intro pins s σ H Q I h;refine Call_ (xu I hg hm boot_list (PyProof.Rows.callWith_type1 ?_ hs rfl));rw [hs];show wpAny _ _ (spliced ((false,eval (.Call (.Name "range" p2) [a] [] pf) X.env)::backTo pos [])) _ _ s;refine Calls.spliced_cons (Call_ (xu I hg2 C_ boot_range (PyProof.Rows.callWith_type1 (ax (ha pf pins s σ H _ I h) fun us s1 zz=>?_) kK rfl)));obtain ⟨vs,H1,I1,r1,q1⟩:=zz;obtain ⟨j,e,hj,q⟩:=q1;subst e;obtain ⟨u,rfl,t,rfl⟩:=zU r1;refine call_range_1 ?_;refine Calls.spliced_nil ?_;have I2:∀(t u v:Tok) (tk:Nat),Inv X pins σ H1 { s1 with heap:=s1.heap.push { cls:=.type "range",data:=.fields #[.int 0 t,.int (j:Int) u,.int 1 v] },toks:=tk }:=fun t u v tk=>I1.kept fun b o e=>cR _ e;refine call_list_range (n:=j) (I.ok.hd hc) (IsRange.new ..) (small_one (by lia) (by exact ip (2 ^ 62-Nat.succ 0)) (by exact ip (j+Nat.succ 4611686018427387903)) (by lia)) (by rw [rangeSize_one];split<;>lia) (by lia) fun h' tk acc c' kp hl hi=>?_;have I3:=I2 s1.toks t (s1.toks+1) (s1.toks+2);refine ⟨.ref _,_,I3.laid (t':=tk) (o:=.lst ((List.range j).map fun (i:Nat)=>V.int (i:Int))) kp (av _) ?_,rfl,q _ I3.fresh⟩;refine ⟨by rw [aI,tR,sizeLine_eq];lia,acc.toList,c',?_,by simpa using hl⟩;exact zl7 hi
end
section
variable {K:bE}
theorem zBy (h:Y.K=K):zO Y (TB K):=by subst h;exact UY
theorem BC (h:Y.K=K):zO Y (T9 K):=by subst h;exact J_
theorem zDu (h:Y.K=K):fH Y (compareOp .In) (HS K false):=by subst h;exact K9
theorem YW (h:Y.K=K):fH Y (compareOp .NotIn) (HS K true):=by subst h;exact ZT
theorem PL (hK:Y.K=K) (hc:Y.calm=true) (h:pW Y es t) (hn:(assignEach es Y.env).length=n:=by rfl) (rK:(assignEach es Y.env).findIdx? (·.1)=none:=by rfl):PG Y (.Tuple es k pos) (Tu K n t):=by subst hK;exact uk hc h hn rK
end
section
end
section
end
open PySem PySem.Spec PyProof.Rows Builtin
section
variable {K:bE}
end
section
variable {K:bE}
end
section
variable {K:bE}
end
section
end
theorem F9:∀{xs:List V} {j:Nat} {x:V},xs.all kg=true->xs[j]?=some x->kg x=true
 | [],_,_,_,e=>by simp at e
 | y::xs,j,x,h,e=>by
  rw [List.all_cons,sj] at h
  cases j with
  | zero=>simp at e;subst e;exact h.1
  | succ j=>exact F9 h.2 (by simpa using e)
theorem zB7 (r1:bq xs us) (r2:bq ys vs) (f1:xs.all kg=true) (f2:ys.all kg=true) (j:Nat) (h1:j<us.toArray.size) (h2:j<vs.toArray.size):
 SeqAt.EqAt A s us.toArray[j] vs.toArray[j] (qx (xs.getD j .aR) (ys.getD j .aR)):=by
 have l1:=r1.length;have l2:=r2.length;rw [iU] at h1 h2;have g1:xs[j]?=some (xs.getD j .aR):=by rw [DZ,lz (BR h1 l1)];rfl
 have g2:ys[j]?=some (ys.getD j .aR):=by rw [DZ,lz (BR h2 l2)];rfl
 obtain ⟨u,hu,ru⟩:=r1.get g1;obtain ⟨v,hv,rv⟩:=r2.get g2;have e1:us.toArray[j]=u:=by have:=(gu.mp hu).2;simpa using this
 have e2:vs.toArray[j]=v:=by have:=(gu.mp hv).2;simpa using this
 rw [e1,e2];exact UT ru rv (F9 f1 g1) (F9 f2 g2)
section
variable {K:bE}
end
section
variable {K:bE}
end
section
end
def zEr (t u:TS):TS:=fun D σ H=>∀N:St->Hp->Prop,(∀ae H',u D ae H'->N ae H')->t { D with nx:=N } σ H
theorem cy {X:Cx} {st:Stmt} {rest:List Stmt} {t u:TS} (h1:PS X st t) (h2:gB X rest u):gB X (st::rest) (zEr t u):=fun pins s σ H D I h=>bo h1 h2 pins s σ H D I (h (u D) fun _ _ z=>z)
def Lo:R2:=fun x y H Q=>∃p xs i v,x=.ref p/\y=.int i/\H p=some (.lst xs)/\jf xs i=some v/\Q v H
def EZ:R2:=fun x y H Q=>∃p xs i v,x=.ref p/\y=.int i/\H p=some (.tup xs)/\jf xs i=some v/\Q v H
theorem dC:zO X Lo:=by intro value slice pins s σ H x y v u Q I rx ry zz hs;obtain ⟨p,xs,i,v',e1,e2,h,e,q⟩:=zz;exact J_ value slice pins s σ H x y v u Q I rx ry ⟨p,xs,i,v',e1,e2,a9.of h,e,q⟩ hs
theorem zBz:zO X EZ:=by intro value slice pins s σ H x y v u Q I rx ry zz hs;obtain ⟨p,xs,i,v',e1,e2,h,e,q⟩:=zz;exact UY value slice pins s σ H x y v u Q I rx ry ⟨p,xs,i,v',e1,e2,dm.of h,e,q⟩ hs
theorem bc {X:Cx} {a:Expr} {ta:TE} {k:Int} {j pos pf} (h:PE X a ta):PE X (.Subscript a (.Constant (.int k) j pf) pos) (uD EZ ta (tC (.int k))):=cY zBz h aG (fun _ _=>rfl)
theorem a_ (h:H p=some (.tup xs)) (e:jf xs i=some v) (q:Q v H):tC (.int i) σ H fun y H2=>EZ (.ref p) y H2 Q:=⟨p,xs,i,v,rfl,rfl,h,e,q⟩
theorem nh (h:H p=some (.lst xs)) (e:jf xs i=some v) (q:Q v H):tC (.int i) σ H fun y H2=>Lo (.ref p) y H2 Q:=⟨p,xs,i,v,rfl,rfl,h,e,q⟩
theorem jJ (h0:σ[j]?=some (some (.int i))) (h:H p=some (.lst xs)) (e:jf xs i=some v) (q:Q v H):vB j σ H fun y H2=>Lo (.ref p) y H2 Q:=⟨.int i,h0,p,xs,i,v,rfl,rfl,h,e,q⟩
end L2
namespace MA
def pass (k:Nat) (T:Nat->Nat->Int):Nat->Nat->Int:=fun i j=>min (T i j) (T i k+T k j)
def mix (k a b:Nat) (T:Nat->Nat->Int):Nat->Nat->Int:=fun i j=>if i<a\/(i=a/\j<b) then pass k T i j else T i j
theorem Xt (k:Nat) (T:Nat->Nat->Int):mix k 0 0 T=T:=by funext i j;unfold mix;rw [if_neg (by lia)]
theorem Q8 (h:T k k=0) (i:Nat):pass k T i k=T i k:=by unfold pass;lia
theorem Q7 (h:T k k=0) (j:Nat):pass k T k j=T k j:=by unfold pass;lia
theorem zBr (h:T k k=0) (i:Nat):mix k a b T i k=T i k:=by
 unfold mix;split
 ·exact Q8 h i
 ·rfl
theorem zBs (h:T k k=0) (j:Nat):mix k a b T k j=T k j:=by
 unfold mix;split
 ·exact Q7 h j
 ·rfl
theorem Xq:mix k a b T a b=T a b:=by unfold mix;rw [if_neg (by lia)]
theorem Xs (i j:Nat):
 (if i=a/\j=b then min (T a b) (T a k+T k b) else mix k a b T i j)=mix k a (b+1) T i j:=by
 by_cases e:i=a/\j=b
 ·rw [if_pos e];obtain ⟨rfl,rfl⟩:=e;unfold mix pass;rw [if_pos (by lia)]
 ·rw [if_neg e];unfold mix
  by_cases h:i<a\/(i=a/\j<b)
  ·rw [if_pos h,if_pos (by lia)]
  ·rw [if_neg h,if_neg (by lia)]
theorem Xr (hj:j<n):mix k a n T i j=mix k (a+1) 0 T i j:=by
 unfold mix
 by_cases h:i<a\/(i=a/\j<n)
 ·rw [if_pos h,if_pos (by lia)]
 ·rw [if_neg h,if_neg (by lia)]
theorem zBt (hi:i<n):mix k n 0 T i j=pass k T i j:=by unfold mix;rw [if_pos (by exact Or.inl hi)]
structure Tab (n k:Nat) (p:Nat->Int) (T:Nat->Nat->Int):Prop where
 low:∀i j,i<n->j<n->p j-p i<=T i j
 DL:∀i,i<n->T i i=0
 qk:∀v,v<k->∀i j,i<n->j<n->T i j<=T i v+T v j
theorem Tab.pass (t:Tab n k p T) (hk:k<n):Tab n (k+1) p (pass k T):=by
 have d:=t.DL k hk;refine ⟨fun i j hi hj=>?_,fun i hi=>?_,fun v hv i j hi hj=>?_⟩
 ·have h1:=t.low i j hi hj;have h2:=t.low i k hi hk;have h3:=t.low k j hk hj;unfold MA.pass;lia
 ·have h1:=t.low i k hi hk;have h2:=t.low k i hk hi;have h3:=t.DL i hi;unfold MA.pass;lia
 ·by_cases e:v=k
  ·subst e;rw [Q8 d,Q7 d];unfold MA.pass;exact Yh
  ·have eO:v<k:=tj hv e;have VG:v<n:=by lia
   have a1:=t.qk v eO i j hi hj;have a2:=t.qk v eO k j hk hj;have a3:=t.qk v eO i k hi hk;have b1:=t.low k v hk VG;have b2:=t.low v k VG hk;unfold MA.pass;omega
def it (f:Nat->Nat):Nat->Nat->Nat
 | 0,x=>x
 | k+1,x=>f (it f k x)
theorem zY (f:Nat->Nat) (a:Nat):∀(b:Nat) (x:Nat),it f (a+b) x=it f a (it f b x):=by
 intro b x
 induction a with
 | zero=>rw [Nat.zero_add];rfl
 | succ a ih=>rw [Nat.succ_add];show f (it f (a+b) x)=f (it f a (it f b x));rw [ih]
theorem Bl (h:∀x,x<n->f x<n) (hx:x<n):∀k,it f k x<n
 | 0=>hx
 | k+1=>h _ (Bl h hx k)
theorem PN (h:∀x,x<n->f x<n) (hx:x<n):∃p,1<=p/\p<=n/\it f p (it f n x)=it f n x:=by
 have nn:¬((List.range (n+1)).map fun k=>it f k x).Nodup:=fun nd=>by
  have:=List.Nodup.length_le_of_subset nd (l₂:=List.range n) (fun y hy=>by
   obtain ⟨k,_,rfl⟩:=eI.mp hy;exact m9.mpr (Bl h hx k))
  simp at this;exact hV (j8 n this)
 have ex:∃i j,i<j/\j<=n/\it f i x=it f j x:=by apply f9;intro no;apply nn;rw [List.nodup_iff_pairwise_ne,vA];refine List.Pairwise.imp_of_mem (R:=(·<·)) (fun {a b} _ hb lr e=>no ⟨a,b,lr,?_,e⟩) List.pairwise_lt_range;have:=m9.mp hb;exact Nat.le_of_lt_succ this
 obtain ⟨i,j,dz,hj,e⟩:=ex;refine ⟨j-i,by lia,Y2 hj,?_⟩;have e1:it f n x=it f (n-i) (it f i x):=by rw [<-zY];congr 1;lia
 have e2:it f (j-i) (it f n x)=it f (n-i) (it f j x):=by rw [<-zY,<-zY];congr 1;lia
 rw [e2,e1,e]
end MA
namespace MB
open MA
abbrev B3:=Nat×Nat×Int
structure Rx where
 t:Nat->Int
 p:Nat->Nat
 q:Option Nat
def put (f:Nat->α) (i:Nat) (v:α):Nat->α:=fun j=>if j=i then v else f j
def gh (s:Rx) (x:B3):Rx:=if s.t x.1<s.t x.2.1-x.2.2 then ⟨put s.t x.1 (s.t x.2.1-x.2.2),put s.p x.1 x.2.1,some x.1⟩ else s
def begin (s:Rx):Rx:=⟨s.t,s.p,none⟩
def zFc (B:List B3) (s:Rx):Rx:=B.foldl gh (begin s)
def aO (B:List B3):Nat->Rx
 | 0=>⟨fun _=>0,fun _=>0,none⟩
 | k+1=>zFc B (aO B k)
def EC (n:Nat) (B:List B3):Prop:=∀x∈B,x.1<n/\x.2.1<n
structure Rx.In (s:Rx) (n:Nat):Prop where
 p:∀i,s.p i<n
 q:∀i,s.q=some i->i<n
theorem XZ (h:s.In n) (h1:x.1<n) (h2:x.2.1<n):(gh s x).In n:=by
 unfold gh;split
 ·refine ⟨fun i=>?_,fun i e=>?_⟩
  ·show put s.p x.1 x.2.1 i<n;unfold put;split
   ·exact h2
   ·exact h.p i
  ·have:x.1=i:=dM e;lia
 ·exact h
theorem PB:∀{B:List B3} {s:Rx},s.In n->EC n B->(B.foldl gh s).In n
 | [],_,h,_=>h
 | x::B,s,h,hb=>by rw [wY];exact PB (XZ h (hb x dN).1 (hb x dN).2) fun y hy=>hb y (f_ _ hy)
theorem Xe (h:s.In n):(begin s).In n:=⟨h.p,fun _ e=>nomatch e⟩
theorem He (hn:0<n) (hb:EC n B):∀k,(aO B k).In n
 | 0=>⟨fun _=>hn,fun _ e=>nomatch e⟩
 | k+1=>PB (Xe (He hn hb k)) hb
def Bo (f:Nat->Nat) (n x:Nat) (ring:List Nat):Prop:=∃L,1<=L/\L<=n/\ring=(List.range L).map (fun j=>it f j (it f n x))/\it f L (it f n x)=it f n x/\∀j,0<j->j<L->it f j (it f n x)≠it f n x
def T0 (la:Int):Nat->Nat->Int:=fun i j=>if i=j then 0 else la
def Bm (T:Nat->Nat->Int) (x:B3):Nat->Nat->Int:=fun i j=>if i=x.1/\j=x.2.1 then min (T x.1 x.2.1) x.2.2 else T i j
def oV (B:List B3) (T:Nat->Nat->Int):Nat->Nat->Int:=B.foldl Bm T
def xk (T:Nat->Nat->Int):Nat->Nat->Nat->Int
 | 0=>T
 | k+1=>pass k (xk T k)
def Po (n:Nat) (la:Int) (B:List B3):Nat->Nat->Int:=xk (oV B (T0 la)) n
structure IP (n:Nat) (la:Int) (B:List B3) (p:Nat->Int):Prop where
 la:∀i j,i<n->j<n->i≠j->p j-p i<=la
 b:∀x∈B,p x.2.1-p x.1<=x.2.2
theorem YX (t:Tab n 0 p T) (hx:p x.2.1-p x.1<=x.2.2):Tab n 0 p (Bm T x):=by
 refine ⟨fun i j hi hj=>?_,fun i hi=>?_,fun v hv=>absurd hv (oR _)⟩
 ·unfold Bm;split
  ·rename_i h
   obtain ⟨rfl,rfl⟩:=h;have:=t.low _ _ hi hj;lia
  ·exact t.low i j hi hj
 ·unfold Bm;split
  ·rename_i h
   obtain ⟨h1,h2⟩:=h;have:=t.DL i hi;rw [<-h1,<-h2] at hx ⊢;lia
  ·exact t.DL i hi
theorem QQ:∀{B:List B3} {T:Nat->Nat->Int},Tab n 0 p T->(∀x∈B,p x.2.1-p x.1<=x.2.2)->Tab n 0 p (oV B T)
 | [],_,t,_=>t
 | x::B,_,t,h=>QQ (B:=B) (YX t (h x dN)) fun y hy=>h y (f_ _ hy)
theorem YY (h:IP n la B p):Tab n 0 p (oV B (T0 la)):=by
 refine QQ ⟨fun i j hi hj=>?_,fun i _=>?_,fun v hv=>absurd hv (oR _)⟩ h.b
 ·unfold T0;split
  ·rename_i e
   rw [e];lia
  ·rename_i e
   exact h.la i j hi hj e
 ·unfold T0;rw [if_pos rfl]
theorem QP (h:IP n la B p):∀k,k<=n->Tab n k p (xk (oV B (T0 la)) k)
 | 0,_=>YY h
 | k+1,hk=>(QP h k (by exact aS hk)).pass (by exact hk)
structure Gh where
 s:Rx
 m:Nat->Int
 τ:Nat->Nat
 r:Nat->Nat
 c:Nat
def jq (k:Nat) (g:Gh) (x:B3):Gh:=if g.s.t x.1<g.s.t x.2.1-x.2.2 then ⟨gh g.s x,put g.m x.1 x.2.2,put g.τ x.1 (g.c+1),put g.r x.1 k,g.c+1⟩ else g
def zDk (B:List B3) (k:Nat) (g:Gh):Gh:=B.foldl (jq k) { g with s:=begin g.s }
def vR (B:List B3):Nat->Gh
 | 0=>⟨⟨fun _=>0,fun _=>0,none⟩,fun _=>0,fun _=>0,fun _=>0,0⟩
 | k+1=>zDk B (k+1) (vR B k)
theorem XY:(jq k g x).s=gh g.s x:=by
 unfold jq;split
 ·rfl
 ·rename_i h
  unfold gh;rw [if_neg h]
theorem P9:∀{B:List B3} {g:Gh},(B.foldl (jq k) g).s=B.foldl gh g.s
 | [],_=>rfl
 | x::B,g=>by rw [wY,wY,P9,XY]
theorem RW:∀k,(vR B k).s=aO B k
 | 0=>rfl
 | k+1=>by show (B.foldl (jq (k+1)) { vR B k with s:=begin (vR B k).s }).s=B.foldl gh (begin (aO B k));rw [P9,RW k]
structure Inv (B:List B3) (k:Nat) (g:Gh):Prop where
 mem:∀v,1<=g.r v->(v,g.s.p v,g.m v)∈B
 le:∀v,1<=g.r v->g.s.t v<=g.s.t (g.s.p v)-g.m v
 st:∀v,1<=g.r v->g.s.p v≠v->g.s.t v<g.s.t (g.s.p v)-g.m v\/g.τ (g.s.p v)<g.τ v
 lo:∀v,1<=g.r v->g.s.p v=v->g.m v<0
 cl:∀v,g.τ v<=g.c
 rr:∀v,g.r v<=k
 ch:∀v,1<=g.r v->g.r v<=g.r (g.s.p v)+1
 bd:∀x∈B,g.s.t x.2.1-x.2.2<=g.s.t x.1\/k<=g.r x.2.1+1
 q:∀v,g.s.q=some v->g.r v=k
theorem K2 (h:Inv B k g) (hk:1<=k) (hx:x∈B):Inv B k (jq k g x):=by
 obtain ⟨a,b,m⟩:=x
 by_cases hc:g.s.t a<g.s.t b-m
 ·have e:jq k g (a,b,m)=⟨⟨put g.s.t a (g.s.t b-m),put g.s.p a b,some a⟩,put g.m a m,put g.τ a (g.c+1),put g.r a k,g.c+1⟩:=by
   unfold jq;rw [if_pos hc];unfold gh;rw [if_pos hc]
  rw [e];have NH:=(h.bd (a,b,m) hx).resolve_left (by show ¬g.s.t b-m<=g.s.t a;exact Int.not_le.mpr hc);have iB:k<=g.r b+1:=NH;have up:∀v,g.s.t v<=put g.s.t a (g.s.t b-m) v:=fun v=>by
   unfold put;split
   ·rename_i z;rw [z];exact eR hc
   ·exact oz
  have Lv:∀v,g.r v<=put g.r a k v:=fun v=>by
   unfold put;split
   ·rename_i z;rw [z];exact h.rr a
   ·exact f7
  refine ⟨fun v hv=>?_,fun v hv=>?_,fun v hv hp=>?_,fun v hv hp=>?_,fun v=>?_,fun v=>?_,fun v hv=>?_,fun y hy=>?_,fun v hv=>?_⟩
  ·by_cases e:v=a
   ·subst e;simp [put];exact hx
   ·simp only [put,if_neg e] at hv ⊢;exact h.mem v hv
  ·by_cases e:v=a
   ·subst e;have:=up b;simp only [put,if_pos] at this ⊢;lia
   ·simp only [put,if_neg e] at hv ⊢;have h1:=h.le v hv;have h2:=up (g.s.p v);simp only [put] at h2;lia
  ·by_cases e:v=a
   ·subst e;have ig:b≠v:=by simpa [put] using hp
    right;have h1:=h.cl b;simp only [put,if_pos,if_neg ig];exact FY h1
   ·simp only [put,if_neg e] at hv hp ⊢
    by_cases e2:g.s.p v=a
    ·left;have h1:=h.le v hv;rw [e2] at h1 ⊢;simp only [if_pos];lia
    ·rw [if_neg e2,if_neg e2];exact h.st v hv hp
  ·by_cases e:v=a
   ·subst e;have ig:b=v:=by simpa [put] using hp
    subst ig;simp only [put,if_pos];lia
   ·simp only [put,if_neg e] at hv hp ⊢;exact h.lo v hv hp
  ·have h1:=h.cl v;show put g.τ a (g.c+1) v<=g.c+1;unfold put;split<;>lia
  ·have h1:=h.rr v;show put g.r a k v<=k;unfold put;split<;>lia
  ·by_cases e:v=a
   ·subst e;have h2:=Lv b;show put g.r v k v<=put g.r v k (put g.s.p v b v)+1;have e1:put g.r v k v=k:=by simp [put]
    have e2:put g.s.p v b v=b:=by simp [put]
    rw [e1,e2];exact Kv iB h2
   ·have e1:put g.r a k v=g.r v:=by simp [put,e]
    have e2:put g.s.p a b v=g.s.p v:=by simp [put,e]
    show put g.r a k v<=put g.r a k (put g.s.p a b v)+1;have eO:1<=g.r v:=by rw [<-e1];exact hv
    have h1:=h.ch v eO;have h2:=Lv (g.s.p v);rw [e1,e2];exact Kv h1 h2
  ·obtain ⟨a',b',m'⟩:=y;show put g.s.t a (g.s.t b-m) b'-m'<=put g.s.t a (g.s.t b-m) a'\/k<=put g.r a k b'+1
   by_cases e:b'=a
   ·right;have:put g.r a k b'=k:=by simp [put,e]
    lia
   ·have e1:put g.s.t a (g.s.t b-m) b'=g.s.t b':=by simp [put,e]
    rcases h.bd (a',b',m') hy with z | z
    ·left;have h2:=up a';rw [e1];exact o_ z h2
    ·right;have h2:=Lv b';exact Kv z h2
  ·have:a=v:=dM hv;subst this;simp [put]
 ·have e:jq k g (a,b,m)=g:=by
   unfold jq;rw [if_neg hc]
  rw [e];exact h
def Ax (k:Nat) (g:Gh) (x:B3):Prop:=g.s.t x.2.1-x.2.2<=g.s.t x.1\/k<=g.r x.2.1
theorem Z6 (hr:∀v,g.r v<=k) (h:Ax k g y):Ax k (jq k g x) y:=by
 obtain ⟨a,b,m⟩:=x;obtain ⟨a',b',m'⟩:=y
 by_cases hc:g.s.t a<g.s.t b-m
 ·have e:jq k g (a,b,m)=⟨⟨put g.s.t a (g.s.t b-m),put g.s.p a b,some a⟩,put g.m a m,put g.τ a (g.c+1),put g.r a k,g.c+1⟩:=by
   unfold jq;rw [if_pos hc];unfold gh;rw [if_pos hc]
  rw [e];show put g.s.t a (g.s.t b-m) b'-m'<=put g.s.t a (g.s.t b-m) a'\/k<=put g.r a k b'
  by_cases e:b'=a
  ·right;simp [put,e]
  ·have e1:put g.s.t a (g.s.t b-m) b'=g.s.t b':=by simp [put,e]
   have e2:put g.r a k b'=g.r b':=by simp [put,e]
   have up:g.s.t a'<=put g.s.t a (g.s.t b-m) a':=by
    unfold put;split
    ·rename_i z;rw [z];exact eR hc
    ·exact oz
   rcases h with z | z
   ·left;rw [e1];exact o_ z up
   ·right;rw [e2];exact z
 ·have e:jq k g (a,b,m)=g:=by
   unfold jq;rw [if_neg hc]
  rw [e];exact h
theorem Y5:Ax k (jq k g x) x:=by
 obtain ⟨a,b,m⟩:=x
 by_cases hc:g.s.t a<g.s.t b-m
 ·have e:jq k g (a,b,m)=⟨⟨put g.s.t a (g.s.t b-m),put g.s.p a b,some a⟩,put g.m a m,put g.τ a (g.c+1),put g.r a k,g.c+1⟩:=by
   unfold jq;rw [if_pos hc];unfold gh;rw [if_pos hc]
  rw [e];show put g.s.t a (g.s.t b-m) b-m<=put g.s.t a (g.s.t b-m) a\/k<=put g.r a k b
  by_cases e:b=a
  ·right;simp [put,e]
  ·left;simp [put,e]
 ·have e:jq k g (a,b,m)=g:=by
   unfold jq;rw [if_neg hc]
  rw [e];left;show g.s.t b-m<=g.s.t a;exact nc hc
theorem Kc (hk:1<=k):∀(C:List B3) (g:Gh),(∀x∈C,x∈B)->Inv B k g->Inv B k (C.foldl (jq k) g)
 | [],_,_,h=>h
 | x::C,_,hc,h=>Kc hk C _ (fun y hy=>hc y (f_ _ hy)) (K2 h hk (hc x dN))
theorem Ry (hk:1<=k):∀(C:List B3) (g:Gh),(∀x∈C,x∈B)->Inv B k g->Ax k g y->Ax k (C.foldl (jq k) g) y
 | [],_,_,_,h=>h
 | x::C,_,hc,hi,h=>Ry hk C _ (fun y hy=>hc y (f_ _ hy)) (K2 hi hk (hc x dN)) (Z6 hi.rr h)
theorem Y8 (hk:1<=k):∀(C:List B3) (g:Gh),(∀x∈C,x∈B)->Inv B k g->∀y∈C,Ax k (C.foldl (jq k) g) y:=by
 intro C
 induction C with
 | nil=>intro g hc hi y hy;cases hy
 | cons x C ih=>
  intro g hc hi y hy;have iS:=K2 hi hk (hc x dN);have jE:∀z∈C,z∈B:=fun z hz=>hc z (f_ _ hz);rcases eh.mp hy with e | e
  ·subst e;exact Ry hk C _ jE iS Y5
  ·exact ih _ jE iS y e
theorem S7:∀k,Inv B (k+1) { vR B k with s:=begin (vR B k).s }
 | 0=>⟨fun v hv=>absurd hv (by show ¬1<=0;lia),fun v hv=>absurd hv (by show ¬1<=0;lia),fun v hv=>absurd hv (by show ¬1<=0;lia),fun v hv=>absurd hv (by show ¬1<=0;lia),fun v=>av _,fun _=>dP _,fun v hv=>absurd hv (by show ¬1<=0;lia),
  fun x _=>.inr (by show 0+1<=0+1;exact f7),fun v hv=>by cases hv⟩
 | k+1=>by have h0:=S7 (B:=B) k;have h1:=Kc (B:=B) (by lia) B _ (fun x hx=>hx) h0;have hd:=Y8 (B:=B) (by lia) B _ (fun x hx=>hx) h0;exact ⟨h1.mem,h1.le,h1.st,h1.lo,h1.cl,fun v=>Nat.le_succ_of_le (h1.rr v),h1.ch,fun x hx=>(hd x hx).elim .inl fun z=>.inr (Nat.succ_le_succ z),fun v hv=>by cases hv⟩
theorem Zt (k:Nat):Inv B (k+1) (vR B (k+1)):=Kc (B:=B) (by lia) B _ (fun x hx=>hx) (S7 k)
def sJ (p:Nat->Nat) (f:Nat->Int):Nat->Nat->Int
 | 0,_=>0
 | j+1,s=>sJ p f j s+f (it p j s)
theorem X8 (hn:1<=n) (hb:EC n B) (hq:(aO B n).q=some x) (hr:Bo (aO B n).p n x ring):
 ∃(L s:Nat) (m:Nat->Int),1<=L/\L<=n/\ring=(List.range L).map (fun j=>it (aO B n).p j s)/\it (aO B n).p L s=s/\(∀j,j<L->(it (aO B n).p j s,it (aO B n).p (j+1) s,m (it (aO B n).p j s))∈B)/\sJ (aO B n).p m L s<0:=by
 obtain ⟨k,rfl⟩:∃k,n=k+1:=⟨n-1,GQ hn⟩;have I:=Zt (B:=B) k;have es:=RW (B:=B) (k+1);rw [<-es] at hq hr ⊢;generalize vR B (k+1)=g at*;have gp:g.s.In (k+1):=by rw [es];exact He (by exact hn) hb _
 have hx:x<k+1:=gp.q x hq;have AF:g.r x=k+1:=I.q x hq;have step:∀j,j<=k->k+1<=g.r (it g.s.p j x)+j:=fun j=>by
  induction j with
  | zero=>intro _;show k+1<=g.r x+0;lia
  | succ j ih=>
   intro hj;have h1:=ih (by exact aS hj);have h2:=I.ch (it g.s.p j x) (by lia);show k+1<=g.r (g.s.p (it g.s.p j x))+(j+1);exact GU h1 h2
 have lt:∀j,it g.s.p j x<k+1:=fun j=>Bl (fun y _=>gp.p y) hx j;have among:∀j,∃i,i<=k/\it g.s.p j x=it g.s.p i x:=by
  have ex:∃i j,i<j/\j<=k+1/\it g.s.p i x=it g.s.p j x:=by
   apply f9;intro no;have nd:((List.range (k+1+1)).map fun j=>it g.s.p j x).Nodup:=by rw [List.nodup_iff_pairwise_ne,vA];refine List.Pairwise.imp_of_mem (R:=(·<·)) (fun {a b} _ hb lr e=>no ⟨a,b,lr,?_,e⟩) List.pairwise_lt_range;have:=m9.mp hb;exact Ks this
   have:=List.Nodup.length_le_of_subset nd (l₂:=List.range (k+1)) (fun y hy=>by
    obtain ⟨j,_,rfl⟩:=eI.mp hy;exact m9.mpr (lt j))
   simp at this;exact hV (j8 k this)
  obtain ⟨i,j,dz,hj,e⟩:=ex;intro d
  induction d with
  | zero=>exact ⟨0,dP _,rfl⟩
  | succ d ih=>
   obtain ⟨c,hc,ec⟩:=ih
   by_cases h:c+1<=k
   ·exact ⟨c+1,h,congrArg g.s.p ec⟩
   ·
    have hck:c=k:=by lia
    subst hck;have e2:it g.s.p (c+1) x=it g.s.p (i+(c+1-j)) x:=by
     have a1:it g.s.p (c+1) x=it g.s.p (c+1-j) (it g.s.p j x):=by rw [<-zY];congr 1;exact GQ hj
     have a2:it g.s.p (i+(c+1-j)) x=it g.s.p (c+1-j) (it g.s.p i x):=by rw [<-zY];congr 1;lia
     rw [a1,a2,e]
    exact ⟨i+(c+1-j),by omega,(congrArg g.s.p ec).trans e2⟩
 have y9:∀j,1<=g.r (it g.s.p j x):=fun j=>by obtain ⟨i,hi,e⟩:=among j;rw [e];have:=step i hi;lia
 obtain ⟨L,L1,Ln,er,eL,cK⟩:=hr;have pS:∀j,1<=g.r (it g.s.p j (it g.s.p (k+1) x)):=fun j=>by rw [<-zY];exact y9 _
 generalize it g.s.p (k+1) x=s at*;refine ⟨L,s,g.m,L1,Ln,er,eL,fun j _=>I.mem _ (pS j),?_⟩;have Lz:∀j,sJ g.s.p g.m j s<=g.s.t (it g.s.p j s)-g.s.t s:=fun j=>by
  induction j with
  | zero=>show (0:Int)<=g.s.t s-g.s.t s;lia
  | succ j ih=>
   have h1:=I.le _ (pS j);show sJ g.s.p g.m j s+g.m (it g.s.p j s)<=g.s.t (g.s.p (it g.s.p j s))-g.s.t s;lia
 by_cases hL:L=1
 ·subst hL;have h1:=I.lo s (pS 0) eL;show (0:Int)+g.m s<0;lia
 ·
  have alt:∀j,j<=L->sJ g.s.p g.m j s<g.s.t (it g.s.p j s)-g.s.t s\/g.τ (it g.s.p j s)+j<=g.τ s:=fun j=>by
   induction j with
   | zero=>intro _;right;show g.τ s+0<=g.τ s;exact f7
   | succ j ih=>
    intro hj;have hnj:g.s.p (it g.s.p j s)≠it g.s.p j s:=fun z=>by
     have eW:∀d,it g.s.p (j+d) s=it g.s.p j s:=fun d=>by
      induction d with
      | zero=>rfl
      | succ d ih2=>show g.s.p (it g.s.p (j+d) s)=_;rw [ih2];exact z
     have e1:=eW (L-j);rw [show j+(L-j)=L by exact GC hj,eL] at e1;have e2:it g.s.p 1 s=s:=by show g.s.p s=s;have z':=z;rw [<-e1] at z';exact z'
     exact cK 1 (by exact f7) (by lia) e2
    have h1:=I.le _ (pS j);rcases ih (by exact aS hj) with h2 | h2
    ·left;show sJ g.s.p g.m j s+g.m (it g.s.p j s)<g.s.t (g.s.p (it g.s.p j s))-g.s.t s;lia
    ·rcases I.st _ (pS j) hnj with h3 | h3
     ·left;have h4:=Lz j;show sJ g.s.p g.m j s+g.m (it g.s.p j s)<g.s.t (g.s.p (it g.s.p j s))-g.s.t s;lia
     ·right;show g.τ (g.s.p (it g.s.p j s))+(j+1)<=g.τ s;lia
  rcases alt L (av _) with h | h
  ·rw [eL] at h;lia
  ·rw [eL] at h;lia
theorem Xu {B:List B3} {p:Nat->Nat} {L s:Nat} {m:Nat->Int} (eL:it p L s=s) (hm:∀j,j<L->(it p j s,it p (j+1) s,m (it p j s))∈B) (hs:sJ p m L s<0) (t:Nat->Int) (ht:∀x∈B,t x.2.1-t x.1<=x.2.2):False:=by
 have:∀j,j<=L->t (it p j s)-t s<=sJ p m j s:=fun j=>by
  induction j with
  | zero=>intro _;show t s-t s<=0;lia
  | succ j ih=>
   intro hj;have h1:=ih (by exact aS hj);have h2:t (it p (j+1) s)-t (it p j s)<=m (it p j s):=ht _ (hm j (by exact hj));show t (it p (j+1) s)-t s<=sJ p m j s+m (it p j s);lia
 have h:=this L (av _);rw [eL] at h;lia
theorem XH {B:List B3} {n:Nat} (hn:1<=n) (hb:EC n B):(∃k,k<n/\(aO B (k+1)).q=none)\/((∀k,k<n->(aO B (k+1)).q≠none)/\¬∃p:Nat->Int,∀x∈B,p x.2.1-p x.1<=x.2.2):=by
 by_cases h:∃k,k<n/\(aO B (k+1)).q=none
 ·exact .inl h
 ·have kM:∀k,k<n->(aO B (k+1)).q≠none:=fun k hk e=>h ⟨k,hk,e⟩;refine .inr ⟨kM,?_⟩;rintro ⟨p,hp⟩;have hq:=kM (n-1) (Kt hn);rw [show n-1+1=n by exact Rn hn] at hq
  cases hx:(aO B n).q with
  | none=>exact hq hx
  | some x=>
   have gp:=He (n:=n) (by exact hn) hb n;obtain ⟨A9,h1,h2,h3⟩:=PN (fun y _=>gp.p y) (gp.q x hx);have least:∃L,1<=L/\L<=n/\it (aO B n).p L (it (aO B n).p n x)=it (aO B n).p n x/\∀j,0<j->j<L->it (aO B n).p j (it (aO B n).p n x)≠it (aO B n).p n x:=by
    have:∀d L,1<=L->L<=n->L<=d->it (aO B n).p L (it (aO B n).p n x)=it (aO B n).p n x->∃L,1<=L/\L<=n/\it (aO B n).p L (it (aO B n).p n x)=it (aO B n).p n x/\∀j,0<j->j<L->it (aO B n).p j (it (aO B n).p n x)≠it (aO B n).p n x:=by
     intro d
     induction d with
     | zero=>intro L a _ b;lia
     | succ d ih=>
      intro L a1 a2 a3 a4
      by_cases z:∀j,0<j->j<L->it (aO B n).p j (it (aO B n).p n x)≠it (aO B n).p n x
      ·exact ⟨L,a1,a2,a4,z⟩
      ·have:∃j,0<j/\j<L/\it (aO B n).p j (it (aO B n).p n x)=it (aO B n).p n x:=by
        apply f9;intro no;exact z fun j b1 b2 b3=>no ⟨j,b1,b2,b3⟩
       obtain ⟨j,b1,b2,b3⟩:=this;exact ih j b1 (by lia) (by lia) b3
    exact this n A9 h1 h2 h2 h3
   obtain ⟨L,l1,l2,l3,l4⟩:=least;obtain ⟨L',s,m,_,_,_,e1,e2,e3⟩:=X8 (n:=n) (x:=x) hn hb hx ⟨L,l1,l2,rfl,l3,l4⟩;exact Xu e1 e2 e3 p hp
end MB
open MB (Bo aO gh begin IP Po oV xk)
namespace Y0
open PySem L2
def top (i:Nat):Stmt:=PySem.Challenge.pw_momentties_k16_whole_fixed_then_hand_the.main.body.getD i (.Pass ⟨0,0,0,0⟩)
abbrev cT:Stmt:=mV (top 3) 0
abbrev c8:Stmt:=top 5
abbrev c7:Stmt:=top 6
abbrev cA:Stmt:=top 7
abbrev bh:Stmt:=top 8
abbrev c9:Stmt:=top 9
abbrev aV:Stmt:=top 10
abbrev cf:Stmt:=top 13
abbrev fu:Stmt:=top 14
abbrev dZ:Stmt:=top 15
abbrev dY:Stmt:=top 16
abbrev dX:Stmt:=top 17
abbrev d_:Stmt:=top 18
abbrev d0:Stmt:=top 19
abbrev bz:Stmt:=top 20
abbrev br:Stmt:=top 21
abbrev cV:Stmt:=mV (top 23) 0
abbrev cp:Stmt:=mV (top 23) 1
abbrev cU:Stmt:=mV (top 23) 2
abbrev cj:Stmt:=mV (top 23) 3
abbrev bg:Stmt:=mV (top 23) 4
abbrev bu:Stmt:=mV (top 23) 5
abbrev aX:Stmt:=mV (top 23) 6
abbrev aQ:Stmt:=mV (top 23) 7
abbrev bY:Stmt:=mV (top 23) 8
abbrev aN:Stmt:=mV (top 23) 9
abbrev bG:Stmt:=top 24
abbrev bP:Stmt:=top 25
abbrev dW:Stmt:=top 26
abbrev gR:Stmt:=top 27
abbrev bx:Stmt:=top 29
abbrev eX:Stmt:=top 30
abbrev bM:Stmt:=top 32
abbrev gQ:Stmt:=top 33
abbrev aK:Stmt:=top 39
abbrev bJ:Stmt:=top 40
abbrev bH:Stmt:=top 41
abbrev aJ:Stmt:=top 42
abbrev eZ:Stmt:=mV (top 43) 0
abbrev eY:Stmt:=mV (top 43) 1
abbrev ee:Stmt:=mV (top 43) 2
abbrev dj:Stmt:=mV (top 43) 3
abbrev ju:Stmt:=top 45
abbrev kD:Stmt:=top 46
abbrev kE:Stmt:=top 47
abbrev lI:Stmt:=top 48
abbrev qR:Stmt:=top 49
abbrev jc:Stmt:=top 50
abbrev yr:Stmt:=top 51
structure Fn (K:bE) (mg:Str->Option Value) (x:Str) (st:Stmt) (ps:List Str) (f:Addr) (fd:FuncData):Prop where
 F:gC K x x st f fd
 b:eT K fd ps []
 g:mg x=some (.ref f)
theorem cH {X:Cx} {k:Nat} {f:Addr} {fd:FuncData} {ps:List Str} {sp:Sp} {x:Str} {st:Stmt} {e:Expr} {es:List Expr} {t:TA} {p pos:Pos} (G:au X.prog X.w X.K X.mg X.base a7 k f fd ps sp) (hr:cJ k X.A) (F:Fn X.K X.mg x st ps f fd) (ha:PA X (e::es) t) (hg:Gl X x:=by rfl) (lW:(x==("__debug__":Str))=false:=by decide) (he:starEach (e::es) X.env=(false,eval e X.env)::starEach es X.env:=by rfl) (eP:(backTo pos (starEach es X.env)).any (·.1)=false:=by rfl):PE X (.Call (.Name x p) (e::es) [] pos) (Lq sp [] E0 t):=B4 G hr hg F.g F.F.kp F.b .nil gD ha lW he eP
end Y0
namespace L2
open PySem
def ck (d:Addr) (H H':Hp):Prop:=∀b o,H b=some o->b≠d->H' b=some o
theorem ck.refl (d:Addr) (H:Hp):ck d H H:=fun _ _ e _=>e
theorem ck.trans (x:ck d H H1) (y:ck d H1 H2):ck d H H2:=fun b o e n=>y b o (x b o e n) n
theorem a8.keep (x:a8 H H1):ck d H H1:=fun b o e _=>x b o e
theorem bf (h:H p=none):a8 H (upd H p o):=fun b u e=>by rw [aj (aP e h)];exact e
end L2
namespace Y0
open PySem L2
def qD (K:bE) (H:Hp) (sa:Addr) (ns:List Int):Prop:=(∃o,H sa=some (.gY o (.lst (ns.map V.int))))\/
 ∃(o:Obj) (its:Array Value) (n:Nat),K.lookup sa=some o/\o.cls=.type "list"/\o.dict=none/\o.data=.seq its n/\its.size<=sizeLine/\bq (ns.map V.int) its.toList
theorem qD.sq (h:qD K H sa ns):a9 K H sa (ns.map V.int):=by
 rcases h with ⟨o,h⟩ | h
 ·exact .inl (.inr ⟨o,h⟩)
 ·exact .inr h
theorem qD.same (h:qD K H sa ns) (k:a8 H H1):qD K H1 sa ns:=by
 rcases h with ⟨o,h⟩ | h
 ·exact .inl ⟨o,k _ _ h⟩
 ·exact .inr h
theorem qD.keep (h:qD K H sa ns) (k:ck l H H1) (hl:H l=some (.lst xs)):qD K H1 sa ns:=by
 rcases h with ⟨o,h⟩ | h
 ·exact .inl ⟨o,k _ _ h (cB h hl nofun)⟩
 ·exact .inr h
structure eB (K:bE) (sa:Addr) (H:Hp) (d:Addr):Prop where
 at_:∃p:Nat,H d=some (.lst [.ref sa,.int p])
 scr:∃ns:List Int,qD K H sa ns
theorem eB.same (x:eB K sa H d) (k:a8 H H1):eB K sa H1 d:=by obtain ⟨⟨p,h⟩,⟨ns,r⟩⟩:=x;exact ⟨⟨p,k _ _ h⟩,⟨ns,r.same k⟩⟩
def Bt (K:bE):Sp:=fun vs H Q _=>∃d sa m,vs=[.ref d,.int m]/\eB K sa H d/\1<=m/\∀r H',0<=r->r<m->eB K sa H' d->ck d H H'->Q (.int r) H'
section
theorem scN:cC ["_law_dice","_law_many"] ["_law_dice","_law_many"] (aU ju):=de
theorem uU (F:Fn K mg "_law_next" ju ["_law_dice","_law_many"] f fd) (len:mg "len"=none):au P w K mg base a7 1 f fd ["_law_dice","_law_many"] (Bt K):=by
 refine F.F.dw scN fun _ A _ s H _ Q E hr h=>?_;obtain ⟨d,sa,m,rfl,D,hm,k⟩:=h;obtain ⟨⟨p,hd⟩,⟨ns,hs0⟩⟩:=id D;refine ⟨_,bo (um (cE jo (cY dC (pv 0) aG) aG) (uj (pv 0) aG u7))
  (bo (eM (ef TY (cY dC (pv 0) aG) (lB Ar (by rfl) len A' (bR (cY dC (pv 0) aG)))) (aA (cG aG)) eV)
  (aA (cG (cE JK (cY J_ (cY dC (pv 0) aG) (cE jK (cY dC (pv 0) aG) aG)) (pv 1))))),?_⟩
 refine ⟨_,rfl,nh hd rfl ⟨_,_,rfl,rfl,_,rfl,_,_,_,_,rfl,rfl,hd,rfl,?_⟩⟩;have Dt:upd H d (.lst ([V.ref sa,V.int p].set 1 (.int ((p:Int)+1)))) d=some (.lst [.ref sa,.int ((p:Int)+1)]):=aq;have kp:ck d H (upd H d (.lst ([V.ref sa,V.int p].set 1 (.int ((p:Int)+1))))):=fun b o e n=>by rw [aj n];exact e
 have kK:=hs0.keep kp hd;have VN:=kK.sq;have D1:eB K sa (upd H d (.lst ([V.ref sa,V.int p].set 1 (.int ((p:Int)+1))))) d:=⟨⟨p+1,Dt⟩,⟨ns,kK⟩⟩;refine ⟨_,rfl,nh Dt rfl ⟨_,rfl,nh Dt rfl ⟨_,_,rfl,.inl VN,_,_,rfl,rfl,_,rfl,?_⟩⟩⟩;refine j_ (fun _=>?_) (fun hc=>?_)
 ·exact k 0 _ (jg _) (by exact hm) D1 kp
 ·have aF:p<ns.length:=by
   rw [aI] at hc;simp only [zJ] at hc;omega
  have ha:jf (ns.map V.int) ((p:Int)+1-1)=some (.int ns[p]):=by rw [show (p:Int)+1-1=((p:Nat):Int) by lia];exact lg (by rw [fG,lz aF];rfl)
  refine ⟨_,rfl,nh Dt rfl ⟨_,rfl,nh Dt rfl ⟨_,_,rfl,rfl,_,_,_,_,rfl,rfl,VN,ha,_,rfl,_,_,rfl,rfl,(by show (0:Int)<m;exact hm),?_⟩⟩⟩;exact k _ _ (Int.emod_nonneg _ (by exact Int.ne_of_gt hm)) (Int.emod_lt_of_pos _ (by exact hm)) D1 kp
end
end Y0
namespace L2
open PySem
def zG1 (t:TS):TS:=fun D σ H=>∃R:St->Hp->Prop,t { D with nx:=R } σ H/\∀ae H',R ae H'->D.nx ae H'
theorem z_ (h:PS X st t):PS X st (zG1 t):=by
 intro pins s σ H D I hw;obtain ⟨R,h1,h2⟩:=hw;refine ax (h pins s σ H _ I h1) fun f s1 q=>?_
 cases f with
 | next=>obtain ⟨ae,H',I',r⟩:=q;exact ⟨ae,H',I',h2 ae H' r⟩
 | brk=>exact q
 | cont=>exact q
 | ret v=>exact q
theorem zDn (h:PS X.wC st t):PS X st t:=fun pins s σ H D I hw=>
 wpAny_mono (h pins s σ H D (I.jt _) hw) (fun _ _ q=>q.dS) fun _ _ z=>hV z
def gj (H:Hp) (a:Addr) (ps:List Addr) (rows:List (List Int)):Prop:=H a=some (.lst (ps.map V.ref))/\Paired (fun p r=>H p=some (.tup (r.map V.int))) ps rows
def dQ (H:Hp) (a:Addr) (rows:List (List Int)):Prop:=∃ps,gj H a ps rows
theorem iI (h:Paired F l m) (i:∀a b,F a b->G a b):Paired G l m:=Paired.yK h i
theorem gj.same (h:gj H a ps rows) (k:a8 H H'):gj H' a ps rows:=⟨k _ _ h.1,iI h.2 fun _ _ e=>k _ _ e⟩
theorem gj.keep (h:gj H a ps rows) (k:ck d H H') (hd:H d=some (.lst xs)) (ne:a≠d):gj H' a ps rows:=
 ⟨k _ _ h.1 ne,iI h.2 fun _ _ e=>k _ _ e (cB e hd nofun)⟩
theorem dQ.same (h:dQ H a rows) (k:a8 H H'):dQ H' a rows:=let ⟨ps,r⟩:=h;⟨ps,r.same k⟩
theorem dQ.keep (h:dQ H a rows) (k:ck d H H') (hd:H d=some (.lst xs)) (ne:a≠d):dQ H' a rows:=let ⟨ps,r⟩:=h;⟨ps,r.keep k hd ne⟩
theorem gj.len (h:gj H a ps rows):ps.length=rows.length:=h.2.length
theorem gj.push (h:gj H a ps rows) (hp:H p=some (.tup (r.map V.int))):gj (upd H a (.lst (ps.map V.ref++[.ref p]))) a (ps++[p]) (rows++[r]):=by
 have na:∀q xs,H q=some (.tup xs)->q≠a:=fun q xs e=>cB e h.1 nofun;refine ⟨by rw [aq,fY];rfl,Paired.snoc (iI h.2 fun q r e=>?_) ?_⟩
 ·rw [aj (na q _ e)];exact e
 ·rw [aj (na p _ hp)];exact hp
theorem mR (k:ck d H0 H) (h:H0 l=none):ck d H0 (upd H l o):=fun b u e n=>by rw [aj (aP e h)];exact k b u e n
theorem ck.free (k:ck d H0 H) (h:H l=none) (hd:∃o,H d=some o):H0 l=none:=by
 cases q:H0 l with
 | none=>rfl
 | some o=>
  by_cases e:l=d
  ·subst e;obtain ⟨o',e'⟩:=hd;rw [h] at e';cases e'
  ·rw [k l o q e] at h;cases h
end L2
namespace Y0
open PySem L2
theorem eB.there (x:eB K sa H d):∃o,H d=some o:=let ⟨p,e⟩:=x.at_;⟨_,e⟩
theorem eB.upd (x:eB K sa H d) (hl:H l=some (.lst xs)) (hd:l≠d):eB K sa (upd H l o) d:=by obtain ⟨⟨p,h⟩,⟨ns,r⟩⟩:=x;exact ⟨⟨p,by rw [aj (aB hd)];exact h⟩,⟨ns,r.keep (fun b u e n=>by rw [aj n];exact e) hl⟩⟩
theorem eB.new (x:eB K sa H d) (hl:H l=none):eB K sa (L2.upd H l o) d:=x.same (bf hl)
def gL (m n t:Int):Int:=if m=0 then 0 else 1+(m-1+t) % (n-1)
def Qo:Sp:=fun vs H Q _=>∃m n t,vs=[.int m,.int n,.int t]/\2<=n/\Q (.int (gL m n t)) H
section
theorem zHa:cC ["_law_moment","_law_many","_law_turn"] ["_law_moment","_law_many","_law_turn"] (aU kD):=de
theorem qZ (F:Fn K mg "_law_named" kD ["_law_moment","_law_many","_law_turn"] f fd):au P w K mg base a7 1 f fd ["_law_moment","_law_many","_law_turn"] Qo:=by
 refine F.F.dw zHa fun _ A _ s H _ Q E hr h=>?_;obtain ⟨m,n,t,rfl,hn,k⟩:=h;refine ⟨_,bo (eM (ef iu (pv 0) aG) (aA (cG aG)) eV)
  (aA (cG (cE jo aG (cE JK (cE jo (cE jK (pv 0) aG) (pv 2)) (cE jK (pv 1) aG))))),?_⟩
 refine ⟨_,rfl,rfl,_,rfl,?_⟩;refine j_ (fun hc=>?_) (fun hc=>?_)
 ·have e:m=0:=by simpa using hc
  have q:gL m n t=0:=by unfold gL;rw [if_pos e]
  rw [q] at k;exact k
 ·have e:¬m=0:=by simpa using hc
  have q:gL m n t=1+(m-1+t) % (n-1):=by unfold gL;rw [if_neg e]
  rw [q] at k;exact ⟨_,rfl,_,_,rfl,rfl,_,rfl,_,_,rfl,rfl,_,rfl,_,_,rfl,rfl,_,_,rfl,rfl,(by show (0:Int)<n-1;exact Hh hn),_,_,rfl,rfl,k⟩
end
def xJ (n:Int) (c:Nat) (rows:List (List Int)):Prop:=∀(k:Nat) r,rows[k]?=some r->∃a l m:Int,r=[a,n-1-k,l,m]/\0<=a/\a<n-c/\1<=l/\l<=m/\m<=60
theorem xJ.snoc (h:xJ n c rows) (h1:0<=a) (h2:a<n-c) (h3:1<=l) (h4:l<=m) (h5:m<=60):xJ n c (rows++[[a,n-1-rows.length,l,m]]):=by
 intro k r e
 by_cases hk:k<rows.length
 ·rw [me hk] at e;exact h k r e
 ·rw [mC (by exact mh hk)] at e;have pJ:k-rows.length=0:=by
   cases q:k-rows.length with
   | zero=>rfl
   | succ z=>rw [q] at e;simp at e
  rw [pJ] at e;cases e;have:k=rows.length:=by lia
  subst this;exact ⟨a,l,m,rfl,h1,h2,h3,h4,h5⟩
def ED (wd:Int) (rows:List (List Int)):Prop:=wd≠8->rows.length<=3/\∀r∈rows,r.getD 3 0-r.getD 2 0<wd
def P_ (K:bE):Sp:=fun vs H Q _=>∃d sa n wd,vs=[.ref d,.int n,.int wd]/\eB K sa H d/\2<=n/\n<=8/\1<=wd/\wd<=8/\
 ∀(l:Addr) (c:Nat) rows H',(c:Int)<=n-1->rows.length=c->xJ n c rows->dQ H' l rows->H l=none->eB K sa H' d->ck d H H'->ED wd rows->Q (.ref l) H'
section
abbrev nF:List Str:=["_law_d","_law_many","_law_wide","_law_count","_law_falls_here","_law_k","_law_least","_law_most"]
theorem uG:cC nF ["_law_d","_law_many","_law_wide"] (aU kE):=de
theorem rg (F:Fn K mg "_law_falls" kE ["_law_d","_law_many","_law_wide"] f fd) (FN:Fn K mg "_law_next" ju ["_law_dice","_law_many"] fN oN)
 (GN:au P w K mg base a7 1 fN oN ["_law_dice","_law_many"] (Bt K)) (min:mg "min"=none) (range:mg "range"=none):au P w K mg base a7 2 f fd ["_law_d","_law_many","_law_wide"] (P_ K):=by
 refine F.F.dw uG fun _ A _ s H _ Q E hr h=>?_;obtain ⟨d,sa,n,wd,rfl,D,zd,wK,rH,Mq,k⟩:=h;refine ⟨_,bo (cF 3 uG.nd (cH GN hr FN (bS (pv 0) (cE jo (lB (xU rfl) (by rfl) min (by decide+kernel) (bS aG (cE jK (pv 1) aG))) aG))))
  (bo (z_ (eM (PW.pt (xy (ef iu (pv 2) aG) (xI (ef iu (cH GN hr FN (bS (pv 0) aG)) aG))))
   (aA (cF 3 uG.nd (cH GN hr FN (bS (pv 0) (pv 1))))) eV))
  (bo (cF 4 uG.nd (l9 qG))
  (bo (iG PassesOwn.never rfl (ux rfl range (bR (pv 3))) (bV 5 uG.nd)
   (bo (cF 6 uG.nd (cE jo aG (cH GN hr FN (bS (pv 0) (pv 2)))))
   (bo (cF 7 uG.nd (cE jo (pv 6) (cH GN hr FN (bS (pv 0) (pv 2)))))
   (bo (z_ (eM (PW.pt (xy (ef iu (pv 2) aG) (xI (ef iu (cH GN hr FN (bS (pv 0) aG)) aG))))
    (bo (cF 6 uG.nd (cE jo aG (cH GN hr FN (bS (pv 0) aG))))
    (aA (cF 7 uG.nd (cE jo (pv 6) (cH GN hr FN (bS (pv 0) (cE jK aG (pv 6)))))))) eV))
   (aA (gE (qE so qy sk qi (pv 4)
    (bR (eU (nk (cH GN hr FN (bS (pv 0) (cE jK (pv 1) (pv 3)))) (cE jK (cE jK (pv 1) aG) (pv 5)) (pv 6) (pv 7)))))))))))
  (aA (cG (pv 4)))))),?_⟩
 refine ⟨_,rfl,_,rfl,_,_,rfl,rfl,_,_,rfl,_,_,rfl,rfl,d,sa,_,rfl,D,(by split<;>lia),fun c0 H1 Dv zq D1 k1=>?_⟩;have Wb:c0<=n-1:=by
  revert zq
  split<;>intro zq<;>lia
 have hc3:c0<=3:=by
  revert zq
  split<;>intro zq<;>lia
 refine ⟨fun ae H'=>∃c:Nat,(c:Int)<=n-1/\(wd≠8->c<=3)/\ae=[some (.ref d),some (.int n),some (.int wd),some (.int (c:Int)),none,none,none,none]/\eB K sa H' d/\ck d H H',?_,?_⟩
 ·
  refine ⟨_,rfl,rfl,_,rfl,?_⟩;refine j_ (fun h8=>?_) (fun _=>?_)
  ·have h8:wd=8:=by simpa using h8
   refine ⟨_,rfl,d,sa,_,rfl,D1,by decide,fun r H2 _ _ D2 k2=>⟨rfl,_,rfl,?_⟩⟩;refine j_ (fun _=>?_) (fun _=>?_)
   ·refine ⟨_,rfl,_,rfl,d,sa,_,rfl,D2,by exact eR zd,fun c H3 h0 h1 D3 k3=>⟨c.toNat,by lia,fun z=>absurd h8 z,?_,D3,(k1.trans k2).trans k3⟩⟩;rw [mi h0];rfl
   ·exact ⟨c0.toNat,by lia,fun z=>absurd h8 z,by rw [mi Dv];rfl,D2,k1.trans k2⟩
  ·refine ji ?_;exact ⟨c0.toNat,by lia,fun _=>by lia,by rw [mi Dv];rfl,D1,k1⟩
 ·rintro ae H2 ⟨c,hc,hcw,rfl,D2,k2⟩;refine ⟨dP _,fun l hl=>?_⟩;have Df:H l=none:=k2.free hl D2.there;have ld:l≠d:=fun e=>by
   subst e;obtain ⟨o,q⟩:=D2.there;rw [hl] at q;cases q
  refine ⟨_,rfl,_,rfl,by exact ip (c+Nat.succ 4611686018427387903),by lia,BW (n:=c) (fun i ae H'=>∃v1 v2 v3 ps rows,ae=[some (.ref d),some (.int n),some (.int wd),some (.int (c:Int)),some (.ref l),v1,v2,v3]/\gj H' l ps rows/\rows.length=i/\xJ n c rows/\eB K sa H' d/\ck d H H'/\(wd≠8->∀r∈rows,r.getD 3 0-r.getD 2 0<wd))
   ⟨none,none,none,[],[],rfl,⟨aq,.nil⟩,rfl,(fun k r e=>by simp at e),D2.new hl,mR k2 Df,fun _ r hr=>nomatch hr⟩ ?_ ?_⟩
  ·rintro i ae H3 hi ⟨v1,v2,v3,ps,rows,rfl,R3,hlen,hF,D3,k3,oM⟩;have kl:∀{H4:Hp},ck d H3 H4->gj H4 l ps rows:=fun k4=>by
    obtain ⟨p,e⟩:=D3.at_;exact R3.keep k4 e ld
   refine ⟨_,rfl,_,rfl,d,sa,_,rfl,D3,rH,fun r1 H4 qu N' D4 k4=>⟨_,_,rfl,rfl,?_⟩⟩;refine ⟨_,rfl,_,rfl,_,rfl,d,sa,_,rfl,D4,rH,fun r2 H5 AR Wr D5 k5=>⟨_,_,rfl,rfl,?_⟩⟩;refine ⟨fun ae H'=>∃a b:Int,1<=a/\a<=b/\b<=60/\(wd≠8->b-a<wd)/\ae=[some (.ref d),some (.int n),some (.int wd),some (.int (c:Int)),some (.ref l),some (.int (0+(i:Int))),some (.int a),some (.int b)]/\eB K sa H' d/\ck d H3 H',?_,?_⟩
   ·refine ⟨_,rfl,rfl,_,rfl,?_⟩;refine j_ (fun h8=>?_) (fun _=>?_)
    ·have h8:wd=8:=by simpa using h8
     refine ⟨_,rfl,d,sa,_,rfl,D5,by decide,fun r H6 _ _ D6 k6=>⟨rfl,_,rfl,?_⟩⟩;refine j_ (fun _=>?_) (fun _=>?_)
     ·refine ⟨_,rfl,d,sa,_,rfl,D6,by decide,fun r3 H7 Wq h3b D7 k7=>⟨_,_,rfl,rfl,?_⟩⟩;refine ⟨_,rfl,_,rfl,_,rfl,_,_,rfl,rfl,d,sa,_,rfl,D7,by lia,fun r4 H8 h4a h4b D8 k8=>⟨_,_,rfl,rfl,?_⟩⟩;exact ⟨1+r3,1+r3+r4,mw Wq,mw h4a,by lia,fun z=>absurd h8 z,rfl,D8,(((k4.trans k5).trans k6).trans k7).trans k8⟩
     ·exact ⟨1+r1,1+r1+r2,mw qu,mw AR,by lia,fun z=>absurd h8 z,rfl,D6,(k4.trans k5).trans k6⟩
    ·refine ji ?_;exact ⟨1+r1,1+r1+r2,mw qu,mw AR,by lia,fun _=>by lia,rfl,D5,k4.trans k5⟩
   ·rintro ae H6 ⟨a,b,ha,lr,hb,hba,rfl,D6,k6⟩;have R6:=kl k6;refine ⟨_,rfl,.inl ⟨rfl,_,a9.of R6.1⟩,?_⟩;refine ⟨_,rfl,_,rfl,_,rfl,_,_,rfl,rfl,d,sa,_,rfl,D6,by lia,fun r5 H7 h5a h5b D7 k7=>?_⟩;have R7:=kl (k6.trans k7);refine ⟨_,rfl,_,_,rfl,rfl,_,rfl,_,_,rfl,rfl,_,rfl,_,rfl,dU rfl,fun p hp=>?_⟩;have R8:=R7.same (bf (o:=.tup [.int r5,.int (n-1-(0+(i:Int))),.int a,.int b]) hp);refine ⟨l,_,_,rfl,rfl,R8.1,?_,?_⟩
    ·rw [aI,R8.len];exact gy (by lia)
    ·have e0:(0:Int)+(i:Int)=(rows.length:Int):=by rw [hlen];lia
     refine ⟨_,_,_,ps++[p],rows++[[r5,n-1-(0+(i:Int)),a,b]],rfl,R8.push aq,by rw [iT,hlen];rfl,?_,?_,?_,fun z r hr=>?_⟩
     ·rw [e0];exact hF.snoc h5a h5b ha lr hb
     ·exact (D7.new hp).upd R8.1 ld
     ·exact mR (mR ((k3.trans k6).trans k7) (((k3.trans k6).trans k7).free hp D7.there)) Df
     ·rcases jF.mp hr with y | y
      ·exact oM z r y
      ·rw [iD.mp y];exact hba z
  ·rintro ae H3 ⟨v1,v2,v3,ps,rows,rfl,R3,hlen,hF,D3,k3,oM⟩;exact ⟨_,rfl,k l c rows H3 hc hlen hF ⟨ps,R3⟩ Df D3 k3 fun z=>⟨by rw [hlen];exact hcw z,oM z⟩⟩
end
theorem Kf {x n:Int} (h0:0<=x) (h1:x<2*n) (hn:0<n):x % n=if x<n then x else x-n:=by
 by_cases h:x<n
 ·rw [if_pos h,Int.emod_eq_of_lt h0 h]
 ·rw [if_neg h];have e:x % n=(x-n) % n:=by
   first
    | exact (Int.sub_emod_right x n).symm
    | (have:=Int.tO (a:=x-n) (b:=n);rw [Int.sub_add_cancel] at this;exact this)
  rw [e,Int.emod_eq_of_lt (by lia) (by lia)]
theorem P1 {xs:List Int} {i:Int} (h0:0<=i) (h1:i<xs.length):∃v,v∈xs/\jf (xs.map V.int) i=some (.int v):=by
 obtain ⟨j,rfl⟩:∃j:Nat,i=j:=⟨i.toNat,by lia⟩;have hi:j<xs.length:=by lia
 exact ⟨xs[j],zL hi,lg (by rw [fG,lz hi];rfl)⟩
def vF (n:Int) (r:List Int):Prop:=∃a b l m:Int,r=[a,b,l,m]/\0<=a/\a<n/\0<=b/\b<n/\a≠b/\-60<=l/\l<=m/\m<=60
def Pj (K:bE):Sp:=fun vs H Q _=>∃d sa n la wd,vs=[.ref d,.int n,.int la,.int wd]/\eB K sa H d/\2<=n/\n<=8/\1<=la/\la<=60/\1<=wd/\wd<=8/\
 ∀(l:Addr) rows H',rows.length<=12->(∀r∈rows,vF n r)->dQ H' l rows->H l=none->eB K sa H' d->ck d H H'->Q (.ref l) H'
section
abbrev nT:List Str:=["_law_d","_law_many","_law_last","_law_wide","_law_ties_here","_law_k","_law_times","_law_count","_law_one","_law_other","_law_near","_law_least"]
theorem qQ:cC nT ["_law_d","_law_many","_law_last","_law_wide"] (aU lI):=de
theorem coT:jB (aU lI) nT (nP [(".0",.local),("_law_k",.local),("_law_next",.globalImplicit),("_law_d",.free),("_law_last",.free)]) ["_law_k","_law_d","_law_last"] [none,some 0,some 2]:=nS
theorem ndT:(["_law_k","_law_d","_law_last"]:List Str).Nodup:=by decide+kernel
theorem uM (F:Fn K mg "_law_ties" lI ["_law_d","_law_many","_law_last","_law_wide"] f fd) (FN:Fn K mg "_law_next" ju ["_law_dice","_law_many"] fN oN)
 (GN:au P w K mg base a7 1 fN oN ["_law_dice","_law_many"] (Bt K)) (min:mg "min"=none) (max:mg "max"=none) (range:mg "range"=none):au P w K mg base a7 2 f fd ["_law_d","_law_many","_law_last","_law_wide"] (Pj K):=by
 refine F.F.dw qQ fun _ A _ s H _ Q E hr h=>?_;obtain ⟨d,sa,n,la,wd,rfl,D,zd,wK,rP,oE,rH,_,k⟩:=h;refine ⟨_,cy (cF 4 qQ.nd (l9 qG))
  (cy (cF 6 qQ.nd (cE JI (l9 (bR aG)) (qg rfl (ux rfl range (bR (cE jK (pv 1) aG))) coT
   (fun cl ex s0 H0=>⟨bV 0 ndT,sY,cH GN hr FN (bS (pv 1) (cE jo (pv 2) aG))⟩))))
  (cy (cF 7 qQ.nd (cH GN hr FN (bS (pv 0) aG)))
  (cy (z_ (eM (PW.pt (xy (ef iu (pv 3) aG) (xI (ef iu (cH GN hr FN (bS (pv 0) aG)) aG))))
   (aA (cF 7 qQ.nd (cH GN hr FN (bS (pv 0) aG)))) eV))
  (cy (iG PassesOwn.never rfl (ux rfl range (bR (pv 7))) (bV 5 qQ.nd)
   (cy (cF 8 qQ.nd (cH GN hr FN (bS (pv 0) (pv 1))))
   (cy (cF 9 qQ.nd (cE JK (cE jo (cE jo (pv 8) aG) (cH GN hr FN (bS (pv 0) (cE jK (pv 1) aG)))) (pv 1)))
   (cy (cF 10 qQ.nd (cE jK (cY dC (pv 6) (pv 9)) (cY dC (pv 6) (pv 8))))
   (cy (z_ (eM (ef iu (cH GN hr FN (bS (pv 0) aG)) aG)
    (aA (cF 10 qQ.nd (cE jK (cH GN hr FN (bS (pv 0) (cE jo (cE zDt aG (pv 2)) aG))) (pv 2)))) eV))
   (cy (cF 11 qQ.nd (lB (Ru rfl) (by rfl) max (by decide+kernel) (bS (vK vM aG) (cE jK (pv 10) (cH GN hr FN (bS (pv 0) (cE jo (pv 3) aG)))))))
   (aA (gE (qE so qy sk qi (pv 4)
    (bR (eU (nk (pv 8) (pv 9) (pv 11) (lB (xU rfl) (by rfl) min (by decide+kernel) (bS aG (lB (Ru rfl) (by rfl) max (by decide+kernel)
     (bS (pv 11) (cE jo (pv 10) (cH GN hr FN (bS (pv 0) (cE jo (pv 3) aG))))))))))))))))))))
  (aA (cG (pv 4))))))),?_⟩
 refine fun M0 m0=>⟨dP _,fun l hl=>m0 _ _ ?_⟩;clear m0 M0;have ld:l≠d:=fun e=>by subst e;obtain ⟨o,q⟩:=D.there;rw [hl] at q;cases q
 refine fun M0 m0=>⟨dU rfl,fun z hz=>?_⟩;refine ⟨_,rfl,_,_,rfl,rfl,_,rfl,by lia,by lia,fun Da di=>?_⟩;have zl:z≠l:=aB (aP (aq (H:=H) (a:=l) (o:=.lst [])) hz);have VD:H z=none:=by rw [aj zl] at hz;exact hz
 have OX:Da≠l:=aB (aP (show upd (upd H l (.lst [])) z (.lst [.int 0]) l=some (.lst []) by rw [aj (aB zl),aq]) di);have OW:Da≠z:=aB (aP (aq (H:=upd H l (.lst [])) (a:=z) (o:=.lst [.int 0])) di);have vw:H Da=none:=by rw [aj OW,aj OX] at di;exact di
 have nd:∀{a:Addr},H a=none->a≠d:=fun {a} e q=>by subst q;obtain ⟨o,q⟩:=D.there;rw [e] at q;cases q
 refine BX (n:=(n-1).toNat) (fun i ae H'=>∃v,∃ts:List Int,ae=[v,some (.ref d),some (.int la)]/\ts.length=i/\(∀t∈ts,0<=t/\t<=la)/\H' Da=some (.lst (ts.map V.int))/\H' l=some (.lst [])/\H' z=some (.lst [.int 0])/\eB K sa H' d/\ck d H H') ?_ ?_ ?_
 ·exact ⟨none,[],rfl,rfl,(fun t ht=>nomatch ht),aq,by rw [aj (aB OX),aj (aB zl),aq],by rw [aj (aB OW),aq],((D.new hl).new hz).new di,mR (mR (mR (ck.refl d H) hl) VD) vw⟩
 ·rintro i ae H3 hi ⟨v,ts,rfl,hlen,Mv,e1,e2,e3,D3,k3⟩;refine ⟨_,rfl,_,rfl,_,_,rfl,rfl,d,sa,_,rfl,D3,by lia,fun r H4 h0 h1 D4 k4=>?_⟩;have f1:=k4 _ _ e1 (nd vw);refine ⟨_,f1,?_,_,ts++[r],rfl,by rw [iT,hlen];rfl,fun t ht=>?_,?_,?_,?_,D4.upd f1 (nd vw),mR (k3.trans k4) vw⟩
  ·rw [aI];exact gy (by omega)
  ·rcases jF.mp ht with q | q
   ·exact Mv t q
   ·rw [iD.mp q];lia
  ·rw [aq,fY];rfl
  ·rw [aj (aB OX)];exact k4 _ _ e2 ld
  ·rw [aj (aB OW)];exact k4 _ _ e3 (nd VD)
 ·rintro ae H3 ⟨v,ts,rfl,hlen,Mv,e1,e2,e3,D3,k3⟩;refine ⟨z,Da,_,_,rfl,rfl,e3,e1,?_,fun tl qp=>m0 _ _ ?_⟩
  ·rw [aI];exact aS (gy (by simp;omega))
  clear m0 M0;have kJ:H tl=none:=k3.free qp D3.there;have Vf:tl≠l:=aB (aP e2 qp);obtain ⟨tt,lN,aF,gp⟩:∃tt:List Int,[V.int 0]++ts.map V.int=tt.map V.int/\(tt.length:Int)=n/\∀t∈tt,0<=t/\t<=la:=by
   refine ⟨0::ts,rfl,by rw [mf,hlen];omega,fun t ht=>?_⟩;rcases eh.mp ht with q | q
   ·rw [q];lia
   ·exact Mv t q
  rw [lN];have g1:upd H3 tl (.lst (tt.map V.int)) tl=some (.lst (tt.map V.int)):=aq;have g2:upd H3 tl (.lst (tt.map V.int)) l=some (.lst []):=by rw [aj (aB Vf)];exact e2
  have D4:eB K sa (upd H3 tl (.lst (tt.map V.int))) d:=D3.new qp;have k4:ck d H (upd H3 tl (.lst (tt.map V.int))):=mR k3 kJ;refine fun M0 m0=>⟨_,rfl,d,sa,_,rfl,D4,by decide,fun c0 H5 Dv zq D5 k5=>m0 _ _ ?_⟩;clear m0 M0;have l5:=k5 _ _ g2 ld;have t5:=k5 _ _ g1 (nd kJ);refine fun M0 m0=>⟨fun ae H'=>∃c:Nat,c<=12/\ae=[some (.ref d),some (.int n),some (.int la),some (.int wd),some (.ref l),none,some (.ref tl),some (.int (c:Int)),none,none,none,none]/\eB K sa H' d/\ck d H H'/\H' l=some (.lst [])/\H' tl=some (.lst (tt.map V.int)),?_,?_⟩
  ·refine ⟨_,rfl,rfl,_,rfl,?_⟩;refine j_ (fun _=>?_) (fun _=>?_)
   ·refine ⟨_,rfl,d,sa,_,rfl,D5,by decide,fun r H6 _ _ D6 k6=>⟨rfl,_,rfl,?_⟩⟩;refine j_ (fun _=>?_) (fun _=>?_)
    ·refine ⟨_,rfl,d,sa,_,rfl,D6,by decide,fun c H7 h0 h1 D7 k7=>⟨c.toNat,by lia,?_,D7,((k4.trans k5).trans k6).trans k7,(k6.trans k7) _ _ l5 ld,(k6.trans k7) _ _ t5 (nd kJ)⟩⟩;rw [mi h0];rfl
    ·exact ⟨c0.toNat,by lia,by rw [mi Dv];rfl,D6,(k4.trans k5).trans k6,k6 _ _ l5 ld,k6 _ _ t5 (nd kJ)⟩
   ·refine ji ?_;exact ⟨c0.toNat,by lia,by rw [mi Dv];rfl,D5,k4.trans k5,l5,t5⟩
  ·rintro ae H6 ⟨c,hc,rfl,D6,k6,l6,t6⟩;refine m0 _ _ fun M1 m1=>⟨_,rfl,_,rfl,by exact ip (c+Nat.succ 4611686018427387903),by lia,BW (n:=c) (fun i ae H'=>∃v1 v2 v3 v4 v5 ps rows,ae=[some (.ref d),some (.int n),some (.int la),some (.int wd),some (.ref l),v1,some (.ref tl),some (.int (c:Int)),v2,v3,v4,v5]/\gj H' l ps rows/\rows.length=i/\(∀r∈rows,vF n r)/\
    H' tl=some (.lst (tt.map V.int))/\eB K sa H' d/\ck d H H') ⟨none,none,none,none,none,[],[],rfl,⟨l6,.nil⟩,rfl,(fun r hr=>nomatch hr),t6,D6,k6⟩ ?_ ?_⟩
   ·rintro i ae H7 hi ⟨v1,v2,v3,v4,v5,ps,rows,rfl,R7,rO,af,t7,D7,k7⟩;have kl:∀{H8:Hp},ck d H7 H8->gj H8 l ps rows:=fun k8=>by
     obtain ⟨p,e⟩:=D7.at_;exact R7.keep k8 e ld
    refine fun M2 m2=>⟨_,rfl,_,rfl,d,sa,_,rfl,D7,by exact eR zd,fun o1 H8 qu N' D8 k8=>m2 _ _ ?_⟩;clear m2 M2;refine fun M2 m2=>⟨_,rfl,_,_,rfl,rfl,_,rfl,_,rfl,_,_,rfl,rfl,d,sa,_,rfl,D8,by lia,fun o2 H9 AR Wr D9 k9=>⟨_,_,rfl,rfl,_,rfl,_,_,rfl,rfl,(by show (0:Int)<n;exact eR zd),m2 _ _ ?_⟩⟩;clear m2 M2;have hw:=Kf (x:=o1+1+o2) (n:=n) (by lia) (by lia) (by exact eR zd);have ho:0<=(o1+1+o2) % n/\(o1+1+o2) % n<n/\o1≠(o1+1+o2) % n:=by rw [hw];split<;>lia
    obtain ⟨CT,ho2,Il⟩:=ho;have t9:=(k8.trans k9) _ _ t7 (nd kJ);obtain ⟨w1,Mr,ha1⟩:=P1 (xs:=tt) CT (by lia);obtain ⟨w2,Mp,ha2⟩:=P1 (xs:=tt) qu (by lia);have b1:=gp w1 Mr;have b2:=gp w2 Mp;refine fun M2 m2=>⟨_,rfl,jJ rfl t9 ha1 ⟨_,rfl,jJ rfl t9 ha2 ⟨_,_,rfl,rfl,m2 _ _ ?_⟩⟩⟩;clear m2 M2;refine fun M2 m2=>⟨fun ae H'=>∃nr:Int,-60<=nr/\nr<=60/\ae=[some (.ref d),some (.int n),some (.int la),some (.int wd),some (.ref l),some (.int (0+(i:Int))),some (.ref tl),some (.int (c:Int)),some (.int o1),some (.int ((o1+1+o2) % n)),some (.int nr),v5]/\eB K sa H' d/\ck d H7 H',?_,?_⟩
    ·refine ⟨_,rfl,d,sa,_,rfl,D9,by decide,fun r tW _ _ IT tD=>⟨rfl,_,rfl,?_⟩⟩;refine j_ (fun _=>?_) (fun _=>?_)
     ·refine ⟨_,rfl,_,rfl,_,_,rfl,rfl,.inl ⟨by decide,by decide⟩,_,_,rfl,rfl,d,sa,_,rfl,IT,by lia,fun r' OT g0 z9 OY yR=>⟨_,rfl,_,_,rfl,rfl,r'-la,by lia,by lia,rfl,OY,((k8.trans k9).trans tD).trans yR⟩⟩
     ·exact ⟨w1-w2,by lia,by lia,rfl,IT,(k8.trans k9).trans tD⟩
    ·rintro ae tW ⟨nr,_,hnr2,rfl,IT,tD⟩;refine m2 _ _ fun M3 m3=>⟨_,rfl,_,rfl,_,rfl,_,rfl,_,_,rfl,rfl,d,sa,_,rfl,IT,by lia,fun r1 OT Wq _ OY yR=>⟨_,_,rfl,rfl,_,_,rfl,m3 _ _ ?_⟩⟩;clear m3 M3 m2 M2;obtain ⟨le,W9,le1,le2⟩:∃le,(if nr-r1> -60 then nr-r1 else-60)=le/\-60<=le/\le<=60:=⟨_,rfl,by split<;>lia,by split<;>lia⟩;rw [W9];clear W9;have R11:=kl (tD.trans yR);refine ⟨_,rfl,.inl ⟨rfl,_,a9.of R11.1⟩,?_⟩;refine ⟨_,rfl,_,rfl,_,rfl,_,rfl,_,rfl,_,rfl,_,rfl,_,_,rfl,rfl,d,sa,_,rfl,OY,by lia,fun r2 H12 _ _ W_ H_=>⟨_,_,rfl,rfl,_,_,rfl,_,_,rfl,dU rfl,fun p hp=>?_⟩⟩;obtain ⟨mo,W7,mo1,mo2⟩:∃mo,(if (if nr+r2>le then nr+r2 else le)<60 then (if nr+r2>le then nr+r2 else le) else 60)=mo/\le<=mo/\mo<=60:=⟨_,rfl,by repeat' split<;>lia,by split<;>lia⟩;rw [W7];clear W7;have R12:=kl ((tD.trans yR).trans H_);have IM:=R12.same (bf (o:=.tup [.int o1,.int ((o1+1+o2) % n),.int le,.int mo]) hp);have kA:=((k7.trans tD).trans yR).trans H_;refine ⟨l,_,_,rfl,rfl,IM.1,?_,?_⟩
     ·rw [aI,IM.len];exact gy (by lia)
     ·refine ⟨_,_,_,_,_,ps++[p],rows++[[o1,(o1+1+o2) % n,le,mo]],rfl,IM.push aq,by rw [iT,rO];rfl,fun r hr=>?_,?_,?_,?_⟩
      ·rcases jF.mp hr with q | q
       ·exact af r q
       ·rw [iD.mp q];exact ⟨_,_,_,_,rfl,qu,N',CT,ho2,Il,le1,mo1,mo2⟩
      ·rw [aj Vf,aj (aB (aP ((((tD.trans yR).trans H_)) _ _ t7 (nd kJ)) hp).symm)];exact ((tD.trans yR).trans H_) _ _ t7 (nd kJ)
      ·exact (W_.new hp).upd IM.1 ld
      ·exact mR (mR kA (kA.free hp W_.there)) hl
   ·rintro ae H7 ⟨v1,v2,v3,v4,v5,ps,rows,rfl,R7,rO,af,_,D7,k7⟩;exact m1 _ _ ⟨_,rfl,k l rows H7 (An rO hc) af ⟨ps,R7⟩ hl D7 k7⟩
end
theorem aY {l:List α} {m:List β} {i:Nat} {a:α} (h:Paired F l m) (e:l[i]?=some a):∃b,m[i]?=some b/\F a b:=by
 induction h generalizing i with
 | nil=>simp at e
 | cons r t ih=>
  cases i with
  | zero=>simp at e;subst e;exact ⟨_,rfl,r⟩
  | succ i=>
   obtain ⟨b,h1,h2⟩:=ih (i:=i) (by simpa using e);exact ⟨b,by simpa using h1,h2⟩
theorem eB.rC (x:eB K sa H d) (k:ck l H H1) (hl:H l=some (.lst xs)) (hd:l≠d):eB K sa H1 d:=by obtain ⟨⟨p,h⟩,⟨ns,r⟩⟩:=x;exact ⟨⟨p,k _ _ h (aB hd)⟩,⟨ns,r.keep k hl⟩⟩
theorem Qy (a:ck d H H1) (b:ck l H1 H2) (hl:H l=none):ck d H H2:=fun c o e n=>b c o (a c o e n) (aP e hl)
theorem Ha (hn:2<=n) (h0:0<=m):0<=gL m n t/\gL m n t<n:=by
 unfold gL;split
 ·lia
 ·have h1:=Int.emod_nonneg (m-1+t) (show n-1≠0 by lia);have h2:=Int.emod_lt_of_pos (m-1+t) (show 0<n-1 by exact Hh hn);omega
theorem KN (hn:2<=n) (h0:m≠0):0<gL m n t:=by unfold gL;rw [if_neg h0];have h1:=Int.emod_nonneg (m-1+t) (show n-1≠0 by lia);omega
theorem Hq (hn:2<=n) (ha:0<=a) (rX:a<n) (hb:0<=b) (dO:b<n) (ht:0<=t) (yU:t<n) (e:gL a n t=gL b n t):a=b:=by
 by_cases a0:a=0
 ·by_cases b0:b=0
  ·lia
  ·have:=KN (t:=t) hn b0;have z:gL a n t=0:=by unfold gL;rw [if_pos a0]
   lia
 ·by_cases b0:b=0
  ·have:=KN (t:=t) hn a0;have z:gL b n t=0:=by unfold gL;rw [if_pos b0]
   lia
  ·unfold gL at e;rw [if_neg a0,if_neg b0,Kf (x:=a-1+t) (n:=n-1) (by lia) (by lia) (Hh hn),Kf (x:=b-1+t) (n:=n-1) (by lia) (by lia) (Hh hn)] at e
   revert e
   split<;>split<;>intro e<;>lia
def ml (n t:Int):List Int->List Int
 | [a,b,l,m]=>[gL a n t,gL b n t,l,m]
 | r=>r
def zEb (n:Int) (r:List Int):Prop:=∃a b l m:Int,r=[a,b,l,m]/\0<=a/\a<n/\0<b/\b<n/\a≠b/\1<=l/\l<=m/\m<=60
structure cO (n la:Int) (T F:List (List Int)):Prop where
 n1:1<=n
 n2:n<=8
 l1:1<=la
 l2:la<=60
 tl:T.length<=24
 fl:F.length<=7
 t:∀r∈T,vF n r
 f:∀r∈F,zEb n r
 one:∀(i j:Nat) r r',F[i]?=some r->F[j]?=some r'->r[1]?=r'[1]?->i=j
 own:∀r∈F,∀r'∈F,r[0]?≠r'[1]?
theorem vF.LH (hn:2<=n) (ht:0<=t) (yU:t<n) (h:vF n r):vF n (ml n t r):=by obtain ⟨a,b,l,m,rfl,h1,h2,h3,h4,h5,h6,h7,h8⟩:=h;have ha:=Ha (t:=t) hn h1;have hb:=Ha (t:=t) hn h3;exact ⟨_,_,l,m,rfl,ha.1,ha.2,hb.1,hb.2,fun e=>h5 (Hq hn h1 h2 h3 h4 ht yU e),h6,h7,h8⟩
theorem XO {n la t:Int} {c:Nat} {T F:List (List Int)} (hn:2<=n) (wK:n<=8) (rP:1<=la) (oE:la<=60) (ht:0<=t) (yU:t<n) (hT:∀r∈T,vF n r) (AN:T.length<=12) (hc:(c:Int)<=n-1) (hlen:F.length=c) (hF:xJ n c F):
 cO n la (T.map (ml n t)) (F.map (ml n t)):=by
 have at_:∀(i:Nat) r,(F.map (ml n t))[i]?=some r->∃a l m:Int,r=[gL a n t,gL (n-1-i) n t,l,m]/\i<c/\0<=a/\a<n-c/\1<=l/\l<=m/\m<=60:=fun i r e=>by
  rw [fG] at e
  cases q:F[i]? with
  | none=>rw [q] at e;cases e
  | some r0=>
   rw [q] at e;have hi:i<c:=by rw [<-hlen];exact (gu.mp q).1
   obtain ⟨a,l,m,rfl,r1⟩:=hF i r0 q;cases e;exact ⟨a,l,m,rfl,hi,r1⟩
 have mem:∀r,r∈F.map (ml n t)->∃i:Nat,(F.map (ml n t))[i]?=some r:=fun r hr=>pV.mp hr;refine ⟨by exact eR hn,wK,rP,oE,by rw [aI];lia,by rw [aI];lia,fun r hr=>?_,fun r hr=>?_,fun i j r r' e e' q=>?_,fun r hr r' ay=>?_⟩
 ·obtain ⟨r0,h0,rfl⟩:=eI.mp hr;exact (hT r0 h0).LH hn ht yU
 ·obtain ⟨i,e⟩:=mem r hr;obtain ⟨a,l,m,rfl,hi,h1,h2,h3,h4,h5⟩:=at_ i r e;have ha:=Ha (t:=t) hn h1;have hb:=Ha (m:=n-1-i) (t:=t) hn (by lia);exact ⟨_,_,l,m,rfl,ha.1,ha.2,KN hn (by lia),hb.2,fun z=>by
   have:=Hq hn h1 (by lia) (by lia) (by lia) ht yU z;lia,h3,h4,h5⟩
 ·obtain ⟨a,l,m,rfl,hi,_⟩:=at_ i r e;obtain ⟨a',l',m',rfl,hj,_⟩:=at_ j r' e';have z:gL (n-1-i) n t=gL (n-1-j) n t:=by simpa using q
  have:=Hq hn (by lia) (by lia) (by lia) (by lia) ht yU z;lia
 ·obtain ⟨i,e⟩:=mem r hr;obtain ⟨j,e'⟩:=mem r' ay;obtain ⟨a,l,m,rfl,hi,h1,h2,_⟩:=at_ i r e;obtain ⟨a',l',m',rfl,hj,_⟩:=at_ j r' e';intro q;have z:gL a n t=gL (n-1-j) n t:=by simpa using q
  have:=Hq hn h1 (by lia) (by lia) (by lia) ht yU z;lia
theorem ED.LH (h:ED wd rows) (hF:xJ n0 c rows):ED wd (rows.map (ml n t)):=fun z=>by obtain ⟨h1,h2⟩:=h z;refine ⟨by rw [aI];exact h1,fun r hr=>?_⟩;obtain ⟨r0,h0,rfl⟩:=eI.mp hr;obtain ⟨i,e⟩:=pV.mp h0;obtain ⟨a,l,m,e',_⟩:=hF i r0 e;have:=h2 r0 h0;subst e';exact this
def UO (K:bE):Sp:=fun vs H Q _=>∃d sa mo la wd,vs=[.ref d,.int mo,.int la,.int wd]/\eB K sa H d/\2<=mo/\mo<=8/\1<=la/\la<=60/\1<=wd/\wd<=8/\
 ∀(p ta fa:Addr) n l T F H',H' p=some (.tup [.int n,.int l,.ref ta,.ref fa])->dQ H' ta T->dQ H' fa F->cO n l T F->2<=n->n<=mo->l<=la->eB K sa H' d->ck d H H'->ta≠d->fa≠d->ED wd F/\T.length<=12->Q (.ref p) H'
section
abbrev nW:List Str:=["_law_d","_law_most","_law_last","_law_wide","_law_many","_law_falls_here","_law_ties_here","_law_turn","_law_found","_law_rows"]
theorem wx:cC nW ["_law_d","_law_most","_law_last","_law_wide"] (aU qR):=de
abbrev V2:List Str:=["_law_r","_law_many","_law_turn"]
theorem coW:jB (aU qR) nW (nP [(".0",.local),("_law_r",.local),("_law_named",.globalImplicit),("_law_many",.free),("_law_turn",.free)]) V2 [none,some 4,some 7]:=nS
theorem zHm:V2.Nodup:=by decide+kernel
theorem yB (F:Fn K mg "_law_web" qR ["_law_d","_law_most","_law_last","_law_wide"] f fd)
 (FN:Fn K mg "_law_next" ju ["_law_dice","_law_many"] fN oN) (GN:au P w K mg base a7 1 fN oN ["_law_dice","_law_many"] (Bt K))
 (FM:Fn K mg "_law_named" kD ["_law_moment","_law_many","_law_turn"] fM zB) (GM:au P w K mg base a7 1 fM zB ["_law_moment","_law_many","_law_turn"] Qo)
 (FF:Fn K mg "_law_falls" kE ["_law_d","_law_many","_law_wide"] fF AS) (GF:au P w K mg base a7 2 fF AS ["_law_d","_law_many","_law_wide"] (P_ K))
 (FT:Fn K mg "_law_ties" lI ["_law_d","_law_many","_law_last","_law_wide"] fT m8) (GT:au P w K mg base a7 2 fT m8 ["_law_d","_law_many","_law_last","_law_wide"] (Pj K)):
 au P w K mg base a7 3 f fd ["_law_d","_law_most","_law_last","_law_wide"] (UO K):=by
 refine F.F.dw wx fun _ A _ s H _ Q E hr h=>?_;obtain ⟨d,sa,mo,la,wd,rfl,D,Io,C_,rP,oE,rH,Mq,k⟩:=h;have gW:cJ 1 _:=hr.mono (by decide);refine ⟨_,bo (qH (i:=4) wx.nd rfl (Or.inr rfl) (cE jo aG (cH GN gW FN (bS (pv 0) (cE jK (pv 1) aG)))))
  (bo (cF 2 wx.nd (cE jo aG (cH GN gW FN (bS (pv 0) (pv 2)))))
  (bo (cF 5 wx.nd (cH GF hr FF (iQ (pv 0) (pv 4) (pv 3))))
  (bo (cF 6 wx.nd (cH GT hr FT (nk (pv 0) (pv 4) (pv 2) (pv 3))))
  (bo (qH (i:=7) wx.nd rfl (Or.inr rfl) (cH GN gW FN (bS (pv 0) (pv 4))))
  (bo (cF 8 wx.nd (l9 qG))
  (bo (iG PassesOwn.never rfl (iH (l9 (bS (pv 6) (pv 5)))) (bV 9 wx.nd)
   (aA (gE (qE so qy sk qi (pv 8)
    (bR (qg rfl (iH (pv 9)) coW (fun cl ex s0 H0=>⟨bV 0 zHm,sY,
     eU (vP (cH GM gW FM (iQ (bc (pv 0)) (pv 1) (pv 2)))
      (vP (cH GM gW FM (iQ (bc (pv 0)) (pv 1) (pv 2)))
      (bS (bc (pv 0)) (bc (pv 0)))))⟩)))))))
  (aA (cG (eU (nk (pv 4) (pv 2) (cY dC (pv 8) aG) (cY dC (pv 8) aG))))))))))),?_⟩
 refine ⟨_,rfl,_,rfl,_,_,rfl,rfl,d,sa,_,rfl,D,by lia,fun r1 H1 qu N' D1 k1=>⟨_,_,rfl,rfl,?_⟩⟩;refine ⟨_,rfl,_,rfl,d,sa,_,rfl,D1,pd rP,fun r2 H2 AR Wr D2 k2=>⟨_,_,rfl,rfl,?_⟩⟩;refine ⟨_,rfl,_,rfl,_,rfl,d,sa,_,_,rfl,D2,mw qu,by lia,rH,Mq,fun fl c F0 H3 hc j5 NR RF Iu D3 k3 oM=>?_⟩;refine ⟨_,rfl,_,rfl,_,rfl,_,rfl,d,sa,_,_,_,rfl,D3,mw qu,by lia,mw AR,by lia,rH,Mq,fun tl T0 H4 AN nK RT qp D4 k4=>?_⟩;refine ⟨_,rfl,_,rfl,d,sa,_,rfl,D4,by lia,fun t H5 CJ Mw D5 k5=>?_⟩;have fld:fl≠d:=fun e=>by subst e;obtain ⟨o,q⟩:=D2.there;rw [Iu] at q;cases q
 have tld:tl≠d:=fun e=>by subst e;obtain ⟨o,q⟩:=D3.there;rw [qp] at q;cases q
 have WR:dQ H5 fl F0:=by obtain ⟨p,e⟩:=D3.at_;exact RF.keep (k4.trans k5) e fld
 have WQ:dQ H5 tl T0:=by obtain ⟨p,e⟩:=D4.at_;exact RT.keep k5 e tld
 have kA:ck d H H5:=(((k1.trans k2).trans k3).trans k4).trans k5;refine ⟨dP _,fun fo zj=>?_⟩;have O4:fo≠d:=fun e=>by subst e;obtain ⟨o,q⟩:=D5.there;rw [zj] at q;cases q
 have zh:H fo=none:=kA.free zj D5.there;have RF6:=WR.same (bf (o:=.lst []) zj);have RT6:=WQ.same (bf (o:=.lst []) zj);have Cg:tl≠fo:=by obtain ⟨ps,e,_⟩:=WQ;exact aP e zj
 have DB:fl≠fo:=by obtain ⟨ps,e,_⟩:=WR;exact aP e zj
 refine ⟨_,rfl,_,rfl,dU rfl,fun ll AH=>⟨ll,rfl,⟨_,a9.of aq⟩,?_⟩⟩;have yN:ll≠fo:=aB (aP (aq (H:=H5) (a:=fo) (o:=.lst [])) AH);have MS:H5 ll=none:=by rw [aj yN] at AH;exact AH
 have MV:H ll=none:=kA.free MS D5.there;generalize AO:upd (upd H5 fo (.lst [])) ll (.lst [V.ref tl,V.ref fl])=H7;have e7:H7 fo=some (.lst []):=by rw [<-AO,aj (aB yN),aq]
 have e7l:H7 ll=some (.lst [V.ref tl,V.ref fl]):=by rw [<-AO,aq]
 have RF7:dQ H7 fl F0:=by rw [<-AO];exact RF6.same (bf AH)
 have RT7:dQ H7 tl T0:=by rw [<-AO];exact RT6.same (bf AH)
 have D7:eB K sa H7 d:=by rw [<-AO];exact (D5.new zj).new AH
 have k7:ck d H H7:=by rw [<-AO];exact mR (mR kA zh) MV
 refine km (K:=K) (a:=ll) (xs:=[V.ref tl,V.ref fl]) (fun i ae H'=>∃v ls,ae=[some (.ref d),some (.int mo),some (.int (1+r2)),some (.int wd),some (.int (2+r1)),some (.ref fl),some (.ref tl),some (.int t),some (.ref fo),v]/\
  H' fo=some (.lst (ls.map V.ref))/\Paired (fun a rs=>dQ H' a rs/\a≠fo/\a≠d) ls (([T0,F0].take i).map fun R=>R.map (ml (2+r1) t))/\ck fo H7 H') ⟨none,[],rfl,e7,.nil,ck.refl fo H7⟩ ?_ ?_ ?_
 ·rintro i ae H8 _ ⟨v,ls,rfl,_,_,k8⟩;exact a9.of (k8 _ _ e7l yN)
 ·rintro i x ae H8 hx ⟨v,ls,rfl,e8,A8,k8⟩;obtain ⟨a0,R0,rfl,RA,_,htk,Mz,VS⟩:∃a0 R0,x=.ref a0/\dQ H8 a0 R0/\a0≠fo/\(([T0,F0].take (i+1)).map fun R=>R.map (ml (2+r1) t))=(([T0,F0].take i).map fun R=>R.map (ml (2+r1) t))++[R0.map (ml (2+r1) t)]/\
   (∀r∈R0,∃a b l m:Int,r=[a,b,l,m])/\R0.length<=12:=by
   match i,hx with
   | 0,hx=>
    cases hx;exact ⟨tl,T0,rfl,RT7.keep k8 e7 Cg,Cg,rfl,fun r hr=>by
     obtain ⟨a,b,l,m,e,_⟩:=nK r hr;exact ⟨a,b,l,m,e⟩,AN⟩
   | 1,hx=>
    cases hx;exact ⟨fl,F0,rfl,RF7.keep k8 e7 DB,DB,rfl,fun r hr=>by
     obtain ⟨i,e⟩:=pV.mp hr;obtain ⟨a,l,m,e,_⟩:=NR i r e;exact ⟨a,_,l,m,e⟩,by lia⟩
   | i+2,hx=>cases hx
  obtain ⟨LI,RP⟩:=RA;refine ⟨_,rfl,.inl ⟨rfl,_,a9.of e8⟩,?_⟩;refine ⟨_,rfl,a0,rfl,⟨_,a9.of RP.1⟩,fun Da di=>?_⟩;refine xV (xs:=LI.map V.ref) (fun j ae H'=>∃v ps,ae=[v,some (.int (2+r1)),some (.int t)]/\gj H' Da ps ((R0.take j).map (ml (2+r1) t))/\a8 H8 H') ?_ ?_ ?_ ?_
  ·exact ⟨none,[],rfl,⟨aq,.nil⟩,bf di⟩
  ·rintro j ae H9 _ ⟨v,ps,rfl,_,s9⟩;exact a9.of (s9 _ _ RP.1)
  ·rintro j x ae H9 wI ⟨v,ps,rfl,R9,s9⟩;rw [fG] at wI
   cases hq:LI[j]? with
   | none=>rw [hq] at wI;cases wI
   | some q=>
    rw [hq] at wI;cases wI;obtain ⟨r,hr,ie⟩:=aY RP.2 hq;obtain ⟨a,b,l,m,rfl⟩:=Mz r (gK hr);have vk:=s9 _ _ ie;refine ⟨_,rfl,a_ vk rfl ⟨_,rfl,_,rfl,_,_,_,rfl,mw qu,?_⟩⟩;refine ⟨_,rfl,a_ vk rfl ⟨_,rfl,_,rfl,_,_,_,rfl,mw qu,?_⟩⟩;refine ⟨_,rfl,a_ vk rfl ⟨_,rfl,a_ vk rfl ⟨dU rfl,fun p hp=>?_⟩⟩⟩;have xh:=R9.same (bf (o:=.tup [.int (gL a (2+r1) t),.int (gL b (2+r1) t),.int l,.int m]) hp);have NV:H8 Da=none:=di;refine ⟨_,xh.1,?_,_,ps++[p],rfl,?_,fun b o e=>?_⟩
    ·rw [aI,xh.len,aI,jX];exact gy (by lia)
    ·have hj:(R0.take (j+1)).map (ml (2+r1) t)=(R0.take j).map (ml (2+r1) t)++[[gL a (2+r1) t,gL b (2+r1) t,l,m]]:=by
      rw [lu,hr,fY];rfl
     rw [hj];exact xh.push aq
    ·rw [aj (aP e NV),aj (aP (s9 _ _ e) hp)];exact s9 _ _ e
  ·rintro ae H9 ⟨v,ps,rfl,R9,s9⟩;have e9:=s9 _ _ e8;refine ⟨fo,_,.ref Da,rfl,rfl,e9,?_,?_⟩
   ·rw [aI,A8.length,aI,jX];exact gy (by simp;lia)
   ·have wO:Da≠fo:=aB (aP e8 di);have NU:Da≠d:=fun e=>by
     subst e;obtain ⟨p,q⟩:=(D7.rC k8 e7 O4).at_;rw [di] at q;cases q
    have ku:ck fo H9 (upd H9 fo (.lst (ls.map V.ref++[.ref Da]))):=fun b o e n=>by rw [aj n];exact e
    refine ⟨_,ls++[Da],rfl,by rw [aq,fY];rfl,?_,fun b o e n=>by rw [aj n];exact s9 _ _ (k8 b o e n)⟩;rw [htk];refine Paired.snoc (iI A8 fun a rs z=>⟨(z.1.same s9).keep ku e9 z.2.1,z.2⟩) ⟨?_,wO,NU⟩;have hl:R0.take (LI.map V.ref).length=R0:=by rw [aI,RP.len];exact jN
    rw [hl] at R9;exact dQ.keep ⟨ps,R9⟩ ku e9 wO
 ·rintro ae H8 ⟨v,ls,rfl,e8,A8,k8⟩;have A8:Paired (fun a rs=>dQ H8 a rs/\a≠fo/\a≠d) ls [T0.map (ml (2+r1) t),F0.map (ml (2+r1) t)]:=A8
  cases A8 with
  | @cons lt _ ls1 _ q1 pl9=>
   cases pl9 with
   | @cons lf _ ls2 _ q2 LJ=>
    cases LJ;refine ⟨_,rfl,_,rfl,_,rfl,nh e8 rfl ⟨_,rfl,nh e8 rfl ⟨dU rfl,fun p hp=>?_⟩⟩⟩;have sm:=bf (o:=.tup [.int (2+r1),.int (1+r2),.ref lt,.ref lf]) hp;exact k p lt lf _ _ _ _ _ aq (q1.1.same sm) (q2.1.same sm) (XO (mw qu) (by lia) (mw AR) (by lia) CJ Mw nK AN hc j5 NR) (mw qu) (by lia) (by lia) ((D7.rC k8 e7 O4).same sm) (mR (Qy k7 k8 zh) ((Qy k7 k8 zh).free hp (D7.rC k8 e7 O4).there)) q1.2.2 q2.2.2 ⟨oM.LH NR,by rw [aI];exact AN⟩
end
end Y0
namespace L2
open PySem PySem.Spec PyProof.Rows
section
variable {K:bE}
theorem gC.ok1 {x qual:Str} {st:Stmt} {f:Addr} {fd:FuncData} {N ps:List Str} {k:Nat} {sp:Sp} (F:gC K x qual st f fd) (S:cC N ps (aU st)) (len:∀vs H Q E,sp vs H Q E->vs.length=ps.length)
 (dJ:∀(df:Value) (A:Around) (outer:List Env) (s:Shared) (H:Hp) (vs:List V) (Q:VK) (E:XK),cJ k (A.deeper (envOfC qual (aU st) s.heap.objs.size f df))->sp vs H Q E->
  ∃t,gB (mH (iV P w) P w K mg base N qual (aU st) f df A outer s H E) (mS st) t/\t { nx:=fun _ H'=>Q .aR H',rt:=Q } (jA N vs) H):au P w K mg base (iV P w) (k+1) f fd ps sp:=by
 obtain ⟨oc,od,kV,doc,pm,an,df,ct,o9,rfl,lk,jD⟩:=F.ex;exact Lp lk jD S len fun A outer s H vs Q E hr my=>dJ df A outer s H vs Q E hr my
theorem gC.yH {x qual:Str} {st:Stmt} {f:Addr} {fd:FuncData} {N ps:List Str} {k:Nat} {sp:Sp} (F:gC K x qual st f fd) (S:cC N ps (aU st)) (dJ:∀(df:Value) (A:Around) (outer:List Env) (s:Shared) (H:Hp) (vs:List V) (Q:VK) (E:XK),cJ k (A.deeper (envOfC qual (aU st) s.heap.objs.size f df))->sp vs H Q E->
  ∃t,gB (mH (iV P w) P w K mg base N qual (aU st) f df A outer s H E) (mS st) t/\t { nx:=fun _ H'=>Q .aR H',rt:=Q } (jA N vs) H) (len:∀vs H Q E,sp vs H Q E->vs.length=ps.length:=by intro _ _ _ _ h;repeat (first|(obtain ⟨rfl,_⟩:=h;rfl)|obtain ⟨_,h⟩:=h)):au P w K mg base (iV P w) (k+1) f fd ps sp:=F.ok1 S len dJ
end
theorem j9 {c A B:Prop} [Decidable c] (hc:c) (h:A):if decide c=true then A else B:=by rw [jZ hc];exact nU h
theorem l8 {c A B:Prop} [Decidable c] (hc:¬c) (h:B):if decide c=true then A else B:=by rw [gA hc];exact ji h
theorem UH {Q:VK} {H:Hp} {b b':Bool} (k:Q (.bl b) H) (e:b=b'):Q (.bl b') H:=e▸k
theorem BB:∀{ns:List Int},ve (.int a) (ns.map V.int)=decide (a∈ns)
 | []=>by simp [ve]
 | n::r=>by
  have ih:=BB (a:=a) (ns:=r);unfold ve at ih ⊢;rw [fj,List.any_cons,ih];show ((n==a) || decide (a∈r))=decide (a∈n::r)
  by_cases e:n=a
  ·subst e;simp
  ·have:¬a=n:=fun z=>e z.symm;simp [e,this]
theorem BV:∀{ns:List Int},(ns.map V.int).all kg=true
 | []=>rfl
 | n::r=>by rw [fj,List.all_cons,BV (ns:=r)];rfl
theorem QK {α:Type} {xs:List α} {i:Nat} (h:i<=xs.length):(xs.drop (cv xs.length 0 none)).take (cv xs.length xs.length (some (i:Int))-cv xs.length 0 none)=xs.take i:=by rw [jv,gS,List.drop_zero,Nat.sub_zero,Nat.min_eq_left h]
end L2
namespace Y0
open PySem L2
structure mj (mg:Str->Option Value):Prop where
 mm:∃t,mg "MOST_MOMENTS"=some (.int 8 t)
 ll:∃t,mg "LATEST_LAST"=some (.int 60 t)
 ws:∃t,mg "WIDEST_SPAN"=some (.int 60 t)
 lf:∃t,mg "LONGEST_FALL"=some (.int 60 t)
 list:mg "list"=none
def Ls:Sp:=fun vs H Q _=>∃n a b,vs=[.int n,.int a,.int b]/\Q (.bl (decide (0<=a/\a<n/\0<=b/\b<n/\a≠b))) H
def Pe:Sp:=fun vs H Q _=>∃n la,vs=[.int n,.int la]/\1<=n/\n<=8/\1<=la/\la<=60/\Q .aR H
def Qn:Sp:=fun vs H Q _=>∃n a T,vs=[.int n,.ref a]/\dQ H a T/\(∀r∈T,vF n r)/\Q .aR H
def Rb:Sp:=fun vs H Q _=>∃n a la T F,vs=[.int n,.ref a]/\dQ H a F/\cO n la T F/\∀H',a8 H H'->Q .aR H'
section
theorem sc2:cC ["many","one","other"] ["many","one","other"] (aU aK):=de
theorem yC {f:Addr} {fd:FuncData} (F:Fn K mg "are_two_moments" aK ["many","one","other"] f fd):au P w K mg base a7 1 f fd ["many","one","other"] Ls:=by
 refine F.F.dw sc2 fun _ A _ s H _ Q E hr h=>?_;obtain ⟨n,a,b,rfl,k⟩:=h;refine ⟨_,aA (cG (Fc (Kh n_ vJ aG (pv 1) (pv 0)) (Fc (Kh n_ vJ aG (pv 2) (pv 0)) (JC (vC EO (pv 1) (pv 2)))))),?_⟩;refine ⟨_,rfl,_,_,rfl,rfl,_,rfl,j_ (fun h1=>⟨_,rfl,_,_,rfl,rfl,_,rfl,j_ (fun h2=>⟨_,rfl,_,_,rfl,rfl,_,rfl,j_ (fun h3=>⟨_,rfl,_,_,rfl,rfl,_,rfl,j_ (fun h4=>⟨_,rfl,_,rfl,rfl,?_⟩) (fun h4=>?_)⟩) (fun h3=>⟨false,rfl,ji ?_⟩)⟩) (fun h2=>?_)⟩) (fun h1=>⟨false,rfl,ji ?_⟩)⟩
 all_goals simp only [zJ] at*
 ·refine UH (Q:=Q) k ?_
  by_cases e:a=b
  ·subst e;simp
  ·simp [e];lia
 all_goals (refine UH (Q:=Q) k (gA fun z=>?_);omega)
theorem scS:cC ["many","last"] ["many","last"] (aU bJ):=de
theorem uR (F:Fn K mg "look_over_size" bJ ["many","last"] f fd) (T:mj mg):au P w K mg base a7 1 f fd ["many","last"] Pe:=by obtain ⟨t1,m1⟩:=T.mm;obtain ⟨t2,m2⟩:=T.ll;refine F.F.dw scS fun _ A _ s H _ Q E hr h=>?_;obtain ⟨n,la,rfl,n1,n2,l1,l2,k⟩:=h;refine ⟨_,bo (eM (xB (QD n_ n_ aG (pv 0) (Ad (v:=.int 8) rfl m1 ⟨_,rfl⟩))) xX eV) (aA (eM (xB (QD n_ n_ aG (pv 1) (Ad (v:=.int 60) rfl m2 ⟨_,rfl⟩))) xX eV)),?_⟩;refine ⟨_,rfl,_,_,rfl,rfl,_,rfl,j9 n1 ⟨_,_,rfl,rfl,_,rfl,vG n2 ?_⟩⟩;exact ⟨_,rfl,_,_,rfl,rfl,_,rfl,j9 l1 ⟨_,_,rfl,rfl,_,rfl,vG l2 k⟩⟩
abbrev nLT:List Str:=["many","ties","at","one","other","least","most"]
theorem yk:cC nLT ["many","ties"] (aU bH):=de
theorem q_ (F:Fn K mg "look_over_ties" bH ["many","ties"] f fd) (T:mj mg) (F2:Fn K mg "are_two_moments" aK ["many","one","other"] f2 OC)
 (G2:au P w K mg base a7 1 f2 OC ["many","one","other"] Ls):au P w K mg base a7 2 f fd ["many","ties"] Qn:=by
 obtain ⟨t1,m1⟩:=T.ws;refine F.F.dw yk fun _ A _ s H _ Q E hr h=>?_;obtain ⟨n,a,rows,rfl,⟨ps,R⟩,af,k⟩:=h;refine ⟨_,bo (cF 2 yk.nd aG) (aA (iG PassesOwn.never rfl (iH (pv 1))
  (uk rfl (eN (bV 3 yk.nd) (eN (bV 4 yk.nd) (eN (bV 5 yk.nd) (eN (bV 6 yk.nd) sU)))))
  (bo (eM (xB (xw (cH G2 hr F2 (iQ (pv 0) (pv 3) (pv 4))))) xX eV)
  (bo (eM (xB (Su n_ n_ n_ (vK vM (Ad (v:=.int 60) rfl m1 ⟨_,rfl⟩)) (pv 5) (pv 6) (Ad (v:=.int 60) rfl m1 ⟨_,rfl⟩))) xX eV)
  (aA (JF (i:=2) yk.nd rfl (Or.inl rfl) aG IZ)))))),?_⟩
 refine ⟨_,rfl,a,rfl,⟨_,a9.of R.1⟩,km (K:=K) (a:=a) (xs:=ps.map V.ref) (fun _ ae H'=>∃z v1 v2 v3 v4,ae=[some (.int n),some (.ref a),some (.int z),v1,v2,v3,v4]/\H'=H) ⟨0,none,none,none,none,rfl,rfl⟩ ?_ ?_ ?_⟩
 ·rintro i ae H' _ ⟨z,v1,v2,v3,v4,rfl,rfl⟩;exact a9.of R.1
 ·rintro i x ae H' hx ⟨z,v1,v2,v3,v4,rfl,rfl⟩;rw [fG] at hx
  cases hq:ps[i]? with
  | none=>rw [hq] at hx;cases hx
  | some q=>
   rw [hq] at hx;cases hx;obtain ⟨r,ay,ie⟩:=aY R.2 hq;obtain ⟨a',b',l,m,rfl,h1,h2,h3,h4,h5,h6,h7,h8⟩:=af r (gK ay);refine ⟨q,_,rfl,dm.of ie,rfl,_,_,rfl,_,_,rfl,_,_,rfl,_,_,rfl,rfl,?_⟩;refine ⟨_,rfl,_,rfl,_,rfl,n,a',b',rfl,_,rfl,vG ⟨h1,h2,h3,h4,h5⟩ ?_⟩;refine ⟨_,rfl,_,rfl,_,_,rfl,rfl,_,rfl,j9 (pd h6) ⟨_,rfl,_,_,rfl,rfl,_,rfl,j9 h7 ⟨_,_,rfl,rfl,_,rfl,vG h8 ?_⟩⟩⟩;exact ⟨_,rfl,_,_,rfl,rfl,_,_,_,_,_,rfl,rfl⟩
 ·rintro ae H' ⟨z,v1,v2,v3,v4,rfl,rfl⟩;exact k
end
end Y0
namespace L2
open PySem PySem.Spec PyProof.Rows
theorem jh {b:Bool} {A B:Prop} (e:b=false) (h:B):if b=true then A else B:=by rw [e];exact ji h
theorem sM {b:Bool} {A B:Prop} (e:b=true) (h:A):if b=true then A else B:=by rw [e];exact nU h
theorem FH (f:Str) (v:V):∀fs:List (Str×V),(aL f v fs).length<=fs.length+1
 | []=>av _
 | (g,x)::r=>by
  unfold aL;split
  ·exact oS _
  ·exact Nat.succ_le_succ (FH f v r)
theorem gj.get {rows:List (List Int)} (R:gj H a ps rows) {i:Nat} (hx:(ps.map V.ref)[i]?=some x):∃q r,x=.ref q/\ps[i]?=some q/\rows[i]?=some r/\H q=some (.tup (r.map V.int)):=by
 rw [fG] at hx
 cases hq:ps[i]? with
 | none=>rw [hq] at hx;cases hx
 | some q=>
  rw [hq] at hx;cases hx;obtain ⟨r,ay,ie⟩:=Y0.aY R.2 hq;exact ⟨q,r,rfl,rfl,ay,ie⟩
end L2
namespace Y0
open PySem L2
def uc (r:List Int):Int:=r.getD 1 0
structure mG (K:bE) (mg:Str->Option Value) (C:Addr):Prop where
 cl:sv K C
 nM:mM K C "many"
 nL:mM K C "last"
 nT:mM K C "told_ties"
 nF:mM K C "told_falls"
 C7:mg "Web"=some (.ref C)
def oY (n la:Int) (ta fa:Addr):List (Str×V):=aL "told_falls" (.ref fa) (aL "told_ties" (.ref ta) (aL "last" (.int la) (aL "many" (.int n) [])))
theorem k1:¬(("many":Str)="told_falls"):=by decide+kernel
theorem k2:¬(("many":Str)="told_ties"):=by decide+kernel
theorem k3:¬(("many":Str)="last"):=by decide+kernel
theorem k4:¬(("last":Str)="told_falls"):=by decide+kernel
theorem k5:¬(("last":Str)="told_ties"):=by decide+kernel
theorem k6:¬(("told_ties":Str)="told_falls"):=by decide+kernel
theorem qI (n la:Int) (ta fa:Addr):(oY n la ta fa).lookup ("many":Str)=some (.int n):=by unfold oY;rw [mx,if_neg k1,mx,if_neg k2,mx,if_neg k3,mx,if_pos rfl]
theorem Pp (n la:Int) (ta fa:Addr):(oY n la ta fa).lookup ("last":Str)=some (.int la):=by unfold oY;rw [mx,if_neg k4,mx,if_neg k5,mx,if_pos rfl]
theorem zCw (n la:Int) (ta fa:Addr):(oY n la ta fa).lookup ("told_ties":Str)=some (.ref ta):=by unfold oY;rw [mx,if_neg k6,mx,if_pos rfl]
theorem Qj (n la:Int) (ta fa:Addr):(oY n la ta fa).lookup ("told_falls":Str)=some (.ref fa):=by unfold oY;rw [mx,if_pos rfl]
theorem Ca (n la:Int) (ta fa:Addr) {m:Str} (h1:¬m="told_falls") (h2:¬m="told_ties") (h3:¬m="last") (h4:¬m="many"):(oY n la ta fa).lookup m=none:=by
 unfold oY;rw [mx,if_neg h1,mx,if_neg h2,mx,if_neg h3,mx,if_neg h4]
 all_goals rfl
def jl (C:Addr) (H:Hp) (p:Addr) (n la:Int) (T F:List (List Int)):Prop:=∃dx ta fa,H p=some (.ins C dx (oY n la ta fa))/\dQ H ta T/\dQ H fa F
theorem jl.same (h:jl C H p n la T F) (k:a8 H H'):jl C H' p n la T F:=by obtain ⟨dx,ta,fa,e,r1,r2⟩:=h;exact ⟨dx,ta,fa,k _ _ e,r1.same k,r2.same k⟩
def Py (C:Addr):Sp:=fun vs H Q _=>∃p dx n la a b T F,vs=[.ref p,.int n,.int la,.ref a,.ref b]/\H p=some (.ins C dx [])/\dQ H a T/\dQ H b F/\cO n la T F/\
 ∀H',jl C H' p n la T F->ck p H H'->Q .aR H'
def zS (C:Addr) (g:List (List Int)->List (List Int)->List (List Int)):Sp:=fun vs H Q _=>∃p n la T F,vs=[.ref p]/\jl C H p n la T F/\∀l H',H l=none->a8 H H'->dQ H' l (g T F)->Q (.ref l) H'
section
abbrev V6:List Str:=["many","falls","ends","at","one","other","least","most"]
theorem vD:cC V6 ["many","falls"] (aU aJ):=de
theorem zIe:jB (aU aJ) V6 (nP [(".0",.local),("fall",.local)]) ["fall"] [none]:=nS
theorem V1:([x]:List Str).Nodup:=by simp
theorem pB (F:Fn K mg "look_over_falls" aJ ["many","falls"] f fd) (T:mj mg) (F2:Fn K mg "are_two_moments" aK ["many","one","other"] f2 OC)
 (G2:au P w K mg base a7 1 f2 OC ["many","one","other"] Ls):au P w K mg base a7 2 f fd ["many","falls"] Rb:=by
 obtain ⟨t1,m1⟩:=T.lf;refine F.F.dw vD fun _ A _ s H _ Q E hr h=>?_;obtain ⟨n,a,la,TT,rows,rfl,⟨ps,R⟩,af,k⟩:=h;refine ⟨_,bo (JU (i:=2) vD.nd rfl rfl rfl (iH (pv 1)) zIe (fun cl ex s0 H0=>⟨bV 0 V1,sY,bc (pv 0)⟩))
  (bo (cF 3 vD.nd aG) (aA (iG PassesOwn.never rfl (iH (pv 1))
  (uk rfl (eN (bV 4 vD.nd) (eN (bV 5 vD.nd) (eN (bV 6 vD.nd) (eN (bV 7 vD.nd) sU)))))
  (bo (eM (PW.pt (vI (xB (xw (cH G2 hr F2 (iQ (pv 0) (pv 4) (pv 5))))) (Aa (B9 K9 (pv 4) (pv 2) (by with_unfolding_all rfl))))) xX eV)
  (bo (eM (PW.pt (vI (ef iu (pv 5) aG) (Aa (B9 K9 (pv 5) (BE zA4 (pv 2) B7 (B8 (pv 3))) (by with_unfolding_all rfl))))) xX eV)
  (bo (eM (xB (Su n_ n_ n_ aG (pv 6) (pv 7) (Ad (v:=.int 60) rfl m1 ⟨_,rfl⟩))) xX eV)
  (aA (JF (i:=3) vD.nd rfl (Or.inl rfl) aG IZ)))))))),?_⟩
 refine ⟨_,rfl,a,rfl,⟨_,a9.of R.1⟩,fun Da di=>?_⟩;refine xV (xs:=ps.map V.ref) (fun j ae H'=>∃v,ae=[v]/\H' Da=some (.lst (((rows.take j).map uc).map V.int))/\a8 H H') ?_ ?_ ?_ ?_
 ·exact ⟨none,rfl,aq,bf di⟩
 ·rintro j ae H1 _ ⟨v,rfl,_,s1⟩;exact a9.of (s1 _ _ R.1)
 ·rintro j x ae H1 hx ⟨v,rfl,e1,s1⟩;obtain ⟨q,r,rfl,_,ay,ie⟩:=R.get hx;obtain ⟨a',b',l,m,rfl,_⟩:=af.f r (gK ay);refine ⟨_,rfl,a_ (s1 _ _ ie) rfl ⟨_,e1,?_,_,rfl,?_,fun b o e=>?_⟩⟩
  ·rw [aI,aI,jX];have:=af.fl;exact gy (by lia)
  ·rw [aq,lu,ay,fY,fY];rfl
  ·rw [aj (aP e di)];exact s1 _ _ e
 ·rintro ae H1 ⟨v,rfl,e1,s1⟩;have hl:rows.take (ps.map V.ref).length=rows:=by
   rw [aI,R.len];exact jN
  rw [hl] at e1;have R1:=R.same s1;refine ⟨_,rfl,a,rfl,⟨_,a9.of R1.1⟩,km (K:=K) (a:=a) (xs:=ps.map V.ref) (fun i ae H'=>∃z v1 v2 v3 v4,z=(i:Int)/\ae=[some (.int n),some (.ref a),some (.ref Da),some (.int z),v1,v2,v3,v4]/\a8 H1 H') ⟨0,none,none,none,none,rfl,rfl,a8.refl _⟩ ?_ ?_ ?_⟩
  ·rintro i ae H' _ ⟨z,v1,v2,v3,v4,_,rfl,s2⟩;exact a9.of (s2 _ _ R1.1)
  ·rintro i x ae H2 hx ⟨z,v1,v2,v3,v4,rfl,rfl,s2⟩;have R2:=R1.same s2;obtain ⟨q,r,rfl,_,ay,ie⟩:=R2.get hx;have eF:=gK ay;obtain ⟨a',b',l,m,e4,h1,h2,h3,h4,h5,h6,h7,h8⟩:=af.f r eF;subst e4;have e2:=s2 _ _ e1;refine ⟨q,_,rfl,dm.of ie,rfl,_,_,rfl,_,_,rfl,_,_,rfl,_,_,rfl,rfl,?_⟩;refine ⟨_,rfl,_,rfl,_,rfl,n,a',b',rfl,_,rfl,vG ⟨h1,h2,by exact eR h3,h4,h5⟩ ?_⟩;refine ⟨_,rfl,_,rfl,Da,_,rfl,.inl (a9.of e2),rfl,BV,_,rfl,jh ?_ ?_⟩
   ·show ve _ _=false;rw [BB];refine gA fun z=>?_;obtain ⟨r',iK,e⟩:=eI.mp z;obtain ⟨a2,b2,l2,m2,e5,_⟩:=af.f r' iK;subst e5;refine af.own _ eF _ iK ?_;have e6:b2=a':=e;show some a'=some b2;rw [e6]
   ·refine ⟨_,rfl,rfl,_,rfl,l8 (by intro z;have:=V.int.inj z;lia) ?_⟩;refine ⟨_,rfl,_,rfl,_,rfl,_,rfl,Da,_,rfl,a9.of e2,fun p hp=>⟨p,_,rfl,.inl (a9.of aq),rfl,?_,_,rfl,jh ?_ ?_⟩⟩
    ·unfold oX;rw [QK (by rw [aI,aI];exact aS (gu.mp ay).1),<-List.map_take];exact BV
    ·show ve _ _=false;unfold oX;rw [QK (by rw [aI,aI];exact aS (gu.mp ay).1),<-List.map_take,BB];refine gA fun z=>?_;obtain ⟨j,hj⟩:=pV.mp z;have hji:j<i:=by
      have:=(gu.mp hj).1;rw [jX] at this;exact KD this
     rw [List.getElem?_take_of_lt hji,fG] at hj
     cases iK:rows[j]? with
     | none=>rw [iK] at hj;cases hj
     | some r'=>
      rw [iK] at hj;have e:uc r'=b':=dM hj;obtain ⟨a2,b2,l2,m2,e5,_⟩:=af.f r' (gK iK);subst e5;have e6:b2=b':=e;have:=af.one j i _ _ iK ay (by show some b2=some b';rw [e6]);lia
    ·refine ⟨_,rfl,_,_,rfl,rfl,_,rfl,j9 h6 ⟨_,rfl,_,_,rfl,rfl,_,rfl,j9 h7 ⟨_,_,rfl,rfl,_,rfl,vG h8 ?_⟩⟩⟩;exact ⟨_,rfl,_,_,rfl,rfl,_,_,_,_,_,(by show (i:Int)+1=_;lia),rfl,s2.trans (bf hp)⟩
  ·rintro ae H' ⟨z,v1,v2,v3,v4,_,rfl,s2⟩;exact k _ (s1.trans s2)
theorem scI:cC ["self","many","last","ties","falls"] ["self","many","last","ties","falls"] (aU eZ):=de
theorem uY (F:gC K "__init__" "Web.__init__" eZ f fd) (T:mj mg) (TC:mG K mg C)
 (FS:Fn K mg "look_over_size" bJ ["many","last"] fS O7) (GS:au P w K mg base a7 1 fS O7 ["many","last"] Pe)
 (FT:Fn K mg "look_over_ties" bH ["many","ties"] fT m8) (GT:au P w K mg base a7 2 fT m8 ["many","ties"] Qn)
 (FF:Fn K mg "look_over_falls" aJ ["many","falls"] fF AS) (GF:au P w K mg base a7 2 fF AS ["many","falls"] Rb):
 au P w K mg base a7 3 f fd ["self","many","last","ties","falls"] (Py C):=by
 refine F.dw scI fun _ A _ s H _ Q E hr h=>?_;obtain ⟨p,dx,n,la,a,b,rT,rF,rfl,hp,RT,RF,af,k⟩:=h;have gW:cJ 1 _:=hr.mono (by decide);refine ⟨_,bo (gE (cH GS gW FS (bS (pv 1) (pv 2))))
  (bo (gE (cH GT hr FT (bS (pv 1) (pv 3))))
  (bo (gE (cH GF hr FF (bS (pv 1) (pv 4))))
  (bo (sP (pv 0) (pv 1) rfl) (bo (sP (pv 0) (pv 2) rfl)
  (bo (sP (pv 0) (vZ As (by rfl) T.list (by decide+kernel) (bR (pv 3))) rfl)
  (aA (sP (pv 0) (vZ As (by rfl) T.list (by decide+kernel) (bR (pv 4))) rfl))))))),?_⟩
 refine ⟨_,rfl,_,rfl,n,la,rfl,af.n1,af.n2,af.l1,af.l2,?_⟩;refine ⟨_,rfl,_,rfl,n,a,rT,rfl,RT,af.t,?_⟩;refine ⟨_,rfl,_,rfl,n,b,la,rT,rF,rfl,RF,af,fun H1 s1=>?_⟩;have iL:=s1 _ _ hp;have RT1:=RT.same s1;have RF1:=RF.same s1;obtain ⟨Cs,Q1⟩:=RT1;obtain ⟨HV,Q2⟩:=RF1;refine ⟨_,rfl,_,rfl,p,C,dx,_,rfl,iL,TC.cl,TC.nM,(by show 0<1000;decide),?_⟩;refine ⟨_,rfl,_,rfl,p,C,dx,_,rfl,aq,TC.cl,TC.nL,(by show 1<1000;decide),?_⟩;rw [Qh];have np:∀{x:Addr} {xs:List V},H1 x=some (.lst xs)->x≠p:=fun {x xs} e=>cB e iL nofun;refine ⟨_,rfl,a,_,rfl,.inl (a9.of (by rw [aj (np Q1.1)];exact Q1.1)),fun l1 rP=>?_⟩;have HZ:l1≠p:=aB (aP aq rP);have M_:H1 l1=none:=by rw [aj HZ] at rP;exact rP
 refine ⟨_,rfl,p,C,dx,_,rfl,(by rw [aj (aB HZ),aq]),TC.cl,TC.nT,pT (FH _ _ _) (by show 2<1000;decide),?_⟩;generalize NQ:upd (upd (upd H1 p (.ins C dx (aL "last" (.int la) (aL "many" (.int n) [])))) l1 (.lst (Cs.map V.ref))) p (.ins C dx (aL "told_ties" (.ref l1) (aL "last" (.int la) (aL "many" (.int n) []))))=H2;have AB:ck p H1 H2:=fun x o e ne=>by rw [<-NQ,aj ne,aj (aP e M_),aj ne];exact e
 have p2:H2 p=some (.ins C dx (aL "told_ties" (.ref l1) (aL "last" (.int la) (aL "many" (.int n) [])))):=by rw [<-NQ,aq]
 have l2:H2 l1=some (.lst (Cs.map V.ref)):=by rw [<-NQ,aj HZ,aq]
 refine ⟨_,rfl,b,_,rfl,.inl (a9.of (AB _ _ Q2.1 (np Q2.1))),fun l3 ze=>?_⟩;have LW:l3≠p:=aB (aP p2 ze);have l31:l3≠l1:=aB (aP l2 ze);have MZ:H1 l3=none:=by
  cases q:H1 l3 with
  | none=>rfl
  | some o=>rw [AB _ _ q LW] at ze;cases ze
 refine ⟨_,rfl,p,C,dx,_,rfl,(by rw [aj (aB LW)];exact p2),TC.cl,TC.nF,pT (FH _ _ _) (pT (Nat.succ_le_succ (FH _ _ _)) (by show 3<1000;decide)),?_⟩;generalize ID:upd (upd H2 l3 (.lst (HV.map V.ref))) p (.ins C dx (aL "told_falls" (.ref l3) (aL "told_ties" (.ref l1) (aL "last" (.int la) (aL "many" (.int n) [])))))=H4;have L_:ck p H1 H4:=fun x o e ne=>by rw [<-ID,aj ne,aj (aP e MZ)];exact AB _ _ e ne
 have tp:∀{x:Addr} {xs:List V},H1 x=some (.tup xs)->x≠p:=fun {x xs} e=>cB e iL nofun;refine k H4 ⟨dx,l1,l3,by rw [<-ID,aq];rfl,⟨Cs,?_,iI Q1.2 fun x r e=>L_ _ _ e (tp e)⟩,⟨HV,?_,iI Q2.2 fun x r e=>L_ _ _ e (tp e)⟩⟩ (fun x o e ne=>L_ _ _ (s1 _ _ e) ne)
 ·rw [<-ID,aj HZ,aj (aB l31)];exact l2
 ·rw [<-ID,aj LW,aq]
theorem zHe:cC ["self"] ["self"] (aU eY):=de
theorem zHd:cC ["self"] ["self"] (aU ee):=de
theorem qX (F:gC K "ties" "Web.ties" eY f fd) (T:mj mg) (TC:mG K mg C):au P w K mg base a7 1 f fd ["self"] (zS C fun T _=>T):=by refine F.dw zHe fun _ A _ s H _ Q E hr h=>?_;obtain ⟨p,n,la,rT,rF,rfl,⟨dx,ta,fa,hp,⟨ps,R⟩,_⟩,k⟩:=h;refine ⟨_,aA (cG (vZ As (by rfl) T.list (by decide+kernel) (bR (fq (pv 0) rfl)))),?_⟩;refine ⟨_,rfl,p,C,dx,_,_,rfl,hp,TC.cl,TC.nT,zCw _ _ _ _,ta,_,rfl,.inl (a9.of R.1),fun l hl=>?_⟩;exact k l _ hl (bf hl) ⟨ps,aq,(R.same (bf hl)).2⟩
theorem pD (F:gC K "falls" "Web.falls" ee f fd) (T:mj mg) (TC:mG K mg C):au P w K mg base a7 1 f fd ["self"] (zS C fun _ F=>F):=by refine F.dw zHd fun _ A _ s H _ Q E hr h=>?_;obtain ⟨p,n,la,rT,rF,rfl,⟨dx,ta,fa,hp,_,⟨ps,R⟩⟩,k⟩:=h;refine ⟨_,aA (cG (vZ As (by rfl) T.list (by decide+kernel) (bR (fq (pv 0) rfl)))),?_⟩;refine ⟨_,rfl,p,C,dx,_,_,rfl,hp,TC.cl,TC.nF,Qj _ _ _ _,fa,_,rfl,.inl (a9.of R.1),fun l hl=>?_⟩;exact k l _ hl (bf hl) ⟨ps,aq,(R.same (bf hl)).2⟩
end
end Y0
namespace L2
open PySem PySem.Spec PyProof.Rows
theorem Au {l l':List α} {m m':List β} (h:Paired F l m) (h':Paired F l' m'):Paired F (l++l') (m++m'):=by
 induction h with
 | nil=>exact h'
 | cons r t ih=>exact .cons r ih
theorem gj.cat (h1:gj H a ps r) (h2:gj H b qs s) (hp:H p=none):gj (upd H p (.lst (ps.map V.ref++qs.map V.ref))) p (ps++qs) (r++s):=
 ⟨by rw [aq,fY],Au (h1.same (bf hp)).2 (h2.same (bf hp)).2⟩
theorem gj.more (h:gj H l ps rows) (s:a8 H0 H) (hl:H0 l=none) (hp:H p=none):
 gj (upd (upd H p (.tup (r.map V.int))) l (.lst (ps.map V.ref++[.ref p]))) l (ps++[p]) (rows++[r])/\a8 H0 (upd (upd H p (.tup (r.map V.int))) l (.lst (ps.map V.ref++[.ref p])))/\upd H p (.tup (r.map V.int)) l=some (.lst (ps.map V.ref)):=by
 have R:=h.same (bf (o:=.tup (r.map V.int)) hp);refine ⟨R.push aq,fun b o e=>?_,R.1⟩;rw [aj (aP e hl),aj (aP (s _ _ e) hp)];exact s _ _ e
end L2
namespace Y0
open PySem L2
def jP (la:Int):Nat->List (List Int)
 | 0=>[]
 | k+1=>jP la k++[[0,(k:Int)+1,la],[(k:Int)+1,0,0]]
theorem Ap (la:Int):∀k,(jP la k).length=2*k
 | 0=>rfl
 | k+1=>by unfold jP;rw [iT,Ap la k];rfl
def zE2:List Int->List (List Int)
 | [a,b,l,m]=>[[a,b,m],[b,a,-l]]
 | _=>[]
def kh (rows:List (List Int)):List (List Int):=(rows.map zE2).flatten
def x_ (rows:List (List Int)):Prop:=∀r∈rows,∃a b l m:Int,r=[a,b,l,m]
theorem vU:∀{rows:List (List Int)},x_ rows->(kh rows).length=2*rows.length
 | [],_=>rfl
 | r::t,h=>by obtain ⟨a,b,l,m,rfl⟩:=h _ dN;have ih:=vU (rows:=t) fun r hr=>h r (f_ _ hr);unfold kh at ih ⊢;rw [fj,List.flatten_cons,iT,ih,mf];show 2+2*t.length=2*(t.length+1);lia
theorem cO.oK (h:cO n la T F):x_ T:=fun r hr=>by obtain ⟨a,b,l,m,e,_⟩:=h.t r hr;exact ⟨a,b,l,m,e⟩
theorem cO.lX (h:cO n la T F):x_ F:=fun r hr=>by obtain ⟨a,b,l,m,e,_⟩:=h.f r hr;exact ⟨a,b,l,m,e⟩
def dB (n la:Int) (T F:List (List Int)):List (List Int):=jP la (n-1).toNat++kh T++kh F
structure zIo (mg:Str->Option Value):Prop where
 range:mg "range"=none
def Pc (C:Addr):Sp:=fun vs H Q _=>∃p n la T F,vs=[.ref p]/\jl C H p n la T F/\1<=n/\n<=8/\∀l H',H l=none->a8 H H'->dQ H' l (jP la (n-1).toNat)->Q (.ref l) H'
def Pg:Sp:=fun vs H Q _=>∃a rows,vs=[.ref a]/\dQ H a rows/\x_ rows/\rows.length<=100/\∀l H',H l=none->a8 H H'->dQ H' l (kh rows)->Q (.ref l) H'
def Pk (C:Addr):Sp:=fun vs H Q _=>∃p a n la T F T',vs=[.ref p,.ref a]/\jl C H p n la T F/\cO n la T F/\dQ H a T'/\x_ T'/\T'.length<=100/\∀l H',H l=none->a8 H H'->dQ H' l (dB n la T' F)->Q (.ref l) H'
def Fj (C:Addr):Sp:=fun vs H Q _=>∃p n la T F,vs=[.ref p]/\jl C H p n la T F/\cO n la T F/\∀l H',H l=none->a8 H H'->dQ H' l (dB n la T F)->Q (.ref l) H'
section
theorem Lj:cC ["web","bounds","moment"] ["web"] (aU c8):=de
theorem uS (F:Fn K mg "room_bounds" c8 ["web"] f fd) (T:zIo mg) (TC:mG K mg C):au P w K mg base a7 1 f fd ["web"] (Pc C):=by
 refine F.F.dw Lj fun _ A _ s H _ Q E hr h=>?_;obtain ⟨p,n,la,rT,rF,rfl,⟨dx,ta,fa,hp,_,_⟩,n1,n2,k⟩:=h;refine ⟨_,bo (cF 1 Lj.nd (l9 qG))
  (bo (iG PassesOwn.never rfl (YN rfl T.range (bS aG (fq (pv 0) rfl))) (bV 2 Lj.nd)
   (bo (gE (qE so qy sk qi (pv 1) (bR (eU (iQ aG (pv 2) (fq (pv 0) rfl))))))
   (aA (gE (qE so qy sk qi (pv 1) (bR (eU (iQ (pv 2) aG aG))))))))
  (aA (cG (pv 1)))),?_⟩
 refine ⟨dP _,fun l hl=>?_⟩;have s0:=bf (o:=.lst []) hl;refine ⟨_,rfl,p,C,dx,_,_,rfl,s0 _ _ hp,TC.cl,TC.nM,qI _ _ _ _,1,n,rfl,⟨by decide,by decide,by lia,by lia⟩,?_⟩;refine BW (n:=(n-1).toNat) (fun i ae H'=>∃v ps,ae=[some (.ref p),some (.ref l),v]/\gj H' l ps (jP la i)/\a8 H H') ⟨none,[],rfl,⟨aq,.nil⟩,s0⟩ ?_ ?_
 ·rintro i ae H1 hi ⟨v,ps,rfl,R1,s1⟩;have small:∀j:Nat,j<=20->j<sizeLine:=fun j hj=>gy (by lia);refine ⟨_,rfl,.inl ⟨rfl,_,a9.of R1.1⟩,_,rfl,_,rfl,p,C,dx,_,_,rfl,s1 _ _ hp,TC.cl,TC.nL,Pp _ _ _ _,dU rfl,fun p1 iL=>?_⟩;obtain ⟨R2,s2,e2⟩:=R1.more (r:=[0,1+(i:Int),la]) s1 hl iL;refine ⟨l,_,_,rfl,rfl,e2,?_,?_⟩
  ·rw [aI,R1.len,Ap];exact small _ (by omega)
  refine ⟨_,rfl,.inl ⟨rfl,_,a9.of R2.1⟩,_,rfl,dU rfl,fun p2 iR=>?_⟩;obtain ⟨R3,s3,e3⟩:=R2.more (r:=[1+(i:Int),0,0]) s2 hl iR;refine ⟨l,_,_,rfl,rfl,e3,?_,?_⟩
  ·rw [aI,R2.len,iT,Ap];exact small _ (by simp;omega)
  refine ⟨_,ps++[p1]++[p2],rfl,?_,s3⟩;have e:jP la (i+1)=jP la i++[[0,1+(i:Int),la]]++[[1+(i:Int),0,0]]:=by rw [wZ,Int.add_comm 1 (i:Int)];rfl
  rw [e];exact R3
 ·rintro ae H1 ⟨v,ps,rfl,R1,s1⟩;exact ⟨_,rfl,k l _ hl s1 ⟨ps,R1⟩⟩
abbrev nSb:List Str:=["spans","bounds","one","other","least","most"]
theorem A0:cC nSb ["spans"] (aU c7):=de
theorem uP (F:Fn K mg "span_bounds" c7 ["spans"] f fd):au P w K mg base a7 1 f fd ["spans"] Pg:=by
 refine F.F.dw A0 fun _ A _ s H _ Q E hr h=>?_;obtain ⟨a,rows,rfl,⟨qs,R⟩,h4,hlen,k⟩:=h;refine ⟨_,bo (cF 1 A0.nd (l9 qG))
  (bo (iG PassesOwn.never rfl (iH (pv 0))
   (uk rfl (eN (bV 2 A0.nd) (eN (bV 3 A0.nd) (eN (bV 4 A0.nd) (eN (bV 5 A0.nd) sU)))))
   (bo (gE (qE so qy sk qi (pv 1) (bR (eU (iQ (pv 2) (pv 3) (pv 5))))))
   (aA (gE (qE so qy sk qi (pv 1) (bR (eU (iQ (pv 3) (pv 2) (vK vM (pv 4))))))))))
  (aA (cG (pv 1)))),?_⟩
 refine ⟨dP _,fun l hl=>?_⟩;have s0:=bf (o:=.lst []) hl;refine ⟨_,rfl,a,rfl,⟨_,a9.of (s0 _ _ R.1)⟩,km (K:=K) (a:=a) (xs:=qs.map V.ref) (fun i ae H'=>∃v1 v2 v3 v4 ps,ae=[some (.ref a),some (.ref l),v1,v2,v3,v4]/\gj H' l ps (kh (rows.take i))/\a8 H H') ⟨none,none,none,none,[],rfl,⟨aq,.nil⟩,s0⟩ ?_ ?_ ?_⟩
 ·rintro i ae H1 _ ⟨v1,v2,v3,v4,ps,rfl,_,s1⟩;exact a9.of (s1 _ _ R.1)
 ·rintro i x ae H1 hx ⟨v1,v2,v3,v4,ps,rfl,R1,s1⟩;obtain ⟨q,r,rfl,_,ay,ie⟩:=R.get hx;obtain ⟨a',b',le,mo,e4⟩:=h4 r (gK ay);subst e4;have hi:i<rows.length:=(gu.mp ay).1;have pL:x_ (rows.take i):=fun r hr=>h4 r (List.mem_of_mem_take hr);have rP:(kh (rows.take i)).length<=200:=by rw [vU pL,jX];lia
  refine ⟨q,_,rfl,dm.of (s1 _ _ ie),rfl,_,_,rfl,_,_,rfl,_,_,rfl,_,_,rfl,rfl,?_⟩;refine ⟨_,rfl,.inl ⟨rfl,_,a9.of R1.1⟩,_,rfl,_,rfl,_,rfl,dU rfl,fun p1 iL=>?_⟩;obtain ⟨R2,s2,e2⟩:=R1.more (r:=[a',b',mo]) s1 hl iL;refine ⟨l,_,_,rfl,rfl,e2,?_,?_⟩
  ·rw [aI,R1.len];exact gy (by lia)
  refine ⟨_,rfl,.inl ⟨rfl,_,a9.of R2.1⟩,_,rfl,_,rfl,_,rfl,_,rfl,dU rfl,fun p2 iR=>?_⟩;obtain ⟨R3,s3,e3⟩:=R2.more (r:=[b',a',-le]) s2 hl iR;refine ⟨l,_,_,rfl,rfl,e3,?_,?_⟩
  ·rw [aI,R2.len,iT];exact gy (by simp;lia)
  refine ⟨_,_,_,_,ps++[p1]++[p2],rfl,?_,s3⟩;have e:kh (rows.take (i+1))=kh (rows.take i)++[[a',b',mo]]++[[b',a',-le]]:=by unfold kh;rw [lu,ay,fY,List.flatten_append,wZ];rfl
  rw [e];exact R3
 ·rintro ae H1 ⟨v1,v2,v3,v4,ps,rfl,R1,s1⟩;have hle:rows.take (qs.map V.ref).length=rows:=by
   rw [aI,R.len];exact jN
  rw [hle] at R1;exact ⟨_,rfl,k l _ hl s1 ⟨ps,R1⟩⟩
theorem zHf:cC ["web","ties"] ["web","ties"] (aU cA):=de
theorem uK (F:Fn K mg "bounds_with" cA ["web","ties"] f fd) (TC:mG K mg C)
 (FR:Fn K mg "room_bounds" c8 ["web"] fR O8) (GR:au P w K mg base a7 1 fR O8 ["web"] (Pc C))
 (FS:Fn K mg "span_bounds" c7 ["spans"] fS O7) (GS:au P w K mg base a7 1 fS O7 ["spans"] Pg)
 (mF:jH K C "falls" fM) (bF:eT K zB ["self"] []) (GF:au P w K mg base a7 1 fM zB ["self"] (zS C fun _ F=>F)):au P w K mg base a7 2 f fd ["web","ties"] (Pk C):=by
 refine F.F.dw zHf fun _ A _ s H _ Q E hr h=>?_;obtain ⟨p,a,n,la,rT,rF,T',rfl,W0,af,RT,Wf,AN,k⟩:=h;refine ⟨_,aA (cG (cE JI (cE JI (cH GR hr FR (bR (pv 0))) (cH GS hr FS (bR (pv 1))))
  (cH GS hr FS (bR (Ag (pv 0) TC.cl mF GF hr bF .nil gD))))),?_⟩
 refine ⟨_,rfl,p,n,la,rT,rF,rfl,W0,af.n1,af.n2,fun l1 H1 _ s1 R1=>?_⟩;refine ⟨_,rfl,a,T',rfl,RT.same s1,Wf,AN,fun l2 H2 _ s2 R2=>?_⟩;obtain ⟨Cs,OR⟩:=R1.same s2;obtain ⟨HV,R2⟩:=R2;have e1:=OR.len;have e2:=R2.len;rw [Ap] at e1;rw [vU Wf] at e2;have n2:=af.n2;refine ⟨l1,l2,_,_,rfl,rfl,OR.1,R2.1,?_,fun l3 ze=>?_⟩
 ·rw [aI,aI];exact aS (gy (by lia))
 have R3:=OR.cat R2 ze;have s3:=bf (o:=.lst (Cs.map V.ref++HV.map V.ref)) ze;have yu:=(s1.trans s2).trans s3;obtain ⟨dx,ta,fa,hp,_,_⟩:=id (W0.same yu);refine ⟨_,rfl,p,dx,_,rfl,hp,Ca _ _ _ _ (by decide+kernel) (by decide+kernel) (by decide+kernel) (by decide+kernel),p,n,la,rT,rF,rfl,W0.same yu,fun l4 H4 _ s4 R4=>?_⟩;refine ⟨l4,rF,rfl,R4,af.lX,by have:=af.fl;lia,fun l5 H5 _ s5 R5=>?_⟩;have WS:=(R3.same s4).same s5;obtain ⟨ps5,R5⟩:=R5;have e5:=R5.len;rw [vU af.lX] at e5;have fl:=af.fl;refine ⟨l3,l5,_,_,rfl,rfl,WS.1,R5.1,?_,fun l6 MY=>?_⟩
 ·rw [aI,aI,iT];exact aS (gy (by lia))
 have Vk:=(yu.trans s4).trans s5;exact k l6 _ (Vk.free MY) (Vk.trans (bf MY)) ⟨_,WS.cat R5 MY⟩
theorem zG8:cC ["web"] ["web"] (aU bh):=de
theorem uL (F:Fn K mg "told_bounds" bh ["web"] f fd) (TC:mG K mg C)
 (FB:Fn K mg "bounds_with" cA ["web","ties"] fB qw) (GB:au P w K mg base a7 2 fB qw ["web","ties"] (Pk C))
 (mT:jH K C "ties" fM) (bT:eT K zB ["self"] []) (GT:au P w K mg base a7 1 fM zB ["self"] (zS C fun T _=>T)):au P w K mg base a7 3 f fd ["web"] (Fj C):=by
 refine F.F.dw zG8 fun _ A _ s H _ Q E hr h=>?_;obtain ⟨p,n,la,rT,rF,rfl,W0,af,k⟩:=h;have gW:cJ 1 _:=hr.mono (by decide);refine ⟨_,aA (cG (cH GB hr FB (bS (pv 0) (Ag (pv 0) TC.cl mT GT gW bT .nil gD)))),?_⟩;obtain ⟨dx,ta,fa,hp,_,_⟩:=id W0;refine ⟨_,rfl,_,rfl,p,dx,_,rfl,hp,Ca _ _ _ _ (by decide+kernel) (by decide+kernel) (by decide+kernel) (by decide+kernel),p,n,la,rT,rF,rfl,W0,fun l1 H1 _ s1 R1=>?_⟩;exact ⟨p,l1,n,la,rT,rF,rT,rfl,W0.same s1,af,R1,af.oK,by have:=af.tl;lia,fun l H' hl s' R=>k l H' (s1.free hl) (s1.trans s') R⟩
end
end Y0
namespace L2
open PySem PySem.Spec PyProof.Rows
section
variable [DecidableEq κ]
def fJ (kvs:List (κ×V)) (k:κ):Option V:=(kvs.find? fun kv=>decide (kv.1=k)).map (·.2)
def eC (kvs:List (κ×V)) (k:κ) (v:V):List (κ×V):=
 if (kvs.any fun kv=>decide (kv.1=k))=true then kvs.map (fun kv=>if kv.1=k then (kv.1,v) else kv) else kvs++[(k,v)]
theorem qK {p:κ×V} {r:List (κ×V)} {k:κ} (e:p.1=k):fJ (p::r) k=some p.2:=by simp [fJ,List.find?_cons,e]
theorem qJ {p:κ×V} {r:List (κ×V)} {k:κ} (e:¬p.1=k):fJ (p::r) k=fJ r k:=by simp [fJ,List.find?_cons,e]
theorem xO (k:κ):∀kvs:List (κ×V),(kvs.any fun kv=>decide (kv.1=k))=(fJ kvs k).isSome
 | []=>rfl
 | p::r=>by
  rw [List.any_cons]
  by_cases e:p.1=k
  ·simp only [qK e,jZ e,Bool.true_or,Option.isSome_some]
  ·rw [qJ e,gA e,Bool.false_or];exact xO k r
theorem QT (k j:κ) (y:V):∀kvs:List (κ×V),fJ (kvs.map fun kv=>if kv.1=k then (kv.1,y) else kv) j=(fJ kvs j).map fun x=>if j=k then y else x
 | []=>rfl
 | p::r=>by
  have ih:=QT k j y r;rw [fj]
  by_cases h:p.1=k
  ·rw [if_pos h]
   by_cases e:p.1=j
   ·rw [qK (p:=(p.1,y)) e,qK e,Option.map_some,if_pos (e.symm.trans h)]
   ·rw [qJ (p:=(p.1,y)) e,qJ e,ih]
  ·rw [if_neg h]
   by_cases e:p.1=j
   ·rw [qK (p:=p) e,qK e,Option.map_some,if_neg (fun z=>h (e.trans z))]
   ·rw [qJ (p:=p) e,qJ e,ih]
theorem Si (k j:κ) (y:V):∀kvs:List (κ×V),fJ kvs k=none->fJ (kvs++[(k,y)]) j=if j=k then some y else fJ kvs j
 | [],_=>by
  by_cases e:k=j
  ·rw [if_pos e.symm];exact qK (p:=(k,y)) e
  ·rw [if_neg (fun z=>e z.symm)];exact qJ (p:=(k,y)) e
 | p::r,hn=>by
  rw [List.cons_append];have hk:¬p.1=k:=fun z=>by rw [qK z] at hn;cases hn
  rw [qJ hk] at hn;have ih:=Si k j y r hn
  by_cases e:p.1=j
  ·rw [qK e,qK e,if_neg (fun z=>hk (e.trans z))]
  ·rw [qJ e,qJ e,ih]
theorem BH (kvs:List (κ×V)) (k j:κ) (y:V):fJ (eC kvs k y) j=if j=k then some y else fJ kvs j:=by
 unfold eC
 by_cases a:(kvs.any fun kv=>decide (kv.1=k))=true
 ·rw [if_pos a,QT];rw [xO] at a
  by_cases e:j=k
  ·obtain ⟨x,hx⟩:=Option.isSome_iff_exists.mp a;rw [if_pos e,e,hx,Option.map_some,if_pos rfl]
  ·rw [if_neg e]
   cases fJ kvs j with
   | none=>rfl
   | some x=>rw [Option.map_some,if_neg e]
 ·rw [if_neg a];refine Si k j y kvs ?_;rw [xO] at a
  cases q:fJ kvs k with
  | none=>rfl
  | some x=>rw [q] at a;exact (a rfl).elim
theorem Aq (kvs:List (κ×V)) (k:κ) (v:V):(eC kvs k v).length<=kvs.length+1:=by
 unfold eC;split
 ·rw [aI];exact jQ
 ·rw [iT,mf,ON];omega
theorem kf.dH (r:kf o u):o.isSome=u.isSome:=by
 cases o with
 | none=>cases u with
  | none=>rfl
  | some _=>exact (show False from r).elim
 | some _=>cases u with
  | none=>exact (show False from r).elim
  | some _=>rfl
theorem KV.val {kvs:List (κ×V)} {vs:List (κ×Value)} (r:KV kvs vs) (k:κ):kf (fJ kvs k) (valueAt vs k):=by
 unfold KV at r
 induction r with
 | nil=>exact True.intro
 | @cons p q ps qs h t ih=>
  obtain ⟨h1,h2⟩:=h
  by_cases e:p.1=k
  ·have e':q.1=k:=h1.symm.trans e;have b:valueAt (q::qs) k=some q.2:=by simp [valueAt,List.find?_cons,e']
   rw [qK e,b];exact h2
  ·have e':¬q.1=k:=fun z=>e (h1.trans z);have b:valueAt (q::qs) k=valueAt qs k:=by simp [valueAt,List.find?_cons,e']
   rw [qJ e,b];exact ih
theorem KV.any (r:KV kvs vs) (k:κ):(kvs.any fun kv=>decide (kv.1=k))=vs.any fun kv=>decide (kv.1=k):=by
 unfold KV at r
 induction r with
 | nil=>rfl
 | cons h t ih=>rw [List.any_cons,List.any_cons,ih,h.1]
theorem KV.yz (r:KV kvs vs) (k:κ) (ry:bU y u):
 KV (kvs.map fun kv=>if kv.1=k then (kv.1,y) else kv) (vs.map fun kv=>if kv.1=k then (kv.1,u) else kv):=by
 unfold KV at r ⊢
 induction r with
 | nil=>exact .nil
 | @cons p q ps qs h t ih=>
  rw [fj,fj];refine .cons ?_ ih;obtain ⟨h1,h2⟩:=h
  by_cases e:p.1=k
  ·rw [if_pos e,if_pos (h1.symm.trans e)];exact ⟨h1,ry⟩
  ·rw [if_neg e,if_neg (fun z=>e (h1.trans z))];exact ⟨h1,h2⟩
theorem KV.put (r:KV kvs vs) (k:κ) (ry:bU y u):KV (eC kvs k y) (stored vs k u):=by
 unfold eC stored;rw [r.any k]
 by_cases e:(vs.any fun kv=>decide (kv.1=k))=true
 ·rw [if_pos e,if_pos e];exact r.yz k ry
 ·rw [if_neg e,if_neg e];exact Paired.snoc r ⟨rfl,ry⟩
theorem KV.length (r:KV kvs vs):kvs.length=vs.length:=Paired.length r
end
theorem zQ (r:bU (kV k) u):(mX P w).is k u=true:=by
 cases k with
 | inl i=>obtain ⟨t,e⟩:=(show ∃t,u=Value.int i t from r);subst e;exact ZK P w i t
 | inr x=>obtain ⟨t,e⟩:=(show ∃t,u=Value.str x t from r);subst e;exact ZL P w x t
theorem RB:∀{ks:List Key} {us:List Value},bq (ks.map kV) us->ItemsAre (mX P w) ks us
 | [],_,r=>by rw [List.map_nil] at r;cases r;exact .nil
 | k::ks,_,r=>by
  rw [fj] at r
  cases r with
  | cons h t=>exact .cons (zQ h) (RB t)
abbrev KT (H:Hp):List (List Key×V)->List (List Key×Addr×Value)->Prop:=Paired fun p q=>p.1=q.1/\H q.2.1=some (.tup (p.1.map kV))/\bU p.2 q.2.2
theorem KT.val {H:Hp} {kvs:List (List Key×V)} {xs:List (List Key×Addr×Value)} (r:KT H kvs xs) (k:List Key):kf (fJ kvs k) ((atKey xs k).map (·.2)):=by
 induction r with
 | nil=>exact True.intro
 | @cons p q ps qs h t ih=>
  obtain ⟨h1,_,h2⟩:=h
  by_cases e:p.1=k
  ·have e':q.1=k:=h1.symm.trans e;have b:atKey (q::qs) k=some q.2:=by simp [atKey,List.find?_cons,e']
   rw [qK e,b];exact h2
  ·have e':¬q.1=k:=fun z=>e (h1.trans z);have b:atKey (q::qs) k=atKey qs k:=by simp [atKey,List.find?_cons,e']
   rw [qJ e,b];exact ih
theorem KT.yz (r:KT H kvs xs) (k:List Key) (ry:bU y u):
 KT H (kvs.map fun kv=>if kv.1=k then (kv.1,y) else kv) (xs.map (putAt k u)):=by
 induction r with
 | nil=>exact .nil
 | @cons p q ps qs h t ih=>
  rw [fj,fj];refine .cons ?_ ih;obtain ⟨h1,h2,h3⟩:=h;unfold putAt
  by_cases e:p.1=k
  ·rw [if_pos e,if_pos (h1.symm.trans e)];exact ⟨h1,h2,ry⟩
  ·rw [if_neg e,if_neg (fun z=>e (h1.trans z))];exact ⟨h1,h2,h3⟩
theorem KT.put (r:KT H kvs xs) (k:List Key) (hb:H b=some (.tup (k.map kV))) (ry:bU y u):
 KT H (eC kvs k y) (storedH xs k b u):=by
 have e:(kvs.any fun kv=>decide (kv.1=k))=(atKey xs k).isSome:=by rw [xO,(r.val k).dH,Option.isSome_map]
 unfold eC storedH;rw [e]
 by_cases q:(atKey xs k).isSome=true
 ·rw [if_pos q,if_pos q];exact r.yz k ry
 ·rw [if_neg q,if_neg q];exact Paired.snoc r ⟨rfl,hb,ry⟩
theorem KT.keeps (r:KT H kvs xs) (ht:∀b ys,H b=some (.tup ys)->H' b=some (.tup ys)):KT H' kvs xs:=
 Paired.yK r fun _ _ z=>⟨z.1,ht _ _ z.2.1,z.2.2⟩
section
theorem UA (ok:eS P w H h) (e:Rd H a u):eK P w H h a u:=e.ok ok
theorem Bi (ok:eS P w H h) (e:Rd H a (.dK kvs)):kvs.length<=sizeLine/\(a==sysModules)=false/\∃vs,KV kvs vs/\h.DictOf (mX P w) a vs:=
 show eK P w H h a (.dK kvs) from UA ok e
theorem UJ (ok:eS P w H h) (e:H a=some (.dK kvs)):kvs.length<=sizeLine/\(a==sysModules)=false/\∃vs,KV kvs vs/\h.DictOf (mX P w) a vs:=Bi ok (.inl e)
theorem Bp (ok:eS P w H h) (e:H a=some (.tup (ks.map kV))):(tupleKind (mX P w)).is h ks a:=by obtain ⟨_,its,r,o,h1,h2,n,h3⟩:=(show eK P w H h a (.tup (ks.map kV)) from ok a _ e);exact ⟨o,its.toArray,n,h1,h2,h3,by simpa using RB r⟩
theorem Bj (ok:eS P w H h) (e:Rd H a (.dT kvs)):kvs.length<=sizeLine/\(a==sysModules)=false/\
 ∃xs,KT H kvs xs/\h.DictOfH (tupleKind (mX P w)) a xs:=by
 obtain ⟨z,y,xs,r,o,es,ep,h1,h2,h3,h4,h5⟩:=(show eK P w H h a (.dT kvs) from UA ok e);refine ⟨z,y,xs,r,o,es,ep,h1,h2,h3,h4,fun x hx=>?_,h5⟩;have all:∀{l:List (List Key×V)} {m:List (List Key×Addr×Value)},KT H l m->∀x∈m,(tupleKind (mX P w)).is h x.1 x.2.1:=by
  intro l m q
  induction q with
  | nil=>intro x hx;exact nomatch hx
  | @cons p q ps qs hq t ih=>
   intro x hx;rcases eh.mp hx with e | hx
   ·subst e;exact Bp ok (by rw [<-hq.1];exact hq.2.1)
   ·exact ih x hx
 exact all r x hx
theorem zFs (ok:eS P w H h) (e:H a=some (.dT kvs)):kvs.length<=sizeLine/\(a==sysModules)=false/\
 ∃xs,KT H kvs xs/\h.DictOfH (tupleKind (mX P w)) a xs:=Bj ok (.inl e)
end
def fL (H:Hp) (a:Addr) (y:V) (r:Option V):Prop:=
 (∃kvs k,Rd H a (.dK kvs)/\y=kV k/\r=fJ kvs k)\/∃kvs k b,Rd H a (.dT kvs)/\y=.ref b/\H b=some (.tup (k.map kV))/\r=fJ kvs k
def sC (H:Hp) (a:Addr) (y v:V) (H':Hp):Prop:=
 (∃kvs k,H a=some (.dK kvs)/\y=kV k/\kvs.length<sizeLine/\H'=upd H a (.dK (eC kvs k v)))\/
 ∃kvs k b,H a=some (.dT kvs)/\y=.ref b/\H b=some (.tup (k.map kV))/\kvs.length<sizeLine/\H'=upd H a (.dT (eC kvs k v))
theorem fL.k {H:Hp} {a:Addr} {kvs:List (Key×V)} {k:Key} (e:H a=some (.dK kvs)):fL H a (kV k) (fJ kvs k):=.inl ⟨kvs,k,.inl e,rfl,rfl⟩
theorem fL.t {H:Hp} {a b:Addr} {kvs:List (List Key×V)} {k:List Key} (e:H a=some (.dT kvs)) (eb:H b=some (.tup (k.map kV))):fL H a (.ref b) (fJ kvs k):=.inr ⟨kvs,k,b,.inl e,rfl,eb,rfl⟩
theorem sC.k {H:Hp} {a:Addr} {kvs:List (Key×V)} {k:Key} {v:V} (e:H a=some (.dK kvs)) (hl:kvs.length<sizeLine):sC H a (kV k) v (upd H a (.dK (eC kvs k v))):=.inl ⟨kvs,k,e,rfl,hl,rfl⟩
theorem sC.t {H:Hp} {a b:Addr} {kvs:List (List Key×V)} {k:List Key} {v:V} (e:H a=some (.dT kvs)) (eb:H b=some (.tup (k.map kV))) (hl:kvs.length<sizeLine):
 sC H a (.ref b) v (upd H a (.dT (eC kvs k v))):=.inr ⟨kvs,k,b,e,rfl,eb,hl,rfl⟩
section
theorem Inv.big (I:Inv X pins σ H s):sysModules<s.heap.objs.size:=by have h:mainGlobals<s.heap.objs.size:=(I.mod.glob.keeps I.bk).lt;exact Nat.lt_trans (by decide) h
theorem YJ (hu:A.units+1<cLine) (I:Inv X pins σ H s) (g:fL H a y (some v)) (ry:bU y u) (h:∀w' s',Inv X pins σ H s'->bU v w'->Q w' s'):
 wpAny (model X.prog X.w) A (getItem (.ref a) u) Q E s:=by
 rcases g with ⟨kvs,k,e,ey,l⟩ | ⟨kvs,k,b,e,ey,eb,l⟩
 ·subst ey;obtain ⟨z,hd,vs,rel,dd⟩:=Bi I.af e;obtain ⟨w',hw,uH⟩:=kf.some_of (v:=v) (o:=valueAt vs k) (by rw [l];exact rel.val k);exact wpAny_getItem_of (zQ ry) dd.mapOf hw (h w' _ (I.tok _) uH)
 ·subst ey;cases (show u=Value.ref b from ry);obtain ⟨z,hd,xs,rel,dd⟩:=Bj I.af e;obtain ⟨w',hw,uH⟩:=kf.some_of (v:=v) (o:=(atKey xs k).map (·.2)) (by rw [l];exact rel.val k);obtain ⟨p,hp,iR⟩:=Option.map_eq_some_iff.mp hw;refine wpAny_getItem_heap (tupleKind_room_in1 hu) (Bp I.af eb) dd hp ?_;rw [iR];exact h w' _ (I.tok _) uH
theorem zH7 (hu:A.units+1<cLine) (I:Inv X pins σ H s) (g:fL H a y o) (ry:bU y u) (h:∀s',Inv X pins σ H s'->Q (.bool o.isSome) s'):
 wpAny (model X.prog X.w) A (compareOp .In u (.ref a)) Q E s:=by
 rcases g with ⟨kvs,k,e,ey,l⟩ | ⟨kvs,k,b,e,ey,eb,l⟩
 ·subst ey;obtain ⟨z,hd,vs,rel,dd⟩:=Bi I.af e;refine wpAny_in_of (zQ ry) hd dd.mapOf ?_;rw [<-(rel.val k).dH,<-l];exact h _ (I.tok _)
 ·subst ey;cases (show u=Value.ref b from ry);obtain ⟨z,hd,xs,rel,dd⟩:=Bj I.af e;refine wpAny_in_heap (tupleKind_room_in1 hu) (Bp I.af eb) hd dd ?_;have q:=(rel.val k).dH;rw [Option.isSome_map] at q;rw [<-q,<-l];exact h _ (I.tok _)
theorem zB8 (hu:A.units+1<cLine) (I:Inv X pins σ H s) (g:fL H a y o) (ry:bU y u) (h:∀s',Inv X pins σ H s'->Q (.bool (!o.isSome)) s'):
 wpAny (model X.prog X.w) A (compareOp .NotIn u (.ref a)) Q E s:=by
 rcases g with ⟨kvs,k,e,ey,l⟩ | ⟨kvs,k,b,e,ey,eb,l⟩
 ·subst ey;obtain ⟨z,hd,vs,rel,dd⟩:=Bi I.af e;refine wpAny_notIn_of (zQ ry) hd dd.mapOf ?_;rw [<-(rel.val k).dH,<-l];exact h _ (I.tok _)
 ·subst ey;cases (show u=Value.ref b from ry);obtain ⟨z,hd,xs,rel,dd⟩:=Bj I.af e;refine wpAny_notIn_heap (tupleKind_room_in1 hu) (Bp I.af eb) hd dd ?_;have q:=(rel.val k).dH;rw [Option.isSome_map] at q;rw [<-q,<-l];exact h _ (I.tok _)
theorem JP (I:Inv X pins σ H s) (mu:A_ (H a)) (hs:Heap.SameBut a s.heap h') (he:∃q,h'.get? a=some q) (new:eK X.prog X.w (upd H a ob) h' a ob):
 Inv X pins σ (upd H a ob) { s with heap:=h',toks:=t' }:=
 I.write (x:=a) (e:=a) mu (.inl rfl) (fun b q hb z=>(hs.2 b hb).trans z) he new
theorem US (z:kvs.length<=sizeLine) (hd:(a==sysModules)=false) (rel:KV kvs vs) (dd:h'.DictOf (mX P w) a vs):
 eK P w H' h' a (.dK kvs):=⟨z,hd,vs,rel,dd⟩
theorem YK (hu:A.units+1<cLine) (I:Inv X pins σ H s) (g:sC H a y v H') (ry:bU y u) (rv:bU v r) (h:∀s',Inv X pins σ H' s'->Q () s'):
 wpAny (model X.prog X.w) A (setItem (.ref a) u r) Q E s:=by
 rcases g with ⟨kvs,k,e,ey,l,eH⟩ | ⟨kvs,k,b,e,ey,eb,l,eH⟩
 ·subst ey eH;obtain ⟨z,hd,vs,rel,dd⟩:=UJ I.af e;have hz:vs.length<=sizeLine:=by rw [<-rel.length];exact z
  have hl:(eC kvs k v).length<=sizeLine:=by have:=Aq kvs k v;exact KC l this
  refine wpAny_setItem_pairs (hsz:=hz) (zQ ry) dd fun h' se hs=>h _ ?_;have he:∃q,h'.get? a=some q:=let ⟨q,_,_,hq,_⟩:=se;⟨q,hq⟩;exact JP I (by rw [e];exact True.intro) hs he (US hl hd (rel.put k rv) se)
 ·subst ey eH;cases (show u=Value.ref b from ry);obtain ⟨z,hd,xs,rel,dd⟩:=zFs I.af e;have hz:xs.length<=sizeLine:=by rw [<-Paired.length rel];exact z
  have hl:(eC kvs k v).length<=sizeLine:=by have:=Aq kvs k v;exact KC l this
  refine wpAny_setItem_heap (hsz:=hz) (tupleKind_room_in1 hu) (Bp I.af eb) dd fun h' se hs=>h _ ?_;obtain ⟨q,es,ep,hq,h2,h3,h4,_,h5⟩:=se;refine JP I (by rw [e];exact True.intro) hs ⟨q,hq⟩ ⟨hl,hd,_,(rel.put k eb rv).keeps fun c ys ec=>?_,q,es,ep,hq,h2,h3,h4,h5⟩;rw [aj (cB ec e nofun)];exact ec
end
section
end
def Tr (i:Expr):Prop:=∀ov iv,subscripted i false ov iv=operate [ov,iv] (getItem ov iv)
theorem zA0 {prog:Program} {A:Around} {E:Value->Shared->Prop} {s:Shared} {env:Env} {value slice:Expr} {pos:Pos} {T id:String} {Q:Value->Shared->Prop}
 (hl:typeLookup (.type T) "__getitem__"=pure (some (.builtin id))) (hs:Tr slice)
 (h:wpAny (model prog w) A (eval value env) (fun o ar=>wpAny (model prog w) A (eval slice env) (fun i g7=>g7.TypeIs o T/\wpAny (model prog w) A (getItem o i) Q E g7) E ar) E s):
 wpAny (model prog w) A (eval (.Subscript value slice pos) env) Q E s:=by
 refine Subscript_ (wpAny_mono h (fun o ar b_=>wpAny_mono b_ (fun i g7 kI=>?_) fun _ _ x=>x) fun _ _ x=>x);obtain ⟨hT,kI⟩:=kI;unfold subscriptTail;refine ah ?_;rw [getitemInPython_of_ne hT.not_modules];refine ah (wpAny_specialOf hT hl ?_);have fin:wpAny (model prog w) A (subscripted slice false o i) (fun r jL=>wpAny (model prog w) A (letTemporaryGo value o r>>=fun _=>pure r) Q E jL) E g7:=by rw [hs o i];exact wpAny_operating (wpAny_mono kI (fun r jL vg=>ah (wpAny_letTemporaryGo (aW vg))) fun _ _ x=>x)
 first
  | exact aW (ah fin)
  | exact ah (aW (ah fin))
  | exact ah fin
theorem ZC (I:Inv X pins σ H s) (g:fL H a y o):s.TypeIs (.ref a) "dict":=by
 rcases g with ⟨kvs,k,e,_,_⟩ | ⟨kvs,k,b,e,_,_,_⟩
 ·obtain ⟨_,_,vs,_,dd⟩:=Bi I.af e;exact dd.typeIs
 ·obtain ⟨_,_,xs,_,dd⟩:=Bj I.af e;exact dd.typeIs
def zEz (td ty:TE):TE:=fun σ H Q=>td σ H fun x H1=>ty σ H1 fun y H2=>∃a v,x=.ref a/\fL H2 a y (some v)/\Q v H2
def zG0 (ty td:TE):TE:=fun σ H Q=>ty σ H fun y H1=>td σ H1 fun x H2=>∃a o,x=.ref a/\fL H2 a y o/\Q (.bl o.isSome) H2
def zAw (ty td:TE):TE:=fun σ H Q=>ty σ H fun y H1=>td σ H1 fun x H2=>∃a o,x=.ref a/\fL H2 a y o/\Q (.bl (!o.isSome)) H2
def zFb (td ty tv:TE):TS:=fun D σ H=>tv σ H fun v H1=>td σ H1 fun x H2=>ty σ H2 fun y H3=>∃a H4,x=.ref a/\sC H3 a y v H4/\D.nx σ H4
section
theorem ot (hu:X.A.units+1<cLine) (ho:PE X o td) (hi:PE X i ty) (hs:Tr i):PE X (.Subscript o i pos) (zEz td ty):=by intro pins s σ H Q I h;refine zA0 PySem.F.slot_dict_getitem.lookup hs (ax (ho pins s σ H _ I h) fun u s1 zz=>L2.fi zz fun x H1 I1 rx q1=>ax (hi pins s1 σ H1 _ I1 q1) fun iv s2 zz=>?_);obtain ⟨y,H2,I2,ry,a,v,ex,g,q2⟩:=zz;subst ex;obtain rfl:u=Value.ref a:=rx;exact ⟨ZC I2 g,YJ hu I2 g ry fun w' s3 I3 uH=>⟨v,H2,I3,uH,q2⟩⟩
theorem JB (hu:X.A.units+1<cLine) (hi:PE X i ty) (ho:PE X o td):PC X .In i o (zG0 ty td):=by intro pins s σ H Q I h;refine ax (hi pins s σ H _ I h) fun iv s1 zz=>L2.fi zz fun y H1 I1 ry q1=>ax (ho pins s1 σ H1 _ I1 q1) fun u s2 zz=>?_;obtain ⟨x,H2,I2,rx,a,ov,ex,g,q2⟩:=zz;subst ex;obtain rfl:u=Value.ref a:=rx;exact zH7 hu I2 g ry fun s3 I3=>⟨.bl ov.isSome,H2,I3,rfl,q2⟩
theorem Hb (hu:X.A.units+1<cLine) (hi:PE X i ty) (ho:PE X o td):PC X .NotIn i o (zAw ty td):=by intro pins s σ H Q I h;refine ax (hi pins s σ H _ I h) fun iv s1 zz=>L2.fi zz fun y H1 I1 ry q1=>ax (ho pins s1 σ H1 _ I1 q1) fun u s2 zz=>?_;obtain ⟨x,H2,I2,rx,a,ov,ex,g,q2⟩:=zz;subst ex;obtain rfl:u=Value.ref a:=rx;exact zB8 hu I2 g ry fun s3 I3=>⟨.bl (!ov.isSome),H2,I3,rfl,q2⟩
theorem Fp (hu:X.A.units+1<cLine) (ho:PE X o td) (hi:PE X i ty) (hv:PE X value tv) (hs:swapsWith value (some (.Subscript o i pos')) pos.line X.env=pure false):
 PS X (.Assign [.Subscript o i pos'] value pos) (zFb td ty tv):=by
 intro pins s σ H D I h;refine wpAny_Assign_Subscript (ax (hv pins s σ H _ I h) fun r s1 zz=>L2.fi zz fun v H1 I1 rv q1=>ax (ho pins s1 σ H1 _ I1 q1) fun u s2 zz=>L2.fi zz fun x H2 I2 rx q2=>ax (hi pins s2 σ H2 _ I2 q2) fun iv s3 zz=>?_) hs;obtain ⟨y,H3,I3,ry,a,H4,ex,g,q3⟩:=zz;subst ex;obtain rfl:u=Value.ref a:=rx;exact YK hu I3 g ry rv fun s4 I4=>⟨σ,H4,I4,q3⟩
end
theorem QM (h:Heap) (hb:sysModules<h.objs.size):eK P w H (h.push { cls:=.type "dict",data:=.dict #[] }) h.objs.size (.dK []):=
 ⟨dP _,beq_eq_false_iff_ne.mpr (aB (h_ hb)),[],.nil,Heap.DictOf.new h⟩
theorem X4 (h:Heap) (hb:sysModules<h.objs.size):eK P w H (h.push { cls:=.type "dict",data:=.dict #[] }) h.objs.size (.dT []):=
 ⟨dP _,beq_eq_false_iff_ne.mpr (aB (h_ hb)),[],.nil,_,#[],0,jY _ rfl,⟨rfl,rfl,rfl⟩,rfl,rfl,List.nodup_nil⟩
def zC6:TE:=fun _ H Q=>∀p,H p=none->Q (.ref p) (upd H p (.dK []))
def zC5:TE:=fun _ H Q=>∀p,H p=none->Q (.ref p) (upd H p (.dT []))
section
theorem Q9:PE X (.Dict [] [] pos) zC6:=fun pins s σ H Q I h=>
 wpAny_Dict_empty ⟨.ref s.heap.objs.size,_,I.laid (a:=s.heap.objs.size) (o:=.dK []) (t':=s.toks) (fun _ _ q=>cR _ q) (av _) (QM s.heap I.big),rfl,h _ (I.af.fresh (av _))⟩
theorem X0:PE X (.Dict [] [] pos) zC5:=fun pins s σ H Q I h=>
 wpAny_Dict_empty ⟨.ref s.heap.objs.size,_,I.laid (a:=s.heap.objs.size) (o:=.dT []) (t':=s.toks) (fun _ _ q=>cR _ q) (av _) (X4 s.heap I.big),rfl,h _ (I.af.fresh (av _))⟩
end
def JL:List (TE×TE)->St->Hp->(List (V×V)->Hp->Prop)->Prop
 | [],_,H,Q=>Q [] H
 | (tk,tv)::r,σ,H,Q=>tk σ H fun x H1=>tv σ H1 fun y H2=>JL r σ H2 fun ps H3=>Q ((x,y)::ps) H3
abbrev VV:List (V×V)->List (Value×Value)->Prop:=Paired fun p q=>bU p.1 q.1/\bU p.2 q.2
def IQ (X:Cx) (pos:Pos) (keys:List (Option Expr)) (values:List Expr) (yn:List (TE×TE)):Prop:=
 ∀(pins:List (Addr×Obj)) (s:Shared) (σ:St) (H:Hp) (Q:List (V×V)->Hp->Prop),Inv X pins σ H s->JL yn σ H Q->
  wpAny (model X.prog X.w) X.A (evalPairs (pairTrees keys values X.env pos)) (fun vs s'=>∃ps H',Inv X pins σ H' s'/\VV ps vs/\Q ps H') X.xe s
theorem zBf:IQ X pos [] [] []:=fun pins s σ H Q I h=>pairTrees_nil_walk ⟨[],H,I,.nil,h⟩
theorem X3 (hk:PE X k tk) (hv:PE X v tv) (hr:IQ X pos ks vs yn):
 IQ X pos (some k::ks) (v::vs) ((tk,tv)::yn):=fun pins s σ H Q I h=>
 pairTrees_cons_walk (ax (hk pins s σ H _ I h) fun u s1 zz=>L2.fi zz fun x H1 I1 rx q1=>ax (hv pins s1 σ H1 _ I1 q1) fun w2 s2 zz=>L2.fi zz fun y H2 I2 ry q2=>
  ax (hr pins s2 σ H2 _ I2 q2) fun ws s3 zz=>L2.fi zz fun ps H3 I3 rel q3=>⟨(x,y)::ps,H3,I3,.cons ⟨rx,ry⟩ rel,q3⟩)
def vO (kvs more:List (Key×V)):List (Key×V):=more.foldl (fun acc kv=>eC acc kv.1 kv.2) kvs
theorem KV.merge:∀{more:List (Key×V)} {rs:List (Key×Value)} {kvs:List (Key×V)} {vs:List (Key×Value)},KV more rs->KV kvs vs->KV (vO kvs more) (merged vs rs):=by
 intro more rs kvs vs r;unfold KV at r
 induction r generalizing kvs vs with
 | nil=>intro q;exact q
 | @cons p q ps qs h t ih=>
  intro r0;have e:KV (eC kvs p.1 p.2) (stored vs q.1 q.2):=by have:=r0.put p.1 h.2;rw [<-h.1];exact this
  exact ih e
theorem Tn:∀(more kvs:List (Key×V)),(vO kvs more).length<=kvs.length+more.length
 | [],kvs=>by show kvs.length<=kvs.length+0;exact jQ
 | p::r,kvs=>by have h1:=Tn r (eC kvs p.1 p.2);have h2:=Aq kvs p.1 p.2;show (vO (eC kvs p.1 p.2) r).length<=_;rw [mf];exact GU h1 h2
theorem SS {P:Program} {w:World}:∀{kvs:List (Key×V)} {ws:List (Value×Value)},VV (kvs.map fun kv=>(kV kv.1,kv.2)) ws->∃rs,Carries (mX P w) ws rs/\KV kvs rs
 | [],_,r=>by rw [List.map_nil] at r;cases r;exact ⟨[],True.intro,.nil⟩
 | p::kvs,_,r=>by
  rw [fj] at r
  cases r with
  | @cons a b as bs h t=>
   obtain ⟨rs,c,q⟩:=SS (P:=P) (w:=w) t;obtain ⟨b1,b2⟩:=b;exact ⟨(p.1,b2)::rs,⟨zQ h.1,rfl,c⟩,.cons ⟨rfl,h.2⟩ q⟩
def zEy (yn:List (TE×TE)):TE:=fun σ H Q=>∀p,H p=none->JL yn σ (upd H p (.dK [])) fun ps H2=>H2 p=some (.dK [])/\∃kvs:List (Key×V),ps=kvs.map (fun kv=>(kV kv.1,kv.2))/\kvs.length<=15/\Q (.ref p) (upd H2 p (.dK (vO [] kvs)))
theorem zBk (h:IQ X pos keys values yn) (bQ:keys.all (·.isSome)=true) (hl:keys.length=values.length) (h0:keys≠[])
 (h15:keys.length<=15):PE X (.Dict keys values pos) (zEy yn):=by
 intro pins s σ H Q I q;have hn:=I.af.fresh (av s.heap.objs.size);have I1:=I.laid (a:=s.heap.objs.size) (o:=.dK []) (h':=s.heap.push { cls:=.type "dict",data:=.dict #[] }) (t':=s.toks) (fun _ _ q=>cR _ q) (av _) (QM s.heap I.big);refine wpAny_Dict_walk (knd:=mX X.prog X.w) bQ hl h0 h15 (ax (h pins _ σ _ _ I1 (q _ hn)) fun ws s2 zz=>?_);obtain ⟨ps,H2,I2,rel,e,kvs,ep,lk,q2⟩:=zz;subst ep;obtain ⟨rs,c,rk⟩:=SS (P:=X.prog) (w:=X.w) rel;obtain ⟨z,hd,vs0,r0,dd⟩:=UJ I2.af e;cases r0;refine ⟨rs,c,dd,fun h' se hs=>⟨.ref s.heap.objs.size,_,?_,rfl,q2⟩⟩;have hz:(vO [] kvs).length<=sizeLine:=by have h1:=Tn kvs [];rw [ON] at h1;rw [sizeLine_eq];omega
 have he:∃q,h'.get? s.heap.objs.size=some q:=let ⟨q,_,_,hq,_⟩:=se;⟨q,hq⟩;exact JP I2 (by rw [e];exact True.intro) hs he (US hz hd (rk.merge .nil) se)
structure M1 (X:Cx) (o:Expr) (m:Str) (apos:Pos) (e:Expr) (g_:Pos):Prop where
 base:attributeBase o m X.env (eval o X.env)=eval o X.env
 oM:((backTo g_ (starEach [e] X.env)).all (fun x=> !x.1) && (backToKw g_ (keywordEach [] X.env)).all (fun x=>x.1.isSome)
  && decide (([e]:List Expr).length+([]:List Keyword).length+(if ([]:List Keyword).isEmpty then 0 else 1)<30))=true
 line:(apos.endLine==g_.line)=true
 trees:backTo g_ (starEach [e] X.env)=[(false,eval e X.env)]
section
end
section
end
section
end
section
end
end L2
namespace MT
end MT
namespace MU
structure ak where
 tie:Bool
 a:Nat
 b:Nat
 v:Int
inductive Wd where
 | told | sum | aD | bp | sure | back | aw
structure Row where
 cD:ak
 word:Wd
 used:List Nat
abbrev Key:=Bool×Nat×Nat
def ak.key (w:ak):Key:=(w.tie,w.a,w.b)
structure St where
 rows:List Row
 best:Key->Option Nat
 bar:Option Nat
abbrev dh:=Nat->Option (Nat×Int×Int)
def ai (st:St) (i:Nat):Option ak:=(st.rows[i]?).map (·.cD)
def val (st:St) (k:Key):Option Int:=(st.best k).bind fun i=>(ai st i).map (·.v)
def dR (tie:Bool) (v u:Int):Prop:=if tie=true then v<u else u<v
theorem ZM (h1:dR b x y) (h2:dR b y z):dR b x z:=by unfold dR at*;cases b<;>simp_all<;>lia
theorem KQ (h1:¬dR b x y) (h2:¬dR b y z):¬dR b x z:=by unfold dR at*;cases b<;>simp_all<;>lia
theorem SR (h:dR b x y):¬dR b y x:=by unfold dR at*;cases b<;>simp_all<;>exact eR h
def ir (st:St) (w:ak):Prop:=if w.tie=true/\w.a=w.b then w.v<0 else ∀u,val st w.key=some u->dR w.tie w.v u
def iX (w:ak):Prop:=w.tie=true/\w.a=w.b/\w.v<0
instance (w:ak):Decidable (iX w):=by unfold iX;infer_instance
open Classical in
instance (st:St) (w:ak):Decidable (ir st w):=propDecidable _
def take (st:St) (w:ak) (word:Wd) (used:List Nat):St:=
 if ir st w then { rows:=st.rows++[⟨w,word,used⟩],best:=fun k=>if k=w.key then some st.rows.length else st.best k,bar:=if st.bar=none/\iX w then some st.rows.length else st.bar } else st
def az (p q:ak):Option ak:=if p.tie=true/\q.tie=true/\p.b=q.a then some ⟨true,p.a,q.b,p.v+q.v⟩ else none
def dc (F:dh) (p:ak):Option ak:=if p.tie=true/\p.a≠p.b then (F p.b).map fun f=>⟨false,p.a,p.b,f.2.2-p.v⟩ else none
def dn (F:dh) (p:ak):Option ak:=if p.tie=true/\p.a≠p.b/\p.v<0 then (F p.a).map fun f=>⟨true,f.1,p.b,f.2.1+p.v⟩ else none
def dt (F:dh) (p:ak):Option ak:=if p.tie=false then (F p.b).map fun f=>⟨true,p.a,f.1,-min p.v f.2.1⟩ else none
def bj (F:dh) (p q:ak):Option ak:=if p.tie=false/\q.tie=true/\q.b=p.a/\q.a≠p.b then (F p.b).map fun f=>⟨false,q.a,p.b,min p.v f.2.2-q.v⟩ else none
def da (F:dh) (p:ak):Option ak:=if p.tie=false/\p.a≠p.b/\0<p.v then (F p.a).bind fun o=>(F p.b).map fun f=>⟨false,o.1,p.b,min p.v f.2.2-o.2.1⟩ else none
def put (st:St) (o:Option ak) (word:Wd) (used:List Nat):St:=match o with
 | some w=>take st w word used
 | none=>st
def aH (f:ak->Option ak) (word:Wd) (i:Nat) (st:St):St:=put st ((ai st i).bind f) word [i]
def ao (f:ak->ak->Option ak) (word:Wd) (i j:Nat) (st:St):St:=put st ((ai st i).bind fun p=>(ai st j).bind fun q=>f p q) word [i,j]
def cS (n:Nat) (st:St) (tie:Bool) (a:Nat):List Nat:=(List.range n).filterMap fun b=>st.best (tie,a,b)
def d9 (n:Nat) (st:St) (b:Nat):List Nat:=(List.range n).filterMap fun a=>st.best (true,a,b)
def eD (n:Nat) (F:dh) (at_ a b:Nat) (L7:St):St:=
 let gF:=aH (dc F) .aD at_ L7
 let aZ:=aH (dn F) .bp at_ gF
 let cm:=(cS n aZ true b).foldl (fun st j=>ao az .sum at_ j st) aZ
 let cz:=(d9 n cm a).foldl (fun st j=>ao az .sum j at_ st) cm
 (cS n cz false b).foldl (fun st j=>ao (bj F) .back j at_ st) cz
def fU (n:Nat) (F:dh) (at_ a:Nat) (L7:St):St:=
 let gF:=aH (dt F) .sure at_ L7
 let aZ:=aH (da F) .aw at_ gF
 (d9 n aZ a).foldl (fun st j=>ao (bj F) .back at_ j st) aZ
def look (n:Nat) (F:dh) (at_:Nat) (st:St):St:=match ai st at_ with
 | some w=>if st.best w.key=some at_ then (if w.tie=true then eD n F at_ w.a w.b st else fU n F at_ w.a st) else st
 | none=>st
def run (n:Nat) (F:dh) (st:St):Nat->St
 | 0=>st
 | t+1=>look n F t (run n F st t)
structure Ext (s s':St):Prop where
 rows:∃more,s'.rows=s.rows++more
 best:∀k,s'.best k=s.best k\/∃j,s'.best k=some j/\s.rows.length<=j
 bar:s.bar≠none->s'.bar≠none
structure cq (n:Nat) (s:St):Prop where
 at_:∀k i,s.best k=some i->∃w,ai s i=some w/\w.key=k
 top:∀i w,ai s i=some w->∃j,i<=j/\s.best w.key=some j
 lt:∀i w,ai s i=some w->w.a<n/\w.b<n
 ne:s.bar=none->∀i w,ai s i=some w->w.a≠w.b
 drop:s.bar=none->∀i j w w',ai s i=some w->ai s j=some w'->w.key=w'.key->i<j->dR w.tie w'.v w.v
theorem oh {w:ak} (h:ai s i=some w):i<s.rows.length:=by
 unfold ai at h
 cases q:s.rows[i]? with
 | none=>rw [q] at h;cases h
 | some r=>exact (gu.mp q).1
theorem cb {w:ak} (e:Ext s s') (h:ai s i=some w):ai s' i=some w:=by obtain ⟨more,hm⟩:=e.rows;have hi:=oh h;unfold ai at h ⊢;rw [hm,me hi];exact h
theorem Ext.refl (s:St):Ext s s:=⟨⟨[],by simp⟩,fun _=>.inl rfl,fun h=>h⟩
theorem Ext.len (e:Ext s s'):s.rows.length<=s'.rows.length:=by obtain ⟨more,hm⟩:=e.rows;rw [hm,iT];exact jQ
theorem Ext.trans (x:Ext a b) (y:Ext b c):Ext a c:=by
 refine ⟨?_,fun k=>?_,fun h=>y.bar (x.bar h)⟩
 ·obtain ⟨m1,h1⟩:=x.rows;obtain ⟨m2,h2⟩:=y.rows;exact ⟨m1++m2,by rw [h2,h1,wZ]⟩
 ·rcases y.best k with h | ⟨j,h,hj⟩
  ·rcases x.best k with h' | ⟨j,h',hj⟩
   ·exact .inl (h.trans h')
   ·exact .inr ⟨j,h.trans h',hj⟩
  ·exact .inr ⟨j,h,dq x.len hj⟩
theorem BG (st:St) (w:ak) (word:Wd) (used:List Nat):Ext st (take st w word used):=by
 unfold take;split
 ·refine ⟨⟨_,rfl⟩,fun k=>?_,fun h=>?_⟩
  ·show (if k=w.key then some st.rows.length else st.best k)=_\/∃j,(if k=w.key then some st.rows.length else st.best k)=some j/\_
   by_cases e:k=w.key
   ·rw [if_pos e];exact .inr ⟨_,rfl,av _⟩
   ·rw [if_neg e];exact .inl rfl
  ·show (if st.bar=none/\iX w then some st.rows.length else st.bar)≠none;rw [if_neg fun z=>h z.1];exact h
 ·exact Ext.refl st
theorem Aj {w:ak} (h:ai ⟨rows++[r],best,bar⟩ i=some w):(i<rows.length/\(rows[i]?).map (·.cD)=some w)\/(i=rows.length/\w=r.cD):=by
 unfold ai at h
 by_cases c:i<rows.length
 ·left;refine ⟨c,?_⟩;have h:((rows++[r])[i]?).map (·.cD)=some w:=h
  rwa [me c] at h
 ·right;have h:((rows++[r])[i]?).map (·.cD)=some w:=h;rw [mC (by exact mh c)] at h
  cases q:i-rows.length with
  | zero=>rw [q] at h;exact ⟨by lia,by cases h;rfl⟩
  | succ z=>rw [q] at h;cases h
theorem Se {w:ak} (g:cq n st) (ha:w.a<n) (hb:w.b<n) (hw:w.tie=false->w.a≠w.b):cq n (take st w word used):=by
 unfold take;split
 next hn=>
  have old:∀{i u},ai st i=some u->ai { rows:=st.rows++[⟨w,word,used⟩],best:=fun k=>if k=w.key then some st.rows.length else st.best k,bar:=if st.bar=none/\iX w then some st.rows.length else st.bar } i=some u:=fun {i u} h=>by have hi:=oh h;unfold ai at h ⊢;rw [me hi];exact h
  have new:ai { rows:=st.rows++[⟨w,word,used⟩],best:=fun k=>if k=w.key then some st.rows.length else st.best k,bar:=if st.bar=none/\iX w then some st.rows.length else st.bar } st.rows.length=some w:=by unfold ai;rw [mC (av _),Nat.sub_self];rfl
  have nb:(if st.bar=none/\iX w then some st.rows.length else st.bar)=none->st.bar=none/\¬iX w:=fun h=>by
   by_cases c:st.bar=none/\iX w
   ·rw [if_pos c] at h;cases h
   ·rw [if_neg c] at h;exact ⟨h,fun z=>c ⟨h,z⟩⟩
  have Va:¬iX w->w.a≠w.b:=fun hb e=>by
   cases ht:w.tie with
   | false=>exact hw ht e
   | true=>
    unfold ir at hn;rw [if_pos ⟨ht,e⟩] at hn;exact hb ⟨ht,e,hn⟩
  refine ⟨fun k i h=>?_,fun i u h=>?_,fun i u h=>?_,fun h0 i u h=>?_,fun h0 i j u u' h h' hk dz=>?_⟩
  ·have h:(if k=w.key then some st.rows.length else st.best k)=some i:=h
   by_cases c:k=w.key
   ·rw [if_pos c] at h;cases h;exact ⟨w,new,c.symm⟩
   ·rw [if_neg c] at h;obtain ⟨u,hu,hk⟩:=g.at_ k i h;exact ⟨u,old hu,hk⟩
  ·show ∃j,i<=j/\(if u.key=w.key then some st.rows.length else st.best u.key)=some j;rcases Aj h with ⟨hi,hu⟩ | ⟨hi,rfl⟩
   ·by_cases c:u.key=w.key
    ·rw [if_pos c];exact ⟨_,aS hi,rfl⟩
    ·rw [if_neg c];exact g.top i u hu
   ·rw [if_pos rfl];exact ⟨_,Nat.le_of_eq hi,rfl⟩
  ·rcases Aj h with ⟨_,hu⟩ | ⟨_,rfl⟩
   ·exact g.lt i u hu
   ·exact ⟨ha,hb⟩
  ·obtain ⟨b0,b1⟩:=nb h0;rcases Aj h with ⟨_,hu⟩ | ⟨_,rfl⟩
   ·exact g.ne b0 i u hu
   ·exact Va b1
  ·obtain ⟨b0,b1⟩:=nb h0;rcases Aj h' with ⟨hj,lq⟩ | ⟨hj,e'⟩
   ·rcases Aj h with ⟨_,hu⟩ | ⟨hi,_⟩
    ·exact g.drop b0 i j u u' hu lq hk dz
    ·lia
   ·have e':u'=w:=e';rw [e'] at hk ⊢;rcases Aj h with ⟨hi,hu⟩ | ⟨hi,_⟩
    ·
     have hu:ai st i=some u:=hu;obtain ⟨j0,Nf,d8⟩:=g.top i u hu;obtain ⟨u0,Ig,hk0⟩:=g.at_ _ _ d8;have hv:val st w.key=some u0.v:=by unfold val;have hk:u.key=w.key:=hk;rw [<-hk,d8];show (ai st j0).map (·.v)=_;rw [Ig];rfl
     unfold ir at hn;rw [if_neg fun z=>Va b1 z.2] at hn;have h1:=hn _ hv;have ht:u.tie=w.tie:=congrArg Prod.fst hk;rw [ht]
     by_cases c:i=j0
     ·subst c;rw [hu] at Ig;cases Ig;exact h1
     ·have h2:=g.drop b0 i j0 u u0 hu Ig hk0.symm (BS Nf c);rw [ht] at h2;exact ZM h1 h2
    ·lia
 next=>exact g
theorem zev (st:St) (o:Option ak) (word:Wd) (used:List Nat):Ext st (put st o word used):=by
 cases o with
 | none=>exact Ext.refl st
 | some w=>exact BG st w word used
def Imp (s s':St):Prop:=Ext s s'/\∀k u,k.2.1≠k.2.2->val s k=some u->∃u',val s' k=some u'/\¬dR k.1 u u'
theorem Av (b:Bool) (u:Int):¬dR b u u:=by unfold dR;split<;>exact Int.not_lt.mpr (jg u)
theorem Imp.refl (s:St):Imp s s:=⟨Ext.refl s,fun k u _ h=>⟨u,h,Av _ _⟩⟩
theorem Imp.trans (x:Imp a b) (y:Imp b c):Imp a c:=by refine ⟨x.1.trans y.1,fun k u hk h=>?_⟩;obtain ⟨u1,h1,n1⟩:=x.2 k u hk h;obtain ⟨u2,h2,n2⟩:=y.2 k u1 hk h1;exact ⟨u2,h2,KQ n1 n2⟩
theorem qj {w:ak} (h:s.best k=some i) (hw:ai s i=some w):val s k=some w.v:=by unfold val;rw [h];show (ai s i).map (·.v)=_;rw [hw];rfl
theorem FQ {w:ak} (h:ir st w):val (take st w word used) w.key=some w.v/\ai (take st w word used) st.rows.length=some w/\(take st w word used).rows.length=st.rows.length+1:=by
 have e:take st w word used={ rows:=st.rows++[⟨w,word,used⟩],best:=fun k=>if k=w.key then some st.rows.length else st.best k,bar:=if st.bar=none/\iX w then some st.rows.length else st.bar }:=by unfold take;rw [if_pos h]
 have hw:ai (take st w word used) st.rows.length=some w:=by rw [e];unfold ai;rw [mC (av _),Nat.sub_self];rfl
 refine ⟨qj (i:=st.rows.length) (by rw [e];show (if w.key=w.key then some st.rows.length else st.best w.key)=_;rw [if_pos rfl]) hw,hw,?_⟩;rw [e];show (st.rows++[_]).length=_;rw [iT];rfl
theorem xN {w:ak} (h:¬ir st w):take st w word used=st:=by unfold take;rw [if_neg h]
theorem Zf {w:ak} (hk:k≠w.key) (h:val st k=some u):val (take st w word used) k=some u:=by
 by_cases c:ir st w
 ·have e:=BG st w word used;unfold val at h ⊢;have hb:(take st w word used).best k=st.best k:=by
   unfold take;rw [if_pos c];show (if k=w.key then some st.rows.length else st.best k)=_;rw [if_neg hk]
  rw [hb]
  cases q:st.best k with
  | none=>rw [q] at h;cases h
  | some i=>
   rw [q] at h;have h:(ai st i).map (·.v)=some u:=h;show (ai (take st w word used) i).map (·.v)=some u
   cases q2:ai st i with
   | none=>rw [q2] at h;cases h
   | some r=>rw [cb e q2];rw [q2] at h;exact h
 ·rw [xN c];exact h
theorem QS (st:St) (w:ak) (word:Wd) (used:List Nat):Imp st (take st w word used):=by
 refine ⟨BG st w word used,fun k u hk h=>?_⟩
 by_cases c:k=w.key
 ·by_cases hn:ir st w
  ·have h2:=hn;unfold ir at h2;have:¬(w.tie=true/\w.a=w.b):=fun z=>hk (by rw [c];exact z.2);rw [if_neg this] at h2;have h3:=h2 u (by rw [<-c];exact h);refine ⟨w.v,by rw [c];exact (FQ hn).1,fun z=>?_⟩;rw [c] at z;exact SR h3 z
  ·rw [xN hn];exact ⟨u,h,Av _ _⟩
 ·exact ⟨u,Zf c h,Av _ _⟩
theorem Hs {w:ak} (h:w.a≠w.b):∃u,val (take st w word used) w.key=some u/\¬dR w.tie w.v u:=by
 by_cases c:ir st w
 ·exact ⟨w.v,(FQ c).1,Av _ _⟩
 ·rw [xN c];unfold ir at c;rw [if_neg fun z=>h z.2] at c;have c:=Classical.not_forall.mp c;obtain ⟨u,hu⟩:=c;have hu:=Classical.not_imp.mp hu;exact ⟨u,hu.1,hu.2⟩
theorem Sb {w:ak} (h:iX w):(take st w word used).bar≠none:=by
 have hn:ir st w:=by unfold ir;rw [if_pos ⟨h.1,h.2.1⟩];exact h.2.2
 unfold take;rw [if_pos hn];show (if st.bar=none/\iX w then some st.rows.length else st.bar)≠none
 by_cases c:st.bar=none
 ·rw [if_pos ⟨c,h⟩];simp
 ·rw [if_neg fun z=>c z.1];exact c
theorem PM (st:St) (o:Option ak) (word:Wd) (used:List Nat):Imp st (put st o word used):=by
 cases o with
 | none=>exact Imp.refl st
 | some w=>exact QS st w word used
theorem dE (hf:∀s j,Imp s (f s j)):∀(l:List Nat) (s:St),Imp s (l.foldl f s)
 | [],s=>Imp.refl s
 | j::l,s=>(hf s j).trans (dE hf l (f s j))
theorem gx (f:ak->Option ak) (word:Wd) (i:Nat) (s:St):Imp s (aH f word i s):=PM ..
theorem cQ (f:ak->ak->Option ak) (word:Wd) (i j:Nat) (s:St):Imp s (ao f word i j s):=PM ..
theorem ZF (n:Nat) (F:dh) (at_ a b:Nat) (s:St):Imp s (eD n F at_ a b s):=
 ((((gx _ _ _ _).trans (gx _ _ _ _)).trans (dE (fun _ _=>cQ ..) _ _)).trans (dE (fun _ _=>cQ ..) _ _)).trans (dE (fun _ _=>cQ ..) _ _)
theorem ZR (n:Nat) (F:dh) (at_ a:Nat) (s:St):Imp s (fU n F at_ a s):=
 ((gx _ _ _ _).trans (gx _ _ _ _)).trans (dE (fun _ _=>cQ ..) _ _)
theorem vT (n:Nat) (F:dh) (at_:Nat) (s:St):Imp s (look n F at_ s):=by
 unfold look;split
 ·split
  ·split
   ·exact ZF ..
   ·exact ZR ..
  ·exact Imp.refl s
 ·exact Imp.refl s
structure iE (n:Nat) (F:dh) (most:Int):Prop where
 lt:∀e f,F e=some f->f.1<n/\e<n
 own:∀e f,F e=some f->F f.1=none
 num:∀e f,F e=some f->1<=f.2.1/\f.2.1<=f.2.2/\f.2.2<=most
def tX (n:Nat) (w:ak):Prop:=w.a<n/\w.b<n/\(w.tie=false->w.a≠w.b)
theorem Ki (g:cq n st) (h:∀w,o=some w->tX n w):cq n (put st o word used):=by
 cases o with
 | none=>exact g
 | some w=>exact Se g (h w rfl).1 (h w rfl).2.1 (h w rfl).2.2
theorem oq (g:cq n s) (hf:∀p w,p.a<n->p.b<n->f p=some w->tX n w):cq n (aH f word i s):=by
 refine Ki g fun w h=>?_
 cases q:ai s i with
 | none=>rw [q] at h;cases h
 | some p=>
  rw [q] at h;have:=g.lt i p q;exact hf p w this.1 this.2 h
theorem xE (g:cq n s) (hf:∀p q w,p.a<n->p.b<n->q.a<n->q.b<n->f p q=some w->tX n w):cq n (ao f word i j s):=by
 refine Ki g fun w h=>?_
 cases e1:ai s i with
 | none=>rw [e1] at h;cases h
 | some p=>
  rw [e1] at h;have h:(ai s j).bind (fun q=>f p q)=some w:=h
  cases e2:ai s j with
  | none=>rw [e2] at h;cases h
  | some q=>
   rw [e2] at h;have h1:=g.lt i p e1;have h2:=g.lt j q e2;exact hf p q w h1.1 h1.2 h2.1 h2.2 h
theorem vV (hf:∀s j,cq n s->cq n (f s j)):∀(l:List Nat) (s:St),cq n s->cq n (l.foldl f s)
 | [],_,g=>g
 | j::l,s,g=>vV hf l (f s j) (hf s j g)
theorem B1 (p q w:ak) (h1:p.a<n) (_:p.b<n) (_:q.a<n) (h4:q.b<n) (h:az p q=some w):tX n w:=by
 unfold az at h;split at h
 ·cases h;exact ⟨h1,h4,fun z=>nomatch z⟩
 ·cases h
theorem BD (p w:ak) (h1:p.a<n) (h2:p.b<n) (h:dc F p=some w):tX n w:=by
 unfold dc at h;split at h
 next c=>
  cases q:F p.b with
  | none=>rw [q] at h;cases h
  | some f=>rw [q] at h;cases h;exact ⟨h1,h2,fun _=>c.2⟩
 ·cases h
theorem BF (hF:iE n F most) (p w:ak) (_:p.a<n) (h2:p.b<n) (h:dn F p=some w):tX n w:=by
 unfold dn at h;split at h
 ·cases q:F p.a with
  | none=>rw [q] at h;cases h
  | some f=>rw [q] at h;cases h;exact ⟨(hF.lt _ _ q).1,h2,fun z=>nomatch z⟩
 ·cases h
theorem FL (hF:iE n F most) (p w:ak) (h1:p.a<n) (_:p.b<n) (h:dt F p=some w):tX n w:=by
 unfold dt at h;split at h
 ·cases q:F p.b with
  | none=>rw [q] at h;cases h
  | some f=>rw [q] at h;cases h;exact ⟨h1,(hF.lt _ _ q).1,fun z=>nomatch z⟩
 ·cases h
theorem Kq (p q w:ak) (_:p.a<n) (h2:p.b<n) (h3:q.a<n) (_:q.b<n) (h:bj F p q=some w):tX n w:=by
 unfold bj at h;split at h
 next c=>
  cases e:F p.b with
  | none=>rw [e] at h;cases h
  | some f=>rw [e] at h;cases h;exact ⟨h3,h2,fun _=>c.2.2.2⟩
 ·cases h
theorem Hj (hF:iE n F most) (p w:ak) (_:p.a<n) (h2:p.b<n) (h:da F p=some w):tX n w:=by
 unfold da at h;split at h
 ·cases e:F p.a with
  | none=>rw [e] at h;cases h
  | some o=>
   rw [e] at h;have h:(F p.b).map (fun f=>(⟨false,o.1,p.b,min p.v f.2.2-o.2.1⟩:ak))=some w:=h
   cases e2:F p.b with
   | none=>rw [e2] at h;cases h
   | some f=>
    rw [e2] at h;cases h;refine ⟨(hF.lt _ _ e).1,h2,fun _ z=>?_⟩;have z:o.1=p.b:=z;have:=hF.own _ _ e;rw [z,e2] at this;cases this
 ·cases h
theorem YG (hF:iE n F most) (g:cq n s):cq n (look n F at_ s):=by
 unfold look;split
 ·split
  ·split
   ·refine vV (fun _ _ g=>xE g Kq) _ _ (vV (fun _ _ g=>xE g B1) _ _ (vV (fun _ _ g=>xE g B1) _ _ (oq (oq g BD) (BF hF))))
   ·exact vV (fun _ _ g=>xE g Kq) _ _ (oq (oq g (FL hF)) (Hj hF))
  ·exact g
 ·exact g
theorem Ah (hF:iE n F most) (g:cq n s):∀t,cq n (run n F s t)
 | 0=>g
 | t+1=>YG hF (Ah hF g t)
def Add (C:ak->Prop) (s s':St):Prop:=∀i w,s.rows.length<=i->ai s' i=some w->C w
theorem Add.refl (s:St):Add C s s:=fun i w h e=>absurd (oh e) (by exact Nat.not_lt_of_le h)
theorem Add.trans (x:Add C a b) (e:Ext b c) (y:Add C b c):Add C a c:=fun i w h hw=>by
 by_cases hi:i<b.rows.length
 ·have:∃w',ai b i=some w':=⟨_,by unfold ai;rw [lz hi];rfl⟩;obtain ⟨w',lj⟩:=this;have:=cb e lj;rw [hw] at this;cases this;exact x i w h lj
 ·exact y i w (by exact mh hi) hw
theorem QR {w:ak} (h:C w):Add C s (take s w word used):=fun i u hi hu=>by
 by_cases c:ir s w
 ·obtain ⟨_,h1,h2⟩:=FQ (word:=word) (used:=used) c;have:=oh hu;have e:i=s.rows.length:=by lia
  rw [e,h1] at hu;cases hu;exact h
 ·rw [xN c] at hu;exact absurd (oh hu) (by exact Nat.not_lt_of_le hi)
theorem sV (h:∀w,o=some w->C w):Add C s (put s o word used):=by
 cases o with
 | none=>exact Add.refl s
 | some w=>exact QR (h w rfl)
theorem xt (hp:ai s i=some p) (h:∀w,f p=some w->C w):Add C s (aH f word i s):=sV fun w e=>by rw [hp] at e;exact h w e
theorem JA (hp:ai s i=some p) (hq:ai s j=some q) (h:∀w,f p q=some w->C w):Add C s (ao f word i j s):=sV fun w e=>by rw [hp] at e;have e:(ai s j).bind (fun q=>f p q)=some w:=e;rw [hq] at e;exact h w e
theorem xW (hf:∀s j,Imp s (f s j)):∀(l:List Nat) (s0 s:St),Imp s0 s->(∀j∈l,∀s1,Imp s0 s1->Add C s1 (f s1 j))->Add C s (l.foldl f s)
 | [],_,s,_,_=>Add.refl s
 | j::l,s0,s,h0,h=>(h j dN s h0).trans (dE hf l (f s j)).1 (xW hf l s0 (f s j) (h0.trans (hf s j)) fun k hk=>h k (f_ _ hk))
theorem Kz (hf:∀s j,Imp s (f s j)):∀(l:List Nat) (s:St) (j:Nat),j∈l->∃s1,Imp s s1/\Imp (f s1 j) (l.foldl f s)
 | [],_,_,h=>nomatch h
 | k::l,s,j,h=>by
  rcases eh.mp h with e | h
  ·subst e;exact ⟨s,Imp.refl s,dE hf l (f s j)⟩
  ·obtain ⟨s1,h1,h2⟩:=Kz hf l (f s k) j h;exact ⟨s1,(hf s k).trans h1,h2⟩
theorem K6 (h:j∈cS n st tie a):∃b,b<n/\st.best (tie,a,b)=some j:=by obtain ⟨b,hb,e⟩:=tP.mp h;exact ⟨b,m9.mp hb,e⟩
theorem Hv (h:j∈d9 n st b):∃a,a<n/\st.best (true,a,b)=some j:=by obtain ⟨a,ha,e⟩:=tP.mp h;exact ⟨a,m9.mp ha,e⟩
theorem BI (g:cq n s) (h:val s k=some u):∃i w,s.best k=some i/\ai s i=some w/\w.key=k/\w.v=u:=by
 unfold val at h
 cases q:s.best k with
 | none=>rw [q] at h;cases h
 | some i=>
  obtain ⟨w,hw,hk⟩:=g.at_ k i q;rw [q] at h;have h:(ai s i).map (·.v)=some u:=h;rw [hw] at h;exact ⟨i,w,rfl,hw,hk,dM h⟩
theorem i_ {w:ak} {t:Bool} {a b:Nat} (h:w.key=(t,a,b)):w.tie=t/\w.a=a/\w.b=b:=by unfold ak.key at h;exact ⟨congrArg Prod.fst h,congrArg (fun z=>z.2.1) h,congrArg (fun z=>z.2.2) h⟩
theorem sR (g:cq n s) (hb:s.bar=none) (h:val s (t,a,b)=some u):a≠b/\a<n/\b<n:=by obtain ⟨i,w,_,hw,hk,_⟩:=BI g h;obtain ⟨_,h2,h3⟩:=i_ hk;have h4:=g.ne hb i w hw;have h5:=g.lt i w hw;rw [h2,h3] at h4;rw [h2,h3] at h5;exact ⟨h4,h5⟩
theorem Qd {n:Nat} {F:dh} {most:Int} (hF:iE n F most) {s:St} (g:cq n s) {at_ a b c:Nat} {p:ak} {u:Int} (hp:ai s at_=some p) (pt:p.tie=true) (pa:p.a=a) (pb:p.b=b) (hu:val s (true,b,c)=some u) (zu:b≠c) (hc:c<n):
 (a≠c->∃x,x<=p.v+u/\val (eD n F at_ a b s) (true,a,c)=some x)/\(a=c->p.v+u<0->(eD n F at_ a b s).bar≠none):=by
 have i2:Imp s (aH (dn F) .bp at_ (aH (dc F) .aD at_ s)):=(gx _ _ _ _).trans (gx _ _ _ _);have g2:cq n (aH (dn F) .bp at_ (aH (dc F) .aD at_ s)):=oq (oq g BD) (BF hF);unfold eD;dsimp only;generalize aH (dn F) .bp at_ (aH (dc F) .aD at_ s)=s2 at*;obtain ⟨u2,yT,nb⟩:=i2.2 (true,b,c) u zu hu;have hle:u2<=u:=by unfold dR at nb;simp at nb;exact nb
 obtain ⟨j,q,hj,hq,hqk,hqv⟩:=BI g2 yT;obtain ⟨qt,qa,qb⟩:=i_ hqk;have eF:j∈cS n s2 true b:=tP.mpr ⟨c,m9.mpr hc,hj⟩;obtain ⟨s3,i3,VC⟩:=Kz (f:=fun st j=>ao az .sum at_ j st) (fun _ _=>cQ ..) _ s2 j eF;have lT:=cb (i2.1.trans i3.1) hp;have hq3:=cb i3.1 hq;have hw:az p q=some ⟨true,a,c,p.v+u2⟩:=by unfold az;rw [if_pos ⟨pt,qt,by rw [pb,qa]⟩,pa,qb,hqv]
 have hd:ao az .sum at_ j s3=take s3 ⟨true,a,c,p.v+u2⟩ .sum [at_,j]:=by unfold ao;rw [lT];show put s3 ((ai s3 j).bind fun q=>az p q) .sum [at_,j]=_;rw [hq3];show put s3 (az p q) .sum [at_,j]=_;rw [hw];rfl
 rw [hd] at VC;have iZ:=VC.trans ((dE (f:=fun st j=>ao az .sum j at_ st) (fun _ _=>cQ ..) (d9 n ((cS n s2 true b).foldl (fun st j=>ao az .sum at_ j st) s2) a) _).trans (dE (f:=fun st j=>ao (bj F) .back j at_ st) (fun _ _=>cQ ..) (cS n ((d9 n ((cS n s2 true b).foldl (fun st j=>ao az .sum at_ j st) s2) a).foldl (fun st j=>ao az .sum j at_ st) ((cS n s2 true b).foldl (fun st j=>ao az .sum at_ j st) s2)) false b) _));refine ⟨fun wN=>?_,fun wN aF=>?_⟩
 ·obtain ⟨x,hx,nx⟩:=Hs (st:=s3) (word:=.sum) (used:=[at_,j]) (w:=⟨true,a,c,p.v+u2⟩) wN;obtain ⟨y,hy,ny⟩:=iZ.2 (true,a,c) x wN hx;refine ⟨y,?_,hy⟩;unfold dR at nx ny;simp at nx ny;lia
 ·exact iZ.1.bar (Sb ⟨rfl,wN,by show p.v+u2<0;lia⟩)
theorem QU (hF:iE n F most) (g:cq n s) (hp:ai s at_=some p) (pt:p.tie=false) (pa:p.a=a)
 (hB:∀x v,val (fU n F at_ a s) (true,x,a)=some v->-B<=v) (IE:0<=B) (bC:(fU n F at_ a s).bar=none):
 Add (fun w=>(w.tie=true->-most<=w.v)/\(w.tie=false->w.v<=most+B)) s (fU n F at_ a s):=by
 unfold fU at hB bC ⊢;dsimp only at hB bC ⊢;have g1:cq n (aH (dt F) .sure at_ s):=oq g (FL hF);have i1:Imp s (aH (dt F) .sure at_ s):=gx _ _ _ _;have A1:Add (fun w=>(w.tie=true->-most<=w.v)/\(w.tie=false->w.v<=most+B)) s (aH (dt F) .sure at_ s):=xt hp fun w e=>by
  unfold dt at e;rw [if_pos pt] at e
  cases q:F p.b with
  | none=>rw [q] at e;cases e
  | some f=>
   rw [q] at e;cases e;have:=hF.num _ _ q;refine ⟨fun _=>?_,nofun⟩
   show-most<=-min p.v f.2.1
   lia
 generalize aH (dt F) .sure at_ s=s1 at*;have iL:=cb i1.1 hp;have g2:cq n (aH (da F) .aw at_ s1):=oq g1 (Hj hF);have i2:Imp s1 (aH (da F) .aw at_ s1):=gx _ _ _ _;have A2:Add (fun w=>(w.tie=true->-most<=w.v)/\(w.tie=false->w.v<=most+B)) s1 (aH (da F) .aw at_ s1):=xt iL fun w e=>by
  unfold da at e;split at e
  ·cases q:F p.a with
   | none=>rw [q] at e;cases e
   | some o=>
    rw [q] at e;have e:(F p.b).map (fun f=>(⟨false,o.1,p.b,min p.v f.2.2-o.2.1⟩:ak))=some w:=e
    cases q2:F p.b with
    | none=>rw [q2] at e;cases e
    | some f=>
     rw [q2] at e;cases e;have h1:=hF.num _ _ q;have h2:=hF.num _ _ q2;refine ⟨nofun,fun _=>?_⟩;show min p.v f.2.2-o.2.1<=most+B;omega
  ·cases e
 generalize aH (da F) .aw at_ s1=s2 at*;have iR:=cb i2.1 iL;have i3:Imp s2 ((d9 n s2 a).foldl (fun st j=>ao (bj F) .back at_ j st) s2):=dE (fun _ _=>cQ ..) _ _;have b2:=f9 fun z=>i3.1.bar z bC;have A3:Add (fun w=>(w.tie=true->-most<=w.v)/\(w.tie=false->w.v<=most+B)) s2 ((d9 n s2 a).foldl (fun st j=>ao (bj F) .back at_ j st) s2):=xW (f:=fun st j=>ao (bj F) .back at_ j st) (fun _ _=>cQ ..) _ s2 s2 (Imp.refl _) fun j hj sx hx=>by
  obtain ⟨c,_,d8⟩:=Hv hj;obtain ⟨q,hq,hk⟩:=g2.at_ _ _ d8;obtain ⟨_,qa,qb⟩:=i_ hk;have y8:=g2.ne b2 j q hq;rw [qa,qb] at y8;obtain ⟨v',eO,nb⟩:=i3.2 (true,c,a) q.v y8 (qj d8 hq);have rN:=hB c v' eO;unfold dR at nb;simp at nb;refine JA (cb hx.1 iR) (cb hx.1 hq) fun w e=>?_;unfold bj at e;split at e
  ·cases z:F p.b with
   | none=>rw [z] at e;cases e
   | some f=>
    rw [z] at e;cases e;have h2:=hF.num _ _ z;refine ⟨nofun,fun _=>?_⟩;show min p.v f.2.2-q.v<=most+B;lia
  ·cases e
 exact (A1.trans i2.1 A2).trans i3.1 A3
theorem PR (t:Nat):∀d,Imp (run n F s t) (run n F s (t+d))
 | 0=>Imp.refl _
 | d+1=>(PR t d).trans (vT n F (t+d) _)
theorem u4 (h:t<=t'):Imp (run n F s t) (run n F s t'):=by
 have:=PR (n:=n) (F:=F) (s:=s) t (t'-t)
 rwa [show t+(t'-t)=t' by exact m_ h] at this
section
def pt (n:Nat) (F:dh) (s0:St) (t a b:Nat):Prop:=∃w,ai (run n F s0 t) t=some w/\w.tie=true/\w.a=a/\w.b=b/\(run n F s0 t).best (true,a,b)=some t
theorem FD {w:ak} (hw:ai s t=some w) (ht:w.tie=true) (ha:w.a=a) (hb:w.b=b) (d8:s.best (true,a,b)=some t):look n F t s=eD n F t a b s:=by
 unfold look;rw [hw];have hk:w.key=(true,a,b):=by unfold ak.key;rw [ht,ha,hb]
 dsimp only;rw [hk,if_pos d8,if_pos ht,ha,hb]
theorem JS (g:cq n s) (g':cq n s') (e:Ext s s') (h:val s' k≠val s k):∃j w,s.rows.length<=j/\ai s' j=some w/\w.key=k/\val s' k=some w.v:=by
 rcases e.best k with hb | ⟨j,hj,hlen⟩
 ·exfalso;apply h;unfold val;rw [hb]
  cases q:s.best k with
  | none=>rfl
  | some i=>
   show (ai s' i).map (·.v)=(ai s i).map (·.v);obtain ⟨w,hw,_⟩:=g.at_ k i q;rw [hw,cb e hw]
 ·obtain ⟨w,hw,hk⟩:=g'.at_ k j hj;exact ⟨j,w,hlen,hw,hk,qj hj hw⟩
theorem Ro (h:t<=t') (g:cq n (run n F s0 t)) (hi:(run n F s0 t).best k=some i) (hj:(run n F s0 t').best k=some j):i<=j:=by
 rcases (u4 (n:=n) (F:=F) (s:=s0) h).1.best k with e | ⟨j',e,hl⟩
 ·rw [e,hi] at hj;cases hj;exact av _
 ·rw [e] at hj;cases hj;obtain ⟨w,hw,_⟩:=g.at_ k i hi;exact dq (aS (oh hw)) hl
theorem Z9 (h:t<=t') (g:cq n (run n F s0 t)) (g':cq n (run n F s0 t')) (bC:(run n F s0 t').bar=none) (hi:(run n F s0 t).best k=some i) (hj:(run n F s0 t').best k=some j) (cK:i≠j):val (run n F s0 t') k≠val (run n F s0 t) k:=by obtain ⟨w,hw,hk⟩:=g.at_ k i hi;obtain ⟨w',lj,pJ⟩:=g'.at_ k j hj;have hle:=Ro h g hi hj;have:=g'.drop bC i j w w' (cb (u4 h).1 hw) lj (hk.trans pJ.symm) (BS hle cK);rw [qj hi hw,qj hj lj];intro e;have e:w'.v=w.v:=dM e;rw [e] at this;exact Av _ _ this
end
theorem K7 (hp:ai s t=some p) (ht:p.tie=false) (hb:s.best p.key=some t):look n F t s=fU n F t p.a s:=by unfold look;rw [hp];dsimp only;rw [if_pos hb,if_neg (by rw [ht];decide)]
theorem RE (hp:ai s t=some p) (hb:s.best p.key≠some t):look n F t s=s:=by unfold look;rw [hp];dsimp only;rw [if_neg hb]
end MU
open MU (ak dc dn az dt bj da iX iE Row cq ir val dR take ai cS d9 eD fU aH cb zev ao Hv i_ Ext K6)
namespace MH
theorem IX:∀(M N:Nat) (f:Nat->Nat),(∀i,i<N->f i<M)->(∀i j,i<j->j<N->f i≠f j)->N<=M
 | 0,N,f,h,_=>by
  cases N with
  | zero=>exact av _
  | succ N=>exact absurd (h 0 (Nat.succ_pos _)) (oR _)
 | M+1,N,f,h,hi=>by
  by_cases c:∃p,p<N/\f p=M
  ·obtain ⟨p,hp,ep⟩:=c;have k:=IX M (N-1) (fun i=>f (if i<p then i else i+1)) (fun i iS=>by
    have h1:(if i<p then i else i+1)<N:=by split<;>lia
    have h2:=h _ h1;have h3:f (if i<p then i else i+1)≠M:=fun z=>by
     by_cases c:i<p
     ·rw [if_pos c] at z;exact hi i p c hp (z.trans ep.symm)
     ·rw [if_neg c] at z;exact hi p (i+1) (by lia) (by lia) (ep.trans z.symm)
    show f (if i<p then i else i+1)<M;exact tj h2 h3) (fun i j dz hj=>by
    show f (if i<p then i else i+1)≠f (if j<p then j else j+1);refine hi _ _ ?_ ?_
    ·split<;>split<;>lia
    ·split<;>lia)
   exact RG k
  ·have k:=IX M N f (fun i iS=>by
    have h1:=h i iS;have h2:f i≠M:=fun z=>c ⟨i,iS,z⟩;exact tj h1 h2) hi
   exact iN k
open Classical in
def cnt (P:Nat->Prop):Nat->Nat
 | 0=>0
 | N+1=>cnt P N+if P N then 1 else 0
theorem qf {P:Nat->Prop} (h:P N):cnt P (N+1)=cnt P N+1:=by rw [cnt,if_pos h]
theorem uq {P:Nat->Prop} (h:¬P N):cnt P (N+1)=cnt P N:=by rw [cnt,if_neg h,Nat.add_zero]
theorem QH (P:Nat->Prop):∀N,∃e:Nat->Nat,(∀i,i<cnt P N->P (e i)/\e i<N)/\∀i j,i<j->j<cnt P N->e i<e j
 | 0=>⟨fun i=>i,fun i h=>absurd h (oR _),fun i j _ h=>absurd h (oR _)⟩
 | N+1=>by
  obtain ⟨e,h1,h2⟩:=QH P N
  by_cases c:P N
  ·have ec:cnt P (N+1)=cnt P N+1:=qf c;refine ⟨fun i=>if i<cnt P N then e i else N,fun i _=>?_,fun i j dz hj=>?_⟩
   ·by_cases d:i<cnt P N
    ·show P (if i<cnt P N then e i else N)/\(if i<cnt P N then e i else N)<N+1;rw [if_pos d];have:=h1 i d;exact ⟨this.1,Kw this.2⟩
    ·show P (if i<cnt P N then e i else N)/\(if i<cnt P N then e i else N)<N+1;rw [if_neg d];exact ⟨c,by exact f7⟩
   ·show (if i<cnt P N then e i else N)<(if j<cnt P N then e j else N);rw [if_pos (show i<cnt P N by lia)]
    by_cases d:j<cnt P N
    ·rw [if_pos d];exact h2 i j dz d
    ·rw [if_neg d];exact (h1 i (by lia)).2
  ·have ec:cnt P (N+1)=cnt P N:=uq c;rw [ec];exact ⟨e,fun i hi=>⟨(h1 i hi).1,by have:=(h1 i hi).2;exact iN this⟩,h2⟩
theorem zD6 {P:Nat->Prop} (code:Nat->Nat) (h:∀i,i<N->P i->code i<M) (hi:∀i j,i<j->j<N->P i->P j->code i≠code j):cnt P N<=M:=by obtain ⟨e,h1,h2⟩:=QH P N;exact IX M (cnt P N) (fun i=>code (e i)) (fun i z=>h _ (h1 i z).2 (h1 i z).1) fun i j dz hj=>hi _ _ (h2 i j dz hj) (h1 j hj).2 (h1 i (GG dz hj)).1 (h1 j hj).1
theorem I_ {P Q R:Nat->Prop} (h:∀i,P i->Q i\/R i):∀N,cnt P N<=cnt Q N+cnt R N
 | 0=>av _
 | N+1=>by
  have ih:=I_ h N;have hq:cnt Q N<=cnt Q (N+1):=by
   by_cases c:Q N
   ·rw [qf c];exact iN f7
   ·rw [uq c];exact f7
  have hr:cnt R N<=cnt R (N+1):=by
   by_cases c:R N
   ·rw [qf c];exact iN f7
   ·rw [uq c];exact f7
  by_cases c:P N
  ·rw [qf c];rcases h N c with q | q
   ·rw [qf q];lia
   ·rw [qf q];lia
  ·rw [uq c];lia
theorem Ae:∀(N:Nat) (l:List Nat),l.Nodup->(∀z∈l,z<N)->l.length<=N
 | 0,l,_,h=>by
  cases l with
  | nil=>exact av _
  | cons x t=>exact absurd (h x dN) (oR _)
 | N+1,l,hn,h=>by
  by_cases c:N∈l
  ·have k:=Ae N (l.erase N) (hn.erase N) (fun z hz=>by
    have h1:=h z (List.mem_of_mem_erase hz);have h2:z≠N:=fun e=>by rw [e] at hz;exact (hn.mem_erase_iff.mp hz).1 rfl
    exact tj h1 h2)
   rw [List.length_erase_of_mem c] at k;exact RG k
  ·have k:=Ae N l hn (fun z hz=>by
    have h1:=h z hz;have h2:z≠N:=fun e=>c (e▸hz);exact tj h1 h2)
   exact iN k
end MH
set_option linter.unusedVariables false
namespace MH
structure Bd (n:Nat) (L most:Int) (T:Nat) (len:Nat->Nat) (m w:Nat->Nat->Nat->Option Int) (pt pw:Nat->Nat->Nat->Prop):Prop where
 n8:n<=8
 L0:0<=L
 C0:0<=most
 go:∀t,t<T->t<len t
 yO:∀t,t<T->len t<=len (t+1)
 lt:∀t a b v,t<=T->m t a b=some v->a<n/\b<n/\a≠b
 known:∀t a b,t<T->pt t a b->∃v,m t a b=some v
 jr:∀t a b,t<T->pw t a b->a<n/\b<n/\a≠b/\∃v,w t a b=some v
 mono:∀t a b v,t<T->m t a b=some v->∃v',v'<=v/\m (t+1) a b=some v'
 Cc:∀t a b v,t<T->w t a b=some v->∃v',v<=v'/\w (t+1) a b=some v'
 told:∀i,0<i->i<n->(∃v,v<=L/\m 0 0 i=some v)/\∃v,v<=0/\m 0 i 0=some v
 we:∀a b,w 0 a b=none
 sum:∀t a b c v u,t<T->pt t a b->m t a b=some v->m t b c=some u->a≠c->∃x,x<=v+u/\m (t+1) a c=some x
 bar:∀t a b v u,t<T->pt t a b->m t a b=some v->m t b a=some u->0<=v+u
 one:∀t a b a' b',t<T->pt t a b->pt t a' b'->a=a'/\b=b'
 LN:∀t a b a' b',t<T->pw t a b->pw t a' b'->a=a'/\b=b'
 apart:∀t a b a' b',t<T->pt t a b->¬pw t a' b'
 cause:∀t a b,t<T->m (t+1) a b≠m t a b->(∃c v q y,pt t a c/\c≠b/\m t a c=some v/\m t c b=some q/\m (t+1) a b=some y/\v+q<=y)\/(∃c,pt t c b/\c≠a)\/∃e y,pw t a e/\m (t+1) a b=some y/\-most<=y
 aD:∀t a b e v v',t<T->pt t a b->m t a b=some v->t<=e->e<T->pw e a b->w e a b=some v'->1-v<=v'
 qM:∀t a b B,t<T->0<=B->(∀x y v,m (t+1) x y=some v->-B<=v)->w (t+1) a b≠w t a b->∃y,w (t+1) a b=some y/\y<=most+B
 grow:∀t,t<T->len (t+1)<=len t+20
 wQ:∀t,t<T->(∀a b,¬pt t a b)->len (t+1)<=len t+8
 wR:∀t,t<T->(∀a b,¬pt t a b)->(∀a b,¬pw t a b)->len (t+1)=len t
 eW:∀t0 t a b v,t<=T->len t0<=t->t0<=t->m t0 a b=some v->m t a b=some v->∃s,s<t/\pt s a b/\m s a b=some v
 drop:∀t t' a b v v',t<t'->t'<T->pt t a b->pt t' a b->m t a b=some v->m t' a b=some v'->v'<v
 wg:∀t t' a b v v',t<t'->t'<T->pw t a b->pw t' a b->w t a b=some v->w t' a b=some v'->v<v'
 once:∀t t' a b,t<t'->t'<T->pt t a b->pt t' a b->len t<=t'
 o4:∀t t' a b,t<t'->t'<T->pw t a b->pw t' a b->len t<=t'
section
variable {m w:Nat->Nat->Nat->Option Int}
def Kn (m:Nat->Nat->Nat->Option Int) (t a b:Nat) (x:Int):Prop:=∃v,v<=x/\m t a b=some v
theorem Kn.le (h:Kn m t a b x) (hx:x<=y):Kn m t a b y:=by obtain ⟨v,h1,h2⟩:=h;exact ⟨v,o_ h1 hx,h2⟩
theorem Bd.oA (R:Bd n L most T len m w pt pw) (h:m t a b=some v):∀d,t+d<=T->∃v',v'<=v/\m (t+d) a b=some v'
 | 0,_=>⟨v,jg _,h⟩
 | d+1,hd=>by obtain ⟨v1,h1,e1⟩:=R.oA h d (by exact aS hd);obtain ⟨v2,h2,e2⟩:=R.mono _ _ _ _ (by exact hd) e1;exact ⟨v2,o_ h2 h1,e2⟩
theorem Bd.lL (R:Bd n L most T len m w pt pw) (h:m t a b=some v) (ht:t<=t') (hT:t'<=T):∃v',v'<=v/\m t' a b=some v':=by obtain ⟨v',h1,h2⟩:=R.oA h (t'-t) (GH ht hT);rw [show t+(t'-t)=t' by exact m_ ht] at h2;exact ⟨v',h1,h2⟩
theorem Bd.kn (R:Bd n L most T len m w pt pw) (h:Kn m t a b x) (ht:t<=t') (hT:t'<=T):Kn m t' a b x:=by obtain ⟨v,h1,h2⟩:=h;obtain ⟨v',h3,h4⟩:=R.lL h2 ht hT;exact ⟨v',o_ h3 h1,h4⟩
theorem Bd.same (R:Bd n L most T len m w pt pw) (h:m t a b=some v) (h':m t' a b=some v) (h1:t<=s) (h2:s<=t') (hT:t'<=T):m s a b=some v:=by obtain ⟨v1,l1,e1⟩:=R.lL h h1 (uv h2 hT);obtain ⟨v2,l2,e2⟩:=R.lL e1 h2 hT;rw [h'] at e2;cases e2;rw [e1,show v1=v by lia]
def i9 (m:Nat->Nat->Nat->Option Int) (t x:Nat):Int:=(m t x 0).getD 0
theorem Bd.cW (R:Bd n L most T len m w pt pw) (hx:0<x) (hn:x<n) (ht:t<=T):m t x 0=some (i9 m t x)/\i9 m t x<=0:=by obtain ⟨v,h1,h2⟩:=(R.told x hx hn).2;obtain ⟨v',h3,h4⟩:=R.lL h2 (dP t) ht;unfold i9;rw [h4];exact ⟨rfl,by show v'<=0;exact o_ h3 h1⟩
theorem Bd.dF (R:Bd n L most T len m w pt pw) (hx:0<x) (hn:x<n) (ht:t<T):i9 m (t+1) x<=i9 m t x:=by obtain ⟨v,h1,h2⟩:=R.mono _ _ _ _ ht (R.cW hx hn (aS ht)).1;have:=(R.cW (t:=t+1) hx hn ht).1;rw [h2] at this;have:=dM this;lia
theorem Bd.o7 (R:Bd n L most T len m w pt pw) (hx:0<x) (hn:x<n) (ht:t<=T):Kn m t 0 x L:=by obtain ⟨v,h1,h2⟩:=(R.told x hx hn).1;exact R.kn ⟨v,h1,h2⟩ (dP t) ht
def mE (n:Nat) (L:Int) (m:Nat->Nat->Nat->Option Int) (t x:Nat):Prop:= -L<=i9 m t x/\∀z,0<z->z<n->z≠x->Kn m t x z (i9 m t x+max L (-i9 m t z))
def zV (n:Nat) (m:Nat->Nat->Nat->Option Int) (t x:Nat) (l:List Nat):Prop:=l.Nodup/\x∈l/\(∀z∈l,0<z/\z<n)/\∀z∈l,z≠x->Kn m t x z (i9 m t x-i9 m t z)
theorem mE.next (R:Bd n L most T len m w pt pw) (hx:0<x) (hn:x<n) (ht:t<T) (h:mE n L m t x) (e:m (t+1) x 0=m t x 0):mE n L m (t+1) x:=by
 have er:i9 m (t+1) x=i9 m t x:=by unfold i9;rw [e]
 refine ⟨by rw [er];exact h.1,fun z h1 h2 h3=>?_⟩;have hz:=R.dF h1 h2 ht;rw [er];exact (R.kn (h.2 z h1 h2 h3) (oS t) ht).le (by omega)
theorem zV.next (R:Bd n L most T len m w pt pw) (ht:t<T) (h:zV n m t x l) (e:m (t+1) x 0=m t x 0):zV n m (t+1) x l:=by
 have er:i9 m (t+1) x=i9 m t x:=by unfold i9;rw [e]
 obtain ⟨h1,h2,h3,h4⟩:=h;refine ⟨h1,h2,h3,fun z hz cK=>?_⟩;have:=R.dF (h3 z hz).1 (h3 z hz).2 ht;rw [er];exact (R.kn (h4 z hz cK) (oS t) ht).le (by lia)
theorem mE.Cd (R:Bd n L most T len m w pt pw) (hx:0<x) (hn:x<n) (h:mE n L m s x):∀d,s+d<=T->m (s+d) x 0=m s x 0->mE n L m (s+d) x
 | 0,_,_=>h
 | d+1,hd,e=>by have h1:=(R.cW (t:=s) hx hn (by lia)).1;have h2:m (s+(d+1)) x 0=some (i9 m s x):=e.trans h1;have h3:=R.same h1 h2 (s:=s+d) jQ (by exact iN f7) hd;exact mE.next R (t:=s+d) hx hn (by exact hd) (mE.Cd R hx hn h d (by exact aS hd) (h3.trans h1.symm)) (h2.trans h3.symm)
theorem Bd.looked (R:Bd n L most T len m w pt pw) (hs:s<T) (h:pt s x 0) (hx:0<x) (hn:x<n) (e:m (s+1) x 0=m s x 0):mE n L m (s+1) x:=by
 obtain ⟨h1,_⟩:=R.cW (t:=s) hx hn (aS hs);have er:i9 m (s+1) x=i9 m s x:=by unfold i9;rw [e]
 obtain ⟨p,iL,iR⟩:=R.o7 hx hn (aS hs);have hb:=R.bar _ _ _ _ _ hs h h1 iR;refine ⟨by rw [er];lia,fun z z1 z2 z3=>?_⟩;obtain ⟨q,Ii,yX⟩:=R.o7 z1 z2 (aS hs);obtain ⟨y,hy,ey⟩:=R.sum _ _ _ _ _ _ hs h h1 yX (aB z3);refine ⟨y,?_,ey⟩;rw [er];lia
theorem Bd.yp (R:Bd n L most T len m w pt pw) (hx:0<x) (hn:x<n) (ht:t<=T) (h0:len t0<=t) (h1:t0<=t) (e:m t x 0=m t0 x 0):mE n L m t x:=by have hr:=(R.cW (t:=t) hx hn ht).1;obtain ⟨s,hs,hp,hv⟩:=R.eW t0 t x 0 _ ht h0 h1 (e.symm.trans hr) hr;have e1:=R.same hv hr (s:=s+1) (by exact iN f7) (by exact hs) ht;have hf:=R.looked (gM hs ht) hp hx hn (e1.trans hv.symm);have:=mE.Cd R hx hn hf (t-(s+1)) (by lia);rw [show s+1+(t-(s+1))=t by omega] at this;exact this (hr.trans e1.symm)
theorem Bd.over (R:Bd n L most T len m w pt pw) (ht:t<T) (hx:0<x) (hn:x<n) (hc:c≠0) (hp:pt t x c) (hv:m t x c=some v) (hq:m t c 0=some q) (hy:m (t+1) x 0=some y) (hle:v+q<=y) (cK:m (t+1) x 0≠m t x 0):
 c<n/\c≠x/\i9 m t c=q/\i9 m (t+1) x=v+q/\i9 m (t+1) x<i9 m t x/\i9 m (t+1) c<=q:=by
 obtain ⟨_,l2,l3⟩:=R.lt _ _ _ _ (aS ht) hv;have jy:=(R.cW (t:=t) (x:=c) (s_ hc) l2 (aS ht)).1;rw [hq] at jy;have eq:=dM jy;obtain ⟨z,hz,ez⟩:=R.sum _ _ _ _ _ _ ht hp hv hq (show x≠0 by exact Nat.ne_of_gt hx);rw [hy] at ez;have VE:=(R.cW (t:=t+1) hx hn ht).1;rw [hy] at VE;have ey:=dM VE;have rG:=(R.cW (t:=t) hx hn (aS ht)).1;have hmn:=R.dF hx hn ht;have IA:=R.dF (x:=c) (s_ hc) l2 ht;refine ⟨l2,aB l3,eq.symm,by lia,?_,by lia⟩;have:i9 m (t+1) x≠i9 m t x:=fun z=>cK (by rw [rG,hy,<-z,ey]);lia
theorem Bd.qT (R:Bd n L most T len m w pt pw) (ht:t<T) (hx:0<x) (hn:x<n) (hc:c≠0) (hp:pt t x c) (hv:m t x c=some v) (hq:m t c 0=some q) (hy:m (t+1) x 0=some y) (hle:v+q<=y) (cK:m (t+1) x 0≠m t x 0) (h:mE n L m t c):mE n L m (t+1) x:=by
 obtain ⟨IA,N0,eq,er,aF,zq⟩:=R.over ht hx hn hc hp hv hq hy hle cK;obtain ⟨f1,f2⟩:=h;obtain ⟨u,hu,eu⟩:=f2 x hx hn (aB N0);have hb:=R.bar _ _ _ _ _ ht hp hv eu;rw [eq] at hu;refine ⟨by lia,fun z h1 h2 h3=>?_⟩;have hz:=R.dF h1 h2 ht
 by_cases e:z=c
 ·subst e;obtain ⟨v',eO,OE⟩:=R.mono _ _ _ _ ht hv;exact ⟨v',by omega,OE⟩
 ·obtain ⟨u',lq,OF⟩:=f2 z h1 h2 e;obtain ⟨x',rG,IG⟩:=R.sum _ _ _ _ _ _ ht hp hv OF (aB h3);rw [eq] at lq;exact ⟨x',by omega,IG⟩
theorem Bd.ph (R:Bd n L most T len m w pt pw) (ht:t<T) (hx:0<x) (hn:x<n) (hc:c≠0) (hp:pt t x c) (hv:m t x c=some v) (hq:m t c 0=some q) (hy:m (t+1) x 0=some y) (hle:v+q<=y) (cK:m (t+1) x 0≠m t x 0) (h:zV n m t c l):zV n m (t+1) x (x::l):=by
 obtain ⟨IA,N0,eq,er,aF,zq⟩:=R.over ht hx hn hc hp hv hq hy hle cK;obtain ⟨g1,g2,g3,g4⟩:=h;have hxl:x∉l:=fun z=>by obtain ⟨u,hu,eu⟩:=g4 x z (aB N0);have hb:=R.bar _ _ _ _ _ ht hp hv eu;rw [eq] at hu;lia
 refine ⟨List.nodup_cons.mpr ⟨hxl,g1⟩,dN,fun z hz=>?_,fun z hz vn=>?_⟩
 ·rcases eh.mp hz with rfl | hz
  ·exact ⟨hx,hn⟩
  ·exact g3 z hz
 ·rcases eh.mp hz with e | hz
  ·exact absurd e vn
  ·have hzr:=R.dF (g3 z hz).1 (g3 z hz).2 ht
   by_cases e:z=c
   ·subst e;obtain ⟨v',eO,OE⟩:=R.mono _ _ _ _ ht hv;exact ⟨v',by lia,OE⟩
   ·obtain ⟨u',lq,OF⟩:=g4 z hz e;obtain ⟨x',rG,IG⟩:=R.sum _ _ _ _ _ _ ht hp hv OF (aB vn);rw [eq] at lq;exact ⟨x',by lia,IG⟩
def gen (len:Nat->Nat):Nat->Nat
 | 0=>0
 | g+1=>len (gen len g)
def ye (n:Nat) (most:Int) (m:Nat->Nat->Nat->Option Int) (pt:Nat->Nat->Nat->Prop) (t:Nat):Prop:=(∃c,pt t c 0)\/∃x y,0<x/\x<n/\m (t+1) x 0=some y/\m (t+1) x 0≠m t x 0/\-most<=y
def xY (n:Nat) (L:Int) (m:Nat->Nat->Nat->Option Int) (k t0 t:Nat):Prop:=∀x,0<x->x<n->mE n L m t x\/∃l,zV n m t x l/\(k+1<=l.length\/(k<=l.length/\m t x 0=m t0 x 0))
theorem Bd.pO (R:Bd n L most T len m w pt pw) (ht:t<T) (hs:¬ye n most m pt t) (h:xY n L m k t0 t):xY n L m k t0 (t+1):=fun x hx hn=>by
 by_cases e:m (t+1) x 0=m t x 0
 ·rcases h x hx hn with f | ⟨l,c,hl⟩
  ·exact .inl (f.next R hx hn ht e)
  ·refine .inr ⟨l,c.next R ht e,?_⟩;rcases hl with hl | ⟨hl,e0⟩
   ·exact .inl hl
   ·exact .inr ⟨hl,e.trans e0⟩
 ·rcases R.cause t x 0 ht e with ⟨c,v,q,y,hp,hc,hv,hq,hy,hle⟩ | ⟨c,hp,_⟩ | ⟨e',y,_,hy,rN⟩
  ·obtain ⟨IA,_⟩:=R.over ht hx hn hc hp hv hq hy hle e;rcases h c (s_ hc) IA with f | ⟨l,ch,hl⟩
   ·exact .inl (R.qT ht hx hn hc hp hv hq hy hle e f)
   ·refine .inr ⟨x::l,R.ph ht hx hn hc hp hv hq hy hle e ch,.inl ?_⟩;rw [mf];rcases hl with hl | ⟨hl,_⟩<;>lia
  ·exact absurd (.inl ⟨c,hp⟩) hs
  ·exact absurd (.inr ⟨x,y,hx,hn,hy,e,rN⟩) hs
theorem Bd.l_ (R:Bd n L most T len m w pt pw) (hs:∀t,t0<=t->t<len t0->¬ye n most m pt t) (h:xY n L m k t0 t0):∀d,t0+d<=T->t0+d<=len t0->xY n L m k t0 (t0+d)
 | 0,_,_=>h
 | d+1,h1,h2=>R.pO (t:=t0+d) (by exact h1) (hs (t0+d) jQ (by exact h2)) (R.l_ hs h d (by exact aS h1) (by exact aS h2))
theorem Bd.pP (R:Bd n L most T len m w pt pw) (h0:t0<=len t0) (hT:len t0<=T) (hs:∀t,t0<=t->t<len t0->¬ye n most m pt t) (h:xY n L m k t0 t0):xY n L m (k+1) (len t0) (len t0):=fun x hx hn=>by
 have:=R.l_ hs h (len t0-t0) (GH h0 hT) (BM h0);rw [show t0+(len t0-t0)=len t0 by exact m_ h0] at this;rcases this x hx hn with f | ⟨l,c,hl⟩
 ·exact .inl f
 ·rcases hl with hl | ⟨_,e⟩
  ·exact .inr ⟨l,c,.inr ⟨hl,rfl⟩⟩
  ·exact .inl (R.yp hx hn hT (av _) h0 e)
theorem Bd.kS (R:Bd n L most T len m w pt pw) (h:gen len g<=T) (h2:gen len (g+1)<=T):gen len g<=gen len (g+1):=by
 by_cases c:gen len g=T
 ·rw [c];show T<=len (gen len g);rw [c];have:gen len (g+1)=len T:=by show len (gen len g)=_;rw [c]
  by_cases z:T=0
  ·lia
  ·have h3:=R.go (T-1) (Ri z);have h4:=R.yO (T-1) (Ri z);rw [show T-1+1=T by lia] at h4;omega
 ·exact aS (R.go _ (BS h c))
theorem Bd.ma (R:Bd n L most T len m w pt pw):∀k,gen len (g+k)<=T->(∀i,i<=k->gen len (g+i)<=T)->(∀t,gen len g<=t->t<gen len (g+k)->¬ye n most m pt t)->(∀i,i<=k->gen len g<=gen len (g+i))->(∀i,i<k->gen len (g+i)<=gen len (g+k))->xY n L m (k+1) (gen len (g+k)) (gen len (g+k))
 | 0,_,_,_,_,_=>fun x hx hn=>.inr ⟨[x],⟨List.nodup_cons.mpr ⟨by simp,List.nodup_nil⟩,dN,fun z hz=>by rw [iD.mp hz];exact ⟨hx,hn⟩,fun z hz cK=>absurd (iD.mp hz) cK⟩,.inr ⟨av _,rfl⟩⟩
 | k+1,hT,hle,hs,hm,hu=>by
  have h1:gen len (g+k)<=gen len (g+(k+1)):=hu k (by exact f7);have ih:=R.ma (g:=g) k (hle k (by exact iN f7)) (fun i hi=>hle i (by exact iN hi)) (fun t a b=>hs t a (gM b h1)) (fun i hi=>hm i (by exact iN hi)) (fun i hi=>by
   have h2:∀j,j<=k-i->gen len (g+i)<=gen len (g+(i+j)):=fun j=>by
    induction j with
    | zero=>intro _;exact av _
    | succ j ih=>
     intro hj;exact dq (ih (by exact aS hj)) (R.kS (g:=g+(i+j)) (hle (i+j) (by lia)) (hle (i+j+1) (by lia)))
   have:=h2 (k-i) (av _)
   rwa [show i+(k-i)=k by exact X_ hi] at this)
  exact R.pP (t0:=gen len (g+k)) h1 hT (fun t a b=>hs t (by have:=hm k (by exact iN f7);exact uv this a) b) ih
end
end MH
set_option maxRecDepth 4000
namespace MH
theorem xD {P:Nat->Prop} (Rl:Nat->Nat->Prop) (h:∀i,i<N->P i->∃c,c<M/\Rl i c) (hi:∀i j c,i<j->j<N->P i->P j->Rl i c->Rl j c->False):cnt P N<=M:=by
 classical
 refine zD6 (fun i=>if z:∃c,c<M/\Rl i c then Classical.choose z else 0) (fun i hN hP=>?_) (fun i j dz hN hP Dz e=>?_)
 ·have z:=h i hN hP;show (if z:∃c,c<M/\Rl i c then Classical.choose z else 0)<M;rw [dif_pos z];exact (Classical.choose_spec z).1
 ·have z1:=h i (GG dz hN) hP;have z2:=h j hN Dz;have e:(if z:∃c,c<M/\Rl i c then Classical.choose z else 0)=(if z:∃c,c<M/\Rl j c then Classical.choose z else 0):=e;rw [dif_pos z1,dif_pos z2] at e;have h1:=(Classical.choose_spec z1).2;have h2:=(Classical.choose_spec z2).2;rw [<-e] at h2;exact hi i j _ dz hN hP Dz h1 h2
theorem PJ {P:Nat->Prop}:∀{N:Nat},(∀i,i<N->P i)->cnt P N=N
 | 0,_=>rfl
 | N+1,h=>by rw [qf (h N (by exact f7)),PJ fun i hi=>h i (by exact iN hi)]
theorem dec {k a r a' r':Nat} (hr:r<k) (ay:r'<k) (h:a*k+r=a'*k+r'):a=a'/\r=r':=by
 have hk:0<k:=KA hr;have e1:(a*k+r) / k=a:=by rw [Nat.add_comm,Nat.add_mul_div_right _ _ hk,Nat.div_eq_of_lt hr,Nat.zero_add]
 have e2:(a'*k+r') / k=a':=by rw [Nat.add_comm,Nat.add_mul_div_right _ _ hk,Nat.div_eq_of_lt ay,Nat.zero_add]
 rw [h,e2] at e1;subst e1;exact ⟨rfl,by lia⟩
theorem enc {k a r N:Nat} (ha:a<N) (hr:r<k):a*k+r<N*k:=by have h1:(a+1)*k<=N*k:=Nat.mul_le_mul_right _ ha;rw [Nat.add_mul,Nat.one_mul] at h1;exact qh h1 hr
def kc (a b:Nat):Nat:=a*7+if b<a then b else b-1
def N8 (a b:Nat):Prop:=a<8/\b<8/\a≠b
theorem qd (h:N8 a b):kc a b<56:=by obtain ⟨h1,h2,h3⟩:=h;unfold kc;split<;>lia
theorem vH {a b a' b':Nat} (h:N8 a b) (h':N8 a' b') (e:kc a b=kc a' b'):a=a'/\b=b':=by obtain ⟨h1,h2,h3⟩:=h;obtain ⟨h4,h5,h6⟩:=h';unfold kc at e;obtain ⟨e1,e2⟩:=dec (show (if b<a then b else b-1)<7 by split<;>omega) (show (if b'<a' then b' else b'-1)<7 by split<;>omega) e;subst e1;refine ⟨rfl,?_⟩;split at e2<;>split at e2<;>lia
section
variable {n l mo T:Nat} {m w:Nat->Nat->Nat->Option Int}
theorem Bd.nN (R:Bd n L most T len m w pt pw):∀d,t0+d<=T->len (t0+d)<=len t0+20*cnt (fun i=>∃a b,pt (t0+i) a b) d+8*cnt (fun i=>∃a b,pw (t0+i) a b) d
 | 0,_=>by show len t0<=_;exact f7
 | d+1,h=>by
  have ih:=R.nN (t0:=t0) d (by exact aS h);have hT:t0+d<T:=by exact h
  show len (t0+d+1)<=_
  by_cases c:∃a b,pt (t0+d) a b
  ·rw [qf c];have h1:=R.grow (t0+d) hT;have h2:cnt (fun i=>∃a b,pw (t0+i) a b) d<=cnt (fun i=>∃a b,pw (t0+i) a b) (d+1):=by
    by_cases z:∃a b,pw (t0+d) a b
    ·rw [qf z];exact iN f7
    ·rw [uq z];exact f7
   lia
  ·rw [uq c];have c':∀a b,¬pt (t0+d) a b:=fun a b z=>c ⟨a,b,z⟩
   by_cases z:∃a b,pw (t0+d) a b
   ·rw [qf z];have:=R.wQ (t0+d) hT c';lia
   ·rw [uq z];have:=R.wR (t0+d) hT c' fun a b q=>z ⟨a,b,q⟩;exact An this ih
theorem Bd.rA (R:Bd n L most T len m w pt pw):∀d,t+d<=T->len t<=len (t+d)
 | 0,_=>av _
 | d+1,h=>dq (R.rA d (by exact aS h)) (R.yO (t+d) (by exact h))
theorem Bd.fe (R:Bd n L most T len m w pt pw) (h:t<=t') (hT:t'<=T):len t<=len t':=by
 have:=R.rA (t:=t) (t'-t) (GH h hT)
 rwa [show t+(t'-t)=t' by exact m_ h] at this
theorem Bd.o8 (R:Bd n L most T len m w pt pw) (hT:t0+d<=T) (hl:t0+d<=len t0):len (t0+d)<=len t0+1568:=by
 have h:=R.nN d hT;have h8:=R.n8;have c1:cnt (fun i=>∃a b,pt (t0+i) a b) d<=56:=by
  refine xD (fun i c=>∃a b,pt (t0+i) a b/\N8 a b/\c=kc a b) (fun i hi hP=>?_) (fun i j c dz hj _ _ h1 h2=>?_)
  ·obtain ⟨a,b,hp⟩:=hP;obtain ⟨v,hv⟩:=R.known _ _ _ (show t0+i<T by exact qh hT hi) hp;obtain ⟨l1,l2,l3⟩:=R.lt _ _ _ _ (show t0+i<=T by lia) hv;have q:N8 a b:=⟨gM l1 h8,gM l2 h8,l3⟩;exact ⟨_,qd q,a,b,hp,q,rfl⟩
  ·obtain ⟨a,b,hp,hb,e1⟩:=h1;obtain ⟨a',b',ig,dO,e2⟩:=h2;obtain ⟨rfl,rfl⟩:=vH hb dO (e1.symm.trans e2);have:=R.once _ _ _ _ (show t0+i<t0+j by exact tw dz) (qh hT hj) hp ig;have:=R.fe (show t0<=t0+i by exact jQ) (by lia);lia
 have c2:cnt (fun i=>∃a b,pw (t0+i) a b) d<=56:=by
  refine xD (fun i c=>∃a b,pw (t0+i) a b/\N8 a b/\c=kc a b) (fun i hi hP=>?_) (fun i j c dz hj _ _ h1 h2=>?_)
  ·obtain ⟨a,b,hp⟩:=hP;obtain ⟨l1,l2,l3,_⟩:=R.jr _ _ _ (show t0+i<T by exact qh hT hi) hp;have q:N8 a b:=⟨gM l1 h8,gM l2 h8,l3⟩;exact ⟨_,qd q,a,b,hp,q,rfl⟩
  ·obtain ⟨a,b,hp,hb,e1⟩:=h1;obtain ⟨a',b',ig,dO,e2⟩:=h2;obtain ⟨rfl,rfl⟩:=vH hb dO (e1.symm.trans e2);have:=R.o4 _ _ _ _ (show t0+i<t0+j by exact tw dz) (qh hT hj) hp ig;have:=R.fe (show t0<=t0+i by exact jQ) (by lia);lia
 lia
theorem Bd.gens (R:Bd n L most T len m w pt pw):∀N,((∀i,i<=N->gen len i<=T)/\len (gen len N)<=len 0+1568*N)\/len T<=len 0+1568*N
 | 0=>.inl ⟨fun i hi=>by rw [show i=0 by lia];exact dP _,av _⟩
 | N+1=>by
  rcases R.gens N with ⟨h,hl⟩ | h
  ·have h0:=h N (av _)
   by_cases c:gen len (N+1)<=T
   ·refine .inl ⟨fun i hi=>?_,?_⟩
    ·by_cases e:i=N+1
     ·rw [e];exact c
     ·exact h i (by lia)
    ·have h1:=R.kS h0 c;have:=R.o8 (t0:=gen len N) (d:=gen len (N+1)-gen len N) (by lia) (by show _<=gen len (N+1);exact BM h1);rw [show gen len N+(gen len (N+1)-gen len N)=gen len (N+1) by exact m_ h1] at this;rw [Nat.mul_succ,<-Nat.add_assoc];exact dq this (Nat.add_le_add_right hl _)
   ·right;have:=R.o8 (t0:=gen len N) (d:=T-gen len N) (BM h0) (by show _<=gen len (N+1);lia);rw [show gen len N+(T-gen len N)=T by exact m_ h0] at this;rw [Nat.mul_succ,<-Nat.add_assoc];exact dq this (Nat.add_le_add_right hl _)
  ·right;rw [Nat.mul_succ,<-Nat.add_assoc];exact dq h (pR _ _)
theorem Bd.cL (R:Bd n L most T len m w pt pw) (h:∀i,i<=N->gen len i<=T):∀j,i+j<=N->gen len i<=gen len (i+j)
 | 0,_=>av _
 | j+1,hj=>dq (R.cL h j (by exact aS hj)) (R.kS (g:=i+j) (h (i+j) (by exact aS hj)) (h (i+j+1) (by omega)))
theorem Bd.narrow (R:Bd n (l:Int) (mo:Int) T len m w pt pw) (hg:∀i,i<=g+7->gen len i<=T) (hs:∀t,gen len g<=t->t<gen len (g+7)->¬ye n (mo:Int) m pt t):∀a b,a<n->b<n->a≠b->Kn m (gen len (g+7)) a b (l:Int):=by
 have hT:=hg (g+7) (av _);have c:=R.ma (g:=g) 7 hT (fun i hi=>hg _ (xS hi)) hs (fun i hi=>R.cL hg i (xS hi)) (fun i hi=>by
  have:=R.cL hg (i:=g+i) (7-i) (by lia)
  rwa [show g+i+(7-i)=g+7 by lia] at this)
 have h8:=R.n8;have DD:∀x,0<x->x<n->mE n (l:Int) m (gen len (g+7)) x:=fun x hx hn=>by
  rcases c x hx hn with f | ⟨ls,⟨c1,_,c3,_⟩,hl⟩
  ·exact f
  ·exfalso;have:=Ae 8 (0::ls) (List.nodup_cons.mpr ⟨fun z=>by have:=(c3 0 z).1;exact hV (j8 0 this),c1⟩) (fun z hz=>by
    rcases eh.mp hz with e | hz
    ·lia
    ·have:=(c3 z hz).2;exact gM this h8)
   rw [mf] at this;lia
 intro a b ha hb lr
 by_cases e:a=0
 ·subst e;exact R.o7 (by lia) hb hT
 ·by_cases e':b=0
  ·subst e';obtain ⟨h1,h2⟩:=R.cW (t:=gen len (g+7)) (s_ e) ha hT;exact ⟨_,by lia,h1⟩
  ·have h1:=(DD a (s_ e) ha).2 b (s_ e') hb (aB lr);have h2:=(DD b (s_ e') hb).1;have h3:=(R.cW (t:=gen len (g+7)) (x:=a) (s_ e) ha hT).2;exact h1.le (by lia)
theorem Bd.quiet (R:Bd n (l:Int) (mo:Int) T len m w pt pw) {N:Nat} (hN:N=7*(l+1)+7*(mo+1)+1) (hg:∀i,i<=7*N->gen len i<=T):∃b,b<N/\∀t,gen len (7*b)<=t->t<gen len (7*b+7)->¬ye n (mo:Int) m pt t:=by
 refine f9 fun hn=>?_;have hs:∀b,b<N->∃t,gen len (7*b)<=t/\t<gen len (7*b+7)/\ye n (mo:Int) m pt t:=fun b hb=>by refine f9 fun h=>hn ⟨b,hb,fun t h1 h2 h3=>h ⟨t,h1,h2,h3⟩⟩
 have h8:=R.n8;have tT:∀{b t},b<N->t<gen len (7*b+7)->t<T:=fun {b t} hb ht=>by have:=hg (7*b+7) (by lia);exact gM ht this
 have key:=xD (P:=fun _=>True) (N:=N) (M:=7*(l+1)+7*(mo+1)) (fun b c=>∃t,gen len (7*b)<=t/\t<gen len (7*b+7)/\((∃x r,pt t (x+1) 0/\x<7/\r<l+1/\m t (x+1) 0=some (-(r:Int))/\c=x*(l+1)+r)\/
  ∃x r,x<7/\r<mo+1/\m (t+1) (x+1) 0=some (-(r:Int))/\m (t+1) (x+1) 0≠m t (x+1) 0/\c=7*(l+1)+(x*(mo+1)+r))) (fun b hb _=>by
  obtain ⟨t,h1,h2,h3⟩:=hs b hb;have ht:=tT hb h2;rcases h3 with ⟨x,hp⟩ | ⟨x,y,hx,Mj,hy,cK,rN⟩
  ·obtain ⟨v,hv⟩:=R.known _ _ _ ht hp;obtain ⟨l1,_,l3⟩:=R.lt _ _ _ _ (aS ht) hv;obtain ⟨e1,e2⟩:=R.cW (t:=t) (x:=x) (s_ l3) l1 (aS ht);rw [hv] at e1;have e1:=dM e1;obtain ⟨p,iL,iR⟩:=R.o7 (t:=t) (x:=x) (s_ l3) l1 (aS ht);have hb:=R.bar _ _ _ _ _ ht hp hv iR;have hr:(-v).toNat<l+1:=by lia
   obtain ⟨x,rfl⟩:∃z,x=z+1:=⟨x-1,by lia⟩;exact ⟨x*(l+1)+(-v).toNat,by have:=enc (a:=x) (N:=7) (show x<7 by exact GJ l1 h8) hr;exact Kw this,t,h1,h2,.inl ⟨x,(-v).toNat,hp,GJ l1 h8,hr,by rw [hv];congr 1;lia,rfl⟩⟩
  ·obtain ⟨e1,e2⟩:=R.cW (t:=t+1) hx Mj (show t+1<=T by exact ht);rw [hy] at e1;have e1:=dM e1;have hr:(-y).toNat<mo+1:=by lia
   obtain ⟨x,rfl⟩:∃z,x=z+1:=⟨x-1,by lia⟩;exact ⟨7*(l+1)+(x*(mo+1)+(-y).toNat),by have:=enc (a:=x) (N:=7) (show x<7 by exact GJ Mj h8) hr;exact tw this,t,h1,h2,.inr ⟨x,(-y).toNat,GJ Mj h8,hr,by rw [hy];congr 1;lia,cK,rfl⟩⟩)
  (fun b b' c rS dO _ _ h1 h2=>by
   obtain ⟨t,_,t2,h1⟩:=h1;obtain ⟨t',t1',L4,h2⟩:=h2;have lN:t<t':=by have:=R.cL hg (i:=7*b+7) (7*b'-(7*b+7)) (by omega);rw [show 7*b+7+(7*b'-(7*b+7))=7*b' by exact RM rS] at this;lia
   have Dy:=tT dO L4;rcases h1 with ⟨x,r,hp,hx,hr,hv,e1⟩ | ⟨x,r,_,hr,hv,_,e1⟩
   ·rcases h2 with ⟨x',r',ig,rG,ay,eO,e2⟩ | ⟨x',r',_,_,_,_,e2⟩
    ·obtain ⟨rfl,rfl⟩:=dec hr ay (e1.symm.trans e2);have:=R.drop _ _ _ _ _ _ lN Dy hp ig hv eO;lia
    ·have:=enc (a:=x) (N:=7) hx hr;exact RJ this e2 e1
   ·rcases h2 with ⟨x',r',_,rG,ay,_,e2⟩ | ⟨x',r',rG,ay,eO,vn,e2⟩
    ·have:=enc (a:=x') (N:=7) rG ay;exact RJ this e1 e2
    ·obtain ⟨rfl,rfl⟩:=dec hr ay (show x*(mo+1)+r=x'*(mo+1)+r' by exact Rh e1 e2);have:=R.same hv eO (s:=t') (by exact lN) (by exact iN f7) (by exact Dy);exact vn (eO.trans this.symm))
 rw [PJ fun i _=>trivial] at key;lia
end
section
variable {n l mo T:Nat} {m w:Nat->Nat->Nat->Option Int}
theorem Bd.z8 (R:Bd n L most T len m w pt pw) (ht:t<T):∃g,(∀i,i<=g->gen len i<=t)/\t<gen len (g+1):=by
 have key:∀N,(∀i,i<=N->gen len i<=t/\i<=gen len i)\/∃g,(∀i,i<=g->gen len i<=t)/\t<gen len (g+1):=by
  intro N
  induction N with
  | zero=>exact .inl fun i hi=>by rw [show i=0 by lia];exact ⟨dP _,dP _⟩
  | succ N ih=>
   rcases ih with h | h
   ·by_cases c:gen len (N+1)<=t
    ·refine .inl fun i hi=>?_
     by_cases e:i=N+1
     ·rw [e];have h1:=h N (av _);have h2:gen len N<gen len (N+1):=R.go (gen len N) (by lia);exact ⟨c,by lia⟩
     ·exact h i (by lia)
    ·exact .inr ⟨N,fun i hi=>(h i hi).1,xT c⟩
   ·exact .inr h
 rcases key (t+1) with h | h
 ·have:=h (t+1) (av _);omega
 ·exact h
theorem Bd.nO (R:Bd n L most T len m w pt pw) (h:∀i,i<=g'->gen len i<=t) (ht:t<=T) (hg:g<=g'):gen len g<=gen len g':=by
 have:=R.cL (N:=g') (fun i hi=>dq (h i hi) ht) (i:=g) (g'-g) (BM hg)
 rwa [show g+(g'-g)=g' by exact m_ hg] at this
theorem Bd.lC (R:Bd n L most T len m w pt pw) (hB:0<=B) (hT:t<=T) (h:∀x y v,m t x y=some v->-B<=v):∀s,s<=t->∀a b v,w s a b=some v->v<=most+B
 | 0,_,a,b,v,e=>by rw [R.we] at e;cases e
 | s+1,hs,a,b,v,e=>by
  by_cases c:w (s+1) a b=w s a b
  ·exact R.lC hB hT h s (by exact aS hs) a b v (c▸e)
  ·obtain ⟨y,h1,h2⟩:=R.qM s a b B (by lia) hB (fun x y v' e'=>by
    obtain ⟨v2,l2,e2⟩:=R.lL e' hs hT;have:=h x y v2 e2;exact o_ this l2) c
   rw [e] at h1;cases h1;exact h2
theorem Bd.Cm (R:Bd n (l:Int) (mo:Int) T len m w pt pw) (hg:∀i,i<=g+1->gen len i<=T) (hk:∀a b,a<n->b<n->a≠b->Kn m (gen len g) a b (l:Int))
 (hq:∀τ,gen len g<=τ->τ<gen len (g+1)->(∀a b,¬pt τ a b)/\∀a b,m (τ+1) a b=m τ a b) (h1:gen len g<=t) (h2:t<gen len (g+1)) (hp:pw t a b) (hv:w t a b=some v):1-(l:Int)<=v/\v<=(mo:Int)+l:=by
 have hT:=hg (g+1) (av _);have Iq:=R.kS (hg g (by exact iN f7)) hT;have same:∀x y d,gen len g+d<=gen len (g+1)->m (gen len g+d) x y=m (gen len g) x y:=fun x y d=>by
  induction d with
  | zero=>intro _;rfl
  | succ d ih=>exact fun hd=>((hq (gen len g+d) jQ (by exact hd)).2 x y).trans (ih (by exact aS hd))
 have nJ:∀x y,m (gen len (g+1)) x y=m (gen len g) x y:=fun x y=>by
  have:=same x y (gen len (g+1)-gen len g) (by lia)
  rwa [show gen len g+(gen len (g+1)-gen len g)=gen len (g+1) by lia] at this
 have seen:∀x y q,m (gen len (g+1)) x y=some q->∃s,s<gen len g/\pt s x y/\m s x y=some q:=fun x y q jy=>by obtain ⟨s,hs,hp,hv⟩:=R.eW (gen len g) (gen len (g+1)) x y q hT (av _) Iq ((nJ x y).symm.trans jy) jy;refine ⟨s,?_,hp,hv⟩;refine f9 fun c=>?_;exact (hq s (by exact mh c) hs).1 x y hp
 have kn:∀x y,x<n->y<n->x≠y->Kn m (gen len (g+1)) x y (l:Int):=fun x y hx hy oB=>R.kn (hk x y hx hy oB) Iq hT;have low:∀x y q,m (gen len (g+1)) x y=some q->-(l:Int)<=q:=fun x y q jy=>by
  obtain ⟨x1,x2,x3⟩:=R.lt _ _ _ _ hT jy;obtain ⟨q',Dg,e'⟩:=kn y x x2 x1 (aB x3);obtain ⟨s,hs,ps,vs⟩:=seen x y q jy;obtain ⟨s',wJ,fv,Vc⟩:=seen y x q' e';rcases Nat.lt_trichotomy s s' with c | c | c
  ·have:=R.same vs jy (s:=s') (by exact aS c) (by lia) hT;have:=R.bar _ _ _ _ _ (by lia) fv Vc this;lia
  ·subst c;have:=(R.one _ _ _ _ _ (by lia) ps fv).1;exact hV (x3 this)
  ·have:=R.same Vc e' (s:=s) (by exact aS c) (by lia) hT;have:=R.bar _ _ _ _ _ (by lia) ps vs this;lia
 refine ⟨?_,R.lC (Int.natCast_nonneg l) hT (fun x y v e=>low x y v e) t (by exact aS h2) a b v hv⟩;obtain ⟨p1,p2,p3,_⟩:=R.jr _ _ _ (gM h2 hT) hp;obtain ⟨q,Dg,e'⟩:=kn a b p1 p2 p3;obtain ⟨s,hs,ps,vs⟩:=seen a b q e';have:=R.aD _ _ _ _ _ _ (by lia) ps vs (show s<=t by lia) (gM h2 hT) hp hv;lia
theorem Bd.after (R:Bd n (l:Int) (mo:Int) T len m w pt pw) (VY:∀i,i<=g1->gen len i<=T) (hk:∀a b,a<n->b<n->a≠b->Kn m (gen len g1) a b (l:Int)):
 len T<=len (gen len g1)+20*(56*(2*l+1))+8*((56*(2*l+1)+56*(mo+l+1))*56+(56*(mo+2*l+1)+56)):=by
 have h1:=VY g1 (av _);have h8:=R.n8;have g:=R.nN (t0:=gen len g1) (T-gen len g1) (BM h1);rw [show gen len g1+(T-gen len g1)=T by exact m_ h1] at g;have kn:∀t x y,gen len g1<=t->t<=T->x<n->y<n->x≠y->Kn m t x y (l:Int):=fun t x y ht hT hx hy oB=>R.kn (hk x y hx hy oB) ht hT;have tie:∀t a b,gen len g1<=t->t<T->pt t a b->∃r,a<8/\N8 a b/\r<2*l+1/\m t a b=some ((r:Int)-l):=fun t a b h h' hp=>by obtain ⟨v,hv⟩:=R.known _ _ _ h' hp;obtain ⟨l1,l2,l3⟩:=R.lt _ _ _ _ (aS h') hv;obtain ⟨v1,hle,e1⟩:=kn t a b h (aS h') l1 l2 l3;rw [hv] at e1;cases e1;obtain ⟨u,hu,eu⟩:=kn t b a h (aS h') l2 l1 (aB l3);have:=R.bar _ _ _ _ _ h' hp hv eu;exact ⟨(v+l).toNat,gM l1 h8,⟨gM l1 h8,gM l2 h8,l3⟩,by lia,by rw [hv];congr 1;lia⟩
 have c1:cnt (fun i=>∃a b,pt (gen len g1+i) a b) (T-gen len g1)<=56*(2*l+1):=by
  refine xD (fun i c=>∃a b r,pt (gen len g1+i) a b/\a<8/\N8 a b/\r<2*l+1/\m (gen len g1+i) a b=some ((r:Int)-l)/\c=kc a b*(2*l+1)+r) (fun i hi hP=>?_) (fun i j c dz hj _ _ z1 z2=>?_)
  ·obtain ⟨a,b,hp⟩:=hP;obtain ⟨r,x1,x2,x3,x4⟩:=tie _ a b (pR _ _) (xR hi) hp;exact ⟨_,enc (qd x2) x3,a,b,r,hp,x1,x2,x3,x4,rfl⟩
  ·obtain ⟨a,b,r,hp,_,x2,x3,x4,e1⟩:=z1;obtain ⟨a',b',r',ig,y1,y2,y3,y4,e2⟩:=z2;obtain ⟨ek,rfl⟩:=dec x3 y3 (e1.symm.trans e2);obtain ⟨rfl,rfl⟩:=vH x2 y2 ek;have:=R.drop _ _ _ _ _ _ (show gen len g1+i<gen len g1+j by exact tw dz) (xR hj) hp ig x4 y4;lia
 have c2:cnt (fun i=>∃a b,pw (gen len g1+i) a b) (T-gen len g1)<=(56*(2*l+1)+56*(mo+l+1))*56+(56*(mo+2*l+1)+56):=by
  let Ga:Nat->Nat->Prop:=fun t g=>(∀i,i<=g->gen len i<=t)/\t<gen len (g+1)/\gen len (g+1)<=T
  let St:Nat->Prop:=fun τ=>(∃a b,pt τ a b)\/∃a b,m (τ+1) a b≠m τ a b
  have up:∀{t g},gen len g1<=t->t<T->(∀i,i<=g->gen len i<=t)->t<gen len (g+1)->g1<=g:=fun {t g} h _ _ z2=>by refine f9 fun c=>?_;have:=R.cL VY (i:=g+1) (g1-(g+1)) (by lia);rw [show g+1+(g1-(g+1))=g1 by omega] at this;lia
  have s1:=I_ (P:=fun i=>∃a b,pw (gen len g1+i) a b/\gen len g1+i<T) (Q:=fun i=>(∃a b,pw (gen len g1+i) a b)/\∃g,Ga (gen len g1+i) g/\∃τ,gen len g<=τ/\τ<gen len (g+1)/\St τ)
   (R:=fun i=>(∃a b,pw (gen len g1+i) a b)/\((∃g,Ga (gen len g1+i) g/\∀τ,gen len g<=τ->τ<gen len (g+1)->¬St τ)\/∃g,gen len g<=gen len g1+i/\T<gen len (g+1))) (fun i hP=>by
    obtain ⟨a,b,hp,hT⟩:=hP;obtain ⟨g,z1,z2⟩:=R.z8 hT
    by_cases c:gen len (g+1)<=T
    ·by_cases d:∃τ,gen len g<=τ/\τ<gen len (g+1)/\St τ
     ·exact .inl ⟨⟨a,b,hp⟩,g,⟨z1,z2,c⟩,d⟩
     ·exact .inr ⟨⟨a,b,hp⟩,.inl ⟨g,⟨z1,z2,c⟩,fun τ y1 y2 y3=>d ⟨τ,y1,y2,y3⟩⟩⟩
    ·exact .inr ⟨⟨a,b,hp⟩,.inr ⟨g,z1 g (av _),xT c⟩⟩) (T-gen len g1)
  have s0:cnt (fun i=>∃a b,pw (gen len g1+i) a b) (T-gen len g1)=cnt (fun i=>∃a b,pw (gen len g1+i) a b/\gen len g1+i<T) (T-gen len g1):=by
   have:∀N,N<=T-gen len g1->cnt (fun i=>∃a b,pw (gen len g1+i) a b) N=cnt (fun i=>∃a b,pw (gen len g1+i) a b/\gen len g1+i<T) N:=fun N=>by
    induction N with
    | zero=>intro _;rfl
    | succ N ih=>
     intro hN
     by_cases c:∃a b,pw (gen len g1+N) a b
     ·obtain ⟨a,b,hp⟩:=c;rw [qf ⟨a,b,hp⟩,qf (P:=fun i=>∃a b,pw (gen len g1+i) a b/\gen len g1+i<T) ⟨a,b,hp,Yq hN⟩,ih (by exact aS hN)]
     ·rw [uq c,uq (P:=fun i=>∃a b,pw (gen len g1+i) a b/\gen len g1+i<T) fun ⟨a,b,hp,_⟩=>c ⟨a,b,hp⟩,ih (by exact aS hN)]
   exact this _ (av _)
  have s2:=I_ (P:=fun i=>(∃a b,pw (gen len g1+i) a b)/\((∃g,Ga (gen len g1+i) g/\∀τ,gen len g<=τ->τ<gen len (g+1)->¬St τ)\/∃g,gen len g<=gen len g1+i/\T<gen len (g+1)))
   (Q:=fun i=>(∃a b,pw (gen len g1+i) a b)/\∃g,Ga (gen len g1+i) g/\∀τ,gen len g<=τ->τ<gen len (g+1)->¬St τ) (R:=fun i=>(∃a b,pw (gen len g1+i) a b)/\∃g,gen len g<=gen len g1+i/\T<gen len (g+1)) (fun i hP=>hP.2.elim (fun z=>.inl ⟨hP.1,z⟩) fun z=>.inr ⟨hP.1,z⟩) (T-gen len g1)
  have yQ:∀{t a b},t<T->pw t a b->a<8/\N8 a b:=fun {t a b} h hp=>by obtain ⟨x1,x2,x3,_⟩:=R.jr _ _ _ h hp;exact ⟨gM x1 h8,gM x1 h8,gM x2 h8,x3⟩
  have d3:cnt (fun i=>(∃a b,pw (gen len g1+i) a b)/\∃g,gen len g<=gen len g1+i/\T<gen len (g+1)) (T-gen len g1)<=56:=by
   refine xD (fun i c=>∃a b,pw (gen len g1+i) a b/\a<8/\N8 a b/\c=kc a b) (fun i hi hP=>?_) (fun i j c dz hj hP _ z1 z2=>?_)
   ·obtain ⟨⟨a,b,hp⟩,_⟩:=hP;obtain ⟨x1,x2⟩:=yQ (show gen len g1+i<T by exact xR hi) hp;exact ⟨_,qd x2,a,b,hp,x1,x2,rfl⟩
   ·obtain ⟨_,g,z3,z4⟩:=hP;obtain ⟨a,b,hp,_,x2,e1⟩:=z1;obtain ⟨a',b',ig,y1,y2,e2⟩:=z2;obtain ⟨rfl,rfl⟩:=vH x2 y2 (e1.symm.trans e2);have q1:=R.o4 _ _ _ _ (show gen len g1+i<gen len g1+j by exact tw dz) (xR hj) hp ig;have q2:gen len (g+1)<=len (gen len g1+i):=R.fe z3 (by omega);omega
  have d2:cnt (fun i=>(∃a b,pw (gen len g1+i) a b)/\∃g,Ga (gen len g1+i) g/\∀τ,gen len g<=τ->τ<gen len (g+1)->¬St τ) (T-gen len g1)<=56*(mo+2*l+1):=by
   refine xD (fun i c=>∃a b r,pw (gen len g1+i) a b/\a<8/\N8 a b/\r<mo+2*l+1/\w (gen len g1+i) a b=some ((r:Int)+1-l)/\c=kc a b*(mo+2*l+1)+r) (fun i _ hP=>?_) (fun i j c dz _ _ _ z1 z2=>?_)
   ·obtain ⟨⟨a,b,hp⟩,g,⟨z1,z2,z3⟩,z4⟩:=hP;have hT:gen len g1+i<T:=gM z2 z3;obtain ⟨x1,x2⟩:=yQ hT hp;obtain ⟨_,_,_,v,hv⟩:=R.jr _ _ _ hT hp;have Nk:=up (pR _ _) hT z1 z2;have VX:∀i,i<=g+1->gen len i<=T:=fun k pJ=>by
     by_cases e:k=g+1
     ·rw [e];exact z3
     ·have:=z1 k (by lia);lia
    have hle:gen len g1<=gen len g:=R.nO z1 (aS hT) Nk;obtain ⟨y1,y2⟩:=R.Cm VX (fun x y hx hy oB=>kn _ x y hle (VX g (by exact iN f7)) hx hy oB) (fun τ q1 q2=>⟨fun x y ig=>z4 τ q1 q2 (.inl ⟨x,y,ig⟩),fun x y=>f9 fun hc=>z4 τ q1 q2 (.inr ⟨x,y,hc⟩)⟩) (z1 g (av _)) z2 hp hv;have hr:(v-1+l).toNat<mo+2*l+1:=by lia
    exact ⟨_,enc (qd x2) hr,a,b,_,hp,x1,x2,hr,by rw [hv];congr 1;lia,rfl⟩
   ·obtain ⟨a,b,r,hp,_,x2,x3,x4,e1⟩:=z1;obtain ⟨a',b',r',ig,y1,y2,y3,y4,e2⟩:=z2;obtain ⟨ek,rfl⟩:=dec x3 y3 (e1.symm.trans e2);obtain ⟨rfl,rfl⟩:=vH x2 y2 ek;have:=R.wg _ _ _ _ _ _ (show gen len g1+i<gen len g1+j by exact tw dz) (by omega) hp ig x4 y4;lia
  have d1:cnt (fun i=>(∃a b,pw (gen len g1+i) a b)/\∃g,Ga (gen len g1+i) g/\∃τ,gen len g<=τ/\τ<gen len (g+1)/\St τ) (T-gen len g1)<=(56*(2*l+1)+56*(mo+l+1))*56:=by
   refine xD (fun i c=>∃g τ a b cg,Ga (gen len g1+i) g/\gen len g<=τ/\τ<gen len (g+1)/\pw (gen len g1+i) a b/\a<8/\N8 a b/\c=cg*56+kc a b/\
    ((∃x y r,pt τ x y/\x<8/\N8 x y/\r<2*l+1/\m τ x y=some ((r:Int)-l)/\cg=kc x y*(2*l+1)+r)\/
     ∃x y r,x<8/\N8 x y/\r<mo+l+1/\m (τ+1) x y=some ((r:Int)-mo)/\m (τ+1) x y≠m τ x y/\cg=56*(2*l+1)+(kc x y*(mo+l+1)+r))) (fun i _ hP=>?_) (fun i j c dz _ _ _ z1 z2=>?_)
   ·obtain ⟨⟨a,b,hp⟩,g,hG,τ,t1,t2,rK⟩:=hP;have hT:gen len g1+i<T:=gM hG.2.1 hG.2.2;obtain ⟨x1,x2⟩:=yQ hT hp;have Nk:=up (pR _ _) hT hG.1 hG.2.1;have hle:gen len g1<=gen len g:=R.nO hG.1 (aS hT) Nk;have Ic:τ<T:=by have:=hG.2.2;exact gM t2 hG.2.2
    have tc:∀x y,pt τ x y->∃cg,cg<56*(2*l+1)+56*(mo+l+1)/\∃x y r,pt τ x y/\x<8/\N8 x y/\r<2*l+1/\m τ x y=some ((r:Int)-l)/\cg=kc x y*(2*l+1)+r:=fun x y jU=>by obtain ⟨r,q1,q2,q3,q4⟩:=tie τ x y (uv hle t1) Ic jU;refine ⟨_,?_,x,y,r,jU,q1,q2,q3,q4,rfl⟩;have:=enc (qd q2) q3;exact Kw this
    have fin:∀cg,cg<56*(2*l+1)+56*(mo+l+1)->cg*56+kc a b<(56*(2*l+1)+56*(mo+l+1))*56:=fun cg hc=>enc hc (qd x2)
    by_cases c:∃x y,pt τ x y
    ·obtain ⟨x,y,jU⟩:=c;obtain ⟨cg,hc,rest⟩:=tc x y jU;exact ⟨_,fin cg hc,g,τ,a,b,cg,hG,t1,t2,hp,x1,x2,rfl,.inl rest⟩
    ·rcases rK with ⟨x,y,jU⟩ | ⟨x,y,cK⟩
     ·exact absurd ⟨x,y,jU⟩ c
     ·rcases R.cause τ x y Ic cK with ⟨c',v,q,y',jU,_⟩ | ⟨c',jU,_⟩ | ⟨e',y',_,hy,rN⟩
      ·exact absurd ⟨x,c',jU⟩ c
      ·exact absurd ⟨c',y,jU⟩ c
      ·obtain ⟨l1,l2,l3⟩:=R.lt _ _ _ _ (show τ+1<=T by exact Ic) hy;obtain ⟨v1,hle1,e1⟩:=kn (τ+1) x y (by lia) (by exact Ic) l1 l2 l3;rw [hy] at e1;cases e1;have hr:(y'+mo).toNat<mo+l+1:=by lia
       refine ⟨_,fin (56*(2*l+1)+(kc x y*(mo+l+1)+(y'+mo).toNat)) ?_,g,τ,a,b,_,hG,t1,t2,hp,x1,x2,rfl,.inr ⟨x,y,_,gM l1 h8,⟨gM l1 h8,gM l2 h8,l3⟩,hr,by rw [hy];congr 1;lia,cK,rfl⟩⟩;have:=enc (qd ⟨gM l1 h8,gM l2 h8,l3⟩) hr;exact tw this
   ·obtain ⟨g,τ,a,b,cg,hG,_,t2,hp,_,x2,e1,hcg⟩:=z1;obtain ⟨g',Bg,a',b',cg',AQ,t1',L4,ig,y1,y2,e2,Du⟩:=z2;obtain ⟨ec,ek⟩:=dec (qd x2) (qd y2) (e1.symm.trans e2);obtain ⟨rfl,rfl⟩:=vH x2 y2 ek;subst ec;have hT:gen len g1+j<T:=gM AQ.2.1 AQ.2.2;have OZ:τ<T:=by have:=hG.2.2;exact gM t2 hG.2.2
    have Bf:Bg<T:=by have:=AQ.2.2;exact gM L4 AQ.2.2
    have eτ:τ=Bg:=by
     rcases hcg with ⟨x,y,r,p1,_,p3,p4,p5,p6⟩ | ⟨x,y,r,_,p3,p4,p5,pn,p6⟩
     ·rcases Du with ⟨x',y',r',q1,q2,q3,q4,q5,q6⟩ | ⟨x',y',r',_,_,_,_,_,q6⟩
      ·obtain ⟨ek,rfl⟩:=dec p4 q4 (p6.symm.trans q6);obtain ⟨rfl,rfl⟩:=vH p3 q3 ek;rcases Nat.lt_trichotomy τ Bg with c | c | c
       ·have:=R.drop _ _ _ _ _ _ c Bf p1 q1 p5 q5;lia
       ·exact c
       ·have:=R.drop _ _ _ _ _ _ c OZ q1 p1 q5 p5;lia
      ·have:=enc (qd p3) p4;exact Rj this q6 p6
     ·rcases Du with ⟨x',y',r',_,_,q3,q4,_,q6⟩ | ⟨x',y',r',q2,q3,q4,q5,qn,q6⟩
      ·have:=enc (qd q3) q4;exact Rj this p6 q6
      ·obtain ⟨ek,rfl⟩:=dec p4 q4 (show kc x y*(mo+l+1)+r=kc x' y'*(mo+l+1)+r' by exact Rh p6 q6);obtain ⟨rfl,rfl⟩:=vH p3 q3 ek;rcases Nat.lt_trichotomy τ Bg with c | c | c
       ·have:=R.same p5 q5 (s:=Bg) (by exact c) (by exact iN f7) (by exact Bf);exact absurd (q5.trans this.symm) qn
       ·exact c
       ·have:=R.same q5 p5 (s:=τ) (by exact c) (by exact iN f7) (by exact OZ);exact absurd (p5.trans this.symm) pn
    subst eτ;have q1:=R.o4 _ _ _ _ (show gen len g1+i<gen len g1+j by exact tw dz) hT hp ig;have q2:gen len (g+1)<=len (gen len g1+i):=R.fe (hG.1 g (av _)) (by lia);have q3:gen len (g'+1)<=gen len (g+1):=by
     refine f9 fun c=>?_;have Iq:g<g':=by
      refine f9 fun d=>?_;have e0:∀k,k<=g+1->gen len k<=T:=fun k pJ=>by
       by_cases e:k=g+1
       ·rw [e];exact hG.2.2
       ·have:=hG.1 k (by lia);lia
      have:=R.cL e0 (i:=g'+1) (g+1-(g'+1)) (Y4 d);rw [show g'+1+(g+1-(g'+1))=g+1 by exact Yw d] at this;exact c this
     have:=R.nO (g:=g+1) AQ.1 (aS hT) (by exact Iq);lia
    have:=AQ.2.1;lia
  rw [s0];exact dq s1 (Nat.add_le_add d1 (dq s2 (Nat.add_le_add d2 d3)))
 have m1:=Nat.mul_le_mul_left 20 c1;have m2:=Nat.mul_le_mul_left 8 c2;exact dq g (Nat.add_le_add (Nat.add_le_add_left m1 _) m2)
theorem Bd.rows (R:Bd n (l:Int) (mo:Int) T len m w pt pw):len T<=len 0+1568*(7*(7*(l+1)+7*(mo+1)+1))+20*(56*(2*l+1))+8*((56*(2*l+1)+56*(mo+l+1))*56+(56*(mo+2*l+1)+56)):=by
 rcases R.gens (7*(7*(l+1)+7*(mo+1)+1)) with ⟨h1,h2⟩ | h
 ·obtain ⟨b,hb,hs⟩:=R.quiet rfl h1;have hg:∀i,i<=7*b+7->gen len i<=T:=fun i hi=>h1 i (by lia);have k:=R.after (g1:=7*b+7) hg (R.narrow hg hs);have e:=R.cL h1 (i:=7*b+7) (7*(7*(l+1)+7*(mo+1)+1)-(7*b+7)) (by omega);rw [show 7*b+7+(7*(7*(l+1)+7*(mo+1)+1)-(7*b+7))=7*(7*(l+1)+7*(mo+1)+1) by exact RM hb] at e;have k2:=R.fe e (h1 _ (av _));exact dq k (Nat.add_le_add_right (Nat.add_le_add_right (dq k2 h2) _) _)
 ·exact dq h (dq (pR _ _) (pR _ _))
end
end MH
namespace MU
theorem Kr (hF:iE n F most) (g:cq n s) (hp:ai s at_=some p) (pa:p.a=a) (pb:p.b=b) (bC:(eD n F at_ a b s).bar=none):
 Add (fun w=>(w.tie=true->(w.a=a/\w.b≠b/\∃q,val s (true,b,w.b)=some q/\w.v=p.v+q)\/(w.b=b/\w.a≠a))/\(w.tie=false->w.v<=most-p.v/\∃f,F w.b=some f)) s (eD n F at_ a b s):=by
 unfold eD at bC ⊢;dsimp only at bC ⊢;generalize hC:(fun w:ak=>(w.tie=true->(w.a=a/\w.b≠b/\∃q,val s (true,b,w.b)=some q/\w.v=p.v+q)\/(w.b=b/\w.a≠a))/\(w.tie=false->w.v<=most-p.v/\∃f,F w.b=some f))=C;have g1:cq n (aH (dc F) .aD at_ s):=oq g BD;have i1:Imp s (aH (dc F) .aD at_ s):=gx _ _ _ _;have T1:Add (fun w=>w.tie=true->w.b=b) s (aH (dc F) .aD at_ s):=xt hp fun w e ht=>by
  unfold dc at e;split at e
  ·cases q:F p.b with
   | none=>rw [q] at e;cases e
   | some f=>rw [q] at e;cases e;cases ht
  ·cases e
 have A1:Add C s (aH (dc F) .aD at_ s):=xt hp fun w e=>by
  subst hC;unfold dc at e;split at e
  ·cases q:F p.b with
   | none=>rw [q] at e;cases e
   | some f=>
    rw [q] at e;cases e;have:=hF.num _ _ q;exact ⟨nofun,fun _=>⟨by show f.2.2-p.v<=_;lia,f,q⟩⟩
  ·cases e
 generalize aH (dc F) .aD at_ s=s1 at*;have iL:=cb i1.1 hp;have g2:cq n (aH (dn F) .bp at_ s1):=oq g1 (BF hF);have i2:Imp s1 (aH (dn F) .bp at_ s1):=gx _ _ _ _;have T2:Add (fun w=>w.tie=true->w.b=b) s1 (aH (dn F) .bp at_ s1):=xt iL fun w e _=>by
  unfold dn at e;split at e
  ·cases q:F p.a with
   | none=>rw [q] at e;cases e
   | some f=>rw [q] at e;cases e;exact pb
  ·cases e
 have A2:Add C s1 (aH (dn F) .bp at_ s1):=xt iL fun w e=>by
  subst hC;unfold dn at e;split at e
  ·cases q:F p.a with
   | none=>rw [q] at e;cases e
   | some f=>
    rw [q] at e;cases e;refine ⟨fun _=>.inr ⟨pb,fun z=>?_⟩,nofun⟩;have z:f.1=a:=z;have:=hF.own _ _ q;rw [z,<-pa,q] at this;cases this
  ·cases e
 generalize aH (dn F) .bp at_ s1=s2 at*;have iR:=cb i2.1 iL;have T12:=T1.trans i2.1 T2;have CB:∀z,z≠b->val s2 (true,b,z)=val s (true,b,z):=fun z hz=>f9 fun hc=>by obtain ⟨j,w,hj,hw,hk,_⟩:=JS g g2 (i1.1.trans i2.1) hc;obtain ⟨kt,_,kb⟩:=i_ hk;have:=T12 j w hj hw kt;exact hz (kb.symm.trans this)
 have i3:Imp s2 ((cS n s2 true b).foldl (fun st j=>ao az .sum at_ j st) s2):=dE (fun _ _=>cQ ..) _ _;have g3:cq n ((cS n s2 true b).foldl (fun st j=>ao az .sum at_ j st) s2):=vV (fun _ _ g=>xE g B1) _ _ g2;have i4:=dE (f:=fun st j=>ao az .sum j at_ st) (fun _ _=>cQ ..) (d9 n ((cS n s2 true b).foldl (fun st j=>ao az .sum at_ j st) s2) a) ((cS n s2 true b).foldl (fun st j=>ao az .sum at_ j st) s2);have i5:=dE (f:=fun st j=>ao (bj F) .back j at_ st) (fun _ _=>cQ ..) (cS n ((d9 n ((cS n s2 true b).foldl (fun st j=>ao az .sum at_ j st) s2) a).foldl (fun st j=>ao az .sum j at_ st) ((cS n s2 true b).foldl (fun st j=>ao az .sum at_ j st) s2)) false b) ((d9 n ((cS n s2 true b).foldl (fun st j=>ao az .sum at_ j st) s2) a).foldl (fun st j=>ao az .sum j at_ st) ((cS n s2 true b).foldl (fun st j=>ao az .sum at_ j st) s2));have b4:=f9 fun z=>i5.1.bar z bC;have b3:=f9 fun z=>i4.1.bar z b4;have b2:=f9 fun z=>i3.1.bar z b3;have A3:Add C s2 ((cS n s2 true b).foldl (fun st j=>ao az .sum at_ j st) s2):=xW (f:=fun st j=>ao az .sum at_ j st) (fun _ _=>cQ ..) _ s2 s2 (Imp.refl _) fun j hj sx hx=>by
  subst hC;obtain ⟨c,_,d8⟩:=K6 hj;obtain ⟨q,hq,hk⟩:=g2.at_ _ _ d8;obtain ⟨_,qa,qb⟩:=i_ hk;have y8:=g2.ne b2 j q hq;refine JA (cb hx.1 iR) (cb hx.1 hq) fun w e=>?_;unfold az at e;split at e
  ·cases e;have NB:c≠b:=fun z=>y8 (by rw [qa,qb,z]);refine ⟨fun _=>.inl ⟨pa,fun z=>y8 (by rw [qa];exact z.symm),q.v,?_,rfl⟩,nofun⟩;show val s (true,b,q.b)=_;rw [qb,<-CB c NB];exact qj d8 hq
  ·cases e
 generalize (cS n s2 true b).foldl (fun st j=>ao az .sum at_ j st) s2=s3 at*;have lT:=cb i3.1 iR;have A4:Add C s3 ((d9 n s3 a).foldl (fun st j=>ao az .sum j at_ st) s3):=xW (f:=fun st j=>ao az .sum j at_ st) (fun _ _=>cQ ..) _ s3 s3 (Imp.refl _) fun j hj sx hx=>by
  subst hC;obtain ⟨c,_,d8⟩:=Hv hj;obtain ⟨q,hq,hk⟩:=g3.at_ _ _ d8;obtain ⟨_,_,qb⟩:=i_ hk;have y8:=g3.ne b3 j q hq;refine JA (cb hx.1 hq) (cb hx.1 lT) fun w e=>?_;unfold az at e;split at e
  ·cases e;exact ⟨fun _=>.inr ⟨pb,fun z=>y8 (by rw [qb];exact z)⟩,nofun⟩
  ·cases e
 generalize (d9 n s3 a).foldl (fun st j=>ao az .sum j at_ st) s3=s4 at*;have Ik:=cb i4.1 lT;have A5:Add C s4 ((cS n s4 false b).foldl (fun st j=>ao (bj F) .back j at_ st) s4):=xW (f:=fun st j=>ao (bj F) .back j at_ st) (fun _ _=>cQ ..) _ s4 s4 (Imp.refl _) fun j _ sx hx=>sV fun w e=>by
  subst hC
  cases e1:ai sx j with
  | none=>rw [e1] at e;cases e
  | some q=>
   rw [e1] at e;have e:(ai sx at_).bind (fun p=>bj F q p)=some w:=e;rw [cb hx.1 Ik] at e;have e:bj F q p=some w:=e;unfold bj at e;split at e
   ·cases z:F q.b with
    | none=>rw [z] at e;cases e
    | some f=>
     rw [z] at e;cases e;have:=hF.num _ _ z;exact ⟨nofun,fun _=>⟨by show min q.v f.2.2-p.v<=_;lia,f,z⟩⟩
   ·cases e
 exact (((A1.trans i2.1 A2).trans i3.1 A3).trans i4.1 A4).trans i5.1 A5
theorem Zg:Add (fun w=>w.tie=false->∃f,F w.b=some f) s (fU n F at_ a s):=by
 unfold fU;dsimp only;have A1:Add (fun w:ak=>w.tie=false->∃f,F w.b=some f) s (aH (dt F) .sure at_ s):=sV fun w e ht=>by
  cases q:ai s at_ with
  | none=>rw [q] at e;cases e
  | some p=>
   rw [q] at e;have e:dt F p=some w:=e;unfold dt at e;split at e
   ·cases z:F p.b with
    | none=>rw [z] at e;cases e
    | some f=>rw [z] at e;cases e;cases ht
   ·cases e
 have i1:Imp s (aH (dt F) .sure at_ s):=gx _ _ _ _;generalize aH (dt F) .sure at_ s=s1 at*;have A2:Add (fun w:ak=>w.tie=false->∃f,F w.b=some f) s1 (aH (da F) .aw at_ s1):=sV fun w e ht=>by
  cases q:ai s1 at_ with
  | none=>rw [q] at e;cases e
  | some p=>
   rw [q] at e;have e:da F p=some w:=e;unfold da at e;split at e
   ·cases z:F p.a with
    | none=>rw [z] at e;cases e
    | some o=>
     rw [z] at e;have e:(F p.b).map (fun f=>(⟨false,o.1,p.b,min p.v f.2.2-o.2.1⟩:ak))=some w:=e
     cases z2:F p.b with
     | none=>rw [z2] at e;cases e
     | some f=>rw [z2] at e;cases e;exact ⟨f,z2⟩
   ·cases e
 have i2:Imp s1 (aH (da F) .aw at_ s1):=gx _ _ _ _;generalize aH (da F) .aw at_ s1=s2 at*;have A3:Add (fun w:ak=>w.tie=false->∃f,F w.b=some f) s2 ((d9 n s2 a).foldl (fun st j=>ao (bj F) .back at_ j st) s2):=xW (f:=fun st j=>ao (bj F) .back at_ j st) (fun _ _=>cQ ..) _ s2 s2 (Imp.refl _) fun j _ sx _=>sV fun w e ht=>by
  cases q1:ai sx at_ with
  | none=>rw [q1] at e;cases e
  | some p=>
   rw [q1] at e;have e:(ai sx j).bind (fun q=>bj F p q)=some w:=e
   cases q2:ai sx j with
   | none=>rw [q2] at e;cases e
   | some q=>
    rw [q2] at e;have e:bj F p q=some w:=e;unfold bj at e;split at e
    ·cases z:F p.b with
     | none=>rw [z] at e;cases e
     | some f=>rw [z] at e;cases e;exact ⟨f,z⟩
    ·cases e
 have i3:Imp s2 ((d9 n s2 a).foldl (fun st j=>ao (bj F) .back at_ j st) s2):=dE (fun _ _=>cQ ..) _ _;exact (A1.trans i2.1 A2).trans i3.1 A3
theorem iw (st:St) (o:Option ak) (word:Wd) (used:List Nat):(put st o word used).rows.length<=st.rows.length+1:=by
 cases o with
 | none=>exact oS _
 | some w=>
  show (take st w word used).rows.length<=_
  by_cases c:ir st w
  ·rw [(FQ c).2.2];exact av _
  ·rw [xN c];exact oS _
theorem qL (hf:∀s j,(f s j).rows.length<=s.rows.length+1):∀(l:List Nat) (s:St),(l.foldl f s).rows.length<=s.rows.length+l.length
 | [],s=>av _
 | j::l,s=>by have h1:=qL hf l (f s j);have h2:=hf s j;rw [mf];show (l.foldl f (f s j)).rows.length<=_;exact GU h1 h2
theorem G':(cS n st tie a).length<=n:=by have:=List.length_filterMap_le (fun b=>st.best (tie,a,b)) (List.range n);rw [tR] at this;exact this
theorem Hu:(d9 n st b).length<=n:=by have:=List.length_filterMap_le (fun a=>st.best (true,a,b)) (List.range n);rw [tR] at this;exact this
theorem zAs:(eD n F at_ a b s).rows.length<=s.rows.length+(2+3*n):=by unfold eD;dsimp only;have h1:(aH (dc F) .aD at_ s).rows.length<=s.rows.length+1:=iw _ _ _ _;generalize aH (dc F) .aD at_ s=s1 at*;have h2:(aH (dn F) .bp at_ s1).rows.length<=s1.rows.length+1:=iw _ _ _ _;generalize aH (dn F) .bp at_ s1=s2 at*;have h3:=qL (f:=fun st j=>ao az .sum at_ j st) (fun _ _=>iw _ _ _ _) (cS n s2 true b) s2;have k3:=G' (n:=n) (tie:=true) (st:=s2) (a:=b);generalize (cS n s2 true b).foldl (fun st j=>ao az .sum at_ j st) s2=s3 at*;have h4:=qL (f:=fun st j=>ao az .sum j at_ st) (fun _ _=>iw _ _ _ _) (d9 n s3 a) s3;have k4:=Hu (n:=n) (st:=s3) (b:=a);generalize (d9 n s3 a).foldl (fun st j=>ao az .sum j at_ st) s3=s4 at*;have h5:=qL (f:=fun st j=>ao (bj F) .back j at_ st) (fun _ _=>iw _ _ _ _) (cS n s4 false b) s4;have k5:=G' (n:=n) (tie:=false) (st:=s4) (a:=b);lia
theorem XJ:(fU n F at_ a s).rows.length<=s.rows.length+(2+n):=by unfold fU;dsimp only;have h1:(aH (dt F) .sure at_ s).rows.length<=s.rows.length+1:=iw _ _ _ _;generalize aH (dt F) .sure at_ s=s1 at*;have h2:(aH (da F) .aw at_ s1).rows.length<=s1.rows.length+1:=iw _ _ _ _;generalize aH (da F) .aw at_ s1=s2 at*;have h3:=qL (f:=fun st j=>ao (bj F) .back at_ j st) (fun _ _=>iw _ _ _ _) (d9 n s2 a) s2;have k3:=Hu (n:=n) (st:=s2) (b:=a);lia
theorem Xl (h8:n<=8):(look n F at_ s).rows.length<=s.rows.length+26:=by
 unfold look;split
 ·split
  ·split
   ·exact dq zAs (by lia)
   ·exact dq XJ (by lia)
  ·exact jQ
 ·exact jQ
theorem zBu (oB:x≠y):(if x<k+1 then 1 else 0)+(if y<k+1 then 1 else 0)<=(if x<k then 1 else 0)+(if y<k then 1 else 0)+1/\(¬(k=x\/k=y)->(if x<k+1 then 1 else 0)+(if y<k+1 then 1 else 0)=(if x<k then 1 else 0)+(if y<k then 1 else 0)):=by
 have one:∀z,k≠z->(if z<k+1 then 1 else 0)=(if z<k then 1 else 0):=fun z h=>by
  by_cases c:z<k
  ·rw [if_pos c,if_pos (Nat.lt_succ_of_lt c)]
  ·rw [if_neg c,if_neg (by lia)]
 by_cases a:k=x
 ·subst a;rw [one y oB,if_pos (Nat.lt_succ_self k),if_neg (j8 k)];exact ⟨by lia,fun h=>absurd (.inl rfl) h⟩
 ·rw [one x a]
  by_cases b:k=y
  ·subst b;rw [if_pos (Nat.lt_succ_self k),if_neg (j8 k)];exact ⟨av _,fun h=>absurd (.inr rfl) h⟩
  ·rw [one y b];exact ⟨oS _,fun _=>rfl⟩
theorem BZ {f:St->Nat->St} {g:Nat->Option Nat} {s0:St} {x y:Nat} (oB:x≠y) (hi:∀s j,Imp s (f s j)) (hf:∀s j,(f s j).rows.length<=s.rows.length+1) (hq:∀c j s,c=x\/c=y->g c=some j->Imp s0 s->(f s j).bar=none->(f s j).rows.length<=s.rows.length):
 ∀k,(((List.range k).filterMap g).foldl f s0).bar=none->(((List.range k).filterMap g).foldl f s0).rows.length+((if x<k then 1 else 0)+(if y<k then 1 else 0))<=s0.rows.length+k
 | 0,_=>av _
 | k+1,h=>by
  rw [List.range_succ,List.filterMap_append,w_] at h ⊢;have i0:Imp s0 (((List.range k).filterMap g).foldl f s0):=dE hi _ _;have ih:=BZ oB hi hf hq k;obtain ⟨l1,l2⟩:=zBu (k:=k) oB;generalize (if x<k then 1 else 0)+(if y<k then 1 else 0)=A at*;generalize (if x<k+1 then 1 else 0)+(if y<k+1 then 1 else 0)=B at*;generalize ((List.range k).filterMap g).foldl f s0=s at*
  cases hg:g k with
  | none=>
   rw [show [k].filterMap g=[] by rw [tS,hg];rfl] at h ⊢;have ih:=ih h;show s.rows.length+_<=_;lia
  | some j=>
   rw [show [k].filterMap g=[j] by rw [tS,hg];rfl] at h ⊢;have h:(f s j).bar=none:=h;have hs:s.bar=none:=f9 fun c=>(hi s j).1.bar c h;have h1:=hf s j;show (f s j).rows.length+_<=_
   by_cases c:k=x\/k=y
   ·have:=hq k j s c hg i0 h;lia
   ·have:=l2 c;lia
theorem Hg (g:cq n st) (hb:st.bar=none) (h:st.best (t,a,a)=some j):False:=by obtain ⟨w,h1,h2⟩:=g.at_ _ _ h;obtain ⟨_,e1,e2⟩:=i_ h2;exact g.ne hb j w h1 (e1.trans e2.symm)
theorem Sq {w:ak} (ht:w.tie=true) (e:w.a=w.b) (h:(take st w word used).bar=none):(take st w word used).rows.length<=st.rows.length:=by
 by_cases c:ir st w
 ·refine absurd h ?_;unfold take;rw [if_pos c];have c':=c;unfold ir at c';rw [if_pos ⟨ht,e⟩] at c';show (if st.bar=none/\iX w then some st.rows.length else st.bar)≠none
  by_cases z:st.bar=none
  ·rw [if_pos ⟨z,ht,e,c'⟩];exact fun h=>nomatch h
  ·rw [if_neg fun q=>z q.1];exact z
 ·rw [xN c];exact av _
theorem F7 (h1:ai s i=some p) (h2:ai s j=some q):ao f word i j s=put s (f p q) word [i,j]:=by unfold ao;rw [h1,h2];rfl
theorem XC (g:cq n s) (hp:ai s at_=some p) (pt:p.tie=true) (hn:s.bar=none) (hb:((cS n s true p.b).foldl (fun st j=>ao az .sum at_ j st) s).bar=none):((cS n s true p.b).foldl (fun st j=>ao az .sum at_ j st) s).rows.length+2<=s.rows.length+n:=by
 have hl:=g.lt _ _ hp;have h:=BZ (f:=fun st j=>ao az .sum at_ j st) (g:=fun c=>s.best (true,p.b,c)) (s0:=s) (x:=p.a) (y:=p.b) (g.ne hn _ _ hp) (fun _ _=>cQ ..) (fun _ _=>iw _ _ _ _) (fun c j s' hc hj i dO=>by
  have hj:s.best (true,p.b,c)=some j:=hj;rcases hc with rfl | rfl
  ·obtain ⟨q,h1,h2⟩:=g.at_ _ _ hj;obtain ⟨q1,q2,q3⟩:=i_ h2;have e:=F7 (f:=az) (word:=.sum) (cb i.1 hp) (cb i.1 h1);have e2:az p q=some ⟨true,p.a,q.b,p.v+q.v⟩:=if_pos ⟨pt,q1,q2.symm⟩;rw [e2] at e;have dO:(ao az .sum at_ j s').bar=none:=dO;show (ao az .sum at_ j s').rows.length<=_;rw [e] at dO ⊢;exact Sq (w:=⟨true,p.a,q.b,p.v+q.v⟩) rfl q3.symm dO
  ·exact (Hg g hn hj).elim) n hb
 rw [if_pos hl.1,if_pos hl.2] at h;exact h
theorem XD (g:cq n s) (hp:ai s at_=some p) (pt:p.tie=true) (hn:s.bar=none) (hb:((d9 n s p.a).foldl (fun st j=>ao az .sum j at_ st) s).bar=none):((d9 n s p.a).foldl (fun st j=>ao az .sum j at_ st) s).rows.length+2<=s.rows.length+n:=by
 have hl:=g.lt _ _ hp;have h:=BZ (f:=fun st j=>ao az .sum j at_ st) (g:=fun c=>s.best (true,c,p.a)) (s0:=s) (x:=p.a) (y:=p.b) (g.ne hn _ _ hp) (fun _ _=>cQ ..) (fun _ _=>iw _ _ _ _) (fun c j s' hc hj i dO=>by
  have hj:s.best (true,c,p.a)=some j:=hj;rcases hc with rfl | rfl
  ·exact (Hg g hn hj).elim
  ·obtain ⟨q,h1,h2⟩:=g.at_ _ _ hj;obtain ⟨q1,q2,q3⟩:=i_ h2;have e:=F7 (f:=az) (word:=.sum) (cb i.1 h1) (cb i.1 hp);have e2:az q p=some ⟨true,q.a,p.b,q.v+p.v⟩:=if_pos ⟨q1,pt,q3⟩;rw [e2] at e;have dO:(ao az .sum j at_ s').bar=none:=dO;show (ao az .sum j at_ s').rows.length<=_;rw [e] at dO ⊢;exact Sq (w:=⟨true,q.a,p.b,q.v+p.v⟩) rfl q2 dO) n hb
 rw [if_pos hl.1,if_pos hl.2] at h;exact h
theorem Yt (g:cq n s) (hp:ai s at_=some p) (hn:s.bar=none) (hb:((cS n s false p.b).foldl (fun st j=>ao (bj F) .back j at_ st) s).bar=none):((cS n s false p.b).foldl (fun st j=>ao (bj F) .back j at_ st) s).rows.length+2<=s.rows.length+n:=by
 have hl:=g.lt _ _ hp;have h:=BZ (f:=fun st j=>ao (bj F) .back j at_ st) (g:=fun c=>s.best (false,p.b,c)) (s0:=s) (x:=p.a) (y:=p.b) (g.ne hn _ _ hp) (fun _ _=>cQ ..) (fun _ _=>iw _ _ _ _) (fun c j s' hc hj i _=>by
  have hj:s.best (false,p.b,c)=some j:=hj;rcases hc with rfl | rfl
  ·obtain ⟨q,h1,h2⟩:=g.at_ _ _ hj;obtain ⟨_,_,q3⟩:=i_ h2;have e:=F7 (f:=bj F) (word:=.back) (cb i.1 h1) (cb i.1 hp);have e2:bj F q p=none:=if_neg fun z=>z.2.2.2 q3.symm;rw [e2] at e;show (ao (bj F) .back j at_ s').rows.length<=_;rw [e];exact av _
  ·exact (Hg g hn hj).elim) n hb
 rw [if_pos hl.1,if_pos hl.2] at h;exact h
theorem Yu (g:cq n s) (hp:ai s at_=some p) (hn:s.bar=none) (hb:((d9 n s p.a).foldl (fun st j=>ao (bj F) .back at_ j st) s).bar=none):((d9 n s p.a).foldl (fun st j=>ao (bj F) .back at_ j st) s).rows.length+2<=s.rows.length+n:=by
 have hl:=g.lt _ _ hp;have h:=BZ (f:=fun st j=>ao (bj F) .back at_ j st) (g:=fun c=>s.best (true,c,p.a)) (s0:=s) (x:=p.a) (y:=p.b) (g.ne hn _ _ hp) (fun _ _=>cQ ..) (fun _ _=>iw _ _ _ _) (fun c j s' hc hj i _=>by
  have hj:s.best (true,c,p.a)=some j:=hj;rcases hc with rfl | rfl
  ·exact (Hg g hn hj).elim
  ·obtain ⟨q,h1,h2⟩:=g.at_ _ _ hj;obtain ⟨_,q2,_⟩:=i_ h2;have e:=F7 (f:=bj F) (word:=.back) (cb i.1 hp) (cb i.1 h1);have e2:bj F p q=none:=if_neg fun z=>z.2.2.2 q2;rw [e2] at e;show (ao (bj F) .back at_ j s').rows.length<=_;rw [e];exact av _) n hb
 rw [if_pos hl.1,if_pos hl.2] at h;exact h
theorem XF (hF:iE n F most) (g:cq n s) (hp:ai s at_=some p) (pt:p.tie=true) (hb:(eD n F at_ p.a p.b s).bar=none):(eD n F at_ p.a p.b s).rows.length+4<=s.rows.length+3*n:=by unfold eD at hb ⊢;dsimp only at hb ⊢;have h1:(aH (dc F) .aD at_ s).rows.length<=s.rows.length+1:=iw _ _ _ _;have g1:cq n (aH (dc F) .aD at_ s):=oq g BD;have p1:=cb (gx (dc F) .aD at_ s).1 hp;generalize aH (dc F) .aD at_ s=s1 at*;have h2:(aH (dn F) .bp at_ s1).rows.length<=s1.rows.length+1:=iw _ _ _ _;have g2:cq n (aH (dn F) .bp at_ s1):=oq g1 (BF hF);have p2:=cb (gx (dn F) .bp at_ s1).1 p1;generalize aH (dn F) .bp at_ s1=s2 at*;have h3:=XC g2 p2 pt;have i3:Imp s2 ((cS n s2 true p.b).foldl (fun st j=>ao az .sum at_ j st) s2):=dE (fun _ _=>cQ ..) _ _;have g3:cq n ((cS n s2 true p.b).foldl (fun st j=>ao az .sum at_ j st) s2):=vV (fun _ _ g=>xE g B1) _ _ g2;generalize (cS n s2 true p.b).foldl (fun st j=>ao az .sum at_ j st) s2=s3 at*;have p3:=cb i3.1 p2;have h4:=XD g3 p3 pt;have i4:Imp s3 ((d9 n s3 p.a).foldl (fun st j=>ao az .sum j at_ st) s3):=dE (fun _ _=>cQ ..) _ _;have g4:cq n ((d9 n s3 p.a).foldl (fun st j=>ao az .sum j at_ st) s3):=vV (fun _ _ g=>xE g B1) _ _ g3;generalize (d9 n s3 p.a).foldl (fun st j=>ao az .sum j at_ st) s3=s4 at*;have p4:=cb i4.1 p3;have i5:Imp s4 ((cS n s4 false p.b).foldl (fun st j=>ao (bj F) .back j at_ st) s4):=dE (fun _ _=>cQ ..) _ _;have b4:s4.bar=none:=f9 fun c=>i5.1.bar c hb;have b3:s3.bar=none:=f9 fun c=>i4.1.bar c b4;have b2:s2.bar=none:=f9 fun c=>i3.1.bar c b3;have h5:=Yt g4 p4 b4 hb;lia
theorem Sn (hF:iE n F most) (g:cq n s) (hp:ai s at_=some p) (hb:(fU n F at_ p.a s).bar=none):(fU n F at_ p.a s).rows.length<=s.rows.length+n:=by unfold fU at hb ⊢;dsimp only at hb ⊢;have h1:(aH (dt F) .sure at_ s).rows.length<=s.rows.length+1:=iw _ _ _ _;have g1:cq n (aH (dt F) .sure at_ s):=oq g (FL hF);have p1:=cb (gx (dt F) .sure at_ s).1 hp;generalize aH (dt F) .sure at_ s=s1 at*;have h2:(aH (da F) .aw at_ s1).rows.length<=s1.rows.length+1:=iw _ _ _ _;have g2:cq n (aH (da F) .aw at_ s1):=oq g1 (Hj hF);have p2:=cb (gx (da F) .aw at_ s1).1 p1;generalize aH (da F) .aw at_ s1=s2 at*;have i3:Imp s2 ((d9 n s2 p.a).foldl (fun st j=>ao (bj F) .back at_ j st) s2):=dE (fun _ _=>cQ ..) _ _;have b2:s2.bar=none:=f9 fun c=>i3.1.bar c hb;have h3:=Yu g2 p2 b2 hb;lia
def pw (n:Nat) (F:dh) (s0:St) (t a b:Nat):Prop:=∃w,ai (run n F s0 t) t=some w/\w.tie=false/\w.a=a/\w.b=b/\(run n F s0 t).best (false,a,b)=some t
theorem step (n:Nat) (F:dh) (s0:St) (hl:t<(run n F s0 t).rows.length):
 (∃p,ai (run n F s0 t) t=some p/\p.tie=true/\pt n F s0 t p.a p.b/\run n F s0 (t+1)=eD n F t p.a p.b (run n F s0 t))\/
 (∃p,ai (run n F s0 t) t=some p/\p.tie=false/\pw n F s0 t p.a p.b/\run n F s0 (t+1)=fU n F t p.a (run n F s0 t))\/
 ((∀a b,¬pt n F s0 t a b)/\(∀a b,¬pw n F s0 t a b)/\run n F s0 (t+1)=run n F s0 t):=by
 obtain ⟨p,hp⟩:∃p,ai (run n F s0 t) t=some p:=⟨_,by unfold ai;rw [lz hl];rfl⟩;have hl:run n F s0 (t+1)=look n F t (run n F s0 t):=rfl
 by_cases hb:(run n F s0 t).best p.key=some t
 ·cases w4:p.tie with
  | true=>
   have iB:(run n F s0 t).best (true,p.a,p.b)=some t:=by rw [<-hb];unfold ak.key;rw [w4]
   exact .inl ⟨p,hp,w4,⟨p,hp,w4,rfl,rfl,iB⟩,hl.trans (FD hp w4 rfl rfl iB)⟩
  | false=>
   have iB:(run n F s0 t).best (false,p.a,p.b)=some t:=by rw [<-hb];unfold ak.key;rw [w4]
   exact .inr (.inl ⟨p,hp,w4,⟨p,hp,w4,rfl,rfl,iB⟩,hl.trans (K7 hp w4 hb)⟩)
 ·refine .inr (.inr ⟨fun a b h=>?_,fun a b h=>?_,hl.trans (RE hp hb)⟩)
  ·obtain ⟨w,h1,h2,h3,h4,h5⟩:=h;rw [hp] at h1;cases h1;exact hb (by unfold ak.key;rw [h2,h3,h4];exact h5)
  ·obtain ⟨w,h1,h2,h3,h4,h5⟩:=h;rw [hp] at h1;cases h1;exact hb (by unfold ak.key;rw [h2,h3,h4];exact h5)
theorem sZ (e:Ext s s') {w:ak} (hi:i<s.rows.length) (h:ai s' i=some w):ai s i=some w:=by obtain ⟨p,hp⟩:∃p,ai s i=some p:=⟨_,by unfold ai;rw [lz hi];rfl⟩;rw [cb e hp] at h;cases h;exact hp
theorem QY (hF:iE n F most) (g0:cq n s0) (w0:∀a b,val s0 (false,a,b)=none) (hl:∀t,t<T->t<(run n F s0 t).rows.length) (hb:∀t,t<=T->(run n F s0 t).bar=none):∀t,t<=T->∀i w,ai (run n F s0 t) i=some w->w.tie=false->∃f,F w.b=some f
 | 0,_,i,w,h,ht=>by
  obtain ⟨j,_,hj⟩:=g0.top i w h;obtain ⟨u,hu,_⟩:=g0.at_ _ _ hj;have:=qj hj hu;have hk:w.key=(false,w.a,w.b):=by unfold ak.key;rw [ht]
  rw [hk,w0] at this;cases this
 | t+1,hT,i,w,h,ht=>by
  have ih:=QY hF g0 w0 hl hb t (by exact aS hT);have gd:=Ah hF g0 t
  by_cases hi:i<(run n F s0 t).rows.length
  ·exact ih i w (sZ (vT n F t (run n F s0 t)).1 hi h) ht
  ·rcases step n F s0 (hl t (by exact hT)) with ⟨p,hp,_,_,e⟩ | ⟨p,hp,_,_,e⟩ | ⟨_,_,e⟩
   ·have bC:=hb (t+1) hT;rw [e] at bC h;exact ((Kr hF gd hp rfl rfl bC i w (by exact mh hi) h).2 ht).2
   ·rw [e] at h;exact Zg i w (by exact mh hi) h ht
   ·rw [e] at h;exact absurd (oh h) (by omega)
theorem XM (hp:ai s at_=some p):Add (fun w=>w.tie=true->w.a=p.a) s (fU n F at_ p.a s):=by
 unfold fU;dsimp only;have A1:Add (fun w:ak=>w.tie=true->w.a=p.a) s (aH (dt F) .sure at_ s):=xt hp fun w e ht=>by
  unfold dt at e;split at e
  ·cases z:F p.b with
   | none=>rw [z] at e;cases e
   | some f=>rw [z] at e;cases e;rfl
  ·cases e
 have i1:Imp s (aH (dt F) .sure at_ s):=gx _ _ _ _;generalize aH (dt F) .sure at_ s=s1 at*;have A2:Add (fun w:ak=>w.tie=true->w.a=p.a) s1 (aH (da F) .aw at_ s1):=sV fun w e ht=>by
  cases q:ai s1 at_ with
  | none=>rw [q] at e;cases e
  | some p=>
   rw [q] at e;have e:da F p=some w:=e;unfold da at e;split at e
   ·cases z:F p.a with
    | none=>rw [z] at e;cases e
    | some o=>
     rw [z] at e;have e:(F p.b).map (fun f=>(⟨false,o.1,p.b,min p.v f.2.2-o.2.1⟩:ak))=some w:=e
     cases z2:F p.b with
     | none=>rw [z2] at e;cases e
     | some f=>rw [z2] at e;cases e;cases ht
   ·cases e
 have i2:Imp s1 (aH (da F) .aw at_ s1):=gx _ _ _ _;generalize aH (da F) .aw at_ s1=s2 at*;have A3:Add (fun w:ak=>w.tie=true->w.a=p.a) s2 ((d9 n s2 p.a).foldl (fun st j=>ao (bj F) .back at_ j st) s2):=xW (f:=fun st j=>ao (bj F) .back at_ j st) (fun _ _=>cQ ..) _ s2 s2 (Imp.refl _) fun j _ sx _=>sV fun w e ht=>by
  cases q1:ai sx at_ with
  | none=>rw [q1] at e;cases e
  | some p=>
   rw [q1] at e;have e:(ai sx j).bind (fun q=>bj F p q)=some w:=e
   cases q2:ai sx j with
   | none=>rw [q2] at e;cases e
   | some q=>
    rw [q2] at e;have e:bj F p q=some w:=e;unfold bj at e;split at e
    ·cases z:F p.b with
     | none=>rw [z] at e;cases e
     | some f=>rw [z] at e;cases e;cases ht
    ·cases e
 have i3:Imp s2 ((d9 n s2 p.a).foldl (fun st j=>ao (bj F) .back at_ j st) s2):=dE (fun _ _=>cQ ..) _ _;exact (A1.trans i2.1 A2).trans i3.1 A3
theorem zDj {l mo:Nat} (h8:n<=8) (hF:iE n F (mo:Int)) (g0:cq n s0) (told:∀i,0<i->i<n->(∃v,v<=(l:Int)/\val s0 (true,0,i)=some v)/\∃v,v<=0/\val s0 (true,i,0)=some v) (w0:∀a b,val s0 (false,a,b)=none)
 {T:Nat} (hl:∀t,t<T->t<(run n F s0 t).rows.length) (hb:∀t,t<=T->(run n F s0 t).bar=none):
 MH.Bd n (l:Int) (mo:Int) T (fun t=>(run n F s0 t).rows.length) (fun t a b=>val (run n F s0 t) (true,a,b)) (fun t a b=>val (run n F s0 t) (false,a,b)) (pt n F s0) (pw n F s0):=by
 have gd:=Ah hF g0;have g8:∀t a b,pt n F s0 t a b->∃w,ai (run n F s0 t) t=some w/\w.tie=true/\w.a=a/\w.b=b/\val (run n F s0 t) (true,a,b)=some w.v/\run n F s0 (t+1)=eD n F t a b (run n F s0 t):=fun t a b ⟨w,h1,h2,h3,h4,h5⟩=>⟨w,h1,h2,h3,h4,qj h5 h1,FD h1 h2 h3 h4 h5⟩;have kR:∀t a b,pw n F s0 t a b->∃w,ai (run n F s0 t) t=some w/\w.tie=false/\w.a=a/\w.b=b/\val (run n F s0 t) (false,a,b)=some w.v/\(run n F s0 t).best (false,a,b)=some t:=fun t a b ⟨w,h1,h2,h3,h4,h5⟩=>⟨w,h1,h2,h3,h4,qj h5 h1,h5⟩;have ends:=QY hF g0 w0 hl hb;have wm:∀t a b v,t<T->val (run n F s0 t) (false,a,b)=some v->∃v',v<=v'/\val (run n F s0 (t+1)) (false,a,b)=some v':=fun t a b v ht h=>by have cK:=(sR (gd t) (hb t (by exact aS ht)) h).1;obtain ⟨u',h1,h2⟩:=(vT n F t (run n F s0 t)).2 (false,a,b) v cK h;refine ⟨u',?_,h1⟩;unfold dR at h2;simp at h2;exact h2
 have wms:∀t a b v,val (run n F s0 t) (false,a,b)=some v->∀d,t+d<=T->∃v',v<=v'/\val (run n F s0 (t+d)) (false,a,b)=some v':=fun t a b v h d=>by
  induction d with
  | zero=>exact fun _=>⟨v,jg _,h⟩
  | succ d ih=>
   intro hd;obtain ⟨v1,h1,e1⟩:=ih (by exact aS hd);obtain ⟨v2,h2,e2⟩:=wm (t+d) a b v1 (by exact hd) e1;exact ⟨v2,o_ h1 h2,e2⟩
 have once:∀(k:Key) (t t':Nat) (x x':ak),t<t'->ai (run n F s0 t) t=some x->ai (run n F s0 t') t'=some x'->x'.key=k->(run n F s0 t).best k=some t->(run n F s0 t).rows.length<=t':=fun k t t' x x' lN _ rG hk d8=>by refine f9 fun c=>?_;have h1:=sZ (u4 (n:=n) (F:=F) (s:=s0) (aS lN)).1 (xT c) rG;obtain ⟨j,hj,rR⟩:=(gd t).top t' x' h1;rw [hk,d8] at rR;cases rR;exact BL lN hj
 exact
 { n8:=h8
   L0:=Int.natCast_nonneg _
   C0:=Int.natCast_nonneg _
   go:=hl
   yO:=fun t _=>(vT n F t (run n F s0 t)).1.len
   lt:=fun t a b v ht h=>by obtain ⟨x1,x2,x3⟩:=sR (gd t) (hb t ht) h;exact ⟨x2,x3,x1⟩
   known:=fun t a b _ h=>by obtain ⟨w,_,_,_,_,h5,_⟩:=g8 t a b h;exact ⟨w.v,h5⟩
   jr:=fun t a b ht h=>by obtain ⟨w,_,_,_,_,h5,_⟩:=kR t a b h;obtain ⟨x1,x2,x3⟩:=sR (gd t) (hb t (by exact aS ht)) h5;exact ⟨x2,x3,x1,w.v,h5⟩
   mono:=fun t a b v ht h=>by have cK:=(sR (gd t) (hb t (by exact aS ht)) h).1;obtain ⟨u',h1,h2⟩:=(vT n F t (run n F s0 t)).2 (true,a,b) v cK h;refine ⟨u',?_,h1⟩;unfold dR at h2;simp at h2;exact h2
   Cc:=wm
   told:=told
   we:=w0
   sum:=fun t a b c v u ht h hv hu wN=>by obtain ⟨w,h1,h2,h3,h4,h5,h6⟩:=g8 t a b h;have hv:val (run n F s0 t) (true,a,b)=some v:=hv;rw [hv] at h5;cases h5;have zu:=sR (gd t) (hb t (by exact aS ht)) hu;obtain ⟨x,hx,ex⟩:=(Qd hF (gd t) h1 h2 h3 h4 hu zu.1 zu.2.2).1 wN;refine ⟨x,hx,?_⟩;show val (run n F s0 (t+1)) _=_;rw [h6];exact ex
   bar:=fun t a b v u ht h hv hu=>by obtain ⟨w,h1,h2,h3,h4,h5,h6⟩:=g8 t a b h;have hv:val (run n F s0 t) (true,a,b)=some v:=hv;rw [hv] at h5;cases h5;have zu:=sR (gd t) (hb t (by exact aS ht)) hu;refine f9 fun hc=>?_;have:=(Qd hF (gd t) h1 h2 h3 h4 hu zu.1 zu.2.2).2 rfl (vY hc);rw [<-h6] at this;exact this (hb (t+1) ht)
   one:=fun t a b a' b' _ h h'=>by obtain ⟨w,h1,_,h3,h4,_⟩:=g8 t a b h;obtain ⟨w',jV,_,rY,pL,_⟩:=g8 t a' b' h';rw [h1] at jV;cases jV;exact ⟨h3.symm.trans rY,h4.symm.trans pL⟩
   LN:=fun t a b a' b' _ h h'=>by obtain ⟨w,h1,_,h3,h4,_⟩:=kR t a b h;obtain ⟨w',jV,_,rY,pL,_⟩:=kR t a' b' h';rw [h1] at jV;cases jV;exact ⟨h3.symm.trans rY,h4.symm.trans pL⟩
   apart:=fun t a b a' b' _ h h'=>by obtain ⟨w,h1,h2,_⟩:=g8 t a b h;obtain ⟨w',jV,oJ,_⟩:=kR t a' b' h';rw [h1] at jV;cases jV;rw [h2] at oJ;cases oJ
   cause:=fun t a b ht h=>by
    have h:val (run n F s0 (t+1)) (true,a,b)≠val (run n F s0 t) (true,a,b):=h;obtain ⟨j,w,hj,hw,hk,hv⟩:=JS (gd t) (gd (t+1)) (vT n F t (run n F s0 t)).1 (k:=(true,a,b)) h;obtain ⟨kt,ka,kb⟩:=i_ hk;have hv:val (run n F s0 (t+1)) (true,a,b)=some w.v:=hv;have bC:=hb (t+1) ht;rcases step n F s0 (hl t ht) with ⟨p,hp,nj,jU,e⟩ | ⟨p,hp,nj,AG,e⟩ | ⟨_,_,e⟩
    ·have hw:ai (run n F s0 (t+1)) j=some w:=hw;rw [e] at hw bC;rcases (Kr hF (gd t) hp rfl rfl bC j w hj hw).1 kt with ⟨h1,h2,q,hq,hwv⟩ | ⟨h1,h2⟩
     ·rw [ka] at h1;rw [kb] at h2 hq;subst h1;obtain ⟨w',k1,_,_,_,k5,_⟩:=g8 t _ _ jU;rw [hp] at k1;cases k1;exact .inl ⟨p.b,p.v,q,w.v,jU,aB h2,k5,hq,hv,by lia⟩
     ·rw [kb] at h1;rw [ka] at h2;subst h1;exact .inr (.inl ⟨p.a,jU,aB h2⟩)
    ·
     have hw:ai (run n F s0 (t+1)) j=some w:=hw;have g':cq n (fU n F t p.a (run n F s0 t)):=by rw [<-e];exact gd (t+1)
     have rW:=bC;rw [e] at hw rW;obtain ⟨B,IE,hB⟩:∃B:Int,0<=B/\∀x v,val (fU n F t p.a (run n F s0 t)) (true,x,p.a)=some v->-B<=v:=by
      have:∀k,∃B:Int,0<=B/\∀x v,x<k->val (fU n F t p.a (run n F s0 t)) (true,x,p.a)=some v->-B<=v:=by
       intro k
       induction k with
       | zero=>exact ⟨0,jg _,fun x v hx=>absurd hx (oR _)⟩
       | succ k ih=>
        obtain ⟨B,h0,h1⟩:=ih
        cases q:val (fU n F t p.a (run n F s0 t)) (true,k,p.a) with
        | none=>
         refine ⟨B,h0,fun x v hx hv=>?_⟩
         by_cases e:x=k
         ·rw [e,q] at hv;cases hv
         ·exact h1 x v (tj hx e) hv
        | some u=>
         refine ⟨max B (-u),Yy h0,fun x v hx hv=>?_⟩
         by_cases e:x=k
         ·rw [e,q] at hv;cases hv;exact Ya
         ·have:=h1 x v (tj hx e) hv;exact Ys this
      obtain ⟨B,h0,h1⟩:=this n;exact ⟨B,h0,fun x v hv=>h1 x v (sR g' rW hv).2.1 hv⟩
     have rN:=(QU hF (gd t) hp nj rfl hB IE rW j w hj hw).1 kt;have own:w.a=p.a:=by have:=XM (F:=F) (n:=n) hp j w hj hw kt;exact this
     rw [ka] at own;subst own;exact .inr (.inr ⟨p.b,w.v,AG,hv,rN⟩)
    ·have hw:ai (run n F s0 (t+1)) j=some w:=hw;rw [e] at hw;exact absurd (oh hw) (by exact Nat.not_lt_of_le hj)
   aD:=fun t a b e v v' ht h hv hte heT AG eO=>by
    obtain ⟨w,h1,h2,h3,h4,h5,h6⟩:=g8 t a b h;have hv:val (run n F s0 t) (true,a,b)=some v:=hv;rw [hv] at h5;cases h5;obtain ⟨x,k1,k2,k3,k4,_⟩:=kR e a b AG;obtain ⟨f,hf⟩:=ends e (by exact aS heT) e x k1 k2;rw [k4] at hf;have cK:=(sR (gd t) (hb t (by exact aS ht)) hv).1;have MO:=hF.num _ _ hf;have hd:aH (dc F) .aD t (run n F s0 t)=take (run n F s0 t) ⟨false,a,b,f.2.2-w.v⟩ .aD [t]:=by unfold aH;rw [h1];show put _ (dc F w) _ _=_;unfold dc;rw [if_pos ⟨h2,by rw [h3,h4];exact cK⟩,h4,hf,h3];rfl
    obtain ⟨u,hu,nu⟩:=Hs (st:=run n F s0 t) (word:=.aD) (used:=[t]) (w:=⟨false,a,b,f.2.2-w.v⟩) cK;have iz:Imp (aH (dc F) .aD t (run n F s0 t)) (eD n F t a b (run n F s0 t)):=by unfold eD;dsimp only;exact (((gx _ _ _ _).trans (dE (fun _ _=>cQ ..) _ _)).trans (dE (fun _ _=>cQ ..) _ _)).trans (dE (fun _ _=>cQ ..) _ _)
    rw [hd] at iz;obtain ⟨u2,yT,Vu⟩:=iz.2 (false,a,b) u cK hu;rw [<-h6] at yT;have rJ:t+1<=e\/t=e:=by lia
    rcases rJ with rJ | rJ
    ·obtain ⟨u3,l3,e3⟩:=wms (t+1) a b u2 yT (e-(t+1)) (by lia);rw [show t+1+(e-(t+1))=e by exact m_ rJ] at e3;have eO:val (run n F s0 e) (false,a,b)=some v':=eO;rw [eO] at e3;cases e3;unfold dR at nu Vu;simp at nu Vu;lia
    ·subst rJ;rw [h1] at k1;cases k1;rw [h2] at k2;cases k2
   qM:=fun t a b B ht IE hB h=>by
    have h:val (run n F s0 (t+1)) (false,a,b)≠val (run n F s0 t) (false,a,b):=h;obtain ⟨j,w,hj,hw,hk,hv⟩:=JS (gd t) (gd (t+1)) (vT n F t (run n F s0 t)).1 (k:=(false,a,b)) h;obtain ⟨kt,_⟩:=i_ hk;have hv:val (run n F s0 (t+1)) (false,a,b)=some w.v:=hv;have hw:ai (run n F s0 (t+1)) j=some w:=hw;have bC:=hb (t+1) ht;refine ⟨w.v,hv,?_⟩;rcases step n F s0 (hl t ht) with ⟨p,hp,nj,jU,e⟩ | ⟨p,hp,nj,AG,e⟩ | ⟨_,_,e⟩
    ·have hpv: -B<=p.v:=by
      obtain ⟨w',k1,_,_,_,k5,_⟩:=g8 t _ _ jU;rw [hp] at k1;cases k1;have cK:=(sR (gd t) (hb t (by exact aS ht)) k5).1;obtain ⟨u',q1,q2⟩:=(vT n F t (run n F s0 t)).2 (true,p.a,p.b) p.v cK k5;have:=hB p.a p.b u' q1;unfold dR at q2;simp at q2;exact o_ this q2
     rw [e] at hw bC;have:=((Kr hF (gd t) hp rfl rfl bC j w hj hw).2 kt).1;lia
    ·have hB':∀x v,val (fU n F t p.a (run n F s0 t)) (true,x,p.a)=some v->-B<=v:=fun x v hx=>by
      rw [<-e] at hx;exact hB x p.a v hx
     rw [e] at hw bC;exact (QU hF (gd t) hp nj rfl hB' IE bC j w hj hw).2 kt
    ·rw [e] at hw;exact absurd (oh hw) (by exact Nat.not_lt_of_le hj)
   grow:=fun t ht=>by
    have dO:=hb (t+1) ht;rcases step n F s0 (hl t ht) with ⟨p,hp,nj,_,e⟩ | ⟨p,hp,_,_,e⟩ | ⟨_,_,e⟩
    ·have:=XF hF (gd t) hp nj (by rw [<-e];exact dO);show (run n F s0 (t+1)).rows.length<=(run n F s0 t).rows.length+20;rw [e];lia
    ·have:=Sn hF (gd t) hp (by rw [<-e];exact dO);show (run n F s0 (t+1)).rows.length<=(run n F s0 t).rows.length+20;rw [e];lia
    ·show (run n F s0 (t+1)).rows.length<=_;rw [e];exact pR _ _
   wQ:=fun t ht kM=>by
    rcases step n F s0 (hl t ht) with ⟨p,_,_,jU,_⟩ | ⟨p,hp,_,_,e⟩ | ⟨_,_,e⟩
    ·exact absurd jU (kM _ _)
    ·have:=Sn hF (gd t) hp (by rw [<-e];exact hb (t+1) ht);show (run n F s0 (t+1)).rows.length<=(run n F s0 t).rows.length+8;rw [e];lia
    ·show (run n F s0 (t+1)).rows.length<=_;rw [e];exact pR _ _
   wR:=fun t ht kM hnw=>by
    rcases step n F s0 (hl t ht) with ⟨p,_,_,jU,_⟩ | ⟨p,_,_,AG,_⟩ | ⟨_,_,e⟩
    ·exact absurd jU (kM _ _)
    ·exact absurd AG (hnw _ _)
    ·show (run n F s0 (t+1)).rows.length=_;rw [e]
   eW:=fun t0 t a b v ht h0 h1 hv eO=>by
    have hv:val (run n F s0 t0) (true,a,b)=some v:=hv;have eO:val (run n F s0 t) (true,a,b)=some v:=eO;obtain ⟨j,w,hj,hw,hk,_⟩:=BI (gd t0) hv;obtain ⟨j',w',kN,lj,pJ,Mm⟩:=BI (gd t) eO;have ejj:j=j':=f9 fun c=>Z9 h1 (gd t0) (gd t) (hb t ht) hj kN c (eO.trans hv.symm);subst ejj;obtain ⟨_,_⟩:=i_ hk;have Nc:=oh hw;have Nb:j<t:=by exact gM Nc h0
    obtain ⟨p,hp⟩:∃p,ai (run n F s0 j) j=some p:=⟨_,by unfold ai;rw [lz (hl j (by lia))];rfl⟩;have iR:=cb (u4 (n:=n) (F:=F) (s:=s0) (aS Nb)).1 hp;rw [lj] at iR;cases iR;obtain ⟨kt',ka',kb'⟩:=i_ pJ;obtain ⟨i,hi,iB⟩:=(gd j).top j w' hp;rw [pJ] at iB;have:=Ro (aS Nb) (gd j) iB kN;have e:i=j:=by lia
    rw [e] at iB;exact ⟨j,Nb,⟨w',hp,kt',ka',kb',iB⟩,by show val (run n F s0 j) (true,a,b)=some v;rw [qj iB hp,Mm]⟩
   drop:=fun t t' a b v v' lN hT h h' hv eO=>by obtain ⟨w,h1,h2,h3,h4,h5,_⟩:=g8 t a b h;obtain ⟨w',jV,oJ,rY,pL,DA,_⟩:=g8 t' a b h';have hv:val (run n F s0 t) (true,a,b)=some v:=hv;have eO:val (run n F s0 t') (true,a,b)=some v':=eO;rw [hv] at h5;rw [eO] at DA;cases h5;cases DA;have:=(gd t').drop (hb t' (by exact aS hT)) t t' w w' (cb (u4 (aS lN)).1 h1) jV (by unfold ak.key;rw [h2,h3,h4,oJ,rY,pL]) lN;unfold dR at this;rw [h2] at this;simp at this;exact this
   wg:=fun t t' a b v v' lN hT h h' hv eO=>by obtain ⟨w,h1,h2,h3,h4,h5,_⟩:=kR t a b h;obtain ⟨w',jV,oJ,rY,pL,DA,_⟩:=kR t' a b h';have hv:val (run n F s0 t) (false,a,b)=some v:=hv;have eO:val (run n F s0 t') (false,a,b)=some v':=eO;rw [hv] at h5;rw [eO] at DA;cases h5;cases DA;have:=(gd t').drop (hb t' (by exact aS hT)) t t' w w' (cb (u4 (aS lN)).1 h1) jV (by unfold ak.key;rw [h2,h3,h4,oJ,rY,pL]) lN;unfold dR at this;rw [h2] at this;simp at this;exact this
   once:=fun t t' a b lN _ h h'=>by obtain ⟨w,h1,_⟩:=g8 t a b h;obtain ⟨w',jV,oJ,rY,pL,_,_⟩:=g8 t' a b h';obtain ⟨_,_,_,_,_,h5⟩:=h;exact once (true,a,b) t t' w w' lN h1 jV (by unfold ak.key;rw [oJ,rY,pL]) h5
   o4:=fun t t' a b lN _ h h'=>by obtain ⟨w,h1,_,_,_,_,h5⟩:=kR t a b h;obtain ⟨w',jV,oJ,rY,pL,_,_⟩:=kR t' a b h';exact once (false,a,b) t t' w w' lN h1 jV (by unfold ak.key;rw [oJ,rY,pL]) h5 }
theorem ZE (h8:n<=8) (hF:iE n F ((60:Nat):Int)) (g0:cq n s0) (told:∀i,0<i->i<n->(∃v,v<=((60:Nat):Int)/\val s0 (true,0,i)=some v)/\∃v,v<=0/\val s0 (true,i,0)=some v) (w0:∀a b,val s0 (false,a,b)=none) (h0:s0.rows.length<=1000):
 ∃T,((run n F s0 T).rows.length<=T\/(run n F s0 T).bar≠none)/\(∀t,t<T->t<(run n F s0 t).rows.length/\(run n F s0 t).bar=none)/\∀t,t<=T->(run n F s0 t).rows.length<=16000000:=by
 have key:∀T,(∀t,t<T->t<(run n F s0 t).rows.length/\(run n F s0 t).bar=none)->(run n F s0 T).rows.length<=15900000+26:=fun T h=>by
  cases T with
  | zero=>exact dq h0 (by decide)
  | succ T=>
   have b:=(zDj (l:=60) (mo:=60) h8 hF g0 told w0 (T:=T) (fun t ht=>(h t (by exact iN ht)).1) (fun t ht=>(h t (FY ht)).2)).rows;have b:(run n F s0 T).rows.length<=(run n F s0 0).rows.length+1568*(7*(7*(60+1)+7*(60+1)+1))+20*(56*(2*60+1))+8*((56*(2*60+1)+56*(60+60+1))*56+(56*(60+2*60+1)+56)):=b;have e0:(run n F s0 0).rows.length=s0.rows.length:=rfl;have l:=Xl (n:=n) (F:=F) (at_:=T) (s:=run n F s0 T) h8;have l:(run n F s0 (T+1)).rows.length<=(run n F s0 T).rows.length+26:=l;rw [e0] at b;lia
 have hex:∃T,(run n F s0 T).rows.length<=T\/(run n F s0 T).bar≠none:=f9 fun hn=>by have all:∀t,t<(run n F s0 t).rows.length/\(run n F s0 t).bar=none:=fun t=>⟨f9 fun c=>hn ⟨t,.inl (by exact mh c)⟩,f9 fun c=>hn ⟨t,.inr c⟩⟩;have h1:=key 16000000 fun t _=>all t;have h2:=(all 16000000).1;lia
 have least:∀N,(∃T,T<=N/\((run n F s0 T).rows.length<=T\/(run n F s0 T).bar≠none)/\∀t,t<T->t<(run n F s0 t).rows.length/\(run n F s0 t).bar=none)\/∀t,t<=N->t<(run n F s0 t).rows.length/\(run n F s0 t).bar=none:=fun N=>by
  induction N with
  | zero=>
   by_cases c:(run n F s0 0).rows.length<=0\/(run n F s0 0).bar≠none
   ·exact .inl ⟨0,av _,c,fun t ht=>absurd ht (oR _)⟩
   ·refine .inr fun t ht=>?_;rw [show t=0 by lia];exact ⟨f9 fun z=>c (.inl (by exact mh z)),f9 fun z=>c (.inr z)⟩
  | succ N ih=>
   rcases ih with ⟨T,h1,h2,h3⟩ | h
   ·exact .inl ⟨T,by exact iN h1,h2,h3⟩
   ·by_cases c:(run n F s0 (N+1)).rows.length<=N+1\/(run n F s0 (N+1)).bar≠none
    ·exact .inl ⟨N+1,av _,c,fun t ht=>h t (by exact Nat.le_of_lt_succ ht)⟩
    ·refine .inr fun t ht=>?_
     by_cases e:t=N+1
     ·rw [e];exact ⟨f9 fun z=>c (.inl (lA z)),f9 fun z=>c (.inr z)⟩
     ·exact h t (by lia)
 obtain ⟨T0,nK⟩:=hex;rcases least T0 with ⟨T,_,h2,h3⟩ | h
 ·exact ⟨T,h2,h3,fun t ht=>dq (key t fun s hs=>h3 s (gM hs ht)) (by lia)⟩
 ·have:=h T0 (av _);rcases nK with z | z
  ·exact (BL this.1 z).elim
  ·exact absurd this.2 z
end MU
open MU (iw Hu qL G')
set_option maxRecDepth 100000
namespace L2
theorem UK {c A B:Prop} [Decidable c] (hc:¬c) (h:A):if (!decide c)=true then A else B:=by rw [gA hc];exact nU h
end L2
namespace Y0
open PySem L2
def mL (tie:Bool):Str:=if tie=true then "tie" else "wait"
def mq (x:ak):List V:=[.str (mL x.tie),.int (x.a:Int),.int (x.b:Int),.int x.v]
def iP (H:Hp) (q:Addr) (x:ak):Prop:=H q=some (.tup (mq x))
theorem iP.same (h:iP H q x) (s:a8 H H'):iP H' q x:=s _ _ h
structure oi (H:Hp) (d:Addr) (F:MU.dh):Prop where
 at_:∃kvs:List (Key×V),H d=some (.dK kvs)/\(kvs.length<=100/\∀kv∈kvs,∃e:Nat,kv.1=Sum.inl (e:Int))/\(∀e:Nat,F e=none->fJ kvs (.inl (e:Int))=none)/\∀(e:Nat) f,F e=some f->∃p,fJ kvs (.inl (e:Int))=some (.ref p)/\H p=some (.tup [.int (f.1:Int),.int f.2.1,.int f.2.2])
theorem oi.same (h:oi H d F) (s:a8 H H'):oi H' d F:=by obtain ⟨kvs,h1,h2,h3,h4⟩:=h.at_;refine ⟨kvs,s _ _ h1,h2,h3,fun e f hf=>?_⟩;obtain ⟨p,q1,q2⟩:=h4 e f hf;exact ⟨p,q1,s _ _ q2⟩
def nY (H:Hp) (Q:VK) (o:Option ak):Prop:=(o=none->∀H',a8 H H'->Q .aR H')/\∀x,o=some x->∀r H',H r=none->a8 H H'->iP H' r x->Q (.ref r) H'
theorem nY.no (h:nY H Q o) (e:o=none):Q .aR H:=h.1 e H (a8.refl _)
theorem nY.yes (h:nY H Q o) (e:o=some x) (hr:H r=none):Q (.ref r) (upd H r (.tup (mq x))):=h.2 x e r _ hr (bf hr) aq
theorem ub {a b:Nat}:decide (V.int (a:Int)=V.int (b:Int))=decide (a=b):=decide_eq_decide.mpr ⟨fun q=>Int.ofNat.inj (V.int.inj q),fun q=>by rw [q]⟩
structure Lc (mg:Str->Option Value):Prop where
 min:mg "min"=none
def Pz:Sp:=fun vs H Q _=>∃d q F x,vs=[.ref d,.ref q]/\oi H d F/\iP H q x/\x.tie=true/\nY H Q (dc F x)
def Pf:Sp:=fun vs H Q _=>∃d q F x,vs=[.ref d,.ref q]/\oi H d F/\iP H q x/\x.tie=true/\nY H Q (dn F x)
def UN:Sp:=fun vs H Q _=>∃p q x y,vs=[.ref p,.ref q]/\iP H p x/\iP H q y/\x.tie=true/\y.tie=true/\nY H Q (az x y)
def Ph:Sp:=fun vs H Q _=>∃d q F x fa,vs=[.ref d,.ref q]/\oi H d F/\iP H q x/\x.tie=false/\F x.b=some fa/\nY H Q (dt F x)
def Pu:Sp:=fun vs H Q _=>∃d p q F x y fa,vs=[.ref d,.ref p,.ref q]/\oi H d F/\iP H p x/\iP H q y/\x.tie=false/\y.tie=true/\F x.b=some fa/\nY H Q (bj F x y)
def P':Sp:=fun vs H Q _=>∃d q F x fa,vs=[.ref d,.ref q]/\oi H d F/\iP H q x/\x.tie=false/\F x.b=some fa/\nY H Q (da F x)
def Pw:Sp:=fun vs H Q _=>∃q x,vs=[.ref q]/\iP H q x/\Q (.bl (decide (iX x))) H
section
theorem TK:cC ["falls","tie","end"] ["falls","tie"] (aU dZ):=de
theorem uW (F:Fn K mg "by_late" dZ ["falls","tie"] f fd):au P w K mg base a7 1 f fd ["falls","tie"] Pz:=by
 refine F.F.dw TK fun _ A _ s H _ Q E hr h=>?_;obtain ⟨d,q,Fa,x,rfl,FA,hw,ht,G⟩:=h;have hu:=mJ hr;refine ⟨_,bo (cF 2 TK.nd (bc (pv 1)))
  (bo (eM (PW.pt (vI (xA (Hb hu (pv 2) (pv 0)) (by with_unfolding_all rfl)) (Aa (ef iu (bc (pv 1)) (pv 2))))) (aA (cG og)) eV)
  (aA (cG (eU (nk ft (bc (pv 1)) (pv 2) (cE jK (bc (ot hu (pv 0) (pv 2) (fun _ _=>rfl))) (bc (pv 1)))))))),?_⟩
 obtain ⟨kvs,hd,_,f0,f1⟩:=FA.at_;refine ⟨_,rfl,a_ hw rfl ⟨_,rfl,_,rfl,d,_,rfl,fL.k (k:=Sum.inl (x.b:Int)) hd,_,rfl,?_⟩⟩
 cases hf:Fa x.b with
 | none=>
  rw [f0 _ hf];refine nU (G.no ?_);unfold dc;rw [hf];split<;>rfl
 | some fa=>
  obtain ⟨p,e1,e2⟩:=f1 _ _ hf;rw [e1];refine ji ⟨_,rfl,a_ hw rfl ⟨_,rfl,rfl,_,rfl,?_⟩⟩;rw [ub]
  by_cases c:x.a=x.b
  ·refine j9 c (G.no ?_);unfold dc;rw [if_neg fun z=>z.2 c]
  ·refine l8 c ?_;have hg:dc Fa x=some ⟨false,x.a,x.b,fa.2.2-x.v⟩:=by
    unfold dc;rw [if_pos ⟨ht,c⟩,hf];rfl
   refine ⟨_,rfl,a_ hw rfl ⟨_,rfl,_,rfl,_,rfl,d,_,rfl,e1▸fL.k (k:=Sum.inl (x.b:Int)) hd,?_⟩⟩;refine a_ e2 rfl ⟨_,rfl,a_ hw rfl ⟨_,_,rfl,rfl,dU rfl,fun r ay=>G.yes hg ay⟩⟩
theorem UB:cC ["falls","tie","end"] ["falls","tie"] (aU dY):=de
theorem uQ (F:Fn K mg "by_soon" dY ["falls","tie"] f fd):au P w K mg base a7 1 f fd ["falls","tie"] Pf:=by
 refine F.F.dw UB fun _ A _ s H _ Q E hr h=>?_;obtain ⟨d,q,Fa,x,rfl,FA,hw,ht,G⟩:=h;have hu:=mJ hr;refine ⟨_,bo (cF 2 UB.nd (bc (pv 1)))
  (bo (eM (PW.pt (vI (xA (Hb hu (pv 2) (pv 0)) (by with_unfolding_all rfl)) (vI (ef iu (bc (pv 1)) (pv 2)) (Aa (ef zFi (bc (pv 1)) aG))))) (aA (cG og)) eV)
  (aA (cG (eU (nk ft (bc (ot hu (pv 0) (pv 2) (fun _ _=>rfl))) (bc (pv 1)) (cE jo (bc (ot hu (pv 0) (pv 2) (fun _ _=>rfl))) (bc (pv 1)))))))),?_⟩
 obtain ⟨kvs,hd,_,f0,f1⟩:=FA.at_;refine ⟨_,rfl,a_ hw rfl ⟨_,rfl,_,rfl,d,_,rfl,fL.k (k:=Sum.inl (x.a:Int)) hd,_,rfl,?_⟩⟩
 cases hf:Fa x.a with
 | none=>
  rw [f0 _ hf];refine nU (G.no ?_);unfold dn;rw [hf];split<;>rfl
 | some fa=>
  obtain ⟨p,e1,e2⟩:=f1 _ _ hf;rw [e1];refine ji ⟨_,rfl,a_ hw rfl ⟨_,rfl,rfl,_,rfl,?_⟩⟩;rw [ub]
  by_cases c:x.b=x.a
  ·refine j9 c (G.no ?_);unfold dn;rw [if_neg fun z=>z.2.1 c.symm]
  ·refine l8 c ⟨_,rfl,a_ hw rfl ⟨_,_,rfl,rfl,_,rfl,?_⟩⟩
   by_cases c2:x.v<0
   ·refine l8 (by exact Int.not_le.mpr c2) ?_;have hg:dn Fa x=some ⟨true,fa.1,x.b,fa.2.1+x.v⟩:=by
     unfold dn;rw [if_pos ⟨ht,fun z=>c z.symm,c2⟩,hf];rfl
    refine ⟨_,rfl,_,rfl,d,_,rfl,e1▸fL.k (k:=Sum.inl (x.a:Int)) hd,?_⟩;refine a_ e2 rfl ⟨_,rfl,a_ hw rfl ⟨_,rfl,_,rfl,d,_,rfl,e1▸fL.k (k:=Sum.inl (x.a:Int)) hd,?_⟩⟩;refine a_ e2 rfl ⟨_,rfl,a_ hw rfl ⟨_,_,rfl,rfl,dU rfl,fun r ay=>G.yes hg ay⟩⟩
   ·refine j9 (nc c2) (G.no ?_);unfold dn;rw [if_neg fun z=>c2 z.2.2]
theorem zDd:cC ["first","second"] ["first","second"] (aU fu):=de
theorem yD (F:Fn K mg "by_sum" fu ["first","second"] f fd):au P w K mg base a7 1 f fd ["first","second"] UN:=by
 refine F.F.dw zDd fun _ A _ s H _ Q E hr h=>?_;obtain ⟨p,q,x,y,rfl,hx,hy,tx,ty,G⟩:=h;refine ⟨_,bo (eM (ef EO (bc (pv 0)) (bc (pv 1))) (aA (cG og)) eV)
  (aA (cG (eU (nk ft (bc (pv 0)) (bc (pv 1)) (cE jo (bc (pv 0)) (bc (pv 1))))))),?_⟩
 refine ⟨_,rfl,a_ hx rfl ⟨_,rfl,a_ hy rfl ⟨rfl,_,rfl,?_⟩⟩⟩;rw [ub]
 by_cases c:x.b=y.a
 ·refine vG c ?_;have hg:az x y=some ⟨true,x.a,y.b,x.v+y.v⟩:=if_pos ⟨tx,ty,c⟩;exact ⟨_,rfl,a_ hx rfl ⟨_,rfl,a_ hy rfl ⟨_,rfl,a_ hx rfl ⟨_,rfl,a_ hy rfl ⟨_,_,rfl,rfl,dU rfl,fun r ay=>G.yes hg ay⟩⟩⟩⟩⟩
 ·exact UK c (G.no (if_neg fun z=>c z.2.2))
theorem Bu {a b:Int}:(if b<a then b else a)=min a b:=by
 rw [Int.min_def]
 by_cases c:b<a
 ·rw [if_pos c,if_neg (by exact Int.not_le.mpr c)]
 ·rw [if_neg c,if_pos (nc c)]
theorem PV:cC ["falls","wait","fall"] ["falls","wait"] (aU dX):=de
theorem uO (F:Fn K mg "by_sure" dX ["falls","wait"] f fd) (T:Lc mg):au P w K mg base a7 1 f fd ["falls","wait"] Ph:=by
 refine F.F.dw PV fun _ A _ s H _ Q E hr h=>?_;obtain ⟨d,q,Fa,x,fa,rfl,FA,hw,ht,hf,G⟩:=h;have hu:=mJ hr;refine ⟨_,bo (cF 2 PV.nd (ot hu (pv 0) (bc (pv 1)) (fun _ _=>rfl)))
  (aA (cG (eU (nk ft (bc (pv 1)) (bc (pv 2)) (vK vM (lB (xU rfl) (by rfl) T.min (by decide+kernel) (bS (bc (pv 1)) (bc (pv 2))))))))),?_⟩
 obtain ⟨kvs,hd,_,_,f1⟩:=FA.at_;obtain ⟨p,e1,e2⟩:=f1 _ _ hf;have hg:dt Fa x=some ⟨true,x.a,fa.1,-min x.v fa.2.1⟩:=by unfold dt;rw [if_pos ht,hf];rfl
 refine ⟨_,rfl,_,rfl,a_ hw rfl ⟨d,_,rfl,e1▸fL.k (k:=Sum.inl (x.b:Int)) hd,?_⟩⟩;refine ⟨_,rfl,a_ hw rfl ⟨_,rfl,a_ e2 rfl ⟨_,rfl,a_ hw rfl ⟨_,rfl,a_ e2 rfl ⟨_,_,rfl,_,rfl,dU rfl,fun r ay=>?_⟩⟩⟩⟩⟩;have:=G.yes hg ay;rw [Bu];exact this
theorem PU:cC ["falls","wait","tie","end"] ["falls","wait","tie"] (aU d_):=de
theorem vb (F:Fn K mg "by_back" d_ ["falls","wait","tie"] f fd) (T:Lc mg):au P w K mg base a7 1 f fd ["falls","wait","tie"] Pu:=by
 refine F.F.dw PU fun _ A _ s H _ Q E hr h=>?_;obtain ⟨d,p,q,Fa,x,y,fa,rfl,FA,hx,hy,tx,ty,hf,G⟩:=h;have hu:=mJ hr;refine ⟨_,bo (cF 3 PU.nd (bc (pv 1)))
  (bo (eM (PW.pt (vI (ef EO (bc (pv 2)) (bc (pv 1))) (Aa (ef iu (bc (pv 2)) (pv 3))))) (aA (cG og)) eV)
  (aA (cG (eU (nk ft (bc (pv 2)) (pv 3) (cE jK (lB (xU rfl) (by rfl) T.min (by decide+kernel) (bS (bc (pv 1)) (bc (ot hu (pv 0) (pv 3) (fun _ _=>rfl))))) (bc (pv 2)))))))),?_⟩
 obtain ⟨kvs,hd,_,_,f1⟩:=FA.at_;obtain ⟨pp,e1,e2⟩:=f1 _ _ hf;refine ⟨_,rfl,a_ hx rfl ⟨_,rfl,a_ hy rfl ⟨_,rfl,a_ hx rfl ⟨rfl,_,rfl,?_⟩⟩⟩⟩;rw [ub]
 by_cases c:y.b=x.a
 ·refine vG c ⟨_,rfl,a_ hy rfl ⟨_,rfl,rfl,_,rfl,?_⟩⟩;rw [ub]
  by_cases c2:y.a=x.b
  ·exact j9 c2 (G.no (if_neg fun z=>z.2.2.2 c2))
  ·refine l8 c2 ?_;have hg:bj Fa x y=some ⟨false,y.a,x.b,min x.v fa.2.2-y.v⟩:=by
    unfold bj;rw [if_pos ⟨tx,ty,c,c2⟩,hf];rfl
   refine ⟨_,rfl,a_ hy rfl ⟨_,rfl,_,rfl,a_ hx rfl ⟨_,rfl,_,rfl,d,_,rfl,e1▸fL.k (k:=Sum.inl (x.b:Int)) hd,?_⟩⟩⟩;refine a_ e2 rfl ⟨_,_,rfl,_,rfl,a_ hy rfl ⟨_,_,rfl,rfl,dU rfl,fun r ay=>?_⟩⟩;have:=G.yes hg ay;rw [Bu];exact this
 ·exact UK c (G.no (if_neg fun z=>c z.2.2.1))
theorem Km:cC ["falls","wait","end","other"] ["falls","wait"] (aU d0):=de
theorem rj (F:Fn K mg "by_cross" d0 ["falls","wait"] f fd) (T:Lc mg):au P w K mg base a7 1 f fd ["falls","wait"] P':=by
 refine F.F.dw Km fun _ A _ s H _ Q E hr h=>?_;obtain ⟨d,q,Fa,x,fa,rfl,FA,hw,ht,hf,G⟩:=h;have hu:=mJ hr;refine ⟨_,bo (cF 2 Km.nd (bc (pv 1)))
  (bo (eM (PW.pt (vI (xA (Hb hu (bc (pv 1)) (pv 0)) (by with_unfolding_all rfl)) (vI (ef iu (bc (pv 1)) (pv 2)) (Aa (ef n_ (bc (pv 1)) aG))))) (aA (cG og)) eV)
  (bo (cF 3 Km.nd (ot hu (pv 0) (bc (pv 1)) (fun _ _=>rfl)))
  (aA (cG (eU (nk ft (bc (pv 3)) (pv 2) (cE jK (lB (xU rfl) (by rfl) T.min (by decide+kernel) (bS (bc (pv 1)) (bc (ot hu (pv 0) (pv 2) (fun _ _=>rfl))))) (bc (pv 3))))))))),?_⟩
 obtain ⟨kvs,hd,_,f0,f1⟩:=FA.at_;obtain ⟨pp,e1,e2⟩:=f1 _ _ hf;refine ⟨_,rfl,a_ hw rfl ⟨_,rfl,a_ hw rfl ⟨_,rfl,d,_,rfl,fL.k (k:=Sum.inl (x.a:Int)) hd,_,rfl,?_⟩⟩⟩
 cases ho:Fa x.a with
 | none=>
  rw [f0 _ ho];refine nU (G.no ?_);unfold da;rw [ho];split<;>rfl
 | some oa=>
  obtain ⟨po,o1,o2⟩:=f1 _ _ ho;rw [o1];refine ji ⟨_,rfl,a_ hw rfl ⟨_,rfl,rfl,_,rfl,?_⟩⟩;rw [ub]
  by_cases c:x.a=x.b
  ·refine j9 c (G.no ?_);unfold da;rw [if_neg fun z=>z.2.1 c]
  ·refine l8 c ⟨_,rfl,a_ hw rfl ⟨_,_,rfl,rfl,_,rfl,?_⟩⟩
   by_cases c2:0<x.v
   ·refine l8 (by exact Int.not_le.mpr c2) ?_;have hg:da Fa x=some ⟨false,oa.1,x.b,min x.v fa.2.2-oa.2.1⟩:=by
     unfold da;rw [if_pos ⟨ht,c,c2⟩,ho,hf];rfl
    refine ⟨_,rfl,_,rfl,a_ hw rfl ⟨d,_,rfl,o1▸fL.k (k:=Sum.inl (x.a:Int)) hd,?_⟩⟩;refine ⟨_,rfl,a_ o2 rfl ⟨_,rfl,_,rfl,a_ hw rfl ⟨_,rfl,_,rfl,d,_,rfl,e1▸fL.k (k:=Sum.inl (x.b:Int)) hd,?_⟩⟩⟩;refine a_ e2 rfl ⟨_,_,rfl,_,rfl,a_ o2 rfl ⟨_,_,rfl,rfl,dU rfl,fun r ay=>?_⟩⟩;have:=G.yes hg ay;rw [Bu];exact this
   ·refine j9 (nc c2) (G.no ?_);unfold da;rw [if_neg fun z=>c2 z.2.2]
theorem zDh:cC ["what"] ["what"] (aU br):=de
theorem FC:decide (V.str (mL t)=V.str "tie")=t:=by
 cases t
 ·exact gA fun q=>absurd (V.str.inj q) (by decide+kernel)
 ·exact jZ rfl
theorem va (F:Fn K mg "bars_every_hand" br ["what"] f fd):au P w K mg base a7 1 f fd ["what"] Pw:=by
 refine F.F.dw zDh fun _ A _ s H _ Q E hr h=>?_;obtain ⟨q,x,rfl,hw,k⟩:=h;refine ⟨_,aA (cG (Fc (vC iu (bc (pv 0)) ft) (Fc (vC iu (bc (pv 0)) (bc (pv 0))) (JC (vC vJ (bc (pv 0)) aG))))),?_⟩;have eb:∀b:Bool,b=decide (iX x)->Q (.bl b) H:=fun b e=>by rw [e];exact k
 refine ⟨_,rfl,a_ hw rfl ⟨rfl,_,rfl,?_⟩⟩;rw [FC]
 cases ht:x.tie with
 | false=>exact ji (eb _ (gA fun z=>by have:=z.1;rw [ht] at this;cases this).symm)
 | true=>
  refine nU ⟨_,rfl,a_ hw rfl ⟨_,rfl,a_ hw rfl ⟨rfl,_,rfl,?_⟩⟩⟩;rw [ub]
  by_cases c:x.a=x.b
  ·refine j9 c ⟨_,rfl,a_ hw rfl ⟨_,_,rfl,rfl,eb _ ?_⟩⟩;exact decide_eq_decide.mpr ⟨fun z=>⟨ht,c,z⟩,fun z=>z.2.2⟩
  ·exact l8 c (eb _ (gA fun z=>c z.2.1).symm)
end
def UW:List Int->Option (Nat×Int×Int)
 | [a,_,l,m]=>some (a.toNat,l,m)
 | _=>none
def cP (F:List (List Int)):MU.dh:=fun e=>(F.find? fun r=>decide (r[1]?=some (e:Int))).bind UW
theorem KR {F:List (List Int)} {e:Nat} (h:∀r∈F,r[1]?≠some (e:Int)):cP F e=none:=by
 unfold cP;have:(F.find? fun r=>decide (r[1]?=some (e:Int)))=none:=List.find?_eq_none.mpr fun r hr=>by simpa using h r hr
 rw [this];rfl
theorem cO.find {n la:Int} {T F:List (List Int)} (h:cO n la T F) {e:Nat} {f:Nat×Int×Int} (hf:cP F e=some f):∃a l m:Int,[a,(e:Int),l,m]∈F/\f=(a.toNat,l,m)/\0<=a/\a<n/\0<(e:Int)/\(e:Int)<n/\a≠(e:Int)/\1<=l/\l<=m/\m<=60:=by
 unfold cP at hf
 cases q:F.find? fun r=>decide (r[1]?=some (e:Int)) with
 | none=>rw [q] at hf;cases hf
 | some r=>
  rw [q] at hf;have hf:UW r=some f:=hf;have hm:=List.mem_of_find?_eq_some q;have hp:=List.find?_some q;obtain ⟨a,b,l,m,rfl,x1,x2,x3,x4,x5,x6,x7,x8⟩:=h.f r hm;have hb:some b=some (e:Int):=of_decide_eq_true hp;cases hb;cases hf;exact ⟨a,l,m,hm,rfl,x1,x2,x3,x4,x5,x6,x7,x8⟩
theorem cO.gZ {n la:Int} {T F:List (List Int)} (h:cO n la T F) {a l m:Int} {e:Nat} (hm:[a,(e:Int),l,m]∈F):cP F e=some (a.toNat,l,m):=by
 obtain ⟨i,hi⟩:=pV.mp hm;unfold cP
 cases q:F.find? fun r=>decide (r[1]?=some (e:Int)) with
 | none=>
  have:=List.find?_eq_none.mp q _ hm;simp at this
 | some r=>
  have VR:=List.mem_of_find?_eq_some q;obtain ⟨j,hj⟩:=pV.mp VR;have hp:r[1]?=some (e:Int):=of_decide_eq_true (List.find?_some (p:=fun r=>decide (r[1]?=some (e:Int))) q);have ij:=h.one i j _ _ hi hj (by rw [hp];rfl);subst ij;rw [hi] at hj;cases hj;rfl
theorem cO.m7 {n:Nat} {la:Int} {T F:List (List Int)} (h:cO (n:Int) la T F):iE n (cP F) ((60:Nat):Int):=by
 refine ⟨fun e f hf=>?_,fun e f hf=>?_,fun e f hf=>?_⟩
 ·obtain ⟨a,l,m,_,rfl,_,x2,x3,x4,_⟩:=h.find hf;exact ⟨by show a.toNat<n;lia,by lia⟩
 ·obtain ⟨a,l,m,hm,rfl,x1,_⟩:=h.find hf;refine KR fun r hr=>?_;have:=h.own _ hm r hr;show r[1]?≠some ((a.toNat:Nat):Int);rw [show ((a.toNat:Nat):Int)=a by exact Hi x1];exact fun z=>this z.symm
 ·obtain ⟨a,l,m,_,rfl,_,_,_,_,_,x6,x7,x8⟩:=h.find hf;exact ⟨x6,x7,x8⟩
theorem Xp {kvs:List (Key×V)} {k:Key} {v:V} {kv:Key×V} (h:kv∈eC kvs k v):kv.1=k\/∃rB∈kvs,kv.1=rB.1:=by
 unfold eC at h;split at h
 ·obtain ⟨rB,h0,rfl⟩:=eI.mp h;refine .inr ⟨rB,h0,?_⟩;split<;>rfl
 ·rcases jF.mp h with h | h
  ·exact .inr ⟨kv,h,rfl⟩
  ·rw [iD.mp h];exact .inl rfl
def PY (C:Addr):Sp:=fun vs H Q _=>∃p n la T F,vs=[.ref p]/\jl C H p n la T F/\cO n la T F/\∀d H',H d=none->a8 H H'->oi H' d (cP F)->Q (.ref d) H'
section
abbrev nBe:List Str:=["web","found","one","other","least","most"]
theorem Az:cC nBe ["web"] (aU cf):=de
theorem rn {f C fF:Addr} {fd AS:FuncData} (F:Fn K mg "falls_by_end" cf ["web"] f fd) (TC:mG K mg C) (mF:jH K C "falls" fF) (bF:eT K AS ["self"] []) (GF:au P w K mg base a7 1 fF AS ["self"] (zS C fun _ F=>F)):
 au P w K mg base a7 2 f fd ["web"] (PY C):=by
 refine F.F.dw Az fun _ A _ s H _ Q E hr h=>?_;obtain ⟨p,n,la,rT,rF,rfl,W0,af,k⟩:=h;have hu:=mJ hr;refine ⟨_,cy (cF 1 Az.nd Q9)
  (cy (iG PassesOwn.never rfl (iH (Ag (pv 0) TC.cl mF GF hr bF .nil gD))
   (uk rfl (eN (bV 2 Az.nd) (eN (bV 3 Az.nd) (eN (bV 4 Az.nd) (eN (bV 5 Az.nd) sU)))))
   (aA (Fp hu (pv 1) (pv 3) (eU (iQ (pv 2) (pv 4) (pv 5))) rfl)))
  (aA (cG (pv 1)))),?_⟩
 refine fun N1 c1 d hd=>c1 _ _ ?_;have s1:=bf (o:=.dK []) hd;have e1:upd H d (.dK []) d=some (.dK []):=aq;generalize upd H d (.dK [])=H1 at*;obtain ⟨dx,ta,fa,ep,_,_⟩:=id W0;have nf:(oY n la ta fa).lookup ("falls":Str)=none:=Ca _ _ _ _ (by decide+kernel) (by decide+kernel) (by decide+kernel) (by decide+kernel);refine fun N2 c2=>⟨_,rfl,p,dx,_,rfl,s1 _ _ ep,nf,p,n,la,rT,rF,rfl,W0.same s1,fun l H2 _ s2 R2=>?_⟩;obtain ⟨qs,R⟩:=R2;have R:gj H2 l qs rF:=R;refine ⟨l,rfl,⟨_,a9.of R.1⟩,?_⟩;have fl:=af.fl;have vp:H2 d=some (.dK []):=s2 _ _ e1;have hdH:H d=none:=hd;refine km (K:=K) (a:=l) (xs:=qs.map V.ref) (fun i ae H'=>∃v1 v2 v3 v4 kvs,ae=[some (.ref p),some (.ref d),v1,v2,v3,v4]/\H' d=some (.dK kvs)/\(kvs.length<=i/\∀kv∈kvs,∃e:Nat,kv.1=Sum.inl (e:Int))/\(∀e:Nat,(∀r∈rF.take i,r[1]?≠some (e:Int))->fJ kvs (.inl (e:Int))=none)/\
  (∀a b le mo:Int,[a,b,le,mo]∈rF.take i->∃q,fJ kvs (.inl b)=some (.ref q)/\H' q=some (.tup [.int a,.int le,.int mo]))/\∀b o,H2 b=some o->b≠d->H' b=some o)
  ⟨none,none,none,none,[],rfl,vp,⟨av _,fun kv h=>nomatch h⟩,(fun e _=>rfl),(fun a b le mo h=>by simp at h),fun b o e _=>e⟩ ?_ ?_ ?_
 ·rintro i ae H3 _ ⟨v1,v2,v3,v4,kvs,rfl,_,_,_,_,kp⟩;exact a9.of (kp _ _ R.1 (cB R.1 vp nofun))
 ·rintro i x ae H3 hx ⟨v1,v2,v3,v4,kvs,rfl,ed,⟨hlen,nI⟩,h0,h1,kp⟩;obtain ⟨q,r,rfl,_,ay,ie⟩:=R.get hx;obtain ⟨a',b',le,mo,rfl,_,_,x3,_⟩:=af.f r (gK ay);have hi:i<rF.length:=(gu.mp ay).1;refine ⟨q,_,rfl,dm.of (kp _ _ ie (cB ie vp nofun)),rfl,_,_,rfl,_,_,rfl,_,_,rfl,_,_,rfl,rfl,?_⟩;refine ⟨_,rfl,_,rfl,_,rfl,dU rfl,fun t ht=>?_⟩;have td:t≠d:=aB (aP ed ht);refine ⟨_,rfl,_,rfl,d,_,rfl,sC.k (k:=Sum.inl b') (by rw [aj (aB td)];exact ed) (gy (by lia)),?_⟩;have tk:rF.take (i+1)=rF.take i++[[a',b',le,mo]]:=by rw [lu,ay];rfl
  refine ⟨_,_,_,_,_,rfl,aq,⟨dq (Aq _ _ _) (xP hlen),fun kv eQ=>?_⟩,fun e he=>?_,fun a b l2 m2 hm=>?_,fun b o e ne=>?_⟩
  ·rcases Xp eQ with z | ⟨rB,z0,z⟩
   ·exact ⟨b'.toNat,by rw [z,mi (by exact eR x3)]⟩
   ·rw [z];exact nI rB z0
  ·rw [tk] at he;have cK:b'≠(e:Int):=fun z=>he [a',b',le,mo] (jW _ dN) (by rw [<-z];rfl);rw [BH,if_neg (fun z=>cK (Sum.inl.inj z).symm)];exact h0 e fun r hr=>he r (gJ _ hr)
  ·rw [tk] at hm;rcases jF.mp hm with hm | hm
   ·have rS:b≠b':=fun z=>by
     obtain ⟨j,hj⟩:=pV.mp hm;have Nc:j<i:=by have:=(gu.mp hj).1;rw [jX] at this;exact KD this
     have kN:rF[j]?=some [a,b,l2,m2]:=by rw [List.getElem?_take] at hj;rw [if_pos Nc] at hj;exact hj
     have:=af.one j i _ _ kN ay (by rw [z];rfl);lia
    obtain ⟨q',Ii,yX⟩:=h1 a b l2 m2 hm;refine ⟨q',by rw [BH,if_neg (fun z=>rS (Sum.inl.inj z))];exact Ii,?_⟩;rw [aj (cB yX ed nofun),aj (aP yX ht)];exact yX
   ·have hm:=iD.mp hm;cases hm;refine ⟨t,by rw [BH,if_pos rfl],?_⟩;rw [aj td,aq]
  ·rw [aj ne,aj (aP (kp _ _ e ne) ht)];exact kp _ _ e ne
 ·rintro ae H3 ⟨v1,v2,v3,v4,kvs,rfl,ed,hlen,h0,h1,kp⟩;have hle:rF.take (qs.map V.ref).length=rF:=by rw [aI,R.len];exact jN
  rw [hle] at h0 h1;rw [aI,R.len] at hlen;refine c2 _ _ ⟨_,rfl,k d H3 hd (fun b o e=>kp _ _ (s2 _ _ (s1 _ _ e)) (aP e hdH)) ⟨kvs,ed,by lia,fun e he=>h0 e fun r hr z=>?_,fun e f hf=>?_⟩⟩
  ·obtain ⟨a',b',le,mo,rfl,_⟩:=af.f r hr;have z:some b'=some (e:Int):=z;cases z;rw [af.gZ hr] at he;cases he
  ·obtain ⟨a,l',m',hm,rfl,x1,_⟩:=af.find hf;obtain ⟨q,Ii,yX⟩:=h1 _ _ _ _ hm;refine ⟨q,Ii,?_⟩;rw [yX];show some (HO.tup [.int a,.int l',.int m'])=some (HO.tup [.int ((a.toNat:Nat):Int),.int l',.int m']);rw [show ((a.toNat:Nat):Int)=a by exact Hi x1]
end
end Y0
namespace L2
open PySem PySem.Spec PyProof.Rows
def xl:List Value->List Str->Bool
 | [],[]=>true
 | .str x _::vs,s::ss=>decide (x=s) && xl vs ss
 | _,_=>false
theorem SE:∀{vs:List Value} {ss:List Str},xl vs ss=true->bq (ss.map V.str) vs
 | [],[],_=>.nil
 | .str x t::vs,s::ss,h=>by have h:(decide (x=s) && xl vs ss)=true:=h;rw [sj,zJ] at h;obtain ⟨e,h2⟩:=h;subst e;exact .cons ⟨t,rfl⟩ (SE h2)
 | [],_::_,h=>by cases h
 | .none::_,_,h=>nomatch (show false=true from h)
 | .bool _::_,_,h=>nomatch (show false=true from h)
 | .int _ _::_,_,h=>nomatch (show false=true from h)
 | .float _ _::_,_,h=>nomatch (show false=true from h)
 | .str _ _::_,[],h=>nomatch (show false=true from h)
 | .bytes _ _::_,_,h=>nomatch (show false=true from h)
 | .ref _::_,_,h=>nomatch (show false=true from h)
 | .builtin _::_,_,h=>nomatch (show false=true from h)
 | .type _::_,_,h=>nomatch (show false=true from h)
 | .ellipsis::_,_,h=>nomatch (show false=true from h)
 | .notImplemented::_,_,h=>nomatch (show false=true from h)
def Qg (K:bE) (ss:List Str):Value->Bool
 | .ref b=>match K.lookup b with
  | some o=>(o.cls==.type "tuple") && (match o.data with
   | .seq its _=>decide (its.size<=sizeLine) && xl its.toList ss
   | _=>false)
  | none=>false
 | _=>false
theorem SJ {ss:List Str} {v:Value} (h:Qg K ss v=true):∃b,v=.ref b/\∀H,dm K H b (ss.map V.str):=by
 cases v with
 | ref b=>
  refine ⟨b,rfl,fun H=>.inr ?_⟩
  have h:(match K.lookup b with
   | some o=>(o.cls==.type "tuple") && (match o.data with
    | .seq its _=>decide (its.size<=sizeLine) && xl its.toList ss
    | _=>false)
   | none=>false)=true:=h
  cases q:K.lookup b with
  | none=>rw [q] at h;cases h
  | some o=>
   rw [q] at h
   have h:((o.cls==.type "tuple") && (match o.data with
    | .seq its _=>decide (its.size<=sizeLine) && xl its.toList ss
    | _=>false))=true:=h
   rw [sj] at h;obtain ⟨h1,h2⟩:=h
   cases d:o.data with
   | seq its n=>
    rw [d] at h2;have h2:(decide (its.size<=sizeLine) && xl its.toList ss)=true:=h2;rw [sj,zJ] at h2;exact ⟨o,its,n,rfl,beq_iff_eq.mp h1,d,h2.1,SE h2.2⟩
   | _=>rw [d] at h2;cases h2
 | _=>cases h
abbrev La (K:bE) (a:Addr) (D:List (Str×List Str)):Prop:=KTD.tabLook (fun d v=>Qg K d v) (fun b=>List.lookup b K) a D=true
section
theorem ZA (T:KTD.TabOf R s.heap a D) (h1:∀d v,KTD.datumAt k D=some d->R d v->Q (some v) { s with toks:=s.toks+1 }) (h2:KTD.datumAt k D=none->Q none { s with toks:=s.toks+1 }):
 wpAny (model prog w) A (dictGet a (.str k tk)) Q E s:=by
 obtain ⟨_,o,es,ep,ho,_,hd,hr⟩:=T;unfold dictGet
 try with_reducible refine wpAny_holding ?_
 refine ah (wpAny_pyHash_str (ah (KTD.kt_dictFind_strs (s:={ s with toks:=s.toks+1 }) ho hd (by obtain ⟨l⟩:=es;simpa using hr.exact) ?_)));have hq:Q (findBy (fun k v=>v.isStr k) es k) { s with toks:=s.toks+1 }:=by
  have hf:findBy (fun k v=>v.isStr k) es k=(es.toList.find? fun e=>e.key.isStr k).map (·.val):=by obtain ⟨l⟩:=es;simp [findBy]
  rw [hf]
  cases kQ:KTD.datumAt k D with
  | some d=>obtain ⟨v,hv,Iu⟩:=hr.find_some kQ;rw [hv];exact h1 d v kQ Iu
  | none=>rw [hr.find_none kQ];exact h2 kQ
 rw [findBy_of_findIdx?] at hq
 cases hi:es.findIdx? fun e=>e.key.isStr k with
 | none=>rw [hi] at hq;exact aW hq
 | some i=>rw [hi] at hq;exact ah (wpAny_dictEntries (s:={ s with toks:=s.toks+1 }) ho hd (aW hq))
theorem Zn:MeetsIn prog w (Builtin.«dict.get» ⟨[.ref a,.str k tk],[]⟩) (fun _ R' s=>KTD.TabOf R s.heap a D/\(∀d v,KTD.datumAt k D=some d->R d v->R' (.ok (.ret v)) { s with toks:=s.toks+1 })/\(KTD.datumAt k D=none->R' (.ok (.ret .none)) { s with toks:=s.toks+1 })):=
 .of_wp fun A R' s ⟨T,h1,h2⟩=>by show wpAny _ _ (dictGet a (.str k tk)>>=_) _ _ s;refine ah (ZA T (fun d v ha hv=>aW ⟨v,rfl,h1 d v ha hv⟩) fun hn=>?_);show wpAny _ _ (Builtin.Dict.missed a (.str k tk)>>=_) _ _ _;exact ah (wpAny_missed_other T.1 (aW ⟨.none,rfl,h2 hn⟩))
end
def zAt (K:bE) (D:List (Str×List Str)) (td ty:TE):TE:=fun σ H Q=>td σ H fun x H1=>∃a,x=.ref a/\La K a D/\ty σ H1 fun y H2=>∃z,y=.str z/\(∀ss,KTD.datumAt z D=some ss->∀b,(∀H',dm K H' b (ss.map V.str))->Q (.ref b) H2)/\(KTD.datumAt z D=none->Q .aR H2)
theorem YM (ho:PE X o td) (he:PE X e ty) (m:M1 X o "get" apos e g_):PE X (.Call (.Attribute o "get" apos) [e] [] g_) (zAt X.K D td ty):=by
 intro pins s σ H Q I h;refine wpAny_Call_method m.base m.oM m.line PySem.F.plainAttrs_dict PySem.F.slot_dict_get PySem.F.type_dict_get (ax (ho pins s σ H _ I h) fun u s1 zz=>?_);obtain ⟨x,H1,I1,rx,a,ex,d,q1⟩:=zz;subst ex;obtain rfl:u=Value.ref a:=rx;have T:KTD.TabOf (fun (ss:List Str) v=>∃b,v=Value.ref b/\∀H,dm X.K H b (ss.map V.str)) s1.heap a D:=KTD.tab_of_look (fun d v z=>SJ z) I1.gG d;obtain ⟨_,ob,es,ep,VQ,hc,_⟩:=id T;refine ⟨⟨ob,VQ,hc.1⟩,fun b e=>?_,?_⟩
 ·injection e with e
  subst e;exact ⟨ob,VQ,hc.2.1⟩
 rw [m.trees];refine Calls.callWith_builtin rfl (Calls.evalArgs_plain (Calls.spliced_cons (ax (he pins s1 σ H1 _ I1 q1) fun iv s2 zz=>Calls.spliced_nil ?_)));obtain ⟨y,H2,I2,ry,z,ey,g1,g2⟩:=zz;subst ey;obtain ⟨t,rfl⟩:=ry;have T2:KTD.TabOf (fun (ss:List Str) v=>∃b,v=Value.ref b/\∀H,dm X.K H b (ss.map V.str)) s2.heap a D:=KTD.tab_of_look (fun d v z=>SJ z) I2.gG d;refine call_meetsIn PySem.F.slot_dict_get (show s2.TypeIs (.ref a) "dict" from ?_) PySem.F.entry_dict_get (PySem.F.args_dict_get_2 _ _) (Zn (D:=D)) ⟨T2,fun ss v ha hv=>?_,fun hn=>?_⟩
 ·obtain ⟨_,ob2,_,_,MK,Wb,_⟩:=id T2;exact ⟨ob2,MK,Wb.1⟩
 ·obtain ⟨b,rfl,hb⟩:=hv;exact ⟨.ref b,H2,I2.tok _,rfl,g1 ss ha b hb⟩
 ·exact ⟨.aR,H2,I2.tok _,rfl,g2 hn⟩
section
variable {K:bE}
end
section
variable {K:bE}
end
def zW (xs ys:List V):Bool:=((List.range (min xs.length ys.length)).all fun j=>qx (xs.getD j .aR) (ys.getD j .aR)) && xs.length==ys.length
theorem X5:∀{x:V},kg x=true->qx x x=true
 | .aR,_=>rfl
 | .bl b,_=>(pU b:(b==b)=true)
 | .int i,_=>(pU i:(i==i)=true)
 | .str s,_=>(pU s:(s==s)=true)
 | .pQ _,h=>by cases h
 | .zA _,h=>by cases h
 | .ref _,h=>by cases h
 | .ty _,h=>by cases h
theorem SW (f:xs.all kg=true):zW xs xs=true:=by
 unfold zW;rw [pU,Bool.and_true,zK];intro j hj;have hj:=m9.mp hj;rw [Nat.min_self] at hj;have g:xs[j]?=some (xs.getD j .aR):=by rw [DZ,lz hj];rfl
 exact X5 (F9 f g)
section
end
def zZ:V->Bool
 | .int _=>true
 | .str _=>true
 | _=>false
theorem Zr:∀{xs:List V},xs.all zZ=true->xs.all kg=true:=fun {xs} h=>zK.mpr fun x hx=>by have:=zK.mp h x hx;cases x<;>first | rfl | cases this
theorem zB6 (h:zZ x=true) (h':zZ y=true):qx x y=true↔x=y:=by
 cases x with
 | int i=>cases y with
  | int j=>show (i==j)=true↔_;rw [beq_iff_eq,V.int.injEq]
  | str s=>exact ⟨nofun,nofun⟩
  | _=>cases h'
 | str s=>cases y with
  | int j=>exact ⟨nofun,nofun⟩
  | str s'=>show (s==s')=true↔_;rw [beq_iff_eq,V.str.injEq]
  | _=>cases h'
 | _=>cases h
theorem Y7 (h:xs.all zZ=true) (h':ys.all zZ=true):zW xs ys=true↔xs=ys:=by refine ⟨fun e=>?_,fun e=>by rw [e];exact SW (Zr h')⟩;unfold zW at e;rw [sj,zK,beq_iff_eq] at e;obtain ⟨e1,e2⟩:=e;refine List.ext_getElem e2 fun i h1 h2=>?_;have:=e1 i (m9.mpr (by lia));rw [DZ,DZ,lz h1,lz h2] at this;exact (zB6 (zK.mp h _ (zL h1)) (zK.mp h' _ (zL h2))).mp this
section
variable {K:bE}
def zFf (K:bE):R2:=fun x y H Q=>∃p q xs ys,x=.ref p/\y=.ref q/\dm K H p xs/\dm K H q ys/\xs.all kg=true/\ys.all kg=true/\Q (.bl (!zW xs ys)) H
theorem zBo (hK:X.K=K) (hu:X.A.units+64<cLine):fH X (compareOp .NotEq) (zFf K):=by subst hK;intro pins s σ H x y v u Q I rx ry h;obtain ⟨p,q,xs,ys,rfl,rfl,h1,h2,f1,f2,hq⟩:=h;cases rx;cases ry;obtain ⟨us,r1,p1,_⟩:=I.tuple h1;obtain ⟨vs,r2,p2,_⟩:=I.tuple h2;have l1:=r1.length;have l2:=r2.length;refine SeqAt.RcNeAt.tuples p1 p2 (Yx hu) (zB7 r1 r2 f1 f2) _ _ _ _ ⟨.bl _,H,I,rfl,?_⟩;rw [iU,iU,<-l1,<-l2];exact hq
end
open PySem
theorem Hk:∀{ss:List Str},(ss.map V.str).all kg=true
 | []=>rfl
 | s::r=>by rw [fj,List.all_cons,Hk (ss:=r)];rfl
end L2
namespace Y0
open PySem L2
seal L2.PE L2.PA L2.PT L2.PS L2.gB L2.PG L2.pW L2.PI L2.PO
abbrev zT:List (Str×List Str):=[("sum",["tie","tie"]),("late",["tie"]),("soon",["tie"]),("sure",["wait"]),("back",["wait","tie"]),("cross",["wait"])]
structure zM (K:bE) (mg:Str->Option Value):Prop where
 at_:∃u,mg "USED_KINDS"=some (.ref u)/\La K u zT
 tuple:mg "tuple"=none
def k_ (xs:List ak):List Str:=xs.map fun x=>mL x.tie
inductive pZ (F:MU.dh):Str->List ak->Option ak->Prop
 | sum (x y:ak) (hx:x.tie=true) (hy:y.tie=true):pZ F "sum" [x,y] (az x y)
 | aD (x:ak) (hx:x.tie=true):pZ F "late" [x] (dc F x)
 | bp (x:ak) (hx:x.tie=true):pZ F "soon" [x] (dn F x)
 | sure (x:ak) (fa:Nat×Int×Int) (hx:x.tie=false) (hf:F x.b=some fa):pZ F "sure" [x] (dt F x)
 | back (x y:ak) (fa:Nat×Int×Int) (hx:x.tie=false) (hy:y.tie=true) (hf:F x.b=some fa):pZ F "back" [x,y] (bj F x y)
 | aw (x:ak) (fa:Nat×Int×Int) (hx:x.tie=false) (hf:F x.b=some fa):pZ F "cross" [x] (da F x)
theorem pZ.kinds (h:pZ F word xs o):PyProof.Rows.KTD.datumAt word zT=some (k_ xs)/\xs.length<=2:=by
 cases h with
 | sum x y hx hy=>refine ⟨?_,av _⟩;unfold k_;rw [fj,fj,List.map_nil,hx,hy];decide+kernel
 | aD x hx=>refine ⟨?_,oS 1⟩;unfold k_;rw [fj,List.map_nil,hx];decide+kernel
 | bp x hx=>refine ⟨?_,oS 1⟩;unfold k_;rw [fj,List.map_nil,hx];decide+kernel
 | sure x fa hx hf=>refine ⟨?_,oS 1⟩;unfold k_;rw [fj,List.map_nil,hx];decide+kernel
 | back x y fa hx hy hf=>refine ⟨?_,av _⟩;unfold k_;rw [fj,fj,List.map_nil,hx,hy];decide+kernel
 | aw x fa hx hf=>refine ⟨?_,oS 1⟩;unfold k_;rw [fj,List.map_nil,hx];decide+kernel
def zCb (H:Hp) (l:Addr) (ps:List Addr) (xs:List ak):Prop:=H l=some (.lst (ps.map V.ref))/\Paired (iP H) ps xs
def Mis (word:Str) (xs:List ak):Prop:=xs.length<=2/\∃ks,PyProof.Rows.KTD.datumAt word zT=some ks/\ks≠k_ xs
def RY:Sp:=fun vs H Q _=>∃d word ul ps F xs o,vs=[.ref d,.str word,.ref ul]/\oi H d F/\zCb H ul ps xs/\(pZ F word xs o\/o=none/\Mis word xs)/\nY H Q o
theorem QO:∀{xs ys:List Str},xs.map V.str=ys.map V.str->xs=ys
 | [],[],_=>rfl
 | x::xs,y::ys,h=>by rw [fj,fj,List.cons.injEq,V.str.injEq] at h;rw [h.1,QO h.2]
 | [],_::_,h=>by cases h
 | _::_,[],h=>by cases h
theorem Sz {ss:List Str}:(ss.map V.str).all zZ=true:=by rw [List.all_map];exact zK.mpr fun _ _=>rfl
theorem nY.same (g:nY H Q o) (s:a8 H H1):nY H1 Q o:=⟨fun e H' s'=>g.1 e H' (s.trans s'),fun x e r H' hr s' h=>g.2 x e r H' (s.free hr) (s.trans s') h⟩
section
theorem zG6:cC ["falls","word","used"] ["falls","word","used"] (aU bz):=de
theorem zH9:jB (aU bz) ["falls","word","used"] (nP [(".0",.local),("what",.local)]) ["what"] [none]:=nS
theorem zHw:(["what"]:List Str).Nodup:=by decide+kernel
theorem n6 (F:Fn K mg "what_follows" bz ["falls","word","used"] f fd) (T:zM K mg)
 (F1:Fn K mg "by_sum" fu ["first","second"] f1 d1) (G1:au P w K mg base a7 1 f1 d1 ["first","second"] UN)
 (F2:Fn K mg "by_late" dZ ["falls","tie"] f2 d2) (G2:au P w K mg base a7 1 f2 d2 ["falls","tie"] Pz)
 (F3:Fn K mg "by_soon" dY ["falls","tie"] f3 d3) (G3:au P w K mg base a7 1 f3 d3 ["falls","tie"] Pf)
 (F4:Fn K mg "by_sure" dX ["falls","wait"] f4 d4) (G4:au P w K mg base a7 1 f4 d4 ["falls","wait"] Ph)
 (F5:Fn K mg "by_back" d_ ["falls","wait","tie"] f5 d5) (G5:au P w K mg base a7 1 f5 d5 ["falls","wait","tie"] Pu)
 (F6:Fn K mg "by_cross" d0 ["falls","wait"] f6 d6) (G6:au P w K mg base a7 1 f6 d6 ["falls","wait"] P'):
 au P w K mg base a7 2 f fd ["falls","word","used"] RY:=by
 obtain ⟨u,mU,L3⟩:=T.at_;refine F.F.dw zG6 fun _ A _ s H _ Q E hr h=>?_;obtain ⟨d,word,ul,ps,Fa,xs,o,rfl,FA,⟨AD,M8⟩,ask,G⟩:=h;refine ⟨_,cy (eM (ef (zBo (K:=K) rfl hr.units) (vZ To (by rfl) T.tuple (by decide+kernel) (bR (qg rfl (iH (pv 2)) zH9 (fun cl ex s0 H0=>⟨bV 0 zHw,sY,bc (pv 0)⟩))))
  (YM (D:=zT) (Ad (v:=.ref u) rfl mU rfl) (pv 1) ⟨rfl,rfl,rfl,rfl⟩)) (aA (cG og)) eV)
  (cy (eM (ef iu (pv 1) ft) (aA (cG (cH G1 hr F1 (bS (cY dC (pv 2) aG) (cY dC (pv 2) aG))))) eV)
  (cy (eM (ef iu (pv 1) ft) (aA (cG (cH G2 hr F2 (bS (pv 0) (cY dC (pv 2) aG))))) eV)
  (cy (eM (ef iu (pv 1) ft) (aA (cG (cH G3 hr F3 (bS (pv 0) (cY dC (pv 2) aG))))) eV)
  (cy (eM (ef iu (pv 1) ft) (aA (cG (cH G4 hr F4 (bS (pv 0) (cY dC (pv 2) aG))))) eV)
  (cy (eM (ef iu (pv 1) ft) (aA (cG (cH G5 hr F5 (iQ (pv 0) (cY dC (pv 2) aG) (cY dC (pv 2) aG))))) eV)
  (aA (cG (cH G6 hr F6 (bS (pv 0) (cY dC (pv 2) aG)))))))))),?_⟩
 obtain ⟨ks,hk,oE,ask⟩:∃ks,PyProof.Rows.KTD.datumAt word zT=some ks/\xs.length<=2/\(ks=k_ xs/\pZ Fa word xs o\/ks≠k_ xs/\o=none):=by
  rcases ask with a | ⟨rfl,h1,ks,h2,h3⟩
  ·exact ⟨_,a.kinds.1,a.kinds.2,.inl ⟨rfl,a⟩⟩
  ·exact ⟨ks,h2,h1,.inr ⟨h3,rfl⟩⟩
 have hlen:ps.length=xs.length:=Paired.length M8;refine fun N1 c1=>⟨_,rfl,ul,rfl,⟨_,a9.of AD⟩,fun Da di=>?_⟩;refine xV (xs:=ps.map V.ref) (fun j ae H'=>∃v,ae=[v]/\H' Da=some (.lst ((k_ (xs.take j)).map V.str))/\a8 H H') ⟨none,rfl,aq,bf di⟩ ?_ ?_ ?_
 ·rintro j ae H2 _ ⟨v,rfl,_,s2⟩;exact a9.of (s2 _ _ AD)
 ·rintro j x ae H2 hx ⟨v,rfl,e2,s2⟩;rw [fG] at hx
  cases q:ps[j]? with
  | none=>rw [q] at hx;cases hx
  | some p=>
   rw [q] at hx;cases hx;obtain ⟨x,wI,hw⟩:=aY M8 q;have hj:j<xs.length:=(gu.mp wI).1;refine ⟨_,rfl,a_ (s2 _ _ hw) rfl ⟨_,e2,?_,_,rfl,?_,fun b o e=>?_⟩⟩
   ·unfold k_;rw [aI,aI,jX];exact gy (Ku oE)
   ·unfold k_;rw [aq,lu,wI,fY,fY];rfl
   ·rw [aj (aP e di)];exact s2 _ _ e
 rintro ae H2 ⟨v,rfl,e2,s2⟩;have bQ:xs.take (ps.map V.ref).length=xs:=by rw [aI,hlen];exact jN
 rw [bQ] at e2;refine ⟨Da,_,rfl,.inl ⟨a9.of e2,fun t ht=>?_⟩⟩;have s3:=s2.trans (bf (o:=.tup ((k_ xs).map V.str)) ht);have e3:upd H2 t (.tup ((k_ xs).map V.str)) t=some (.tup ((k_ xs).map V.str)):=aq;generalize upd H2 t (.tup ((k_ xs).map V.str))=H3 at*;refine ⟨u,rfl,L3,_,rfl,word,rfl,fun ss VL b hb=>?_,fun hn=>by rw [hk] at hn;cases hn⟩;rw [hk] at VL;cases VL;refine ⟨t,b,_,_,rfl,rfl,dm.of e3,hb H3,Hk,Hk,_,rfl,?_⟩;rcases ask with ⟨rfl,ask⟩ | ⟨ne,rfl⟩
 case inr=>
  refine sM ?_ ((G.same s3).1 rfl _ (a8.refl _));show (!zW ((k_ xs).map V.str) (ks.map V.str))=true;rw [Bool.not_eq_true'];exact Bool.eq_false_iff.mpr fun z=>ne (QO ((Y7 Sz Sz).mp z)).symm
 refine jh (by rw [SW Hk];rfl) (c1 _ _ ?_);clear c1 N1;have zP:=FA.same s3;have Bc:=G.same s3;have lM:=s3 _ _ AD;have pF:Paired (iP H3) ps xs:=iI M8 fun p x e=>e.same s3
 cases ask with
 | sum x y hx hy=>
  cases pF with
  | cons w1 r=>cases r with
   | cons w2 r=>cases r
                refine fun N1 _=>⟨_,rfl,rfl,_,rfl,sM (by decide+kernel) ?_⟩;exact ⟨_,rfl,nh lM (lg (j:=0) rfl) ⟨_,rfl,nh lM (lg (j:=1) rfl) ⟨_,_,x,y,rfl,w1,w2,hx,hy,Bc⟩⟩⟩
 | aD x hx=>
  cases pF with
  | cons w1 r=>cases r
               refine fun N1 c1=>⟨_,rfl,rfl,_,rfl,jh (by decide+kernel) (c1 _ _ ?_)⟩;refine fun N1 _=>⟨_,rfl,rfl,_,rfl,sM (by decide+kernel) ?_⟩;exact ⟨_,rfl,_,rfl,nh lM (lg (j:=0) rfl) ⟨d,_,Fa,x,rfl,zP,w1,hx,Bc⟩⟩
 | bp x hx=>
  cases pF with
  | cons w1 r=>cases r
               refine fun N1 c1=>⟨_,rfl,rfl,_,rfl,jh (by decide+kernel) (c1 _ _ ?_)⟩;refine fun N1 c1=>⟨_,rfl,rfl,_,rfl,jh (by decide+kernel) (c1 _ _ ?_)⟩;refine fun N1 _=>⟨_,rfl,rfl,_,rfl,sM (by decide+kernel) ?_⟩;exact ⟨_,rfl,_,rfl,nh lM (lg (j:=0) rfl) ⟨d,_,Fa,x,rfl,zP,w1,hx,Bc⟩⟩
 | sure x fa hx hf=>
  cases pF with
  | cons w1 r=>cases r
               refine fun N1 c1=>⟨_,rfl,rfl,_,rfl,jh (by decide+kernel) (c1 _ _ ?_)⟩;refine fun N1 c1=>⟨_,rfl,rfl,_,rfl,jh (by decide+kernel) (c1 _ _ ?_)⟩;refine fun N1 c1=>⟨_,rfl,rfl,_,rfl,jh (by decide+kernel) (c1 _ _ ?_)⟩;refine fun N1 _=>⟨_,rfl,rfl,_,rfl,sM (by decide+kernel) ?_⟩;exact ⟨_,rfl,_,rfl,nh lM (lg (j:=0) rfl) ⟨d,_,Fa,x,fa,rfl,zP,w1,hx,hf,Bc⟩⟩
 | back x y fa hx hy hf=>
  cases pF with
  | cons w1 r=>cases r with
   | cons w2 r=>cases r
                refine fun N1 c1=>⟨_,rfl,rfl,_,rfl,jh (by decide+kernel) (c1 _ _ ?_)⟩;refine fun N1 c1=>⟨_,rfl,rfl,_,rfl,jh (by decide+kernel) (c1 _ _ ?_)⟩;refine fun N1 c1=>⟨_,rfl,rfl,_,rfl,jh (by decide+kernel) (c1 _ _ ?_)⟩;refine fun N1 c1=>⟨_,rfl,rfl,_,rfl,jh (by decide+kernel) (c1 _ _ ?_)⟩;refine fun N1 _=>⟨_,rfl,rfl,_,rfl,sM (by decide+kernel) ?_⟩;exact ⟨_,rfl,_,rfl,nh lM (lg (j:=0) rfl) ⟨_,rfl,nh lM (lg (j:=1) rfl) ⟨d,_,_,Fa,x,y,fa,rfl,zP,w1,w2,hx,hy,hf,Bc⟩⟩⟩
 | aw x fa hx hf=>
  cases pF with
  | cons w1 r=>cases r
               refine fun N1 c1=>⟨_,rfl,rfl,_,rfl,jh (by decide+kernel) (c1 _ _ ?_)⟩;refine fun N1 c1=>⟨_,rfl,rfl,_,rfl,jh (by decide+kernel) (c1 _ _ ?_)⟩;refine fun N1 c1=>⟨_,rfl,rfl,_,rfl,jh (by decide+kernel) (c1 _ _ ?_)⟩;refine fun N1 c1=>⟨_,rfl,rfl,_,rfl,jh (by decide+kernel) (c1 _ _ ?_)⟩;refine fun N1 c1=>⟨_,rfl,rfl,_,rfl,jh (by decide+kernel) (c1 _ _ ?_)⟩;exact ⟨_,rfl,_,rfl,nh lM (lg (j:=0) rfl) ⟨d,_,Fa,x,fa,rfl,zP,w1,hx,hf,Bc⟩⟩
end
end Y0
namespace L2
open PySem
theorem o3 (h:¬g=f):aL f v ((g,x)::r)=(g,x)::aL f v r:=if_neg h
theorem XT:aL f v ((f,x)::r)=(f,v)::r:=if_pos rfl
end L2
namespace Y0
open PySem L2
seal L2.PE L2.PA L2.PT L2.PS L2.gB L2.PG L2.pW L2.PI L2.PO
structure qc (K:bE) (mg:Str->Option Value) (C:Addr):Prop where
 cl:sv K C
 nM:mM K C "many"
 nB:mM K C "by_end"
 nR:mM K C "rows"
 nE:mM K C "best"
 nX:mM K C "bar"
 len:mg "len"=none
 range:mg "range"=none
def jm (n:Nat) (be rl bd:Addr) (bar:V):List (Str×V):=[("many",.int (n:Int)),("by_end",.ref be),("rows",.ref rl),("best",.ref bd),("bar",bar)]
theorem OK:(("by_end":Str)=="many")=false:=by decide+kernel
theorem cl2:(("rows":Str)=="many")=false:=by decide+kernel
theorem cl3:(("rows":Str)=="by_end")=false:=by decide+kernel
theorem cl4:(("best":Str)=="many")=false:=by decide+kernel
theorem cl5:(("best":Str)=="by_end")=false:=by decide+kernel
theorem cl6:(("best":Str)=="rows")=false:=by decide+kernel
theorem cl7:(("bar":Str)=="many")=false:=by decide+kernel
theorem cl8:(("bar":Str)=="by_end")=false:=by decide+kernel
theorem cl9:(("bar":Str)=="rows")=false:=by decide+kernel
theorem zIk:(("bar":Str)=="best")=false:=by decide+kernel
section
theorem UQ:(jm n be rl bd bar).lookup ("many":Str)=some (.int (n:Int)):=by unfold jm;rw [gv,pU]
theorem UI:(jm n be rl bd bar).lookup ("by_end":Str)=some (.ref be):=by unfold jm;rw [gv,OK,gv,pU]
theorem uo:(jm n be rl bd bar).lookup ("rows":Str)=some (.ref rl):=by unfold jm;rw [gv,cl2,gv,cl3,gv,pU]
theorem sO:(jm n be rl bd bar).lookup ("best":Str)=some (.ref bd):=by unfold jm;rw [gv,cl4,gv,cl5,gv,cl6,gv,pU]
theorem EL:(jm n be rl bd bar).lookup ("bar":Str)=some bar:=by unfold jm;rw [gv,cl7,gv,cl8,gv,cl9,gv,zIk,gv,pU]
theorem oW {m:Str} (h1:(m=="many")=false:=by decide+kernel) (h2:(m=="by_end")=false:=by decide+kernel) (h3:(m=="rows")=false:=by decide+kernel) (h4:(m=="best")=false:=by decide+kernel) (h5:(m=="bar")=false:=by decide+kernel):(jm n be rl bd bar).lookup m=none:=by unfold jm;rw [gv,h1,gv,h2,gv,h3,gv,h4,gv,h5];rfl
theorem zFx:aL "bar" v (jm n be rl bd bar)=jm n be rl bd v:=by unfold jm;rw [o3 (by decide+kernel),o3 (by decide+kernel),o3 (by decide+kernel),o3 (by decide+kernel),XT]
end
def Ld:Option Nat->V
 | none=>.aR
 | some i=>.int (i:Int)
def mr:MU.Wd->Str
 | .told=>"told"
 | .sum=>"sum"
 | .aD=>"late"
 | .bp=>"soon"
 | .sure=>"sure"
 | .back=>"back"
 | .aw=>"cross"
def cx (k:MU.Key):List Key:=[.inr (mL k.1),.inl (k.2.1:Int),.inl (k.2.2:Int)]
theorem RC (h:mL a=mL b):a=b:=by
 revert h
 cases a<;>cases b<;>decide+kernel
theorem Qz (h:cx k=cx k'):k=k':=by
 obtain ⟨t,a,b⟩:=k;obtain ⟨t',a',b'⟩:=k';unfold cx at h
 injection h with h1 h
 injection h with h2 h
 injection h with h3 _
 have e1:=RC (Sum.inr.inj h1);have e2:=Int.ofNat.inj (Sum.inl.inj h2);have e3:=Int.ofNat.inj (Sum.inl.inj h3);have e1:t=t':=e1;have e2:a=a':=e2;have e3:b=b':=e3;rw [e1,e2,e3]
def qC (H:Hp) (q:Addr) (r:Row):Prop:=∃pw pu,H q=some (.tup [.ref pw,.str (mr r.word),.ref pu])/\iP H pw r.cD/\H pu=some (.tup (r.used.map fun i:Nat=>V.int (i:Int)))
theorem qC.same (h:qC H q r) (s:a8 H H'):qC H' q r:=by obtain ⟨pw,pu,h1,h2,h3⟩:=h;exact ⟨pw,pu,s _ _ h1,s _ _ h2,s _ _ h3⟩
structure gw (C:Addr) (H:Hp) (p be rl bd:Addr) (n:Nat) (F:MU.dh) (st:MU.St):Prop where
 ins:∃dx,H p=some (.ins C dx (jm n be rl bd (Ld st.bar)))
 gZ:oi H be F
 rows:∃qs,H rl=some (.lst (qs.map V.ref))/\Paired (qC H) qs st.rows
 best:∃kvs,H bd=some (.dT kvs)/\(kvs.length<=st.rows.length/\∀kv∈kvs,∃k:MU.Key,kv.1=cx k)/\∀k:MU.Key,fJ kvs (cx k)=(st.best k).map fun i:Nat=>V.int (i:Int)
theorem gw.same (h:gw C H p be rl bd n F st) (s:a8 H H'):gw C H' p be rl bd n F st:=by obtain ⟨⟨dx,h1⟩,h2,⟨qs,h3,h4⟩,⟨kvs,h5,h6,h7⟩⟩:=h;exact ⟨⟨dx,s _ _ h1⟩,h2.same s,⟨qs,s _ _ h3,iI h4 fun q r e=>e.same s⟩,⟨kvs,s _ _ h5,h6,h7⟩⟩
def dD (p rl bd:Addr) (H H':Hp):Prop:=∀b o,H b=some o->b≠p->b≠rl->b≠bd->H' b=some o
theorem dD.of (s:a8 H H'):dD p rl bd H H':=fun b o e _ _ _=>s _ _ e
theorem dD.trans (a:dD p rl bd H H1) (b:dD p rl bd H1 H2):dD p rl bd H H2:=fun c o e h1 h2 h3=>b c o (a c o e h1 h2 h3) h1 h2 h3
open Classical in
def Pa (C:Addr):Sp:=fun vs H Q _=>∃p be rl bd q n F st x,vs=[.ref p,.ref q]/\gw C H p be rl bd n F st/\cq n st/\iP H q x/\∀H',a8 H H'->Q (.bl (decide (ir st x))) H'
theorem Fs (h:Paired (qC H) qs rows) {i:Nat} (hx:(rows[i]?).map (·.cD)=some x):∃q r pw pu,qs[i]?=some q/\rows[i]?=some r/\r.cD=x/\H q=some (.tup [.ref pw,.str (mr r.word),.ref pu])/\iP H pw x/\H pu=some (.tup (r.used.map fun i:Nat=>V.int (i:Int))):=by
 cases hr:rows[i]? with
 | none=>rw [hr] at hx;cases hx
 | some r=>
  rw [hr] at hx;have hx:some r.cD=some x:=hx;cases hx;have hl:=Paired.length h;have hi:=(gu.mp hr).1;obtain ⟨q,hq⟩:∃q,qs[i]?=some q:=⟨_,lz (BR hi hl)⟩;obtain ⟨r',ay,⟨pw,pu,e1,e2,e3⟩⟩:=aY h hq;rw [hr] at ay;cases ay;exact ⟨q,r,pw,pu,hq,rfl,rfl,e1,e2,e3⟩
theorem KW:oX (mq x) none (some 3)=(cx x.key).map kV:=by unfold oX mq;rw [jv,show (some (3:Int))=some ((3:Nat):Int) from rfl,gS];rfl
theorem JH:¬(cv (mq x).length 0 none=0/\cv (mq x).length (mq x).length (some 3)=(mq x).length):=fun z=>by have h:=z.2;rw [show (some (3:Int))=some ((3:Nat):Int) from rfl,gS] at h;have e:(mq x).length=4:=rfl;rw [e] at h;cases h
section
theorem Li:cC ["self","what","key","known"] ["self","what"] (aU cp):=de
theorem uV (F:gC K "is_news" "Closing.is_news" cp f fd) (T:qc K mg C):au P w K mg base a7 1 f fd ["self","what"] (Pa C):=by
 refine F.dw Li fun _ A _ s H _ Q E hr h=>?_;obtain ⟨p,be,rl,bd,q,n,Fa,st,x,rfl,c,g,hw,k⟩:=h;have hu:=mJ hr;refine ⟨_,cy (eM (PW.pt (xy (ef iu (bc (pv 1)) ft) (xI (ef iu (bc (pv 1)) (bc (pv 1))))))
  (aA (cG (vC vJ (bc (pv 1)) aG))) eV)
  (cy (cF 2 Li.nd (BE Fh (pv 1) B7 (B8 aG)))
  (cy (eM (xA (Hb hu (pv 2) (fq (pv 0) rfl)) (by with_unfolding_all rfl)) (aA (cG zR)) eV)
  (cy (cF 3 Li.nd (bc (cY dC (fq (pv 0) rfl) (ot hu (fq (pv 0) rfl) (pv 2) (fun _ _=>rfl)))))
  (aA (cG (QA (ef iu (bc (pv 1)) ft) (vC vJ (bc (pv 1)) (bc (pv 3))) (vC TY (bc (pv 1)) (bc (pv 3))))))))),?_⟩
 obtain ⟨dx,hp⟩:=c.ins;obtain ⟨qs,gH,cw⟩:=c.rows;obtain ⟨kvs,gq,_,eQ⟩:=c.best;have kb:∀(H':Hp) (b:Bool),a8 H H'->(b=true↔ir st x)->Q (.bl b) H':=fun H' b s' e=>by
  have:=k H' s';have e2:b=decide (ir st x):=by
   by_cases z:ir st x
   ·rw [e.mpr z];simp [z]
   ·cases b with
    | true=>exact absurd (e.mp rfl) z
    | false=>simp [z]
  rw [e2];exact this
 refine fun N1 c1=>⟨_,rfl,a_ hw rfl ⟨rfl,_,rfl,?_⟩⟩;rw [FC];have rest:¬(x.tie=true/\x.a=x.b)->N1 (L2.jA ["self","what","key","known"] [.ref p,.ref q]) H:=fun kM=>by
  refine c1 _ _ ?_;refine fun N2 c2=>⟨_,rfl,_,rfl,q,_,rfl,dm.of hw,JH,fun kt nH=>c2 _ _ ?_⟩;rw [KW];have s1:=bf (o:=.tup ((cx x.key).map kV)) nH;have e1:upd H kt (.tup ((cx x.key).map kV)) kt=some (.tup ((cx x.key).map kV)):=aq;generalize upd H kt (.tup ((cx x.key).map kV))=H1 at*;have dg:=fL.t (k:=cx x.key) (s1 _ _ gq) e1;rw [eQ] at dg;refine fun N3 c3=>⟨_,rfl,_,rfl,p,C,dx,_,_,rfl,s1 _ _ hp,T.cl,T.nE,sO,bd,_,rfl,dg,_,rfl,?_⟩;have nw:ir st x↔∀u,val st x.key=some u->dR x.tie x.v u:=by unfold ir;rw [if_neg kM]
  cases hb:st.best x.key with
  | none=>
   refine nU (kb H1 true s1 ⟨fun _=>nw.mpr fun u lq=>?_,fun _=>rfl⟩);unfold val at lq;rw [hb] at lq;cases lq
  | some i=>
   rw [hb] at dg;refine ji (c3 _ _ ?_);obtain ⟨u,VI,_⟩:=g.at_ _ _ hb;obtain ⟨q',r,pw,pu,g1,_,_,g4,g5,_⟩:=Fs cw VI;have kQ:jf (qs.map V.ref) (i:Int)=some (.ref q'):=lg (by rw [fG,g1];rfl);refine fun N4 c4=>⟨_,rfl,p,C,dx,_,_,rfl,s1 _ _ hp,T.cl,T.nR,uo,_,rfl,p,C,dx,_,_,rfl,s1 _ _ hp,T.cl,T.nE,sO,_,rfl,bd,_,rfl,dg,?_⟩;refine ⟨rl,_,_,_,rfl,rfl,s1 _ _ gH,kQ,a_ (s1 _ _ g4) rfl (c4 _ _ ?_)⟩;have hv:=MU.qj hb VI;refine ⟨_,rfl,a_ (s1 _ _ hw) rfl ⟨rfl,_,rfl,?_⟩⟩;rw [FC];have Vt:ir st x↔dR x.tie x.v u.v:=nw.trans ⟨fun z=>z _ hv,fun z u' lq=>by rw [hv] at lq;cases lq;exact z⟩
   cases ht:x.tie with
   | true=>
    refine nU ⟨_,rfl,a_ (s1 _ _ hw) rfl ⟨_,rfl,a_ (s1 _ _ g5) rfl ⟨_,_,rfl,rfl,kb _ _ s1 ?_⟩⟩⟩;rw [Vt,ht,zJ];unfold dR;rw [if_pos rfl]
   | false=>
    refine ji ⟨_,rfl,a_ (s1 _ _ hw) rfl ⟨_,rfl,a_ (s1 _ _ g5) rfl ⟨_,_,rfl,rfl,kb _ _ s1 ?_⟩⟩⟩;rw [Vt,ht,zJ];unfold dR;rw [if_neg (by decide)]
 cases ht:x.tie with
 | false=>exact ji (ji (rest fun z=>by rw [ht] at z;cases z.1))
 | true=>
  refine nU ⟨_,rfl,a_ hw rfl ⟨_,rfl,a_ hw rfl ⟨rfl,_,rfl,?_⟩⟩⟩;rw [ub]
  by_cases e:x.a=x.b
  ·refine j9 e ⟨_,rfl,a_ hw rfl ⟨_,_,rfl,rfl,kb H _ (a8.refl _) ?_⟩⟩;rw [zJ];unfold ir;rw [if_pos ⟨ht,e⟩]
  ·exact l8 e (rest fun z=>e z.2)
end
def JN (C:Addr):Sp:=fun vs H Q _=>∃p be rl bd q pu n F st x wd us,vs=[.ref p,.ref q,.str (mr wd),.ref pu]/\gw C H p be rl bd n F st/\cq n st/\iP H q x/\H pu=some (.tup (us.map fun i:Nat=>V.int (i:Int)))/\st.rows.length<=16500000/\
 ∀H',gw C H' p be rl bd n F (take st x wd us)->dD p rl bd H H'->Q .aR H'
theorem P4:decide (Ld o=V.aR)=decide (o=none):=by
 cases o with
 | none=>rfl
 | some i=>exact (gA fun z=>nomatch z).trans (gA fun z=>nomatch z).symm
theorem XE (h:ir st x):take st x wd us={ rows:=st.rows++[⟨x,wd,us⟩],best:=fun k=>if k=x.key then some st.rows.length else st.best k,bar:=if st.bar=none/\iX x then some st.rows.length else st.bar }:=by unfold take;rw [if_pos h]
theorem Xo {kvs:List (List Key×V)} {k:List Key} {v:V} {kv:List Key×V} (h:kv∈eC kvs k v):kv.1=k\/∃rB∈kvs,kv.1=rB.1:=by
 unfold eC at h;split at h
 ·obtain ⟨rB,h0,rfl⟩:=eI.mp h;refine .inr ⟨rB,h0,?_⟩;split<;>rfl
 ·rcases jF.mp h with h | h
  ·exact .inr ⟨kv,h,rfl⟩
  ·rw [iD.mp h];exact .inl rfl
theorem Br (h:n<=16500000):n<sizeLine:=pT h (by decide)
section
theorem zG9:cC ["self","what","word","used"] ["self","what","word","used"] (aU cU):=de
theorem uN {f C fN fB:Addr} {fd oN qw:FuncData} (F:gC K "take" "Closing.take" cU f fd) (T:qc K mg C)
 (mN:jH K C "is_news" fN) (bN:eT K oN ["self","what"] []) (GN:au P w K mg base a7 1 fN oN ["self","what"] (Pa C))
 (FB:Fn K mg "bars_every_hand" br ["what"] fB qw) (GB:au P w K mg base a7 1 fB qw ["what"] Pw):au P w K mg base a7 2 f fd ["self","what","word","used"] (JN C):=by
 refine F.dw zG9 fun _ A _ s H _ Q E hr h=>?_;obtain ⟨p,be,rl,bd,q,pu,n,Fa,st,x,wd,us,rfl,c,g,hw,CO,hlen,k⟩:=h;have hu:=mJ hr;refine ⟨_,aA (eM (xw (kj (pv 0) T.cl mN GN hr bN .nil gD (bR (pv 1))))
  (cy (Fp hu (fq (pv 0) rfl) (BE Fh (pv 1) B7 (B8 aG)) (lB Ar (by rfl) T.len A' (bR (fq (pv 0) rfl))) rfl)
  (cy (z_ (eM (PW.pt (xy (ef JJ (fq (pv 0) rfl) og) (xI (xw (cH GB hr FB (bR (pv 1))))))) (aA (sP (pv 0) (lB Ar (by rfl) T.len A' (bR (fq (pv 0) rfl))) rfl)) eV))
  (aA (gE (qE so qy sk qi (fq (pv 0) rfl) (bR (eU (iQ (pv 1) (pv 2) (pv 3))))))))) eV),?_⟩
 obtain ⟨dx,hp⟩:=c.ins;refine ⟨_,rfl,p,dx,_,rfl,hp,oW,_,rfl,p,be,rl,bd,q,n,Fa,st,x,rfl,c,g,hw,fun H1 s1=>⟨_,rfl,?_⟩⟩
 by_cases hn:ir st x
 ·refine sM (by simp [hn]) ?_;have c1:=c.same s1;have rH:=s1 _ _ hw;have M9:=s1 _ _ CO;obtain ⟨wW,iL⟩:=c1.ins;obtain ⟨qs,gH,cw⟩:=c1.rows;obtain ⟨kvs,gq,tI,eQ⟩:=c1.best;have yW:qs.length=st.rows.length:=Paired.length cw;refine fun N2 c2=>⟨_,rfl,p,C,wW,_,_,rfl,iL,T.cl,T.nR,uo,rl,_,rfl,.inl (a9.of gH),_,rfl,p,C,wW,_,_,rfl,iL,T.cl,T.nE,sO,_,rfl,_,rfl,q,_,rfl,dm.of rH,JH,fun kt nH=>?_⟩;rw [KW,aI,yW];have s2:=bf (o:=.tup ((cx x.key).map kV)) nH;have e2:upd H1 kt (.tup ((cx x.key).map kV)) kt=some (.tup ((cx x.key).map kV)):=aq;generalize upd H1 kt (.tup ((cx x.key).map kV))=H2 at*;refine ⟨bd,_,rfl,sC.t (k:=cx x.key) (s2 _ _ gq) e2 (Br (by have:=tI.1;exact uv tI.1 hlen)),c2 _ _ ?_⟩;have k3:∀b o,H1 b=some o->b≠bd->upd H2 bd (.dT (eC kvs (cx x.key) (.int (st.rows.length:Int)))) b=some o:=fun b o e ne=>by
   rw [aj ne];exact s2 _ _ e
  have e3:upd H2 bd (.dT (eC kvs (cx x.key) (.int (st.rows.length:Int)))) bd=some (.dT (eC kvs (cx x.key) (.int (st.rows.length:Int)))):=aq;generalize upd H2 bd (.dT (eC kvs (cx x.key) (.int (st.rows.length:Int))))=H3 at*;clear c2 N2;have AA:p≠bd:=cB iL gq nofun;have Vl:rl≠bd:=cB gH gq nofun;have yA:p≠rl:=cB iL gH nofun;have lT:=k3 _ _ iL AA;have vi:=k3 _ _ gH Vl;have hw3:=k3 _ _ rH (cB rH gq nofun);refine fun N4 c4=>⟨fun ae H'=>ae=L2.jA ["self","what","word","used"] [.ref p,.ref q,.str (mr wd),.ref pu]/\(∃dx',H' p=some (.ins C dx' (jm n be rl bd (Ld (if st.bar=none/\iX x then some st.rows.length else st.bar)))))/\∀b o,H3 b=some o->b≠p->H' b=some o,?_,?_⟩
  ·refine ⟨_,rfl,p,C,wW,_,_,rfl,lT,T.cl,T.nX,EL,rfl,_,rfl,?_⟩;rw [P4]
   by_cases hb:st.bar=none
   ·refine j9 hb ⟨_,rfl,q,x,rfl,hw3,_,rfl,?_⟩
    by_cases hB:iX x
    ·refine j9 hB ?_;refine ⟨_,rfl,p,C,wW,_,_,rfl,lT,T.cl,T.nR,uo,rl,_,rfl,.inl (a9.of vi),_,rfl,p,C,wW,_,rfl,lT,T.cl,T.nX,by show 5<1000;decide,rfl,⟨wW,?_⟩,fun b o e ne=>?_⟩
     ·rw [aq,zFx,if_pos ⟨hb,hB⟩,aI,yW];rfl
     ·rw [aj ne];exact e
    ·refine l8 hB ⟨rfl,⟨wW,?_⟩,fun b o e _=>e⟩;rw [if_neg fun z=>hB z.2];exact lT
   ·refine l8 hb (ji ⟨rfl,⟨wW,?_⟩,fun b o e _=>e⟩);rw [if_neg fun z=>hb z.1];exact lT
  ·rintro ae H4 ⟨rfl,⟨WC,Ik⟩,k4⟩;refine c4 _ _ ?_;have yV:=k4 _ _ vi (aB yA);refine ⟨_,rfl,p,C,WC,_,_,rfl,Ik,T.cl,T.nR,uo,.inl ⟨rfl,_,a9.of yV⟩,_,rfl,_,rfl,_,rfl,dU rfl,fun rt M5=>?_⟩;have s5:=bf (o:=.tup [.ref q,.str (mr wd),.ref pu]) M5;have e5:upd H4 rt (.tup [.ref q,.str (mr wd),.ref pu]) rt=some (.tup [.ref q,.str (mr wd),.ref pu]):=aq;generalize upd H4 rt (.tup [.ref q,.str (mr wd),.ref pu])=H5 at*;refine ⟨rl,_,_,rfl,rfl,s5 _ _ yV,by rw [aI,yW];exact Br (by omega),?_⟩;have k6:∀b o,H5 b=some o->b≠rl->upd H5 rl (.lst (qs.map V.ref++[.ref rt])) b=some o:=fun b o e ne=>by rw [aj ne];exact e
   have e6:upd H5 rl (.lst (qs.map V.ref++[.ref rt])) rl=some (.lst ((qs++[rt]).map V.ref)):=by rw [aq,fY];rfl
   generalize upd H5 rl (.lst (qs.map V.ref++[.ref rt]))=H6 at*;have all:∀b o,H1 b=some o->b≠p->b≠rl->b≠bd->H6 b=some o:=fun b o e n1 n2 n3=>k6 _ _ (s5 _ _ (k4 _ _ (k3 _ _ e n3) n1)) n2;have tup:∀b xs,H1 b=some (.tup xs)->H6 b=some (.tup xs):=fun b xs e=>all _ _ e (cB e iL nofun) (cB e gH nofun) (cB e gq nofun);refine k H6 ?_ fun b o e n1 n2 n3=>all _ _ (s1 _ _ e) n1 n2 n3;rw [XE hn];refine ⟨⟨WC,k6 _ _ (s5 _ _ Ik) yA⟩,?_,⟨qs++[rt],e6,?_⟩,⟨_,k6 _ _ (s5 _ _ (k4 _ _ e3 (aB AA))) (aB Vl),?_,fun kk=>?_⟩⟩
   ·obtain ⟨DC,f1,f2,f3,f4⟩:=c1.gZ.at_;refine ⟨DC,all _ _ f1 (cB f1 iL nofun) (cB f1 gH nofun) (cB f1 gq nofun),f2,f3,fun e f hf=>?_⟩;obtain ⟨pp,q1,q2⟩:=f4 e f hf;exact ⟨pp,q1,tup _ _ q2⟩
   ·refine Au (iI cw fun qq r e=>?_) (.cons ?_ .nil)
    ·obtain ⟨pw,HU,r1,r2,r3⟩:=e;exact ⟨pw,HU,tup _ _ r1,tup _ _ r2,tup _ _ r3⟩
    ·exact ⟨q,pu,k6 _ _ e5 (cB e5 (s5 _ _ yV) nofun),tup _ _ rH,tup _ _ M9⟩
   ·refine ⟨?_,fun kv Na=>?_⟩
    ·show (eC kvs (cx x.key) _).length<=(st.rows++[_]).length;have:=Aq kvs (cx x.key) (.int (st.rows.length:Int));have:=tI.1;rw [iT];show _<=st.rows.length+1;lia
    ·rcases Xo Na with z | z
     ·exact ⟨x.key,z⟩
     ·obtain ⟨rB,h0,e0⟩:=z;obtain ⟨k0,e1⟩:=tI.2 rB h0;exact ⟨k0,e0.trans e1⟩
   ·show fJ (eC kvs (cx x.key) _) (cx kk)=(if kk=x.key then some st.rows.length else st.best kk).map _;rw [BH]
    by_cases ek:kk=x.key
    ·rw [if_pos (by rw [ek]),if_pos ek];rfl
    ·rw [if_neg fun z=>ek (Qz z),if_neg ek];exact eQ kk
 ·refine jh (by simp [hn]) (k H1 ?_ (dD.of s1));rw [MU.xN hn];exact c.same s1
end
end Y0
namespace L2
open PySem PySem.Spec PyProof.Rows
theorem QJ {js:List (Option Nat)} {g:TG} {tc:TT} {te:TE} {σ:St} {H:Hp} {D:Addr} {Q:VK} {a:Addr} {xs:List V} (Pv:Nat->St->Hp->Prop) (h0:Pv 0 (sQ js σ) (upd H D (.lst []))) (hl:∀i ae H',i<=xs.length->Pv i ae H'->dm K H' a xs)
 (hs:∀i x ae H',xs[i]?=some x->Pv i ae H'->g x ae H' fun eJ H3=>tc eJ H3 fun ok H4=>if ok=true then te eJ H4 fun y H5=>∃ys,H5 D=some (.lst ys)/\ys.length<sizeLine/\Pv (i+1) eJ (upd H5 D (.lst (ys++[y]))) else Pv (i+1) eJ H4)
 (hd:∀ae H',Pv xs.length ae H'->Q (.ref D) H'):
 Ab js g tc te σ Q (Ba K a) H D:=by
 refine ⟨fun i m σ H=>m=xs.length-i/\i<=xs.length/\Pv i σ H,⟨xs.length,by simp,dP _,h0⟩,?_⟩;rintro i m ae H' ⟨rfl,hi,p⟩
 by_cases aF:i<xs.length
 ·refine .inr ⟨⟨xs,_,hl i ae H' hi p,lz aF⟩,Pv (i+1),fun iW H2 p'=>⟨xs.length-(i+1),vW aF,rfl,aF,p'⟩,fun x H2 y=>?_⟩;obtain ⟨e,y⟩:=y;subst e;exact hs i x ae _ (y xs (hl i ae _ hi p)) p
 ·have e:i=xs.length:=vX hi aF;subst e;exact .inl ⟨⟨xs,hl _ ae H' hi p,av _⟩,hd ae H' p⟩
theorem sT {Y:Cx} {e:Expr} {f:Str} {pos:Pos} {ta:TE} (hK:Y.K=K) (he:PE Y e ta) (hb:attributeBase e f Y.env (eval e Y.env)=eval e Y.env):PE Y (.Attribute e f pos) (TQ K ta f):=by subst hK;exact fq he hb
end L2
namespace Y0
open PySem L2
seal L2.PE L2.PA L2.PT L2.PS L2.gB L2.PG L2.pW L2.PI L2.PO
def Fi (C:Addr):Sp:=fun vs H Q _=>∃p be rl bd pu n F st wd us xs o,vs=[.ref p,.str (mr wd),.ref pu]/\gw C H p be rl bd n F st/\cq n st/\H pu=some (.tup (us.map fun i:Nat=>V.int (i:Int)))/\Paired (fun i x=>ai st i=some x) us xs/\pZ F (mr wd) xs o/\st.rows.length<=16500000/\
 ∀H',gw C H' p be rl bd n F (MU.put st o wd us)->dD p rl bd H H'->Q .aR H'
section
theorem TF:cC ["self","word","used","what"] ["self","word","used"] (aU cj):=de
theorem zIi:jB (aU cj) ["self","word","used","what"] (nP [(".0",.local),("number",.local),("self",.free)]) ["number","self"] [none,some 0]:=nS
theorem zHu:(["number","self"]:List Str).Nodup:=by decide+kernel
theorem uZ {f C fT fW:Addr} {fd m8 wV:FuncData} (F:gC K "draw" "Closing.draw" cj f fd) (T:qc K mg C)
 (mT:jH K C "take" fT) (bT:eT K m8 ["self","what","word","used"] []) (GT:au P w K mg base a7 2 fT m8 ["self","what","word","used"] (JN C))
 (FW:Fn K mg "what_follows" bz ["falls","word","used"] fW wV) (GW:au P w K mg base a7 2 fW wV ["falls","word","used"] RY):au P w K mg base a7 3 f fd ["self","word","used"] (Fi C):=by
 refine F.dw TF fun _ A _ s H _ Q E hr h=>?_;obtain ⟨p,be,rl,bd,pu,n,Fa,st,wd,us,xs,o,rfl,c,g,CO,VH,ask,hlen,k⟩:=h;refine ⟨_,cy (cF 3 TF.nd (cH GW hr FW (iQ (fq (pv 0) rfl) (pv 1) (qg rfl (JE (pv 2)) zIi (fun cl ex s0 H0=>⟨bV 0 zHu,sY,bc (cY dC (sT (K:=K) rfl (pv 1) rfl) (pv 0))⟩)))))
  (aA (eM (ef Qa (pv 3) og) (aA (gE (kj (pv 0) T.cl mT GT hr bT .nil gD (iQ (pv 3) (pv 1) (pv 2))))) eV)),?_⟩
 obtain ⟨dx,hp⟩:=c.ins;obtain ⟨qs,gH,cw⟩:=c.rows;obtain ⟨_,tF⟩:=ask.kinds;have AD:us.length=xs.length:=Paired.length VH;refine fun N1 c1=>⟨_,rfl,p,C,dx,_,_,rfl,hp,T.cl,T.nB,UI,_,rfl,_,rfl,pu,rfl,⟨_,dm.of CO⟩,fun Da di=>?_⟩;refine QJ (xs:=us.map fun i:Nat=>V.int (i:Int)) (fun j ae H'=>∃v ps,ae=[v,some (.ref p)]/\H' Da=some (.lst (ps.map V.ref))/\Paired (iP H') ps (xs.take j)/\a8 H H') ⟨none,[],rfl,aq,.nil,bf di⟩ ?_ ?_ ?_
 ·rintro j ae H2 _ ⟨v,ps,rfl,_,_,s2⟩;exact dm.of (s2 _ _ CO)
 ·rintro j x ae H2 hx ⟨v,ps,rfl,e2,jd,s2⟩;rw [fG] at hx
  cases q:us[j]? with
  | none=>rw [q] at hx;cases hx
  | some i=>
   rw [q] at hx;cases hx;obtain ⟨y,tE,hy⟩:=aY VH q;obtain ⟨q',r,pw,HU,g1,_,_,g4,g5,_⟩:=Fs cw hy;have kQ:jf (qs.map V.ref) (i:Int)=some (.ref q'):=lg (by rw [fG,g1];rfl);have hj:j<xs.length:=(gu.mp tE).1;have eP:ps.length=min j xs.length:=by rw [Paired.length jd,jX]
   refine ⟨_,rfl,p,C,dx,_,_,rfl,s2 _ _ hp,T.cl,T.nR,uo,jJ rfl (s2 _ _ gH) kQ (a_ (s2 _ _ g4) rfl ⟨_,e2,?_,_,ps++[pw],rfl,?_,?_,fun b o e=>?_⟩)⟩
   ·rw [aI,eP];exact gy (Ku tF)
   ·rw [aq,fY];rfl
   ·have et:xs.take (j+1)=xs.take j++[y]:=by rw [lu,tE];rfl
    rw [et];have keep:∀b x,iP H2 b x->iP (upd H2 Da (.lst (ps.map V.ref++[.ref pw]))) b x:=fun b x e=>by unfold iP;rw [aj (cB e e2 nofun)];exact e
    exact Au (iI jd fun b x e=>keep b x e) (.cons (keep _ _ (s2 _ _ g5)) .nil)
   ·rw [aj (aP e di)];exact s2 _ _ e
 rintro ae H2 ⟨v,ps,rfl,e2,jd,s2⟩;have bQ:xs.take (us.map fun i:Nat=>V.int (i:Int)).length=xs:=by rw [aI,AD];exact jN
 rw [bQ] at jd;have c2:=c.same s2;refine ⟨be,_,Da,ps,Fa,xs,o,rfl,c2.gZ,⟨e2,jd⟩,.inl ask,fun ho H3 s3=>c1 _ _ ?_,fun x ho r H3 _ s3 hw=>c1 _ _ ?_⟩
 ·refine ⟨_,rfl,rfl,_,rfl,jh rfl ?_⟩;refine k H3 ?_ (dD.of (s2.trans s3));rw [ho];exact c2.same s3
 ·refine ⟨_,rfl,rfl,_,rfl,sM rfl ?_⟩;have c3:=c2.same s3;have lJ:=s2.trans s3;refine ⟨_,rfl,p,dx,_,rfl,lJ _ _ hp,oW,_,rfl,_,rfl,_,rfl,p,be,rl,bd,r,pu,n,Fa,st,x,wd,us,rfl,c3,g,hw,lJ _ _ CO,hlen,fun H4 c4 k4=>?_⟩;refine k H4 ?_ ((dD.of lJ).trans k4);rw [ho];exact c4
def fQ (l:List Nat):List V:=l.map fun i:Nat=>V.int (i:Int)
def Qm (C:Addr):Sp:=fun vs H Q _=>∃(p be rl bd:Addr) (n:Nat) (F:MU.dh) (st:MU.St) (t:Bool) (a:Nat),vs=[.ref p,.str (mL t),.int (a:Int)]/\gw C H p be rl bd n F st/\n<=8/\∀l H',H l=none->a8 H H'->H' l=some (.lst (fQ (cS n st t a)))->Q (.ref l) H'
def Lk (C:Addr):Sp:=fun vs H Q _=>∃(p be rl bd:Addr) (n:Nat) (F:MU.dh) (st:MU.St) (b:Nat),vs=[.ref p,.int (b:Int)]/\gw C H p be rl bd n F st/\n<=8/\∀l H',H l=none->a8 H H'->H' l=some (.lst (fQ (d9 n st b)))->Q (.ref l) H'
theorem HA:(List.range (n+1)).filterMap f=(List.range n).filterMap f++(f n).toList:=by
 rw [List.range_succ,List.filterMap_append]
 cases h:f n with
 | none=>simp [h]
 | some x=>simp [h]
theorem zHc:cC ["self","kind","a"] ["self","kind","a"] (aU bg):=de
theorem zIf:jB (aU bg) ["self","kind","a"] (nP [(".0",.local),("b",.local),("a",.free),("kind",.free),("self",.free)]) ["b","a","kind","self"] [none,some 2,some 1,some 0]:=nS
theorem zHr:(["b","a","kind","self"]:List Str).Nodup:=by decide+kernel
theorem rd {f C:Addr} {fd:FuncData} (F:gC K "known_of" "Closing.known_of" bg f fd) (T:qc K mg C):au P w K mg base a7 1 f fd ["self","kind","a"] (Qm C):=by
 refine F.dw zHc fun _ A _ s H _ Q E hr h=>?_;obtain ⟨p,be,rl,bd,n,Fa,st,t,a,rfl,c,h8,k⟩:=h;have hu:=mJ hr;refine ⟨_,aA (cG (qg rfl (ux rfl T.range (bR (fq (pv 0) rfl))) zIf (fun cl ex s0 H0=>⟨bV 0 zHr,B5 (xA (JB hu (eU (iQ (pv 2) (pv 1) (pv 0))) (sT (K:=K) rfl (pv 3) rfl)) (by with_unfolding_all rfl)),ot hu (sT (K:=K) rfl (pv 3) rfl) (eU (iQ (pv 2) (pv 1) (pv 0))) (fun _ _=>rfl)⟩))),?_⟩;obtain ⟨dx,hp⟩:=c.ins;obtain ⟨kvs,gq,_,eQ⟩:=c.best;refine ⟨_,rfl,p,C,dx,_,_,rfl,hp,T.cl,T.nM,UQ,_,rfl,by exact ip (n+Nat.succ 4611686018427387903),by lia,fun Da di=>?_⟩;refine BX (n:=((n:Int)).toNat) (fun i ae H'=>∃v,ae=[v,some (.int (a:Int)),some (.str (mL t)),some (.ref p)]/\H' Da=some (.lst (fQ ((List.range i).filterMap fun b=>st.best (t,a,b))))/\a8 H H') ⟨none,rfl,aq,bf di⟩ ?_ ?_
 ·rintro i ae H2 hi ⟨v,rfl,e2,s2⟩;have gp:i<n:=by exact hi
  have ei:((0:Int)+(i:Int))=(i:Int):=by lia
  refine ⟨_,rfl,_,rfl,_,rfl,dU rfl,fun kt nH=>?_⟩;rw [ei];have s3:=bf (o:=.tup ((cx (t,a,i)).map kV)) nH;have e3:upd H2 kt (.tup ((cx (t,a,i)).map kV)) kt=some (.tup ((cx (t,a,i)).map kV)):=aq;have ek:(HO.tup [V.str (mL t),V.int (a:Int),V.int (i:Int)])=.tup ((cx (t,a,i)).map kV):=rfl;rw [ek];generalize upd H2 kt (.tup ((cx (t,a,i)).map kV))=H3 at*;have lJ:=s2.trans s3;have dg:=fL.t (k:=cx (t,a,i)) (lJ _ _ gq) e3;rw [eQ] at dg;refine ⟨_,rfl,p,C,dx,_,_,rfl,lJ _ _ hp,T.cl,T.nE,sO,bd,_,rfl,dg,_,rfl,?_⟩;have fl:((List.range i).filterMap fun b=>st.best (t,a,b)).length<=i:=by have:=List.length_filterMap_le (fun b=>st.best (t,a,b)) (List.range i);rw [tR] at this;exact this
  cases hb:st.best (t,a,i) with
  | none=>
   refine ji ⟨_,rfl,?_,lJ⟩;rw [HA,hb];show H3 Da=some (.lst (fQ (_++[])));rw [List.append_nil];exact s3 _ _ e2
  | some j=>
   rw [hb] at dg;refine nU ?_;refine ⟨_,rfl,p,C,dx,_,_,rfl,lJ _ _ hp,T.cl,T.nE,sO,_,rfl,_,rfl,_,rfl,dU rfl,fun yP zf=>?_⟩;have s4:=bf (o:=.tup ((cx (t,a,i)).map kV)) zf;have e4:upd H3 yP (.tup ((cx (t,a,i)).map kV)) yP=some (.tup ((cx (t,a,i)).map kV)):=aq;rw [ek];generalize upd H3 yP (.tup ((cx (t,a,i)).map kV))=H4 at*;have Cp:=lJ.trans s4;have DM:=fL.t (k:=cx (t,a,i)) (Cp _ _ gq) e4;rw [eQ,hb] at DM;refine ⟨bd,_,rfl,DM,_,s4 _ _ (s3 _ _ e2),?_,_,rfl,?_,fun b o e=>?_⟩
   ·unfold fQ;rw [aI];exact gy (by lia)
   ·rw [aq,HA,hb];unfold fQ;rw [fY];rfl
   ·rw [aj (aP e di)];exact Cp _ _ e
 ·rintro ae H2 ⟨v,rfl,e2,s2⟩;exact k Da H2 di s2 e2
theorem zG7:cC ["self","b"] ["self","b"] (aU bu):=de
theorem zIb:jB (aU bu) ["self","b"] (nP [(".0",.local),("a",.local),("b",.free),("self",.free)]) ["a","b","self"] [none,some 1,some 0]:=nS
theorem zHn:(["a","b","self"]:List Str).Nodup:=by decide+kernel
theorem pz {f C:Addr} {fd:FuncData} (F:gC K "ties_to" "Closing.ties_to" bu f fd) (T:qc K mg C):au P w K mg base a7 1 f fd ["self","b"] (Lk C):=by
 refine F.dw zG7 fun _ A _ s H _ Q E hr h=>?_;obtain ⟨p,be,rl,bd,n,Fa,st,b0,rfl,c,h8,k⟩:=h;have hu:=mJ hr;refine ⟨_,aA (cG (qg rfl (ux rfl T.range (bR (fq (pv 0) rfl))) zIb (fun cl ex s0 H0=>⟨bV 0 zHn,B5 (xA (JB hu (eU (iQ ft (pv 0) (pv 1))) (sT (K:=K) rfl (pv 2) rfl)) (by with_unfolding_all rfl)),ot hu (sT (K:=K) rfl (pv 2) rfl) (eU (iQ ft (pv 0) (pv 1))) (fun _ _=>rfl)⟩))),?_⟩;obtain ⟨dx,hp⟩:=c.ins;obtain ⟨kvs,gq,_,eQ⟩:=c.best;refine ⟨_,rfl,p,C,dx,_,_,rfl,hp,T.cl,T.nM,UQ,_,rfl,by exact ip (n+Nat.succ 4611686018427387903),by lia,fun Da di=>?_⟩;refine BX (n:=((n:Int)).toNat) (fun i ae H'=>∃v,ae=[v,some (.int (b0:Int)),some (.ref p)]/\H' Da=some (.lst (fQ ((List.range i).filterMap fun a=>st.best (true,a,b0))))/\a8 H H') ⟨none,rfl,aq,bf di⟩ ?_ ?_
 ·rintro i ae H2 hi ⟨v,rfl,e2,s2⟩;have gp:i<n:=by exact hi
  have ei:((0:Int)+(i:Int))=(i:Int):=by lia
  refine ⟨_,rfl,_,rfl,dU rfl,fun kt nH=>?_⟩;rw [ei];have s3:=bf (o:=.tup ((cx (true,i,b0)).map kV)) nH;have e3:upd H2 kt (.tup ((cx (true,i,b0)).map kV)) kt=some (.tup ((cx (true,i,b0)).map kV)):=aq;have ek:(HO.tup [V.str "tie",V.int (i:Int),V.int (b0:Int)])=.tup ((cx (true,i,b0)).map kV):=rfl;rw [ek];generalize upd H2 kt (.tup ((cx (true,i,b0)).map kV))=H3 at*;have lJ:=s2.trans s3;have dg:=fL.t (k:=cx (true,i,b0)) (lJ _ _ gq) e3;rw [eQ] at dg;refine ⟨_,rfl,p,C,dx,_,_,rfl,lJ _ _ hp,T.cl,T.nE,sO,bd,_,rfl,dg,_,rfl,?_⟩;have fl:((List.range i).filterMap fun a=>st.best (true,a,b0)).length<=i:=by have:=List.length_filterMap_le (fun a=>st.best (true,a,b0)) (List.range i);rw [tR] at this;exact this
  cases hb:st.best (true,i,b0) with
  | none=>
   refine ji ⟨_,rfl,?_,lJ⟩;rw [HA,hb];show H3 Da=some (.lst (fQ (_++[])));rw [List.append_nil];exact s3 _ _ e2
  | some j=>
   rw [hb] at dg;refine nU ?_;refine ⟨_,rfl,p,C,dx,_,_,rfl,lJ _ _ hp,T.cl,T.nE,sO,_,rfl,_,rfl,dU rfl,fun yP zf=>?_⟩;have s4:=bf (o:=.tup ((cx (true,i,b0)).map kV)) zf;have e4:upd H3 yP (.tup ((cx (true,i,b0)).map kV)) yP=some (.tup ((cx (true,i,b0)).map kV)):=aq;rw [ek];generalize upd H3 yP (.tup ((cx (true,i,b0)).map kV))=H4 at*;have Cp:=lJ.trans s4;have DM:=fL.t (k:=cx (true,i,b0)) (Cp _ _ gq) e4;rw [eQ,hb] at DM;refine ⟨bd,_,rfl,DM,_,s4 _ _ (s3 _ _ e2),?_,_,rfl,?_,fun b o e=>?_⟩
   ·unfold fQ;rw [aI];exact gy (by lia)
   ·rw [aq,HA,hb];unfold fQ;rw [fY];rfl
   ·rw [aj (aP e di)];exact Cp _ _ e
 ·rintro ae H2 ⟨v,rfl,e2,s2⟩;exact k Da H2 di s2 e2
end
end Y0
namespace MU
def zEc (F:dh) (st:St):Prop:=∀i w,ai st i=some w->w.tie=false->∃f,F w.b=some f
structure jG (n:Nat) (F:dh) (st:St):Prop where
 good:cq n st
 ends:zEc F st
def xZ (n:Nat) (F:dh) (w:ak):Prop:=tX n w/\(w.tie=false->∃f,F w.b=some f)
theorem jG.put (h:jG n F st) (ho:∀w,o=some w->xZ n F w):jG n F (put st o wd us):=by
 refine ⟨Ki h.good fun w e=>(ho w e).1,fun i w hw ht=>?_⟩
 by_cases hi:i<st.rows.length
 ·exact h.ends i w (sZ (zev _ _ _ _) hi hw) ht
 ·exact (sV (C:=fun w=>w.tie=false->∃f,F w.b=some f) (fun w e=>(ho w e).2) i w (by exact mh hi) hw) ht
theorem Pm {p q w:ak} (h1:p.a<n) (h2:q.b<n) (h:az p q=some w):xZ n F w:=by
 unfold az at h;split at h
 ·cases h;exact ⟨⟨h1,h2,fun z=>nomatch z⟩,fun z=>nomatch z⟩
 ·cases h
theorem zBw {p w:ak} (h1:p.a<n) (h2:p.b<n) (h:dc F p=some w):xZ n F w:=by
 refine ⟨BD p w h1 h2 h,fun _=>?_⟩;unfold dc at h;split at h
 ·cases q:F p.b with
  | none=>rw [q] at h;cases h
  | some f=>rw [q] at h;cases h;exact ⟨f,q⟩
 ·cases h
theorem zA2 (hF:iE n F most) {p w:ak} (h1:p.a<n) (h2:p.b<n) (h:dn F p=some w):xZ n F w:=by
 refine ⟨BF hF p w h1 h2 h,fun ht=>?_⟩;unfold dn at h;split at h
 ·cases q:F p.a with
  | none=>rw [q] at h;cases h
  | some f=>rw [q] at h;cases h;cases ht
 ·cases h
theorem zAz (hF:iE n F most) {p w:ak} (h1:p.a<n) (h2:p.b<n) (h:dt F p=some w):xZ n F w:=by
 refine ⟨FL hF p w h1 h2 h,fun ht=>?_⟩;unfold dt at h;split at h
 ·cases q:F p.b with
  | none=>rw [q] at h;cases h
  | some f=>rw [q] at h;cases h;cases ht
 ·cases h
theorem P2 {p q w:ak} (h1:p.a<n) (h2:p.b<n) (h3:q.a<n) (h4:q.b<n) (h:bj F p q=some w):xZ n F w:=by
 refine ⟨Kq p q w h1 h2 h3 h4 h,fun _=>?_⟩;unfold bj at h;split at h
 ·cases e:F p.b with
  | none=>rw [e] at h;cases h
  | some f=>rw [e] at h;cases h;exact ⟨f,e⟩
 ·cases h
theorem Xg (hF:iE n F most) {p w:ak} (h1:p.a<n) (h2:p.b<n) (h:da F p=some w):xZ n F w:=by
 refine ⟨Hj hF p w h1 h2 h,fun _=>?_⟩;unfold da at h;split at h
 ·cases e:F p.a with
  | none=>rw [e] at h;cases h
  | some o=>
   rw [e] at h;have h:(F p.b).map (fun f=>(⟨false,o.1,p.b,min p.v f.2.2-o.2.1⟩:ak))=some w:=h
   cases e2:F p.b with
   | none=>rw [e2] at h;cases h
   | some f=>rw [e2] at h;cases h;exact ⟨f,e2⟩
 ·cases h
theorem ER (h:ai st i=some x):aH f wd i st=put st (f x) wd [i]:=by unfold aH;rw [h];rfl
theorem ET (h:ai st i=some x) (h':ai st j=some y):ao f wd i j st=put st (f x y) wd [i,j]:=by unfold ao;rw [h];show put st ((ai st j).bind fun q=>f x q) wd [i,j]=_;rw [h'];rfl
theorem Hn {l:List Nat} {i j:Nat} (h:l[i]?=some j):(l.take (i+1)).foldl f st=f ((l.take i).foldl f st) j:=by rw [lu,h,w_];rfl
end MU
open MU (jG ER Hn ET P2 Pm)
namespace Y0
open PySem L2
seal L2.PE L2.PA L2.PT L2.PS L2.gB L2.PG L2.pW L2.PI L2.PO
section
theorem HI {at_:Nat} {i:Nat} (h1:σ[i]?=some (some (.int (at_:Int)))) (k:∀t,H t=none->R [.ref t] (upd H t (.tup ([at_].map fun i:Nat=>V.int (i:Int))))):kY (Le (kY (vB i) qB)) qB σ H R:=
 ⟨_,h1,dU rfl,fun t ht=>k t ht⟩
theorem HJ {a b:Nat} {i j:Nat} (h1:σ[i]?=some (some (.int (a:Int)))) (h2:σ[j]?=some (some (.int (b:Int)))) (k:∀t,H t=none->R [.ref t] (upd H t (.tup ([a,b].map fun i:Nat=>V.int (i:Int))))):kY (Le (kY (vB i) (kY (vB j) qB))) qB σ H R:=
 ⟨_,h1,_,h2,dU rfl,fun t ht=>k t ht⟩
theorem vQ (hw:word=mr wd) (h0:σ[0]?=some (some (.ref p))) (c:gw C H p be rl bd n F st) (g:cq n st)
 (hu:∀R:List V->Hp->Prop,(∀t,H t=none->R [.ref t] (upd H t (.tup (us.map fun i:Nat=>V.int (i:Int)))))->tu σ H R) (hx:Paired (fun i x=>ai st i=some x) us xs) (ask:pZ F (mr wd) xs o) (hlen:st.rows.length<=16500000)
 (k:∀H',gw C H' p be rl bd n F (MU.put st o wd us)->dD p rl bd H H'->Q .aR H'):Lr C "draw" (Fi C) [] E (vB 0) (kY (tC (.str word)) tu) σ H Q:=by
 subst hw;obtain ⟨dx,hp⟩:=c.ins;refine ⟨_,h0,p,dx,_,rfl,hp,oW,?_⟩;refine hu _ fun t ht=>?_;have s1:=bf (o:=.tup (us.map fun i:Nat=>V.int (i:Int))) ht;exact ⟨p,be,rl,bd,t,n,F,st,wd,us,xs,o,rfl,c.same s1,g,aq,hx,ask,hlen,fun H' c' k'=>k H' c' ((dD.of s1).trans k')⟩
end
theorem gw.apart (c:gw C H p be rl bd n F st) (h:H la=none):la≠p/\la≠rl/\la≠bd:=by obtain ⟨dx,hp⟩:=c.ins;obtain ⟨qs,gH,_⟩:=c.rows;obtain ⟨kvs,gq,_⟩:=c.best;exact ⟨aB (aP hp h),aB (aP gH h),aB (aP gq h)⟩
def RZ (C:Addr):Sp:=fun vs H Q _=>∃(p be rl bd:Addr) (n:Nat) (F:MU.dh) (st:MU.St) (at_:Nat) (x:ak),vs=[.ref p,.int (at_:Int),.int (x.a:Int),.int (x.b:Int)]/\gw C H p be rl bd n F st/\jG n F st/\iE n F ((60:Nat):Int)/\ai st at_=some x/\x.tie=true/\n<=8/\st.rows.length<=16000000/\
 ∀H',gw C H' p be rl bd n F (eD n F at_ x.a x.b st)->jG n F (eD n F at_ x.a x.b st)->dD p rl bd H H'->Q .aR H'
def SA (C:Addr):Sp:=fun vs H Q _=>∃(p be rl bd:Addr) (n:Nat) (F:MU.dh) (st:MU.St) (at_:Nat) (x:ak),vs=[.ref p,.int (at_:Int),.int (x.a:Int)]/\gw C H p be rl bd n F st/\jG n F st/\iE n F ((60:Nat):Int)/\ai st at_=some x/\x.tie=false/\n<=8/\st.rows.length<=16000000/\
 ∀H',gw C H' p be rl bd n F (fU n F at_ x.a st)->jG n F (fU n F at_ x.a st)->dD p rl bd H H'->Q .aR H'
section
abbrev nFt:List Str:=["self","at","a","b","number"]
theorem HG:cC nFt ["self","at","a","b"] (aU aX):=de
abbrev nFw:List Str:=["self","at","a","number"]
theorem TH:cC nFw ["self","at","a"] (aU aQ):=de
theorem lK (F:gC K "draw_from_wait" "Closing.draw_from_wait" aQ f fd) (T:qc K mg C)
 (mD:jH K C "draw" fD) (bD:eT K OB ["self","word","used"] []) (GD:au P w K mg base a7 3 fD OB ["self","word","used"] (Fi C))
 (mZ:jH K C "ties_to" fZ) (bZ:eT K O6 ["self","b"] []) (GZ:au P w K mg base a7 1 fZ O6 ["self","b"] (Lk C)):au P w K mg base a7 4 f fd ["self","at","a"] (SA C):=by
 refine F.dw TH fun _ A _ s H _ Q E hr h=>?_;obtain ⟨p,be,rl,bd,n,Fa,st,at_,x,rfl,c,S,hF,hx,ht,h8,hlen,k⟩:=h;have gW:cJ 1 _:=hr.mono (by decide);refine ⟨_,cy (gE (kj (pv 0) T.cl mD GD hr bD .nil gD (bS ft (eU (bR (pv 1))))))
  (cy (gE (kj (pv 0) T.cl mD GD hr bD .nil gD (bS ft (eU (bR (pv 1))))))
  (aA (iG PassesOwn.never rfl (iH (kj (pv 0) T.cl mZ GZ gW bZ .nil gD (bR (pv 2)))) (bV 3 TH.nd)
   (aA (gE (kj (pv 0) T.cl mD GD hr bD .nil gD (bS ft (eU (bS (pv 1) (pv 3)))))))))),?_⟩
 obtain ⟨xa,xb⟩:=S.good.lt _ _ hx;obtain ⟨fa,tK⟩:=S.ends _ _ hx ht;have d1:aH (dt Fa) .sure at_ st=MU.put st (dt Fa x) .sure [at_]:=ER hx;have S1:jG n Fa (MU.put st (dt Fa x) .sure [at_]):=S.put fun w e=>MU.zAz hF xa xb e;have vh:ai (MU.put st (dt Fa x) .sure [at_]) at_=some x:=cb (zev _ _ _ _) hx;have l1:=iw st (dt Fa x) .sure [at_];have goal:fU n Fa at_ x.a st=(d9 n (aH (da Fa) .aw at_ (aH (dt Fa) .sure at_ st)) x.a).foldl (fun st j=>ao (bj Fa) .back at_ j st) (aH (da Fa) .aw at_ (aH (dt Fa) .sure at_ st)):=rfl;rw [d1] at goal;refine fun N1 c1=>vQ (wd:=.sure) rfl rfl c S.good (fun R z=>HI rfl z) (.cons hx .nil) (.sure x fa ht tK) (by lia) fun H1 C1 k1=>c1 _ _ ?_;generalize MU.put st (dt Fa x) .sure [at_]=gF at*;clear c1 N1;have d2:aH (da Fa) .aw at_ gF=MU.put gF (da Fa x) .aw [at_]:=ER vh;have S2:jG n Fa (MU.put gF (da Fa x) .aw [at_]):=S1.put fun w e=>MU.Xg hF xa xb e;have tF:ai (MU.put gF (da Fa x) .aw [at_]) at_=some x:=cb (zev _ _ _ _) vh;have l2:=iw gF (da Fa x) .aw [at_];rw [d2] at goal;refine fun N2 c2=>vQ (wd:=.aw) rfl rfl C1 S1.good (fun R z=>HI rfl z) (.cons vh .nil) (.aw x fa ht tK) (by lia) fun H2 C2 k2=>c2 _ _ ?_;generalize MU.put gF (da Fa x) .aw [at_]=aZ at*;clear c2 N2;have k02:=k1.trans k2;obtain ⟨dx,hp⟩:=C2.ins;refine ⟨_,rfl,p,dx,_,rfl,hp,oW,_,rfl,p,be,rl,bd,n,Fa,aZ,x.a,rfl,C2,h8,fun la H3 tH s3 e3=>?_⟩;obtain ⟨n1,n2,n3⟩:=C2.apart tH;have C3:=C2.same s3;refine ⟨la,rfl,⟨_,a9.of e3⟩,?_⟩;have eF:∀j∈d9 n aZ x.a,∃y,ai aZ j=some y/\y.tie=true/\y.a<n/\y.b<n:=fun j hj=>by obtain ⟨cc,_,hb⟩:=Hv hj;obtain ⟨y,hy,hk⟩:=S2.good.at_ _ _ hb;obtain ⟨q1,_⟩:=i_ hk;exact ⟨y,hy,q1,S2.good.lt _ _ hy⟩
 have tl:=Hu (n:=n) (st:=aZ) (b:=x.a);generalize d9 n aZ x.a=L at*;refine km (K:=K) (a:=la) (xs:=fQ L) (fun i ae H'=>∃v,ae=[some (.ref p),some (.int (at_:Int)),some (.int (x.a:Int)),v]/\gw C H' p be rl bd n Fa ((L.take i).foldl (fun st j=>ao (bj Fa) .back at_ j st) aZ)/\jG n Fa ((L.take i).foldl (fun st j=>ao (bj Fa) .back at_ j st) aZ)/\Ext aZ ((L.take i).foldl (fun st j=>ao (bj Fa) .back at_ j st) aZ)/\dD p rl bd H3 H') ⟨none,rfl,C3,S2,Ext.refl _,dD.of (a8.refl _)⟩ ?_ ?_ ?_
 ·rintro i ae H4 _ ⟨v,rfl,_,_,_,k4⟩;exact a9.of (k4 _ _ e3 n1 n2 n3)
 ·rintro i y ae H4 hy ⟨v,rfl,C4,S4,x4,k4⟩;unfold fQ at hy;rw [fG] at hy
  cases q:L[i]? with
  | none=>rw [q] at hy;cases hy
  | some j=>
   rw [q] at hy;cases hy;obtain ⟨y,tE,yt,ya,yb⟩:=eF j (gK q);have fl:=qL (f:=fun st j=>ao (bj Fa) .back at_ j st) (fun _ _=>iw _ _ _ _) (L.take i) aZ;rw [jX] at fl;rw [Hn q];have rE:=cb x4 tF;have qo:=cb x4 tE;have e4:ao (bj Fa) .back at_ j ((L.take i).foldl (fun st j=>ao (bj Fa) .back at_ j st) aZ)=MU.put ((L.take i).foldl (fun st j=>ao (bj Fa) .back at_ j st) aZ) (bj Fa x y) .back [at_,j]:=ET rE qo;rw [e4];generalize (L.take i).foldl (fun st j=>ao (bj Fa) .back at_ j st) aZ=cz at*;refine vQ (wd:=.back) rfl rfl C4 S4.good (fun R z=>HJ rfl rfl z) (.cons rE (.cons qo .nil)) (.back x y fa ht yt tK) (by lia) fun H5 C5 k5=>⟨_,rfl,C5,S4.put fun w e=>P2 xa xb ya yb e,x4.trans (zev _ _ _ _),k4.trans k5⟩
 ·rintro ae H4 ⟨v,rfl,C4,S4,x4,k4⟩;have bQ:L.take (fQ L).length=L:=by unfold fQ;rw [aI];exact jN
  rw [bQ,<-goal] at C4 S4;exact k H4 C4 S4 ((k02.trans (dD.of s3)).trans k4)
end
section
theorem nz (F:gC K "draw_from_tie" "Closing.draw_from_tie" aX f fd) (T:qc K mg C)
 (mD:jH K C "draw" fD) (bD:eT K OB ["self","word","used"] []) (GD:au P w K mg base a7 3 fD OB ["self","word","used"] (Fi C))
 (mZ:jH K C "ties_to" fZ) (bZ:eT K O6 ["self","b"] []) (GZ:au P w K mg base a7 1 fZ O6 ["self","b"] (Lk C))
 (mK:jH K C "known_of" fK) (bK:eT K OA ["self","kind","a"] []) (GK:au P w K mg base a7 1 fK OA ["self","kind","a"] (Qm C)):au P w K mg base a7 4 f fd ["self","at","a","b"] (RZ C):=by
 refine F.dw HG fun _ A _ s H _ Q E hr h=>?_;obtain ⟨p,be,rl,bd,n,Fa,st,at_,x,rfl,c,S,hF,hx,ht,h8,hlen,k⟩:=h;have gW:cJ 1 _:=hr.mono (by decide);refine ⟨_,cy (gE (kj (pv 0) T.cl mD GD hr bD .nil gD (bS ft (eU (bR (pv 1))))))
  (cy (gE (kj (pv 0) T.cl mD GD hr bD .nil gD (bS ft (eU (bR (pv 1))))))
  (cy (iG PassesOwn.never rfl (iH (kj (pv 0) T.cl mK GK gW bK .nil gD (bS ft (pv 3)))) (bV 4 HG.nd)
   (aA (gE (kj (pv 0) T.cl mD GD hr bD .nil gD (bS ft (eU (bS (pv 1) (pv 4))))))))
  (cy (iG PassesOwn.never rfl (iH (kj (pv 0) T.cl mZ GZ gW bZ .nil gD (bR (pv 2)))) (bV 4 HG.nd)
   (aA (gE (kj (pv 0) T.cl mD GD hr bD .nil gD (bS ft (eU (bS (pv 4) (pv 1))))))))
  (aA (iG PassesOwn.never rfl (iH (kj (pv 0) T.cl mK GK gW bK .nil gD (bS ft (pv 3)))) (bV 4 HG.nd)
   (aA (gE (kj (pv 0) T.cl mD GD hr bD .nil gD (bS ft (eU (bS (pv 4) (pv 1)))))))))))),?_⟩
 obtain ⟨xa,xb⟩:=S.good.lt _ _ hx;have d1:aH (dc Fa) .aD at_ st=MU.put st (dc Fa x) .aD [at_]:=ER hx;have S1:jG n Fa (MU.put st (dc Fa x) .aD [at_]):=S.put fun w e=>MU.zBw xa xb e;have vh:ai (MU.put st (dc Fa x) .aD [at_]) at_=some x:=cb (zev _ _ _ _) hx;have l1:=iw st (dc Fa x) .aD [at_];generalize lV:eD n Fa at_ x.a x.b st=fin at*;unfold eD at lV;dsimp only at lV;rw [d1] at lV;refine fun N1 c1=>vQ (wd:=.aD) rfl rfl c S.good (fun R z=>HI rfl z) (.cons hx .nil) (.aD x ht) (by lia) fun H1 C1 k1=>c1 _ _ ?_;generalize MU.put st (dc Fa x) .aD [at_]=gF at*;clear c1 N1;have d2:aH (dn Fa) .bp at_ gF=MU.put gF (dn Fa x) .bp [at_]:=ER vh;have S2:jG n Fa (MU.put gF (dn Fa x) .bp [at_]):=S1.put fun w e=>MU.zA2 hF xa xb e;have tF:ai (MU.put gF (dn Fa x) .bp [at_]) at_=some x:=cb (zev _ _ _ _) vh;have l2:=iw gF (dn Fa x) .bp [at_];rw [d2] at lV;refine fun N2 c2=>vQ (wd:=.bp) rfl rfl C1 S1.good (fun R z=>HI rfl z) (.cons vh .nil) (.bp x ht) (by lia) fun H2 C2 k2=>c2 _ _ ?_;generalize MU.put gF (dn Fa x) .bp [at_]=aZ at*;clear c2 N2;have kA:=k1.trans k2;clear k1 k2;have v4:∃v:Option V,(none:Option V)=v:=⟨_,rfl⟩;obtain ⟨_,_⟩:=v4;refine fun N3 c3=>?_;obtain ⟨dx,hp⟩:=C2.ins;refine ⟨_,rfl,p,dx,_,rfl,hp,oW,_,rfl,p,be,rl,bd,n,Fa,aZ,true,x.b,rfl,C2,h8,fun la H3 tH s3 e3=>?_⟩;obtain ⟨n1,n2,n3⟩:=C2.apart tH;have C3:=C2.same s3;refine ⟨la,rfl,⟨_,a9.of e3⟩,?_⟩;have eF:∀j∈cS n aZ true x.b,∃y,ai aZ j=some y/\y.tie=true/\y.a<n/\y.b<n:=fun j hj=>by obtain ⟨cc,_,hb⟩:=K6 hj;obtain ⟨y,hy,hk⟩:=S2.good.at_ _ _ hb;obtain ⟨q1,_⟩:=i_ hk;exact ⟨y,hy,q1,S2.good.lt _ _ hy⟩
 have tl:(cS n aZ true x.b).length<=n:=G';generalize cS n aZ true x.b=L at*;refine km (K:=K) (a:=la) (xs:=fQ L) (fun i ae H'=>∃v,ae=[some (.ref p),some (.int (at_:Int)),some (.int (x.a:Int)),some (.int (x.b:Int)),v]/\gw C H' p be rl bd n Fa ((L.take i).foldl (fun st j=>ao az .sum at_ j st) aZ)/\jG n Fa ((L.take i).foldl (fun st j=>ao az .sum at_ j st) aZ)/\Ext aZ ((L.take i).foldl (fun st j=>ao az .sum at_ j st) aZ)/\dD p rl bd H3 H') ⟨_,rfl,C3,S2,Ext.refl _,dD.of (a8.refl _)⟩ ?_ ?_ ?_
 ·rintro i ae H4 _ ⟨v,rfl,_,_,_,k4⟩;exact a9.of (k4 _ _ e3 n1 n2 n3)
 ·rintro i y ae H4 hy ⟨v,rfl,C4,S4,x4,k4⟩;unfold fQ at hy;rw [fG] at hy
  cases q:L[i]? with
  | none=>rw [q] at hy;cases hy
  | some j=>
   rw [q] at hy;cases hy;obtain ⟨y,tE,yt,_,yb⟩:=eF j (gK q);have fl:=qL (f:=fun st j=>ao az .sum at_ j st) (fun _ _=>iw _ _ _ _) (L.take i) aZ;rw [jX] at fl;rw [Hn q];have rE:=cb x4 tF;have qo:=cb x4 tE;have e4:ao az .sum at_ j ((L.take i).foldl (fun st j=>ao az .sum at_ j st) aZ)=MU.put ((L.take i).foldl (fun st j=>ao az .sum at_ j st) aZ) (az x y) .sum [at_,j]:=ET rE qo;rw [e4];generalize (L.take i).foldl (fun st j=>ao az .sum at_ j st) aZ=cz at*;refine vQ (wd:=.sum) rfl rfl C4 S4.good (fun R z=>HJ rfl rfl z) (.cons rE (.cons qo .nil)) (.sum x y ht yt) (by lia) fun H5 C5 k5=>⟨_,rfl,C5,S4.put fun w e=>Pm xa yb e,x4.trans (zev _ _ _ _),k4.trans k5⟩
 rintro ae H4 ⟨v1,rfl,C5,S5,x1,k4⟩;have bQ:L.take (fQ L).length=L:=by unfold fQ;rw [aI];exact jN
 rw [bQ] at C5 S5 x1;refine c3 _ _ ?_;have kB:=(kA.trans (dD.of s3)).trans k4;have VF:=cb x1 tF;have lenB:(L.foldl (fun st j=>ao az .sum at_ j st) aZ).rows.length<=st.rows.length+(2+1*n):=by have:=qL (f:=fun st j=>ao az .sum at_ j st) (fun _ _=>iw _ _ _ _) L aZ;lia
 generalize L.foldl (fun st j=>ao az .sum at_ j st) aZ=cm at*;clear eF tl e3 n1 n2 n3 C3 tH s3 k4 bQ x1 hp c3 N3;refine fun N4 c4=>?_;obtain ⟨dx,hp⟩:=C5.ins;refine ⟨_,rfl,p,dx,_,rfl,hp,oW,_,rfl,p,be,rl,bd,n,Fa,cm,x.a,rfl,C5,h8,fun la H3 tH s3 e3=>?_⟩;obtain ⟨n1,n2,n3⟩:=C5.apart tH;have C3:=C5.same s3;refine ⟨la,rfl,⟨_,a9.of e3⟩,?_⟩;have eF:∀j∈d9 n cm x.a,∃y,ai cm j=some y/\y.tie=true/\y.a<n/\y.b<n:=fun j hj=>by obtain ⟨cc,_,hb⟩:=Hv hj;obtain ⟨y,hy,hk⟩:=S5.good.at_ _ _ hb;obtain ⟨q1,_⟩:=i_ hk;exact ⟨y,hy,q1,S5.good.lt _ _ hy⟩
 have tl:(d9 n cm x.a).length<=n:=Hu;generalize d9 n cm x.a=L at*;refine km (K:=K) (a:=la) (xs:=fQ L) (fun i ae H'=>∃v,ae=[some (.ref p),some (.int (at_:Int)),some (.int (x.a:Int)),some (.int (x.b:Int)),v]/\gw C H' p be rl bd n Fa ((L.take i).foldl (fun st j=>ao az .sum j at_ st) cm)/\jG n Fa ((L.take i).foldl (fun st j=>ao az .sum j at_ st) cm)/\Ext cm ((L.take i).foldl (fun st j=>ao az .sum j at_ st) cm)/\dD p rl bd H3 H') ⟨_,rfl,C3,S5,Ext.refl _,dD.of (a8.refl _)⟩ ?_ ?_ ?_
 ·rintro i ae H4 _ ⟨v,rfl,_,_,_,k4⟩;exact a9.of (k4 _ _ e3 n1 n2 n3)
 ·rintro i y ae H4 hy ⟨v,rfl,C4,S4,x4,k4⟩;unfold fQ at hy;rw [fG] at hy
  cases q:L[i]? with
  | none=>rw [q] at hy;cases hy
  | some j=>
   rw [q] at hy;cases hy;obtain ⟨y,tE,yt,ya,_⟩:=eF j (gK q);have fl:=qL (f:=fun st j=>ao az .sum j at_ st) (fun _ _=>iw _ _ _ _) (L.take i) cm;rw [jX] at fl;rw [Hn q];have rE:=cb x4 VF;have qo:=cb x4 tE;have e4:ao az .sum j at_ ((L.take i).foldl (fun st j=>ao az .sum j at_ st) cm)=MU.put ((L.take i).foldl (fun st j=>ao az .sum j at_ st) cm) (az y x) .sum [j,at_]:=ET qo rE;rw [e4];generalize (L.take i).foldl (fun st j=>ao az .sum j at_ st) cm=cz at*;refine vQ (wd:=.sum) rfl rfl C4 S4.good (fun R z=>HJ rfl rfl z) (.cons qo (.cons rE .nil)) (.sum y x yt ht) (by lia) fun H5 C5 k5=>⟨_,rfl,C5,S4.put fun w e=>Pm ya xb e,x4.trans (zev _ _ _ _),k4.trans k5⟩
 rintro ae H4 ⟨v2,rfl,C6,S6,x2,k4⟩;have bQ:L.take (fQ L).length=L:=by unfold fQ;rw [aI];exact jN
 rw [bQ] at C6 S6 x2;refine c4 _ _ ?_;have kC:=(kB.trans (dD.of s3)).trans k4;have Ml:=cb x2 VF;have lenC:(L.foldl (fun st j=>ao az .sum j at_ st) cm).rows.length<=st.rows.length+(2+2*n):=by have:=qL (f:=fun st j=>ao az .sum j at_ st) (fun _ _=>iw _ _ _ _) L cm;lia
 generalize L.foldl (fun st j=>ao az .sum j at_ st) cm=i8 at*;clear eF tl e3 n1 n2 n3 C3 tH s3 k4 bQ x2 hp c4 N4;obtain ⟨dx,hp⟩:=C6.ins;refine ⟨_,rfl,p,dx,_,rfl,hp,oW,_,rfl,p,be,rl,bd,n,Fa,i8,false,x.b,rfl,C6,h8,fun la H3 tH s3 e3=>?_⟩;obtain ⟨n1,n2,n3⟩:=C6.apart tH;have C3:=C6.same s3;refine ⟨la,rfl,⟨_,a9.of e3⟩,?_⟩;have eF:∀j∈cS n i8 false x.b,∃y,ai i8 j=some y/\y.tie=false/\y.a<n/\y.b<n:=fun j hj=>by obtain ⟨cc,_,hb⟩:=K6 hj;obtain ⟨y,hy,hk⟩:=S6.good.at_ _ _ hb;obtain ⟨q1,_⟩:=i_ hk;exact ⟨y,hy,q1,S6.good.lt _ _ hy⟩
 have tl:(cS n i8 false x.b).length<=n:=G';generalize cS n i8 false x.b=L at*;refine km (K:=K) (a:=la) (xs:=fQ L) (fun i ae H'=>∃v,ae=[some (.ref p),some (.int (at_:Int)),some (.int (x.a:Int)),some (.int (x.b:Int)),v]/\gw C H' p be rl bd n Fa ((L.take i).foldl (fun st j=>ao (bj Fa) .back j at_ st) i8)/\jG n Fa ((L.take i).foldl (fun st j=>ao (bj Fa) .back j at_ st) i8)/\Ext i8 ((L.take i).foldl (fun st j=>ao (bj Fa) .back j at_ st) i8)/\dD p rl bd H3 H') ⟨_,rfl,C3,S6,Ext.refl _,dD.of (a8.refl _)⟩ ?_ ?_ ?_
 ·rintro i ae H4 _ ⟨v,rfl,_,_,_,k4⟩;exact a9.of (k4 _ _ e3 n1 n2 n3)
 ·rintro i y ae H4 hy ⟨v,rfl,C4,S4,x4,k4⟩;unfold fQ at hy;rw [fG] at hy
  cases q:L[i]? with
  | none=>rw [q] at hy;cases hy
  | some j=>
   rw [q] at hy;cases hy;obtain ⟨y,tE,yt,ya,yb⟩:=eF j (gK q);have fl:=qL (f:=fun st j=>ao (bj Fa) .back j at_ st) (fun _ _=>iw _ _ _ _) (L.take i) i8;rw [jX] at fl;rw [Hn q];have rE:=cb x4 Ml;have qo:=cb x4 tE;have e4:ao (bj Fa) .back j at_ ((L.take i).foldl (fun st j=>ao (bj Fa) .back j at_ st) i8)=MU.put ((L.take i).foldl (fun st j=>ao (bj Fa) .back j at_ st) i8) ((bj Fa) y x) .back [j,at_]:=ET qo rE;rw [e4];obtain ⟨yf,hyf⟩:=S4.ends _ _ qo yt;generalize (L.take i).foldl (fun st j=>ao (bj Fa) .back j at_ st) i8=cz at*;refine vQ (wd:=.back) rfl rfl C4 S4.good (fun R z=>HJ rfl rfl z) (.cons qo (.cons rE .nil)) (.back y x yf yt ht hyf) (by lia) fun H5 C5 k5=>⟨_,rfl,C5,S4.put fun w e=>P2 ya yb xa xb e,x4.trans (zev _ _ _ _),k4.trans k5⟩
 ·rintro ae H4 ⟨v,rfl,C4,S4,x4,k4⟩;have bQ:L.take (fQ L).length=L:=by unfold fQ;rw [aI];exact jN
  rw [bQ,lV] at C4 S4;exact k H4 C4 S4 ((kC.trans (dD.of s3)).trans k4)
end
structure xj (n:Nat) (F:MU.dh) (s0:MU.St) (T:Nat):Prop where
 end_:(MU.run n F s0 T).rows.length<=T\/(MU.run n F s0 T).bar≠none
 first:∀t,t<T->t<(MU.run n F s0 t).rows.length/\(MU.run n F s0 t).bar=none
 oM:∀t,t<=T->(MU.run n F s0 t).rows.length<=16000000
def UC (C:Addr):Sp:=fun vs H Q _=>∃(p be rl bd:Addr) (n:Nat) (F:MU.dh) (s0:MU.St) (T:Nat),vs=[.ref p]/\gw C H p be rl bd n F s0/\jG n F s0/\iE n F ((60:Nat):Int)/\n<=8/\xj n F s0 T/\
 ∀H',gw C H' p be rl bd n F (MU.run n F s0 T)->jG n F (MU.run n F s0 T)->dD p rl bd H H'->Q .aR H'
section
theorem HE:cC ["self","at","what"] ["self"] (aU bY):=de
theorem n9 (F:gC K "draw_all" "Closing.draw_all" bY f fd) (T:qc K mg C)
 (mT:jH K C "draw_from_tie" fT) (bT:eT K m8 ["self","at","a","b"] []) (GT:au P w K mg base a7 4 fT m8 ["self","at","a","b"] (RZ C))
 (mW:jH K C "draw_from_wait" fW) (bW:eT K wV ["self","at","a"] []) (GW:au P w K mg base a7 4 fW wV ["self","at","a"] (SA C)):au P w K mg base a7 5 f fd ["self"] (UC C):=by
 refine F.dw HE fun _ A _ s H _ Q E hr h=>?_;obtain ⟨p,be,rl,bd,n,Fa,s0,Te,rfl,c,S,hF,h8,hE,k⟩:=h;have hu:=mJ hr;refine ⟨_,cy (cF 1 HE.nd aG)
  (aA (QC PassesOwn.never (PW.pt (xy (ef vJ (pv 1) (lB Ar (by rfl) T.len A' (bR (fq (pv 0) rfl)))) (xI (ef JJ (fq (pv 0) rfl) og))))
   (cy (cF 2 HE.nd (bc (cY dC (fq (pv 0) rfl) (pv 1))))
   (cy (z_ (eM (ef iu (ot hu (fq (pv 0) rfl) (BE Fh (pv 2) B7 (B8 aG)) (fun _ _=>rfl)) (pv 1))
    (aA (eM (ef iu (bc (pv 2)) ft)
     (aA (gE (kj (pv 0) T.cl mT GT hr bT .nil gD (iQ (pv 1) (bc (pv 2)) (bc (pv 2))))))
     (aA (gE (kj (pv 0) T.cl mW GW hr bW .nil gD (bS (pv 1) (bc (pv 2)))))))) eV))
   (aA (JF (i:=1) HE.nd rfl (Or.inl rfl) aG IZ)))))),?_⟩
 refine fun N1 c1=>c1 _ _ ?_;refine ⟨fun m ae H'=>∃t v,t+m=Te/\ae=[some (.ref p),some (.int (t:Int)),v]/\gw C H' p be rl bd n Fa (MU.run n Fa s0 t)/\jG n Fa (MU.run n Fa s0 t)/\dD p rl bd H H',⟨Te,0,none,by lia,rfl,c,S,dD.of (a8.refl _)⟩,?_⟩;rintro m ae H1 ⟨t,v,htm,rfl,C1,S1,k1⟩;obtain ⟨dx,hp⟩:=C1.ins;obtain ⟨qs,gH,cw⟩:=C1.rows;obtain ⟨kvs,gq,tI,eQ⟩:=C1.best;have yW:qs.length=(MU.run n Fa s0 t).rows.length:=Paired.length cw;refine ⟨_,rfl,_,rfl,p,C,dx,_,_,rfl,hp,T.cl,T.nR,uo,rl,_,rfl,.inl (a9.of gH),_,_,rfl,rfl,_,rfl,?_⟩;rw [aI,yW];have sd:∀b,(MU.run n Fa s0 t).rows.length<=t\/(MU.run n Fa s0 t).bar≠none->b=false->if b=true then (∃N:L2.St->Hp->Prop,(∀ae H',N ae H'->∃m',m'<m/\∃t v,t+m'=Te/\ae=[some (.ref p),some (.int (t:Int)),v]/\gw C H' p be rl bd n Fa (MU.run n Fa s0 t)/\jG n Fa (MU.run n Fa s0 t)/\dD p rl bd H H')/\False) else Q .aR H1:=fun b rK hb=>by
  have e:t=Te:=f9 fun z=>by
   have:=hE.first t (by lia);rcases rK with y | y
   ·exact BL this.1 y
   ·exact y this.2
  rw [if_neg (by rw [hb];decide)];rw [e] at C1 S1;exact k H1 C1 S1 k1
 by_cases aF:t<(MU.run n Fa s0 t).rows.length
 ·refine j9 (BO aF) ⟨_,rfl,p,C,dx,_,_,rfl,hp,T.cl,T.nX,EL,rfl,_,rfl,?_⟩;rw [P4]
  by_cases hb:(MU.run n Fa s0 t).bar=none
  ·refine j9 hb ?_;have htT:t<Te:=f9 fun z=>by
    have e:t=Te:=by lia
    rcases hE.end_ with y | y
    ·rw [<-e] at y;exact BL aF y
    ·rw [<-e] at y;exact y hb
   refine ⟨fun ae H'=>∃m',m'<m/\∃t v,t+m'=Te/\ae=[some (.ref p),some (.int (t:Int)),v]/\gw C H' p be rl bd n Fa (MU.run n Fa s0 t)/\jG n Fa (MU.run n Fa s0 t)/\dD p rl bd H H',fun ae H' z=>z,?_⟩;obtain ⟨x,hx⟩:∃x,ai (MU.run n Fa s0 t) t=some x:=⟨_,by unfold ai;rw [lz aF];rfl⟩;obtain ⟨q',r,pw,pu,g1,_,_,g4,g5,_⟩:=Fs cw hx;have kQ:jf (qs.map V.ref) (t:Int)=some (.ref q'):=lg (by rw [fG,g1];rfl);refine fun N2 c2=>⟨_,rfl,p,C,dx,_,_,rfl,hp,T.cl,T.nR,uo,jJ rfl gH kQ (a_ g4 rfl (c2 _ _ ?_))⟩;clear c2 N2;refine fun N3 c3=>⟨fun ae H'=>ae=[some (.ref p),some (.int (t:Int)),some (.ref pw)]/\gw C H' p be rl bd n Fa (MU.run n Fa s0 (t+1))/\jG n Fa (MU.run n Fa s0 (t+1))/\dD p rl bd H1 H',?_,?_⟩
   ·refine ⟨_,rfl,p,C,dx,_,_,rfl,hp,T.cl,T.nE,sO,_,rfl,_,rfl,pw,_,rfl,dm.of g5,JH,fun kt nH=>?_⟩;rw [KW];have s3:=bf (o:=.tup ((cx x.key).map kV)) nH;have e3:upd H1 kt (.tup ((cx x.key).map kV)) kt=some (.tup ((cx x.key).map kV)):=aq;generalize upd H1 kt (.tup ((cx x.key).map kV))=H3 at*;obtain ⟨j,_,rR⟩:=S1.good.top t x hx;have dg:=fL.t (k:=cx x.key) (s3 _ _ gq) e3;rw [eQ,rR] at dg;have C3:=C1.same s3;have oM:=hE.oM t (by exact aS htT);have hl:MU.run n Fa s0 (t+1)=MU.look n Fa t (MU.run n Fa s0 t):=rfl;refine ⟨bd,_,rfl,dg,_,rfl,rfl,_,rfl,?_⟩;rw [ub]
    by_cases e:j=t
    ·rw [e] at rR;refine j9 e ⟨_,rfl,a_ (s3 _ _ g5) rfl ⟨rfl,_,rfl,?_⟩⟩;rw [FC]
     cases ht:x.tie with
     | true=>
      have el:=MU.FD (n:=n) (F:=Fa) hx ht rfl rfl (by rw [<-rR];unfold ak.key;rw [ht]);rw [hl,el];refine nU ⟨_,rfl,p,dx,_,rfl,s3 _ _ hp,oW,_,rfl,_,rfl,a_ (s3 _ _ g5) rfl ⟨_,rfl,a_ (s3 _ _ g5) rfl ?_⟩⟩;exact ⟨p,be,rl,bd,n,Fa,_,t,x,rfl,C3,S1,hF,hx,ht,h8,oM,fun H4 C4 S4 k4=>⟨rfl,C4,S4,(dD.of s3).trans k4⟩⟩
     | false=>
      have el:=MU.K7 (n:=n) (F:=Fa) hx ht rR;rw [hl,el];refine ji ⟨_,rfl,p,dx,_,rfl,s3 _ _ hp,oW,_,rfl,_,rfl,a_ (s3 _ _ g5) rfl ?_⟩;exact ⟨p,be,rl,bd,n,Fa,_,t,x,rfl,C3,S1,hF,hx,ht,h8,oM,fun H4 C4 S4 k4=>⟨rfl,C4,S4,(dD.of s3).trans k4⟩⟩
    ·have el:=MU.RE (n:=n) (F:=Fa) hx (by rw [rR];exact fun z=>e (dM z));rw [hl,el];exact l8 e ⟨rfl,C3,S1,dD.of s3⟩
   ·rintro ae H4 ⟨rfl,C4,S4,k4⟩;refine c3 _ _ ⟨_,rfl,_,_,rfl,rfl,m-1,by lia,t+1,some (.ref pw),by lia,?_,C4,S4,k1.trans k4⟩;show [some (V.ref p),some (V.int ((t:Int)+1)),some (V.ref pw)]=[some (V.ref p),some (V.int ((t+1:Nat):Int)),some (V.ref pw)];rfl
  ·have:=sd false (.inr hb) rfl;exact l8 hb this
 ·have:=sd false (.inl (lA aF)) rfl;exact l8 (by lia) (ji this)
end
end Y0
namespace MU
def empty:St:=⟨[],fun _=>none,none⟩
def mn (rows:List ak) (st:St):St:=rows.foldl (fun st w=>take st w .told []) st
theorem KL:cq n empty:=by
 have nw:∀i w,ai empty i≠some w:=fun i w h=>by unfold ai empty at h;simp at h
 exact ⟨fun k i h=>(nomatch h),fun i w h=>absurd h (nw i w),fun i w h=>absurd h (nw i w),fun _ i w h=>absurd h (nw i w),fun _ i j w w' h=>absurd h (nw i w)⟩
def Lb (n:Nat) (w:ak):Prop:=w.a<n/\w.b<n/\w.tie=true
theorem Ht:∀(rows:List ak) (st:St),cq n st->(∀w∈rows,Lb n w)->cq n (mn rows st)
 | [],_,g,_=>g
 | w::r,st,g,h=>Ht r _ (Se g (h w dN).1 (h w dN).2.1 fun z=>by rw [(h w dN).2.2] at z;cases z) fun w' lj=>h w' (f_ _ lj)
theorem Sh:∀(rows:List ak) (st:St),Imp st (mn rows st)
 | [],st=>Imp.refl st
 | w::r,st=>(QS st w _ _).trans (Sh r _)
theorem KI:∀(rows:List ak) (st:St),(mn rows st).rows.length<=st.rows.length+rows.length
 | [],st=>av _
 | w::r,st=>by have h1:=KI r (take st w .told []);have h2:=iw st (some w) .told [];have h2:(take st w .told []).rows.length<=st.rows.length+1:=h2;rw [mf];show (mn r (take st w .told [])).rows.length<=_;exact GU h1 h2
theorem KO:∀(rows:List ak) (st:St),(∀i w,ai st i=some w->w.tie=true)->(∀w∈rows,Lb n w)->∀i w,ai (mn rows st) i=some w->w.tie=true
 | [],_,h,_=>h
 | w::r,st,h,hw=>KO r _ (fun i u hu=>by
  by_cases hi:i<st.rows.length
  ·exact h i u (sZ (BG _ _ _ _) hi hu)
  ·exact QR (C:=fun u=>u.tie=true) (hw w dN).2.2 i u (by exact mh hi) hu) fun w' lj=>hw w' (f_ _ lj)
theorem Hz:∀(rows:List ak) (st:St) (w:ak),w∈rows->w.a≠w.b->∃u,val (mn rows st) w.key=some u/\¬dR w.tie w.v u
 | [],_,w,h,_=>nomatch h
 | x::r,st,w,h,cK=>by
  rcases eh.mp h with e | h
  ·subst e;obtain ⟨u,hu,nu⟩:=Hs (st:=st) (w:=w) (word:=.told) (used:=[]) cK;obtain ⟨u',lq,LO⟩:=(Sh r (take st w .told [])).2 w.key u cK hu;exact ⟨u',lq,KQ nu LO⟩
  ·exact Hz r _ w h cK
theorem SU:∀i w,ai empty i=some w->w.tie=true:=fun i w h=>by unfold ai empty at h;simp at h
theorem zBq (g:cq n st) (h:∀i w,ai st i=some w->w.tie=true) (a b:Nat):val st (false,a,b)=none:=by
 unfold val
 cases q:st.best (false,a,b) with
 | none=>rfl
 | some i=>
  obtain ⟨w,hw,hk⟩:=g.at_ _ _ q;have:=h i w hw;have e:=(i_ hk).1;rw [this] at e;cases e
end MU
open MU (mn empty Ht KL KO SU KI Hz)
namespace Y0
open PySem L2
seal L2.PE L2.PA L2.PT L2.PS L2.gB L2.PG L2.pW L2.PI L2.PO
def iF:List Int->ak
 | [a,b,v]=>⟨true,a.toNat,b.toNat,v⟩
 | _=>⟨true,0,0,0⟩
def HC (n:Int) (rows:List (List Int)):Prop:=∀r∈rows,∃a b v:Int,r=[a,b,v]/\0<=a/\a<n/\0<=b/\b<n/\a≠b
theorem RU:∀{k:Nat} {n:Int},(k:Int)+1<=n->HC n (jP la k)
 | 0,_,_=>fun r hr=>nomatch hr
 | k+1,n,h=>fun r hr=>by
  unfold jP at hr;rcases jF.mp hr with hr | hr
  ·exact RU (k:=k) (by exact eR h) r hr
  ·rcases eh.mp hr with rfl | hr
   ·exact ⟨0,(k:Int)+1,la,rfl,by exact ip (0+0),by lia,by exact ip (k+1+0),by exact h,by lia⟩
   ·rw [iD.mp hr];exact ⟨(k:Int)+1,0,0,rfl,by exact ip (k+1+0),by exact h,by exact ip (0+0),by lia,by lia⟩
theorem R_ (h:∀r∈rows,∃a b l m:Int,r=[a,b,l,m]/\0<=a/\a<n/\0<=b/\b<n/\a≠b):HC n (kh rows):=fun r hr=>by
 unfold kh at hr;obtain ⟨x,hx,AF⟩:=List.mem_flatten.mp hr;obtain ⟨y,hy,rfl⟩:=eI.mp hx;obtain ⟨a,b,l,m,rfl,h1,h2,h3,h4,h5⟩:=h y hy;rcases eh.mp AF with rfl | AF
 ·exact ⟨a,b,m,rfl,h1,h2,h3,h4,h5⟩
 ·rw [iD.mp AF];exact ⟨b,a,-l,rfl,h3,h4,h1,h2,aB h5⟩
theorem cO.kH (h:cO n la T F):HC n (dB n la T F):=fun r hr=>by
 unfold dB at hr;have n1:=h.n1;rcases jF.mp hr with hr | hr
 ·rcases jF.mp hr with hr | hr
  ·exact RU (by omega) r hr
  ·exact R_ (fun r hr=>by obtain ⟨a,b,l,m,e,x1,x2,x3,x4,x5,_⟩:=h.t r hr;exact ⟨a,b,l,m,e,x1,x2,x3,x4,x5⟩) r hr
 ·exact R_ (fun r hr=>by obtain ⟨a,b,l,m,e,x1,x2,x3,x4,x5,_⟩:=h.f r hr;exact ⟨a,b,l,m,e,x1,x2,by exact eR x3,x4,x5⟩) r hr
theorem SO (h:cO n la T F):(dB n la T F).length<=100:=by unfold dB;rw [iT,iT,Ap,vU h.oK,vU h.lX];have:=h.tl;have:=h.fl;have:=h.n2;lia
def mv (n la:Int) (T F:List (List Int)):MU.St:=mn ((dB n la T F).map iF) empty
theorem xn {n:Nat} {rows:List (List Int)} (h:HC (n:Int) rows):∀w∈rows.map iF,MU.Lb n w:=fun w hw=>by obtain ⟨r,hr,rfl⟩:=eI.mp hw;obtain ⟨a,b,v,rfl,h1,h2,_,h4,_⟩:=h r hr;exact ⟨by show a.toNat<n;exact BQ h1 h2,by show b.toNat<n;lia,rfl⟩
theorem Ky {n:Nat} {la:Int} {T F:List (List Int)} (h:cO (n:Int) la T F):jG n (cP F) (mv n la T F):=by have g:=Ht ((dB (n:Int) la T F).map iF) empty KL (xn h.kH);refine ⟨g,fun i w hw ht=>?_⟩;have:=KO (n:=n) _ _ SU (xn h.kH) i w hw;rw [ht] at this;cases this
theorem FJ:∀{k:Nat},i<k->[0,(i:Int)+1,la]∈jP la k/\[(i:Int)+1,0,0]∈jP la k
 | 0,h=>absurd h (oR _)
 | k+1,h=>by
  unfold jP
  by_cases e:i=k
  ·subst e;exact ⟨jW _ dN,jW _ (f_ _ dN)⟩
  ·obtain ⟨h1,h2⟩:=FJ (la:=la) (i:=i) (k:=k) (tj h e);exact ⟨gJ _ h1,gJ _ h2⟩
theorem Z4 {n:Nat} {la:Int} {T F:List (List Int)} (h:cO (n:Int) la T F) (tH:la<=60):∃Te,xj n (cP F) (mv n la T F) Te:=by
 have g:=Ht ((dB (n:Int) la T F).map iF) empty KL (xn h.kH);have Lx:=KO (n:=n) _ _ SU (xn h.kH);have n1:=h.n1;have n2:=h.n2;have hl:=KI ((dB (n:Int) la T F).map iF) empty;have hs:=SO h;rw [aI] at hl;have hl:(mv n la T F).rows.length<=0+(dB (n:Int) la T F).length:=hl;have told:∀i,0<i->i<n->(∃v,v<=((60:Nat):Int)/\val (mv n la T F) (true,0,i)=some v)/\∃v,v<=0/\val (mv n la T F) (true,i,0)=some v:=fun i h1 h2=>by
  have hk:i-1<((n:Int)-1).toNat:=by lia
  obtain ⟨m1,m2⟩:=FJ (la:=la) hk;have ei:((i-1:Nat):Int)+1=(i:Int):=by lia
  rw [ei] at m1 m2;have in1:(⟨true,0,i,la⟩:ak)∈(dB (n:Int) la T F).map iF:=eI.mpr ⟨_,gJ _ (gJ _ m1),rfl⟩;have in2:(⟨true,i,0,0⟩:ak)∈(dB (n:Int) la T F).map iF:=eI.mpr ⟨_,gJ _ (gJ _ m2),rfl⟩;obtain ⟨u1,v1,w1⟩:=Hz _ empty _ in1 (by show 0≠i;lia);obtain ⟨u2,v2,w2⟩:=Hz _ empty _ in2 (by show i≠0;exact Nat.ne_of_gt h1);unfold dR at w1 w2;simp at w1 w2;exact ⟨⟨u1,by lia,v1⟩,⟨u2,w2,v2⟩⟩
 obtain ⟨Te,e1,e2,e3⟩:=MU.ZE (n:=n) (F:=cP F) (s0:=mv n la T F) (xQ n2) h.m7 g told (MU.zBq g Lx) (by lia);exact ⟨Te,e1,e2,e3⟩
def PZ (C CW:Addr):Sp:=fun vs H Q _=>∃(p wb dx:Addr) (n:Nat) (la:Int) (T F:List (List Int)),vs=[.ref p,.ref wb]/\H p=some (.ins C dx [])/\jl CW H wb (n:Int) la T F/\cO (n:Int) la T F/\
 ∀H' be rl bd,gw C H' p be rl bd n (cP F) (mv n la T F)->H be=none->H rl=none->H bd=none->ck p H H'->Q .aR H'
section
abbrev nCi:List Str:=["self","web","a","b","most"]
theorem HF:cC nCi ["self","web"] (aU cV):=de
theorem km1:¬(("many":Str)="by_end"):=by decide+kernel
theorem km2:¬(("many":Str)="rows"):=by decide+kernel
theorem km3:¬(("by_end":Str)="rows"):=by decide+kernel
theorem km4:¬(("many":Str)="best"):=by decide+kernel
theorem km5:¬(("by_end":Str)="best"):=by decide+kernel
theorem km6:¬(("rows":Str)="best"):=by decide+kernel
theorem km7:¬(("many":Str)="bar"):=by decide+kernel
theorem km8:¬(("by_end":Str)="bar"):=by decide+kernel
theorem km9:¬(("rows":Str)="bar"):=by decide+kernel
theorem km0:¬(("best":Str)="bar"):=by decide+kernel
theorem zFy {n:Nat}:aL "bar" v (aL "best" (.ref bd) (aL "rows" (.ref rl) (aL "by_end" (.ref be) (aL "many" (.int (n:Int)) []))))=jm n be rl bd v:=by
 have s1:aL "by_end" (V.ref be) [(("many":Str),V.int (n:Int))]=[(("many":Str),V.int (n:Int)),("by_end",.ref be)]:=by rw [o3 km1];rfl
 have s2:aL "rows" (V.ref rl) [(("many":Str),V.int (n:Int)),("by_end",.ref be)]=[(("many":Str),V.int (n:Int)),("by_end",.ref be),("rows",.ref rl)]:=by rw [o3 km2,o3 km3];rfl
 have s3:aL "best" (V.ref bd) [(("many":Str),V.int (n:Int)),("by_end",.ref be),("rows",.ref rl)]=[(("many":Str),V.int (n:Int)),("by_end",.ref be),("rows",.ref rl),("best",.ref bd)]:=by rw [o3 km4,o3 km5,o3 km6];rfl
 have s4:aL "bar" v [(("many":Str),V.int (n:Int)),("by_end",.ref be),("rows",.ref rl),("best",.ref bd)]=jm n be rl bd v:=by rw [o3 km7,o3 km8,o3 km9,o3 km0];rfl
 show aL "bar" v (aL "best" (.ref bd) (aL "rows" (.ref rl) (aL "by_end" (.ref be) [(("many":Str),V.int (n:Int))])))=_;rw [s1,s2,s3,s4]
theorem rm (F:gC K "__init__" "Closing.__init__" cV f fd) (T:qc K mg C) (TC:mG K mg CW)
 (mT:jH K C "take" fT) (bT:eT K m8 ["self","what","word","used"] []) (GT:au P w K mg base a7 2 fT m8 ["self","what","word","used"] (JN C))
 (FE:Fn K mg "falls_by_end" cf ["web"] fE DF) (GE:au P w K mg base a7 2 fE DF ["web"] (PY CW))
 (FB:Fn K mg "told_bounds" bh ["web"] fB qw) (GB:au P w K mg base a7 3 fB qw ["web"] (Fj CW)):au P w K mg base a7 4 f fd ["self","web"] (PZ C CW):=by
 refine F.dw HF fun _ A _ s H _ Q E hr h=>?_;obtain ⟨p,wb,dx,n,la,rT,rF,rfl,hp,W0,af,k⟩:=h;have iK:cJ 2 _:=hr.mono (by decide);have CM:cJ 3 _:=hr;refine ⟨_,cy (sP (pv 0) (fq (pv 1) rfl) rfl)
  (cy (sP (pv 0) (cH GE iK FE (bR (pv 1))) rfl)
  (cy (sP (pv 0) (l9 qG) rfl)
  (cy (sP (pv 0) X0 rfl)
  (cy (sP (pv 0) og rfl)
  (aA (iG PassesOwn.never rfl (iH (cH GB CM FB (bR (pv 1))))
   (uk rfl (eN (bV 2 HF.nd) (eN (bV 3 HF.nd) (eN (bV 4 HF.nd) sU))))
   (aA (gE (kj (pv 0) T.cl mT GT iK bT .nil gD (iQ (eU (nk ft (pv 2) (pv 3) (pv 4))) ft (eU qG))))))))))),?_⟩
 obtain ⟨Lu,UZ,Vb,Ie,U_,U'⟩:=id W0;have pw:p≠wb:=fun z=>by rw [z,Ie] at hp;have:=HO.ins.inj (dM hp);exact absurd this.2.2 (fun z=>by unfold oY aL at z;cases z)
 refine fun N1 c1=>⟨_,rfl,wb,CW,Lu,_,_,rfl,Ie,TC.cl,TC.nM,qI _ _ _ _,_,rfl,p,C,dx,_,rfl,hp,T.cl,T.nM,by show 0<1000;decide,c1 _ _ ?_⟩;have kp:∀{Hx:Hp} {fs:List (Str×V)} {o:HO},Hx p=some (.ins C dx fs)->ck p Hx (upd Hx p o):=fun {Hx fs o} _ b o' e' ne=>by rw [aj ne];exact e'
 have k1:ck p H (upd H p (.ins C dx (aL "many" (.int (n:Int)) []))):=kp hp;have p1:upd H p (.ins C dx (aL "many" (.int (n:Int)) [])) p=some (.ins C dx (aL "many" (.int (n:Int)) [])):=aq;generalize upd H p (.ins C dx (aL "many" (.int (n:Int)) []))=H1 at*;clear c1 N1;have W1:jl CW H1 wb (n:Int) la rT rF:=⟨Lu,UZ,Vb,k1 _ _ Ie (aB pw),by
  obtain ⟨ps,R⟩:=U_;exact ⟨ps,k1 _ _ R.1 (cB R.1 hp nofun),iI R.2 fun _ _ e=>k1 _ _ e (cB e hp nofun)⟩,by
  obtain ⟨ps,R⟩:=U';exact ⟨ps,k1 _ _ R.1 (cB R.1 hp nofun),iI R.2 fun _ _ e=>k1 _ _ e (cB e hp nofun)⟩⟩
 refine fun N2 c2=>⟨_,rfl,wb,(n:Int),la,rT,rF,rfl,W1,af,fun be H2 tM s2 FA2=>⟨_,rfl,p,C,dx,_,rfl,s2 _ _ p1,T.cl,T.nB,by show 1<1000;decide,c2 _ _ ?_⟩⟩;have k2:ck p H2 (upd H2 p (.ins C dx (aL "by_end" (.ref be) (aL "many" (.int (n:Int)) [])))):=kp (s2 _ _ p1);have p2:upd H2 p (.ins C dx (aL "by_end" (.ref be) (aL "many" (.int (n:Int)) []))) p=some (.ins C dx (aL "by_end" (.ref be) (aL "many" (.int (n:Int)) []))):=aq;have Vq:=s2 _ _ p1;have zP:oi (upd H2 p (.ins C dx (aL "by_end" (.ref be) (aL "many" (.int (n:Int)) [])))) be (cP rF):=by obtain ⟨DC,f1,f2,f3,f4⟩:=FA2.at_;refine ⟨DC,k2 _ _ f1 (cB f1 Vq nofun),f2,f3,fun e f hf=>?_⟩;obtain ⟨pp,q1,q2⟩:=f4 e f hf;exact ⟨pp,q1,k2 _ _ q2 (cB q2 Vq nofun)⟩
 generalize upd H2 p (.ins C dx (aL "by_end" (.ref be) (aL "many" (.int (n:Int)) [])))=H3 at*;clear c2 N2;have K3:ck p H H3:=fun b o e ne=>k2 _ _ (s2 _ _ (k1 _ _ e ne)) ne;have free:∀{Hx:Hp} {b:Addr},ck p H Hx->Hx b=none->b≠p->H b=none:=fun {Hx b} kk e ne=>by
  cases q:H b with
  | none=>rfl
  | some o=>rw [kk _ _ q ne] at e;cases e
 have beH:H be=none:=free k1 tM (aB (aP p1 tM));refine fun N3 c3=>⟨dP _,fun rl gH=>⟨_,rfl,p,C,dx,_,rfl,bf gH _ _ p2,T.cl,T.nR,by show 2<1000;decide,c3 _ _ ?_⟩⟩;have s4:=bf (o:=.lst []) gH;have r4:upd H3 rl (.lst []) rl=some (.lst []):=aq;have FA4:=zP.same s4;have p4:=s4 _ _ p2;generalize upd H3 rl (.lst [])=H4 at*;have yA:p≠rl:=aP p2 gH;have HR:H rl=none:=free K3 gH (aB yA);have k5:ck p H4 (upd H4 p (.ins C dx (aL "rows" (.ref rl) (aL "by_end" (.ref be) (aL "many" (.int (n:Int)) []))))):=kp p4;have p5:upd H4 p (.ins C dx (aL "rows" (.ref rl) (aL "by_end" (.ref be) (aL "many" (.int (n:Int)) [])))) p=some (.ins C dx (aL "rows" (.ref rl) (aL "by_end" (.ref be) (aL "many" (.int (n:Int)) [])))):=aq;have r5:=k5 _ _ r4 (aB yA);generalize upd H4 p (.ins C dx (aL "rows" (.ref rl) (aL "by_end" (.ref be) (aL "many" (.int (n:Int)) []))))=H5 at*;clear c3 N3;have K5:ck p H H5:=fun b o e ne=>k5 _ _ (s4 _ _ (K3 _ _ e ne)) ne;refine fun N4 c4 bd gq=>⟨_,rfl,p,C,dx,_,rfl,bf gq _ _ p5,T.cl,T.nE,by show 3<1000;decide,c4 _ _ ?_⟩;have s6:=bf (o:=.dT []) gq;have b6:upd H5 bd (.dT []) bd=some (.dT []):=aq;have p6:=s6 _ _ p5;have r6:=s6 _ _ r5;generalize upd H5 bd (.dT [])=H6 at*;have AA:p≠bd:=aP p5 gq;have IJ:H bd=none:=free K5 gq (aB AA);have k7:ck p H6 (upd H6 p (.ins C dx (aL "best" (.ref bd) (aL "rows" (.ref rl) (aL "by_end" (.ref be) (aL "many" (.int (n:Int)) [])))))):=kp p6;have p7:upd H6 p (.ins C dx (aL "best" (.ref bd) (aL "rows" (.ref rl) (aL "by_end" (.ref be) (aL "many" (.int (n:Int)) []))))) p=some (.ins C dx (aL "best" (.ref bd) (aL "rows" (.ref rl) (aL "by_end" (.ref be) (aL "many" (.int (n:Int)) []))))):=aq;have r7:=k7 _ _ r6 (aB yA);have b7:=k7 _ _ b6 (aB AA);generalize upd H6 p (.ins C dx (aL "best" (.ref bd) (aL "rows" (.ref rl) (aL "by_end" (.ref be) (aL "many" (.int (n:Int)) [])))))=H7 at*;clear c4 N4;refine fun N5 c5=>⟨_,rfl,p,C,dx,_,rfl,p7,T.cl,T.nX,by show 4<1000;decide,c5 _ _ ?_⟩;rw [zFy];have k8:ck p H7 (upd H7 p (.ins C dx (jm n be rl bd .aR))):=kp p7;have p8:upd H7 p (.ins C dx (jm n be rl bd .aR)) p=some (.ins C dx (jm n be rl bd .aR)):=aq;have r8:=k8 _ _ r7 (aB yA);have b8:=k8 _ _ b7 (aB AA);generalize upd H7 p (.ins C dx (jm n be rl bd .aR))=H8 at*;clear c5 N5;have Ma:ck p H4 H8:=fun b o e ne=>k8 _ _ (k7 _ _ (s6 _ _ (k5 _ _ e ne)) ne) ne;have K8:ck p H H8:=fun b o e ne=>Ma _ _ (s4 _ _ (K3 _ _ e ne)) ne;have FA8:oi H8 be (cP rF):=by obtain ⟨DC,f1,f2,f3,f4⟩:=FA4.at_;refine ⟨DC,Ma _ _ f1 (cB f1 p4 nofun),f2,f3,fun e f hf=>?_⟩;obtain ⟨pp,q1,q2⟩:=f4 e f hf;exact ⟨pp,q1,Ma _ _ q2 (cB q2 p4 nofun)⟩
 have C8:gw C H8 p be rl bd n (cP rF) empty:=⟨⟨dx,p8⟩,FA8,⟨[],r8,.nil⟩,⟨[],b8,⟨av _,fun _ z=>nomatch z⟩,fun k=>rfl⟩⟩;have W8:jl CW H8 wb (n:Int) la rT rF:=⟨Lu,UZ,Vb,K8 _ _ Ie (aB pw),by
  obtain ⟨ps,R⟩:=U_;exact ⟨ps,K8 _ _ R.1 (cB R.1 hp nofun),iI R.2 fun _ _ e=>K8 _ _ e (cB e hp nofun)⟩,by
  obtain ⟨ps,R⟩:=U';exact ⟨ps,K8 _ _ R.1 (cB R.1 hp nofun),iI R.2 fun _ _ e=>K8 _ _ e (cB e hp nofun)⟩⟩
 refine ⟨_,rfl,wb,(n:Int),la,rT,rF,rfl,W8,af,fun l H9 hl s9 R9=>?_⟩;obtain ⟨qs,R⟩:=R9;have C9:=C8.same s9;obtain ⟨n1,n2,n3⟩:=C8.apart hl;have idx:=af.kH;have sh:=SO af;refine ⟨l,rfl,⟨_,a9.of R.1⟩,?_⟩;have stays:∀{H':Hp},dD p rl bd H9 H'->H' l=some (.lst (qs.map V.ref)):=fun kk=>kk _ _ R.1 n1 n2 n3;obtain ⟨dx9,p9⟩:=C9.ins;obtain ⟨q9,r9,_⟩:=C9.rows;obtain ⟨kv9,b9,_⟩:=C9.best;have gO:∀{H':Hp} {b:Addr} {xs:List V},dD p rl bd H9 H'->H9 b=some (.tup xs)->H' b=some (.tup xs):=fun kk e=>kk _ _ e (cB e p9 nofun) (cB e r9 nofun) (cB e b9 nofun);generalize hB:dB (n:Int) la rT rF=B at*;refine km (K:=K) (a:=l) (xs:=qs.map V.ref) (fun i ae H'=>∃v2 v3 v4,ae=[some (.ref p),some (.ref wb),v2,v3,v4]/\gw C H' p be rl bd n (cP rF) (mn ((B.take i).map iF) empty)/\dD p rl bd H9 H') ⟨none,none,none,rfl,C9,dD.of (a8.refl _)⟩ ?_ ?_ ?_
 ·rintro i ae H' _ ⟨v2,v3,v4,rfl,_,kk⟩;exact a9.of (stays kk)
 ·rintro i y ae tW hy ⟨v2,v3,v4,rfl,EF,kk⟩;obtain ⟨q,r,rfl,_,ay,ie⟩:=R.get hy;obtain ⟨a,b,v,rfl,x1,_,x3,_⟩:=idx r (gK ay);have hi:i<B.length:=(gu.mp ay).1;refine ⟨q,_,rfl,dm.of (gO kk ie),rfl,_,_,rfl,_,_,rfl,_,_,rfl,rfl,?_⟩;obtain ⟨OJ,p10⟩:=EF.ins;have gi:=Ht ((B.take i).map iF) empty (KL (n:=n)) (xn fun r hr=>idx r (List.mem_of_mem_take hr));have li:=KI ((B.take i).map iF) empty;rw [aI,jX] at li;have li:(mn ((B.take i).map iF) empty).rows.length<=0+min i B.length:=li;have et:mn ((B.take (i+1)).map iF) empty=take (mn ((B.take i).map iF) empty) (iF [a,b,v]) .told []:=by
   unfold mn;rw [lu,ay,fY,w_];rfl
  rw [et];generalize mn ((B.take i).map iF) empty=sti at*;refine ⟨_,rfl,p,OJ,_,rfl,p10,oW,_,rfl,_,rfl,_,rfl,dU rfl,fun t ht=>⟨dP _,fun u lq=>?_⟩⟩;have LC:=bf (o:=.tup [V.str "tie",V.int a,V.int b,V.int v]) ht;have w11:iP (upd tW t (.tup [V.str "tie",V.int a,V.int b,V.int v])) t (iF [a,b,v]):=by unfold iP;rw [aq];show some (HO.tup [V.str "tie",V.int a,V.int b,V.int v])=some (HO.tup [V.str "tie",V.int ((a.toNat:Nat):Int),V.int ((b.toNat:Nat):Int),V.int v]);rw [show ((a.toNat:Nat):Int)=a by exact Hi x1,show ((b.toNat:Nat):Int)=b by exact Hi x3]
  generalize upd tW t (.tup [V.str "tie",V.int a,V.int b,V.int v])=OT at*;have yw:=bf (o:=.tup []) lq;refine ⟨p,be,rl,bd,t,u,n,_,_,iF [a,b,v],.told,[],rfl,(EF.same LC).same yw,gi,w11.same yw,aq,by lia,fun H13 C13 k13=>⟨_,_,_,rfl,C13,?_⟩⟩;exact (kk.trans (dD.of (LC.trans yw))).trans k13
 ·rintro ae tW ⟨v2,v3,v4,rfl,EF,kk⟩;have bQ:B.take (qs.map V.ref).length=B:=by rw [aI,R.len];exact jN
  rw [bQ] at EF;refine k tW be rl bd ?_ beH HR IJ fun b o e ne=>kk _ _ (s9 _ _ (K8 _ _ e ne)) ne (aP e HR) (aP e IJ);unfold mv;rw [hB];exact EF
end
end Y0
namespace L2
open PySem PySem.Spec PyProof.Rows
section
theorem XW (hd:(d==sysModules)=false) (ho:s.heap.get? d=some o) (hc:o.ExactDict) (Ds:o.data=.dict es ep)
 (hQ:Q (.ref s.heap.objs.size) { s with heap:=s.heap.push { cls:=.type "dict_keyiterator",data:=.fields #[.ref d,.int 0 0,.int es.size 0,.int ep 0] } }):
 wpAny (model prog w) A (pyIter (.ref d)) Q E s:=by
 have hT:s.TypeIs (.ref d) "dict":=⟨o,ho,hc.1⟩;refine wpAny_pyIter_slot hT F.slot_dict_iter (wpAny_call_entry F.slot_dict_iter hT F.entry_dict_iter ?_ (F.args_dict_iter_1 _));unfold Builtin.«dict.__iter__» Builtin.Dict.dictSlotNone;refine ah (ah (wpAny_notOrdered_dict hT (show wpAny _ _ (pure (Value.ref d)) _ _ s from aW ?_)));refine (show wpAny _ _ (Builtin.Dict.showsAll d>>=_) _ _ s from ?_);unfold Builtin.Dict.showsAll;rw [if_neg (by rw [hd];exact fC)];refine ah (aW (ah (wpAny_dictEntries ho Ds (ah (wpAny_dictEpoch ho Ds (ah (wpAny_newObj_type (aW ⟨_,rfl,"dict_keyiterator",_,⟨_,jY _ rfl,rfl⟩,F.slot_dict_keyiterator_next.lookup,?_⟩))))))));simpa [rawInt] using hQ
theorem XX (hit:s.heap.IsKeyIter it d i es.size ep) (CS:s.heap.get? d=some od) (vp:od.data=.dict es ep) (hx:es[i]?=some e)
 (hQ:∀h',h'.IsKeyIter it d (i+1) es.size ep->Heap.SameBut it s.heap h'->Q (some e.key) { s with heap:=h' }):wpAny (model prog w) A (pyNext (.ref it)) Q E s:=by
 obtain ⟨o,ho,hc,hd⟩:=id hit;unfold pyNext;refine ah (wpAny_attempt (wpAny_callSpecial?_slot (name:=Str.ofString "__next__") hit.typeIs F.slot_dict_keyiterator_next (wpAny_call_entry F.slot_dict_keyiterator_next hit.typeIs F.entry_dict_keyiterator_next ?_ (F.args_dict_keyiterator_next_1 _))));refine ah (aW (ah (ah ?_)))
 first | refine ah (wpAny_typeNameOfWhole_keyiter hit.typeIs (aW (ah (wpAny_fieldsOf ho hd ?_)))) | refine ah (wpAny_typeNameOf_keyiter hit.typeIs (aW (ah (wpAny_fieldsOf ho hd ?_))))
 rw [show Builtin.Dict_items.ownsTuple "dict_keyiterator"=false by decide,if_neg fC];refine (show wpAny _ _ (if (Value.ref d==Value.none)=true then _ else _) _ _ s from ?_);rw [if_neg (show ¬((Value.ref d==Value.none)=true) from fC)];refine ah (aW (ah (wpAny_dictEntries CS vp ?_)));rw [if_neg (by simp)];refine ah (aW (ah (wpAny_dictEpoch CS vp ?_)));rw [if_neg (by simp)];refine aW ?_;dsimp only;rw [if_neg (show ¬((i:Int)<0) from Int.not_lt.mpr (Int.natCast_nonneg i)),hX,hx];dsimp only;refine ah ?_
 first | refine ah (wpAny_typeNameOfWhole_keyiter hit.typeIs (aW (ah (wpAny_isOneOf_keyiter hit.typeIs ?_)))) | refine ah (wpAny_typeNameOf_keyiter hit.typeIs (aW (ah (wpAny_isOneOf_keyiter hit.typeIs ?_))))
 refine (show wpAny _ _ (setField (.ref it) 1 (rawInt ((i:Int)+1))>>=_) _ _ s from ah (wpAny_setField ho hd (by simp) ?_));have Dl:(s.heap.update it (Obj.mapFields (·.setIfInBounds 1 (rawInt ((i:Int)+1))))).IsKeyIter it d (i+1) es.size ep:=
  ⟨_,tU _ ho (Obj.isFreed_of_fields (zI hd _)),(Obj.cls_mapFields ..).trans hc,by rw [zI hd];simp [rawInt]⟩
 refine ah (wpAny_holding (ah (wpAny_isOneOf_keyiter (s:={ s with heap:=s.heap.update it (Obj.mapFields (·.setIfInBounds 1 (rawInt ((i:Int)+1)))) }) Dl.typeIs (show wpAny _ _ (pure e.key) _ _ _ from aW (aW ⟨_,rfl,aW (hQ _ Dl (Heap.SameBut.update ..))⟩)))))
theorem zBa (q:Hd A s.heap) (hit:s.heap.IsKeyIter it d i es.size ep) (CS:s.heap.get? d=some od) (vp:od.data=.dict es ep) (hx:es.size<=i)
 (hQ:∀h',Heap.ExtBut it s.heap h'->Q none { s with heap:=h' }):wpAny (model prog w) A (pyNext (.ref it)) Q E s:=by
 obtain ⟨o,ho,hc,hd⟩:=id hit;unfold pyNext;refine ah (wpAny_attempt (wpAny_callSpecial?_slot (name:=Str.ofString "__next__") hit.typeIs F.slot_dict_keyiterator_next (wpAny_call_entry F.slot_dict_keyiterator_next hit.typeIs F.entry_dict_keyiterator_next ?_ (F.args_dict_keyiterator_next_1 _))));refine ah (aW (ah (ah ?_)))
 first | refine ah (wpAny_typeNameOfWhole_keyiter hit.typeIs (aW (ah (wpAny_fieldsOf ho hd ?_)))) | refine ah (wpAny_typeNameOf_keyiter hit.typeIs (aW (ah (wpAny_fieldsOf ho hd ?_))))
 rw [show Builtin.Dict_items.ownsTuple "dict_keyiterator"=false by decide,if_neg fC];refine (show wpAny _ _ (if (Value.ref d==Value.none)=true then _ else _) _ _ s from ?_);rw [if_neg (show ¬((Value.ref d==Value.none)=true) from fC)];refine ah (aW (ah (wpAny_dictEntries CS vp ?_)));rw [if_neg (by simp)];refine ah (aW (ah (wpAny_dictEpoch CS vp ?_)));rw [if_neg (by simp)];refine aW ?_;dsimp only;rw [if_neg (show ¬((i:Int)<0) from Int.not_lt.mpr (Int.natCast_nonneg i)),hX,Array.getElem?_eq_none hx];dsimp only;refine ah ?_
 first | refine ah (wpAny_typeNameOfWhole_keyiter hit.typeIs (aW ?_)) | refine ah (wpAny_typeNameOf_keyiter hit.typeIs (aW ?_))
 refine (show wpAny _ _ (setField (.ref it) 0 .none>>=_) _ _ s from ah (wpAny_setField ho hd (by simp) ?_));have other:∀b o,b≠it->s.heap.get? b=some o->(s.heap.update it (Obj.mapFields (·.setIfInBounds 0 Value.none))).get? b=some o:=fun b o hb e=>(kX _ _ (aB hb)).trans e;refine Ft (A:=A.in1) (s:={ s with heap:=s.heap.update it (Obj.mapFields (·.setIfInBounds 0 Value.none)) }) (Hd.keep (A:=A.in1) q fun b C dx t tb e=>other b _ (fun z=>?_) e) fun e h' kk te=>?_
 ·rw [z,ho] at e;cases e;cases hc
 ·refine ah (wpAny_mono (Fx (s0:=s) (fun b o hb z=>kk b o (other b o hb z)) te hQ) (fun b s' z=>?_) fun _ _ z=>z);obtain ⟨rfl,z⟩:=z;exact aW z
end
section
theorem Inv.freeze (I:Inv X pins σ H s) (hu:H a=some u) (mu:A_ (some u)) (ho:s.heap.get? a=some o):Inv X pins σ (upd H a (.gY o u)) s:=by
 have yI:∀b xs,H b=some (.tup xs)->b≠a:=fun b xs r z=>by subst z;rw [hu] at r;cases r;exact mu
 have vc:∀b y,H b=some (.own y)->b≠a:=fun b y r z=>by subst z;rw [hu] at r;cases r;exact mu
 exact I.write (h':=s.heap) (t':=s.toks) (x:=a) (e:=a) (by rw [hu];exact mu) (.inl rfl) (fun b v _ e=>e) ⟨o,ho⟩
  ⟨ho,(I.af a u hu).eW (fun b v _ e=>e) (fun b e=>by rw [aj (vc b a e)];exact e) fun b xs e=>by rw [aj (yI b xs e)];exact e⟩
theorem Inv.Ly (I:Inv X pins σ H s) (hu:H a=some (.gY o u)) (h0:∀o u,X.gb a≠some (.gY o u)):Inv X pins σ (upd H a u) s:=by
 have ne:∀{b:Addr} {x:Option HO},H b=x->(∀o u,x≠some (.gY o u))->b≠a:=fun {b x} e hx z=>by subst z;rw [hu] at e;exact hx _ _ e.symm
 have st:∀b v,eK X.prog X.w H s.heap b v->eK X.prog X.w (upd H a u) s.heap b v:=fun b v x=>
  x.eW (fun c v _ e=>e) (fun c e=>by rw [aj (ne e fun _ _ z=>nomatch z)];exact e) fun c xs e=>by rw [aj (ne e fun _ _ z=>nomatch z)];exact e
 refine ⟨I.ok,I.os,I.bare,⟨I.base.keep,I.base.slot,fun b v q n hx=>?_,I.base.there,fun b xs q=>?_,fun b ob v q=>?_,fun b ps q=>?_⟩,I.loc,I.cell,?_,fun x c e=>?_,fun p hp=>?_,fun b v q=>?_,I.len⟩
 ·have e:=I.base.free b v q n hx;rw [aj (ne e fun _ _ z=>nomatch z)];exact e
 ·have e:=I.base.gO b xs q;rw [aj (ne e fun _ _ z=>nomatch z)];exact e
 ·have e:=I.base.g9 b ob v q;rw [aj (fun z=>by subst z;exact h0 ob v q)];exact e
 ·obtain ⟨more,e⟩:=I.base.i6 b ps q;exact ⟨more,by rw [aj (ne e fun _ _ z=>nomatch z)];exact e⟩
 ·rw [aj (ne I.free fun _ _ z=>nomatch z)];exact I.free
 ·rw [aj (ne (I.cI x c e) fun _ _ z=>nomatch z)];exact I.cI x c e
 ·obtain ⟨p1,p2,p3⟩:=I.pin p hp;exact ⟨p1,by rw [aj (ne p2 fun _ _ z=>nomatch z)];exact p2,p3⟩
 ·by_cases hb:b=a
  ·subst hb;rw [aq] at q;cases q;exact st b u (I.af b _ hu).2
  ·rw [aj hb] at q;exact st b v (I.af b v q)
end
def zEq (gb:Hp) (t:TE):TE:=fun σ H Q=>t σ H fun x H1=>∃a o u,H1 a=some (.gY o u)/\(∀o u,gb a≠some (.gY o u))/\Q x (upd H1 a u)
theorem zBj (he:PE X e t):PE X e (zEq X.gb t):=by intro pins s σ H Q I h;refine ax (he pins s σ H _ I h) fun v s1 zz=>?_;obtain ⟨x,H1,I1,r1,q1⟩:=zz;obtain ⟨a,o,u,e1,e2,q⟩:=q1;exact ⟨x,_,I1.Ly e1 e2,r1,q⟩
def OS (a:Addr) (o:Obj) (kvs:List (List Key×V)):It:=
 ⟨fun i H=>H a=some (.gY o (.dT kvs))/\i<kvs.length,fun i H x H'=>H'=H/\∃q k v,x=.ref q/\kvs[i]?=some (k,v)/\H q=some (.tup (k.map kV)),fun i H=>H a=some (.gY o (.dT kvs))/\kvs.length<=i⟩
theorem Sr {α β:Type} {F:α->β->Prop} {l:List α} {m:List β} (h:Paired F l m) {i:Nat} {x:α} (hx:l[i]?=some x):∃y,m[i]?=some y/\F x y:=by
 induction h generalizing i with
 | nil=>simp at hx
 | cons r _ ih=>
  cases i with
  | zero=>simp at hx;subst hx;exact ⟨_,rfl,r⟩
  | succ i=>simpa using ih (by simpa using hx)
theorem ZG {α β γ:Type} {F:α×β->α×γ->Prop} {l:List (α×β)} {m:List (α×γ)} (k:Paired F l m) (h:∀p q,F p q->p.1=q.1):l.map (·.1)=m.map (·.1):=by
 induction k with
 | nil=>rfl
 | cons r t ih=>rw [fj,fj,ih,h _ _ r]
theorem Qv {X:Cx} {pins:List (Addr×Obj)} {σ:St} {H:Hp} {s:Shared} {a:Addr} {o:Obj} {kvs:List (List Key×V)} {es:Array DictEntry} {ep:Nat} (I:Inv X pins σ H s) (h:H a=some (.gY o (.dT kvs))) (hd:o.data=.dict es ep):
 s.heap.get? a=some o/\es.size=kvs.length/\∀(i:Nat) (k:List Key) (v:V),kvs[i]?=some (k,v)->∃(e:DictEntry) (q:Addr),es[i]?=some e/\e.key=Value.ref q/\H q=some (.tup (k.map kV)):=by
 obtain ⟨ho,_,_,xs,hp,o',DH,IH,mz,hc,AM,he,hn⟩:=(show eK X.prog X.w H s.heap a (.gY o (.dT kvs)) from I.af a _ h);rw [ho] at mz;cases mz;rw [hd] at AM;cases AM;refine ⟨ho,?_,fun i k v hx=>?_⟩
 ·rw [<-sr,he,aI,Paired.length hp]
 ·obtain ⟨x,rG,_,r2,_⟩:=Sr hp hx;refine ⟨_,x.2.1,by rw [<-Array.getElem?_toList,he,fG,rG];rfl,rfl,?_⟩;exact r2
theorem Zd {tg:Expr} (a it:Addr) (o:Obj) (kvs:List (List Key×V)) {es:Array DictEntry} {ep:Nat} (hd:o.data=.dict es ep):
 yh P w K tg (OS a o kvs) [it] it (fun i h=>h.IsKeyIter it a i es.size ep) where
 mem:=by simp
 obj:=fun i h st b hb=>by
  have e:b=it:=by simpa using hb
  subst e;obtain ⟨o,e,_,d⟩:=st;exact ⟨o,e,fun v z=>by rw [d] at z;cases z⟩
 keep:=fun i h h' st k=>st.at fun o e=>k it (by simp) o e
 item:=by intro X hP hw hK _ i pins s σ H E I hf st hg;subst hP hw hK;obtain ⟨AJ,hi⟩:=hg;obtain ⟨ho,_,kQ⟩:=Qv I AJ hd;obtain ⟨⟨k,v⟩,hx⟩:∃p,kvs[i]?=some p:=⟨kvs[i],by simp [hi]⟩;obtain ⟨e,q,he,hk,hq⟩:=kQ i k v hx;obtain ⟨f0,f1,_,f3,f4,f5⟩:=hf it (by simp);refine XX st ho hd he fun h' ag sb=>?_;have I1:Inv X pins σ H { s with heap:=h' }:=I.turned (t':=s.toks) (fun b o hb e=>(sb.2 b hb).trans e) f0 f1 f3 f4 f5;rw [hk];exact ⟨_,rfl,letGo_keyiter (s':={ s with heap:=h' }) ag ⟨.ref q,H,I1,rfl,⟨rfl,q,k,v,rfl,hx,hq⟩,ag,fun b hb=>(hf b hb).1⟩⟩
 done:=by intro X hP hw hK hc i pins s σ H E I hf st hg;subst hP hw hK;obtain ⟨AJ,hi⟩:=hg;obtain ⟨ho,hsz,_⟩:=Qv I AJ hd;obtain ⟨f0,f1,_,f3,f4,f5⟩:=hf it (by simp);exact zBa (Bk hc I) st ho hd (An hsz hi) fun h' eb=>⟨rfl,I.turned (t':=s.toks) (fun b o hb e=>eb b o hb e) f0 f1 f3 f4 f5⟩
 self:=fun _ _ _ _ _ st h=>wpAny_pyIter_keyiter st h
section
def zFq (td:TE):TI:=fun σ H R=>td σ H fun x H1=>∃a kvs,x=.ref a/\H1 a=some (.dT kvs)/\((kvs.map (·.1)).Nodup->∀o,R (OS a o kvs) (upd H1 a (.gY o (.dT kvs))))
theorem zBh {d:Expr} {td:TE} (hl:PE X d td):PI X tg d (zFq td):=by
 intro pins s σ H R I h;refine ax (hl pins s σ H _ I h) fun v s1 zz=>?_;obtain ⟨x,H1,I1,r1,q1⟩:=zz;obtain ⟨a,kvs,e,hq,q⟩:=q1;subst e;cases r1;obtain ⟨_,hs,xs,hp,o,es,ep,ho,hc,hd,_,hn⟩:=(show eK X.prog X.w H1 s1.heap a (.dT kvs) from I1.af a _ hq);have pI:(kvs.map (·.1)).Nodup:=by rw [ZG hp fun _ _ z=>z.1];exact hn
 refine XW hs ho hc hd ?_;have I2:=I1.freeze hq trivial ho;refine ⟨s1.heap.objs.size,[s1.heap.objs.size],_,_,_,rfl,I2.kept (t':=s1.toks) fun b o e=>cR _ e,Zd a _ o kvs hd,⟨_,jY _ rfl,rfl,rfl⟩,fun b hb=>?_,q pI o⟩;have e:b=s1.heap.objs.size:=by simpa using hb
 subst e;exact I2.rZ (av _) (I2.af.fresh (av _))
end
theorem YI (Pv:Nat->St->Hp->Prop) (h0:Pv 0 (sQ js σ) (upd H D (.lst [])))
 (hl:∀i ae H',i<=kvs.length->Pv i ae H'->H' a=some (.gY o (.dT kvs)))
 (hs:∀i k v q ae H',kvs[i]?=some (k,v)->H' q=some (.tup (k.map kV))->Pv i ae H'->g (.ref q) ae H' fun eJ H3=>tc eJ H3 fun ok H4=>if ok=true then te eJ H4 fun y H5=>∃ys,H5 D=some (.lst ys)/\ys.length<sizeLine/\Pv (i+1) eJ (upd H5 D (.lst (ys++[y]))) else Pv (i+1) eJ H4)
 (hd:∀ae H',Pv kvs.length ae H'->Q (.ref D) H'):
 Ab js g tc te σ Q (OS a o kvs) H D:=by
 refine ⟨fun i m σ H=>m=kvs.length-i/\i<=kvs.length/\Pv i σ H,⟨kvs.length,by simp,dP _,h0⟩,?_⟩;rintro i m ae H' ⟨rfl,hi,p⟩
 by_cases aF:i<kvs.length
 ·refine .inr ⟨⟨hl i ae H' hi p,aF⟩,Pv (i+1),fun iW H2 p'=>⟨kvs.length-(i+1),vW aF,rfl,aF,p'⟩,fun x H2 y=>?_⟩;obtain ⟨e,q,k,v,rfl,hx,hq⟩:=y;subst e;exact hs i k v q ae _ hx hq p
 ·have e:i=kvs.length:=vX hi aF;subst e;exact .inl ⟨⟨hl _ ae H' hi p,av _⟩,hd ae H' p⟩
end L2
namespace TS
open PySem PyProof PyProof.Rows
def N_:Bool->Keyed->Array Keyed->Nat->Nat->Nat->StateT SortSt Sem (Option Nat):=sortPriv% PySem.Builtin.gallop
class SK where
 num:Keyed->Int
 ok:Keyed->Prop
 kind:SortKind
def N [SK] (p:Keyed):Int:=SK.num p
def eE [SK] (p:Keyed):Prop:=SK.ok p
def Kk [SK] (xs:Array Keyed) (i:Nat):Int:=match xs[i]? with
 | some p=>N p
 | none=>0
class ic [SK] (prog:Program) (w:World) (A:Around) (E:Value->Shared->Prop) (s:Shared):Prop where
 lt:∀{st:SortSt} {p q:Keyed} {Q:Option Bool->SortSt->Prop},kindOf st=SK.kind->eE p->eE q->Q (some (decide (N p<N q))) st->wpS (model prog w) A E s (lt' p q) Q st
section
variable [SK]
theorem xC (h:xs[i]?=ys[j]?):Kk xs i=Kk ys j:=by unfold Kk;rw [h]
theorem Xc (hs:src<xs.size) (hd:d<=src) (k:Nat):
 Kk (bubble xs src d) k=if k=src-d then Kk xs src else if src-d<k/\k<=src then Kk xs (k-1) else Kk xs k:=by
 have e:=getElem?_bubble hs d hd k
 by_cases h1:k=src-d
 ·rw [if_pos h1] at*;exact xC e
 rw [if_neg h1] at*
 by_cases h2:src-d<k/\k<=src
 ·rw [if_pos h2] at*;exact xC e
 ·rw [if_neg h2] at*;exact xC e
theorem Fy (hj:j<=xs.size) (k:Nat):Kk (mirror xs i j ((j-i) / 2)) k=if i<=k/\k<j then Kk xs (i+j-1-k) else Kk xs k:=by
 have e:=getElem?_mirror_all (i:=i) hj k
 by_cases h1:i<=k/\k<j
 ·rw [if_pos h1] at*;exact xC e
 ·rw [if_neg h1] at*;exact xC e
theorem KS (hj:j<=xs.size) (he:∀k,i<=k->k<j->Kk xs k=Kk xs (j-1)) (k:Nat):Kk (mirror xs i j ((j-i) / 2)) k=Kk xs k:=by
 rw [Fy hj];split
 ·rename_i h;rw [he k h.1 h.2,he (i+j-1-k) (Rm h.2) (by omega)]
 ·rfl
end
def eA (left:Bool) (kv x:Int):Bool:=if left then decide (x<kv) else !decide (kv<x)
theorem BJ (h:x<=y) (hy:eA l kv y=true):eA l kv x=true:=by unfold eA at*;cases l<;>simp_all<;>lia
theorem PF (h:x<=y) (hy:eA l kv x=false):eA l kv y=false:=by
 cases e:eA l kv y with
 | false=>rfl
 | true=>rw [BJ h e] at hy;exact hy
section
variable [SK] [ic prog w A E s] {st:SortSt}
theorem ou (he:a[i]?=some p) (h:Q p st):
 wpS (model prog w) A E s (elem' a i) Q st:=by
 rw [elem'_eq,he];exact wpS_pure h
theorem EY (hk:kindOf st=SK.kind) (hp:eE p) (hq:eE q)
 (h:Q (some (decide (N p<N q))) st):wpS (model prog w) A E s (lt' p q) Q st:=ic.lt hk hp hq h
theorem By (hk:kindOf st=SK.kind)
 (he:a[i]?=some p) (hp:eE p) (hq:eE key) (h:Q (some (eA l (N key) (N p))) st):
 wpS (model prog w) A E s (do
  let x <-elem' a i
  if l=true then lt' x key else do
   let r <-lt' key x
   pure (Option.map (fun x=> !x) r)) Q st:=by
 refine wpS_bind (ou he ?_);cases l
 ·exact wpS_bind (EY hk hq hp (wpS_pure h))
 ·exact EY hk hp hq h
theorem sL (hI:∀p,p∈a.toList->eE p) (hi:i<a.size):∃p,a[i]?=some p/\eE p/\Kk a i=N p:=
 ⟨a[i],getElem?_pos _ i hi,hI _ (by simp),by unfold Kk;rw [getElem?_pos a i hi]⟩
abbrev IU:=Option (Option Nat)×Nat×Nat
theorem SN {P:Nat->Bool} {n lo hi:Nat} {f:Nat->IU->StateT SortSt Sem (ForInStep IU)}
 (hP:∀i j,i<=j->j<n->P j=true->P i=true)
 (hf:∀x lo hi,hi<=n->∀Q:ForInStep IU->SortSt->Prop,(hi<=lo->Q (.done (none,lo,hi)) st)->
  (lo<hi->P (lo+(hi-lo) / 2)=true->Q (.yield (none,lo+(hi-lo) / 2+1,hi)) st)->
  (lo<hi->P (lo+(hi-lo) / 2)=false->Q (.yield (none,lo,lo+(hi-lo) / 2)) st)->
  wpS (model prog w) A E s (f x (none,lo,hi)) Q st)
 (rN:lo<=hi) (hhi:hi<=n) (h1:∀i,i<lo->P i=true) (h2:∀i,hi<=i->i<n->P i=false):
 wpS (model prog w) A E s (forIn [:n] ((none,lo,hi):IU) f)
  (fun c ag=>ag=st/\∃k,c=(none,k,k)/\k<=n/\(∀i,i<k->P i=true)/\(∀i,k<=i->i<n->P i=false)) st:=by
 refine wpS_forRange
  (I:=fun x c ag=>ag=st/\∃lo hi,c=(none,lo,hi)/\lo<=hi/\hi<=n/\hi-lo<=n-x/\
   (∀i,i<lo->P i=true)/\(∀i,hi<=i->i<n->P i=false))
  ?_ ?_ ⟨rfl,lo,hi,rfl,rN,hhi,by lia,h1,h2⟩
 ·rintro x c ag _ hx ⟨rfl,lo,hi,rfl,a1,a2,a3,a4,a5⟩;refine hf x lo hi a2 _ (fun ik=>?_) (fun aF hm=>?_) (fun aF hm=>?_)
  ·obtain rfl:lo=hi:=by lia
   exact ⟨rfl,lo,rfl,a2,a4,a5⟩
  ·exact ⟨rfl,_,hi,rfl,by lia,a2,by omega,fun i iS=>hP i _ (Ks iS) (by lia) hm,a5⟩
  ·refine ⟨rfl,lo,_,rfl,jQ,by lia,by omega,a4,fun i iS gp=>?_⟩
   cases e:P i with
   | false=>rfl
   | true=>rw [hP _ i iS gp e] at hm;exact hm
 ·rintro c ag ⟨rfl,lo,hi,rfl,a1,a2,a3,a4,a5⟩;obtain rfl:lo=hi:=by simp at a3;lia
  exact ⟨rfl,lo,rfl,a2,a4,a5⟩
theorem Ff (hk:kindOf st=SK.kind)
 (hI:∀p,p∈a.toList->eE p) (hq:eE key) (hn:b+n<=a.size) (hs:∀i j,i<=j->j<n->Kk a (b+i)<=Kk a (b+j)) (hh:hint<n)
 (h:∀k,k<=n->(∀i,i<k->eA l (N key) (Kk a (b+i))=true)->(∀i,k<=i->i<n->eA l (N key) (Kk a (b+i))=false)->Q (some k) st):
 wpS (model prog w) A E s (N_ l key a b n hint) Q st:=by
 refine wpS_bind ?_;obtain ⟨p,e1,e2,e3⟩:=sL hI (i:=b+hint) (qh hn hh);refine By hk e1 e2 hq ?_;rw [<-e3]
 cases e:eA l (N key) (Kk a (b+hint)) with
 | true=>
  dsimp only;rw [if_pos rfl];refine wpS_bind (wpS_mono (wpS_forRange
   (I:=fun x c ag=>ag=st/\∃lo dG,c=(none,lo,dG)/\lo<dG/\x<dG/\hint+lo<n/\eA l (N key) (Kk a (b+(hint+lo)))=true)
   (Q:=fun c ag=>ag=st/\∃lo dG,c=(none,lo,dG)/\lo<dG/\hint+lo<n/\eA l (N key) (Kk a (b+(hint+lo)))=true/\
    (hint+dG<n->eA l (N key) (Kk a (b+(hint+dG)))=false))
   ?_ ?_ ⟨rfl,0,1,rfl,by exact f7,by exact f7,by omega,e⟩) ?_)
  ·rintro x c ag _ _ ⟨rfl,lo,dG,rfl,a1,a2,a3,a4⟩;dsimp only
   by_cases ik:dG>=n-hint
   ·rw [if_pos ik];exact wpS_pure ⟨rfl,lo,dG,rfl,a1,a3,a4,fun h=>absurd h (by lia)⟩
   ·rw [if_neg ik];obtain ⟨p,e1,e2,e3⟩:=sL hI (i:=b+(hint+dG)) (by lia);refine wpS_bind (By hk e1 e2 hq ?_);rw [<-e3]
    cases e':eA l (N key) (Kk a (b+(hint+dG))) with
    | true=>exact wpS_pure ⟨rfl,dG,2*dG+1,rfl,by lia,by lia,by lia,e'⟩
    | false=>exact wpS_pure ⟨rfl,lo,dG,rfl,a1,a3,a4,fun _=>e'⟩
  ·rintro c ag ⟨rfl,lo,dG,rfl,a1,a2,a3,a4⟩;exact ⟨rfl,lo,dG,rfl,a1,a3,a4,fun h=>absurd h (by simp at a2;lia)⟩
  ·rintro c ag ⟨rfl,lo,dG,rfl,a1,a3,a4,a5⟩;dsimp only;refine wpS_bind (wpS_mono (SN (P:=fun i=>eA l (N key) (Kk a (b+i))) (fun i j dz hj e=>BJ (hs i j dz hj) e)
    ?_ (by omega) (by omega) (fun i hi=>?_) (fun i hi gp=>?_)) ?_)
   ·intro _ lo hi Ni Q' c1 c2 c3;dsimp only
    by_cases ik:lo>=hi
    ·rw [if_pos ik];exact wpS_pure (c1 ik)
    ·rw [if_neg ik];obtain ⟨p,e1,e2,e3⟩:=sL hI (i:=b+(lo+(hi-lo) / 2)) (RH hn Ni ik);refine wpS_bind (By hk e1 e2 hq ?_);rw [<-e3]
     cases e':eA l (N key) (Kk a (b+(lo+(hi-lo) / 2))) with
     | true=>exact wpS_pure (c2 (xT ik) e')
     | false=>exact wpS_pure (c3 (xT ik) e')
   ·exact BJ (hs i (hint+lo) (Ks hi) (tf a3)) a4
   ·exact PF (hs (hint+dG) i (by omega) (tf gp)) (a5 (by lia))
   ·rintro c ag ⟨rfl,k,rfl,b1,b2,b3⟩;exact wpS_pure (h k b1 b2 b3)
 | false=>
  dsimp only;rw [if_neg (by decide)];refine wpS_bind (wpS_mono (wpS_forRange
   (I:=fun x c ag=>ag=st/\∃lo dG,c=(none,lo,dG)/\lo<dG/\x<dG/\lo<=hint/\eA l (N key) (Kk a (b+(hint-lo)))=false)
   (Q:=fun c ag=>ag=st/\∃lo dG,c=(none,lo,dG)/\lo<dG/\lo<=hint/\eA l (N key) (Kk a (b+(hint-lo)))=false/\
    (dG<=hint->eA l (N key) (Kk a (b+(hint-dG)))=true))
   ?_ ?_ ⟨rfl,0,1,rfl,by exact f7,by exact f7,by lia,e⟩) ?_)
  ·rintro x c ag _ _ ⟨rfl,lo,dG,rfl,a1,a2,a3,a4⟩;dsimp only
   by_cases ik:dG>=hint+1
   ·rw [if_pos ik];exact wpS_pure ⟨rfl,lo,dG,rfl,a1,a3,a4,fun h=>absurd h (by exact Nat.not_le_of_lt ik)⟩
   ·rw [if_neg ik];obtain ⟨p,e1,e2,e3⟩:=sL hI (i:=b+(hint-dG)) (by lia);refine wpS_bind (By hk e1 e2 hq ?_);rw [<-e3]
    cases e':eA l (N key) (Kk a (b+(hint-dG))) with
    | true=>exact wpS_pure ⟨rfl,lo,dG,rfl,a1,a3,a4,fun _=>e'⟩
    | false=>exact wpS_pure ⟨rfl,dG,2*dG+1,rfl,by lia,by lia,by lia,e'⟩
  ·rintro c ag ⟨rfl,lo,dG,rfl,a1,a2,a3,a4⟩;exact ⟨rfl,lo,dG,rfl,a1,a3,a4,fun h=>absurd h (by simp at a2;lia)⟩
  ·rintro c ag ⟨rfl,lo,dG,rfl,a1,a3,a4,a5⟩;dsimp only;refine wpS_bind (wpS_mono (SN (P:=fun i=>eA l (N key) (Kk a (b+i))) (fun i j dz hj e=>BJ (hs i j dz hj) e)
    ?_ (by omega) (by lia) (fun i hi=>?_) (fun i hi gp=>?_)) ?_)
   ·intro _ lo hi Ni Q' c1 c2 c3;dsimp only
    by_cases ik:lo>=hi
    ·rw [if_pos ik];exact wpS_pure (c1 ik)
    ·rw [if_neg ik];obtain ⟨p,e1,e2,e3⟩:=sL hI (i:=b+(lo+(hi-lo) / 2)) (RH hn Ni ik);refine wpS_bind (By hk e1 e2 hq ?_);rw [<-e3]
     cases e':eA l (N key) (Kk a (b+(lo+(hi-lo) / 2))) with
     | true=>exact wpS_pure (c2 (xT ik) e')
     | false=>exact wpS_pure (c3 (xT ik) e')
   ·exact BJ (hs i (hint-dG) (by omega) (Yf hh)) (a5 (by omega))
   ·exact PF (hs (hint-lo) i (by omega) (tf gp)) a4
   ·rintro c ag ⟨rfl,k,rfl,b1,b2,b3⟩;exact wpS_pure (h k b1 b2 b3)
end
structure Iv (r:Keyed->Keyed->Prop) (W O X Y:List Keyed):Prop where
 perm:(O++(X++Y)).Perm W
 L8:O.Pairwise r
 sx:X.Pairwise r
 sy:Y.Pairwise r
 lx:∀p∈O,∀q∈X,r p q
 ly:∀p∈O,∀q∈Y,r p q
def Out (r:Keyed->Keyed->Prop) (W R:List Keyed):Prop:=R.Perm W/\R.Pairwise r
theorem Iv.symm {r W O X Y} (h:Iv r W O X Y):Iv r W O Y X:=
 ⟨((List.perm_append_comm (l₁:=Y) (l₂:=X)).append_left O).trans h.perm,h.L8,h.sy,h.sx,h.ly,h.lx⟩
theorem Iv.lF {r W O u v Y} (h:Iv r W O (u++v) Y) (hc:∀p∈u,∀q∈Y,r p q):Iv r W (O++u) v Y:=by
 have hp:=List.pairwise_append.mp h.sx;refine ⟨by simpa [wZ] using h.perm,?_,hp.2.1,h.sy,?_,?_⟩
 ·exact List.pairwise_append.mpr ⟨h.L8,hp.1,fun p ig q hq=>h.lx p ig q (gJ _ hq)⟩
 ·intro p ig q hq;rcases jF.mp ig with h' | h'
  ·exact h.lx p h' q (jW _ hq)
  ·exact hp.2.2 p h' q hq
 ·intro p ig q hq;rcases jF.mp ig with h' | h'
  ·exact h.ly p h' q hq
  ·exact hc p h' q hq
theorem Iv.o5 {r W O X u v} (h:Iv r W O X (u++v)) (hc:∀p∈u,∀q∈X,r p q):Iv r W (O++u) X v:=(h.symm.lF hc).symm
theorem Iv.fin {r W O X Y R} (h:Iv r W O X Y) (hp:R.Perm (X++Y)) (hs:R.Pairwise r):Out r W (O++R):=by
 refine ⟨(hp.append_left O).trans h.perm,List.pairwise_append.mpr ⟨h.L8,hs,fun p ig q hq=>?_⟩⟩;rcases jF.mp (hp.mem_iff.mp hq) with h' | h'
 ·exact h.lx p ig q h'
 ·exact h.ly p ig q h'
section
variable [SK]
def le (p q:Keyed):Prop:=N p<=N q
def ge (p q:Keyed):Prop:=N q<=N p
theorem Am {a:Array Keyed} {i k:Nat} (h:i+k<=a.size):a.toList.drop i=(a.extract i (i+k)).toList++a.toList.drop (i+k):=by rw [Array.toList_extract,AZ,Nat.add_sub_cancel_left,<-List.drop_drop,List.take_append_drop]
theorem Rv {a:Array Keyed} {i:Nat} {p:Keyed} (h:a[i]?=some p):a.toList.drop i=[p]++a.toList.drop (i+1):=by obtain ⟨hi,rfl⟩:=DV.mp h;rw [List.drop_eq_getElem_cons (by simpa using hi)];simp
theorem Kb (h:p∈(a.extract i j).toList):∃m,i<=m/\m<j/\m<a.size/\Kk a m=N p:=by
 obtain ⟨m,hm,e⟩:=IK h;simp only [sr,Array.size_extract] at hm;refine ⟨i+m,jQ,Rk hm,FZ hm,?_⟩;have:a[i+m]?=some p:=by rw [getElem?_pos a (i+m) (FZ hm)];simp only [Array.getElem_toList,Array.getElem_extract] at e;rw [e]
 unfold Kk;rw [this]
theorem ui (h:a[i]?=some p):Kk a i=N p:=by unfold Kk;rw [h]
theorem Ay (hs:a.toList.Pairwise le) (dz:i<=j) (hj:j<a.size):Kk a i<=Kk a j:=by
 rcases Nat.lt_or_eq_of_le dz with h | rfl
 ·have e1:=getElem?_pos a i (GG h hj);have e2:=getElem?_pos a j hj;rw [ui e1,ui e2];have:=DY.mp hs i j (by simp;exact GG h hj) (by simp;exact tf hj) h;exact (by simpa using this:le a[i] a[j])
 ·exact jg _
theorem Q3 (h:p∈a.toList.drop i):∃m,i<=m/\m<a.size/\Kk a m=N p:=by obtain ⟨m,hm,e⟩:=IK h;simp only [OO,sr] at hm;refine ⟨i+m,jQ,xR hm,ui ?_⟩;rw [getElem?_pos a (i+m) (xR hm)];simpa using e
theorem Ke (h:p∈a.toList.take i):∃m,m<i/\m<a.size/\Kk a m=N p:=by obtain ⟨m,hm,e⟩:=IK h;simp only [jX,sr] at hm;refine ⟨m,KD hm,by lia,ui ?_⟩;rw [getElem?_pos a m (by lia)];simpa using e
section lo
abbrev Fv (W:List Keyed) (a b out:Array Keyed) (ia ib:Nat):Prop:=Iv le W out.toList (a.toList.drop ia) (b.toList.drop ib)
theorem Fv.yy (h:Fv W a b out ia ib) {k:Nat} (hk:ia+k<=a.size) (hc:∀p∈(a.extract ia (ia+k)).toList,∀q∈b.toList.drop ib,le p q):
 Fv W a b (out++a.extract ia (ia+k)) (ia+k) ib:=by
 unfold Fv at*;rw [Am hk] at h;rw [qz];exact h.lF hc
theorem Fv.yx (h:Fv W a b out ia ib) {k:Nat} (hk:ib+k<=b.size) (hc:∀p∈(b.extract ib (ib+k)).toList,∀q∈a.toList.drop ia,le p q):
 Fv W a b (out++b.extract ib (ib+k)) ia (ib+k):=by
 unfold Fv at*;rw [Am hk] at h;rw [qz];exact h.o5 hc
theorem Fv.pq (h:Fv W a b out ia ib) {p:Keyed} (e:a[ia]?=some p) (hc:∀q∈b.toList.drop ib,le p q):Fv W a b (out.push p) (ia+1) ib:=by unfold Fv at*;rw [Rv e] at h;rw [Array.toList_push];exact h.lF (by simpa using hc)
theorem Fv.pk (h:Fv W a b out ia ib) {p:Keyed} (e:b[ib]?=some p) (hc:∀q∈a.toList.drop ia,le p q):Fv W a b (out.push p) ia (ib+1):=by unfold Fv at*;rw [Rv e] at h;rw [Array.toList_push];exact h.o5 (by simpa using hc)
theorem Fq (a:Array Keyed) (i:Nat):(a.extract i a.size).toList=a.toList.drop i:=by rw [Array.toList_extract,AZ];exact List.take_of_length_le (by simp)
theorem Fv.j7 (h:Fv W a b out ia ib) (he:ia=a.size\/ib=b.size):Out le W (out++a.extract ia a.size++b.extract ib b.size).toList:=by
 rw [qz,qz,Fq,Fq,wZ];refine h.fin (List.Perm.refl _) ?_;rcases he with rfl | rfl
 ·rw [List.drop_of_length_le (by simp)];exact h.sy
 ·rw [show b.toList.drop b.size=[] from List.drop_of_length_le (by simp),List.append_nil];exact h.sx
theorem Fv.kU (h:Fv W a b out ia ib) (hc:∀p∈b.toList.drop ib,∀q∈a.toList.drop ia,le p q):Out le W (out++b.extract ib b.size++a.extract ia a.size).toList:=by rw [qz,qz,Fq,Fq,wZ];exact h.fin List.perm_append_comm (List.pairwise_append.mpr ⟨h.sy,h.sx,hc⟩)
end lo
section hi
abbrev Bv (W:List Keyed) (a b out:Array Keyed) (na nb:Nat):Prop:=Iv ge W out.toList (a.toList.take na).reverse (b.toList.take nb).reverse
theorem SH {a:Array Keyed} {i n:Nat} (h:i<=n):(a.toList.take n).reverse=(a.extract i n).reverse.toList++(a.toList.take i).reverse:=by
 rw [Array.toList_reverse,Array.toList_extract,AZ,<-List.reverse_append];congr 1;rw [<-List.drop_take,]
 conv=>lhs;rw [<-List.take_append_drop i (a.toList.take n)]
 rw [List.take_take,Nat.min_eq_left h]
theorem Sd {a:Array Keyed} {i:Nat} {p:Keyed} (h:a[i]?=some p):(a.toList.take (i+1)).reverse=[p]++(a.toList.take i).reverse:=by obtain ⟨hi,rfl⟩:=DV.mp h;rw [List.take_succ_eq_append_getElem (by simpa using hi),List.reverse_append];simp
theorem Bv.yy (h:Bv W a b out na nb) {i:Nat} (hi:i<=na) (hc:∀p∈(a.extract i na).toList,∀q∈b.toList.take nb,ge p q):
 Bv W a b (out++(a.extract i na).reverse) i nb:=by
 unfold Bv at*;rw [SH hi] at h;rw [qz];exact h.lF (by simpa using hc)
theorem Bv.yx (h:Bv W a b out na nb) {i:Nat} (hi:i<=nb) (hc:∀p∈(b.extract i nb).toList,∀q∈a.toList.take na,ge p q):
 Bv W a b (out++(b.extract i nb).reverse) na i:=by
 unfold Bv at*;rw [SH hi] at h;rw [qz];exact h.o5 (by simpa using hc)
theorem Bv.pq (h:Bv W a b out (na+1) nb) {p:Keyed} (e:a[na]?=some p) (hc:∀q∈b.toList.take nb,ge p q):Bv W a b (out.push p) na nb:=by unfold Bv at*;rw [Sd e] at h;rw [Array.toList_push];exact h.lF (by simpa using hc)
theorem Bv.pk (h:Bv W a b out na (nb+1)) {p:Keyed} (e:b[nb]?=some p) (hc:∀q∈a.toList.take na,ge p q):Bv W a b (out.push p) na nb:=by unfold Bv at*;rw [Sd e] at h;rw [Array.toList_push];exact h.o5 (by simpa using hc)
theorem F8 (a:Array Keyed) (i:Nat):(a.extract 0 i).toList=a.toList.take i:=by rw [Array.toList_extract,AZ];simp
theorem Out.rev (h:Out ge W R):Out le W R.reverse:=⟨(List.reverse_perm R).trans h.1,List.pairwise_reverse.mpr h.2⟩
theorem Bv.j7 (h:Bv W a b out na nb) (he:na=0\/nb=0):Out le W (a.extract 0 na++b.extract 0 nb++out.reverse).toList:=by
 have:(a.extract 0 na++b.extract 0 nb++out.reverse).toList=(out.toList++((b.toList.take nb).reverse++(a.toList.take na).reverse)).reverse:=by rw [qz,qz,F8,F8,Array.toList_reverse];simp
 rw [this];refine (h.fin List.perm_append_comm ?_).rev;rcases he with rfl | rfl
 ·simpa using h.sy
 ·simpa using h.sx
theorem Bv.kU (h:Bv W a b out na nb) (hc:∀p∈a.toList.take na,∀q∈b.toList.take nb,ge p q):Out le W (b.extract 0 nb++a.extract 0 na++out.reverse).toList:=by
 have:(b.extract 0 nb++a.extract 0 na++out.reverse).toList=(out.toList++((a.toList.take na).reverse++(b.toList.take nb).reverse)).reverse:=by rw [qz,qz,F8,F8,Array.toList_reverse];simp
 rw [this];exact (h.fin (List.Perm.refl _) (List.pairwise_append.mpr ⟨h.sx,h.sy,by simpa using hc⟩)).rev
end hi
end
def mlo:Array Keyed->Array Keyed->StateT SortSt Sem (Array Keyed):=sortPriv% PySem.Builtin.mergeLo
def mhi:Array Keyed->Array Keyed->StateT SortSt Sem (Array Keyed):=sortPriv% PySem.Builtin.mergeHi
structure Sm (st ag:SortSt):Prop where
 kind:kindOf ag=kindOf st
 arr:arrOf ag=arrOf st
 pend:pendingOf ag=pendingOf st
 fail:failedOf ag=failedOf st
theorem Sm.refl (st:SortSt):Sm st st:=⟨rfl,rfl,rfl,rfl⟩
def smg:Nat->StateT SortSt Sem Unit:=sortPriv% PySem.Builtin.setMinGallop
section
variable [SK] [ic prog w A E s] {st qO:SortSt}
theorem x9 (hc:c) (h:wpS (model prog w) A E s m Q st):
 wpS (model prog w) A E s (@ite _ c inst m n) Q st:=by rw [if_pos hc];exact h
theorem xp (hc:¬c) (h:wpS (model prog w) A E s n Q st):
 wpS (model prog w) A E s (@ite _ c inst m n) Q st:=by rw [if_neg hc];exact h
theorem Fg (hm:Sm qO st) (h:∀ag,Sm qO ag->Q () ag):wpS (model prog w) A E s (smg g) Q st:=
 wpS_modify (h _ ⟨hm.kind,hm.arr,hm.pend,hm.fail⟩)
theorem Tv (hk:kindOf st=SK.kind)
 (hI:∀p,p∈a.toList->eE p) (hs:a.toList.Pairwise le) (hq:eE key) (hi:i<a.size)
 (h:∀k,i+k<=a.size->(∀m,i<=m->m<i+k->eA l (N key) (Kk a m)=true)->(∀m,i+k<=m->m<a.size->eA l (N key) (Kk a m)=false)->Q (some k) st):
 wpS (model prog w) A E s (N_ l key a i (a.size-i) 0) Q st:=by
 refine Ff hk hI hq (by lia) (fun x y oB hy=>Ay hs (xS oB) (xR hy)) (Yi hi) fun k h1 h2 h3=>?_;refine h k (by lia) (fun m m1 m2=>?_) (fun m m1 m2=>?_)
 ·have:=h2 (m-i) (Kx m2 m1);rwa [show i+(m-i)=m by exact m_ m1] at this
 ·have:=h3 (m-i) (F_ m1) (by omega);rwa [show i+(m-i)=m by exact GC m1] at this
def SQ {β:Type} (Q I:β->SortSt->Prop):ForInStep β->SortSt->Prop
 | .done c,st=>Q c st
 | .yield c,st=>I c st
theorem B2 (I:Nat->β->SortSt->Prop)
 (lP:∀i c st,i<n->I i c st->wpS (model prog w) A E s (f i c) (SQ Q (I (i+1))) st)
 (nJ:∀c st,I n c st->Q c st) (h:I 0 c st):wpS (model prog w) A E s (forIn [:n] c f) Q st:=
 wpS_forRange I (fun i c st _ hi hI=>wpS_mono (lP i c st hi hI) fun r ag h'=>by cases r<;>exact h')
  (fun c st h'=>nJ c st (by rwa [Nat.max_eq_right (dP _)] at h')) h
theorem WJ (h:eA true k x=true):x<k:=by simpa [eA] using h
theorem OL (h:eA true k x=false):k<=x:=by simpa [eA] using h
theorem WI (h:eA false k x=true):x<=k:=by simpa [eA] using h
theorem by4 (h:eA false k x=false):k<x:=by simpa [eA] using h
theorem oZ (h1:c->wpS (model prog w) A E s m Q st)
 (h2:¬c->wpS (model prog w) A E s n Q st):wpS (model prog w) A E s (@ite _ c inst m n) Q st:=by
 by_cases h:c
 ·exact x9 h (h1 h)
 ·exact xp h (h2 h)
theorem kZ {α:Type} {x y:Nat} {inst:Decidable ((x==y)=true)} {m n:StateT SortSt Sem α} {Q:α->SortSt->Prop} (h1:x=y->wpS (model prog w) A E s m Q st)
 (h2:¬x=y->wpS (model prog w) A E s n Q st):wpS (model prog w) A E s (@ite _ ((x==y)=true) inst m n) Q st:=
 oZ (fun h=>h1 (beq_iff_eq.mp h)) fun h=>h2 fun e=>h (beq_iff_eq.mpr e)
theorem sN (hI:∀p,p∈a.toList->eE p) (hi:i<a.size)
 (h:∀p,a[i]?=some p->eE p->Kk a i=N p->wpS (model prog w) A E s (f p) Q st):wpS (model prog w) A E s (elem' a i>>=f) Q st:=by
 obtain ⟨p,e,h1,h2⟩:=sL hI hi;exact wpS_bind (ou e (h p e h1 h2))
theorem Qk (hk:kindOf st=SK.kind) (hy:eE y) (hz:eE z)
 (h1:N y<=N z->wpS (model prog w) A E s (f (some true)) Q st) (h2:N z<=N y->wpS (model prog w) A E s (f (some false)) Q st):
 wpS (model prog w) A E s (lt' y z>>=f) Q st:=by
 refine wpS_bind (EY hk hy hz ?_)
 by_cases h:N y<N z
 ·rw [jZ h];exact h1 (eR h)
 ·rw [gA h];exact h2 (Int.not_lt.mp h)
theorem xH (sb:b.toList.Pairwise le) (h:N p<=Kk b j) (q:Keyed) (hq:q∈b.toList.drop j):le p q:=by obtain ⟨m,m1,m2,m3⟩:=Q3 hq;unfold le;rw [<-m3];exact oU h (Ay sb m1 m2)
theorem QZ (sb:b.toList.Pairwise le) (e:Kk b j=N y) (h:∀m,i<=m->m<i+k->Kk a m<=N y)
 (p:Keyed) (hp:p∈(a.extract i (i+k)).toList) (q:Keyed) (hq:q∈b.toList.drop j):le p q:=by
 obtain ⟨m,m1,m2,_,m4⟩:=Kb hp;exact xH sb (by rw [e,<-m4];exact h m m1 m2) q hq
section
def LQ (F:R->SortSt->Prop) (L I:T1->T2->T3->SortSt->Prop) (c:ForInStep (Option R×T1×T2×T3×γ)) (st:SortSt):Prop:=
 ForInStep.casesOn (motive:=fun _=>Prop) c (fun c=>(∃r,c.1=some r/\F r st)\/∃x y z e,c=(none,x,y,z,e)/\L x y z st)
  fun c=>∃x y z e,c=(none,x,y,z,e)/\I x y z st
theorem LQ.ret (h:F r st):LQ F L I (.done (some r,g)) st:=.inl ⟨r,rfl,h⟩
theorem LQ.brk {x y z} (h:L x y z st):LQ F L I (.done (none,x,y,z,e)) st:=.inr ⟨x,y,z,e,rfl,h⟩
theorem LQ.go {x y z} (h:I x y z st):LQ F L I (.yield (none,x,y,z,e)) st:=⟨x,y,z,e,rfl,h⟩
theorem Ak {n:Nat} {f:Nat->Option R×T1×T2×T3×γ->StateT SortSt Sem (ForInStep (Option R×T1×T2×T3×γ))}
 {k:Option R×T1×T2×T3×γ->StateT SortSt Sem α} {Q:α->SortSt->Prop} (I:Nat->T1->T2->T3->SortSt->Prop) (L:T1->T2->T3->SortSt->Prop)
 (lP:∀i x y z e st,I i x y z st->wpS (model prog w) A E s (f i (none,x,y,z,e)) (LQ F L (I (i+1))) st)
 (nJ:∀x y z st,I n x y z st->L x y z st) {x y z e} (h0:I 0 x y z st) (hF:∀r g ag,F r ag->wpS (model prog w) A E s (k (some r,g)) Q ag)
 (hL:∀x y z e ag,L x y z ag->wpS (model prog w) A E s (k (none,x,y,z,e)) Q ag):wpS (model prog w) A E s (forIn [:n] (none,x,y,z,e) f>>=k) Q st:=by
 refine wpS_bind (wpS_mono (B2 (Q:=fun c st=>LQ F L L (.done c) st) (fun i c st=>∃x y z e,c=(none,x,y,z,e)/\I i x y z st) ?_ ?_ ⟨x,y,z,e,rfl,h0⟩) ?_)
 ·rintro i c st _ ⟨x,y,z,e,rfl,h⟩;exact wpS_mono (lP i x y z e st h) fun c ag h=>by cases c<;>exact h
 ·rintro c st ⟨x,y,z,e,rfl,h⟩;exact .inr ⟨x,y,z,e,rfl,nJ x y z st h⟩
 ·rintro ⟨c,d⟩ st (⟨r,rfl,h⟩ | ⟨x,y,z,e,q,h⟩)
  ·exact hF r d st h
  ·exact q▸hL x y z e st h
end
theorem zCt {Q:Array Keyed->SortSt->Prop} {W:List Keyed} (hW:W=a.toList++b.toList) (hk:kindOf st=SK.kind)
 (ha:∀p,p∈a.toList->eE p) (hb:∀p,p∈b.toList->eE p) (sa:a.toList.Pairwise le) (sb:b.toList.Pairwise le)
 (na:0<a.size) (nb:0<b.size) (h0:Kk b 0<=Kk a 0) (hl:Kk b (b.size-1)<=Kk a (a.size-1))
 (h:∀r ag,Sm st ag->Out le W r.toList->Q r ag):wpS (model prog w) A E s (mlo a b) Q st:=by
 have gn:∀{i j:Nat},i+1=a.size->∀p∈b.toList.drop j,∀q∈a.toList.drop i,le p q:=by intro i j hi p hp;obtain ⟨x,_,x2,x3⟩:=Q3 hp;refine xH sa ?_;rw [<-x3,show i=a.size-1 by lia];exact oU (Ay sb (KH x2) (RL nb)) hl
 let J:Array Keyed->Nat->Nat->SortSt->Prop:=fun out ia ib ag=>Fv W a b out ia ib/\ia+1<a.size/\ib<b.size/\Sm st ag
 let F:Array Keyed->SortSt->Prop:=fun r ag=>Out le W r.toList/\Sm st ag
 refine wpS_bind (wpS_lift (wpAny_rule ⟨rfl,sN hb nb fun y0 e0 _ k0=>?_⟩));have jA:Fv W a b #[y0] 0 1:=by have:Fv W a b #[] 0 0:=⟨by simp [hW],List.Pairwise.nil,sa,sb,by simp,by simp⟩;exact this.pk e0 (xH sa (k0▸h0))
 refine kZ (fun c1=>wpS_pure (h _ _ (Sm.refl st) (jA.j7 (.inr c1)))) fun c1=>kZ (fun c2=>wpS_pure (h _ _ (Sm.refl st) (jA.kU (gn c2)))) fun c2=>wpS_bind (wpS_get
  (Ak (F:=F) (fun x out ia ib ag=>J out ia ib ag/\x<=ia+ib) (fun _ _ _ _=>False) ?outer
   (fun ia ib out ag q=>by obtain ⟨⟨_,j2,j3,_⟩,hx⟩:=q;lia) ⟨⟨jA,Al na c2,by lia,Sm.refl st⟩,dP _⟩ (fun r _ ag hF=>wpS_pure (h r ag hF.2 hF.1)) fun _ _ _ _ _ z=>z.elim))
 intro x _ p0 q0 mg ag hJ;have hx:=hJ.2
 let L:Array Keyed->Nat->Nat->SortSt->Prop:=fun out ia ib ag=>J out ia ib ag/\x+1<=ia+ib
 refine Ak (F:=F) (fun x out ia ib ag=>J out ia ib ag/\p0+q0+x<=ia+ib) L ?one
  (fun ia ib out ag q=>⟨q.1,by have:=q.2;omega⟩) ⟨hJ.1,av _⟩ (fun r _ ag hF=>wpS_pure (LQ.ret hF)) ?two
 case one=>
  intro x' out ia ib e ag q;refine sN hb q.1.2.2.1 fun y ey iy ky=>sN ha (aS q.1.2.1) fun z ez iz kz=>Qk (q.1.2.2.2.kind.trans hk) iy iz
   (fun aF=>wpS_bind (ou ey ?_)) (fun aF=>wpS_bind (ou ez ?_))
  ·have rD:=q.1.1.pk ey (xH sa (kz.symm▸aF));refine kZ (fun c3=>wpS_pure (LQ.ret ⟨rD.j7 (.inr c3),q.1.2.2.2⟩)) fun c3=>?_;have jj:J (out.push y) ia (ib+1) ag:=⟨rD,q.1.2.1,by have:=q.1.2.2.1;exact Al q.1.2.2.1 c3,q.1.2.2.2⟩;have:=q.2;exact oZ (fun _=>wpS_pure (LQ.brk ⟨jj,by lia⟩)) fun _=>wpS_pure (LQ.go ⟨jj,by lia⟩)
  ·have rD:=q.1.1.pq ez (xH sb (ky.symm▸aF));refine kZ (fun c3=>wpS_pure (LQ.ret ⟨rD.kU (gn c3),q.1.2.2.2⟩)) fun c3=>?_;have jj:J (out.push z) (ia+1) ib ag:=⟨rD,by have:=q.1.2.1;exact Al q.1.2.1 c3,q.1.2.2.1,q.1.2.2.2⟩;have:=q.2;exact oZ (fun _=>wpS_pure (LQ.brk ⟨jj,by lia⟩)) fun _=>wpS_pure (LQ.go ⟨jj,by lia⟩)
 case two=>
  intro out ia ib e aZ q;refine wpS_bind (wpS_lift (wpAny_rule ⟨rfl,Ak (F:=F) (fun _=>L) L ?_
   (fun _ _ _ _ q=>q) q (fun r _ ag hF=>wpS_pure (LQ.ret hF)) fun out ia ib e cm q=>wpS_bind (Fg q.1.2.2.2 fun cz j4=>wpS_pure (LQ.go ⟨⟨q.1.1,q.1.2.1,q.1.2.2.1,j4⟩,q.2⟩))⟩))
  intro x' out ia ib e cm q
  extract_lets-underBinder+onlyGivenNames _ uJ _ ia1 _ ib1 _ mg1 _ ac1 bc1 jp
  have oF:∀(u:Unit) (g:Nat),wpS (model prog w) A E s (jp u g) (LQ F L L) cm:=by
   intro _ g;refine wpS_bind (Fg q.1.2.2.2 fun cz j4=>sN hb q.1.2.2.1 fun y ey iy ky=>wpS_bind (Tv (j4.kind.trans hk) ha sa iy (i:=ia) (aS q.1.2.1) fun k g1 g2 g3=>?_));dsimp-zeta only
   extract_lets-underBinder+onlyGivenNames ac2 yS
   have pE:=q.1.1.yy g1 (QZ sb ky fun m m1 m2=>WI (g2 m m1 m2));have jz:∀(u:Unit) (out:Array Keyed) (i:Nat),Fv W a b out i ib->i+1<a.size->ia<=i->N y<=Kk a i->wpS (model prog w) A E s (yS u out i) (LQ F L L) cz:=by
    intro _ out i f1 f2 f3 f4;refine wpS_bind (ou ey ?_);have f5:=f1.pk ey (xH sa f4);refine kZ (fun c3=>wpS_pure (LQ.ret ⟨f5.j7 (.inr c3),j4⟩)) fun c3=>sN ha (aS f2) fun z ez iz kz=>
     wpS_bind (Tv (j4.kind.trans hk) hb sb iz (i:=ib+1) (by have:=q.1.2.2.1;exact Al q.1.2.2.1 c3) fun k' z9 O3 O2=>?_)
    dsimp-zeta only
    extract_lets-underBinder+onlyGivenNames bc2 Mb
    have jS:=f5.yx z9 (QZ sa kz fun m m1 m2=>eR (WJ (O3 m m1 m2)));have rQ:∀(u:Unit) (out:Array Keyed) (j:Nat),Fv W a b out i j->j<b.size->ib+1<=j->N z<=Kk b j->wpS (model prog w) A E s (Mb u out j) (LQ F L L) cz:=by intro _ out j d1 d2 d3 d4;refine wpS_bind (ou ez ?_);have d5:=d1.pq ez (xH sb d4);refine kZ (fun c3=>wpS_pure (LQ.ret ⟨d5.kU (gn c3),j4⟩)) fun c3=>?_;have jj:L (out.push z) (i+1) j cz:=⟨⟨d5,Al f2 c3,d2,j4⟩,by have:=q.2;lia⟩;exact oZ (fun _=>wpS_pure (LQ.brk jj)) fun _=>wpS_pure (LQ.go jj)
    have gg:=O2 (ib+1+k') (av _);refine oZ (fun c4=>kZ (fun c5=>wpS_pure (LQ.ret ⟨jS.j7 (.inr c5),j4⟩)) fun c5=>?_) fun c4=>?_
    ·have:ib+1+k'<b.size:=BS z9 c5;exact rQ () _ (ib+1+k') jS this (pR ..) (OL (gg this))
    ·obtain rfl:k'=0:=Nat.eq_zero_of_not_pos c4;have:ib+1<b.size:=by have:=q.1.2.2.1;exact Al q.1.2.2.1 c3
     exact rQ () _ (ib+1) f5 this (av _) (OL (gg this))
   have gg:=g3 (ia+k) (av _);refine oZ (fun c4=>kZ (fun c5=>wpS_pure (LQ.ret ⟨pE.kU (gn c5),j4⟩)) fun c5=>kZ (fun c6=>wpS_pure (LQ.ret ⟨pE.j7 (.inl c6),j4⟩)) fun c6=>?_) fun c4=>?_
   ·have:ia+k+1<a.size:=by lia
    exact jz () _ (ia+k) pE this (pR ..) (eR (by4 (gg (Nat.lt_of_succ_lt this))))
   ·obtain rfl:k=0:=Nat.eq_zero_of_not_pos c4;exact jz () _ ia q.1.1 q.1.2.1 (av _) (eR (by4 (gg (Nat.lt_of_succ_lt q.1.2.1))))
  exact oZ (fun _=>oF () _) fun _=>oF () _
end
section
variable [SK] [ic prog w A E s] {st qO:SortSt}
theorem Tw (hk:kindOf st=SK.kind)
 (hI:∀p,p∈a.toList->eE p) (hs:a.toList.Pairwise le) (hq:eE key) (hn:n<=a.size) (h0:0<n)
 (h:∀k,k<=n->(∀m,m<k->eA l (N key) (Kk a m)=true)->(∀m,k<=m->m<n->eA l (N key) (Kk a m)=false)->Q (some k) st):
 wpS (model prog w) A E s (N_ l key a 0 n (n-1)) Q st:=by
 refine Ff hk hI hq (by lia) (fun x y oB hy=>Ay hs (xS oB) (by lia)) (RL h0) fun k h1 h2 h3=>?_;refine h k h1 (fun m m1=>?_) (fun m m1 m2=>?_)
 ·have:=h2 m m1;rwa [Nat.zero_add] at this
 ·have:=h3 m m1 m2;rwa [Nat.zero_add] at this
theorem Bz (sb:b.toList.Pairwise le) (hj:j<b.size) (h:Kk b j<=N p) (q:Keyed) (hq:q∈b.toList.take (j+1)):ge p q:=by obtain ⟨m,m1,_,m3⟩:=Ke hq;unfold ge;rw [<-m3];exact oU (Ay sb (Nat.le_of_lt_succ m1) hj) h
theorem Q_ (sb:b.toList.Pairwise le) (hj:j<b.size) (e:Kk b j=N y) (h:∀m,i<=m->m<k->N y<=Kk a m)
 (p:Keyed) (hp:p∈(a.extract i k).toList) (q:Keyed) (hq:q∈b.toList.take (j+1)):ge p q:=by
 obtain ⟨m,m1,m2,_,m4⟩:=Kb hp;exact Bz sb hj (by rw [e,<-m4];exact h m m1 m2) q hq
theorem Qw (h:∀m,m<j->Kk b m<=N p) (q:Keyed) (hq:q∈b.toList.take j):ge p q:=by obtain ⟨m,m1,_,m3⟩:=Ke hq;unfold ge;rw [<-m3];exact h m m1
theorem zCu (hW:W=a.toList++b.toList) (hk:kindOf st=SK.kind)
 (ha:∀p,p∈a.toList->eE p) (hb:∀p,p∈b.toList->eE p) (sa:a.toList.Pairwise le) (sb:b.toList.Pairwise le)
 (pa:0<a.size) (pb:0<b.size) (h0:Kk b 0<=Kk a 0) (hl:Kk b (b.size-1)<=Kk a (a.size-1))
 (h:∀r ag,Sm st ag->Out le W r.toList->Q r ag):wpS (model prog w) A E s (mhi a b) Q st:=by
 have kO:∀{i j:Nat},j=1->∀p∈a.toList.take i,∀q∈b.toList.take j,ge p q:=by rintro i _ rfl p hp;obtain ⟨x,_,x2,x3⟩:=Ke hp;exact Bz sb pb (x3▸oU h0 (Ay sa (dP _) x2))
 let J:Array Keyed->Nat->Nat->SortSt->Prop:=fun out na nb ag=>Bv W a b out na nb/\(0<na/\na<=a.size)/\(1<nb/\nb<=b.size)/\Sm st ag
 let F:Array Keyed->SortSt->Prop:=fun r ag=>Out le W r.toList/\Sm st ag
 refine wpS_bind (wpS_lift (wpAny_rule ⟨rfl,sN ha (Nat.sub_lt pa Nat.zero_lt_one) fun y0 e0 _ k0=>?_⟩));have jA:Bv W a b #[y0] (a.size-1) b.size:=by
  have:Bv W a b #[] (a.size-1+1) (b.size-1+1):=by rw [Nat.sub_add_cancel pa,Nat.sub_add_cancel pb];unfold Bv;rw [List.take_of_length_le (by simp),List.take_of_length_le (by simp)];refine ⟨?_,List.Pairwise.nil,List.pairwise_reverse.mpr sa,List.pairwise_reverse.mpr sb,by simp,by simp⟩;rw [hW];exact (List.reverse_perm _).append (List.reverse_perm _)
  exact Nat.sub_add_cancel pb▸this.pq e0 (Bz sb (Nat.sub_lt pb Nat.zero_lt_one) (k0▸hl))
 refine kZ (fun c1=>wpS_pure (h _ _ (Sm.refl st) (jA.j7 (.inl c1)))) fun c1=>kZ (fun c2=>wpS_pure (h _ _ (Sm.refl st) (jA.kU (kO c2)))) fun c2=>wpS_bind (wpS_get
  (Ak (F:=F) (fun x na nb out ag=>J out na nb ag/\na+nb+x<=a.size+b.size) (fun _ _ _ _=>False) ?outer
   (fun na nb out ag q=>by have:=q.1.2.1.1;have:=q.2;lia) ⟨⟨jA,⟨Nat.pos_of_ne_zero c1,Nat.sub_le ..⟩,⟨by lia,av _⟩,Sm.refl st⟩,Nat.add_le_add_right (Nat.sub_le ..) _⟩
   (fun r _ ag hF=>wpS_pure (h r ag hF.2 hF.1)) fun _ _ _ _ _ z=>z.elim))
 intro x p0 q0 _ mg ag hJ;have hx:=hJ.2
 let L:Nat->Nat->Array Keyed->SortSt->Prop:=fun na nb out ag=>J out na nb ag/\na+nb+(x+1)<=a.size+b.size
 refine Ak (F:=F) (fun x' na nb out ag=>J out na nb ag/\na+nb+x'<=p0+q0) L ?one
  (fun na nb out ag q=>⟨q.1,by have:=q.2;lia⟩) ⟨hJ.1,av _⟩ (fun r _ ag hF=>wpS_pure (LQ.ret hF)) ?two
 case one=>
  intro x' na nb out e ag q;have ea:na-1+1=na:=Nat.sub_add_cancel q.1.2.1.1;have eb:=Nat.sub_add_cancel (aS q.1.2.2.1.1);have la:na-1<a.size:=dq (Nat.le_of_eq ea) q.1.2.1.2;have lb:nb-1<b.size:=dq (Nat.le_of_eq eb) q.1.2.2.1.2;have q2:=q.2;refine sN hb lb fun y ey iy ky=>sN ha la fun z ez iz kz=>Qk (q.1.2.2.2.kind.trans hk) iy iz
   (fun aF=>wpS_bind (ou ez ?_)) (fun aF=>wpS_bind (ou ey ?_))
  ·have rD:Bv W a b (out.push z) (na-1) nb:=Bv.pq (ea.symm▸q.1.1) ez (eb▸Bz sb lb (ky.symm▸aF));refine kZ (fun c3=>wpS_pure (LQ.ret ⟨rD.j7 (.inl c3),q.1.2.2.2⟩)) fun c3=>?_;have jj:J (out.push z) (na-1) nb ag:=⟨rD,⟨Nat.pos_of_ne_zero c3,aS la⟩,q.1.2.2⟩;exact oZ (fun _=>wpS_pure (LQ.brk ⟨jj,by lia⟩)) fun _=>wpS_pure (LQ.go ⟨jj,by lia⟩)
  ·have rD:Bv W a b (out.push y) na (nb-1):=Bv.pk (eb.symm▸q.1.1) ey (ea▸Bz sa la (kz.symm▸aF));refine kZ (fun c3=>wpS_pure (LQ.ret ⟨rD.kU (kO c3),q.1.2.2.2⟩)) fun c3=>?_;have jj:J (out.push y) na (nb-1) ag:=⟨rD,q.1.2.1,⟨by have:=q.1.2.2.1.1;exact RK q.1.2.2.1.1 c3,aS lb⟩,q.1.2.2.2⟩;exact oZ (fun _=>wpS_pure (LQ.brk ⟨jj,by lia⟩)) fun _=>wpS_pure (LQ.go ⟨jj,by lia⟩)
 case two=>
  intro na nb out e aZ q;refine wpS_bind (wpS_lift (wpAny_rule ⟨rfl,Ak (F:=F) (fun _=>L) L ?_
   (fun _ _ _ _ q=>q) q (fun r _ ag hF=>wpS_pure (LQ.ret hF)) fun na nb out e cm q=>wpS_bind (Fg q.1.2.2.2 fun cz j4=>wpS_pure (LQ.go ⟨⟨q.1.1,q.1.2.1,q.1.2.2.1,j4⟩,q.2⟩))⟩))
  intro x' na nb out e cm q;have eb:=Nat.sub_add_cancel (aS q.1.2.2.1.1);have lb:nb-1<b.size:=dq (Nat.le_of_eq eb) q.1.2.2.1.2;have NH:=q.1.2.2.1.1;have q2:=q.2
  extract_lets-underBinder+onlyGivenNames _ na1 _ nb1 _ uJ _ mg1 _ ac1 bc1 jp
  have oF:∀(u:Unit) (g:Nat),wpS (model prog w) A E s (jp u g) (LQ F L L) cm:=by
   intro _ g;refine wpS_bind (Fg q.1.2.2.2 fun cz j4=>sN hb lb fun y ey iy ky=>wpS_bind (Tw (j4.kind.trans hk) ha sa iy (n:=na) q.1.2.1.2 q.1.2.1.1 fun k g1 g2 g3=>?_));dsimp-zeta only
   extract_lets-underBinder+onlyGivenNames kk ac2 yS
   have pE:=q.1.1.yy g1 (eb▸Q_ sb lb ky fun m m1 m2=>eR (by4 (g3 m m1 m2)));have jz:∀(u:Unit) (i:Nat) (out:Array Keyed),Bv W a b out i nb->0<i->i<=na->(∀m,m<i->Kk a m<=N y)->wpS (model prog w) A E s (yS u i out) (LQ F L L) cz:=by
    intro _ i out f1 f2 f3 f4;have ei:i-1+1=i:=Nat.sub_add_cancel f2;have li:i-1<a.size:=dq (Nat.le_of_eq ei) (dq f3 q.1.2.1.2);refine wpS_bind (ou ey ?_);have f5:Bv W a b (out.push y) i (nb-1):=Bv.pk (eb.symm▸f1) ey (Qw f4);refine kZ (fun c3=>wpS_pure (LQ.ret ⟨f5.kU (kO c3),j4⟩)) fun c3=>sN ha li fun z ez iz kz=>
     wpS_bind (Tw (j4.kind.trans hk) hb sb iz (n:=nb-1) (aS lb) (Nat.sub_pos_of_lt NH) fun k' z9 O3 O2=>?_)
    dsimp-zeta only
    extract_lets-underBinder+onlyGivenNames LZ bc2 Mb
    have jS:=f5.yx z9 (ei▸Q_ sa li kz fun m m1 m2=>OL (O2 m m1 m2));have rQ:∀(u:Unit) (j:Nat) (out:Array Keyed),Bv W a b out i j->1<j->j<=nb-1->(∀m,m<j->Kk b m<=N z)->wpS (model prog w) A E s (Mb u j out) (LQ F L L) cz:=by intro _ j out d1 d2 d3 d4;refine wpS_bind (ou ez ?_);have d5:Bv W a b (out.push z) (i-1) j:=Bv.pq (ei.symm▸d1) ez (Qw d4);refine kZ (fun c3=>wpS_pure (LQ.ret ⟨d5.j7 (.inl c3),j4⟩)) fun c3=>?_;have jj:L (i-1) j (out.push z) cz:=⟨⟨d5,⟨Nat.pos_of_ne_zero c3,aS li⟩,⟨d2,dq d3 (aS lb)⟩,j4⟩,by lia⟩;exact oZ (fun _=>wpS_pure (LQ.brk jj)) fun _=>wpS_pure (LQ.go jj)
    have hz:∀m,m<k'->Kk b m<=N z:=fun m m1=>eR (WJ (O3 m m1));refine oZ (fun c4=>kZ (fun c5=>wpS_pure (LQ.ret ⟨jS.kU (kO c5),j4⟩)) fun c5=>kZ (fun c6=>wpS_pure (LQ.ret ⟨jS.j7 (.inr c6),j4⟩)) fun c6=>?_) fun c4=>?_
    ·exact rQ () k' _ jS (by lia) z9 hz
    ·obtain rfl:k'=nb-1:=RQ z9 c4;exact rQ () (nb-1) _ f5 (RK q.1.2.2.1.1 c3) (av _) hz
   have hy:∀m,m<k->Kk a m<=N y:=fun m m1=>WI (g2 m m1);refine oZ (fun c4=>kZ (fun c5=>wpS_pure (LQ.ret ⟨pE.j7 (.inl c5),j4⟩)) fun c5=>?_) fun c4=>?_
   ·exact jz () k _ pE (Nat.pos_of_ne_zero c5) g1 hy
   ·obtain rfl:k=na:=RQ g1 c4;exact jz () k _ q.1.1 q.1.2.1.1 (av _) hy
  exact oZ (fun _=>oF () _) fun _=>oF () _
end
section
variable [SK]
def fm (xs:Array Keyed) (a b:Nat):Prop:=∀i j,a<=i->i<=j->j<b->Kk xs i<=Kk xs j
theorem Sv (sa:Nat):∀(l:List Keyed) (n:Nat) (xs:Array Keyed),sa+n+l.length<=xs.size->
 ((l.zipIdx n).foldl (fun a (pj:Keyed×Nat)=>a.setIfInBounds (sa+pj.2) pj.1) xs).toList
   =xs.toList.take (sa+n)++(l++xs.toList.drop (sa+n+l.length))
 | [],n,xs,_=>by simp
 | p::t,n,xs,h=>by
  simp only [mf] at h;rw [List.zipIdx_cons,wY,Sv sa t (n+1) _ (by simp;lia)];simp only [Array.toList_setIfInBounds];rw [show sa+(n+1)=sa+n+1 by exact Eq.refl (sa+(n+1)),List.drop_set_of_lt (by lia),mf,
   show sa+n+1+t.length=sa+n+(t.length+1) by lia]
  have:(xs.toList.set (sa+n) p).take (sa+n+1)=xs.toList.take (sa+n)++[p]:=by rw [List.take_succ_eq_append_getElem (by simp;lia),List.take_set_of_le (av _)];simp
  rw [this];simp
section seg
variable {xs ys:Array Keyed}
theorem zE4 (h:ys.toList=xs.toList.take a++(M++xs.toList.drop (a+M.length))) (hs:a+M.length<=xs.size):
 (∀m,m<a\/a+M.length<=m->Kk ys m=Kk xs m)/\∀m,(hm:m<M.length)->Kk ys (a+m)=N M[m]:=by
 have hl:(xs.toList.take a).length=a:=by simp;lia
 refine ⟨fun m hm=>?_,fun m hm=>?_⟩
 ·refine xC ?_;rw [<-Array.getElem?_toList,<-Array.getElem?_toList,h];rcases hm with hm | hm
  ·rw [me (BR hm hl),List.getElem?_take_of_lt hm]
  ·rw [mC (by lia),hl,mC (F_ hm),List.getElem?_drop];congr 1;lia
 ·refine ui ?_;rw [<-Array.getElem?_toList,h,mC (by lia),hl,Nat.add_sub_cancel_left,me hm,lz hm]
theorem XA (h:ys.toList=xs.toList.take a++(M++xs.toList.drop (a+M.length))) (hM:M.Perm (xs.extract a b).toList) (hb:b<=xs.size) (lr:a<=b):ys.Perm xs:=by
 have hl:M.length=b-a:=by rw [hM.length_eq];simp;lia
 refine Array.perm_iff_toList_perm.mpr ?_;rw [h];have e:xs.toList=xs.toList.take a++((xs.extract a b).toList++xs.toList.drop (a+M.length)):=by
  conv=>lhs;rw [<-List.take_append_drop a xs.toList]
  congr 1;have:=Am (a:=xs) (i:=a) (k:=b-a) (GH lr hb);rw [show a+(b-a)=b by exact m_ lr] at this;rw [this,show a+M.length=b by lia]
 conv=>rhs;rw [e]
 exact (hM.append_right _).append_left _
end seg
structure Bs (a₀:Array Keyed) (st:SortSt):Prop where
 perm:(arrOf st).Perm a₀
 kind:kindOf st=SK.kind
 fail:failedOf st=none
theorem Bs.size {a₀:Array Keyed} {st:SortSt} (h:Bs a₀ st):(arrOf st).size=a₀.size:=h.perm.size_eq
theorem Bs.nums {a₀:Array Keyed} {st:SortSt} (h:Bs a₀ st) (h0:∀p,p∈a₀.toList->eE p):∀p,p∈(arrOf st).toList->eE p:=
 fun p hp=>h0 p ((Array.perm_iff_toList_perm.mp h.perm).mem_iff.mp hp)
theorem Q6 (hs:fm xs a b) (hb:b<=xs.size):(xs.extract a b).toList.Pairwise le:=by rw [DY];intro i j hi hj dz;simp only [sr,Array.size_extract] at hi hj;simp only [Array.getElem_toList,Array.getElem_extract];have:=hs (a+i) (a+j) jQ (by lia) (Rk hj);rw [ui (getElem?_pos xs (a+i) (FZ hi)),ui (getElem?_pos xs (a+j) (FZ hj))] at this;exact this
theorem EI (hm:a+m<b) (_hb:b<=xs.size):Kk (xs.extract a b) m=Kk xs (a+m):=by refine xC ?_;rw [Array.getElem?_extract,if_pos (by lia)]
end
section
variable [SK] [ic prog w A E s] {st:SortSt}
theorem zAp (h:Q ⟨⟩ ag):wpS (model prog w) A E s (set ag:StateT SortSt Sem PUnit) Q st:=by unfold wpS;rw [StateT.run_set];exact aW ⟨rfl,h⟩
theorem zCv (h0:∀p,p∈a₀.toList->eE p) (hB:Bs a₀ st)
 (hp:pendingOf st=(L++(sa,na,p)::(sb,nb,p')::T).toArray) (hi:i=L.length) (vv:sb=sa+na) (CV:1<=na) (hnb:1<=nb)
 (hsz:sb+nb<=a₀.size) (s1:fm (arrOf st) sa sb) (s2:fm (arrOf st) sb (sb+nb))
 (h:∀ag,Bs a₀ ag->pendingOf ag=(L++(sa,na+nb,p)::T).toArray->fm (arrOf ag) sa (sb+nb)->
  (∀m,m<sa\/sb+nb<=m->Kk (arrOf ag) m=Kk (arrOf st) m)->Q true ag):
 wpS (model prog w) A E s (mergeAt' i) Q st:=by
 subst hi;have hI:=hB.nums h0;have gU:=hB.size;refine wpS_bind (wpS_get ?_);have g1:(pendingOf st)[L.length]?=some (sa,na,p):=by rw [hp];simp
 have g2:(pendingOf st)[L.length+1]?=some (sb,nb,p'):=by rw [hp];simp
 have g3:((pendingOf st).setIfInBounds L.length (sa,na+nb,p)).eraseIdxIfInBounds (L.length+1)=(L++(sa,na+nb,p)::T).toArray:=by rw [hp];apply Array.toList_inj.mp;simp [List.eraseIdx_append_of_length_le]
 refine (show ((pendingOf st)[L.length]?,(pendingOf st)[L.length+1]?)=(some (sa,na,p),some (sb,nb,p')) by rw [g1,g2]).symm▸?_;refine wpS_bind (zAp (g3.symm▸?_));refine (fun (H:∀gF:SortSt,gF=SortSt.mk' (kindOf st) (arrOf st) ((L++(sa,na+nb,p)::T).toArray) (gallopOf st) (failedOf st)->
  wpS (model prog w) A E s _ Q gF)=>H _ rfl) ?_
 intro gF e1;have b1:Bs a₀ gF:=by rw [e1];exact ⟨hB.perm,hB.kind,hB.fail⟩
 have x1:arrOf gF=arrOf st:=by rw [e1]
 have p1:pendingOf gF=(L++(sa,na+nb,p)::T).toArray:=by rw [e1]
 have keep:fm (arrOf st) sa (sb+nb)->Q true gF:=fun hs=>h gF b1 p1 (by rw [x1];exact hs) (fun m _=>by rw [x1]);clear e1;obtain ⟨y,ey,iy,ky⟩:=sL hI (i:=sb) (by lia);refine wpS_bind (ou ey (wpS_bind (Ff (a:=arrOf st) b1.kind hI iy (n:=na) (by lia) (fun i j dz hj=>s1 _ _ jQ (xS dz) (by lia)) (by exact CV)
  fun k k1 k2 k3=>?_)))
 have AB:∀m,sa<=m->m<sa+k->Kk (arrOf st) m<=Kk (arrOf st) sb:=fun m m1 m2=>by have:=k2 (m-sa) (Kx m2 m1);rw [show sa+(m-sa)=m by exact m_ m1] at this;rw [ky];simpa [eA] using this
 have VA:∀m,sa+k<=m->m<sb->Kk (arrOf st) sb<Kk (arrOf st) m:=fun m m1 m2=>by have:=k3 (m-sa) (F_ m1) (by lia);rw [show sa+(m-sa)=m by exact GC m1] at this;rw [ky];simpa [eA] using this
 dsimp-zeta only
 by_cases c1:na-k=0
 ·refine x9 (c:=(na-k==0)=true) (by simpa using c1) ?_;refine wpS_pure (keep fun i j h1 h2 h3=>?_)
  by_cases hj:j<sb
  ·exact s1 i j h1 h2 hj
  by_cases hi:sb<=i
  ·exact s2 i j hi h2 h3
  exact oU (AB i h1 (by lia)) (s2 sb j (av _) (lA hj) h3)
 refine xp (c:=(na-k==0)=true) (by simpa using c1) ?_;obtain ⟨z,ez,iz,kz⟩:=sL hI (i:=sa+k+(na-k)-1) (by lia);have Wx:sa+k+(na-k)-1=sb-1:=by lia
 refine wpS_bind (ou ez (wpS_bind (Ff (a:=arrOf st) b1.kind hI iz (b:=sb) (n:=nb) (by lia) (fun i j dz hj=>s2 _ _ jQ (xS dz) (tw hj)) (Kt hnb)
  fun jC q1 q2 q3=>?_)))
 rw [Wx] at kz;have Vo:∀m,sb<=m->m<sb+jC->Kk (arrOf st) m<Kk (arrOf st) (sb-1):=fun m m1 m2=>by have:=q2 (m-sb) (Kx m2 m1);rw [show sb+(m-sb)=m by exact m_ m1] at this;rw [kz];simpa [eA] using this
 have Vn:∀m,sb+jC<=m->m<sb+nb->Kk (arrOf st) (sb-1)<=Kk (arrOf st) m:=fun m m1 m2=>by have:=q3 (m-sb) (F_ m1) (by lia);rw [show sb+(m-sb)=m by exact GC m1] at this;rw [kz];simpa [eA] using this
 dsimp-zeta only
 by_cases c2:jC=0
 ·refine x9 (c:=(jC==0)=true) (by simpa using c2) ?_;refine wpS_pure (keep fun i j h1 h2 h3=>?_)
  by_cases hj:j<sb
  ·exact s1 i j h1 h2 hj
  by_cases hi:sb<=i
  ·exact s2 i j hi h2 h3
  exact oU (s1 i (sb-1) h1 (by lia) (Rf CV vv)) (Vn j (by lia) h3)
 refine xp (c:=(jC==0)=true) (by simpa using c2) ?_
 extract_lets-underBinder+onlyGivenNames x y' jp
 have szx:x.size=na-k:=by show ((arrOf st).extract (sa+k) sb).size=_;rw [Array.size_extract];lia
 have szy:y'.size=jC:=by show ((arrOf st).extract sb (sb+jC)).size=_;rw [Array.size_extract];lia
 have hx:∀q,q∈x.toList->eE q:=fun q hq=>hI q (by
  have:q∈((arrOf st).extract (sa+k) sb).toList:=hq;rw [Array.toList_extract,AZ] at this;exact List.mem_of_mem_drop (List.mem_of_mem_take this))
 have hy:∀q,q∈y'.toList->eE q:=fun q hq=>hI q (by
  have:q∈((arrOf st).extract sb (sb+jC)).toList:=hq;rw [Array.toList_extract,AZ] at this;exact List.mem_of_mem_drop (List.mem_of_mem_take this))
 have ox:x.toList.Pairwise le:=Q6 (xs:=arrOf st) (fun i j h1 h2 h3=>s1 i j (by lia) h2 h3) (KG hsz gU);have oy:y'.toList.Pairwise le:=Q6 (xs:=arrOf st) (fun i j h1 h2 h3=>s2 i j h1 h2 (by lia)) (BP hsz gU q1);have hf:Kk y' 0<=Kk x 0:=by show Kk ((arrOf st).extract sb (sb+jC)) 0<=Kk ((arrOf st).extract (sa+k) sb) 0;rw [EI (by lia) (BP hsz gU q1),EI (by lia) (KG hsz gU)];exact eR (VA _ (by exact f7) (by lia))
 have hl:Kk y' (y'.size-1)<=Kk x (x.size-1):=by rw [szx,szy];show Kk ((arrOf st).extract sb (sb+jC)) _<=Kk ((arrOf st).extract (sa+k) sb) _;rw [EI (by lia) (BP hsz gU q1),EI (by lia) (KG hsz gU),show sa+k+(na-k-1)=sb-1 by exact Yr Wx c1];exact eR (Vo _ jQ (by lia))
 have hW:x.toList++y'.toList=((arrOf st).extract (sa+k) (sb+jC)).toList:=by have e1:=Am (a:=(arrOf st)) (i:=sa+k) (k:=na-k) (by omega);have e2:=Am (a:=(arrOf st)) (i:=sb) (k:=jC) (BP hsz gU q1);have e3:=Am (a:=(arrOf st)) (i:=sa+k) (k:=na-k+jC) (by omega);rw [show sa+k+(na-k)=sb by omega] at e1;rw [show sa+k+(na-k+jC)=sb+jC by omega] at e3;rw [e2] at e1;rw [e3,<-wZ] at e1;exact (List.append_cancel_right e1).symm
 have oF:∀r aZ,Sm gF aZ->Out le (x.toList++y'.toList) r.toList->wpS (model prog w) A E s (jp r) Q aZ:=by
  intro r aZ hm hO;rw [hW] at hO;have rl:r.toList.length=na-k+jC:=by rw [hO.1.length_eq];simp;lia
  refine wpS_bind (wpS_modify (wpS_bind (wpS_get (wpS_pure ?_))));have hY:=Sv (sa+k) r.toList 0 (arrOf aZ) (by rw [hm.arr,x1];omega);rw [hm.arr,x1,Nat.add_zero] at hY;have zy:=zE4 hY (by omega);have hP:=XA hY hO.1 (BP hsz gU q1) (by lia);have eF:∀m,sa+k<=m->m<sb+jC->∀v,v=Kk (List.foldl (fun a (pj:Keyed×Nat)=>a.setIfInBounds (sa+k+pj.2) pj.1) (arrOf st) (r.toList.zipIdx 0)) m->Kk (arrOf st) sb<=v/\v<=Kk (arrOf st) (sb-1):=by
   rintro m m1 m2 v rfl;have:=zy.2 (m-(sa+k)) (by omega);rw [show sa+k+(m-(sa+k))=m by exact m_ m1] at this;rw [this];obtain ⟨m',n1,n2,_,n4⟩:=Kb (hO.1.mem_iff.mp (zL (l:=r.toList) (n:=m-(sa+k)) (RO m2 vv rl c1)));rw [<-n4]
   by_cases hc:m'<sb
   ·exact ⟨eR (VA m' n1 hc),s1 _ _ (by lia) (KH hc) (Rf CV vv)⟩
   ·exact ⟨s2 _ _ (by exact f7) (lA hc) (by lia),eR (Vo m' (lA hc) n2)⟩
  have Dp:(failedOf aZ).isNone=true:=by rw [hm.fail,b1.fail];rfl
  have wL:List.foldl (fun a x=>match x with | (p,j)=>a.setIfInBounds (sa+k+j) p) (arrOf aZ) r.toList.zipIdx
   =List.foldl (fun a (pj:Keyed×Nat)=>a.setIfInBounds (sa+k+pj.2) pj.1) (arrOf st) (r.toList.zipIdx 0):=by rw [hm.arr,x1]
  generalize List.foldl (fun a (pj:Keyed×Nat)=>a.setIfInBounds (sa+k+pj.2) pj.1) (arrOf st) (r.toList.zipIdx 0)=Y at wL hY zy hP eF;refine (show Q (failedOf aZ).isNone (SortSt.mk' (kindOf aZ) (List.foldl (fun a x=>match x with | (p,j)=>a.setIfInBounds (sa+k+j) p) (arrOf aZ) r.toList.zipIdx) (pendingOf aZ) (gallopOf aZ) (failedOf aZ)) from ?_);rw [wL,Dp];refine h _ ⟨hP.trans hB.perm,hm.kind.trans b1.kind,hm.fail.trans b1.fail⟩ (hm.pend.trans p1) ?_ ?_
  ·show fm Y sa (sb+nb);have uJ:∀m,m<sa+k->Kk Y m=Kk (arrOf st) m:=fun m m1=>zy.1 m (.inl m1);have uI:∀m,sb+jC<=m->Kk Y m=Kk (arrOf st) m:=fun m m1=>zy.1 m (.inr (by omega));intro i j h1 h2 h3
   by_cases i1:i<sa+k
   ·rw [uJ i i1]
    by_cases j1:j<sa+k
    ·rw [uJ j j1];exact s1 i j h1 h2 (by lia)
    have:=AB i h1 i1
    by_cases j2:j<sb+jC
    ·exact oU this (eF j (lA j1) j2 _ rfl).1
    ·rw [uI j (lA j2)];exact oU this (s2 _ _ (av _) (by lia) h3)
   by_cases i2:i<sb+jC
   ·by_cases j2:j<sb+jC
    ·rcases Nat.lt_or_eq_of_le h2 with dz | rfl
     ·have e1:=zy.2 (i-(sa+k)) (by omega);have e2:=zy.2 (j-(sa+k)) (RO j2 vv rl c1);rw [show sa+k+(i-(sa+k))=i by exact Yv i1] at e1;rw [show sa+k+(j-(sa+k))=j by lia] at e2;rw [e1,e2];exact DY.mp hO.2 _ _ _ _ (by lia)
     ·exact jg _
    ·rw [uI j (lA j2)];exact oU (eF i (lA i1) i2 _ rfl).2 (Vn j (lA j2) h3)
   ·rw [uI i (lA i2),uI j (by lia)];exact s2 i j (by lia) h2 h3
  ·intro m VR;exact zy.1 m (by omega)
 by_cases c3:na-k<=jC
 ·refine x9 c3 ?_;exact wpS_bind (zCt rfl b1.kind hx hy ox oy (by lia) (by lia) hf hl fun r aZ hm hO=>oF r aZ hm hO)
 ·refine xp c3 ?_;exact wpS_bind (zCu rfl b1.kind hx hy ox oy (by lia) (by lia) hf hl fun r aZ hm hO=>oF r aZ hm hO)
end
section
variable [SK]
def Dec (xs:Array Keyed) (a b:Nat):Prop:=∀i j,a<=i->i<=j->j<b->Kk xs j<=Kk xs i
structure Go (a₀:Array Keyed) (lo:Nat) (st ag:SortSt):Prop where
 base:Bs a₀ ag
 pend:pendingOf ag=pendingOf st
 low:∀m,m<lo->Kk (arrOf ag) m=Kk (arrOf st) m
theorem Go.refl {a₀:Array Keyed} {lo:Nat} {st:SortSt} (h:Bs a₀ st):Go a₀ lo st st:=⟨h,rfl,fun _ _=>rfl⟩
theorem Go.put {a₀:Array Keyed} {lo:Nat} {st ag:SortSt} (h:Go a₀ lo st ag) {xs:Array Keyed} (hp:xs.Perm (arrOf ag)) (hl:∀m,m<lo->Kk xs m=Kk (arrOf ag) m):
 Go a₀ lo st (setArr ag xs):=⟨⟨hp.trans h.base.perm,h.base.kind,h.base.fail⟩,h.pend,fun m hm=>(hl m hm).trans (h.low m hm)⟩
theorem fm.snoc (h:fm xs a b) (hl:a<b->Kk xs (b-1)<=Kk xs b):fm xs a (b+1):=by
 intro i j h1 h2 h3
 by_cases hj:j<b
 ·exact h i j h1 h2 hj
 obtain rfl:j=b:=by lia
 by_cases hi:i=j
 ·rw [hi];exact jg _
 ·exact oU (h i (j-1) h1 (by lia) (by lia)) (hl (by lia))
theorem Dec.snoc (h:Dec xs a b) (hl:a<b->Kk xs b<=Kk xs (b-1)):Dec xs a (b+1):=by
 intro i j h1 h2 h3
 by_cases hj:j<b
 ·exact h i j h1 h2 hj
 obtain rfl:j=b:=by lia
 by_cases hi:i=j
 ·rw [hi];exact jg _
 ·exact oU (hl (by lia)) (h i (j-1) h1 (by lia) (by lia))
theorem fm.one (xs:Array Keyed) (a:Nat):fm xs a (a+1):=fun i j h1 h2 h3=>by
 obtain rfl:i=j:=by lia
 exact jg _
theorem Dec.rev (h:Dec xs a b) (hb:b<=xs.size):fm (mirror xs a b ((b-a) / 2)) a b:=by intro i j h1 h2 h3;rw [Fy hb,Fy hb,if_pos ⟨h1,by lia⟩,if_pos ⟨uv h1 h2,h3⟩];exact h _ _ (Rm h3) (Yz h2) (by omega)
end
section
variable [SK] [ic prog w A E s] {st:SortSt}
theorem FV (I:Nat->β->SortSt->Prop) (han:a<=n)
 (lP:∀i c st,a<=i->i<n->I i c st->wpS (model prog w) A E s (f i c) (SQ Q (I (i+1))) st)
 (nJ:∀c st,I n c st->Q c st) (h:I a c st):wpS (model prog w) A E s (forIn [a:n] c f) Q st:=
 wpS_forRange I (fun i c st hai hi hI=>wpS_mono (lP i c st hai hi hI) fun r ag h'=>by cases r<;>exact h')
  (fun c st h'=>nJ c st (by rwa [Nat.max_eq_right han] at h')) h
theorem zX (h0:∀p,p∈a₀.toList->eE p) (hB:Bs a₀ st) (hi:i<a₀.size) (hj:j<a₀.size)
 (h:Q (some (decide (Kk (arrOf st) i<Kk (arrOf st) j))) st):wpS (model prog w) A E s (ltAt' i j) Q st:=by
 have hI:=hB.nums h0;obtain ⟨p,e1,i1,k1⟩:=sL hI (i:=i) (by rw [hB.size];exact hi);obtain ⟨q,e2,i2,k2⟩:=sL hI (i:=j) (by rw [hB.size];exact hj);rw [ltAt'_eq];refine wpS_bind (wpS_get (wpS_bind (ou e1 (wpS_bind (ou e2 (EY hB.kind i1 i2 ?_))))))
 rwa [k1,k2] at h
theorem XQ {lo gT:Nat} {Q:Option Nat->SortSt->Prop} (h0:∀p,p∈a₀.toList->eE p) (hB:Bs a₀ st) (hn:lo+gT<=a₀.size) (h1:1<=gT)
 (h:∀m ag,1<=m->m<=gT->Go a₀ lo st ag->fm (arrOf ag) lo (lo+m)->Q (some m) ag):
 wpS (model prog w) A E s (countRun' lo gT) Q st:=by
 refine wpS_bind (wpS_mono (FV
  (I:=fun x c ag=>ag=st/\c=(none,x)/\fm (arrOf st) lo (lo+x))
  (Q:=fun c ag=>ag=st/\∃n,c=(none,n)/\1<=n/\n<=gT/\fm (arrOf st) lo (lo+n)/\(n=gT\/Kk (arrOf st) (lo+n)<Kk (arrOf st) (lo+n-1)))
  h1 ?_ ?_ ⟨rfl,rfl,fm.one _ _⟩) ?_)
 ·rintro x c ag vh tF ⟨rfl,rfl,hs⟩;refine wpS_bind (zX h0 hB (by show lo+x<_;exact qh hn tF) (by show lo+x-1<_;exact GL hn tF) ?_)
  by_cases aF:Kk (arrOf ag) (lo+x)<Kk (arrOf ag) (lo+x-1)
  ·rw [jZ aF];exact wpS_pure ⟨rfl,x,rfl,vh,by exact aS tF,hs,.inr aF⟩
  ·rw [gA aF];exact wpS_pure ⟨rfl,rfl,hs.snoc fun _=>Int.not_lt.mp aF⟩
 ·rintro c ag ⟨rfl,rfl,hs⟩;exact ⟨rfl,gT,rfl,h1,av _,hs,.inl rfl⟩
 rintro c ag ⟨rfl,n,rfl,n1,n2,hs,hor⟩;refine (fun (H:wpS (model prog w) A E s (ite ((n==gT)=true) _ _) Q ag)=>H) ?_
 by_cases c1:n=gT
 ·rw [if_pos (by simpa using c1)];exact wpS_pure (h n _ n1 n2 (Go.refl hB) hs)
 rw [if_neg (by simpa using c1)];have aF:=hor.resolve_left c1
 extract_lets-underBinder+onlyGivenNames jp
 have oF:∀u aZ,Go a₀ lo ag aZ->Dec (arrOf aZ) lo (lo+(n+1))->wpS (model prog w) A E s (jp u) Q aZ:=by
  intro _ aZ hg hd;refine wpS_bind (wpS_lift (wpAny_rule ⟨rfl,?_⟩));refine wpS_bind (wpS_mono (FV
   (I:=fun x c cm=>∃kG,c=(none,x,kG)/\Go a₀ lo ag cm/\Dec (arrOf cm) lo (lo+x)/\kG+1<=x/\∀i,lo+x-(kG+1)<=i->i<lo+x->Kk (arrOf cm) i=Kk (arrOf cm) (lo+x-1))
   (Q:=fun c cm=>∃x kG,c=(none,x,kG)/\n+1<=x/\x<=gT/\Go a₀ lo ag cm/\Dec (arrOf cm) lo (lo+x)/\kG+1<=x/\∀i,lo+x-(kG+1)<=i->i<lo+x->Kk (arrOf cm) i=Kk (arrOf cm) (lo+x-1))
   (show n+1<=gT by lia) ?_ ?_ ⟨0,rfl,hg,hd,by exact iN n1,fun i i1 i2=>by congr 1;lia⟩) ?_)
  ·rintro x c cm x1 x2 ⟨kG,rfl,hg,hd,hq,he⟩;have hsz:lo+x<=(arrOf cm).size:=by rw [hg.base.size];lia
   refine wpS_bind (zX h0 hg.base (by show lo+x<_;exact qh hn x2) (by show lo+x-1<_;exact GL hn x2) ?_)
   by_cases aF:Kk (arrOf cm) (lo+x)<Kk (arrOf cm) (lo+x-1)
   ·rw [jZ aF];dsimp only;rw [if_pos rfl]
    by_cases rM:kG>0
    ·rw [if_pos rM];have hK:=KS (i:=lo+x-(kG+1)) hsz he;refine wpS_bind (wpS_reverse (wpS_pure ⟨0,rfl,hg.put (mirror_perm _ _ _ _) (fun m _=>hK m),?_,by lia,fun i i1 i2=>by congr 1;lia⟩));intro i j i1 i2 i3;show Kk (mirror (arrOf cm) _ _ _) j<=Kk (mirror (arrOf cm) _ _ _) i;rw [hK,hK];exact (hd.snoc fun _=>eR aF) i j i1 i2 (by omega)
    ·rw [if_neg rM];exact wpS_pure ⟨0,rfl,hg,hd.snoc fun _=>eR aF,by lia,fun i i1 i2=>by congr 1;lia⟩
   ·rw [gA aF];dsimp only;rw [if_neg (by decide)];refine wpS_bind (zX h0 hg.base (GL hn x2) (qh hn x2) ?_)
    by_cases Nl:Kk (arrOf cm) (lo+x-1)<Kk (arrOf cm) (lo+x)
    ·rw [jZ Nl];exact wpS_pure ⟨x,kG,rfl,by omega,by exact aS x2,hg,hd,hq,he⟩
    ·rw [gA Nl];have heq:Kk (arrOf cm) (lo+x)=Kk (arrOf cm) (lo+x-1):=by lia
     refine wpS_pure ⟨kG+1,rfl,hg,hd.snoc fun _=>nc Nl,xP hq,fun i i1 i2=>?_⟩;rw [show lo+(x+1)-1=lo+x by exact Eq.refl (lo+(x+1)-1)]
     by_cases hi:i=lo+x
     ·rw [hi]
     ·rw [heq];exact he i (by lia) (by lia)
  ·rintro c cm ⟨kG,rfl,hg,hd,hq,he⟩;exact ⟨gT,kG,rfl,by lia,av _,hg,hd,hq,he⟩
  rintro c cm ⟨x,kG,rfl,_,x2,hg,hd,hq,he⟩;have hsz:lo+x<=(arrOf cm).size:=by rw [hg.base.size];lia
  refine (fun (H:wpS (model prog w) A E s _ Q cm)=>H) ?_
  extract_lets-underBinder+onlyGivenNames r0 _ xx nn
  dsimp-zeta only [r0]
  extract_lets-underBinder+onlyGivenNames yS
  have jz:∀u cz,Go a₀ lo ag cz->Dec (arrOf cz) lo (lo+x)->wpS (model prog w) A E s (yS u) Q cz:=by
   intro _ cz hg hd;have hsz:lo+x<=(arrOf cz).size:=by rw [hg.base.size];lia
   refine wpS_bind (wpS_reverse ?_);have Ir:Go a₀ lo ag (setArr cz (mirror (arrOf cz) lo (lo+x) ((lo+x-lo) / 2))):=
    hg.put (mirror_perm _ _ _ _) (fun m hm=>by rw [Fy hsz,if_neg (by lia)])
   have M4:fm (arrOf (setArr cz (mirror (arrOf cz) lo (lo+x) ((lo+x-lo) / 2)))) lo (lo+x):=hd.rev hsz;refine (fun (H:∀lG,Go a₀ lo ag lG->fm (arrOf lG) lo (lo+x)->wpS (model prog w) A E s _ Q lG)=>H _ Ir M4) ?_;intro lG Ir M4;refine wpS_bind (wpS_mono (FV
    (I:=fun y c wt=>wt=lG/\c=(none,y)/\fm (arrOf lG) lo (lo+y))
    (Q:=fun c wt=>wt=lG/\∃y,c=(none,y)/\1<=y/\y<=gT/\fm (arrOf lG) lo (lo+y)) x2 ?_ ?_ ⟨rfl,rfl,M4⟩) ?_)
   ·rintro y c wt y1 y2 ⟨rfl,rfl,hs⟩;refine wpS_bind (zX h0 Ir.base (by show lo+y<_;exact qh hn y2) (by show lo+y-1<_;exact GL hn y2) ?_)
    by_cases aF:Kk (arrOf wt) (lo+y)<Kk (arrOf wt) (lo+y-1)
    ·rw [jZ aF];exact wpS_pure ⟨rfl,y,rfl,by lia,by exact aS y2,hs⟩
    ·rw [gA aF];exact wpS_pure ⟨rfl,rfl,hs.snoc fun _=>Int.not_lt.mp aF⟩
   ·rintro c wt ⟨rfl,rfl,hs⟩;exact ⟨rfl,gT,rfl,h1,av _,hs⟩
   ·rintro c wt ⟨rfl,y,rfl,y1,y2,hs⟩;exact wpS_pure (h y _ y1 y2 Ir hs)
  by_cases rM:kG>0
  ·refine x9 (c:=kG>0) rM ?_;have hK:=KS (i:=lo+x-(kG+1)) hsz he;refine wpS_bind (wpS_reverse (jz () _ (hg.put (mirror_perm _ _ _ _) (fun m _=>hK m)) ?_));intro i j i1 i2 i3;show Kk (mirror (arrOf cm) _ _ _) j<=Kk (mirror (arrOf cm) _ _ _) i;rw [hK,hK];exact hd i j i1 i2 i3
  ·refine xp (c:=kG>0) rM ?_;exact jz () _ hg hd
 have hsz:lo+n<=(arrOf ag).size:=by rw [hB.size];lia
 by_cases c2:n>1
 ·refine x9 (c:=n>1) c2 ?_;refine wpS_bind (zX h0 hB (by lia) (by show lo+n-1<_;omega) ?_)
  by_cases hr:Kk (arrOf ag) lo<Kk (arrOf ag) (lo+n-1)
  ·rw [jZ hr];exact wpS_pure (h n _ n1 n2 (Go.refl hB) hs)
  ·rw [gA hr];have bQ:∀k,lo<=k->k<lo+n->Kk (arrOf ag) k=Kk (arrOf ag) (lo+n-1):=fun k k1 k2=>by
    have a1:=hs lo k (av _) k1 k2;have a2:=hs k (lo+n-1) k1 (KH k2) (by omega);lia
   have hK:=KS hsz bQ;refine wpS_bind (wpS_reverse (oF () _ ((Go.refl hB).put (mirror_perm _ _ _ _) (fun m _=>hK m)) ?_));have hd:Dec (arrOf ag) lo (lo+n):=fun i j i1 i2 i3=>by rw [bQ i i1 (by lia),bQ j (uv i1 i2) i3];exact jg _
   intro i j i1 i2 i3;show Kk (mirror (arrOf ag) _ _ _) j<=Kk (mirror (arrOf ag) _ _ _) i;rw [hK,hK];exact (hd.snoc fun _=>eR aF) i j i1 i2 (by omega)
 ·refine xp (c:=n>1) c2 ?_;obtain rfl:n=1:=by lia
  have hd:Dec (arrOf ag) lo (lo+1):=fun i j i1 i2 i3=>by
   obtain rfl:i=j:=by lia
   exact jg _
  exact oF () _ (Go.refl hB) (hd.snoc fun _=>eR aF)
end
theorem zB1 {f g:Nat->Int} {lo a b:Nat} (rN:lo<=a) (lr:a<=b) (h1:∀m,m<a->g m=f m) (h2:g a=f b) (h3:∀m,a<m+1->m+1<=b->g (m+1)=f m) (low:∀m,lo<=m->m<a->f m<=f b) (high:∀m,a<=m->m<b->f b<=f m)
 (hs:∀i j,lo<=i->i<=j->j<b->f i<=f j):∀i j,lo<=i->i<=j->j<b+1->g i<=g j:=fun i j i1 i2 i3=>by
 rcases Nat.lt_trichotomy j a with c | c | c
 ·rw [h1 j c,h1 i (pT i2 c)];exact hs i j i1 i2 (iC c lr)
 ·subst c;rw [h2];rcases Nat.lt_or_eq_of_le i2 with d | d
  ·rw [h1 i d];exact low i i1 d
  ·rw [d,h2];exact jg _
 ·cases j with
  | zero=>exact absurd c (oR _)
  | succ j=>
   rw [h3 j c (Nat.le_of_lt_succ i3)];have jb:j<b:=Nat.lt_of_succ_lt_succ i3;rcases Nat.lt_trichotomy i a with d | d | d
   ·rw [h1 i d];exact hs i j i1 (Nat.le_of_lt_succ (Nat.lt_trans d c)) jb
   ·rw [d,h2];exact high j (Nat.le_of_lt_succ c) jb
   ·cases i with
    | zero=>exact absurd d (oR _)
    | succ i=>
     rw [h3 i d (dq i2 (Nat.le_of_lt_succ i3))];exact hs i j (dq rN (Nat.le_of_lt_succ d)) (Nat.le_of_succ_le_succ i2) jb
section
variable [SK] [ic prog w A E s] {st:SortSt}
theorem zAo {lo n ok:Nat} (h0:∀p,p∈a₀.toList->eE p) (hB:Bs a₀ st) (hn:lo+n<=a₀.size) (h1:1<=ok) (af:ok<=n)
 (hs:fm (arrOf st) lo (lo+ok)) (h:∀ag,Go a₀ lo st ag->fm (arrOf ag) lo (lo+n)->Q true ag):
 wpS (model prog w) A E s (binarySort' lo n ok) Q st:=by
 refine wpS_bind (wpS_mono (FV
  (I:=fun k c ag=>c=(none,())/\Go a₀ lo st ag/\fm (arrOf ag) lo (lo+k))
  (Q:=fun c ag=>c=(none,())/\Go a₀ lo st ag/\fm (arrOf ag) lo (lo+n)) (show max ok 1<=n by lia) ?_ ?_
  ⟨rfl,Go.refl hB,by rw [Nat.max_eq_left h1];exact hs⟩) ?_)
 ·rintro k c ag _ k2 ⟨rfl,hg,wJ⟩;have hsz:lo+k<(arrOf ag).size:=by rw [hg.base.size];exact qh hn k2
  refine wpS_bind (wpS_mono (B2
   (I:=fun x c aZ=>aZ=ag/\∃l r,c=(none,l,r)/\l<=r/\r<=k/\r-l<=k-x/\(∀i,i<l->Kk (arrOf ag) (lo+i)<=Kk (arrOf ag) (lo+k))/\
    ∀i,r<=i->i<k->Kk (arrOf ag) (lo+k)<=Kk (arrOf ag) (lo+i))
   (Q:=fun c aZ=>aZ=ag/\∃l,c=(none,l,l)/\l<=k/\(∀i,i<l->Kk (arrOf ag) (lo+i)<=Kk (arrOf ag) (lo+k))/\
    ∀i,l<=i->i<k->Kk (arrOf ag) (lo+k)<=Kk (arrOf ag) (lo+i)) ?_ ?_ ⟨rfl,0,k,rfl,by lia,by exact f7,by exact f7,fun i hi=>by exact hV (oR i hi),fun i i1 i2=>by lia⟩) ?_)
  ·rintro x c aZ hx ⟨rfl,l,r,rfl,a1,a2,a3,a4,a5⟩;dsimp only
   by_cases ik:l>=r
   ·rw [if_pos ik];obtain rfl:l=r:=by lia
    exact wpS_pure ⟨rfl,l,rfl,a2,a4,a5⟩
   rw [if_neg ik];generalize hm:(l+r) / 2=m;refine wpS_bind (zX h0 hg.base (i:=lo+k) (j:=lo+m) (qh hn k2) (by lia) ?_)
   by_cases aF:Kk (arrOf aZ) (lo+k)<Kk (arrOf aZ) (lo+m)
   ·rw [jZ aF];refine wpS_pure ⟨rfl,l,m,rfl,by lia,by lia,by omega,a4,fun i i1 i2=>?_⟩;exact oU (eR aF) (wJ _ _ jQ (xS i1) (tw i2))
   ·rw [gA aF];refine wpS_pure ⟨rfl,m+1,r,rfl,by lia,by omega,by omega,fun i i1=>?_,a5⟩;exact oU (wJ _ (lo+m) jQ (by lia) (by lia)) (Int.not_lt.mp aF)
  ·rintro c aZ ⟨rfl,l,r,rfl,a1,a2,a3,a4,a5⟩;obtain rfl:l=r:=by lia
   exact ⟨rfl,l,rfl,a2,a4,a5⟩
  ·rintro c aZ ⟨rfl,l,rfl,a2,a4,a5⟩;refine (fun (H:wpS (model prog w) A E s (do moveDown' (lo+k) (lo+l);pure (ForInStep.yield (none,()))) _ aZ)=>H) ?_;rw [moveDown'_eq];have e0:lo+k-(lo+k-(lo+l))=lo+l:=by lia
   have z6:∀m,Kk (bubble (arrOf aZ) (lo+k) (lo+k-(lo+l))) m=if m=lo+l then Kk (arrOf aZ) (lo+k) else if lo+l<m/\m<=lo+k then Kk (arrOf aZ) (m-1) else Kk (arrOf aZ) m:=fun m=>by
    have:=Xc (d:=lo+k-(lo+l)) hsz (Nat.sub_le _ _) m
    rwa [e0] at this
   refine wpS_bind (wpS_modify (wpS_pure ⟨rfl,hg.put (bubble_perm _ _ _) (fun m hm=>?_),?_⟩))
   ·rw [z6,if_neg (by lia),if_neg fun z=>by lia]
   ·refine zB1 (a:=lo+l) (b:=lo+k) (pR lo l) (Nat.add_le_add_left a2 lo) (fun m hm=>?_) ?_ (fun m h1 h2=>?_) (fun m m1 m2=>?_) (fun m m1 m2=>?_) wJ
    ·rw [z6,if_neg (h_ hm),if_neg fun z=>Nat.lt_asymm hm z.1]
    ·rw [z6,if_pos rfl]
    ·rw [z6,if_neg (Nat.ne_of_gt h1),if_pos ⟨h1,h2⟩,Nat.add_sub_cancel]
    ·obtain ⟨q,rfl⟩:=Nat.exists_eq_add_of_le m1;exact a4 q (Nat.lt_of_add_lt_add_left m2)
    ·obtain ⟨q,rfl⟩:=Nat.exists_eq_add_of_le (dq (pR lo l) m1);exact a5 q (Nat.le_of_add_le_add_left m1) (Nat.lt_of_add_lt_add_left m2)
 ·rintro c ag ⟨hc,hg,wJ⟩;exact ⟨hc,hg,wJ⟩
 ·rintro c ag ⟨rfl,hg,wJ⟩;exact wpS_pure (h ag hg wJ)
end
def Run [SK] (xs:Array Keyed):Nat->List (Nat×Nat×Nat)->Nat->Prop
 | s,[],e=>s=e
 | s,r::t,e=>r.1=s/\1<=r.2.1/\fm xs s (s+r.2.1)/\Run xs (s+r.2.1) t e
section run
variable [SK]
theorem Run.le:∀{rs s e},Run X s rs e->s+rs.length<=e
 | [],s,e,h=>by unfold Run at h;simp;lia
 | r::t,s,e,⟨_,h1,_,h2⟩=>by have:=h2.le;simp only [mf];lia
theorem Run.congr:∀{rs s e},Run X s rs e->(∀m,s<=m->m<e->Kk Y m=Kk X m)->Run Y s rs e
 | [],_,_,h,_=>h
 | r::t,s,e,⟨h0,h1,h2,h3⟩,hk=>by have:=h3.le;refine ⟨h0,h1,fun i j a1 a2 a3=>?_,h3.congr fun m m1 m2=>hk m (by lia) m2⟩;rw [hk i a1 (by lia),hk j (uv a1 a2) (by lia)];exact h2 i j a1 a2 a3
theorem Run.app:∀{l r s e},Run X s (l++r) e↔∃m,Run X s l m/\Run X m r e
 | [],r,s,e=>⟨fun h=>⟨s,rfl,h⟩,fun ⟨m,h1,h2⟩=>by unfold Run at h1;subst h1;exact h2⟩
 | a::l,r,s,e=>⟨fun ⟨h0,h1,h2,h3⟩=>by
  obtain ⟨m,a1,a2⟩:=Run.app.mp h3;exact ⟨m,⟨h0,h1,h2,a1⟩,a2⟩,fun ⟨m,⟨h0,h1,h2,h3⟩,h4⟩=>⟨h0,h1,h2,Run.app.mpr ⟨m,h3,h4⟩⟩⟩
theorem Run.same:∀{rs eg s e},Run X s rs e->rs.map (fun r=>(r.1,r.2.1))=eg.map (fun r=>(r.1,r.2.1))->Run X s eg e
 | [],[],_,_,h,_=>h
 | a::t,b::t',s,e,⟨h0,h1,h2,h3⟩,hm=>by simp only [fj,List.cons.injEq,Prod.mk.injEq] at hm;obtain ⟨⟨e1,e2⟩,e3⟩:=hm;refine ⟨e1▸h0,e2▸h1,e2▸h2,?_⟩;rw [<-e2];exact h3.same e3
 | [],_::_,_,_,_,hm=>by simp at hm
 | _::_,[],_,_,_,hm=>by simp at hm
end run
theorem Tc {α β:Type} {f:α->α} {g:α->β} (h:∀x,g (f x)=g x):∀(l:List α) (i:Nat),(l.modify i f).map g=l.map g
 | [],i=>by simp
 | a::t,0=>by simp [h]
 | a::t,i+1=>by simp [Tc h t i]
section
variable [SK] [ic prog w A E s] {st:SortSt}
structure Pd (a₀:Array Keyed) (lo:Nat) (rs:List (Nat×Nat×Nat)) (st:SortSt):Prop where
 base:Bs a₀ st
 pend:pendingOf st=rs.toArray
 run:Run (arrOf st) 0 rs lo
 top:lo<=a₀.size
theorem Ql {lo i:Nat} (h0:∀p,p∈a₀.toList->eE p) (hP:Pd a₀ lo rs st) (hi:i+1<rs.length)
 (h:∀eg ag,Pd a₀ lo eg ag->eg.length+1=rs.length->(∀m,lo<=m->Kk (arrOf ag) m=Kk (arrOf st) m)->Q true ag):
 wpS (model prog w) A E s (mergeAt' i) Q st:=by
 obtain ⟨L,r1,r2,T,e,hL⟩:∃L r1 r2 T,rs=L++r1::r2::T/\i=L.length:=by refine ⟨rs.take i,rs[i],rs[i+1],rs.drop (i+2),?_,by simp;lia⟩;rw [<-List.drop_eq_getElem_cons,<-List.drop_eq_getElem_cons,List.take_append_drop]
 obtain ⟨sa,na,p⟩:=r1;obtain ⟨sb,nb,p'⟩:=r2;have hr:=hP.run;rw [e] at hr;obtain ⟨m,hl,rfl,b1,b2,rfl,c1,c2,ht⟩:=Run.app.mp hr;dsimp only at b1 b2 c1 c2 ht;have t1:=ht.le;have t2:=hP.top;refine zCv h0 hP.base (e▸hP.pend) hL rfl b1 c1 (by lia) b2 c2 fun ag d1 d2 d3 d4=>?_;refine h _ ag ⟨d1,d2,Run.app.mpr ⟨sa,hl.congr fun m _ m2=>d4 m (.inl m2),rfl,by show 1<=na+nb;lia,?_,?_⟩,t2⟩ (by rw [e];simp;exact Eq.refl (L.length+(T.length+1)+1))
  (fun m m1=>d4 m (.inr (by lia)))
 ·show fm _ sa (sa+(na+nb));rw [<-Nat.add_assoc];exact d3
 ·show Run _ (sa+(na+nb)) T lo;rw [<-Nat.add_assoc];exact ht.congr fun m m1 _=>d4 m (.inr m1)
theorem zAn {Q:Unit->SortSt->Prop} (h0:∀p,p∈a₀.toList->eE p) (hB:Bs a₀ st) (hp:pendingOf st= #[]) (h2:2<=a₀.size)
 (h:∀ag,(arrOf ag).Perm a₀->failedOf ag=none->fm (arrOf ag) 0 a₀.size->Q () ag):wpS (model prog w) A E s sortRuns' Q st:=by
 refine wpS_bind (wpS_get ?_);have gU:=hB.size;refine wpS_bind (wpS_mono (B2
  (I:=fun x c ag=>∃lo rs,c=(none,lo)/\Pd a₀ lo rs ag/\(x<=lo\/lo=a₀.size))
  (Q:=fun c ag=>∃rs,c=(none,a₀.size)/\Pd a₀ a₀.size rs ag) ?big ?zH ⟨0,[],rfl,⟨hB,hp,rfl,dP _⟩,.inl (av _)⟩) ?after)
 case zH=>
  rintro c ag ⟨lo,rs,rfl,hP,hx⟩;have:=hP.top
  change (arrOf st).size<=lo\/lo=a₀.size at hx
  obtain rfl:lo=a₀.size:=by lia
  exact ⟨rs,rfl,hP⟩
 case big=>
  rintro x c ag _ ⟨lo,rs,rfl,hP,hxx⟩;refine (fun (H:wpS (model prog w) A E s (ite (lo>=(arrOf st).size) _ _) _ ag)=>H) ?_
  by_cases c1:lo>=(arrOf st).size
  ·rw [if_pos c1];have:=hP.top;obtain rfl:lo=a₀.size:=by lia
   exact wpS_pure ⟨rs,rfl,hP⟩
  rw [if_neg c1];refine wpS_bind (XQ h0 hP.base (by show lo+((arrOf st).size-lo)<=_;lia) (by show 1<=(arrOf st).size-lo;lia) fun m aZ m1 m2 hg hs=>?_)
  change m<=(arrOf st).size-lo at m2
  change Go a₀ lo ag aZ at hg
  change fm (arrOf aZ) lo (lo+m) at hs
  have IC:Pd a₀ lo rs aZ:=⟨hg.base,hg.pend.trans hP.pend,hP.run.congr fun m _ m2=>hg.low m m2,hP.top⟩;refine (fun (H:wpS (model prog w) A E s _ _ aZ)=>H) ?_;dsimp-zeta only
  extract_lets-underBinder+onlyGivenNames n0 jp
  have oF:∀(u:Unit) n cm,1<=n->lo+n<=a₀.size->Pd a₀ lo rs cm->fm (arrOf cm) lo (lo+n)->
   wpS (model prog w) A E s (jp u n) (SQ (fun c ag=>∃rs,c=(none,a₀.size)/\Pd a₀ a₀.size rs ag)
    (fun c ag=>∃lo rs,c=(none,lo)/\Pd a₀ lo rs ag/\(x+1<=lo\/lo=a₀.size))) cm:=by
   intro u n cm n1 n2 Wj lQ;refine wpS_bind (wpS_get ?_)
   extract_lets-underBinder+onlyGivenNames yS
   have jz:∀(u:Unit) cz eg,Pd a₀ lo eg cz->fm (arrOf cz) lo (lo+n)->
    wpS (model prog w) A E s (yS u) (SQ (fun c ag=>∃rs,c=(none,a₀.size)/\Pd a₀ a₀.size rs ag)
     (fun c ag=>∃lo rs,c=(none,lo)/\Pd a₀ lo rs ag/\(x+1<=lo\/lo=a₀.size))) cz:=by
    intro u cz eg il tG;refine wpS_bind (wpS_modify (wpS_pure ⟨lo+n,eg++[(lo,n,0)],rfl,⟨⟨il.base.perm,il.base.kind,il.base.fail⟩,?_,?_,n2⟩,by lia⟩))
    ·show (pendingOf cz).push (lo,n,0)=_;rw [il.pend];simp
    ·exact Run.app.mpr ⟨lo,il.run,rfl,n1,tG,rfl⟩
   cases hb:(pendingOf cm).back? with
   | none=>
    exact jz () cm rs Wj lQ
   | some r=>
    obtain ⟨s1,l1,p1⟩:=r;refine wpS_bind (wpS_mono (B2
     (I:=fun _ c cz=>c=(none,())/\∃eg,Pd a₀ lo eg cz/\fm (arrOf cz) lo (lo+n))
     (Q:=fun c cz=>c=(none,())/\∃eg,Pd a₀ lo eg cz/\fm (arrOf cz) lo (lo+n)) ?_ (fun c cz hh=>hh) ⟨rfl,rs,Wj,lQ⟩) ?_)
    ·rintro x' c cz _ ⟨rfl,eg,il,tG⟩;refine wpS_bind (wpS_get ?_);have hsz:(pendingOf cz).size=eg.length:=by rw [il.pend];simp
     dsimp only
     by_cases c2:(pendingOf cz).size>1
     ·rw [if_pos c2]
      cases hq:(pendingOf cz)[(pendingOf cz).size-2]? with
      | none=>exact wpS_pure ⟨rfl,eg,il,tG⟩
      | some r=>
       obtain ⟨x1,x2,Vs⟩:=r;dsimp only;split
       ·exact wpS_pure ⟨rfl,eg,il,tG⟩
       ·refine wpS_bind (Ql h0 il (by show (pendingOf cz).size-2+1<_;lia) fun LF lG NO _ hk=>?_);refine wpS_pure ⟨rfl,LF,NO,fun i j i1 i2 i3=>?_⟩;rw [hk i i1,hk j (uv i1 i2)];exact tG i j i1 i2 i3
     ·rw [if_neg c2];exact wpS_pure ⟨rfl,eg,il,tG⟩
    ·rintro c cz ⟨rfl,eg,il,tG⟩;refine wpS_bind (wpS_modify (jz () _ (eg.modify (eg.length-1) fun r=>(r.1,r.2.1,power' (arrOf st).size (2*s1+l1) (2*s1+l1+l1+n) (arrOf st).size)) ⟨⟨il.base.perm,il.base.kind,il.base.fail⟩,?_,?_,il.top⟩ tG))
     ·refine (fun (H:(pendingOf cz).modify ((pendingOf cz).size-1) (fun r=>(r.1,r.2.1,power' (arrOf st).size (2*s1+l1) (2*s1+l1+l1+n) (arrOf st).size))=_)=>H) ?_;rw [il.pend];apply Array.toList_inj.mp;simp
     ·exact il.run.same (Tc (f:=fun r=>(r.1,r.2.1,power' (arrOf st).size (2*s1+l1) (2*s1+l1+l1+n) (arrOf st).size)) (fun _=>rfl) _ _).symm
  by_cases c2:m<minRun' (arrOf st).size (arrOf st).size 0
  ·refine x9 (c:=m<minRun' (arrOf st).size (arrOf st).size 0) c2 ?_;refine wpS_bind (wpS_lift (wpAny_rule ⟨rfl,?_⟩));refine wpS_bind (zAo h0 hg.base (n:=min ((arrOf st).size-lo) (minRun' (arrOf st).size (arrOf st).size 0)) (by lia) m1 (by omega) hs fun cm Np lQ=>?_);exact oF () (min ((arrOf st).size-lo) (minRun' (arrOf st).size (arrOf st).size 0)) cm (by omega) (by lia) ⟨Np.base,Np.pend.trans IC.pend,IC.run.congr fun m _ m2=>Np.low m m2,IC.top⟩ lQ
  ·refine xp (c:=m<minRun' (arrOf st).size (arrOf st).size 0) c2 ?_;exact oF () m aZ m1 (by lia) IC hs
 case after=>
  rintro c ag ⟨rs,rfl,hP⟩;refine (fun (H:wpS (model prog w) A E s _ Q ag)=>H) ?_;dsimp only;have hlen:=hP.run.le;refine wpS_bind (wpS_mono (B2
   (I:=fun x c cz=>c=(none,())/\∃eg,Pd a₀ a₀.size eg cz/\(eg.length+x<=a₀.size\/eg.length<=1))
   (Q:=fun c cz=>c=(none,())/\∃eg,Pd a₀ a₀.size eg cz/\eg.length<=1) ?_ ?_ ⟨rfl,rs,hP,.inl (by lia)⟩) ?_)
  ·rintro x' c cz _ ⟨rfl,eg,il,Ip⟩;refine wpS_bind (wpS_get ?_);have hsz:(pendingOf cz).size=eg.length:=by rw [il.pend];simp
   by_cases c2:(pendingOf cz).size<=1
   ·rw [if_pos c2];exact wpS_pure ⟨rfl,eg,il,BN hsz c2⟩
   rw [if_neg c2];refine wpS_bind (Ql h0 il ?_ fun LF lG NO hl5 _=>wpS_pure ⟨rfl,LF,NO,by lia⟩);have key:∀j,j<=(pendingOf cz).size-2->j+1<eg.length:=by lia
   refine key _ ?_
   repeat' split
   all_goals first
    | exact av _
    | exact Nat.sub_le _ _
  ·rintro c cz ⟨rfl,eg,il,Ip⟩
   change eg.length+(arrOf st).size<=a₀.size\/eg.length<=1 at Ip
   exact ⟨rfl,eg,il,by lia⟩
  ·rintro c cz ⟨rfl,eg,il,Ip⟩;refine wpS_pure (h cz il.base.perm il.base.fail ?_);have hr:=il.run
   match eg,Ip,hr with
   | [],_,hr=>unfold Run at hr;lia
   | [r],_,⟨_,_,e1,e2⟩=>
    unfold Run at e2;intro i j i0 i1 i2;exact e1 i j i0 i1 (BR i2 e2)
end
section
variable [DecidableEq k] {knd:KeyKind prog w k}
theorem ZP (hh:A.handled=none) (hd:(d==sysModules)=false) (hm:s.heap.DictAt knd d kvs ep) (hn:kvs.length<=sizeLine)
 (hQ:∀s' acc,(∀b o,s.heap.get? b=some o->s'.heap.get? b=some o)->s'.gens=s.gens->s'.drawn=s.drawn->s'.os=s.os->s.toks<=s'.toks->
  ItemsOf (fun i v=>∃key x,kvs[i]?=some (key,x)/\knd.is key v=true) acc kvs.length->Q acc.toList s'):wpAny (model prog w) A (collect (.ref d)) Q E s:=by
 let L:Obj:={ cls:=.type "list",data:=.seq ([]:List Value).toArray }
 have Dr:=hm.lt_size;have NM:s.heap.objs.size≠d:=Nat.ne_of_gt Dr;unfold collect;refine ah (wpAny_runValue (codeAny_builtin F.entry_proto_collect ?_));rw [Around.under_plainId F.plain_proto_collect _];refine (show wpAny _ A.in1 (newList []>>=fun l=>again (.builtin "list.__iadd__" ⟨[l,.ref d],[]⟩)) _ _ s from ah (wpAny_newObj_type (aW ⟨plainId_quiet F.plain_list_iadd _,codeAny_builtin F.entry_list_iadd ?_⟩)));rw [Around.under_plainId F.plain_list_iadd _];have Io:(s.heap.push L).DictAt knd d kvs ep:=hm.push _;have hT:({ s with heap:=s.heap.push L }:Shared).TypeIs (.ref d) "dict":=Io.dictOf.typeIs (s:={ s with heap:=s.heap.push L });have hS:(s.heap.push L).get? s.heap.objs.size=some L:=jY _ rfl;refine (show wpAny _ A.in1 (Builtin.List.listExtendWith (.ref s.heap.objs.size) (.ref d) (.ref s.heap.objs.size)) _ _ { s with heap:=s.heap.push L } from ?_);unfold Builtin.List.listExtendWith;refine ah (wpAny_typeOf hT ?_);rw [if_neg (by rw [show Builtin.List.listSameRef (.ref s.heap.objs.size) (.ref d)=false by simp [Builtin.List.listSameRef,NM]];decide)];refine ah (wpAny_pyIter_dict hd Io (ah (wpAny_holding ?_)));unfold Builtin.List.listLengthHint
 let I:Addr:=(s.heap.push L).objs.size
 let h2:Heap:=(s.heap.push L).push { cls:=.type "dict_keyiterator",data:=.fields #[.ref d,.int 0 0,.int kvs.length 0,.int ep 0] }
 have C_:h2.DictAt knd d kvs ep:=Io.push _;have NL:({ s with heap:=h2 }:Shared).TypeIs (.ref d) "dict":=C_.dictOf.typeIs (s:={ s with heap:=h2 });refine ah (wpAny_specialOf (name:=Str.ofString "__len__") NL F.slot_dict_len.lookup ?_);generalize Ng:("dict.__len__":String)=VB
 (fail_if_success (clear Ng VB))
 wp_delta
 rw [show splitId VB=some ("dict","__len__") from by subst Ng;decide+kernel];subst Ng;refine ah (wpAny_isInstance (b:=true) NL (by rw [isSubtype_type];kernel_rfl) ?_);rw [if_neg (by decide)];refine (fun (H:wpAny (model prog w) A.in1 (ite _ _ _) _ _ _)=>H) ?_;rw [if_pos (by decide+kernel)];refine ah (wpAny_typeOf NL (aW ?_));rw [if_pos (by decide+kernel)]
 let S:Addr:=s.heap.objs.size
 have Wg:S≠I:=h_ (show s.heap.objs.size<(s.heap.push L).objs.size by rw [size_push'];exact Nat.lt_succ_self _);have hdI:d≠I:=h_ (show d<(s.heap.push L).objs.size by rw [size_push'];exact Nat.lt_succ_of_lt Dr);have Wi:h2.get? S=some L:=cR _ hS;have Wh:=tU (Obj.mapSeq (·.push Value.none)) Wi rfl;have hS4:=tU (Obj.mapSeq (·.pop)) Wh rfl;have LL:∀b o,b≠S->h2.get? b=some o->((h2.update S (Obj.mapSeq (·.push Value.none))).update S (Obj.mapSeq (·.pop))).get? b=some o:=
  fun b o hb e=>(kX _ _ (aB hb)).trans ((kX _ _ (aB hb)).trans e)
 have W:=(Walks.dictKeys (knd:=knd) (prog:=prog) (w:=w) (A:=A.in1) hh I d hdI kvs ep).toS;have Nd:h2.IsKeyIter I d 0 kvs.length ep:=⟨_,jY _ rfl,rfl,rfl⟩;refine ah (wpAny_rule (ah (show wpAny _ A.in1 (updateSeq S (·.push .none)>>=fun _=>updateSeq S (·.pop)) _ _ { s with heap:=h2 } from ah (wpAny_updateSeq (s:={ s with heap:=h2 }) Wi rfl (wpAny_updateSeq (s:={ s with heap:=h2.update S (Obj.mapSeq (·.push Value.none)) }) Wh rfl ?_)))));refine aW ⟨plainId_quiet F.plain_extend_loop _,codeAny_extend_loopS W hn S (fun z=>(eh.mp z).elim Wg fun z=>NM (iD.mp z)) _ kvs.length 0 _ _ _ rfl (dP _)
  ⟨Nd.at fun o e=>LL _ _ (aB Wg) e,C_.at' fun o e=>LL _ _ (aB NM) e⟩ hS4 (ItemsOf.nil _) fun s' acc c CY hS' NK=>?_⟩
 refine (show wpAny _ A (load S>>=_) _ _ s' from ah (wpAny_load hS' (aW (hQ s' acc (fun b o e=>?_) CY.gens CY.drawn CY.os CY.toks NK))));have hb:b<s.heap.objs.size:=dr e;refine CY.heap b o (fun z=>?_) (LL b o (h_ hb) (cR _ (cR _ e)));rcases eh.mp z with z | z
 ·exact h_ hb z
 ·have z:=iD.mp z;have e2:I=s.heap.objs.size+1:=size_push' _ _;exact j8 _ (iC hb (by rw [z,e2];exact oS _))
end
theorem QW (vs:List Value):(vs.toArray.zip vs.toArray).toList=vs.map fun v=>(v,v):=by
 rw [Array.toList_zip];show vs.zip vs=_
 induction vs with
 | nil=>rfl
 | cons v r ih=>simp [ih]
section
variable [SK]
theorem zDs (hp:X.Perm (vs.toArray.zip vs.toArray)) (hs:fm X 0 (vs.toArray.zip vs.toArray).size):
 (X.map (·.2)).toList.Perm vs/\(X.map (·.2)).toList.Pairwise fun u v=>N (u,u)<=N (v,v):=by
 have eP:=Array.perm_iff_toList_perm.mp hp;rw [QW] at eP;have hsz:X.size=(vs.toArray.zip vs.toArray).size:=hp.size_eq;have wM:∀p∈X.toList,p=(p.2,p.2):=fun p hm=>by obtain ⟨v,_,rfl⟩:=eI.mp (eP.mem_iff.mp hm);rfl
 rw [Array.toList_map];refine ⟨by simpa [List.map_map,Function.comp_def] using eP.map (·.2),?_⟩;rw [vA,DY];intro i j hi hj dz;have iS:i<X.size:=by simpa using hi
 have kN:j<X.size:=by simpa using hj
 have:=hs i j (dP _) (aS dz) (hsz▸kN);rw [ui (getElem?_pos X i iS),ui (getElem?_pos X j kN)] at this;rw [<-wM _ (zL hi),<-wM _ (zL hj)];exact this
theorem ZV {P:PySem.Fin->Shared->Prop} (ho:s.heap.get? a=some (seqObj "list" vs.toArray n)) (hz:vs.length<=sizeLine)
 (lU:2<=vs.length->∀(h':Heap) (Q:SortKind->Shared->Prop),(∀b o,b≠a->s.heap.get? b=some o->h'.get? b=some o)->Q SK.kind { s with heap:=h' }->
  wpAny (model prog w) A (keyKind' vs.toArray) Q E { s with heap:=h' })
 (aF:∀h':Heap,(∀b o,b≠a->s.heap.get? b=some o->h'.get? b=some o)->ic prog w A E { s with heap:=h' })
 (af:∀v∈vs,eE (v,v))
 (h:∀out:Array Value,out.toList.Perm vs->(out.toList.Pairwise fun u v=>N (u,u)<=N (v,v))->P (.done (.ret .none)) { s with heap:=sortedHeap s.heap a vs out }):
 wpAny (model prog w) A (Builtin.«list.sort» ⟨[.ref a],[]⟩) P E s:=by
 rw [list_sort_plain];obtain ⟨e1,CT⟩:∃e1,(s.heap.update a (Obj.mapSeq fun _=> #[])).get? a=some (seqObj "list" #[] e1):=⟨_,get?_update_seq ho (fun _=> #[])⟩
 let h3:Heap:=((s.heap.update a (Obj.mapSeq fun _=> #[])).push (seqObj "tuple" vs.toArray 0)).push (seqObj "list" #[] 0)
 have keep:∀b o,b≠a->s.heap.get? b=some o->h3.get? b=some o:=fun b o hb e=>
  cR _ (cR _ ((kX _ _ (aB hb)).trans e))
 have Il:h3.get? a=some (seqObj "list" #[] e1):=cR _ (cR _ CT);have hsz:vs.toArray.size=vs.length:=by simp
 refine ah (listItems_at ho rfl (ah (listUpdate_at ho rfl (ah (seqEpoch_at CT rfl (ah (wpAny_newTuple (ah (wpAny_newList (wpAny_holding ?_) (dP _))) hz)))) (by rw [hsz];exact hz) (dP _))));have fin:∀ag:SortSt,(arrOf ag).Perm (vs.toArray.zip vs.toArray)->failedOf ag=none->fm (arrOf ag) 0 (vs.toArray.zip vs.toArray).size->
  wpAny (model prog w) A (do
   let touched:=(<-seqEpoch a) !=e1
   Builtin.List.listUpdate (.ref a) fun _=>(arrOf ag).map (·.2)
   if let some e:=failedOf ag then rule "list.sort.comparison-raised";throw e
   if touched then rule "list.sort.modified";raiseError "ValueError" "list modified during sort"
   ret .none) P E { s with heap:=h3 }:=by
  intro ag hp hf hs;obtain ⟨o1,o2⟩:=zDs hp hs;refine ah (seqEpoch_at Il rfl (ah (listUpdate_at Il rfl ?_ (dP _) ?_)))
  ·rw [hf];simp only [bne_self_eq_false,Bool.false_eq_true,if_false];exact aW (h _ o1 o2)
  ·have:=o1.length_eq;rw [sr] at this;exact Nat.le_succ_of_le (this▸hz)
 refine (show wpAny (model prog w) A _ P E { s with heap:=h3 } from ?_)
 by_cases h2:vs.toArray.size<2
 ·dsimp only;rw [if_pos h2,if_pos h2];refine ah (aW ?_);rw [StateT.run_pure];refine ah (aW (fin (SortSt.mk' general' (vs.toArray.zip vs.toArray) #[] 7 none) (Array.Perm.refl _) rfl ?_));intro i j _ dz hj;obtain rfl:i=j:=by simp at hj;lia
  exact jg _
 ·dsimp only;rw [if_neg h2,if_neg h2];refine ah (lU (by lia) h3 _ keep ?_);have:=aF h3 keep;refine ah (wpAny_mono (zAn (s:={ s with heap:=h3 }) (a₀:=vs.toArray.zip vs.toArray) (st:=SortSt.mk' SK.kind (vs.toArray.zip vs.toArray) #[] 7 none)
   (Q:=fun _ ag=>(arrOf ag).Perm (vs.toArray.zip vs.toArray)/\failedOf ag=none/\fm (arrOf ag) 0 (vs.toArray.zip vs.toArray).size)
   (fun p hp=>?_) ⟨Array.Perm.refl _,rfl,rfl⟩ rfl (by simp;lia) fun ag a1 a2 a3=>⟨a1,a2,a3⟩) ?_ fun _ _ e=>e)
  ·rw [QW] at hp;obtain ⟨v,hv,rfl⟩:=eI.mp hp;exact af v hv
  ·rintro ⟨⟨⟩,ag⟩ s' ⟨rfl,hp,hf,hs⟩;exact fin ag hp hf hs
end
section
theorem S9 {x:Value} {Q:Value->Shared->Prop} {R:Shared->List Value->Prop}
 (hc:wpAny (model prog w) A.in1 (collect x) (fun vs s1=>R s1 vs) E s)
 (h:∀s1 vs,R s1 vs->wpAny (model prog w) A.in1 (newList vs>>=fun l=>holding [l] (call (.builtin "list.sort") [l])>>=fun _=>ret l) (fun fin s'=>∃r,fin=.done (.ret r)/\Q r s') E s1):
 wpAny (model prog w) A (call (.builtin "sorted") [x]) Q E s:=by
 refine Calls.call_function_entry kind_sorted plain_sorted entry_sorted (args_sorted1 _) ?_;unfold Builtin.«sorted»;refine ah (m:=checkCount "sorted" 1 1 _) (aW ?_);refine ah (wpAny_mono hc (fun vs s1 hr=>h s1 vs hr) fun _ _ e=>e)
end
@[reducible] noncomputable def Co:SK:=⟨fun p=>numOf p.1,fun p=>∃n t,p.1=.int n t,oneType'⟩
theorem ltI: @ic Co prog w A E s:=by
 refine @ic.mk Co prog w A E s ?_;rintro st p q Q hk ⟨n,t,hp⟩ ⟨n',t',hq⟩ h;have e1: @N Co p=n:=by show numOf p.1=n;rw [hp];rfl
 have e2: @N Co q=n':=by show numOf q.1=n';rw [hq];rfl
 rw [e1,e2] at h;rw [lt'_eq,hp,hq];refine wpS_bind (wpS_get ?_);rw [show kindOf st=oneType' from hk,keyLt'_oneType];exact wpS_bind (wpS_lift (wpAny_attempt (oneLt_int ⟨rfl,wpS_pure h⟩)))
theorem zFl (hI:IntsAre vs ns) (h2:2<=vs.length) (h:Q oneType' s):wpAny (model prog w) A (keyKind' vs.toArray) Q E s:=by
 match vs,h2,hI with
 | v₁::v₂::r,_,hI=>rw [keyKind_ints hI];exact aW h
section
variable [SK] {prog:Program} {w:World} {A:Around} {E:Value->Shared->Prop} {s:Shared}
theorem Ra {vs:List Value} {Q:Value->Shared->Prop} (hz:vs.length<=sizeLine)
 (lU:2<=vs.length->∀(A:Around) (E:Value->Shared->Prop) (h':Heap) (Q:SortKind->Shared->Prop),(∀b o,s.heap.get? b=some o->h'.get? b=some o)->Q SK.kind { s with heap:=h' }->
  wpAny (model prog w) A (keyKind' vs.toArray) Q E { s with heap:=h' })
 (aF:∀(A:Around) (E:Value->Shared->Prop) (h':Heap),(∀b o,s.heap.get? b=some o->h'.get? b=some o)->ic prog w A E { s with heap:=h' })
 (af:∀v∈vs,eE (v,v))
 (h:∀(out:Array Value) (h':Heap),out.toList.Perm vs->(out.toList.Pairwise fun u v=>N (u,u)<=N (v,v))->(∀b o,s.heap.get? b=some o->h'.get? b=some o)->
  (∃e,h'.get? s.heap.objs.size=some (seqObj "list" out e))->Q (.ref s.heap.objs.size) { s with heap:=h' }):
 wpAny (model prog w) A (newList vs>>=fun l=>holding [l] (call (.builtin "list.sort") [l])>>=fun _=>ret l) (fun fin s'=>∃r,fin=.done (.ret r)/\Q r s') E s:=by
 let h1:Heap:=s.heap.push (seqObj "list" vs.toArray 0)
 have zc:h1.get? s.heap.objs.size=some (seqObj "list" vs.toArray 0):=jY _ rfl;have up:∀(h':Heap),(∀b o,b≠s.heap.objs.size->h1.get? b=some o->h'.get? b=some o)->∀b o,s.heap.get? b=some o->h'.get? b=some o:=fun h' hk b o e=>
  hk b o (h_ (dr e)) (cR _ e)
 refine ah (wpAny_newList ?_ hz);refine ah (wpAny_holding (wpAny_call_entry (s:={ s with heap:=h1 }) slot_list_sort ⟨_,zc,rfl⟩ entry_list_sort (ZV zc hz (fun h2 h' Q hk hq=>lU h2 _ _ h' Q (up h' hk) hq) (fun h' hk=>aF _ _ h' (up h' hk)) af fun out o1 o2=>⟨_,rfl,?_⟩) (args_list_sort _)));refine aW ⟨_,rfl,h out _ o1 o2 (fun b o e=>?_) (sortedHeap_at zc)⟩;have hb:b<s.heap.objs.size:=dr e;rw [sortedHeap_old (h_ hb) (show b<h1.objs.size by show b<(s.heap.push _).objs.size;rw [size_push'];exact Nat.lt_succ_of_lt hb)];exact cR _ e
end
end TS
namespace L2
open PySem PySem.Spec PyProof.Rows TS
theorem Qx:∀{us:List Value} {ns:List Int},us.length=ns.length->(∀(j:Nat) v i,us[j]?=some v->ns[j]?=some i->∃t,v=.int i t)->IntsAre us ns
 | [],[],_,_=>.nil
 | u::us,n::ns,hl,h=>by obtain ⟨t,rfl⟩:=h 0 u n rfl rfl;exact .cons _ _ (Qx (by simpa using hl) fun j v i e1 e2=>h (j+1) v i (by simpa using e1) (by simpa using e2))
 | [],_::_,hl,_=>by simp at hl
 | _::_,[],hl,_=>by simp at hl
theorem GV (h:IntsAre us ns):us.map numOf=ns/\∀u∈us,∃n t,u=.int n t:=by
 induction h with
 | nil=>exact ⟨rfl,fun _ h=>nomatch h⟩
 | cons n t h ih=>
  obtain ⟨a,b⟩:=ih;refine ⟨by rw [fj,a];rfl,fun u hu=>?_⟩;rcases eh.mp hu with rfl | hu
  ·exact ⟨n,t,rfl⟩
  ·exact b u hu
theorem Sk:∀{us:List Value},(∀u∈us,∃n t,u=.int n t)->bq ((us.map numOf).map V.int) us
 | [],_=>.nil
 | u::us,h=>by obtain ⟨n,t,rfl⟩:=h u dN;exact .cons ⟨t,rfl⟩ (Sk fun v hv=>h v (f_ _ hv))
theorem Inv.at_ (I:Inv X pins σ H s) (k:∀b o,s.heap.get? b=some o->s1.heap.get? b=some o) (hg:s1.gens=s.gens) (hd:s1.drawn=s.drawn) (ho:s1.os=s.os):Inv X pins σ H s1:=by
 have e:s1={ s with heap:=s1.heap,toks:=s1.toks }:=by obtain ⟨h1,g1,d1,t1,o1⟩:=s1;cases hg;cases hd;cases ho;rfl
 rw [e];exact I.kept (t':=s1.toks) k
section
theorem ZN (hc:X.calm=true):ug X (.builtin "sorted") (fun xs H Q=>∃(p:Addr) (kvs:List (Key×V)) (ns:List Int),xs=[.ref p]/\H p=some (.dK kvs)/\kvs.map (·.1)=ns.map Sum.inl/\
 ∀(l:Addr) (ql:List Int),H l=none->ql.Perm ns->ql.Pairwise (·<=·)->Q (.ref l) (upd H l (.lst (ql.map V.int)))):=by
 intro pins s σ H xs us Q I r h;obtain ⟨p,kvs,ns,rfl,hp,m5,q⟩:=h;obtain ⟨u,rfl,ru⟩:=zU r;cases ru;obtain ⟨hz,hs,vs,hv,hD⟩:=(show eK X.prog X.w H s.heap p (.dK kvs) from I.af p _ hp);obtain ⟨ep,kQ⟩:=hD.dictAt;have hlv:kvs.length=vs.length:=Paired.length hv;have VS:kvs.length=ns.length:=by have:=congrArg List.length m5;simpa using this
 refine S9 (R:=fun s1 us=>Inv X pins σ H s1/\(∀b o,s.heap.get? b=some o->s1.heap.get? b=some o)/\IntsAre us ns) (ZP (I.ok.hd hc) hs kQ (BN hlv hz) fun s1 acc k hg hd ho _ hi=>?_) ?_
 ·refine ⟨I.at_ k hg hd ho,k,Qx (by rw [sr,hi.1];lia) fun j v i e1 e2=>?_⟩;obtain ⟨key,x,g1,g2⟩:=hi.2 j v (by simpa using e1);have hk:(kvs.map (·.1))[j]?=some (Sum.inl i):=by rw [m5,fG,e2];rfl
  rw [fG] at hk
  cases eQ:kvs[j]? with
  | none=>rw [eQ] at hk;cases hk
  | some kv=>
   rw [eQ] at hk;obtain ⟨y,hy,ey,_⟩:=Sr hv eQ;rw [g1] at hy;cases hy;have e:kv.1=Sum.inl i:=dM hk;rw [e] at ey;subst ey;rcases t8 (show xr (Sum.inl i) v=true from g2) with ⟨i',t,e3,rfl⟩ | ⟨x',t,e3,rfl⟩
   ·cases e3;exact ⟨t,rfl⟩
   ·cases e3
 ·rintro s1 us ⟨I1,_,hI⟩;have AD:us.length=ns.length:=by rw [<-(GV hI).1];simp
  refine @Ra Co X.prog X.w _ _ s1 us _ (by lia) (fun h2 A E h' Q _ hq=>zFl (s:={ s1 with heap:=h' }) hI h2 hq) (fun A E h' _=>ltI) (fun v hv=>?_) fun out h' o1 o2 k2 he=>?_
  ·obtain ⟨n,t,e⟩:=(GV hI).2 v hv;exact ⟨n,t,e⟩
  ·obtain ⟨e,he⟩:=he;have bQ:∀u∈out.toList,∃n t,u=Value.int n t:=fun u hu=>(GV hI).2 u (o1.mem_iff.mp hu);have fr:H s1.heap.objs.size=none:=I1.af.fresh (av _);have rL:(out.toList.map numOf).Perm ns:=by rw [<-(GV hI).1];exact o1.map numOf
   refine ⟨.ref s1.heap.objs.size,_,I1.laid (t':=s1.toks) k2 (av _) (show eK X.prog X.w _ h' _ (.lst ((out.toList.map numOf).map V.int)) from ⟨?_,out.toList,e,Sk bQ,by rw [he]⟩),rfl,q _ _ fr rL ?_⟩
   ·rw [aI,rL.length_eq];exact BN VS hz
   ·rw [vA];exact o2
end
def qk (a b m:Int):HO:=.tup [.int a,.int b,.int m]
def AY (H:Hp):Value->Int
 | .ref q=>match H q with
  | some (.tup [.int a,.int b,_])=>a*64+b
  | _=>0
 | _=>0
@[reducible] noncomputable def wu (H:Hp) (g:Int->Int->Int):SK:=
 ⟨fun p=>AY H p.1,fun p=>∃q a b,p.1=.ref q/\H q=some (qk a b (g a b))/\0<=a/\a<64/\0<=b/\b<64,tuples' true⟩
theorem Fw (h:H q=some (qk a b m)):AY H (.ref q)=a*64+b:=by show (match H q with | some (.tup [.int a,.int b,_])=>a*64+b | _=>0)=_;rw [h];rfl
section
def yg (H:Hp) (h:Heap):Prop:=∀q a b m,H q=some (qk a b m)->∃t1 t2 t3 o n,h.get? q=some o/\o.cls=.type "tuple"/\o.data=.seq #[.int a t1,.int b t2,.int m t3] n
theorem yg.keep (x:yg H h) (k:∀b o,h.get? b=some o->h'.get? b=some o):yg H h':=fun q a b m e=>by obtain ⟨t1,t2,t3,o,n,e1,e2⟩:=x q a b m e;exact ⟨t1,t2,t3,o,n,k _ _ e1,e2⟩
theorem zAr (ok:eS P w H h):yg H h:=fun q a b m e=>by obtain ⟨_,its,hv,o,e1,e2,n,e3⟩:=(show eK P w H h q (qk a b m) from ok q _ e);rcases hv with _ | ⟨⟨t1,rfl⟩,hv⟩;rcases hv with _ | ⟨⟨t2,rfl⟩,hv⟩;rcases hv with _ | ⟨⟨t3,rfl⟩,hv⟩;cases hv;exact ⟨t1,t2,t3,o,n,e1,e2,e3⟩
theorem ltT (ht:yg H s.heap): @ic (wu H g) prog w A E s:=by
 refine @ic.mk (wu H g) prog w A E s ?_;rintro st p q Q hk ⟨x,a,b,hp,hx,_,_,b0,b1⟩ ⟨y,a',b',hq,hy,a0',a1',b0',b1'⟩ h;have e1: @N (wu H g) p=a*64+b:=by show AY H p.1=_;rw [hp,Fw hx]
 have e2: @N (wu H g) q=a'*64+b':=by show AY H q.1=_;rw [hq,Fw hy]
 rw [e1,e2] at h;obtain ⟨t1,t2,t3,ox,n,ox1,_,ox2⟩:=ht x _ _ _ hx;obtain ⟨u1,u2,u3,oy,n',oy1,_,oy2⟩:=ht y _ _ _ hy;rw [lt'_eq,hp,hq];refine wpS_bind (wpS_get ?_);rw [show kindOf st=tuples' true from hk];refine wpS_bind (wpS_lift (wpAny_attempt (PySem.W.kat_lt ox1 ox2 oy1 oy2 ?_)));show PySem.W.KatLex prog w A true (decide (3<3)) _ [(.int a t1,.int a' u1),(.int b t2,.int b' u2),(.int (g a b) t3,.int (g a' b') u3)] 0 s;refine PySem.W.kat_cons (wpAny_eqBool_int (PySem.W.kat_go (fun e=>PySem.W.kat_yes ?_) fun e=>PySem.W.kat_no ?_))
 ·have ea:a=a':=by simpa using e
  subst ea;refine PySem.W.kat_cons (wpAny_eqBool_int (PySem.W.kat_go (fun e=>PySem.W.kat_yes ?_) fun e=>PySem.W.kat_no ?_))
  ·have eb:b=b':=by simpa using e
   subst eb;refine PySem.W.kat_cons (wpAny_eqBool_int (PySem.W.kat_go (fun _=>PySem.W.kat_yes (PySem.W.kat_nil ⟨rfl,wpS_pure ?_⟩)) fun e=>absurd e (by simp)));have:decide (a*64+b<a*64+b)=decide (3<3):=by simp
   rw [<-this];exact h
  ·have:decide (a*64+b<a*64+b')=decide (b<b'):=by
    by_cases hb:b<b'
    ·rw [jZ hb,jZ (by lia)]
    ·rw [gA hb,gA (by lia)]
   rw [this] at h;exact PySem.W.kat_one _ _ (lt_int (show _ from ⟨rfl,wpS_pure h⟩))
 ·have ea:a≠a':=by simpa using e
  have:decide (a*64+b<a'*64+b')=decide (a<a'):=by
   by_cases hb:a<a'
   ·rw [jZ hb,jZ (by lia)]
   ·rw [gA hb,gA (by lia)]
  rw [this] at h;exact oneLt_int ⟨rfl,wpS_pure h⟩
theorem zFk (ht:yg H s.heap) {vs:List Value} {Q:SortKind->Shared->Prop} (hv:∀v∈vs,@eE (wu H g) (v,v)) (h2:2<=vs.length) (h:Q (tuples' true) s):wpAny (model prog w) A (keyKind' vs.toArray) Q E s:=by
 have key:∀l:List Value,(∀v∈l,@eE (wu H g) (v,v))->∃fs,PySem.W.KatTups s.heap l fs/\fs.length=l.length/\∀f∈fs,∃n t,f=Value.int n t:=by
  intro l
  induction l with
  | nil=>exact fun _=>⟨[],PySem.W.KatTups.nil,rfl,fun _ h=>nomatch h⟩
  | cons v r ih=>
   intro hl;obtain ⟨fs,k1,k2,k3⟩:=ih fun v hv=>hl v (f_ _ hv);obtain ⟨q,a,b,e,hq,_⟩:=hl v dN;obtain rfl:v=.ref q:=e;obtain ⟨t1,t2,t3,o,n,e1,e2,e3⟩:=ht q _ _ _ hq;refine ⟨.int a t1::fs,PySem.W.KatTups.cons e1 e2 e3 rfl k1,by simp [k2],fun f hf=>?_⟩;rcases eh.mp hf with rfl | hf
   ·exact ⟨a,t1,rfl⟩
   ·exact k3 f hf
 obtain ⟨fs,k1,k2,k3⟩:=key vs hv;exact PySem.W.kat_kind (T:=.type "int") k1 (by lia) (fun v hv=>by obtain ⟨n,t,rfl⟩:=k3 v hv;exact PySem.W.Looks.of_pure rfl) (by decide) h
end
section
theorem zA8 {ps:List Addr} {us:List Value} (h:bq (ps.map V.ref) us):us=ps.map Value.ref:=by
 induction ps generalizing us with
 | nil=>cases h;rfl
 | cons p ps ih=>
  cases h with
  | cons r t=>
   cases r;rw [fj,ih t]
theorem Sl:∀(ps:List Addr),bq (ps.map V.ref) (ps.map Value.ref)
 | []=>.nil
 | p::ps=>.cons rfl (Sl ps)
theorem ZO:ug X (.builtin "sorted") (fun xs H Q=>∃(p:Addr) (ps:List Addr) (g:Int->Int->Int),xs=[.ref p]/\H p=some (.lst (ps.map V.ref))/\
 (∀q∈ps,∃a b,H q=some (qk a b (g a b))/\0<=a/\a<64/\0<=b/\b<64)/\
 ∀(l:Addr) (fv:List Addr),H l=none->fv.Perm ps->(fv.Pairwise fun x y=>AY H (.ref x)<=AY H (.ref y))->Q (.ref l) (upd H l (.lst (fv.map V.ref)))):=by
 intro pins s σ H xs us Q I r h;obtain ⟨p,ps,g,rfl,hp,jd,q⟩:=h;obtain ⟨u,rfl,ru⟩:=zU r;cases ru;obtain ⟨hz,its,n,rv,e0⟩:=(show eK X.prog X.w H s.heap p (.lst (ps.map V.ref)) from I.af p _ hp);rw [aI] at hz;obtain rfl:=zA8 rv;refine S9 (R:=fun s1 us=>Inv X pins σ H s1/\us=ps.map Value.ref) (collect_list (vs:=ps.map Value.ref) ⟨_,e0,rfl,n,rfl⟩ ⟨I.at_ (s1:={ s with heap:=_ }) (fun b o e=>?_) rfl rfl rfl,rfl⟩ (by simpa using hz)) ?_
 ·have hb:b<s.heap.objs.size:=dr e;rw [Heap.get?_update_ne _ _ _ _ (h_ hb)];exact cR _ e
 ·rintro s1 us ⟨I1,rfl⟩;have ht:yg H s1.heap:=zAr I1.af;have af:∀v∈ps.map Value.ref,@eE (wu H g) (v,v):=fun v hv=>by
   obtain ⟨x,hx,rfl⟩:=eI.mp hv;obtain ⟨a,b,h1,h2⟩:=jd x hx;exact ⟨x,a,b,rfl,h1,h2⟩
  refine @Ra (wu H g) X.prog X.w _ _ s1 _ _ (by simpa using hz) (fun h2 A E h' Q hk hq=>zFk (s:={ s1 with heap:=h' }) (ht.keep hk) af h2 hq) (fun A E h' hk=>ltT (s:={ s1 with heap:=h' }) (ht.keep hk)) af fun out h' o1 o2 k2 he=>?_;obtain ⟨e,he⟩:=he;obtain ⟨fv,lS⟩:∃fv:List Addr,out.toList=fv.map Value.ref:=by
   have:∀l:List Value,(∀v∈l,v∈ps.map Value.ref)->∃fv:List Addr,l=fv.map Value.ref:=by
    intro l
    induction l with
    | nil=>exact fun _=>⟨[],rfl⟩
    | cons v r ih=>
     intro hl;obtain ⟨fv,e⟩:=ih fun v hv=>hl v (f_ _ hv);obtain ⟨x,_,e1⟩:=eI.mp (hl v dN);exact ⟨x::fv,by rw [fj,e,e1]⟩
   exact this _ fun v hv=>o1.mem_iff.mp hv
  rw [lS] at o1 o2;have vo:Function.Injective Value.ref:=fun a b e=>by cases e;rfl
  have rL:fv.Perm ps:=by have:=o1.map (fun v:Value=>match v with | .ref a=>a | _=>0);simpa [List.map_map,Function.comp_def] using this
  have fr:H s1.heap.objs.size=none:=I1.af.fresh (av _);refine ⟨.ref s1.heap.objs.size,_,I1.laid (t':=s1.toks) k2 (av _) (show eK X.prog X.w _ h' _ (.lst (fv.map V.ref)) from ⟨?_,out.toList,e,by rw [lS];exact Sl fv,by rw [he]⟩),rfl,q _ _ fr rL ?_⟩
  ·rw [aI,rL.length_eq];exact hz
  ·rw [vA] at o2;exact o2
end
open PySem PySem.Spec PyProof.Rows
def zFd:V->Option Int->Option Int->Hp->VK->Prop:=fun x lo hi H Q=>∃a xs,x=.ref a/\H a=some (.tup xs)/\
 ¬(cv xs.length 0 lo=0/\cv xs.length xs.length hi=xs.length)/\∀p,H p=none->Q (.ref p) (upd H p (.tup (oX xs lo hi)))
theorem zA3:IL X zFd:=by intro pins s σ H x v vl vu lo hi sl Q I rx hs pl pu h;obtain ⟨a,xs,e,h1,h2,q⟩:=h;exact Fh pins s σ H x v vl vu lo hi sl Q I rx hs pl pu ⟨a,xs,e,dm.of h1,h2,q⟩
end L2
namespace Y0
open PySem L2
seal L2.PE L2.PA L2.PT L2.PS L2.gB L2.PG L2.pW L2.PI L2.PO
abbrev xg:=Nat×Nat×Int
def jk (H:Hp) (q:Addr) (x:xg):Prop:=H q=some (qk x.1 x.2.1 x.2.2)
theorem jk.same (h:jk H q x) (s:a8 H H'):jk H' q x:=s _ _ h
def wc (H:Hp) (q:Addr):xg:=match H q with
 | some (.tup [.int a,.int b,.int v])=>(a.toNat,b.toNat,v)
 | _=>(0,0,0)
theorem PK (h:jk H q x):wc H q=x:=by unfold wc;rw [h];obtain ⟨a,b,v⟩:=x;rfl
theorem XG {ps:List Addr} {L:List xg} (h:Paired (jk H) ps L):L=ps.map (wc H):=by
 induction h with
 | nil=>rfl
 | cons r t ih=>rw [fj,<-ih,PK r]
theorem Qf:∀{ps:List Addr},(∀q∈ps,jk H q (wc H q))->Paired (jk H) ps (ps.map (wc H))
 | [],_=>.nil
 | q::_,h=>.cons (h q dN) (Qf fun r hr=>h r (f_ _ hr))
theorem Zp {l:List α} {m:List β} (k:Paired F l m):∀x∈l,∃y∈m,F x y:=by
 induction k with
 | nil=>intro x h;cases h
 | cons r t ih=>
  intro x h;rcases eh.mp h with rfl | h
  ·exact ⟨_,dN,r⟩
  ·obtain ⟨y,hy,ry⟩:=ih x h;exact ⟨y,f_ _ hy,ry⟩
def yj (st:MU.St) (t:Bool) (k:MU.Key):Option xg:=if k.1=t then (val st k).map fun v=>(k.2.1,k.2.2,v) else none
structure HB (st:MU.St) (t:Bool) (L:List xg):Prop where
 up:L.Pairwise fun x y=>((x.1:Int)*64+x.2.1)<=((y.1:Int)*64+y.2.1)
 has:∀a b v,(a,b,v)∈L↔val st (t,a,b)=some v
 once:(L.map fun x=>(x.1,x.2.1)).Nodup
def Px (C:Addr):Sp:=fun vs H Q _=>∃(p be rl bd:Addr) (n:Nat) (F:MU.dh) (st:MU.St) (t:Bool),vs=[.ref p,.str (mL t)]/\gw C H p be rl bd n F st/\cq n st/\n<=8/\st.rows.length<=16500000/\
 ∀l H' ps L,H l=none->a8 H H'->H' l=some (.lst (ps.map V.ref))->Paired (jk H') ps L->HB st t L->Q (.ref l) H'
theorem zBx {kvs:List (List Key×V)} (h:∀kv∈kvs,∃k:MU.Key,kv.1=cx k):∃ks:List MU.Key,kvs.map (·.1)=ks.map cx:=by
 induction kvs with
 | nil=>exact ⟨[],rfl⟩
 | cons kv r ih=>
  obtain ⟨ks,e⟩:=ih fun kv eQ=>h kv (f_ _ eQ);obtain ⟨k,e1⟩:=h kv dN;exact ⟨k::ks,by rw [fj,fj,e,e1]⟩
theorem zH8:oX (mq x) (some 1) none=[V.int (x.a:Int),V.int (x.b:Int),V.int x.v]:=by unfold oX mq;rw [jv,show (some (1:Int))=some ((1:Nat):Int) from rfl,gS];rfl
theorem zDw:¬(cv (mq x).length 0 (some 1)=0/\cv (mq x).length (mq x).length none=(mq x).length):=fun z=>by have h:=z.1;rw [show (some (1:Int))=some ((1:Nat):Int) from rfl,gS] at h;have e:(mq x).length=4:=rfl;rw [e] at h;cases h
theorem Th:∀{l:List α},(l.map f).Nodup->l.Nodup
 | [],_=>List.nodup_nil
 | a::l,h=>by rw [fj,List.nodup_cons] at h;exact List.nodup_cons.mpr ⟨fun z=>h.1 (List.mem_map_of_mem z),Th h.2⟩
theorem zFm:decide (V.str (mL a)=V.str (mL b))=decide (a=b):=decide_eq_decide.mpr ⟨fun q=>RC (V.str.inj q),fun q=>by rw [q]⟩
section
theorem zHg:cC ["self","kind"] ["self","kind"] (aU aN):=de
theorem zIj:jB (aU aN) ["self","kind"] (nP [(".0",.local),("key",.local),("kind",.free),("self",.free)]) ["key","kind","self"] [none,some 1,some 0]:=nS
theorem zHv:(["key","kind","self"]:List Str).Nodup:=by decide+kernel
theorem u_ {f C:Addr} {fd:FuncData} (F:gC K "best_drawn" "Closing.best_drawn" aN f fd) (T:qc K mg C) (hS:mg "sorted"=none):au P w K mg base a7 1 f fd ["self","kind"] (Px C):=by
 refine F.dw zHg fun _ A _ s H _ Q E hr h=>?_;obtain ⟨p,be,rl,bd,n,Fa,st,t,rfl,c,g,h8,hlen,k⟩:=h;have hu:=mJ hr;refine ⟨_,aA (cG (lB ZO (by rfl) hS PyProof.Rows.boot_sorted (bR (zBj (qg rfl (zBh (fq (pv 0) rfl)) zIj (fun cl ex s0 H0=>⟨bV 0 zHv,B5 (ef iu (bc (pv 0)) (pv 1)),BE zA3 (bc (cY dC (sT (K:=K) rfl (pv 2) rfl) (ot hu (sT (K:=K) rfl (pv 2) rfl) (pv 0) (fun _ _=>rfl)))) (B8 aG) B7⟩)))))),?_⟩;obtain ⟨dx,hp⟩:=c.ins;obtain ⟨qs,gH,cw⟩:=c.rows;obtain ⟨kvs,gq,tI,eQ⟩:=c.best;obtain ⟨ks,Di⟩:=zBx tI.2;have hkn:kvs.length=ks.length:=by have:=congrArg List.length Di;simpa using this
 refine ⟨_,rfl,p,C,dx,_,_,rfl,hp,T.cl,T.nE,sO,bd,kvs,rfl,gq,fun pI o Da di=>?_⟩;rw [Di] at pI;have knd:ks.Nodup:=Th pI;have known:∀kk∈ks,∃j x,st.best kk=some j/\ai st j=some x/\x.key=kk:=fun kk hk=>by
  have:(fJ kvs (cx kk)).isSome=true:=by
   rw [<-xO];have hm:cx kk∈kvs.map (·.1):=by rw [Di];exact List.mem_map_of_mem hk
   obtain ⟨kv,h1,h2⟩:=eI.mp hm;exact List.any_eq_true.mpr ⟨kv,h1,by simpa using h2⟩
  rw [eQ] at this
  cases hb:st.best kk with
  | none=>rw [hb] at this;cases this
  | some j=>
   obtain ⟨x,h1,h2⟩:=g.at_ _ _ hb;exact ⟨j,x,rfl,h1,h2⟩
 have WL:bd≠p:=cB gq hp nofun;have bdr:bd≠rl:=cB gq gH nofun;have WY:Da≠bd:=fun z=>by rw [z,aq] at di;cases di
 have Wm:H Da=none:=by rwa [aj WY] at di
 refine YI (a:=bd) (o:=o) (kvs:=kvs) (fun i ae H'=>∃v ps L,ae=[v,some (.str (mL t)),some (.ref p)]/\H' Da=some (.lst (ps.map V.ref))/\Paired (jk H') ps L/\L=(ks.take i).filterMap (yj st t)/\ps.length<=i/\H' bd=some (.gY o (.dT kvs))/\∀b x,H b=some x->b≠bd->H' b=some x)
  ⟨none,[],[],rfl,aq,.nil,rfl,dP _,by rw [aj (aB WY),aq],fun b x e ne=>by rw [aj (aP e Wm),aj ne];exact e⟩ ?_ ?_ ?_
 ·rintro i ae H2 _ ⟨v,ps,L,rfl,_,_,_,_,e,_⟩;exact e
 ·rintro i kx vx q ae H2 hi hq ⟨v,ps,L,rfl,e2,jd,hL,eP,eb,kp⟩;obtain ⟨kk,m6,rfl⟩:∃kk,ks[i]?=some kk/\kx=cx kk:=by
   have:=congrArg (fun l=>l[i]?) Di;simp only [fG,hi] at this
   cases hk:ks[i]? with
   | none=>rw [hk] at this;cases this
   | some kk=>rw [hk] at this;exact ⟨kk,rfl,dM this⟩
  have hil:i<ks.length:=(gu.mp m6).1;have et:ks.take (i+1)=ks.take i++[kk]:=by rw [lu,m6];rfl
  obtain ⟨tt,a,b⟩:=kk;obtain ⟨j,x,rR,hx,hxk⟩:=known _ (gK m6);have Ms:val st (tt,a,b)=some x.v:=by unfold val;rw [rR];show (ai st j).map _=_;rw [hx];rfl
  refine ⟨_,rfl,a_ hq rfl ⟨_,rfl,rfl,_,rfl,?_⟩⟩;refine (show if decide (V.str (mL tt)=V.str (mL t))=true then _ else _ from ?_);rw [zFm]
  by_cases ht:tt=t
  ·refine j9 ht ?_;obtain ⟨q',r,pw,pu,g1,_,_,g4,g5,_⟩:=Fs cw hx;have kQ:jf (qs.map V.ref) (j:Int)=some (.ref q'):=lg (by rw [fG,g1];rfl);have dg:fL H2 bd (.ref q) (some (.int (j:Int))):=.inr ⟨kvs,_,q,.inr ⟨o,eb⟩,rfl,hq,by rw [eQ,rR];rfl⟩;have Ce:∀{b:Addr} {xs:List V},H b=some (.tup xs)->H2 b=some (.tup xs):=fun e=>kp _ _ e (cB e gq nofun);refine ⟨_,rfl,p,C,dx,_,_,rfl,kp _ _ hp (aB WL),T.cl,T.nR,uo,_,rfl,p,C,dx,_,_,rfl,kp _ _ hp (aB WL),T.cl,T.nE,sO,_,rfl,bd,_,rfl,dg,rl,_,_,_,rfl,rfl,kp _ _ gH (aB bdr),kQ,a_ (Ce g4) rfl ⟨_,rfl,pw,_,rfl,Ce g5,zDw,fun kt nH=>?_⟩⟩;rw [zH8];have VT:=i_ hxk;have e3:upd H2 kt (.tup [V.int (x.a:Int),V.int (x.b:Int),V.int x.v]) kt=some (.tup [V.int (x.a:Int),V.int (x.b:Int),V.int x.v]):=aq;have s3:=bf (o:=.tup [V.int (x.a:Int),V.int (x.b:Int),V.int x.v]) nH;generalize upd H2 kt (.tup [V.int (x.a:Int),V.int (x.b:Int),V.int x.v])=H3 at*;have oO:=s3 _ _ e2;have nD:∀{b:Addr} {o:HO},H3 b=some o->o≠.lst (ps.map V.ref)->upd H3 Da (.lst (ps.map V.ref++[.ref kt])) b=some o:=fun {b o} e ne=>by rw [aj (cB e oO ne)];exact e
   have keep:∀b y,jk H2 b y->jk (upd H3 Da (.lst (ps.map V.ref++[.ref kt]))) b y:=fun b y e=>nD (s3 _ _ e) nofun;refine ⟨_,oO,?_,_,ps++[kt],L++[(a,b,x.v)],rfl,?_,?_,?_,?_,?_,fun b' y e ne=>?_⟩
   ·rw [aI];have:=tI.1;exact pT (show ps.length<=16500000 by lia) (by decide)
   ·rw [aq,fY];rfl
   ·refine Au (iI jd keep) (.cons ?_ .nil);have:jk H3 kt (a,b,x.v):=by
     unfold jk qk;rw [e3,VT.2.1,VT.2.2]
    exact nD this nofun
   ·rw [et,List.filterMap_append,hL];have:yj st t (tt,a,b)=some (a,b,x.v):=by
     unfold yj;rw [if_pos ht,Ms];rfl
    simp [this]
   ·rw [iT];show ps.length+1<=i+1;exact xP eP
   ·exact nD (s3 _ _ eb) nofun
   ·rw [aj (aP e Wm)];exact s3 _ _ (kp _ _ e ne)
  ·refine l8 ht ⟨_,ps,L,rfl,e2,jd,?_,by exact iN eP,eb,kp⟩;rw [et,List.filterMap_append,hL];have:yj st t (tt,a,b)=none:=if_neg ht;simp [this]
 ·rintro ae H2 ⟨v,ps,L,rfl,e2,jd,hL,eP,eb,kp⟩;refine ⟨bd,o,_,eb,fun o u z=>?_,?_⟩
  ·have z:H bd=some (.gY o u):=z;rw [gq] at z;cases z
  have s3:a8 H (upd H2 bd (.dT kvs)):=fun b x e=>by
   by_cases hb:b=bd
   ·subst hb;rw [gq] at e;cases e;exact aq
   ·rw [aj hb];exact kp _ _ e hb
  have nb:∀{b:Addr} {x:HO},H2 b=some x->x≠.gY o (.dT kvs)->upd H2 bd (.dT kvs) b=some x:=fun {b x} e ne=>by rw [aj (cB e eb ne)];exact e
  have e3:=nb e2 nofun;have CP:Paired (jk (upd H2 bd (.dT kvs))) ps L:=iI jd fun b y e=>nb e nofun;generalize upd H2 bd (.dT kvs)=H3 at*;have bQ:ks.take kvs.length=ks:=by rw [hkn];exact jN
  rw [bQ] at hL;have Mc:∀a b v,(a,b,v)∈L↔val st (t,a,b)=some v:=fun a b v=>by
   rw [hL,tP]
   constructor
   ·rintro ⟨kk,hk,e⟩;unfold yj at e
    by_cases nH:kk.1=t
    ·rw [if_pos nH] at e
     cases hv:val st kk with
     | none=>rw [hv] at e;cases e
     | some v'=>
      rw [hv] at e;cases e;obtain ⟨t',a',b'⟩:=kk;cases nH;exact hv
    ·rw [if_neg nH] at e;cases e
   ·intro hv;have hb:∃j,st.best (t,a,b)=some j:=by
     unfold val at hv
     cases hq:st.best (t,a,b) with
     | none=>rw [hq] at hv;cases hv
     | some j=>exact ⟨j,rfl⟩
    obtain ⟨j,hj⟩:=hb;have:(fJ kvs (cx (t,a,b))).isSome=true:=by rw [eQ,hj];rfl
    rw [<-xO] at this;obtain ⟨kv,h1,h2⟩:=List.any_eq_true.mp this;have hm:cx (t,a,b)∈ks.map cx:=by rw [<-Di];exact eI.mpr ⟨kv,h1,by simpa using h2⟩
    obtain ⟨kk,h3,h4⟩:=eI.mp hm;refine ⟨(t,a,b),Qz h4▸h3,?_⟩;unfold yj;rw [if_pos rfl,hv];rfl
  have small:∀q∈ps,∃x∈L,jk H3 q x/\x.1<8/\x.2.1<8:=fun q hq=>by
   obtain ⟨x,hx,vj⟩:=Zp CP q hq;refine ⟨x,hx,vj,?_⟩;obtain ⟨a,b,v⟩:=x;have hv:=(Mc a b v).mp hx;unfold val at hv
   cases hq:st.best (t,a,b) with
   | none=>rw [hq] at hv;cases hv
   | some j=>
    obtain ⟨w',h1,h2⟩:=g.at_ _ _ hq;have h3:=g.lt _ _ h1;have h4:=i_ h2;exact ⟨by show a<8;have:=h4.2.1;lia,by show b<8;have:=h4.2.2;lia⟩
  refine ⟨Da,ps,fun a b=>(val st (t,a.toNat,b.toNat)).getD 0,rfl,e3,fun q hq=>?_,fun l fv hl rL Mu=>?_⟩
  ·obtain ⟨⟨a,b,v⟩,hx,vj,ha,hb⟩:=small q hq;refine ⟨a,b,?_,by exact ip (a+0),by lia,by exact ip (b+0),by lia⟩;show H3 q=some (qk a b ((val st (t,((a:Int)).toNat,((b:Int)).toNat)).getD 0));rw [hX,hX,(Mc a b v).mp hx];exact vj
  ·have MX:H l=none:=by
    cases q:H l with
    | none=>rfl
    | some x=>rw [s3 _ _ q] at hl;cases hl
   have s4:=bf (o:=.lst (fv.map V.ref)) hl;have zp:∀q∈fv,jk H3 q (wc H3 q):=fun q hq=>by obtain ⟨x,_,vj,_⟩:=small q (rL.mem_iff.mp hq);rw [PK vj];exact vj
   have NP:(fv.map (wc H3)).Perm L:=by rw [XG CP];exact rL.map _
   refine k l _ fv (fv.map (wc H3)) MX (s3.trans s4) aq (iI (Qf zp) fun q x e=>e.same s4) ⟨?_,fun a b v=>?_,?_⟩
   ·rw [vA];refine List.Pairwise.imp_of_mem (fun {x y} hx hy e=>?_) Mu;rw [Fw (zp x hx),Fw (zp y hy)] at e;exact e
   ·rw [NP.mem_iff];exact Mc a b v
   ·refine ((NP.map _).nodup_iff).mpr ?_;rw [hL];unfold List.Nodup;rw [vA];refine List.Pairwise.filterMap _ (fun a a' cK b hb b' dO e=>cK ?_) knd;unfold yj at hb dO
    by_cases h1:a.1=t
    ·by_cases h2:a'.1=t
     ·rw [if_pos h1] at hb;rw [if_pos h2] at dO
      cases hv:val st a with
      | none=>rw [hv] at hb;cases hb
      | some v1=>
       cases eO:val st a' with
       | none=>rw [eO] at dO;cases dO
       | some v2=>
        rw [hv] at hb;rw [eO] at dO;cases hb;cases dO;have e:(a.2.1,a.2.2)=(a'.2.1,a'.2.2):=e;exact Prod.ext (h1.trans h2.symm) e
     ·rw [if_neg h2] at dO;cases dO
    ·rw [if_neg h1] at hb;cases hb
end
end Y0
namespace MU
def iY (st:St):Prop:=(∀(i:Nat) (r:Row),st.rows[i]?=some r->r.used.length<=2/\∀j∈r.used,j<i)/\∀b,st.bar=some b->∃r,st.rows[b]?=some r/\iX r.cD
theorem Sf {w:ak} (h:iY st) (hu:us.length<=2/\∀j∈us,j<st.rows.length):iY (take st w word us):=by
 unfold take;split
 ·refine ⟨fun i r hr=>?_,fun b hb=>?_⟩
  ·have hr:(st.rows++[⟨w,word,us⟩])[i]?=some r:=hr
   by_cases hi:i<st.rows.length
   ·rw [me hi] at hr;exact h.1 i r hr
   ·rw [mC (by exact mh hi)] at hr
    cases hk:i-st.rows.length with
    | zero=>
     rw [hk] at hr;cases hr;exact ⟨hu.1,fun j hj=>by have:=hu.2 j hj;lia⟩
    | succ k=>rw [hk] at hr;cases hr
  ·have hb:(if st.bar=none/\iX w then some st.rows.length else st.bar)=some b:=hb;show ∃r,(st.rows++[(⟨w,word,us⟩:Row)])[b]?=some r/\iX r.cD
   by_cases hc:st.bar=none/\iX w
   ·rw [if_pos hc] at hb;cases hb;exact ⟨_,by rw [mC (av _),Nat.sub_self];rfl,hc.2⟩
   ·rw [if_neg hc] at hb;obtain ⟨r,hr,hB⟩:=h.2 b hb;exact ⟨r,by rw [me (gu.mp hr).1];exact hr,hB⟩
 ·exact h
theorem QE (h:iY st) (hu:∀x,o=some x->us.length<=2/\∀j∈us,j<st.rows.length):iY (put st o word us):=by
 cases o with
 | none=>exact h
 | some x=>exact Sf h (hu x rfl)
theorem Hl (h:iY st):iY (aH f word i st):=by
 refine QE h fun x hx=>⟨by show 1<=2;exact iN f7,fun j hj=>?_⟩
 cases hw:ai st i with
 | none=>rw [hw] at hx;cases hx
 | some y=>rw [iD.mp hj];exact oh hw
theorem Hm (h:iY st):iY (ao f word i j st):=by
 refine QE h fun x hx=>⟨av 2,fun k hk=>?_⟩
 cases hw:ai st i with
 | none=>rw [hw] at hx;cases hx
 | some y=>
  rw [hw] at hx
  cases lj:ai st j with
  | none=>rw [show ((some y).bind fun p=>(ai st j).bind fun q=>f p q)=(ai st j).bind fun q=>f y q from rfl,lj] at hx;cases hx
  | some z=>
   rcases eh.mp hk with rfl | hk
   ·exact oh hw
   ·rw [iD.mp hk];exact oh lj
theorem Ao {α:Type} {g:St->α->St} (hg:∀st a,iY st->iY (g st a)):∀(l:List α) (st:St),iY st->iY (l.foldl g st)
 | [],_,h=>h
 | a::l,st,h=>Ao hg l _ (hg st a h)
theorem SI (rows:List ak) (st:St) (h:iY st):iY (mn rows st):=Ao (fun st w h=>Sf h ⟨dP _,fun j hj=>absurd hj (by simp)⟩) rows st h
theorem SV:iY empty:=⟨fun i r h=>by simp [empty] at h,fun b h=>by simp [empty] at h⟩
theorem ZQ {n:Nat} {F:dh} {at_ a b:Nat} {st:St} (h:iY st):iY (eD n F at_ a b st):=
 Ao (fun _ _ h=>Hm h) _ _ (Ao (fun _ _ h=>Hm h) _ _ (Ao (fun _ _ h=>Hm h) _ _ (Hl (Hl h))))
theorem ZU {n:Nat} {F:dh} {at_ a:Nat} {st:St} (h:iY st):iY (fU n F at_ a st):=
 Ao (fun _ _ h=>Hm h) _ _ (Hl (Hl h))
theorem Kl (h:iY st):∀t,iY (run n F st t)
 | 0=>h
 | t+1=>by
  have ih:=Kl (n:=n) (F:=F) h t;show iY (look n F t (run n F st t));unfold look;split
  ·split
   ·split
    ·exact ZQ ih
    ·exact ZU ih
   ·exact ih
  ·exact ih
end MU
open MU (iY Kl SI SV)
namespace L2
open PySem PySem.Spec PyProof.Rows
def EB (hi:Int) (n:Nat):It:=⟨fun i _=>i<n,fun i H x H'=>H'=H/\x=.int (hi-i),fun i _=>n<=i⟩
theorem ZX {lo:Int} {i n:Nat} (hi:i<n) (st:IsRangeIter s.heap it (lo-(i:Nat)) ((n:Int)-(i:Nat)) (-1))
 (hQ:∀(t:Tok) h' tk,IsRangeIter h' it (lo-((i+1:Nat):Int)) ((n:Int)-((i+1:Nat):Int)) (-1)->(∀b o,b∉[it]->s.heap.get? b=some o->h'.get? b=some o)->Q (some (.int (lo-(i:Nat)) t)) { s with heap:=h',toks:=tk }):
 wpAny (model prog w) A (pyNext (.ref it)) Q E s:=by
 refine wpAny_pyNext_range_item st (by lia) fun h' ag sb=>?_;refine hQ _ h' _ ?_ fun b o hb e=>sb.extBut b o (fun z=>hb (by simp [z])) e;have e1:lo-((i+1:Nat):Int)=lo-(i:Int)+ -1:=by lia
 have e2:(n:Int)-((i+1:Nat):Int)=(n:Int)-(i:Int)-1:=by lia
 rw [e1,e2];exact ag
theorem Zc {tg:Expr} (it:Addr) (lo:Int) (n:Nat):yh P w K tg (EB lo n) [it] it (fun i h=>IsRangeIter h it (lo-(i:Nat)) ((n:Int)-(i:Nat)) (-1)) where
 mem:=by simp
 obj:=fun i h st b hb=>by
  have e:b=it:=by simpa using hb
  subst e;exact ⟨_,st,fun v z=>by
   have z':Data.fields _=Data.cell v:=z;cases z'⟩
 keep:=fun i h h' st k=>k it (by simp) _ st
 item:=by intro X hP hw hK _ i pins s σ H E I hf st hg;subst hP hw hK;obtain ⟨f0,f1,_,f3,f4,f5⟩:=hf it (by simp);refine ZX hg st fun t h' tk ag kk=>?_;have I1:Inv X pins σ H { s with heap:=h',toks:=tk }:=I.turned (fun b o hb e=>kk b o (by simpa using hb) e) f0 f1 f3 f4 f5;exact ⟨_,rfl,EN (s:={ s with heap:=h',toks:=tk }) (n:="range_iterator") ag rfl rfl (by decide) ⟨.int (lo-i),H,I1,⟨t,rfl⟩,⟨rfl,rfl⟩,ag,fun b hb=>(hf b hb).1⟩⟩
 done:=by intro X hP hw hK hc i pins s σ H E I hf st hg;subst hP hw hK;obtain ⟨f0,f1,_,f3,f4,f5⟩:=hf it (by simp);exact Tj (Bk hc I) st (by have:n<=i:=hg;lia) fun h' eb=>⟨rfl,I.turned (t':=s.toks) (fun b o hb e=>eb b o hb e) f0 f1 f3 f4 f5⟩
 self:=fun _ _ _ _ _ st h=>wpAny_pyIter_rangeiter st h
theorem X6 {lo:Int} {n:Nat} {g:TG} {tb:TS} {D:v_} {σ:St} {H:Hp} (Pv:Nat->St->Hp->Prop) (h0:Pv 0 σ H)
 (hs:∀i σ H,i<n->Pv i σ H->g (.int (lo-i)) σ H fun iW H2=>tb { D with nx:=Pv (i+1),ct:=Pv (i+1),bk:=D.nx } iW H2) (hd:∀σ H,Pv n σ H->D.nx σ H):
 ∃W:Nat->Nat->St->Hp->Prop,(∃m,W 0 m σ H)/\∀i m σ H,W i m σ H->
  ((EB lo n).stop i H/\D.nx σ H)\/((EB lo n).go i H/\∃N:St->Hp->Prop,(∀ae H',N ae H'->∃m',m'<m/\W (i+1) m' ae H')/\∀x H',(EB lo n).yl i H x H'->g x σ H' fun iW H2=>tb { D with nx:=N,ct:=N,bk:=D.nx } iW H2):=by
 refine ⟨fun i m σ H=>m=n-i/\i<=n/\Pv i σ H,⟨n,by simp,dP _,h0⟩,?_⟩;rintro i m σ H ⟨rfl,hi,p⟩
 by_cases aF:i<n
 ·refine .inr ⟨aF,Pv (i+1),fun ae H' p'=>⟨n-(i+1),vW aF,rfl,aF,p'⟩,fun x H' y=>?_⟩;obtain ⟨e,y⟩:=y;subst e y;exact hs i σ _ aF p
 ·have e:i=n:=vX hi aF;subst e;exact .inl ⟨av _,hd σ H p⟩
theorem PX (n:Nat):Builtin.Range.rangeSize ((n:Int)-1) (-1) (-1)=(n:Int):=by
 unfold Builtin.Range.rangeSize;rw [if_neg (by decide)]
 by_cases h:0<n
 ·rw [if_pos (by lia)];show ((n:Int)-1- -1-1) / 1+1=n;rw [Int.ediv_one];lia
 ·rw [if_neg (by lia)];lia
theorem XB {n:Nat} (h:n<=20000000):Builtin.Range.small ((n:Int)-1) (-1) (-1)=true:=by unfold Builtin.Range.small;rw [PX];simp [Builtin.Range.rangeFitsLong];lia
section
def iDn (ta:TA):TI:=fun σ H R=>ta σ H fun vs H1=>∃n:Nat,vs=[.int ((n:Int)-1),.int (-1),.int (-1)]/\n<=20000000/\R (EB ((n:Int)-1) n) H1
theorem YO (hg:Gl X "range") (hm:X.mg "range"=none) (ha:PA X [a,b,c] ta) (hs:starEach [a,b,c] X.env=[(false,eval a X.env),(false,eval b X.env),(false,eval c X.env)]:=by rfl) (kK:starEach [b,c] X.env=[(false,eval b X.env),(false,eval c X.env)]:=by rfl):
 PI X tg (.Call (.Name "range" p) [a,b,c] [] pos) (iDn ta):=by
 intro pins s σ H R I h;refine Call_ (xu I hg hm boot_range (PyProof.Rows.callWith_type1 (ax (ha pos pins s σ H _ I h) fun us s1 zz=>?_) (by rw [hs,kK]) (by rw [kK];rfl)));obtain ⟨vs,H1,I1,r1,q1⟩:=zz;obtain ⟨n,e,hn,q⟩:=q1;subst e
 cases r1 with
 | cons r rr=>
  cases rr with
  | cons r' rr=>
   cases rr with
   | cons Cr rr=>
    cases rr;obtain ⟨t,rfl⟩:=r;obtain ⟨t',rfl⟩:=r';obtain ⟨HN,rfl⟩:=Cr;refine call_range_3 (by decide) ?_ (Or.inl (PyProof.noPylong_small (by lia)));refine wpAny_pyIter_range (IsRange.new ..) (XB hn) ?_;have I2:Inv X pins σ H1 { s1 with heap:=s1.heap.push { cls:=.type "range",data:=.fields #[.int ((n:Int)-1) t,.int (-1) t',.int (-1) HN] },toks:=s1.toks }:=I1.kept fun b o e=>cR _ e;refine ⟨(s1.heap.push { cls:=.type "range",data:=.fields #[.int ((n:Int)-1) t,.int (-1) t',.int (-1) HN] }).objs.size,[(s1.heap.push { cls:=.type "range",data:=.fields #[.int ((n:Int)-1) t,.int (-1) t',.int (-1) HN] }).objs.size],_,_,H1,rfl,
     I2.kept (t':=s1.toks) fun b o e=>cR _ e,Zc _ ((n:Int)-1) n,?_,fun b hb=>?_,q⟩
    ·show IsRangeIter _ _ (((n:Int)-1)-((0:Nat):Int)) ((n:Int)-((0:Nat):Int)) (-1);rw [show ((n:Int)-1)-((0:Nat):Int)=(n:Int)-1 by lia,show (n:Int)-((0:Nat):Int)=Builtin.Range.rangeSize ((n:Int)-1) (-1) (-1) by rw [PX];lia];exact jY _ rfl
    ·have e:b=(s1.heap.push { cls:=.type "range",data:=.fields #[.int ((n:Int)-1) t,.int (-1) t',.int (-1) HN] }).objs.size:=by simpa using hb
     subst e;exact I2.rZ (av _) (I2.af.fresh (av _))
end
end L2
namespace Y0
open PySem L2
seal L2.PE L2.PA L2.PT L2.PS L2.gB L2.PG L2.pW L2.PI L2.PO
def UG (rows:List Row):Prop:=∀(i:Nat) (r:Row),rows[i]?=some r->r.used.length<=2/\∀j∈r.used,j<i
structure K_ (rows:List Row) (last:Nat) (ns:List Nat):Prop where
 up:ns.Pairwise (·<·)
 le:∀i∈ns,i<=last
 has:last∈ns
 uses:∀i∈ns,∀r,rows[i]?=some r->∀j∈r.used,j∈ns
 why:∀i∈ns,i=last\/∃k∈ns,∃r,rows[k]?=some r/\i∈r.used
structure NI (rows:List Row) (last:Nat) (P:Nat->Prop) (ks:List Nat):Prop where
 once:ks.Nodup
 le:∀k∈ks,k<=last
 has:last∈ks
 why:∀i∈ks,i=last\/∃k∈ks,∃r,rows[k]?=some r/\i∈r.used
 fin:∀k∈ks,P k->∀r,rows[k]?=some r->∀j∈r.used,j∈ks
def yi (ks:List Nat) (j:Nat):List Nat:=if j∈ks then ks else ks++[j]
theorem sX:k∈yi ks j↔k∈ks\/k=j:=by
 unfold yi;split
 ·exact ⟨.inl,fun h=>h.elim id fun e=>e▸‹j∈ks›⟩
 ·simp
theorem NI.add {P:Nat->Prop} (h:NI rows last P ks) (hm:m∈ks) (hr:rows[m]?=some r) (hj:j∈r.used) (zg:j<=m) (hP:¬P j):NI rows last P (yi ks j):=by
 refine ⟨?_,fun k hk=>?_,sX.mpr (.inl h.has),fun i hi=>?_,fun k hk hp r' ay j' kN=>?_⟩
 ·unfold yi;split
  ·exact h.once
  ·rename_i hn
   exact List.nodup_append.mpr ⟨h.once,List.nodup_cons.mpr ⟨nofun,List.nodup_nil⟩,fun a ha b hb e=>hn (by rw [iD.mp hb] at e;rw [<-e];exact ha)⟩
 ·rcases sX.mp hk with hk | rfl
  ·exact h.le k hk
  ·have:=h.le m hm;exact uv zg this
 ·rcases sX.mp hi with hi | rfl
  ·rcases h.why i hi with e | ⟨k,hk,r',h1,h2⟩
   ·exact .inl e
   ·exact .inr ⟨k,sX.mpr (.inl hk),r',h1,h2⟩
  ·exact .inr ⟨m,sX.mpr (.inl hm),r,hr,hj⟩
 ·rcases sX.mp hk with hk | rfl
  ·exact sX.mpr (.inl (h.fin k hk hp r' ay j' kN))
  ·exact absurd hp hP
def ua (ks:List Nat):List Key:=ks.map fun i:Nat=>Sum.inl (i:Int)
theorem Kd {ks:List Nat} {j:Nat}:(Sum.inl (j:Int):Key)∈ua ks↔j∈ks:=by
 unfold ua;rw [eI]
 constructor
 ·rintro ⟨k,hk,e⟩;have:=Int.ofNat.inj (Sum.inl.inj e);exact this▸hk
 ·exact fun h=>⟨j,h,rfl⟩
theorem Xk {ks:List Nat} {j:Nat} (h:kvs.map (·.1)=ua ks):(eC kvs (Sum.inl (j:Int)) v).map (·.1)=ua (yi ks j):=by
 have hm:(kvs.any fun kv=>decide (kv.1=Sum.inl (j:Int)))=true↔j∈ks:=by
  rw [List.any_eq_true,<-Kd,<-h,eI]
  constructor
  ·rintro ⟨kv,h1,h2⟩;exact ⟨kv,h1,by simpa using h2⟩
  ·rintro ⟨kv,h1,h2⟩;exact ⟨kv,h1,by simpa using h2⟩
 unfold eC yi
 by_cases hj:j∈ks
 ·rw [if_pos (hm.mpr hj),if_pos hj,<-h,List.map_map];refine List.map_congr_left fun kv _=>?_;show (if kv.1=Sum.inl (j:Int) then (kv.1,v) else kv).1=kv.1;split<;>rfl
 ·rw [if_neg (fun z=>hj (hm.mp z)),if_neg hj,fY,h];unfold ua;rw [fY];rfl
theorem Z0 {ks:List Nat} {j:Nat} (h:kvs.map (·.1)=ua ks):(fJ kvs (Sum.inl (j:Int))).isSome=decide (j∈ks):=by
 rw [<-xO]
 by_cases hj:j∈ks
 ·rw [jZ hj];have:(Sum.inl (j:Int):Key)∈kvs.map (·.1):=by rw [h];exact Kd.mpr hj
  obtain ⟨kv,h1,h2⟩:=eI.mp this;exact List.any_eq_true.mpr ⟨kv,h1,by simpa using h2⟩
 ·rw [gA hj];refine List.any_eq_false.mpr fun kv h1=>?_;intro z;have:(Sum.inl (j:Int):Key)∈kvs.map (·.1):=eI.mpr ⟨kv,h1,by simpa using z⟩;rw [h] at this;exact hj (Kd.mp this)
def O_:Sp:=fun vs H Q _=>∃(rl:Addr) (qs:List Addr) (rows:List Row) (last:Nat),vs=[.ref rl,.int (last:Int)]/\H rl=some (.lst (qs.map V.ref))/\Paired (qC H) qs rows/\UG rows/\last<rows.length/\rows.length<=16500000/\
 ∀l H' ns,H l=none->a8 H H'->H' l=some (.lst (fQ ns))->K_ rows last ns->Q (.ref l) H'
section
abbrev nNn:List Str:=["rows","last","needed","at","number"]
theorem HH:cC nNn ["rows","last"] (aU bG):=de
theorem pA (F:Fn K mg "numbers_needed" bG ["rows","last"] f fd) (hR:mg "range"=none) (hS:mg "sorted"=none):au P w K mg base a7 1 f fd ["rows","last"] O_:=by
 refine F.F.dw HH fun _ A _ s H _ Q E hr h=>?_;obtain ⟨rl,qs,rows,last,rfl,gH,cw,hU,gn,hlen,k⟩:=h;have hu:=mJ hr;refine ⟨_,cy (cF 2 HH.nd (zBk (X3 (pv 1) zR zBf) rfl rfl (by simp) (by simp)))
  (cy (iG PassesOwn.never rfl (YO rfl hR (iQ (pv 1) (vK vM aG) (vK vM aG))) (bV 3 HH.nd)
   (aA (eM (xA (JB hu (pv 3) (pv 2)) (by with_unfolding_all rfl))
    (aA (iG PassesOwn.never rfl (JE (bc (cY dC (pv 0) (pv 3)))) (bV 4 HH.nd)
     (aA (Fp hu (pv 2) (pv 4) zR rfl)))) eV)))
  (aA (cG (lB (ZN rfl) (by rfl) hS PyProof.Rows.boot_sorted (bR (pv 2)))))),?_⟩
 refine fun N1 c1 d hd=>⟨_,rfl,aq,[(Sum.inl (last:Int),.bl true)],rfl,by simp,c1 _ _ ?_⟩;rw [Qh];have yW:qs.length=rows.length:=Paired.length cw;have e1:upd H d (.dK (vO [] [(Sum.inl (last:Int),.bl true)])) d=some (.dK [(Sum.inl (last:Int),.bl true)]):=aq;have s1:=bf (o:=.dK (vO [] [(Sum.inl (last:Int),.bl true)])) hd;generalize upd H d (.dK (vO [] [(Sum.inl (last:Int),.bl true)]))=H1 at*;clear c1 N1;have ev:[V.int (last:Int),V.int (-1),V.int (-1)]=[V.int (((last+1:Nat):Int)-1),V.int (-1),V.int (-1)]:=by rw [show ((last+1:Nat):Int)-1=(last:Int) by lia]
 refine fun N2 c2=>⟨_,rfl,_,rfl,_,rfl,last+1,ev,by lia,?_⟩;refine X6 (fun i ae H'=>∃v3 v4 kvs ks,ae=[some (.ref rl),some (.int (last:Int)),some (.ref d),v3,v4]/\H' d=some (.dK kvs)/\kvs.map (·.1)=ua ks/\NI rows last (fun k=>last<k+i) ks/\∀b o,H b=some o->H' b=some o)
  ⟨none,none,_,[last],rfl,e1,rfl,⟨List.nodup_cons.mpr ⟨nofun,List.nodup_nil⟩,fun k hk=>by rw [iD.mp hk];exact av _,iD.mpr rfl,fun k hk=>.inl (iD.mp hk),fun k hk hp=>by have:=iD.mp hk;lia⟩,fun b o e=>s1 _ _ e⟩ ?_ ?_
 ·rintro i ae H2 hi ⟨v3,v4,kvs,ks,rfl,ed,eQ,hN,kp⟩;obtain ⟨at_,kQ⟩:∃at_,at_+i=last:=⟨last-i,by lia⟩;have ex:V.int ((((last+1:Nat):Int)-1)-(i:Int))=V.int (at_:Int):=by rw [show (((last+1:Nat):Int)-1)-(i:Int)=(at_:Int) by lia]
  rw [ex];have dg:fL H2 d (.int (at_:Int)) (fJ kvs (Sum.inl (at_:Int))):=fL.k (k:=Sum.inl (at_:Int)) ed;refine ⟨_,rfl,_,rfl,d,_,rfl,dg,_,rfl,?_⟩;rw [Z0 eQ]
  by_cases gp:at_∈ks
  ·refine j9 gp ?_;obtain ⟨q,hq⟩:∃q,qs[at_]?=some q:=⟨_,lz (by lia)⟩;obtain ⟨r,ay,pw,pu,g4,_,g6⟩:=aY cw hq;have NJ:jf (qs.map V.ref) (at_:Int)=some (.ref q):=lg (by rw [fG,hq];rfl);refine ⟨_,rfl,jJ rfl (kp _ _ gH) NJ (a_ (kp _ _ g4) rfl ⟨pu,rfl,⟨_,dm.of (kp _ _ g6)⟩,?_⟩)⟩;refine zB3 (K:=K) (a:=pu) (xs:=r.used.map fun i:Nat=>V.int (i:Int)) (fun m ae H'=>∃v4 kvs ks,ae=[some (.ref rl),some (.int (last:Int)),some (.ref d),some (.int (at_:Int)),v4]/\H' d=some (.dK kvs)/\kvs.map (·.1)=ua ks/\NI rows last (fun k=>last<k+i) ks/\at_∈ks/\(∀j∈r.used.take m,j∈ks)/\∀b o,H b=some o->H' b=some o)
    ⟨v4,kvs,ks,rfl,ed,eQ,hN,gp,fun j hj=>by simp at hj,kp⟩ ?_ ?_ ?_
   ·rintro m ae H3 _ ⟨_,_,_,rfl,_,_,_,_,_,CA⟩;exact dm.of (CA _ _ g6)
   ·rintro m x ae H3 hx ⟨v4,kvs,ks,rfl,ed,eQ,hN,gp,hm,CA⟩;rw [fG] at hx
    cases hj:r.used[m]? with
    | none=>rw [hj] at hx;cases hx
    | some j=>
     rw [hj] at hx;cases hx;have zg:=gK hj;have hja:=(hU at_ r ay).2 j zg;have hl:kvs.length<=last+1:=by
      have h1:=congrArg List.length eQ;unfold ua at h1;rw [aI,aI] at h1;have:=MH.Ae (last+1) ks hN.once fun z hz=>by have:=hN.le z hz;exact FY this
      exact An h1 this
     refine ⟨_,rfl,_,rfl,d,_,rfl,sC.k (k:=Sum.inl (j:Int)) ed (Br (by lia)),?_⟩;refine ⟨_,_,yi ks j,rfl,aq,Xk eQ,hN.add gp ay zg (aS hja) (by lia),sX.mpr (.inl gp),fun j' kN=>?_,fun b o e=>?_⟩
     ·rw [lu,hj] at kN;rcases jF.mp kN with kN | kN
      ·exact sX.mpr (.inl (hm j' kN))
      ·exact sX.mpr (.inr (by simpa using kN))
     ·rw [aj (aP e hd)];exact CA _ _ e
   ·rintro ae H3 ⟨v4,kvs,ks,rfl,ed,eQ,hN,gp,hm,CA⟩;have bQ:r.used.take (r.used.map fun i:Nat=>V.int (i:Int)).length=r.used:=by rw [aI];exact jN
    rw [bQ] at hm;refine ⟨_,_,kvs,ks,rfl,ed,eQ,⟨hN.once,hN.le,hN.has,hN.why,fun k hk hp r' iK j hj=>?_⟩,CA⟩
    by_cases e:k=at_
    ·subst e;rw [ay] at iK;cases iK;exact hm j hj
    ·exact hN.fin k hk (by lia) r' iK j hj
  ·refine l8 gp ⟨_,_,kvs,ks,rfl,ed,eQ,⟨hN.once,hN.le,hN.has,hN.why,fun k hk hp r' iK j hj=>?_⟩,kp⟩;exact hN.fin k hk (by have:k≠at_:=fun e=>gp (e▸hk);lia) r' iK j hj
 ·rintro ae H2 ⟨v3,v4,kvs,ks,rfl,ed,eQ,hN,kp⟩;refine c2 _ _ ⟨_,rfl,d,kvs,ks.map fun i:Nat=>(i:Int),rfl,ed,by rw [eQ,List.map_map];rfl,fun l ql hl rL Mu=>?_⟩;have MX:H l=none:=by
   cases q:H l with
   | none=>rfl
   | some x=>rw [kp _ _ q] at hl;cases hl
  have Dx:∀{l:List Int},(∀z∈l,0<=z)->(l.map Int.toNat).map (fun i:Nat=>(i:Int))=l:=fun {l} h=>by
   rw [List.map_map]
   conv=>rhs;rw [<-List.map_id l]
   exact List.map_congr_left fun z hz=>mi (h z hz)
  have hnn:∀z∈ql,0<=z:=fun z hz=>by obtain ⟨k,_,rfl⟩:=eI.mp (rL.mem_iff.mp hz);exact ip (k+0)
  have yY:(ql.map Int.toNat).Perm ks:=by
   have:=rL.map Int.toNat;rw [List.map_map] at this;have e:ks.map (Int.toNat ∘ fun i:Nat=>(i:Int))=ks:=by
    conv=>rhs;rw [<-List.map_id ks]
    exact List.map_congr_left fun z _=>hX z
   rw [e] at this;exact this
  have s3:a8 H (upd H2 l (.lst (ql.map V.int))):=fun b o e=>by rw [aj (aP (kp _ _ e) hl)];exact kp _ _ e
  refine k l _ (ql.map Int.toNat) MX s3 ?_ ⟨?_,fun i hi=>hN.le i (yY.mem_iff.mp hi),yY.mem_iff.mpr hN.has,fun i hi r' ay j hj=>?_,fun i hi=>?_⟩
  ·rw [aq];unfold fQ;have e:ql.map V.int=(ql.map Int.toNat).map fun i:Nat=>V.int (i:Int):=by
    conv=>lhs;rw [<-Dx hnn]
    rw [List.map_map];rfl
   rw [e]
  ·have pI:(ql.map Int.toNat).Nodup:=yY.nodup_iff.mpr hN.once;have h1:(ql.map Int.toNat).Pairwise (·<=·):=by
    rw [vA];exact Mu.imp fun h=>Int.toNat_le_toNat h
   exact h1.imp₂ (fun a b h h'=>Nat.lt_of_le_of_ne h h') pI
  ·have iS:=yY.mem_iff.mp hi;have:=hN.le i iS;exact yY.mem_iff.mpr (hN.fin i iS (by lia) r' ay j hj)
  ·rcases hN.why i (yY.mem_iff.mp hi) with e | ⟨k',pJ,r',h1,h2⟩
   ·exact .inl e
   ·exact .inr ⟨k',yY.mem_iff.mpr pJ,r',h1,h2⟩
end
def Af (rows:List Row) (ns:List Nat) (i:Nat):Option Row:=(rows[i]?).map fun r=>⟨r.cD,r.word,r.used.map fun j=>ns.idxOf j⟩
def Qb (rows:List Row) (ns:List Nat):List Row:=ns.filterMap (Af rows ns)
theorem zD4 {ns:List Nat} {m x:Nat} (hn:ns.Nodup) (h:ns[m]?=some x):ns.idxOf x=m:=by obtain ⟨hm,rfl⟩:=gu.mp h;exact List.Nodup.idxOf_getElem hn m hm
theorem XI {ns:List Nat} (h:ns.Pairwise (·<·)):ns.Nodup:=h.imp fun h=>h_ h
theorem zAq {ns:List Nat} (h:ns.Pairwise (·<·)) {m x j:Nat} (hx:ns[m]?=some x) (hj:j∈ns) (aF:j<x):j∈ns.take m:=by
 obtain ⟨i,hi,e⟩:=IK hj;obtain ⟨hm,e'⟩:=gu.mp hx;have him:i<m:=f9 fun z=>by
  rcases Nat.lt_or_eq_of_le (mh z) with z | z
  ·have:=DY.mp h m i hm hi z;lia
  ·subst z;lia
 rw [<-e];exact List.mem_take_iff_getElem.mpr ⟨i,by lia,rfl⟩
def Qp:Sp:=fun vs H Q _=>∃(rl:Addr) (qs:List Addr) (rows:List Row) (last:Nat),vs=[.ref rl,.int (last:Int)]/\H rl=some (.lst (qs.map V.ref))/\Paired (qC H) qs rows/\UG rows/\last<rows.length/\rows.length<=16500000/\
 ∀l H' ns ps,H l=none->a8 H H'->K_ rows last ns->H' l=some (.lst (ps.map V.ref))->Paired (qC H') ps (Qb rows ns)->Q (.ref l) H'
section
abbrev V5:List Str:=["rows","last","places","paper","number","row"]
theorem B':cC V5 ["rows","last"] (aU bP):=de
theorem zId:jB (aU bP) V5 (nP [(".0",.local),("used",.local),("places",.free)]) ["used","places"] [none,some 2]:=nS
theorem zHp:(["used","places"]:List Str).Nodup:=by decide+kernel
theorem nq (F:Fn K mg "paper_up_to" bP ["rows","last"] f fd) (hL:mg "len"=none) (hT:mg "tuple"=none)
 (FN:Fn K mg "numbers_needed" bG ["rows","last"] fN oN) (GN:au P w K mg base a7 1 fN oN ["rows","last"] O_):au P w K mg base a7 2 f fd ["rows","last"] Qp:=by
 refine F.F.dw B' fun _ A _ s H _ Q E hr h=>?_;obtain ⟨rl,qs,rows,last,rfl,gH,cw,hU,gn,hlen,k⟩:=h;have hu:=mJ hr;refine ⟨_,cy (qH (i:=2) B'.nd rfl (Or.inr rfl) Q9)
  (cy (cF 3 B'.nd (l9 qG))
  (cy (iG PassesOwn.never rfl (iH (cH GN hr FN (bS (pv 0) (pv 1)))) (bV 4 B'.nd)
   (cy (cF 5 B'.nd (cY dC (pv 0) (pv 4)))
   (cy (Fp hu (pv 2) (pv 4) (lB Ar (by rfl) hL A' (bR (pv 3))) rfl)
   (aA (gE (qE so qy sk qi (pv 3) (bR (eU (iQ (bc (pv 5)) (bc (pv 5)) (vZ To (by rfl) hT (by decide+kernel) (bR (qg rfl (JE (bc (pv 5))) zId (fun cl ex s0 H0=>⟨bV 0 zHp,sY,ot hu (pv 1) (pv 0) (fun _ _=>rfl)⟩)))))))))))))
  (aA (cG (pv 3))))),?_⟩
 refine fun N1 c1 d hd=>c1 _ _ ?_;have s1:=bf (o:=.dK []) hd;have e1:upd H d (.dK []) d=some (.dK []):=aq;generalize upd H d (.dK [])=H1 at*;clear c1 N1;refine fun N2 c2=>⟨dP _,fun pl eP=>c2 _ _ ?_⟩;have s2:=bf (o:=.lst []) eP;have e2:upd H1 pl (.lst []) pl=some (.lst []):=aq;have Vp:H pl=none:=by
  cases q:H pl with
  | none=>rfl
  | some x=>rw [s1 _ _ q] at eP;cases eP
 have WD:d≠pl:=aP e1 eP;generalize upd H1 pl (.lst [])=H2 at*;clear c2 N2;have HQ:=s1.trans s2;have yW:qs.length=rows.length:=Paired.length cw;refine fun N3 c3=>⟨_,rfl,_,rfl,rl,qs,rows,last,rfl,HQ _ _ gH,iI cw fun q r e=>e.same HQ,hU,gn,hlen,fun l H3 ns hl s3 el hN=>?_⟩;have pI:=XI hN.up;have hnl:ns.length<=last+1:=MH.Ae (last+1) ns pI fun z hz=>by have:=hN.le z hz;exact FY this
 have lJ:=HQ.trans s3;have ed3:=s3 _ _ (s2 _ _ e1);have ep3:=s3 _ _ e2;have lH:H l=none:=by
  cases q:H l with
  | none=>rfl
  | some x=>rw [HQ _ _ q] at hl;cases hl
 have ld:l≠d:=aB (aP (s2 _ _ e1) hl);have lp:l≠pl:=aB (aP e2 hl);refine ⟨l,rfl,⟨_,a9.of el⟩,?_⟩;refine km (K:=K) (a:=l) (xs:=fQ ns) (fun m ae H'=>∃v4 v5 kvs ps,ae=[some (.ref rl),some (.int (last:Int)),some (.ref d),some (.ref pl),v4,v5]/\H' d=some (.dK kvs)/\kvs.length<=m/\
  (∀j:Nat,j∈ns.take m->fJ kvs (Sum.inl (j:Int))=some (.int (ns.idxOf j:Int)))/\H' pl=some (.lst (ps.map V.ref))/\ps.length=m/\Paired (qC H') ps ((ns.take m).filterMap (Af rows ns))/\H' l=some (.lst (fQ ns))/\a8 H H')
  ⟨none,none,[],[],rfl,ed3,av _,fun j hj=>by simp at hj,ep3,rfl,.nil,el,lJ⟩ ?_ ?_ ?_
 ·rintro m ae H4 _ ⟨_,_,_,_,rfl,_,_,_,_,_,_,e,_⟩;exact a9.of e
 ·rintro m x ae H4 hx ⟨v4,v5,kvs,ps,rfl,ed,tI,eQ,ep,y_,jd,II,s4⟩;unfold fQ at hx;rw [fG] at hx
  cases hj:ns[m]? with
  | none=>rw [hj] at hx;cases hx
  | some num=>
   rw [hj] at hx;cases hx;have hmn:m<ns.length:=(gu.mp hj).1;have MO:=hN.le num (gK hj);obtain ⟨q,hq⟩:∃q,qs[num]?=some q:=⟨_,lz (by lia)⟩;obtain ⟨r,ay,pw,pu,g4,g5,g6⟩:=aY cw hq;have kQ:jf (qs.map V.ref) (num:Int)=some (.ref q):=lg (by rw [fG,hq];rfl);refine fun N5 c5=>⟨_,rfl,jJ rfl (s4 _ _ gH) kQ (c5 _ _ ?_)⟩;clear c5 N5;refine fun N6 c6=>⟨_,rfl,pl,_,rfl,.inl (a9.of ep),_,rfl,_,rfl,d,_,rfl,sC.k (k:=Sum.inl (num:Int)) ed (Br (by lia)),c6 _ _ ?_⟩;rw [aI,y_];clear c6 N6;have kd:∀{b:Addr} {o:HO},H4 b=some o->b≠d->upd H4 d (.dK (eC kvs (Sum.inl (num:Int)) (.int (m:Int)))) b=some o:=fun e ne=>by rw [aj ne];exact e
   have WB:upd H4 d (.dK (eC kvs (Sum.inl (num:Int)) (.int (m:Int)))) d=some (.dK (eC kvs (Sum.inl (num:Int)) (.int (m:Int)))):=aq;have s5:a8 H (upd H4 d (.dK (eC kvs (Sum.inl (num:Int)) (.int (m:Int))))):=fun b o e=>kd (s4 _ _ e) (aP e hd);have Wz:=kd ep (aB WD);have fi:=kd II ld;have MD:Paired (qC (upd H4 d (.dK (eC kvs (Sum.inl (num:Int)) (.int (m:Int)))))) ps ((ns.take m).filterMap (Af rows ns)):=iI jd fun q r ⟨pw,pu,h1,h2,h3⟩=>
    ⟨pw,pu,kd h1 (cB h1 ed nofun),kd h2 (cB h2 ed nofun),kd h3 (cB h3 ed nofun)⟩
   generalize upd H4 d (.dK (eC kvs (Sum.inl (num:Int)) (.int (m:Int))))=H5 at*;have et:ns.take (m+1)=ns.take m++[num]:=by rw [lu,hj];rfl
   have Dh:∀j:Nat,j∈ns.take (m+1)->fJ (eC kvs (Sum.inl (num:Int)) (.int (m:Int))) (Sum.inl (j:Int))=some (.int (ns.idxOf j:Int)):=fun j kN=>by
    rw [BH]
    by_cases e:j=num
    ·subst e;rw [if_pos rfl,zD4 pI hj]
    ·rw [if_neg (show ¬((Sum.inl (j:Int):Key)=Sum.inl (num:Int)) from fun z=>e (Int.ofNat.inj (Sum.inl.inj z)))];rw [et] at kN;rcases jF.mp kN with h | h
     ·exact eQ j h
     ·exact absurd (iD.mp h) e
   have yT:=hU num r ay;refine ⟨_,rfl,.inl ⟨rfl,_,a9.of Wz⟩,_,rfl,a_ (s5 _ _ g4) rfl ⟨_,rfl,a_ (s5 _ _ g4) rfl ⟨_,rfl,a_ (s5 _ _ g4) rfl ⟨pu,rfl,⟨_,dm.of (s5 _ _ g6)⟩,fun Da di=>?_⟩⟩⟩⟩;refine QJ (xs:=r.used.map fun i:Nat=>V.int (i:Int)) (fun a ae H'=>∃v,ae=[v,some (.ref d)]/\H' Da=some (.lst (((r.used.take a).map fun j=>ns.idxOf j).map fun i:Nat=>V.int (i:Int)))/\a8 H5 H') ⟨none,rfl,aq,bf di⟩ ?_ ?_ ?_
   ·rintro a ae H6 _ ⟨v,rfl,_,s6⟩;exact dm.of (s6 _ _ (s5 _ _ g6))
   ·rintro a x ae H6 hx ⟨v,rfl,e6,s6⟩;rw [fG] at hx
    cases tJ:r.used[a]? with
    | none=>rw [tJ] at hx;cases hx
    | some j=>
     rw [tJ] at hx;cases hx;have zg:=gK tJ;have hjn:=hN.uses num (gK hj) r ay j zg;have gp:j∈ns.take (m+1):=by rw [et];exact gJ _ (zAq hN.up hj hjn (yT.2 j zg))
     have dg:fL H6 d (.int (j:Int)) (some (.int (ns.idxOf j:Int))):=by have:=fL.k (k:=Sum.inl (j:Int)) (s6 _ _ WB);rw [Dh j gp] at this;exact this
     refine ⟨_,rfl,_,rfl,d,_,rfl,dg,_,e6,?_,_,rfl,?_,fun b o e=>?_⟩
     ·rw [aI,aI,jX];exact gy (Ku yT.1)
     ·rw [aq,lu,tJ,fY,fY];rfl
     ·rw [aj (aP e di)];exact s6 _ _ e
   ·rintro ae H6 ⟨v,rfl,e6,s6⟩;have bQ:r.used.take (r.used.map fun i:Nat=>V.int (i:Int)).length=r.used:=by rw [aI];exact jN
    rw [bQ] at e6;refine ⟨Da,_,rfl,.inl ⟨a9.of e6,fun tu htu=>⟨dU rfl,fun rt M5=>?_⟩⟩⟩;have s7:=bf (o:=.tup ((r.used.map fun j=>ns.idxOf j).map fun i:Nat=>V.int (i:Int))) htu;have e7:upd H6 tu (.tup ((r.used.map fun j=>ns.idxOf j).map fun i:Nat=>V.int (i:Int))) tu=some (.tup ((r.used.map fun j=>ns.idxOf j).map fun i:Nat=>V.int (i:Int))):=aq;generalize upd H6 tu (.tup ((r.used.map fun j=>ns.idxOf j).map fun i:Nat=>V.int (i:Int)))=H7 at*;have s8:=bf (o:=.tup [.ref pw,.str (mr r.word),.ref tu]) M5;have e8:upd H7 rt (.tup [.ref pw,.str (mr r.word),.ref tu]) rt=some (.tup [.ref pw,.str (mr r.word),.ref tu]):=aq;generalize upd H7 rt (.tup [.ref pw,.str (mr r.word),.ref tu])=H8 at*;have wy:=(s6.trans s7).trans s8;have Wy:=wy _ _ Wz;refine ⟨pl,_,_,rfl,rfl,Wy,by rw [aI,y_];exact Br (by lia),?_⟩;have kp:∀{b:Addr} {o:HO},H8 b=some o->b≠pl->upd H8 pl (.lst (ps.map V.ref++[.ref rt])) b=some o:=fun e ne=>by rw [aj ne];exact e
    have tup:∀{b:Addr} {xs:List V},H8 b=some (.tup xs)->upd H8 pl (.lst (ps.map V.ref++[.ref rt])) b=some (.tup xs):=fun e=>kp e (cB e Wy nofun);refine ⟨_,_,_,ps++[rt],rfl,kp (wy _ _ WB) WD,dq (Aq _ _ _) (xP tI),Dh,?_,by rw [iT,y_];rfl,?_,kp (wy _ _ fi) lp,fun b o e=>kp (wy _ _ (s5 _ _ e)) (aP e Vp)⟩
    ·rw [aq,fY];rfl
    ·rw [et,List.filterMap_append];refine Au (iI MD fun q r' ⟨pw',HU,h1,h2,h3⟩=>⟨pw',HU,tup (wy _ _ h1),tup (wy _ _ h2),tup (wy _ _ h3)⟩) ?_;have er:Af rows ns num=some ⟨r.cD,r.word,r.used.map fun j=>ns.idxOf j⟩:=by unfold Af;rw [ay];rfl
     rw [show [num].filterMap (Af rows ns)=[⟨r.cD,r.word,r.used.map fun j=>ns.idxOf j⟩] by simp [er]];exact .cons ⟨pw,tu,tup e8,tup (wy _ _ (s5 _ _ g5)),tup (s8 _ _ e7)⟩ .nil
 ·rintro ae H4 ⟨v4,v5,kvs,ps,rfl,_,_,_,ep,_,jd,II,s4⟩;have bQ:ns.take (fQ ns).length=ns:=by unfold fQ;rw [aI];exact jN
  rw [bQ] at jd;exact c3 _ _ ⟨_,rfl,k pl H4 ns ps Vp s4 hN ep jd⟩
end
def vL (F:MU.dh) (x:xg):Bool:=match F x.2.1 with
 | some f=>decide (f.2.1<x.2.2) && decide (x.2.2<=f.2.2)
 | none=>false
def Qr:Sp:=fun vs H Q _=>∃(d q:Addr) (F:MU.dh) (x:xg) (f:Nat×Int×Int),vs=[.ref d,.ref q]/\oi H d F/\jk H q x/\F x.2.1=some f/\Q (.bl (vL F x)) H
section
theorem TJ:cC ["by_end","wait","fall"] ["by_end","wait"] (aU dW):=de
theorem pC (F:Fn K mg "is_told" dW ["by_end","wait"] f fd):au P w K mg base a7 1 f fd ["by_end","wait"] Qr:=by
 refine F.F.dw TJ fun _ A _ s H _ Q E hr h=>?_;obtain ⟨d,q,Fa,x,fa,rfl,FA,hw,hf,k⟩:=h;have hu:=mJ hr;refine ⟨_,bo (cF 2 TJ.nd (ot hu (pv 0) (bc (pv 1)) (fun _ _=>rfl)))
  (aA (cG (Kh vJ n_ (bc (pv 2)) (bc (pv 1)) (bc (pv 2))))),?_⟩
 obtain ⟨kvs,hd,hl,f0,f1⟩:=FA.at_;obtain ⟨p,e1,e2⟩:=f1 _ _ hf;have ev:vL Fa x=(decide (fa.2.1<x.2.2) && decide (x.2.2<=fa.2.2)):=by unfold vL;rw [hf]
 rw [ev] at k;refine ⟨_,rfl,_,rfl,a_ hw rfl ⟨d,_,rfl,e1▸fL.k (k:=Sum.inl (x.2.1:Int)) hd,?_⟩⟩;refine ⟨_,rfl,a_ e2 rfl ⟨_,rfl,a_ hw rfl ⟨_,_,rfl,rfl,_,rfl,?_⟩⟩⟩
 by_cases c:fa.2.1<x.2.2
 ·rw [jZ c] at k;refine j9 c ⟨_,rfl,a_ e2 rfl ⟨_,_,rfl,rfl,?_⟩⟩;exact k
 ·rw [gA c] at k;exact l8 c k
def zEa (H:Hp) (r:Addr) (st:MU.St) (F:MU.dh):Prop:=∃lt lw ps qs L M,H r=some (.tup [.str "rule",.ref lt,.ref lw])/\H lt=some (.lst (ps.map V.ref))/\Paired (jk H) ps L/\HB st true L/\
 H lw=some (.lst (qs.map V.ref))/\Paired (jk H) qs (M.filter (vL F))/\HB st false M
def zCg (H:Hp) (r:Addr) (st:MU.St) (b:Nat):Prop:=∃l ns ps,H r=some (.tup [.str "paper",.ref l])/\H l=some (.lst (ps.map V.ref))/\Paired (qC H) ps (Qb st.rows ns)/\K_ st.rows b ns
def jn (n:Nat) (la:Int) (T F:List (List Int)) (Te:Nat):MU.St:=MU.run n (cP F) (mv n la T F) Te
def JM (CW:Addr):Sp:=fun vs H Q _=>∃(wb:Addr) (n:Nat) (la:Int) (T F:List (List Int)) (Te:Nat),vs=[.ref wb]/\jl CW H wb (n:Int) la T F/\cO (n:Int) la T F/\xj n (cP F) (mv n la T F) Te/\
 ∀r H',H r=none->a8 H H'->(∀b,(jn n la T F Te).bar=some b->zCg H' r (jn n la T F Te) b->Q (.ref r) H')/\((jn n la T F Te).bar=none->zEa H' r (jn n la T F Te) (cP F)->Q (.ref r) H')
theorem Lh:cC ["web","closing","waits"] ["web"] (aU gR):=de
theorem zIg:jB (aU gR) ["web","closing","waits"] (nP [(".0",.local),("wait",.local),("is_told",.globalImplicit),("closing",.free)]) ["wait","closing"] [none,some 1]:=nS
theorem zHs:(["wait","closing"]:List Str).Nodup:=by decide+kernel
theorem uX (F:Fn K mg "kept" gR ["web"] f fd) (T:qc K mg C) (M:Mk K C fI) (hC:mg "Closing"=some (.ref C))
 (bI:eT K DE ["self","web"] []) (GI:au P w K mg base a7 4 fI DE ["self","web"] (PZ C CW))
 (mA:jH K C "draw_all" fA) (bA:eT K fdA ["self"] []) (GA:au P w K mg base a7 5 fA fdA ["self"] (UC C))
 (mB:jH K C "best_drawn" fB) (bB:eT K qw ["self","kind"] []) (GB:au P w K mg base a7 1 fB qw ["self","kind"] (Px C))
 (FP:Fn K mg "paper_up_to" bP ["rows","last"] fP fdP) (GP:au P w K mg base a7 2 fP fdP ["rows","last"] Qp)
 (FT:Fn K mg "is_told" dW ["by_end","wait"] fT m8) (GT:au P w K mg base a7 1 fT m8 ["by_end","wait"] Qr):au P w K mg base a7 6 f fd ["web"] (JM CW):=by
 refine F.F.dw Lh fun _ A _ s H _ Q E hr h=>?_;obtain ⟨wb,n,la,rT,rF,Te,rfl,W0,af,hE,k⟩:=h;have gW:cJ 1 _:=hr.mono (by decide);have iK:cJ 2 _:=hr.mono (by decide);refine ⟨_,cy (qH (i:=1) Lh.nd rfl (Or.inr rfl) (JT M GI hr rfl hC bI .nil gD (bR (pv 0))))
  (cy (gE (Ag (pv 1) T.cl mA GA hr bA .nil gD))
  (cy (eM (ef Qa (fq (pv 1) rfl) og) (aA (cG (eU (bS ft (cH GP iK FP (bS (fq (pv 1) rfl) (fq (pv 1) rfl))))))) eV)
  (cy (JU (i:=2) Lh.nd rfl rfl rfl (iH (kj (pv 1) T.cl mB GB gW bB .nil gD (bR ft))) zIg (fun cl ex s0 H0=>⟨bV 0 zHs,B5 (xw (cH GT gW FT (bS (sT (K:=K) rfl (pv 1) rfl) (pv 0)))),pv 0⟩))
  (aA (cG (eU (iQ ft (kj (pv 1) T.cl mB GB gW bB .nil gD (bR ft)) (pv 2)))))))),?_⟩
 have n2:=af.n2;refine fun N1 c1=>⟨_,rfl,fun p dx hp Iy _=>?_⟩;have W1:jl CW (upd (upd H dx (.own p)) p (.ins C dx [])) wb (n:Int) la rT rF:=W0.same fun b o e=>by rw [aj (aP e hp),aj (aP e Iy)];exact e
 have wH:∀b o,H b=some o->upd (upd H dx (.own p)) p (.ins C dx []) b=some o:=fun b o e=>by rw [aj (aP e hp),aj (aP e Iy)];exact e
 refine ⟨p,wb,dx,n,la,rT,rF,rfl,aq,W1,af,fun H2 be rl bd c2 _ gH gq k2=>⟨rfl,c1 _ _ ?_⟩⟩;have s2:a8 H H2:=fun b o e=>k2 _ _ (wH _ _ e) (aP e hp);have wD:∀{b:Addr},upd (upd H dx (.own p)) p (.ins C dx []) b=none->H b=none:=fun {b} e=>by
  cases q:H b with
  | none=>rfl
  | some x=>rw [wH _ _ q] at e;cases e
 have HR:=wD gH;have IJ:=wD gq;clear c1 N1;obtain ⟨OI,iR⟩:=c2.ins;refine fun N2 WH=>⟨_,rfl,p,OI,_,rfl,iR,oW,p,be,rl,bd,n,_,_,Te,rfl,c2,Ky af,af.m7,xQ n2,hE,fun H3 c3 S3 k3=>WH _ _ ?_⟩;clear WH;have j5:MU.run n (cP rF) (mv n la rT rF) Te=jn n la rT rF Te:=rfl;rw [j5] at c3 S3;have s3:a8 H H3:=fun b o e=>k3 _ _ (s2 _ _ e) (aP e hp) (aP e HR) (aP e IJ);have hU:iY (jn n la rT rF Te):=Kl (SI _ _ SV) Te;have oM:(jn n la rT rF Te).rows.length<=16000000:=hE.oM Te (av _);generalize jn n la rT rF Te=st at*;obtain ⟨AX,lT⟩:=c3.ins;obtain ⟨qs,vi,cw⟩:=c3.rows;refine fun N3 WG=>⟨_,rfl,p,C,AX,_,_,rfl,lT,T.cl,T.nX,EL,rfl,_,rfl,?_⟩;have wF:∀{H':Hp} {b:Addr},a8 H H'->H' b=none->H b=none:=fun {H' b} ss e=>by
  cases q:H b with
  | none=>rfl
  | some x=>rw [ss _ _ q] at e;cases e
 cases bC:st.bar with
 | some b=>
  obtain ⟨r0,Ih,_⟩:=hU.2 b bC;have hb:=(gu.mp Ih).1;refine sM rfl ⟨_,rfl,p,C,AX,_,_,rfl,lT,T.cl,T.nR,uo,_,rfl,p,C,AX,_,_,rfl,lT,T.cl,T.nX,EL,rl,qs,st.rows,b,by rw [bC];rfl,vi,cw,hU.1,hb,by lia,fun l H4 ns ps _ s4 hN el jd=>⟨dU rfl,fun r ay=>?_⟩⟩;have s5:=bf (o:=.tup [.str "paper",.ref l]) ay;have HP:=(s3.trans s4).trans s5;exact (k r _ (wF (s3.trans s4) ay) HP).1 b bC ⟨l,ns,ps,aq,s5 _ _ el,iI jd fun q r e=>e.same s5,hN⟩
 | none=>
  refine jh rfl (WG _ _ ?_);clear WG N3;have Ib:∀{tt:Bool} {L:List xg},HB st tt L->L.length<=64/\∀x∈L,∃w',w'.tie=tt/\w'.b=x.2.1/\∃j,ai st j=some w':=fun {tt L} hB=>by
   have mem:∀x∈L,∃w',w'.tie=tt/\w'.a=x.1/\w'.b=x.2.1/\∃j,ai st j=some w':=fun x hx=>by
    obtain ⟨a,b,v⟩:=x;have hv:=(hB.has a b v).mp hx;unfold val at hv
    cases hq:st.best (tt,a,b) with
    | none=>rw [hq] at hv;cases hv
    | some j=>
     obtain ⟨w',h1,h2⟩:=S3.good.at_ _ _ hq;have h4:=i_ h2;exact ⟨w',h4.1,h4.2.1,h4.2.2,j,h1⟩
   refine ⟨?_,fun x hx=>?_⟩
   ·have pI:(L.map fun x=>x.1*8+x.2.1).Nodup:=by
     have h0:=hB.once;unfold List.Nodup at h0 ⊢;rw [vA] at h0 ⊢;refine List.Pairwise.imp_of_mem (fun {x y} hx hy e z=>e ?_) h0;obtain ⟨w1,_,_,b1,j1,e1⟩:=mem x hx;obtain ⟨w2,_,_,b2,j2,e2⟩:=mem y hy;have l1:=S3.good.lt _ _ e1;have l2:=S3.good.lt _ _ e2;exact Prod.ext (by show x.1=y.1;lia) (by show x.2.1=y.2.1;lia)
    have:=MH.Ae 64 _ pI fun z hz=>by obtain ⟨x,hx,rfl⟩:=eI.mp hz;obtain ⟨w1,_,a1,b1,j1,e1⟩:=mem x hx;have l1:=S3.good.lt _ _ e1;show x.1*8+x.2.1<64;lia
    rwa [aI] at this
   ·obtain ⟨w1,h1,_,h2,h3⟩:=mem x hx;exact ⟨w1,h1,h2,h3⟩
  refine fun N4 c4=>⟨_,rfl,p,AX,_,rfl,lT,oW,p,be,rl,bd,n,_,st,false,rfl,c3,S3.good,xQ n2,by lia,fun l H4 ps M _ s4 el jd hM=>⟨l,rfl,⟨_,a9.of el⟩,fun Da di=>?_⟩⟩;obtain ⟨hM64,hMw⟩:=Ib hM;have eP:ps.length=M.length:=Paired.length jd;have WE:=c3.same s4;refine xV (K:=K) (a:=l) (xs:=ps.map V.ref) (fun i ae H'=>∃v fv,ae=[v,some (.ref p)]/\H' Da=some (.lst (fv.map V.ref))/\Paired (jk H') fv ((M.take i).filter (vL (cP rF)))/\fv.length<=i/\a8 H4 H') ⟨none,[],rfl,aq,.nil,av _,bf di⟩ ?_ ?_ ?_
  ·rintro i ae H5 _ ⟨v,fv,rfl,_,_,_,s5⟩;exact a9.of (s5 _ _ el)
  ·rintro i y ae H5 hy ⟨v,fv,rfl,e5,lS,Dg,s5⟩;rw [fG] at hy
   cases hq:ps[i]? with
   | none=>rw [hq] at hy;cases hy
   | some q=>
    rw [hq] at hy;cases hy;obtain ⟨x,hx,vj⟩:=aY jd hq;have hi:i<M.length:=(gu.mp hx).1;obtain ⟨w1,t1,b1,j1,g1⟩:=hMw x (gK hx);obtain ⟨fa,tK⟩:=S3.ends j1 w1 g1 t1;rw [b1] at tK;have c5:=WE.same s5;obtain ⟨OH,MG⟩:=c5.ins;have et:M.take (i+1)=M.take i++[x]:=by rw [lu,hx];rfl
    refine ⟨_,rfl,p,C,OH,_,_,rfl,MG,T.cl,T.nB,UI,_,rfl,be,q,_,x,fa,rfl,c5.gZ,vj.same s5,tK,_,rfl,?_⟩
    cases ht:vL (cP rF) x with
    | true=>
     refine nU ⟨_,rfl,_,e5,?_,_,fv++[q],rfl,?_,?_,?_,fun b o e=>?_⟩
     ·rw [aI];exact gy (by lia)
     ·rw [aq,fY];rfl
     ·rw [et,List.filter_append];have kp:∀b y,jk H5 b y->jk (upd H5 Da (.lst (fv.map V.ref++[.ref q]))) b y:=fun b y e=>by
       unfold jk;rw [aj (cB e e5 nofun)];exact e
      refine Au (iI lS kp) ?_;rw [show [x].filter (vL (cP rF))=[x] by simp [ht]];exact .cons (kp _ _ (vj.same s5)) .nil
     ·rw [iT];show fv.length+1<=i+1;exact xP Dg
     ·rw [aj (aP e di)];exact s5 _ _ e
    | false=>
     refine ji ⟨_,fv,rfl,e5,?_,by exact iN Dg,s5⟩;rw [et,List.filter_append];rw [show [x].filter (vL (cP rF))=[] by simp [ht],List.append_nil];exact lS
  ·rintro ae H5 ⟨v,fv,rfl,e5,lS,Dg,s5⟩;have bQ:M.take (ps.map V.ref).length=M:=by rw [aI,eP];exact jN
   rw [bQ] at lS;refine c4 _ _ ?_;have c5:=WE.same s5;obtain ⟨OH,MG⟩:=c5.ins;have HP:=(s3.trans s4).trans s5;refine ⟨_,rfl,p,OH,_,rfl,MG,oW,p,be,rl,bd,n,_,st,true,rfl,c5,S3.good,xQ n2,by lia,fun l6 H6 ps6 L _ s6 el6 MC hL=>⟨_,rfl,dU rfl,fun r ay=>?_⟩⟩;have s7:=bf (o:=.tup [.str "rule",.ref l6,.ref Da]) ay;have LA:=s6.trans s7;exact (k r _ (wF (HP.trans s6) ay) (HP.trans LA)).2 bC ⟨l6,Da,ps6,fv,L,M,aq,s7 _ _ el6,iI MC fun q x e=>e.same s7,hL,LA _ _ e5,iI lS fun q x e=>e.same LA,hM⟩
end
end Y0
namespace MU
def Kn (st:St) (w:ak):Prop:=(w.a≠w.b->∃u,val st w.key=some u/\¬dR w.tie w.v u)/\(iX w->st.bar≠none)
theorem Kn.imp {w:ak} (h:Kn s w) (i:Imp s s'):Kn s' w:=by refine ⟨fun cK=>?_,fun hb=>i.1.bar (h.2 hb)⟩;obtain ⟨u,hu,nu⟩:=h.1 cK;obtain ⟨u',lq,LO⟩:=i.2 w.key u cK hu;exact ⟨u',lq,KQ nu LO⟩
theorem Qc (s:St) (w:ak) (word:Wd) (us:List Nat):Kn (take s w word us) w:=⟨fun h=>Hs h,fun h=>Sb h⟩
theorem ES {p w:ak} (hp:ai s i=some p) (hf:f p=some w):Kn (aH f word i s) w:=by unfold aH;rw [hp];show Kn (put s (f p) word [i]) w;rw [hf];exact Qc _ _ _ _
theorem EU {p q w:ak} (hp:ai s i=some p) (hq:ai s j=some q) (hf:f p q=some w):Kn (ao f word i j s) w:=by unfold ao;rw [hp];show Kn (put s ((ai s j).bind fun q=>f p q) word [i,j]) w;rw [hq];show Kn (put s (f p q) word [i,j]) w;rw [hf];exact Qc _ _ _ _
theorem Fl (hf:∀s j,Imp s (f s j)) {l:List Nat} {j:Nat} {w:ak} (hj:j∈l) (h:∀s1,Imp s s1->Kn (f s1 j) w):Kn (l.foldl f s) w:=by obtain ⟨s1,i1,i2⟩:=Kz hf l s j hj;exact (h s1 i1).imp i2
theorem BU (e:Ext s s') (h:s'.best k=some j) (hj:j<s.rows.length):s.best k=some j:=by
 rcases e.best k with h' | ⟨i,h',hi⟩
 ·rw [<-h'];exact h
 ·rw [h] at h';cases h';exact (BL hj hi).elim
section
variable (hp:ai s at_=some p) (hZ:Imp (eD n F at_ a b s) fs)
theorem Y' {w:ak} (hp:ai s at_=some p) (h:dc F p=some w):Kn (eD n F at_ a b s) w:=
 (ES hp h).imp ((gx _ _ _ _).trans ((dE (fun _ _=>cQ ..) _ _).trans ((dE (fun _ _=>cQ ..) _ _).trans (dE (fun _ _=>cQ ..) _ _))))
theorem Y_ {w:ak} (hp:ai s at_=some p) (h:dn F p=some w):Kn (eD n F at_ a b s) w:=
 (ES (cb (gx _ _ _ _).1 hp) h).imp ((dE (fun _ _=>cQ ..) _ _).trans ((dE (fun _ _=>cQ ..) _ _).trans (dE (fun _ _=>cQ ..) _ _)))
theorem Za {w q:ak} {c j:Nat} (hp:ai s at_=some p) (hZ:Imp (eD n F at_ a b s) fs) (hc:c<n) (hb:fs.best (true,b,c)=some j) (hj:j<s.rows.length) (hq:ai fs j=some q) (h:az p q=some w):Kn (eD n F at_ a b s) w:=by have i2:Imp s (aH (dn F) .bp at_ (aH (dc F) .aD at_ s)):=(gx _ _ _ _).trans (gx _ _ _ _);unfold eD at hZ ⊢;dsimp only at hZ ⊢;generalize aH (dn F) .bp at_ (aH (dc F) .aD at_ s)=s2 at*;have r3:=(dE (f:=fun st j=>ao az .sum j at_ st) (fun _ _=>cQ ..) (d9 n ((cS n s2 true b).foldl (fun st j=>ao az .sum at_ j st) s2) a) ((cS n s2 true b).foldl (fun st j=>ao az .sum at_ j st) s2)).trans (dE (f:=fun st j=>ao (bj F) .back j at_ st) (fun _ _=>cQ ..) (cS n ((d9 n ((cS n s2 true b).foldl (fun st j=>ao az .sum at_ j st) s2) a).foldl (fun st j=>ao az .sum j at_ st) ((cS n s2 true b).foldl (fun st j=>ao az .sum at_ j st) s2)) false b) _);have e3:Imp s2 fs:=((dE (f:=fun st j=>ao az .sum at_ j st) (fun _ _=>cQ ..) (cS n s2 true b) s2).trans r3).trans hZ;have tJ:j<s2.rows.length:=iC hj i2.1.len;refine Kn.imp (Fl (fun _ _=>cQ ..) (j:=j) (tP.mpr ⟨c,m9.mpr hc,BU e3.1 hb tJ⟩) fun s1 i1=>?_) r3;exact EU (cb (i2.1.trans i1.1) hp) (cb i1.1 (sZ e3.1 tJ hq)) h
theorem Zb {w q:ak} {c j:Nat} (hp:ai s at_=some p) (hZ:Imp (eD n F at_ a b s) fs) (hc:c<n) (hb:fs.best (true,c,a)=some j) (hj:j<s.rows.length) (hq:ai fs j=some q) (h:az q p=some w):Kn (eD n F at_ a b s) w:=by have i2:Imp s (aH (dn F) .bp at_ (aH (dc F) .aD at_ s)):=(gx _ _ _ _).trans (gx _ _ _ _);unfold eD at hZ ⊢;dsimp only at hZ ⊢;generalize aH (dn F) .bp at_ (aH (dc F) .aD at_ s)=s2 at*;have i3:=i2.trans (dE (f:=fun st j=>ao az .sum at_ j st) (fun _ _=>cQ ..) (cS n s2 true b) s2);generalize (cS n s2 true b).foldl (fun st j=>ao az .sum at_ j st) s2=s3 at*;have r4:=dE (f:=fun st j=>ao (bj F) .back j at_ st) (fun _ _=>cQ ..) (cS n ((d9 n s3 a).foldl (fun st j=>ao az .sum j at_ st) s3) false b) ((d9 n s3 a).foldl (fun st j=>ao az .sum j at_ st) s3);have e3:Imp s3 fs:=((dE (f:=fun st j=>ao az .sum j at_ st) (fun _ _=>cQ ..) (d9 n s3 a) s3).trans r4).trans hZ;have VW:j<s3.rows.length:=iC hj i3.1.len;refine Kn.imp (Fl (fun _ _=>cQ ..) (j:=j) (tP.mpr ⟨c,m9.mpr hc,BU e3.1 hb VW⟩) fun s1 i1=>?_) r4;exact EU (cb i1.1 (sZ e3.1 VW hq)) (cb (i3.1.trans i1.1) hp) h
theorem YZ {w q:ak} {e j:Nat} (hp:ai s at_=some p) (hZ:Imp (eD n F at_ a b s) fs) (hc:e<n) (hb:fs.best (false,b,e)=some j) (hj:j<s.rows.length) (hq:ai fs j=some q) (h:bj F q p=some w):Kn (eD n F at_ a b s) w:=by have i2:Imp s (aH (dn F) .bp at_ (aH (dc F) .aD at_ s)):=(gx _ _ _ _).trans (gx _ _ _ _);unfold eD at hZ ⊢;dsimp only at hZ ⊢;generalize aH (dn F) .bp at_ (aH (dc F) .aD at_ s)=s2 at*;have i3:=i2.trans (dE (f:=fun st j=>ao az .sum at_ j st) (fun _ _=>cQ ..) (cS n s2 true b) s2);generalize (cS n s2 true b).foldl (fun st j=>ao az .sum at_ j st) s2=s3 at*;have i4:=i3.trans (dE (f:=fun st j=>ao az .sum j at_ st) (fun _ _=>cQ ..) (d9 n s3 a) s3);generalize (d9 n s3 a).foldl (fun st j=>ao az .sum j at_ st) s3=s4 at*;have e4:Imp s4 fs:=(dE (f:=fun st j=>ao (bj F) .back j at_ st) (fun _ _=>cQ ..) (cS n s4 false b) s4).trans hZ;have VU:j<s4.rows.length:=iC hj i4.1.len;refine Fl (fun _ _=>cQ ..) (j:=j) (tP.mpr ⟨e,m9.mpr hc,BU e4.1 hb VU⟩) fun s1 i1=>?_;exact EU (cb i1.1 (sZ e4.1 VU hq)) (cb (i4.1.trans i1.1) hp) h
theorem Z2 {w:ak} (hp:ai s at_=some p) (h:dt F p=some w):Kn (fU n F at_ a s) w:=
 (ES hp h).imp ((gx _ _ _ _).trans (dE (fun _ _=>cQ ..) _ _))
theorem ZI {w:ak} (hp:ai s at_=some p) (h:da F p=some w):Kn (fU n F at_ a s) w:=
 (ES (cb (gx _ _ _ _).1 hp) h).imp (dE (fun _ _=>cQ ..) _ _)
theorem Z1 {w q:ak} {c j:Nat} (hp:ai s at_=some p) (hZ:Imp (fU n F at_ a s) fs) (hc:c<n) (hb:fs.best (true,c,a)=some j) (hj:j<s.rows.length) (hq:ai fs j=some q) (h:bj F p q=some w):Kn (fU n F at_ a s) w:=by have i2:Imp s (aH (da F) .aw at_ (aH (dt F) .sure at_ s)):=(gx _ _ _ _).trans (gx _ _ _ _);unfold fU at hZ ⊢;dsimp only at hZ ⊢;generalize aH (da F) .aw at_ (aH (dt F) .sure at_ s)=s2 at*;have e2:Imp s2 fs:=(dE (f:=fun st j=>ao (bj F) .back at_ j st) (fun _ _=>cQ ..) (d9 n s2 a) s2).trans hZ;have tJ:j<s2.rows.length:=iC hj i2.1.len;refine Fl (fun _ _=>cQ ..) (j:=j) (tP.mpr ⟨c,m9.mpr hc,BU e2.1 hb tJ⟩) fun s1 i1=>?_;exact EU (cb (i2.1.trans i1.1) hp) (cb i1.1 (sZ e2.1 tJ hq)) h
end
structure Fin (n:Nat) (F:dh) (most:Int) (s0:St) (T:Nat):Prop where
 m7:iE n F most
 good:cq n s0
 first:∀t,t<T->t<(run n F s0 t).rows.length
 stop:(run n F s0 T).rows.length<=T
variable {n:Nat}
theorem Fin.ev (h:Fin n F most s0 T) (hb:(run n F s0 T).best k=some i) (hp:ai (run n F s0 T) i=some p):
 i<(run n F s0 i).rows.length/\ai (run n F s0 i) i=some p/\(run n F s0 i).best k=some i/\Imp (run n F s0 (i+1)) (run n F s0 T):=by
 have hi:=oh hp;have Nh:i<T:=iC hi h.stop;have h1:=h.first i Nh;have e:=u4 (n:=n) (F:=F) (s:=s0) (aS Nh);exact ⟨h1,sZ e.1 h1 hp,BU e.1 hb h1,u4 Nh⟩
theorem Fin.row (h:Fin n F most s0 T) (hv:val (run n F s0 T) (t,a,b)=some v):∃i p,(run n F s0 T).best (t,a,b)=some i/\ai (run n F s0 T) i=some p/\p.tie=t/\p.a=a/\p.b=b/\p.v=v/\a<n/\b<n:=by have g:=Ah h.m7 h.good T;obtain ⟨i,p,h1,h2,h3,h4⟩:=BI g hv;obtain ⟨k1,k2,k3⟩:=i_ h3;have l:=g.lt _ _ h2;exact ⟨i,p,h1,h2,k1,k2,k3,h4,by lia,by lia⟩
theorem Fin.tie (h:Fin n F most s0 T) (hb:(run n F s0 T).best (true,a,b)=some i) (hp:ai (run n F s0 T) i=some p) (pt:p.tie=true) (pa:p.a=a) (pb:p.b=b):
 Imp (eD n F i a b (run n F s0 i)) (run n F s0 T):=by
 obtain ⟨_,e2,e3,e4⟩:=h.ev hb hp;have:run n F s0 (i+1)=eD n F i a b (run n F s0 i):=FD e2 pt pa pb e3;rw [<-this];exact e4
theorem Fin.aD (h:Fin n F most s0 T) (hv:val (run n F s0 T) (true,a,b)=some v) (lr:a≠b) (hf:F b=some f):Kn (run n F s0 T) ⟨false,a,b,f.2.2-v⟩:=by obtain ⟨i,p,h1,h2,pt,pa,pb,pv,_⟩:=h.row hv;obtain ⟨_,e2,_⟩:=h.ev h1 h2;refine (Y' e2 ?_).imp (h.tie h1 h2 pt pa pb);unfold dc;rw [if_pos ⟨pt,by rw [pa,pb];exact lr⟩,pb,hf,pa,pv];rfl
theorem Fin.bp (h:Fin n F most s0 T) (hv:val (run n F s0 T) (true,a,b)=some v) (lr:a≠b) (aF:v<0) (hf:F a=some f):Kn (run n F s0 T) ⟨true,f.1,b,f.2.1+v⟩:=by obtain ⟨i,p,h1,h2,pt,pa,pb,pv,_⟩:=h.row hv;obtain ⟨_,e2,_⟩:=h.ev h1 h2;refine (Y_ e2 ?_).imp (h.tie h1 h2 pt pa pb);unfold dn;rw [if_pos ⟨pt,by rw [pa,pb];exact lr,by rw [pv];exact aF⟩,pa,hf,pb,pv];rfl
theorem Fin.sum (h:Fin n F most s0 T) (hv:val (run n F s0 T) (true,a,b)=some v) (hu:val (run n F s0 T) (true,b,c)=some u):Kn (run n F s0 T) ⟨true,a,c,v+u⟩:=by
 obtain ⟨i,p,h1,h2,pt,pa,pb,pv,an,_⟩:=h.row hv;obtain ⟨j,q,j1,j2,qt,qa,qb,qv,_,cn⟩:=h.row hu;have hs:az p q=some ⟨true,a,c,v+u⟩:=by unfold az;rw [if_pos ⟨pt,qt,by rw [pb,qa]⟩,pa,qb,pv,qv]
 obtain ⟨i1,e2,_⟩:=h.ev h1 h2;obtain ⟨Md,oO,_⟩:=h.ev j1 j2
 by_cases dz:j<=i
 ·have hZ:=h.tie h1 h2 pt pa pb;exact (Za e2 hZ cn j1 (pT dz i1) j2 hs).imp hZ
 ·have hZ:=h.tie j1 j2 qt qa qb;exact (Zb oO hZ an h1 (pT (by lia) Md) h2 hs).imp hZ
theorem Fin.wait (h:Fin n F most s0 T) (hb:(run n F s0 T).best (false,a,b)=some i) (hp:ai (run n F s0 T) i=some p) (pt:p.tie=false) (pa:p.a=a) (pb:p.b=b):
 Imp (fU n F i a (run n F s0 i)) (run n F s0 T):=by
 obtain ⟨_,e2,e3,e4⟩:=h.ev hb hp;have:run n F s0 (i+1)=fU n F i a (run n F s0 i):=by rw [<-pa];exact K7 e2 pt (by unfold ak.key;rw [pt,pa,pb];exact e3)
 rw [<-this];exact e4
theorem Fin.sure (h:Fin n F most s0 T) (hv:val (run n F s0 T) (false,a,b)=some v) (hf:F b=some f):Kn (run n F s0 T) ⟨true,a,f.1,-min v f.2.1⟩:=by obtain ⟨i,p,h1,h2,pt,pa,pb,pv,_⟩:=h.row hv;obtain ⟨_,e2,_⟩:=h.ev h1 h2;refine (Z2 e2 ?_).imp (h.wait h1 h2 pt pa pb);unfold dt;rw [if_pos pt,pb,hf,pa,pv];rfl
theorem Fin.aw (h:Fin n F most s0 T) (hv:val (run n F s0 T) (false,a,b)=some v) (lr:a≠b) (h0:0<v) (ho:F a=some o) (hf:F b=some f):Kn (run n F s0 T) ⟨false,o.1,b,min v f.2.2-o.2.1⟩:=by obtain ⟨i,p,h1,h2,pt,pa,pb,pv,_⟩:=h.row hv;obtain ⟨_,e2,_⟩:=h.ev h1 h2;refine (ZI e2 ?_).imp (h.wait h1 h2 pt pa pb);unfold da;rw [if_pos ⟨pt,by rw [pa,pb];exact lr,by rw [pv];exact h0⟩,pa,ho,pb,hf,pv];rfl
theorem Fin.back (h:Fin n F most s0 T) (hv:val (run n F s0 T) (false,a,b)=some v) (hu:val (run n F s0 T) (true,c,a)=some u) (NB:c≠b) (hf:F b=some f):Kn (run n F s0 T) ⟨false,c,b,min v f.2.2-u⟩:=by
 obtain ⟨i,p,h1,h2,pt,pa,pb,pv,_,bn⟩:=h.row hv;obtain ⟨j,q,j1,j2,qt,qa,qb,qv,cn,_⟩:=h.row hu;have hs:bj F p q=some ⟨false,c,b,min v f.2.2-u⟩:=by unfold bj;rw [if_pos ⟨pt,qt,by rw [qb,pa],by rw [qa,pb];exact NB⟩,pb,hf,qa,pv,qv];rfl
 obtain ⟨i1,e2,_⟩:=h.ev h1 h2;obtain ⟨Md,oO,_⟩:=h.ev j1 j2
 by_cases dz:j<=i
 ·have hZ:=h.wait h1 h2 pt pa pb;exact (Z1 e2 hZ cn j1 (pT dz i1) j2 hs).imp hZ
 ·have hZ:=h.tie j1 j2 qt qa qb;exact (YZ oO hZ bn h1 (pT (by lia) Md) h2 hs).imp hZ
def l7 (C:ak->Prop) (st:St):Prop:=∀i w,ai st i=some w->C w
theorem JV (h:l7 C st) (ho:∀w,o=some w->C w):l7 C (put st o word us):=fun i w hw=>by
 by_cases hi:i<st.rows.length
 ·exact h i w (sZ (zev _ _ _ _) hi hw)
 ·exact sV ho i w (by exact mh hi) hw
theorem Fd (hf:∀p w,C p->f p=some w->C w) (h:l7 C st):l7 C (aH f word i st):=JV h fun w e=>by
 cases hp:ai st i with
 | none=>rw [hp] at e;cases e
 | some p=>rw [hp] at e;exact hf p w (h i p hp) e
theorem Fe (hf:∀p q w,C p->C q->f p q=some w->C w) (h:l7 C st):l7 C (ao f word i j st):=JV h fun w e=>by
 cases hp:ai st i with
 | none=>rw [hp] at e;cases e
 | some p=>
  rw [hp] at e;have e:((ai st j).bind fun q=>f p q)=some w:=e
  cases hq:ai st j with
  | none=>rw [hq] at e;cases e
  | some q=>rw [hq] at e;exact hf p q w (h i p hp) (h j q hq) e
theorem BA (hg:∀s j,l7 C s->l7 C (g s j)):∀(l:List Nat) (s:St),l7 C s->l7 C (l.foldl g s)
 | [],_,h=>h
 | a::l,s,h=>BA hg l _ (hg s a h)
structure Tq (F:dh) (C:ak->Prop):Prop where
 sum:∀p q w,C p->C q->az p q=some w->C w
 aD:∀p w,C p->dc F p=some w->C w
 bp:∀p w,C p->dn F p=some w->C w
 sure:∀p w,C p->dt F p=some w->C w
 back:∀p q w,C p->C q->bj F p q=some w->C w
 aw:∀p w,C p->da F p=some w->C w
theorem PQ (G:Tq F C) (h:l7 C s):∀t,l7 C (run n F s t)
 | 0=>h
 | t+1=>by
  have ih:=PQ G h t;show l7 C (look n F t (run n F s t));unfold look;split
  ·split
   ·split
    ·exact BA (fun _ _ h=>Fe G.back h) _ _ (BA (fun _ _ h=>Fe G.sum h) _ _ (BA (fun _ _ h=>Fe G.sum h) _ _ (Fd G.bp (Fd G.aD ih))))
    ·exact BA (fun _ _ h=>Fe G.back h) _ _ (Fd G.aw (Fd G.sure ih))
   ·exact ih
  ·exact ih
theorem Sg:∀(rows:List ak) (s:St),l7 C s->(∀w∈rows,C w)->l7 C (mn rows s)
 | [],_,h,_=>h
 | w::r,s,h,hw=>Sg r _ (JV (o:=some w) h fun w' e=>by cases e;exact hw _ dN) fun w' lj=>hw w' (f_ _ lj)
theorem Y6:l7 C empty:=fun i w h=>by unfold ai empty at h;simp at h
def wa (F:dh) (D:ak->Prop) (st:St) (r:Row):Prop:=
 (r.word=.told/\r.used=[]/\D r.cD)\/
 (r.word=.aD/\∃i p,r.used=[i]/\ai st i=some p/\dc F p=some r.cD)\/
 (r.word=.bp/\∃i p,r.used=[i]/\ai st i=some p/\dn F p=some r.cD)\/
 (r.word=.sure/\∃i p,r.used=[i]/\ai st i=some p/\dt F p=some r.cD)\/
 (r.word=.aw/\∃i p,r.used=[i]/\ai st i=some p/\da F p=some r.cD)\/
 (r.word=.sum/\∃i j p q,r.used=[i,j]/\ai st i=some p/\ai st j=some q/\az p q=some r.cD)\/
 (r.word=.back/\∃i j p q,r.used=[i,j]/\ai st i=some p/\ai st j=some q/\bj F p q=some r.cD)
variable {n:Nat}
theorem wa.ext (h:wa F D s r) (e:Ext s s'):wa F D s' r:=by
 have o:∀{f:ak->Option ak},(∃i p,r.used=[i]/\ai s i=some p/\f p=some r.cD)->∃i p,r.used=[i]/\ai s' i=some p/\f p=some r.cD:=fun h=>by obtain ⟨i,p,h1,h2,h3⟩:=h;exact ⟨i,p,h1,cb e h2,h3⟩
 have t:∀{f:ak->ak->Option ak},(∃i j p q,r.used=[i,j]/\ai s i=some p/\ai s j=some q/\f p q=some r.cD)->∃i j p q,r.used=[i,j]/\ai s' i=some p/\ai s' j=some q/\f p q=some r.cD:=fun h=>by obtain ⟨i,j,p,q,h1,h2,h3,h4⟩:=h;exact ⟨i,j,p,q,h1,cb e h2,cb e h3,h4⟩
 rcases h with h | ⟨w,h⟩ | ⟨w,h⟩ | ⟨w,h⟩ | ⟨w,h⟩ | ⟨w,h⟩ | ⟨w,h⟩
 ·exact .inl h
 ·exact .inr (.inl ⟨w,o h⟩)
 ·exact .inr (.inr (.inl ⟨w,o h⟩))
 ·exact .inr (.inr (.inr (.inl ⟨w,o h⟩)))
 ·exact .inr (.inr (.inr (.inr (.inl ⟨w,o h⟩))))
 ·exact .inr (.inr (.inr (.inr (.inr (.inl ⟨w,t h⟩)))))
 ·exact .inr (.inr (.inr (.inr (.inr (.inr ⟨w,t h⟩)))))
def Drawn (F:dh) (D:ak->Prop) (st:St):Prop:=∀(i:Nat) (r:Row),st.rows[i]?=some r->wa F D st r
theorem SG {w:ak} (h:Drawn F D st) (hr:wa F D st ⟨w,word,us⟩):Drawn F D (take st w word us):=fun i r hi=>by
 have e:=BG st w word us;unfold take at hi;split at hi
 ·have hi:(st.rows++[(⟨w,word,us⟩:Row)])[i]?=some r:=hi
  by_cases hl:i<st.rows.length
  ·rw [me hl] at hi;exact (h i r hi).ext e
  ·rw [mC (by exact mh hl)] at hi
   cases hk:i-st.rows.length with
   | zero=>rw [hk] at hi;cases hi;exact hr.ext e
   | succ k=>rw [hk] at hi;cases hi
 ·exact (h i r hi).ext e
theorem RS (h:Drawn F D st) (hr:∀w,o=some w->wa F D st ⟨w,word,us⟩):Drawn F D (put st o word us):=by
 cases o with
 | none=>exact h
 | some w=>exact SG h (hr w rfl)
theorem Fz (h:Drawn F D st) (hr:∀w,(∃i' p,[i]=[i']/\ai st i'=some p/\f p=some w)->wa F D st ⟨w,word,[i]⟩):Drawn F D (aH f word i st):=RS h fun w e=>by
 cases hp:ai st i with
 | none=>rw [hp] at e;cases e
 | some p=>rw [hp] at e;exact hr w ⟨i,p,rfl,hp,e⟩
theorem QL (h:Drawn F D st) (hr:∀w,(∃i' j' p q,[i,j]=[i',j']/\ai st i'=some p/\ai st j'=some q/\f p q=some w)->wa F D st ⟨w,word,[i,j]⟩):Drawn F D (ao f word i j st):=RS h fun w e=>by
 cases hp:ai st i with
 | none=>rw [hp] at e;cases e
 | some p=>
  rw [hp] at e;have e:((ai st j).bind fun q=>f p q)=some w:=e
  cases hq:ai st j with
  | none=>rw [hq] at e;cases e
  | some q=>rw [hq] at e;exact hr w ⟨i,j,p,q,rfl,hp,hq,e⟩
theorem BY (hg:∀s j,Drawn F D s->Drawn F D (g s j)):∀(l:List Nat) (s:St),Drawn F D s->Drawn F D (l.foldl g s)
 | [],_,h=>h
 | a::l,s,h=>BY hg l _ (hg s a h)
theorem RX (h:Drawn F D s):∀t,Drawn F D (run n F s t)
 | 0=>h
 | t+1=>by
  have ih:=RX h t;show Drawn F D (look n F t (run n F s t));unfold look;have sum:∀i j s,Drawn F D s->Drawn F D (ao az .sum i j s):=fun i j s h=>QL h fun w e=>.inr (.inr (.inr (.inr (.inr (.inl ⟨rfl,e⟩)))));have back:∀i j s,Drawn F D s->Drawn F D (ao (bj F) .back i j s):=fun i j s h=>QL h fun w e=>.inr (.inr (.inr (.inr (.inr (.inr ⟨rfl,e⟩)))));split
  ·split
   ·split
    ·exact BY (fun s j h=>back j t s h) _ _ (BY (fun s j h=>sum j t s h) _ _ (BY (fun s j h=>sum t j s h) _ _ (Fz (Fz ih fun w e=>.inr (.inl ⟨rfl,e⟩)) fun w e=>.inr (.inr (.inl ⟨rfl,e⟩)))))
    ·exact BY (fun s j h=>back t j s h) _ _ (Fz (Fz ih fun w e=>.inr (.inr (.inr (.inl ⟨rfl,e⟩)))) fun w e=>.inr (.inr (.inr (.inr (.inl ⟨rfl,e⟩)))))
   ·exact ih
  ·exact ih
theorem Tf:∀(rows:List ak) (s:St),Drawn F D s->(∀w∈rows,D w)->Drawn F D (mn rows s)
 | [],_,h,_=>h
 | w::r,_,h,hw=>Tf r _ (SG h (.inl ⟨rfl,rfl,hw w dN⟩)) fun w' lj=>hw w' (f_ _ lj)
theorem ZD:Drawn F D empty:=fun i r h=>by simp [empty] at h
end MU
namespace HK
abbrev dh:=Nat->Option (Nat×Int×Int)
structure Cl (F:dh) (u w:Nat->Nat->Option Int):Prop where
 irr:∀a,u a a=none
 loop:∀{a b v v'},u a b=some v->u b a=some v'->0<=v+v'
 sum:∀{a b c v v'},u a b=some v->u b c=some v'->a≠c->∃z,u a c=some z/\z<=v+v'
 aD:∀{a e v f},u a e=some v->F e=some f->∃z,w a e=some z/\f.2.2-v<=z
 bp:∀{e b v f},u e b=some v->v<0->F e=some f->(b=f.1/\0<=f.2.1+v)\/∃z,u f.1 b=some z/\z<=f.2.1+v
 sure:∀{a e x f},w a e=some x->F e=some f->(a=f.1/\min x f.2.1<=0)\/∃z,u a f.1=some z/\z<=-min x f.2.1
 back:∀{x e a k v f},w x e=some k->u a x=some v->F e=some f->a≠e->∃z,w a e=some z/\min k f.2.2-v<=z
 aw:∀{e' e k g f},w e' e=some k->0<k->F e'=some g->F e=some f->∃z,w g.1 e=some z/\min k f.2.2-g.2.1<=z
 long:∀{x e k f},w x e=some k->F e=some f->f.2.2<k->(∃v,u x e=some v/\v<0)\/∃y k0 v v' k1,u x y=some v'/\v'<=v/\w y e=some k1/\k0<=k1/\k=min k0 f.2.2-v
 cX:∀{e f},F e=some f->1<=f.2.1/\f.2.1<=f.2.2/\F f.1=none
structure Inv (F:dh) (u w:Nat->Nat->Option Int) (c:Nat->Option Int) (i:Int):Prop where
 past:∀{x s},c x=some s->s<i
 K:∀{x y s t v},c x=some s->c y=some t->u x y=some v->t<=s+v
 dl:∀{x y s v},c x=some s->c y=none->u x y=some v->i<=s+v
 W:∀{x e s k f},c x=some s->w x e=some k->F e=some f->f.2.1<k->(∃t,c e=some t/\t<=s)\/∃t,c f.1=some t/\t+k<=s
 fel:∀{e f t},F e=some f->c e=some t->∃s,c f.1=some s/\s+f.2.1<=t/\t<=s+f.2.2
 due:∀{e f s},F e=some f->c e=none->c f.1=some s->i<=s+f.2.2
def K' (F:dh) (u w:Nat->Nat->Option Int) (c:Nat->Option Int) (i:Int) (R:Nat->Prop) (y:Nat):Prop:=
 (∀z v,u y z=some v->(∀t,c z=some t->t<=i+v)/\(c z=none->0<v\/(v=0/\R z)))/\
 ∀e k f,w y e=some k->F e=some f->f.2.1<k->k<=f.2.2->(∃t,c e=some t)\/∃t,c f.1=some t/\t+k<=i
structure Out (F:dh) (c:Nat->Option Int) (i:Int) (S:Nat->Prop):Prop where
 ok:∀{e},S e->∃f s,F e=some f/\c e=none/\c f.1=some s/\s+f.2.1<=i/\i<=s+f.2.2
 all:∀{e f s},F e=some f->c e=none->c f.1=some s->s+f.2.2<=i->S e
open Classical in
def put (c:Nat->Option Int) (i:Int) (S:Nat->Prop):Nat->Option Int:=fun x=>if S x then some i else c x
theorem Bq (h:S x):put c i S x=some i:=if_pos h
theorem mY (h:¬S x):put c i S x=c x:=if_neg h
theorem ja (h:put c i S x=some t):(S x/\t=i)\/(¬S x/\c x=some t):=by
 by_cases e:S x
 ·rw [Bq e] at h;cases h;exact .inl ⟨e,rfl⟩
 ·rw [mY e] at h;exact .inr ⟨e,h⟩
theorem xK (h:put c i S x=none):¬S x/\c x=none:=by
 by_cases e:S x
 ·rw [Bq e] at h;cases h
 ·rw [mY e] at h;exact ⟨e,h⟩
section
variable {u w:Nat->Nat->Option Int}
theorem zIl (I:Inv F u w c i) (hx:c x=some s) (h:u x y=some v) (hl:s+v<i):∃t,c y=some t/\t<=s+v:=by
 cases hy:c y with
 | none=>have:=I.dl hx hy h;lia
 | some t=>exact ⟨t,rfl,I.K hx hy h⟩
theorem zFh (C:Cl F u w) (I:Inv F u w c i) (O:Out F c i S) (he:S e) (h:u e z=some v):(∀t,put c i S z=some t->t<=i+v)/\(put c i S z=none->0<=v):=by
 obtain ⟨f,s,h1,_,h3,h4,h5⟩:=O.ok he
 by_cases hv:0<=v
 ·refine ⟨fun t ht=>?_,fun _=>hv⟩;rcases ja ht with ⟨_,rfl⟩ | ⟨_,ht⟩
  ·exact mw hv
  ·have:=I.past ht;lia
 ·rcases C.bp h (vY hv) h1 with ⟨rfl,h6⟩ | ⟨y,h6,h7⟩
  ·refine ⟨fun t ht=>?_,fun ht=>?_⟩
   ·rcases ja ht with ⟨hs,_⟩ | ⟨_,ht⟩
    ·obtain ⟨f',s',g1,_⟩:=O.ok hs;rw [(C.cX h1).2.2] at g1;cases g1
    ·rw [h3] at ht;cases ht;lia
   ·rw [(xK ht).2] at h3;cases h3
  ·have hl:=C.cX h1;obtain ⟨t,h8,h9⟩:=zIl I h3 h6 (by lia);have hn:¬S z:=fun hs=>by
    obtain ⟨f',s',_,g2,_⟩:=O.ok hs;rw [g2] at h8;cases h8
   rw [mY hn,h8];exact ⟨fun t' e=>by cases e;lia,fun e=>nomatch e⟩
structure sF (F:dh) (u w:Nat->Nat->Option Int) (n:Nat) (c1:Nat->Option Int) (i:Int) (r:Nat->Prop):Prop where
 own:∀{y},r y->F y=none/\c1 y=none
 lt:∀{y},r y->y<n
 lets:∀{y},r y->K' F u w c1 i r y
 most:∀R:Nat->Prop,(∀y,R y->F y=none/\c1 y=none/\y<n)->(∀y,R y->K' F u w c1 i R y)->∀y,R y->r y
theorem Fo (O:Out F c i S) (h:F x=none):¬S x:=fun hs=>by obtain ⟨f,s,h1,_⟩:=O.ok hs;rw [h] at h1;cases h1
theorem up1 (O:Out F c i S) (h:c x=some t):put c i S x=some t:=by refine (mY fun hs=>?_).trans h;obtain ⟨f,s,_,h2,_⟩:=O.ok hs;rw [h] at h2;cases h2
theorem KK (C:Cl F u w) (I:Inv F u w c i) (O:Out F c i S) (R:sF F u w n (put c i S) i r) (hx:put (put c i S) i r x=some s) (h:u x z=some v):(∀t,put c i S z=some t->t<=s+v)/\(put c i S z=none->i<=s+v):=by
 rcases ja hx with ⟨hr,es⟩ | ⟨_,hx⟩
 ·obtain ⟨h1,h2⟩:=(R.lets hr).1 z v h;rw [es];refine ⟨h1,fun hz=>?_⟩;rcases h2 hz with h3 | h3<;>lia
 ·rcases ja hx with ⟨hs,es⟩ | ⟨_,hx⟩
  ·obtain ⟨h1,h2⟩:=zFh C I O hs h;rw [es];exact ⟨h1,fun hz=>by have:=h2 hz;lia⟩
  ·refine ⟨fun t ht=>?_,fun hz=>I.dl hx (xK hz).2 h⟩;rcases ja ht with ⟨hs,et⟩ | ⟨_,ht⟩
   ·obtain ⟨f,s',_,g2,_⟩:=O.ok hs;rw [et];exact I.dl hx g2 h
   ·exact I.K hx ht h
theorem SM (C:Cl F u w) (I:Inv F u w c i) (O:Out F c i S) (R:sF F u w n (put c i S) i r) (hx:put (put c i S) i r x=some s) (h:w x e=some k) (hf:F e=some f) (hk:k<=f.2.1) (hs:s-k<i):∃t,c f.1=some t/\t<=s-k:=by
 have hm:min k f.2.1=k:=by lia
 have ho:=Fo O (C.cX hf).2.2;rcases C.sure h hf with ⟨e1,h1⟩ | ⟨z,h1,h2⟩
 ·rw [hm] at h1;rw [e1] at hx;rcases ja hx with ⟨_,rfl⟩ | ⟨_,hx⟩
  ·lia
  ·rw [mY ho] at hx;exact ⟨s,hx,by lia⟩
 ·rw [hm] at h2;obtain ⟨g1,g2⟩:=KK C I O R hx h1
  cases hb:c f.1 with
  | none=>
   have:=g2 (by rw [mY ho];exact hb);lia
  | some t=>exact ⟨t,rfl,by have:=g1 t (by rw [mY ho];exact hb);lia⟩
theorem So (C:Cl F u w) (I:Inv F u w c i) (O:Out F c i S) (R:sF F u w n (put c i S) i r) (hx:put (put c i S) i r x=some s) (h:w x e=some k) (hf:F e=some f) (hk:f.2.1<k):(∃t,put c i S e=some t/\t<=s)\/∃t,c f.1=some t/\t+k<=s:=by
 have hl:=C.cX hf;have ho:=Fo O hl.2.2;have over:∀{t},c f.1=some t->t+f.2.2<=i->∃t',put c i S e=some t'/\t'<=i:=fun {t} ht hm=>by
  cases he:c e with
  | some t'=>exact ⟨t',up1 O he,by have:=I.past he;exact eR this⟩
  | none=>exact ⟨i,Bq (O.all hf he ht hm),jg _⟩
 have old:∀{y sy ky},c y=some sy->w y e=some ky->sy-ky<i->(∃t,put c i S e=some t/\t<=sy)\/∃t,c f.1=some t/\t<=sy-ky:=fun {y sy ky} hy hw aF=>by
  by_cases pJ:f.2.1<ky
  ·rcases I.W hy hw hf pJ with ⟨t,h1,h2⟩ | ⟨t,h1,h2⟩
   ·exact .inl ⟨t,up1 O h1,h2⟩
   ·exact .inr ⟨t,h1,by lia⟩
  ·refine .inr ?_;have hy2:put (put c i S) i r y=some sy:=by
    refine (mY fun hr=>?_).trans (up1 O hy);have:=(R.own hr).2;rw [up1 O hy] at this;cases this
   exact SM C I O R hy2 hw hf (nc pJ) aF
 rcases ja hx with ⟨hr,es⟩ | ⟨_,hx⟩
 ·
  rw [es]
  by_cases hm:k<=f.2.2
  ·rcases (R.lets hr).2 e k f h hf hk hm with ⟨t,h1⟩ | ⟨t,h1,h2⟩
   ·refine .inl ⟨t,h1,?_⟩;rcases ja h1 with ⟨_,et⟩ | ⟨_,h1⟩
    ·lia
    ·have:=I.past h1;exact eR this
   ·rw [mY ho] at h1;exact .inr ⟨t,h1,h2⟩
  ·rcases C.long h hf (vY hm) with ⟨v,h1,h2⟩ | ⟨y,k0,v,v',k1,h1,h2,h3,h4,h5⟩
   ·obtain ⟨g1,g2⟩:=(R.lets hr).1 e v h1
    cases he:put c i S e with
    | none=>have:=g2 he;omega
    | some t=>exact .inl ⟨t,rfl,by have:=g1 t he;lia⟩
   ·obtain ⟨g1,g2⟩:=(R.lets hr).1 y v' h1;have hv:v<0:=by omega
    cases hy:put c i S y with
    | none=>have:=g2 hy;omega
    | some sy=>
     have hsy:=g1 sy hy;have hyc:c y=some sy:=by
      rcases ja hy with ⟨_,et⟩ | ⟨_,hy⟩
      ·lia
      ·exact hy
     by_cases hp:sy-k1<i
     ·rcases old hyc h3 hp with ⟨t,a1,a2⟩ | ⟨t,a1,a2⟩
      ·exact .inl ⟨t,a1,by lia⟩
      ·exact .inr ⟨t,a1,by lia⟩
     ·omega
 ·rcases ja hx with ⟨hs,es⟩ | ⟨_,hx⟩
  ·
   rw [es];obtain ⟨g,sb,h1,_,h3,h4,_⟩:=O.ok hs;have hg:=C.cX h1;obtain ⟨z,h6,h7⟩:=C.aw h (by lia) h1 hf
   by_cases hp:sb-z<i
   ·rcases old h3 h6 hp with ⟨t,a1,a2⟩ | ⟨t,a1,a2⟩
    ·exact .inl ⟨t,a1,by lia⟩
    ·by_cases hm:k<=f.2.2
     ·exact .inr ⟨t,a1,by lia⟩
     ·exact .inl (over a1 (by lia))
   ·omega
  ·rcases I.W hx h hf hk with ⟨t,a1,a2⟩ | ⟨t,a1,a2⟩
   ·exact .inl ⟨t,up1 O a1,a2⟩
   ·exact .inr ⟨t,a1,a2⟩
theorem QV (C:Cl F u w) (I:Inv F u w c i) (O:Out F c i S) (R:sF F u w n (put c i S) i r) (hx:put (put c i S) i r x=some s) (h:w x e=some k) (hf:F e=some f) (hs:s-k<i):(∃t,put c i S e=some t/\t<=s)\/∃t,c f.1=some t/\t<=s-k:=by
 by_cases hk:f.2.1<k
 ·rcases So C I O R hx h hf hk with h | ⟨t,h1,h2⟩
  ·exact .inl h
  ·exact .inr ⟨t,h1,by lia⟩
 ·exact .inr (SM C I O R hx h hf (nc hk) hs)
theorem Qt (C:Cl F u w) (I:Inv F u w c i) (O:Out F c i S) (R:sF F u w n (put c i S) i r) (hx:put (put c i S) i r x=some s) (h:u x z=some v) (hf:F z=some f) (hd:s+v<=i):∃t,put c i S z=some t:=by
 obtain ⟨k,h1,h2⟩:=C.aD h hf;have hl:=C.cX hf;rcases QV C I O R hx h1 hf (by lia) with ⟨t,h3,_⟩ | ⟨t,h3,h4⟩
 ·exact ⟨t,h3⟩
 ·cases hz:c z with
  | some t'=>exact ⟨t',up1 O hz⟩
  | none=>exact ⟨i,Bq (O.all hf hz h3 (by lia))⟩
theorem Xx (C:Cl F u w) (I:Inv F u w c i) (O:Out F c i S) (R:sF F u w n (put c i S) i r) (lt:∀{a b v},u a b=some v->b<n) (hx:put (put c i S) i r x=some s) (h:u x y=some v) (hf:F y=none) (hy:put c i S y=none) (hd:s+v<=i):r y:=by
 refine R.most (fun y=>r y\/(F y=none/\put c i S y=none/\∃x s v,put (put c i S) i r x=some s/\u x y=some v/\s+v<=i)) ?_ ?_ y (.inr ⟨hf,hy,x,s,v,hx,h,hd⟩)
 ·rintro y (h | ⟨h1,h2,x,s,v,_,h3,_⟩)
  ·obtain ⟨h1,h2⟩:=R.own h;exact ⟨h1,h2,R.lt h⟩
  ·exact ⟨h1,h2,lt h3⟩
 ·rintro y (hr | ⟨_,h2,x,s,v,hx,h3,hd⟩)
  ·obtain ⟨g1,g2⟩:=R.lets hr;refine ⟨fun z v hz=>⟨(g1 z v hz).1,fun hn=>?_⟩,g2⟩;rcases (g1 z v hz).2 hn with h | ⟨h,h'⟩
   ·exact .inl h
   ·exact .inr ⟨h,.inl h'⟩
  ·refine ⟨fun z v' hz=>?_,fun e k f hw hf hk hm=>?_⟩
   ·by_cases e:x=z
    ·subst e;have hl:=C.loop h3 hz;refine ⟨fun t ht=>?_,fun hn=>?_⟩
     ·rcases ja hx with ⟨hr,rfl⟩ | ⟨_,hx⟩
      ·rw [(R.own hr).2] at ht;cases ht
      ·rw [hx] at ht;cases ht;lia
     ·rcases ja hx with ⟨hr,rfl⟩ | ⟨_,hx⟩
      ·by_cases h0:v'=0
       ·exact .inr ⟨h0,.inl hr⟩
       ·exact .inl (by lia)
      ·rw [hx] at hn;cases hn
    ·obtain ⟨z0,h4,h5⟩:=C.sum h3 hz e;obtain ⟨g1,g2⟩:=KK C I O R hx h4;refine ⟨fun t ht=>by have:=g1 t ht;lia,fun hn=>?_⟩;have:=g2 hn
     by_cases h0:v'=0
     ·cases AJ:F z with
      | some f=>
       obtain ⟨t,ht⟩:=Qt C I O R hx h4 AJ (by lia);rw [hn] at ht;cases ht
      | none=>exact .inr ⟨h0,.inr ⟨AJ,hn,x,s,z0,hx,h4,by lia⟩⟩
     ·exact .inl (by lia)
   ·by_cases e':x=e
    ·subst e';rcases ja hx with ⟨hr,_⟩ | ⟨_,hx⟩
     ·rw [(R.own hr).1] at hf;cases hf
     ·exact .inl ⟨s,hx⟩
    ·obtain ⟨k1,h4,h5⟩:=C.back hw h3 hf e';have hl:=C.cX hf;rcases QV C I O R hx h4 hf (by lia) with ⟨t,a1,_⟩ | ⟨t,a1,a2⟩
     ·exact .inl ⟨t,a1⟩
     ·exact .inr ⟨t,up1 O a1,by lia⟩
theorem Inv.next (C:Cl F u w) (I:Inv F u w c i) (O:Out F c i S) (R:sF F u w n (put c i S) i r) (lt:∀{a b v},u a b=some v->b<n):Inv F u w (put (put c i S) i r) (i+1):=by
 have old:∀{x t},put c i S x=some t->put (put c i S) i r x=some t:=fun {x t} h=>by refine (mY fun hr=>?_).trans h;rw [(R.own hr).2] at h;cases h
 have le:∀{x s},put c i S x=some s->s<=i:=fun {x s} h=>by
  rcases ja h with ⟨_,rfl⟩ | ⟨_,h⟩
  ·exact jg _
  ·have:=I.past h;exact eR this
 refine ⟨fun {x s} h=>?_,fun {x y s t v} hx hy h=>?_,fun {x y s v} hx hy h=>?_,fun {x e s k f} hx h hf hk=>?_,fun {e f t} hf he=>?_,fun {e f s} hf he hb=>?_⟩
 ·rcases ja h with ⟨_,rfl⟩ | ⟨_,h⟩
  ·lia
  ·have:=le h;lia
 ·obtain ⟨g1,g2⟩:=KK C I O R hx h;rcases ja hy with ⟨hr,rfl⟩ | ⟨_,hy⟩
  ·exact g2 (R.own hr).2
  ·exact g1 t hy
 ·obtain ⟨hn,hy⟩:=xK hy;have:=(KK C I O R hx h).2 hy
  by_cases hd:s+v<=i
  ·cases hf:F y with
   | some f=>
    obtain ⟨t,ht⟩:=Qt C I O R hx h hf hd;rw [hy] at ht;cases ht
   | none=>exact absurd (Xx C I O R lt hx h hf hy hd) hn
  ·lia
 ·rcases So C I O R hx h hf hk with ⟨t,h1,h2⟩ | ⟨t,h1,h2⟩
  ·exact .inl ⟨t,old h1,h2⟩
  ·exact .inr ⟨t,old (up1 O h1),h2⟩
 ·rcases ja he with ⟨hr,_⟩ | ⟨_,he⟩
  ·rw [(R.own hr).1] at hf;cases hf
  ·rcases ja he with ⟨hs,rfl⟩ | ⟨_,he⟩
   ·obtain ⟨f',s,h1,h2,h3,h4,h5⟩:=O.ok hs;rw [hf] at h1;cases h1;exact ⟨s,old (up1 O h3),h4,h5⟩
   ·obtain ⟨s,h1,h2⟩:=I.fel hf he;exact ⟨s,old (up1 O h1),h2⟩
 ·obtain ⟨_,he⟩:=xK he;obtain ⟨hs,he⟩:=xK he;have hl:=C.cX hf;rcases ja hb with ⟨_,rfl⟩ | ⟨_,hb⟩
  ·lia
  ·rw [mY (Fo O hl.2.2)] at hb;have:=I.due hf he hb
   by_cases hd:s+f.2.2<=i
   ·exact absurd (O.all hf he hb hd) hs
   ·lia
end
end HK
namespace MU
theorem Kj (g:cq n st) (hb:st.bar=none) (hp:ai st i=some p):∃z,val st p.key=some z/\¬dR p.tie p.v z:=by
 obtain ⟨j,dz,hj⟩:=g.top i p hp;obtain ⟨w',h1,h2⟩:=g.at_ _ _ hj;refine ⟨w'.v,qj hj h1,?_⟩
 by_cases e:i=j
 ·subst e;rw [hp] at h1;cases h1;exact Av _ _
 ·exact SR (g.drop hb i j p w' hp h1 h2.symm (BS dz e))
theorem E_ (hb:st.bar=none) (h:Kn st ⟨true,a,b,v⟩):(a=b/\0<=v)\/∃z,val st (true,a,b)=some z/\z<=v:=by
 by_cases e:a=b
 ·refine .inl ⟨e,?_⟩
  by_cases hv:v<0
  ·exact absurd hb (h.2 ⟨rfl,e,hv⟩)
  ·exact nc hv
 ·obtain ⟨z,h1,h2⟩:=h.1 e;refine .inr ⟨z,h1,?_⟩;unfold dR at h2;rw [if_pos rfl] at h2;exact nc h2
theorem Ka (e:a≠b) (h:Kn st ⟨false,a,b,v⟩):∃z,val st (false,a,b)=some z/\v<=z:=by obtain ⟨z,h1,h2⟩:=h.1 e;refine ⟨z,h1,?_⟩;unfold dR at h2;rw [if_neg fC] at h2;exact nc h2
theorem Fin.cl (h:Fin n F most s0 T) (hb:(run n F s0 T).bar=none) (hD:Drawn F D (run n F s0 T)) (hT:∀x,D x->x.tie=true):HK.Cl F (fun a b=>val (run n F s0 T) (true,a,b)) (fun a b=>val (run n F s0 T) (false,a,b)):=by
 have g:=Ah h.m7 h.good T;have ne:∀{t a b v},val (run n F s0 T) (t,a,b)=some v->a≠b:=fun {t a b v} hv=>by obtain ⟨i,p,_,h2,_,pa,pb,_⟩:=h.row hv;have:=g.ne hb i p h2;rw [pa,pb] at this;exact this
 refine ⟨fun a=>?_,fun {a b v v'} h1 h2=>?_,fun {a b c v v'} h1 h2 wN=>?_,fun {a e v f} h1 hf=>?_,fun {e b v f} h1 hv hf=>?_,fun {a e x f} h1 hf=>?_,fun {x e a k v f} h1 h2 hf We=>?_,fun {e' e k g' f} h1 hk hg hf=>?_,fun {x en k f} h1 hf hk=>?_,fun {e f} hf=>?_⟩
 ·cases hv:val (run n F s0 T) (true,a,a) with
  | none=>rfl
  | some v=>exact absurd rfl (ne hv)
 ·rcases E_ hb (h.sum h1 h2) with ⟨_,h3⟩ | ⟨z,h3,_⟩
  ·exact h3
  ·exact absurd rfl (ne h3)
 ·rcases E_ hb (h.sum h1 h2) with ⟨e,_⟩ | h3
  ·exact absurd e wN
  ·exact h3
 ·exact Ka (ne h1) (h.aD h1 (ne h1) hf)
 ·rcases E_ hb (h.bp h1 (ne h1) hv hf) with ⟨e1,e2⟩ | h3
  ·exact .inl ⟨e1.symm,e2⟩
  ·exact .inr h3
 ·rcases E_ hb (h.sure h1 hf) with ⟨e1,e2⟩ | h3
  ·exact .inl ⟨e1,by lia⟩
  ·exact .inr h3
 ·exact Ka We (h.back h1 h2 We hf)
 ·refine Ka ?_ (h.aw h1 (ne h1) hk hg hf);intro e1;have:=h.m7.own _ _ hg;rw [e1,hf] at this;cases this
 ·obtain ⟨i,p,_,h2,pt,pa,pb,pv,_⟩:=h.row h1;have oJ:=h2;unfold ai at h2
  cases hr:(run n F s0 T).rows[i]? with
  | none=>rw [hr] at h2;cases h2
  | some r=>
   rw [hr] at h2;have h2:r.cD=p:=dM h2;have nt:∀{x y z},r.cD=(⟨true,x,y,z⟩:ak)->False:=fun {x y z} e=>by rw [<-h2,e] at pt;cases pt
   rcases hD i r hr with ⟨_,_,d⟩ | ⟨_,i',q,_,hq,e⟩ | ⟨_,i',q,_,_,e⟩ | ⟨_,i',q,_,_,e⟩ | ⟨_,i',q,_,_,e⟩ | ⟨_,i',j',q,q',_,_,_,e⟩ | ⟨_,i',j',q,q',_,hq,jy,e⟩
   ·have:=hT _ d;rw [h2,pt] at this;cases this
   ·unfold dc at e;split at e
    ·rename_i c
     cases oH:F q.b with
     | none=>rw [oH] at e;cases e
     | some f'=>
      rw [oH] at e;have e:=(dM e).symm;rw [h2] at e;have qa:q.a=x:=by rw [<-pa,e]
      have qb:q.b=en:=by rw [<-pb,e]
      rw [qb,hf] at oH;cases oH;obtain ⟨z,z1,z2⟩:=Kj g hb hq;have nI:q.key=(true,x,en):=by unfold ak.key;rw [c.1,qa,qb]
      rw [nI] at z1;unfold dR at z2;rw [if_pos c.1] at z2;exact .inl ⟨z,z1,by lia⟩
    ·cases e
   ·unfold dn at e;split at e
    ·cases hf:F q.a with
     | none=>rw [hf] at e;cases e
     | some f=>rw [hf] at e;exact (nt (dM e).symm).elim
    ·cases e
   ·unfold dt at e;split at e
    ·cases hf:F q.b with
     | none=>rw [hf] at e;cases e
     | some f=>rw [hf] at e;exact (nt (dM e).symm).elim
    ·cases e
   ·unfold da at e;split at e
    ·cases ho:F q.a with
     | none=>rw [ho] at e;cases e
     | some o=>
      rw [ho] at e
      cases Iw:F q.b with
      | none=>rw [Iw] at e;cases e
      | some f'=>
       rw [Iw] at e;have e:=(dM e).symm;rw [h2] at e;have qb:q.b=en:=by rw [<-pb,e]
       rw [qb,hf] at Iw;cases Iw;have kv:k=min q.v f.2.2-o.2.1:=by rw [<-pv,e]
       have:=h.m7.num _ _ ho;omega
    ·cases e
   ·unfold az at e;split at e
    ·exact (nt (dM e).symm).elim
    ·cases e
   ·unfold bj at e;split at e
    ·rename_i c
     cases oH:F q.b with
     | none=>rw [oH] at e;cases e
     | some f'=>
      rw [oH] at e;have e:=(dM e).symm;rw [h2] at e;have qa:q'.a=x:=by rw [<-pa,e]
      have qb:q.b=en:=by rw [<-pb,e]
      rw [qb,hf] at oH;cases oH;have kv:k=min q.v f.2.2-q'.v:=by rw [<-pv,e]
      obtain ⟨z,z1,z2⟩:=Kj g hb jy;obtain ⟨y,y1,y2⟩:=Kj g hb hq;have nI:q'.key=(true,x,q.a):=by unfold ak.key;rw [c.2.1,qa,c.2.2.1]
      have Dj:q.key=(false,q.a,en):=by unfold ak.key;rw [c.1,qb]
      rw [nI] at z1;rw [Dj] at y1;unfold dR at z2 y2;rw [if_pos c.2.1] at z2;rw [if_neg (by rw [c.1];exact fC)] at y2;exact .inr ⟨q.a,q.v,q'.v,z,y,z1,nc z2,y1,nc y2,kv⟩
    ·cases e
 ·have:=h.m7.num _ _ hf;exact ⟨this.1,this.2.1,h.m7.own _ _ hf⟩
end MU
namespace HK
abbrev tY:=Nat->Option (Nat×Int×Int)
def fV (F:tY) (o:Nat->Int):Prop:=∀e f,F e=some f->f.2.1<=o e/\o e<=f.2.2
def iO (o:Nat->Int) (e:Nat) (l:Int):Nat->Int:=fun x=>if x=e then l else o x
theorem uu (o:Nat->Int) (e:Nat) (l:Int):iO o e l e=l:=if_pos rfl
theorem vS (h:x≠e):iO o e l x=o x:=if_neg h
theorem fV.set (h:fV F o) (hf:F e=some f) (h1:f.2.1<=l) (h2:l<=f.2.2):fV F (iO o e l):=fun x g hx=>by
 by_cases c:x=e
 ·subst c;rw [hf] at hx;cases hx;rw [uu];exact ⟨h1,h2⟩
 ·rw [vS c];exact h x g hx
structure cZ (F:tY) (n:Nat) (tm:(Nat->Int)->Nat->Int):Prop where
 cX:∀{o e f},fV F o->F e=some f->tm o e=tm o f.1+o e
 sg:∀{o e f l t},fV F o->F e=some f->f.2.1<=l->l<=f.2.2->t<tm o f.1+o e->t<tm o f.1+l->∀{m},m<n->tm o m<=t->tm (iO o e l) m=tm o m
def WO (F:tY) (n:Nat) (tm:(Nat->Int)->Nat->Int) (w:ak):Prop:=w.a<n/\w.b<n/\(w.tie=true->∀o,fV F o->tm o w.b<=tm o w.a+w.v)/\
 (w.tie=false->∀f,F w.b=some f->∀o,fV F o->tm o f.1+w.v<=tm o w.a\/tm o w.b<=tm o w.a)
section
theorem fo (hF:iE n F most) (hf:F e=some f):f.1<n/\e<n/\1<=f.2.1/\f.2.1<=f.2.2:=⟨(hF.lt _ _ hf).1,(hF.lt _ _ hf).2,(hF.num _ _ hf).1,(hF.num _ _ hf).2.1⟩
theorem cZ.begin (S:cZ F n tm) (hF:iE n F most) (ho:fV F o) (hf:F e=some f) (h1:f.2.1<=l) (h2:l<=f.2.2):tm (iO o e l) f.1=tm o f.1:=by have h:=fo hF hf;have:=ho e f hf;exact S.sg ho hf h1 h2 (t:=tm o f.1) (by lia) (by lia) (tf h.1) oz
theorem cZ.aD (S:cZ F n tm) (hF:iE n F most) (ha:a<n) (ho:fV F o) (hf:F e=some f) (h1:tm o a<tm o e):
 fV F (iO o e f.2.2)/\tm (iO o e f.2.2) a=tm o a/\tm (iO o e f.2.2) f.1=tm o f.1/\tm (iO o e f.2.2) e=tm o f.1+f.2.2:=by
 have h:=fo hF hf;have h2:=ho e f hf;have h3:=S.cX ho hf;have ok:=ho.set hf (l:=f.2.2) (pd h.2.2.2) oz;have h4:=S.begin hF ho hf (l:=f.2.2) (pd h.2.2.2) oz;refine ⟨ok,S.sg ho hf (pd h.2.2.2) oz (t:=tm o a) (by lia) (by lia) ha oz,h4,?_⟩;rw [S.cX ok hf,h4,uu]
theorem cZ.g8 (S:cZ F n tm) (hF:iE n F most):MU.Tq F (WO F n tm):=by
 refine ⟨fun p q w hp hq h=>?_,fun p w hp h=>?_,fun p w hp h=>?_,fun p w hp h=>?_,fun p q w hp hq h=>?_,fun p w hp h=>?_⟩
 ·unfold az at h;split at h
  next c=>
   cases h;refine ⟨hp.1,hq.2.1,fun _ o ho=>?_,nofun⟩;have h1:=hp.2.2.1 c.1 o ho;have h2:=hq.2.2.1 c.2.1 o ho;rw [<-c.2.2] at h2;show tm o q.b<=tm o p.a+(p.v+q.v);lia
  ·cases h
 ·unfold dc at h;split at h
  next c=>
   cases hf:F p.b with
   | none=>rw [hf] at h;cases h
   | some f=>
    rw [hf] at h;cases h;refine ⟨hp.1,hp.2.1,nofun,fun _ g hg o ho=>?_⟩;have hg:F p.b=some g:=hg;rw [hf] at hg;cases hg;show tm o f.1+(f.2.2-p.v)<=tm o p.a\/tm o p.b<=tm o p.a
    by_cases h1:tm o p.a<tm o p.b
    ·obtain ⟨k1,k2,_,k4⟩:=S.aD hF hp.1 ho hf h1;have:=hp.2.2.1 c.1 _ k1;rw [k2,k4] at this;left;lia
    ·right;exact nc h1
  ·cases h
 ·unfold dn at h;split at h
  next c=>
   cases hf:F p.a with
   | none=>rw [hf] at h;cases h
   | some f=>
    rw [hf] at h;cases h;have hb:=fo hF hf;refine ⟨by show f.1<n;exact tf hb.1,hp.2.1,fun _ o ho=>?_,nofun⟩;show tm o p.b<=tm o f.1+(f.2.1+p.v);have h2:=ho _ _ hf;have ok:=ho.set hf (l:=f.2.1) oz (pd hb.2.2.2);have k4:=S.begin hF ho hf (l:=f.2.1) oz (pd hb.2.2.2);have h3:=hp.2.2.1 c.1 _ ok;rw [S.cX ok hf,k4,uu] at h3;have e1:iO (iO o p.a f.2.1) p.a (o p.a)=o:=by
     funext x
     by_cases z:x=p.a
     ·rw [z,uu]
     ·rw [vS z,vS z]
    have h5:=S.sg ok hf (l:=o p.a) (t:=tm (iO o p.a f.2.1) p.b) (pd h2.1) (pd h2.2) (by rw [k4,uu];lia) (by rw [k4];lia) hp.2.1 oz;rw [e1] at h5;lia
  ·cases h
 ·unfold dt at h;split at h
  next c=>
   cases hf:F p.b with
   | none=>rw [hf] at h;cases h
   | some f=>
    rw [hf] at h;cases h;have hb:=fo hF hf;refine ⟨hp.1,by show f.1<n;exact tf hb.1,fun _ o ho=>?_,nofun⟩;show tm o f.1<=tm o p.a+ -min p.v f.2.1;have h2:=ho _ _ hf;have h3:=S.cX ho hf;rcases hp.2.2.2 c f hf o ho with h | h<;>lia
  ·cases h
 ·unfold bj at h;split at h
  next c=>
   cases hf:F p.b with
   | none=>rw [hf] at h;cases h
   | some f=>
    rw [hf] at h;cases h;refine ⟨hq.1,hp.2.1,nofun,fun _ g hg o ho=>?_⟩;have hg:F p.b=some g:=hg;rw [hf] at hg;cases hg;show tm o f.1+(min p.v f.2.2-q.v)<=tm o q.a\/tm o p.b<=tm o q.a
    by_cases h1:tm o q.a<tm o p.b
    ·obtain ⟨k1,k2,k3,k4⟩:=S.aD hF hq.1 ho hf h1;have h2:=hq.2.2.1 c.2.1 _ k1;rw [k2,c.2.2.1] at h2;have h3:=hp.2.2.2 c.1 f hf _ k1;rw [k3,k4] at h3;left;lia
    ·right;exact nc h1
  ·cases h
 ·unfold da at h;split at h
  next c=>
   cases hg:F p.a with
   | none=>rw [hg] at h;cases h
   | some g=>
    rw [hg] at h
    cases hf:F p.b with
    | none=>rw [hf] at h;cases h
    | some f=>
     rw [hf] at h;cases h;have hb:=fo hF hg;have dO:=fo hF hf;refine ⟨by show g.1<n;exact tf hb.1,hp.2.1,nofun,fun _ f' oH o ho=>?_⟩;have oH:F p.b=some f':=oH;rw [hf] at oH;cases oH;show tm o f.1+(min p.v f.2.2-g.2.1)<=tm o g.1\/tm o p.b<=tm o g.1
     by_cases h1:tm o g.1<tm o p.b
     ·obtain ⟨k1,k2,k3,k4⟩:=S.aD hF (show g.1<n by exact tf hb.1) ho hf h1;left;generalize iO o p.b f.2.2=o1 at k1 k2 k3 k4;have h2:=k1 _ _ hg;have ok:=k1.set hg (l:=g.2.1) oz (pd hb.2.2.2);have b1:=S.begin hF k1 hg (l:=g.2.1) oz (pd hb.2.2.2);have h3:=hp.2.2.2 c.1 f hf _ ok;have h4:=S.cX ok hg;have h5:=S.cX ok hf;rw [uu,b1,k2] at h4;have h6:iO o1 p.a g.2.1 p.b=o1 p.b:=vS (aB c.2.1);have h7:=S.cX k1 hf;rw [h6] at h5;have e1:iO (iO o1 p.a g.2.1) p.a (o1 p.a)=o1:=by
       funext x
       by_cases z:x=p.a
       ·rw [z,uu]
       ·rw [vS z,vS z]
      have h8:tm (iO o1 p.a g.2.1) f.1<tm o g.1+g.2.1->tm o1 f.1=tm (iO o1 p.a g.2.1) f.1:=fun z=>by
       have:=S.sg ok hg (l:=o1 p.a) (t:=tm (iO o1 p.a g.2.1) f.1) (pd h2.1) (pd h2.2) (by rw [b1,k2,uu];omega) (by rw [b1,k2];lia) (show f.1<n by exact tf dO.1) oz
       rwa [e1] at this
      by_cases z:tm (iO o1 p.a g.2.1) f.1<tm o g.1+g.2.1
      ·have:=h8 z;lia
      ·have:=c.2.2;lia
     ·right;exact nc h1
  ·cases h
theorem cZ.Cw (S:cZ F n tm) (hF:iE n F most) (h:MU.l7 (WO F n tm) s) (hu:iY s) (ho:fV F o) (t:Nat):(MU.run n F s t).bar=none:=by
 cases hb:(MU.run n F s t).bar with
 | none=>rfl
 | some b=>
  obtain ⟨r,h1,h2⟩:=(Kl hu t).2 b hb;have h3:=MU.PQ (n:=n) (S.g8 hF) h t b r.cD (by unfold ai;rw [h1];rfl);have:=h3.2.2.1 h2.1 o ho;rw [h2.2.1] at this;have:=h2.2.2;lia
end
variable {u w:Nat->Nat->Option Int}
structure Zero (F:dh) (u:Nat->Nat->Option Int) (n:Nat) (la:Int):Prop where
 own:F 0=none
 pos:0<n
 lt:∀{a b v},u a b=some v->a<n/\b<n
 Ve:∀{y},y<n->y≠0->∃v,u y 0=some v/\v<=0
 of0:∀{y},y<n->y≠0->∃v,u 0 y=some v/\v<=la
theorem Zero.nonneg (Z:Zero F u n la) (C:Cl F u w) (h:u 0 y=some v):0<=v:=by
 have hy:y≠0:=fun e=>by rw [e,C.irr] at h;cases h
 obtain ⟨v',h1,h2⟩:=Z.Ve (Z.lt h).2 hy;have:=C.loop h h1;lia
theorem Zero.nA (Z:Zero F u n la) (C:Cl F u w) (h:w 0 e=some k) (hf:F e=some f) (hk:0<k):False:=by
 have hl:=C.cX hf;rcases C.sure h hf with ⟨_,h2⟩ | ⟨z,h1,h2⟩
 ·lia
 ·have:=Z.nonneg C h1;lia
theorem Zero.Cu (Z:Zero F u n la) (C:Cl F u w) (h:u 0 e=some v) (hv:v<=0):F e=none:=by
 cases hf:F e with
 | none=>rfl
 | some f=>
  obtain ⟨k,h1,h2⟩:=C.aD h hf;have hl:=C.cX hf;exact (Z.nA C h1 hf (by lia)).elim
theorem Zi (Z:Zero F u n la) (C:Cl F u w) (hc:∀x,c x=none) (R:sF F u w n c 0 r):r 0:=by
 refine R.most (fun y=>y=0\/∃v,u 0 y=some v/\v<=0) ?_ ?_ 0 (.inl rfl)
 ·rintro y (rfl | ⟨v,h1,h2⟩)
  ·exact ⟨Z.own,hc _,Z.pos⟩
  ·exact ⟨Z.Cu C h1 h2,hc _,(Z.lt h1).2⟩
 ·intro y hy;refine ⟨fun z v' hz=>⟨fun t ht=>(by rw [hc] at ht;cases ht),fun _=>?_⟩,fun e k f hw hf hk hm=>?_⟩
  ·rcases hy with rfl | ⟨v,h1,h2⟩
   ·have:=Z.nonneg C hz
    by_cases h0:v'=0
    ·exact .inr ⟨h0,.inr ⟨v',hz,by lia⟩⟩
    ·exact .inl (by lia)
   ·by_cases e:0=z
    ·subst e;have:=C.loop h1 hz
     by_cases h0:v'=0
     ·exact .inr ⟨h0,.inl rfl⟩
     ·exact .inl (by lia)
    ·obtain ⟨z0,h3,h4⟩:=C.sum h1 hz e;have:=Z.nonneg C h3
     by_cases h0:v'=0
     ·exact .inr ⟨h0,.inr ⟨z0,h3,by lia⟩⟩
     ·exact .inl (by lia)
  ·have hl:=C.cX hf;refine (?_:False).elim;rcases hy with rfl | ⟨v,h1,h2⟩
   ·exact Z.nA C hw hf (by lia)
   ·have he:0≠e:=fun e'=>by rw [<-e',Z.own] at hf;cases hf
    obtain ⟨k1,h3,h4⟩:=C.back hw h1 hf he;exact Z.nA C h3 hf (by lia)
theorem zH2 (hc:∀x,c x=none) (i:Int):Inv F u w c i:=by
 refine ⟨?_,?_,?_,?_,?_,?_⟩
 ·intro x s h;rw [hc] at h;cases h
 ·intro x y s t v h;rw [hc] at h;cases h
 ·intro x y s v h;rw [hc] at h;cases h
 ·intro x e s k f h;rw [hc] at h;cases h
 ·intro e f t _ h;rw [hc] at h;cases h
 ·intro e f s _ _ h;rw [hc] at h;cases h
structure At (F:dh) (u w:Nat->Nat->Option Int) (c:Nat->Option Int) (i:Int):Prop where
 inv:Inv F u w c i
 zero:0<i->c 0=some 0
 fresh:i=0->∀x,c x=none
theorem At.next (Z:Zero F u n la) (C:Cl F u w) (hi:0<=i) (A:At F u w c i) (O:Out F c i S) (R:sF F u w n (put c i S) i r):At F u w (put (put c i S) i r) (i+1):=by
 refine ⟨A.inv.next C O R (fun h=>(Z.lt h).2),fun _=>?_,fun h=>by lia⟩
 by_cases h0:i=0
 ·have hc:=A.fresh h0;have hS:∀x,put c i S x=none:=fun x=>by
   refine (mY fun hs=>?_).trans (hc x);obtain ⟨f,s,_,_,h3,_⟩:=O.ok hs;rw [hc] at h3;cases h3
  subst h0;exact Bq (Zi Z C hS R)
 ·have h:=up1 O (A.zero (by lia));refine (mY fun hr=>?_).trans h;rw [(R.own hr).2] at h;cases h
theorem At.done (Z:Zero F u n la) (C:Cl F u w) (h0:0<=la) (A:At F u w c (la+1)) (hy:y<n):∃t,c y=some t/\0<=t/\t<=la:=by
 have hz:=A.zero (by lia)
 by_cases e:y=0
 ·exact ⟨0,e▸hz,by exact ip (0+0),h0⟩
 ·obtain ⟨v,h1,h2⟩:=Z.of0 hy e;obtain ⟨v',h3,h4⟩:=Z.Ve hy e
  cases hc:c y with
  | none=>have:=A.inv.dl hz hc h1;lia
  | some t=>exact ⟨t,rfl,by have:=A.inv.K hc hz h3;lia,by have:=A.inv.K hz hc h1;lia⟩
def TX (F:tY) (u w:Nat->Nat->Option Int) (n:Nat) (c:Nat->Option Int) (i:Int) (y:Nat):Prop:=∃R:Nat->Prop,(∀z,R z->(F z=none/\c z=none/\z<n)/\K' F u w c i R z)/\R y
def uh (F:tY) (o:Nat->Int) (c:Nat->Option Int) (i:Int) (e:Nat):Prop:=∃f s,F e=some f/\c e=none/\c f.1=some s/\s+o e=i
def step (F:tY) (u w:Nat->Nat->Option Int) (n:Nat) (c:Nat->Option Int) (i:Int) (S:Nat->Prop):Nat->Option Int:=put (put c i S) i (TX F u w n (put c i S) i)
def jI (F:tY) (u w:Nat->Nat->Option Int) (n:Nat) (o:Nat->Int):Nat->(Nat->Option Int)
 | 0=>fun _=>none
 | i+1=>step F u w n (jI F u w n o i) i (uh F o (jI F u w n o i) i)
section
variable {u w:Nat->Nat->Option Int}
theorem Kg:sF F u w n c i (TX F u w n c i):=by
 refine ⟨fun ⟨R,h,hy⟩=>⟨(h _ hy).1.1,(h _ hy).1.2.1⟩,fun ⟨R,h,hy⟩=>(h _ hy).1.2.2,fun {y} ⟨R,h,hy⟩=>?_,fun R h1 h2 y hy=>⟨R,fun z hz=>⟨h1 z hz,h2 z hz⟩,hy⟩⟩;obtain ⟨a,b⟩:=(h _ hy).2;refine ⟨fun z v e=>⟨(a z v e).1,fun q=>?_⟩,b⟩;rcases (a z v e).2 q with q | ⟨q1,q2⟩
 ·exact .inl q
 ·exact .inr ⟨q1,R,h,q2⟩
structure Pl (F:tY) (o:Nat->Int) (c:Nat->Option Int) (i:Int):Prop where
 a:∀{e f t},F e=some f->c e=some t->∃s,c f.1=some s/\t=s+o e
 b:∀{e f s},F e=some f->c e=none->c f.1=some s->i<=s+o e
theorem Pl.out (P:Pl F o c i) (ho:fV F o):Out F c i (uh F o c i):=by
 refine ⟨fun {e} ⟨f,s,h1,h2,h3,h4⟩=>?_,fun {e f s} h1 h2 h3 h4=>?_⟩
 ·have:=ho e f h1;exact ⟨f,s,h1,h2,h3,by lia,by lia⟩
 ·have:=ho e f h1;have:=P.b h1 h2 h3;exact ⟨f,s,h1,h2,h3,by lia⟩
theorem JZ (O:Out F c i S) (h:c x=some t):step F u w n c i S x=some t:=by have h1:=up1 O h;refine (mY fun hr=>?_).trans h1;rw [(Kg.own hr).2] at h1;cases h1
theorem Pl.next (P:Pl F o c i) (C:Cl F u w) (ho:fV F o):Pl F o (step F u w n c i (uh F o c i)) (i+1):=by
 have O:=P.out ho;have own:∀{e f},F e=some f->put c i (uh F o c i) f.1=c f.1:=fun h=>mY (Fo O (C.cX h).2.2);refine ⟨fun {e f t} h h1=>?_,fun {e f s} h h1 h2=>?_⟩
 ·rcases ja h1 with ⟨hr,_⟩ | ⟨_,h1⟩
  ·have:=(Kg.own hr).1;rw [h] at this;cases this
  ·rcases ja h1 with ⟨⟨f',s,e1,e2,e3,e4⟩,rfl⟩ | ⟨_,h1⟩
   ·rw [h] at e1;cases e1;exact ⟨s,JZ O e3,e4.symm⟩
   ·obtain ⟨s,e1,e2⟩:=P.a h h1;exact ⟨s,JZ O e1,e2⟩
 ·obtain ⟨_,h1⟩:=xK h1;obtain ⟨hs,h1⟩:=xK h1;have h3:=ho e f h;have h4:=C.cX h;rcases ja h2 with ⟨_,rfl⟩ | ⟨_,h2⟩
  ·lia
  ·rw [own h] at h2;have:=P.b h h1 h2
   by_cases z:s+o e=i
   ·exact absurd ⟨f,s,h,h1,h2,z⟩ hs
   ·lia
theorem B6 (Z:Zero F u n la) (C:Cl F u w) (ho:fV F o) (i:Nat):At F u w (jI F u w n o i) i/\Pl F o (jI F u w n o i) i:=by
 induction i with
 | zero=>exact ⟨⟨zH2 (fun _=>rfl) _,fun h=>absurd h (by exact Int.not_lt.mpr (jg ↑0)),fun _ _=>rfl⟩,fun h h1=>(nomatch h1),fun h h1 h2=>(nomatch h2)⟩
 | succ i ih=>exact ⟨ih.1.next Z C (by exact ip (i+0)) (ih.2.out ho) Kg,ih.2.next C ho⟩
theorem Ss (Z:Zero F u n la) (C:Cl F u w) (ho:fV F o) (h:i<=j) (hx:jI F u w n o i x=some t):jI F u w n o j x=some t:=by
 induction h with
 | refl=>exact hx
 | step _ ih=>exact JZ ((B6 Z C ho _).2.out ho) ih
theorem QB (Z:Zero F u n la) (C:Cl F u w) (ho:fV F o) (hx:jI F u w n o i x=some t) (hy:jI F u w n o j x=some t'):t=t':=by
 rcases Nat.le_total i j with h | h
 ·have:=Ss Z C ho h hx;rw [hy] at this;cases this;rfl
 ·have:=Ss Z C ho h hy;rw [hx] at this;cases this;rfl
theorem YQ (h:jI F u w n o j x=some t):∃k:Nat,t=k/\jI F u w n o (k+1) x=some t:=by
 induction j with
 | zero=>cases h
 | succ j ih=>
  rcases ja h with ⟨_,e⟩ | ⟨_,h1⟩
  ·exact ⟨j,e,h⟩
  ·rcases ja h1 with ⟨_,e⟩ | ⟨_,h1⟩
   ·exact ⟨j,e,h⟩
   ·exact ih h1
def gz (F:tY) (u w:Nat->Nat->Option Int) (n:Nat) (la:Int) (o:Nat->Int) (x:Nat):Int:=(jI F u w n o (la.toNat+1) x).getD 0
theorem tm_at (Z:Zero F u n la) (C:Cl F u w) (hl:0<=la) (ho:fV F o) (hx:x<n):jI F u w n o (la.toNat+1) x=some (gz F u w n la o x)/\0<=gz F u w n la o x/\gz F u w n la o x<=la:=by
 have A:=(B6 Z C ho (la.toNat+1)).1;rw [show ((la.toNat+1:Nat):Int)=la+1 by lia] at A;obtain ⟨t,h1,h2,h3⟩:=A.done Z C hl hx;have e:gz F u w n la o x=t:=by unfold gz;rw [h1];rfl
 rw [e];exact ⟨h1,h2,h3⟩
theorem uC (Z:Zero F u n la) (C:Cl F u w) (hl:0<=la) (ho:fV F o):gz F u w n la o 0=0:=by have:=(B6 Z C ho (la.toNat+1)).1.zero (by lia);unfold gz;rw [this];rfl
theorem lE (Z:Zero F u n la) (C:Cl F u w) (hl:0<=la) (ho:fV F o) (h:u x y=some v):gz F u w n la o y<=gz F u w n la o x+v:=by obtain ⟨h1,h2⟩:=Z.lt h;exact (B6 Z C ho (la.toNat+1)).1.inv.K (tm_at Z C hl ho h1).1 (tm_at Z C hl ho h2).1 h
theorem qN (Z:Zero F u n la) (C:Cl F u w) (hl:0<=la) (hF:iE n F most):cZ F n (gz F u w n la):=by
 refine ⟨fun {o e f} ho hf=>?_,fun {o e f l t} ho hf l1 l2 t1 t2 {m} hm h=>?_⟩
 ·obtain ⟨h1,h2,_⟩:=fo hF hf;obtain ⟨s,e1,e2⟩:=(B6 Z C ho (la.toNat+1)).2.a hf (tm_at Z C hl ho h2).1;rw [(tm_at Z C hl ho h1).1] at e1;cases e1;exact e2
 ·have ok:=ho.set hf l1 l2;have hb:=(tm_at Z C hl ho (fo hF hf).1).1;have same:∀i:Nat,(i:Int)<=t+1->jI F u w n (iO o e l) i=jI F u w n o i:=fun i=>by
   induction i with
   | zero=>intro _;rfl
   | succ i ih=>
    intro hi;have ih:=ih (by exact eR hi);show step F u w n (jI F u w n (iO o e l) i) i (uh F (iO o e l) (jI F u w n (iO o e l) i) i)=step F u w n (jI F u w n o i) i (uh F o (jI F u w n o i) i);rw [ih];have:uh F (iO o e l) (jI F u w n o i) i=uh F o (jI F u w n o i) i:=by
     funext x
     by_cases c:x=e
     ·subst c;have no:∀{s},jI F u w n o i f.1=some s->s=gz F u w n la o f.1:=fun h=>QB Z C ho h hb;refine propext ⟨fun ⟨f',s,e1,e2,e3,e4⟩=>?_,fun ⟨f',s,e1,e2,e3,e4⟩=>?_⟩
      ·rw [hf] at e1;cases e1;rw [uu,no e3] at e4;lia
      ·rw [hf] at e1;cases e1;rw [no e3] at e4;lia
     ·unfold uh;rw [vS c]
    rw [this]
  obtain ⟨k,k1,k2⟩:=YQ (tm_at Z C hl ho hm).1;rw [<-same (k+1) (by lia)] at k2;exact (QB Z C ok k2 (tm_at Z C hl ok hm).1).symm
theorem cZ.less (S:cZ F n tm) (h:∀e f',F' e=some f'->∃f,F e=some f/\f.1=f'.1/\f.2.1<=f'.2.1/\f'.2.2<=f.2.2) (h':∀e f,F e=some f->∃f',F' e=some f'):cZ F' n tm/\∀o,fV F' o->fV F o:=by
 have ok:∀o,fV F' o->fV F o:=fun o ho e f hf=>by obtain ⟨f',e1⟩:=h' e f hf;obtain ⟨f2,e2,e3,e4,e5⟩:=h e f' e1;rw [hf] at e2;cases e2;have:=ho e f' e1;lia
 refine ⟨⟨fun {o e f} ho hf=>?_,fun {o e f l t} ho hf l1 l2 t1 t2 {m} hm hh=>?_⟩,ok⟩
 ·obtain ⟨f2,e2,e3,_⟩:=h e f hf;rw [S.cX (ok o ho) e2,e3]
 ·obtain ⟨f2,e2,e3,e4,e5⟩:=h e f hf;exact S.sg (ok o ho) e2 (o_ e4 l1) (o_ l2 e5) (by rw [e3];exact t1) (by rw [e3];exact t2) hm hh
def lZ (F:tY) (t:Nat->Int) (o:Nat->Int) (x:Nat):Int:=match F x with
 | some f=>t f.1+o x
 | none=>t x
theorem fg (h:F x=none):lZ F t o x=t x:=by unfold lZ;rw [h]
theorem fh (h:F x=some f):lZ F t o x=t f.1+o x:=by unfold lZ;rw [h]
theorem lY (hF:∀e f,F e=some f->F f.1=none):cZ F n (lZ F t):=by
 refine ⟨fun {o e f} _ hf=>?_,fun {o e f l s} _ hf _ _ t1 t2 {m} hm h=>?_⟩
 ·rw [fh hf,fg (hF e f hf)]
 ·rw [fg (hF e f hf)] at t1 t2
  cases hx:F m with
  | none=>rw [fg hx,fg hx]
  | some g=>
   rw [fh hx] at h;rw [fh hx,fh hx]
   by_cases c:m=e
   ·subst c;rw [hf] at hx;cases hx;lia
   ·rw [vS c]
end
end HK
open HK (cZ fV lE gz lZ)
namespace Y0
open PySem L2
abbrev Lf (st:MU.St) (a b:Nat):Option Int:=val st (true,a,b)
abbrev zEn (st:MU.St) (a b:Nat):Option Int:=val st (false,a,b)
section
variable {n:Nat}
theorem zFw (af:cO (n:Int) la T F) (hE:xj n (cP F) (mv n la T F) Te) (bC:(jn n la T F Te).bar=none):HK.Cl (cP F) (Lf (jn n la T F Te)) (zEn (jn n la T F Te)):=
 MU.Fin.cl (D:=fun x=>x∈(dB (n:Int) la T F).map iF) ⟨af.m7,(Ky af).good,fun t ht=>(hE.first t ht).1,hE.end_.elim id fun z=>absurd bC z⟩ bC (MU.RX (MU.Tf _ _ MU.ZD fun _ h=>h) Te) fun x hx=>(xn af.kH x hx).2.2
theorem Hw (af:cO (n:Int) la T F) (h:r∈dB (n:Int) la T F):∃z,Lf (jn n la T F Te) (iF r).a (iF r).b=some z/\z<=(iF r).v:=by
 obtain ⟨a,b,v,rfl,h1,_,h3,_,h5⟩:=af.kH r h;have cK:a.toNat≠b.toNat:=by lia
 obtain ⟨u,e1,e2⟩:=Hz _ empty _ (eI.mpr ⟨_,h,rfl⟩) (show (iF [a,b,v]).a≠(iF [a,b,v]).b from cK);obtain ⟨u',e3,e4⟩:=(MU.u4 (n:=n) (F:=cP F) (s:=mv n la T F) (dP Te)).2 (true,a.toNat,b.toNat) u cK e1;refine ⟨u',e3,?_⟩;unfold dR at e2 e4;have e2:¬if true=true then v<u else u<v:=e2;have e4:¬if true=true then u<u' else u'<u:=e4;rw [if_pos rfl] at e2 e4;show u'<=v;lia
theorem zAm (af:cO (n:Int) la T F) (bC:(jn n la T F Te).bar=none):HK.Zero (cP F) (Lf (jn n la T F Te)) n la:=by
 have n1:=af.n1;have good:cq n (jn n la T F Te):=MU.Ah af.m7 (Ky af).good Te;have room:∀{y:Nat},y<n->y≠0->[0,(y:Int),la]∈dB (n:Int) la T F/\[(y:Int),0,0]∈dB (n:Int) la T F:=fun {y} h1 h2=>by obtain ⟨m1,m2⟩:=FJ (la:=la) (i:=y-1) (k:=((n:Int)-1).toNat) (Rg h1 h2);rw [show ((y-1:Nat):Int)+1=(y:Int) by exact RN h2] at m1 m2;exact ⟨gJ _ (gJ _ m1),gJ _ (gJ _ m2)⟩
 refine ⟨KR fun r hr z=>?_,by lia,fun {a b v} h=>(MU.sR good bC h).2,fun {y} h1 h2=>?_,fun {y} h1 h2=>?_⟩
 ·obtain ⟨a,b,l,m,rfl,_,_,h3,_⟩:=af.f r hr;have z:some b=some ((0:Nat):Int):=z;cases z;exact absurd h3 (by exact Int.not_lt.mpr (jg ↑0))
 ·obtain ⟨z,e1,e2⟩:=Hw (Te:=Te) af (room h1 h2).2;exact ⟨z,e1,e2⟩
 ·obtain ⟨z,e1,e2⟩:=Hw (Te:=Te) af (room h1 h2).1;exact ⟨z,e1,e2⟩
end
theorem S0:∀{k:Nat} {r:List Int},r∈jP la k->∃i:Nat,i<k/\(r=[0,(i:Int)+1,la]\/r=[(i:Int)+1,0,0])
 | 0,_,h=>nomatch h
 | k+1,r,h=>by
  unfold jP at h;rcases jF.mp h with h | h
  ·obtain ⟨i,h1,h2⟩:=S0 h;exact ⟨i,by exact iN h1,h2⟩
  ·rcases eh.mp h with h | h
   ·exact ⟨k,by exact f7,.inl h⟩
   ·exact ⟨k,by exact f7,.inr (iD.mp h)⟩
theorem SD (h4:x_ rows) (h:r∈kh rows):∃a b l m:Int,[a,b,l,m]∈rows/\(r=[a,b,m]\/r=[b,a,-l]):=by
 unfold kh at h;obtain ⟨x,hx,AF⟩:=List.mem_flatten.mp h;obtain ⟨y,hy,rfl⟩:=eI.mp hx;obtain ⟨a,b,l,m,rfl⟩:=h4 y hy;rcases eh.mp AF with h | h
 ·exact ⟨a,b,l,m,hy,.inl h⟩
 ·exact ⟨a,b,l,m,hy,.inr (iD.mp h)⟩
theorem QN (h:[a,b,l,m]∈rows):[a,b,m]∈kh rows/\[b,a,-l]∈kh rows:=by unfold kh;exact ⟨List.mem_flatten.mpr ⟨_,eI.mpr ⟨_,h,rfl⟩,dN⟩,List.mem_flatten.mpr ⟨_,eI.mpr ⟨_,h,rfl⟩,f_ _ dN⟩⟩
structure EJ (la HY:Int) (T T' F F':List (List Int)):Prop where
 la:la<=HY
 t:∀{a b l' m'},[a,b,l',m']∈T'->∃l m,[a,b,l,m]∈T/\l'<=l/\m<=m'
 f:∀{a b l' m'},[a,b,l',m']∈F'->∃l m,[a,b,l,m]∈F/\l<=l'/\m'<=m
 g:∀{a b l m},[a,b,l,m]∈F->∃l' m',[a,b,l',m']∈F'
section
variable {n:Nat}
theorem Qe (h:cO (n:Int) la T F) (S:cZ (cP F) n tm) (h0:∀o,fV (cP F) o->tm o 0=0/\∀i,i<n->0<=tm o i/\tm o i<=la)
 (hT:∀{a b l m:Int},[a,b,l,m]∈T->∀o,fV (cP F) o->l<=tm o b.toNat-tm o a.toNat/\tm o b.toNat-tm o a.toNat<=m) (hr:r∈dB (n:Int) la T F) (ho:fV (cP F) o):tm o (iF r).b<=tm o (iF r).a+(iF r).v:=by
 obtain ⟨z0,zi⟩:=h0 o ho;unfold dB at hr;rcases jF.mp hr with hr | hr
 ·rcases jF.mp hr with hr | hr
  ·obtain ⟨i,hi,rfl | rfl⟩:=S0 hr
   ·show tm o ((i:Int)+1).toNat<=tm o 0+la;have:=zi ((i:Int)+1).toNat (by omega);lia
   ·show tm o 0<=tm o ((i:Int)+1).toNat+0;have:=zi ((i:Int)+1).toNat (by omega);lia
  ·obtain ⟨a,b,l,m,hm,rfl | rfl⟩:=SD h.oK hr
   ·have:=hT hm o ho;show tm o b.toNat<=tm o a.toNat+m;lia
   ·have:=hT hm o ho;show tm o a.toNat<=tm o b.toNat+ -l;lia
 ·obtain ⟨a,b,l,m,hm,e⟩:=SD h.lX hr;obtain ⟨a',b',l',m',e',x1,x2,x3,x4,_⟩:=h.f _ hm;cases e';have hb:((b.toNat:Nat):Int)=b:=mi (eR x3);have hf:=h.gZ (e:=b.toNat) (by rw [hb];exact hm);have h1:=ho _ _ hf;have h2:=S.cX ho hf;dsimp only at h1 h2;rcases e with rfl | rfl
  ·show tm o b.toNat<=tm o a.toNat+m;lia
  ·show tm o a.toNat<=tm o b.toNat+ -l;lia
theorem Xv (h:cO (n:Int) la T F) (S:cZ (cP F) n tm) (h0:∀o,fV (cP F) o->tm o 0=0/\∀i,i<n->0<=tm o i/\tm o i<=la)
 (hT:∀{a b l m:Int},[a,b,l,m]∈T->∀o,fV (cP F) o->l<=tm o b.toNat-tm o a.toNat/\tm o b.toNat-tm o a.toNat<=m) (t:Nat):(jn n la T F t).bar=none:=by
 have ex:fV (cP F) (fun e=>((cP F e).map fun f=>f.2.1).getD 0):=fun e f hf=>by dsimp only;rw [hf];exact ⟨jg _,(h.m7.num e f hf).2.1⟩
 refine S.Cw h.m7 (MU.Sg _ _ MU.Y6 fun w hw=>?_) (SI _ _ SV) ex t;obtain ⟨r,hr,rfl⟩:=eI.mp hw;obtain ⟨q1,q2,q3⟩:=xn h.kH _ hw;refine ⟨q1,q2,fun _ o ho=>Qe h S h0 hT hr ho,fun z=>absurd (q3.symm.trans z) (by decide)⟩
theorem Zj (h1:cO (n:Int) la T F) (h2:cO (n:Int) HY T' F') (L:EJ la HY T T' F F') (hE:xj n (cP F) (mv n la T F) Te) (bC:(jn n la T F Te).bar=none):∃tm,cZ (cP F') n tm/\(∀o,fV (cP F') o->tm o 0=0/\∀i,i<n->0<=tm o i/\tm o i<=HY)/\∀{a b l m:Int},[a,b,l,m]∈T'->∀o,fV (cP F') o->l<=tm o b.toNat-tm o a.toNat/\tm o b.toNat-tm o a.toNat<=m:=by
 have Z:=zAm (Te:=Te) h1 bC;have C:=zFw h1 hE bC;have hl:0<=la:=by have:=h1.l1;exact eR this
 have S:=HK.qN Z C hl h1.m7;obtain ⟨S',ok⟩:=S.less (F':=cP F') (fun e f' hf=>by
  obtain ⟨a,l,m,hm,rfl,_⟩:=h2.find hf;obtain ⟨l0,m0,Dc,k1,k2⟩:=L.f hm;exact ⟨_,h1.gZ Dc,rfl,k1,k2⟩) (fun e f hf=>by
  obtain ⟨a,l,m,hm,rfl,_⟩:=h1.find hf;obtain ⟨l0,m0,Dc⟩:=L.g hm;exact ⟨_,h2.gZ Dc⟩)
 refine ⟨_,S',fun o ho=>⟨HK.uC Z C hl (ok o ho),fun i hi=>?_⟩,fun {a b l m} hm o ho=>?_⟩
 ·have:=HK.tm_at Z C hl (ok o ho) hi;have:=L.la;lia
 ·obtain ⟨l0,m0,Dc,k1,k2⟩:=L.t hm;obtain ⟨s1,s2⟩:=QN Dc;obtain ⟨z,e1,e2⟩:=Hw (Te:=Te) h1 (gJ _ (jW _ s1));obtain ⟨z',DK,oO⟩:=Hw (Te:=Te) h1 (gJ _ (jW _ s2));have k3:=lE Z C hl (ok o ho) e1;have k4:=lE Z C hl (ok o ho) DK;have e2:z<=m0:=e2;have oO:z'<=-l0:=oO;have k3:gz _ _ _ n la o b.toNat<=gz _ _ _ n la o a.toNat+z:=k3;have k4:gz _ _ _ n la o a.toNat<=gz _ _ _ n la o b.toNat+z':=k4;lia
end
end Y0
namespace L2
open PySem PySem.Spec PyProof.Rows
def bL (n:Nat) (t:Nat->Int):List V:=(List.range n).map fun i=>V.int (t i)
theorem sS:(bL n t).length=n:=by unfold bL;rw [aI,tR]
theorem Fm (h:i<n):(bL n t)[i]?=some (.int (t i)):=by unfold bL;rw [fG,List.getElem?_range h];rfl
theorem mP (h:i<n):jf (bL n t) (i:Int)=some (.int (t i)):=lg (Fm h)
theorem zB0 (h:i<n):qm n (i:Int)=some i:=by unfold qm;rw [if_pos (by exact ip (i+0)),if_pos (BO h)];simp
theorem vN (h:i<n):qm (bL n t).length (i:Int)=some i:=by rw [sS];exact zB0 h
theorem Ac:(bL n t).set i (.int v)=bL n (MB.put t i v):=by
 apply List.ext_getElem?;intro j;rw [List.getElem?_set,sS]
 by_cases hj:j<n
 ·rw [Fm hj,Fm hj];unfold MB.put
  by_cases e:i=j
  ·subst e;simp [hj]
  ·rw [if_neg e,if_neg fun z=>e z.symm]
 ·have h1:∀t':Nat->Int,(bL n t')[j]?=none:=fun t'=>List.getElem?_eq_none_iff.mpr (by rw [sS];exact mh hj);rw [h1,h1];split
  ·split
   ·lia
   ·rfl
  ·rfl
theorem B0:(List.replicate n [V.int v]).flatten=bL n (fun _=>v):=by
 induction n with
 | zero=>rfl
 | succ n ih=>
  rw [List.replicate_succ',List.flatten_append,ih];unfold bL;rw [List.range_succ,fY];rfl
theorem G_ (h:∀i,i<n->t i=u i):bL n t=bL n u:=by unfold bL;refine List.map_congr_left fun i hi=>?_;rw [h i (m9.mp hi)]
theorem xM (s:a8 H0 H) (h:H0 a=none):a8 H0 (upd H a o):=fun b u e=>by rw [aj (aP e h)];exact s b u e
end L2
namespace Y0
open PySem L2
def qe (ring:List Nat):List V:=ring.map fun (i:Nat)=>V.int (i:Int)
def Pb:Sp:=fun vs H Q _=>∃(a:Addr) (x N:Nat) (p:Nat->Nat),vs=[.ref a,.int (x:Int)]/\H a=some (.lst (bL N fun i=>(p i:Int)))/\1<=N/\N<=8/\(∀i,p i<N)/\x<N/\
 ∀ring l H',Bo p N x ring->H l=none->a8 H H'->H' l=some (.lst (qe ring))->Q (.ref l) H'
structure su (K:bE) (mg:Str->Option Value) (C Mo fI:Addr):Prop where
 range:mg "range"=none
 len:mg "len"=none
 list:mg "list"=none
 ex:sD K C Mo fI
 ba:TV K Mo
 mo:mg "MomentError"=some (.ref Mo)
 nR:PySem.W.findIn K (.ref C) "ring"=some none
 C7:mg "NoTimes"=some (.ref C)
def UD (C:Addr):Sp:=fun vs H Q _=>∃x r xs,vs=[.ref x,.ref r]/\H x=some (jO x C none)/\H r=some (.lst xs)/\xs.length<=1000/\
 ∀d l H',H d=none->H l=none->H' x=some (jO x C (some d))->H' d=some (ud d [("ring",.ref l)])->H' l=some (.lst xs)->ck x H H'->Q .aR H'
section
theorem zHb:cC ["self","ring"] ["self","ring"] (aU cT):=de
theorem yF (F:gC K "__init__" "NoTimes.__init__" cT fI fd) (T:su K mg C Mo fI):au P w K mg base a7 1 fI fd ["self","ring"] (UD C):=by
 refine F.dw zHb fun _ A _ s H _ Q E hr h=>?_;obtain ⟨x,r,xs,rfl,hx,ay,_,k⟩:=h;refine ⟨_,bo (gE (zBm T.ba rfl T.mo (bS (pv 0) (vZ As (by rfl) T.list (by decide+kernel) (bR (pv 1))))))
  (aA (zBe (pv 0) (vZ As (by rfl) T.list (by decide+kernel) (bR (pv 1))) rfl)),?_⟩
 refine ⟨_,rfl,_,rfl,r,_,rfl,.inl (a9.of ay),fun l1 rP=>?_⟩;have s1:=bf (o:=.lst xs) rP;refine ⟨x,_,C,Mo,fI,none,rfl,s1 _ _ hx,T.ex,dU rfl,?_⟩;refine ⟨_,rfl,r,_,rfl,.inl (a9.of (s1 _ _ ay)),fun l2 oE=>?_⟩;have s2:=s1.trans (bf (o:=.lst xs) oE);refine ⟨_,rfl,x,C,Mo,fI,rfl,s2 _ _ hx,T.ex,T.nR,fun d hd Iy=>?_⟩;have l2x:l2≠x:=aB (aP hx (s1.free oE));have l2d:l2≠d:=aP (H:=upd (upd H l1 (.lst xs)) l2 (.lst xs)) aq hd;refine k d l2 _ (s2.free hd) (s1.free oE) ?_ aq ?_ fun b o e ne=>?_
 ·rw [aj (aB Iy),aq]
 ·rw [aj l2d,aj l2x,aq]
 ·rw [aj (aP (s2 _ _ e) hd),aj ne];exact s2 _ _ e
abbrev nRb:List Str:=["pushers","moment","start","step","ring"]
theorem B_:cC nRb ["pushers","moment"] (aU c9):=de
theorem Sy (r:List Nat) (x:Nat):qe (r++[x])=qe r++[V.int (x:Int)]:=by unfold qe;rw [fY];rfl
theorem uT (F:Fn K mg "ring_behind" c9 ["pushers","moment"] f fd) (T:su K mg C Mo fI):au P w K mg base a7 1 f fd ["pushers","moment"] Pb:=by
 refine F.F.dw B_ fun _ A _ s H _ Q E hr h=>?_;obtain ⟨a,x,N,p,rfl,ha,N1,N8,hp,hx,k⟩:=h;refine ⟨_,bo (cF 2 B_.nd (pv 1))
  (bo (iG PassesOwn.never rfl (ux rfl T.range (bR (lB Ar (by rfl) T.len A' (bR (pv 0))))) (bV 3 B_.nd)
   (aA (cF 2 B_.nd (cY dC (pv 0) (pv 2)))))
  (bo (cF 4 B_.nd (l9 (bR (pv 2))))
  (bo (QC PassesOwn.never (ef EO (cY dC (pv 0) (cY dC (pv 4) (vK vM aG))) (pv 2))
   (aA (gE (qE so qy sk qi (pv 4) (bR (cY dC (pv 0) (cY dC (pv 4) (vK vM aG))))))))
  (aA (cG (pv 4)))))),?_⟩
 have lt:∀j,MA.it p j x<N:=fun j=>MA.Bl (fun y _=>hp y) hx j;have V7:∀j,MA.it p j (MA.it p N x)<N:=fun j=>MA.Bl (fun y _=>hp y) (lt N) j;refine ⟨_,rfl,_,rfl,a,_,rfl,.inl (a9.of ha),(N:Int),(by rw [sS]),by exact ip (N+Nat.succ 4611686018427387903),by lia,?_⟩;refine BW (n:=((N:Int)).toNat) (fun i ae H'=>∃v,ae=[some (.ref a),some (.int (x:Int)),some (.int (MA.it p i x:Int)),v,none]/\H'=H) ⟨none,rfl,rfl⟩ ?_ ?_
 ·rintro i ae H' _ ⟨v,rfl,rfl⟩;exact ⟨_,rfl,jJ rfl ha (mP (lt i)) ⟨_,rfl,rfl⟩⟩
 ·rintro ae H' ⟨v,rfl,rfl⟩;rw [hX];obtain ⟨A9,iL,iR,ME⟩:=MA.PN (fun y _=>hp y) hx (n:=N);refine ⟨_,rfl,dU rfl,fun l hl=>?_⟩;have s0:=bf (o:=.lst [V.int (MA.it p N x:Int)]) hl;refine ⟨fun m ae H1=>∃L,1<=L/\L+m=A9/\(∀j,0<j->j<L->MA.it p j (MA.it p N x)≠MA.it p N x)/\ae=[some (.ref a),some (.int (x:Int)),some (.int (MA.it p N x:Int)),v,some (.ref l)]/\a8 H' H1/\
   H1 l=some (.lst (qe ((List.range L).map fun j=>MA.it p j (MA.it p N x)))),⟨A9-1,1,av _,m_ iL,(fun j h1 h2=>by lia),rfl,s0,aq⟩,?_⟩
  rintro m ae H1 ⟨L,L1,Lm,cK,rfl,s1,e1⟩;have el:(List.range L).map (fun j=>MA.it p j (MA.it p N x))=(List.range (L-1)).map (fun j=>MA.it p j (MA.it p N x))++[MA.it p (L-1) (MA.it p N x)]:=by have:L=(L-1)+1:=GQ L1;rw [this,List.range_succ,fY];rfl
  have gn:jf (qe ((List.range L).map fun j=>MA.it p j (MA.it p N x))) (-1)=some (.int (MA.it p (L-1) (MA.it p N x):Int)):=by rw [el,Sy];exact Xd _ _
  have eL:p (MA.it p (L-1) (MA.it p N x))=MA.it p L (MA.it p N x):=by have:L=(L-1)+1:=GQ L1;rw [this];rfl
  refine ⟨_,rfl,_,rfl,_,rfl,_,_,_,_,rfl,rfl,e1,gn,_,_,_,_,rfl,rfl,(s1 _ _ ha),mP (V7 _),_,rfl,rfl,_,rfl,?_⟩;refine j_ (fun hc=>?_) (fun hc=>?_)
  ·have CU:MA.it p L (MA.it p N x)≠MA.it p N x:=fun z=>by
    rw [eL,z] at hc;simp at hc
   have NP:L≠A9:=fun z=>CU (z▸ME);refine ⟨fun ae H2=>∃m',m'<m/\∃L,1<=L/\L+m'=A9/\(∀j,0<j->j<L->MA.it p j (MA.it p N x)≠MA.it p N x)/\ae=[some (.ref a),some (.int (x:Int)),some (.int (MA.it p N x:Int)),v,some (.ref l)]/\a8 H' H2/\
    H2 l=some (.lst (qe ((List.range L).map fun j=>MA.it p j (MA.it p N x)))),fun ae H' z=>z,?_⟩
   refine ⟨_,rfl,.inl ⟨rfl,_,a9.of e1⟩,_,rfl,_,rfl,_,rfl,_,_,_,_,rfl,rfl,e1,gn,_,_,_,_,rfl,rfl,(s1 _ _ ha),mP (V7 _),l,_,_,rfl,rfl,e1,?_,?_⟩
   ·unfold qe;rw [aI,aI,tR];exact gy (by lia)
   ·refine ⟨m-1,by lia,L+1,by exact iN L1,by lia,fun j h1 h2=>?_,rfl,xM s1 hl,?_⟩
    ·by_cases e:j=L
     ·rw [e];exact CU
     ·exact cK j h1 (tj h2 e)
    ·rw [aq,List.range_succ,fY,eL];exact congrArg (fun z=>some (HO.lst z)) (Sy _ _).symm
  ·have he:MA.it p L (MA.it p N x)=MA.it p N x:=by
    rw [eL] at hc;simp at hc;lia
   exact ⟨_,rfl,k _ l H1 ⟨L,L1,by lia,rfl,he,cK⟩ hl s1 e1⟩
end
def c_:List Int->MB.B3
 | [a,b,m]=>(a.toNat,b.toNat,m)
 | _=>(0,0,0)
def Idx (N:Nat) (rows:List (List Int)):Prop:=∀r∈rows,∃(a b:Nat) (m:Int),r=[(a:Int),(b:Int),m]/\a<N/\b<N
theorem Idx.Ib (h:Idx N rows):MB.EC N (rows.map c_):=fun x hx=>by obtain ⟨r,hr,rfl⟩:=eI.mp hx;obtain ⟨a,b,m,rfl,ha,hb⟩:=h r hr;show (a:Int).toNat<N/\(b:Int).toNat<N;lia
def qV:Option Nat->V
 | none=>.aR
 | some x=>.int (x:Int)
theorem Pt:(qV q=.aR)↔q=none:=by cases q<;>simp [qV]
def JW (CN:Addr):Sp:=fun vs H Q E=>∃(N:Nat) (a:Addr) (rows:List (List Int)),vs=[.int (N:Int),.ref a]/\1<=N/\N<=8/\dQ H a rows/\Idx N rows/\
 (∀k l H',k<N->(aO (rows.map c_) (k+1)).q=none->H l=none->a8 H H'->H' l=some (.lst (bL N (aO (rows.map c_) (k+1)).t))->Q (.ref l) H')/\
 ((∀k,k<N->(aO (rows.map c_) (k+1)).q≠none)->∀x d l ring H',(aO (rows.map c_) N).q=some x->Bo (aO (rows.map c_) N).p N x ring->H d=none->H l=none->a8 H H'->
   H' d=some (ud d [("ring",.ref l)])->H' l=some (.lst (qe ring))->E (.ref CN) (some d) H')
section
abbrev nEt:List Str:=["many","bounds","times","pushers","turn","pushed","a","b","most"]
theorem ue:cC nEt ["many","bounds"] (aU aV):=de
theorem rh (F:Fn K mg "earliest_times" aV ["many","bounds"] f fd) (T:su K mg C Mo fI) (bI:eT K DE ["self","ring"] [])
 (GI:au P w K mg base a7 1 fI DE ["self","ring"] (UD C)) (FR:Fn K mg "ring_behind" c9 ["pushers","moment"] fR O8) (GR:au P w K mg base a7 1 fR O8 ["pushers","moment"] Pb):
 au P w K mg base (iV P w) 3 f fd ["many","bounds"] (JW C):=by
 refine F.F.yH ue fun _ A _ s H _ Q E hr h=>?_;obtain ⟨N,a,rows,rfl,N1,N8,⟨ps,R⟩,AI,kq,ke⟩:=h;have gW:cJ 1 _:=hr.mono (by decide);have hB:=AI.Ib;generalize Wo:rows.map c_=B at*;refine ⟨_,bo (cF 2 ue.nd (cE Bw (l9 (bR aG)) (pv 0)))
  (bo (cF 3 ue.nd (cE Bw (l9 (bR aG)) (pv 0)))
  (bo (zDn (iG PassesOwn.never rfl (ux rfl T.range (bR (pv 0))) (bV 4 ue.nd)
   (bo (cF 5 ue.nd og)
   (bo (iG PassesOwn.never rfl (iH (pv 1)) (uk rfl (eN (bV 6 ue.nd) (eN (bV 7 ue.nd) (eN (bV 8 ue.nd) sU))))
    (aA (eM (ef vJ (cY dC (pv 2) (pv 6)) (cE jK (cY dC (pv 2) (pv 7)) (pv 8)))
     (bo (um (cE jK (cY dC (pv 2) (pv 7)) (pv 8)) (uj (pv 2) (pv 6) u7))
     (bo (um (pv 7) (uj (pv 3) (pv 6) u7))
     (aA (cF 5 ue.nd (pv 6))))) eV)))
   (aA (eM (ef JJ (pv 5) og) (aA (cG (pv 2))) eV))))))
  (aA (XR (X1 T.ex GI hr rfl T.C7 bI gD (bR (cH GR gW FR (bS (pv 3) (pv 5))))))))),?_⟩
 refine ⟨dU rfl,fun z1 CG=>⟨_,rfl,z1,_,_,rfl,rfl,aq,by exact ip (N+Nat.succ 9223372036854775807),by lia,?_,fun ta CJ=>?_⟩⟩
 ·show 1*((N:Int)).toNat<=sizeLine;exact aS (gy (by lia))
 rw [hX,B0];have s1:=bf (o:=.lst [V.int 0]) CG;have s2:=s1.trans (bf (o:=.lst (bL N fun _=>0)) CJ);have CI:H ta=none:=s1.free CJ;have et:upd (upd H z1 (.lst [V.int 0])) ta (.lst (bL N fun _=>0)) ta=some (.lst (bL N fun _=>0)):=aq;generalize upd (upd H z1 (.lst [V.int 0])) ta (.lst (bL N fun _=>0))=H2 at*;refine ⟨dU rfl,fun z2 CF=>⟨_,rfl,z2,_,_,rfl,rfl,aq,by exact ip (N+Nat.succ 9223372036854775807),by lia,?_,fun pa Ij=>?_⟩⟩
 ·show 1*((N:Int)).toNat<=sizeLine;exact aS (gy (by lia))
 rw [hX,B0];have s3:=bf (o:=.lst [V.int 0]) CF;have s4:=s3.trans (bf (o:=.lst (bL N fun _=>0)) Ij);have MF:H pa=none:=s2.free (s3.free Ij);have ep:upd (upd H2 z2 (.lst [V.int 0])) pa (.lst (bL N fun _=>0)) pa=some (.lst (bL N fun _=>0)):=aq;have tp:ta≠pa:=aP et (s3.free Ij);have et4:=s4 _ _ et;have sH:=s2.trans s4;clear s1 s2 s3 s4 CG CF CJ Ij;generalize upd (upd H2 z2 (.lst [V.int 0])) pa (.lst (bL N fun _=>0))=H4 at*;refine ⟨_,rfl,(N:Int),rfl,by exact ip (N+Nat.succ 4611686018427387903),by lia,?_⟩;refine BW (n:=((N:Int)).toNat) (fun i ae H'=>∃v4 v5 v6 v7 v8,ae=[some (.int (N:Int)),some (.ref a),some (.ref ta),some (.ref pa),v4,v5,v6,v7,v8]/\H' ta=some (.lst (bL N (aO B i).t))/\
  H' pa=some (.lst (bL N fun j=>((aO B i).p j:Int)))/\a8 H H'/\(∀j,j<i->(aO B (j+1)).q≠none)/\(i=0\/v5=some (qV (aO B i).q))) ⟨none,none,none,none,none,rfl,et4,ep,sH,(fun j hj=>absurd hj (oR _)),.inl rfl⟩ ?_ ?_
 ·rintro i ae H5 hi ⟨v4,v5,v6,v7,v8,rfl,t5,p5,s5,kM,_⟩;rw [hX] at hi;have R5:=R.same s5;refine ⟨_,rfl,a,rfl,⟨_,a9.of R5.1⟩,km (K:=K) (a:=a) (xs:=ps.map V.ref) (fun j ae H'=>∃w6 w7 w8,ae=[some (.int (N:Int)),some (.ref a),some (.ref ta),some (.ref pa),some (.int (0+(i:Int))),some (qV ((B.take j).foldl gh (begin (aO B i))).q),w6,w7,w8]/\
   H' ta=some (.lst (bL N ((B.take j).foldl gh (begin (aO B i))).t))/\H' pa=some (.lst (bL N fun x=>(((B.take j).foldl gh (begin (aO B i))).p x:Int)))/\a8 H H') ⟨v6,v7,v8,rfl,t5,p5,s5⟩ ?_ ?_ ?_⟩
  ·rintro j ae H6 _ ⟨w6,w7,w8,rfl,_,_,s6⟩;exact a9.of (s6 _ _ R.1)
  ·rintro j x ae H6 hx ⟨w6,w7,w8,rfl,t6,p6,s6⟩;obtain ⟨q,r,rfl,_,ay,ie⟩:=R.get hx;obtain ⟨a',b',m,e4,rX,dO⟩:=AI r (gK ay);subst e4;have NZ:B[j]?=some (a',b',m):=by
    rw [<-Wo,fG,ay];show some ((a':Int).toNat,(b':Int).toNat,m)=_;rw [hX,hX]
   have DG:(B.take (j+1)).foldl gh (begin (aO B i))=gh ((B.take j).foldl gh (begin (aO B i))) (a',b',m):=by rw [lu,NZ,w_];rfl
   generalize (B.take j).foldl gh (begin (aO B i))=S at*;rw [DG];refine ⟨q,_,rfl,dm.of (s6 _ _ ie),rfl,_,_,rfl,_,_,rfl,_,_,rfl,rfl,?_⟩;refine ⟨_,rfl,jJ rfl t6 (mP rX) ⟨_,rfl,jJ rfl t6 (mP dO) ⟨_,rfl,_,_,rfl,rfl,_,_,rfl,rfl,_,rfl,?_⟩⟩⟩;refine j_ (fun hc=>?_) (fun hc=>?_)
   ·have jE:S.t a'<S.t b'-m:=by simpa using hc
    have er:gh S (a',b',m)=⟨MB.put S.t a' (S.t b'-m),MB.put S.p a' b',some a'⟩:=by unfold gh;exact if_pos jE
    rw [er];refine ⟨_,rfl,jJ rfl t6 (mP dO) ⟨_,rfl,_,_,rfl,rfl,_,rfl,_,rfl,ta,_,_,_,rfl,rfl,t6,vN rX,?_⟩⟩;have p7:upd H6 ta (.lst ((bL N S.t).set a' (.int (S.t b'-m)))) pa=some (.lst (bL N fun x=>(S.p x:Int))):=by rw [aj (aB tp)];exact p6
    refine ⟨_,rfl,_,rfl,_,rfl,pa,_,_,_,rfl,rfl,p7,vN rX,?_⟩;refine ⟨_,rfl,_,_,_,rfl,?_,?_,xM (xM s6 CI) MF⟩
    ·rw [aj tp,aq,Ac]
    ·rw [aq,Ac];refine congrArg (fun z=>some (HO.lst z)) (G_ fun x _=>?_);show (if x=a' then (b':Int) else (S.p x:Int))=((if x=a' then b' else S.p x:Nat):Int);split<;>rfl
   ·have jE:¬S.t a'<S.t b'-m:=by simpa using hc
    have er:gh S (a',b',m)=S:=by unfold gh;exact if_neg jE
    rw [er];exact ⟨_,_,_,rfl,t6,p6,s6⟩
  ·rintro ae H6 ⟨w6,w7,w8,rfl,t6,p6,s6⟩;have NY:B.take (ps.map V.ref).length=B:=by
    rw [aI,R.len,<-Wo,<-aI (f:=c_)];exact jN
   rw [NY] at t6 p6 ⊢;have er:B.foldl gh (begin (aO B i))=aO B (i+1):=rfl;rw [er] at t6 p6 ⊢;refine ⟨_,rfl,rfl,_,rfl,?_⟩;refine j_ (fun hc=>?_) (fun hc=>?_)
   ·have hq:(aO B (i+1)).q=none:=Pt.mp (by simpa using hc);exact ⟨_,rfl,kq i ta H6 hi hq CI s6 t6⟩
   ·have hq:(aO B (i+1)).q≠none:=fun z=>hc (by simpa using Pt.mpr z);refine ⟨_,_,_,_,_,rfl,t6,p6,s6,fun j hj=>?_,.inr rfl⟩
    by_cases e:j=i
    ·rw [e];exact hq
    ·exact kM j (tj hj e)
 ·rintro ae H5 ⟨v4,v5,v6,v7,v8,rfl,t5,p5,s5,kM,hv⟩;rw [hX] at*;have hv:v5=some (qV (aO B N).q):=hv.resolve_left (by exact Nat.ne_of_gt N1);have hq:(aO B N).q≠none:=by
   have:=kM (N-1) (Kt N1)
   rwa [show N-1+1=N by exact Rn N1] at this
  cases hx:(aO B N).q with
  | none=>exact absurd hx hq
  | some x=>
   rw [hx] at hv;subst hv;have gp:=MB.He (n:=N) (by exact N1) hB N;refine ⟨_,rfl,_,rfl,pa,x,N,_,rfl,p5,N1,N8,gp.p,gp.q x hx,fun ring l H6 jT _ s6 e6=>?_⟩;refine ⟨dU rfl,fun ea Nw=>?_⟩;have s7:=bf (o:=jO ea C none) Nw;refine ⟨ea,l,_,rfl,aq,s7 _ _ e6,?_,fun d l2 H7 hd oE ex ed el kp=>⟨rfl,ea,C,Mo,fI,some d,rfl,ex,T.ex,s5.free (s6.free Nw),?_⟩⟩
   ·unfold qe;obtain ⟨L,_,hL,e,_⟩:=jT;rw [e,aI,aI,tR];lia
   have dea:d≠ea:=aB (aP aq hd);have lea:l2≠ea:=aB (aP aq oE);have sA:=(s5.trans s6).trans s7;refine ke (fun k hk=>kM k hk) x d l2 ring _ hx jT (sA.free hd) (sA.free oE) (fun b o e=>?_) ?_ ?_
   ·have WK:b≠ea:=aP ((s5.trans s6) _ _ e) Nw;rw [uw WK];exact kp _ _ (sA _ _ e) WK
   ·rw [uw dea];exact ed
   ·rw [uw lea];exact el
end
end Y0
namespace L2
open PySem PySem.Spec PyProof.Rows
structure ki (H:Hp) (l:Addr) (rs:List Addr) (N:Nat) (T:Nat->Nat->Int):Prop where
 top:H l=some (.lst (rs.map V.ref))
 len:rs.length=N
 row:∀(i:Nat) r,rs[i]?=some r->H r=some (.lst (bL N (T i)))
 inj:∀(i j:Nat) r,rs[i]?=some r->rs[j]?=some r->i=j
 ne:∀(i:Nat) r,rs[i]?=some r->r≠l
theorem ki.has (h:ki H l rs N T) (hi:i<N):∃r,rs[i]?=some r:=⟨rs[i]'(by rw [h.len];exact hi),by simp [h.len,hi]⟩
theorem ki.at_ {N:Nat} (h:ki H l rs N T) {i:Nat} (hi:rs[i]?=some r):jf (rs.map V.ref) (i:Int)=some (.ref r):=lg (by rw [fG,hi];rfl)
theorem ki.set (h:ki H l rs N T) (ha:rs[a]?=some r):
 ki (upd H r (.lst ((bL N (T a)).set b (.int v)))) l rs N (fun i j=>if i=a/\j=b then v else T i j):=by
 refine ⟨by rw [aj (aB (h.ne a r ha))];exact h.top,h.len,fun i q e=>?_,h.inj,h.ne⟩
 by_cases e1:q=r
 ·subst e1;have:i=a:=h.inj i a q e ha;subst this;rw [aq,Ac];refine congrArg (fun z=>some (HO.lst z)) (G_ fun j _=>?_);unfold MB.put
  by_cases e2:j=b
  ·rw [if_pos e2,if_pos ⟨rfl,e2⟩]
  ·rw [if_neg e2,if_neg fun z=>e2 z.2]
 ·have:i≠a:=fun z=>e1 (by rw [z,ha] at e;exact (dM e).symm);rw [aj e1,h.row i q e];refine congrArg (fun z=>some (HO.lst z)) (G_ fun j _=>?_);rw [if_neg fun z=>this z.1]
theorem ki.congr (h:ki H l rs N T) (e:∀i j,i<N->j<N->T i j=T' i j):ki H l rs N T':=by
 refine ⟨h.top,h.len,fun i r hr=>?_,h.inj,h.ne⟩;have hi:i<N:=by rw [<-h.len];exact (gu.mp hr).1
 rw [h.row i r hr,G_ fun j hj=>e i j hi hj]
end L2
namespace Y0
open PySem L2
structure zIn (mg:Str->Option Value):Prop where
 range:mg "range"=none
 list:mg "list"=none
 min:mg "min"=none
end Y0
namespace MB
theorem zA7 (h:s.q≠none):(gh s x).q≠none:=by
 unfold gh;split
 ·simp
 ·exact h
theorem UX:∀{B:List B3} {s:Rx},s.q≠none->(B.foldl gh s).q≠none
 | [],_,h=>h
 | x::B,_,h=>UX (B:=B) (zA7 h)
theorem Sw:∀{B:List B3} {s:Rx},s.q=none->(B.foldl gh s).q=none->B.foldl gh s=s/\∀x∈B,s.t x.2.1-s.t x.1<=x.2.2
 | [],_,_,_=>⟨rfl,fun x h=>nomatch h⟩
 | x::B,s,h0,h=>by
  rw [wY] at h ⊢
  by_cases hc:s.t x.1<s.t x.2.1-x.2.2
  ·exact absurd h (UX (by unfold gh;rw [if_pos hc];simp))
  ·have e:gh s x=s:=by unfold gh;rw [if_neg hc]
   rw [e] at h ⊢;obtain ⟨h1,h2⟩:=Sw (B:=B) h0 h;refine ⟨h1,fun y hy=>?_⟩;rcases eh.mp hy with q | q
   ·subst q;lia
   ·exact h2 y q
theorem quiet (h:(aO B (k+1)).q=none):(aO B (k+1)).t=(aO B k).t/\∀x∈B,(aO B (k+1)).t x.2.1-(aO B (k+1)).t x.1<=x.2.2:=by obtain ⟨h1,h2⟩:=Sw (B:=B) (s:=begin (aO B k)) rfl h;have e:aO B (k+1)=begin (aO B k):=h1;rw [e];exact ⟨rfl,h2⟩
end MB
namespace Y0
open PySem L2
theorem RV:∀{k i:Nat},1<=i->i<=k->[0,(i:Int),la]∈jP la k/\[(i:Int),0,0]∈jP la k
 | 0,i,h1,h2=>by lia
 | k+1,i,h1,h2=>by
  unfold jP
  by_cases e:i=k+1
  ·subst e;have:((k+1:Nat):Int)=(k:Int)+1:=by lia
   rw [this];exact ⟨jW _ dN,jW _ (f_ _ dN)⟩
  ·obtain ⟨a,b⟩:=RV (la:=la) (k:=k) h1 (by lia);exact ⟨gJ _ a,gJ _ b⟩
theorem QX:∀{k:Nat},k<N->Idx N (jP la k)
 | 0,_=>fun r hr=>nomatch hr
 | k+1,hk=>fun r hr=>by
  unfold jP at hr;rcases jF.mp hr with h | h
  ·exact QX (k:=k) (by exact aS hk) r h
  ·have e:(k:Int)+1=((k+1:Nat):Int):=by lia
   rcases eh.mp h with h | h
   ·exact ⟨0,k+1,la,by rw [h,e];rfl,KA hk,hk⟩
   ·rw [iD.mp h];exact ⟨k+1,0,0,by rw [e];rfl,hk,KA hk⟩
theorem Ko {N:Nat}:∀{rows:List (List Int)},(∀r∈rows,∃a b l m:Int,r=[a,b,l,m]/\0<=a/\a<N/\0<=b/\b<N)->Idx N (kh rows)
 | [],_=>fun r hr=>nomatch hr
 | r::t,h=>fun x hx=>by
  unfold kh at hx;rw [fj,List.flatten_cons] at hx;rcases jF.mp hx with z | z
  ·obtain ⟨a,b,l,m,rfl,h1,h2,h3,h4⟩:=h r dN;rcases eh.mp z with z | z
   ·exact ⟨a.toNat,b.toNat,m,by rw [z,mi h1,mi h3],BQ h1 h2,BQ h3 h4⟩
   ·rw [iD.mp z];exact ⟨b.toNat,a.toNat,-l,by rw [mi h1,mi h3],BQ h3 h4,BQ h1 h2⟩
  ·exact Ko (rows:=t) (fun r hr=>h r (f_ _ hr)) x z
theorem Idx.append (h1:Idx N a) (h2:Idx N b):Idx N (a++b):=fun r hr=>(jF.mp hr).elim (h1 r) (h2 r)
theorem cO.idx {N:Nat} {la:Int} {T F:List (List Int)} (h:cO (N:Int) la T F):Idx N (dB (N:Int) la T F):=by
 unfold dB;have:=h.n1;refine ((QX (by omega)).append (Ko fun r hr=>?_)).append (Ko fun r hr=>?_)
 ·obtain ⟨a,b,l,m,e,h1,h2,h3,h4,_⟩:=h.t r hr;exact ⟨a,b,l,m,e,h1,h2,h3,h4⟩
 ·obtain ⟨a,b,l,m,e,h1,h2,h3,h4,_⟩:=h.f r hr;exact ⟨a,b,l,m,e,h1,h2,by exact eR h3,h4⟩
theorem zDo {N:Nat} {la:Int} {T F:List (List Int)} {k:Nat} (l1:1<=la) (h:(aO ((dB (N:Int) la T F).map c_) (k+1)).q=none):IP N la ((dB (N:Int) la T F).map c_) (aO ((dB (N:Int) la T F).map c_) (k+1)).t:=by
 obtain ⟨_,hb⟩:=MB.quiet h;have lo:∀i,1<=i->i<N->(aO ((dB (N:Int) la T F).map c_) (k+1)).t i-(aO ((dB (N:Int) la T F).map c_) (k+1)).t 0<=la/\(aO ((dB (N:Int) la T F).map c_) (k+1)).t 0-(aO ((dB (N:Int) la T F).map c_) (k+1)).t i<=0:=fun i h1 h2=>by obtain ⟨m1,m2⟩:=RV (la:=la) (k:=((N:Int)-1).toNat) h1 (Yg h2);have q1:=hb (0,i,la) (eI.mpr ⟨[0,(i:Int),la],gJ _ (gJ _ m1),rfl⟩);have q2:=hb (i,0,0) (eI.mpr ⟨[(i:Int),0,0],gJ _ (gJ _ m2),rfl⟩);exact ⟨q1,q2⟩
 refine ⟨fun i j hi hj cK=>?_,hb⟩
 by_cases i0:i=0
 ·subst i0;exact (lo j (by lia) hj).1
 ·by_cases j0:j=0
  ·subst j0;have:=(lo i (by lia) hi).2;lia
  ·have h1:=lo i (by lia) hi;have h2:=lo j (by lia) hj;lia
def nV (N:Nat) (F:List (List Int)):List Int:=((List.range N).filter fun (i:Nat)=>decide (¬(i:Int)∈F.map uc)).map fun (i:Nat)=>(i:Int)
def UE (C:Addr):Sp:=fun vs H Q _=>∃(p:Addr) (N:Nat) (la:Int) (T F:List (List Int)),vs=[.ref p]/\jl C H p (N:Int) la T F/\cO (N:Int) la T F/\∀l H',H l=none->a8 H H'->H' l=some (.lst ((nV N F).map V.int))->Q (.ref l) H'
section
theorem TL:cC ["self","ends"] ["self"] (aU dj):=de
theorem zFv:jB (aU dj) ["self","ends"] (nP [(".0",.local),("fall",.local)]) ["fall"] [none]:=nS
theorem zFu:jB (aU dj) ["self","ends"] (nP [(".0",.local),("moment",.local),("ends",.free)]) ["moment","ends"] [none,some 1]:=nS
theorem zHq:(["moment","ends"]:List Str).Nodup:=by decide+kernel
theorem Xy:nV (j+1) F=nV j F++(if (j:Int)∈F.map uc then [] else [(j:Int)]):=by
 unfold nV;rw [List.range_succ,List.filter_append,fY]
 by_cases e:(j:Int)∈F.map uc
 ·rw [if_pos e,List.filter_cons_of_neg (by simpa using e)];rfl
 ·rw [if_neg e,List.filter_cons_of_pos (by simpa using e)];rfl
theorem zBn:(nV j F).length<=j:=by unfold nV;rw [aI];exact dq (List.length_filter_le _ _) (Nat.le_of_eq tR)
theorem yE (F:gC K "own" "Web.own" dj f fd) (range:mg "range"=none) (TC:mG K mg C):au P w K mg base a7 1 f fd ["self"] (UE C):=by
 refine F.dw TL fun _ A _ s H _ Q E hr h=>?_;obtain ⟨p,N,la,rT,rF,rfl,⟨dx,ta,fa,hp,_,⟨qs,R⟩⟩,af,k⟩:=h;have n8:=af.n2;refine ⟨_,bo (qH (i:=1) TL.nd rfl (Or.inr rfl) (qg rfl (iH (fq (pv 0) rfl)) zFv (fun cl ex s0 H0=>⟨bV 0 V1,sY,cY (zBy (K:=K) rfl) (pv 0) aG⟩)))
  (aA (cG (qg rfl (ux rfl range (bR (fq (pv 0) rfl))) zFu (fun cl ex s0 H0=>⟨bV 0 zHq,B5 (B9 (YW (K:=K) rfl) (pv 0) (pv 1) (by with_unfolding_all rfl)),pv 0⟩)))),?_⟩
 refine ⟨_,rfl,p,C,dx,_,_,rfl,hp,TC.cl,TC.nF,Qj _ _ _ _,fa,rfl,⟨_,a9.of R.1⟩,fun Da di=>?_⟩;refine xV (xs:=qs.map V.ref) (fun j ae H'=>∃v,ae=[v]/\H' Da=some (.lst (((rF.take j).map uc).map V.int))/\a8 H H') ⟨none,rfl,aq,bf di⟩ ?_ ?_ ?_
 ·rintro j ae H1 _ ⟨v,rfl,_,s1⟩;exact a9.of (s1 _ _ R.1)
 ·rintro j x ae H1 hx ⟨v,rfl,e1,s1⟩;obtain ⟨q,r,rfl,_,ay,ie⟩:=R.get hx;obtain ⟨a',b',l,m,rfl,_⟩:=af.f r (gK ay);refine ⟨_,rfl,_,_,_,_,rfl,rfl,dm.of (s1 _ _ ie),rfl,_,e1,?_,_,rfl,?_,fun b o e=>?_⟩
  ·rw [aI,aI,jX];have:=af.fl;exact gy (by lia)
  ·rw [aq,lu,ay,fY,fY];rfl
  ·rw [aj (aP e di)];exact s1 _ _ e
 ·rintro ae H1 ⟨v,rfl,e1,s1⟩;have hl:rF.take (qs.map V.ref).length=rF:=by
   rw [aI,R.len];exact jN
  rw [hl] at e1;refine ⟨_,rfl,p,C,dx,_,_,rfl,s1 _ _ hp,TC.cl,TC.nM,qI _ _ _ _,(N:Int),rfl,by exact ip (N+Nat.succ 4611686018427387903),by lia,fun Db NT=>?_⟩;refine BX (n:=((N:Nat):Int).toNat) (fun j ae H'=>∃v,ae=[v,some (.ref Da)]/\H' Db=some (.lst ((nV j rF).map V.int))/\a8 H1 H') ⟨none,rfl,aq,bf NT⟩ ?_ ?_
  ·rintro j ae H2 hj ⟨v,rfl,e2,s2⟩;rw [hX] at hj;have z0:(0:Int)+(j:Int)=(j:Int):=by lia
   rw [z0];refine ⟨_,rfl,_,rfl,Da,_,rfl,.inl (a9.of (s2 _ _ e1)),rfl,BV,_,rfl,?_⟩;show if (!ve (V.int (j:Int)) ((rF.map uc).map V.int))=true then _ else _;rw [BB,Xy];refine j_ (fun hc=>?_) (fun hc=>?_)
   ·have jE:¬(j:Int)∈rF.map uc:=by simpa using hc
    refine ⟨_,rfl,_,e2,?_,_,rfl,?_,fun b o e=>?_⟩
    ·rw [aI];exact gy (by have:=zBn (j:=j) (F:=rF);lia)
    ·rw [aq,if_neg jE,fY];rfl
    ·rw [aj (aP e NT)];exact s2 _ _ e
   ·have jE:(j:Int)∈rF.map uc:=by simpa using hc
    refine ⟨_,rfl,?_,s2⟩;rw [if_pos jE,List.append_nil];exact e2
  ·rintro ae H2 ⟨v,rfl,e2,s2⟩;rw [hX] at e2;exact k Db _ (s1.free NT) (s1.trans s2) e2
end
def gI (F:List (List Int)):Nat->Int:=F.foldl (fun g r=>MB.put g (r.getD 1 0).toNat (r.getD 0 0)) (fun i=>(i:Int))
def kr (F:List (List Int)):Nat->Int:=F.foldl (fun g r=>MB.put g (r.getD 1 0).toNat (r.getD 2 0)) (fun _=>0)
def lh (F:List (List Int)):Nat->Int:=F.foldl (fun g r=>MB.put g (r.getD 1 0).toNat (r.getD 3 0)) (fun _=>0)
def FU (F:List (List Int)):List Int->List Int
 | [a,b,m]=>[gI F a.toNat,gI F b.toNat,m+kr F a.toNat-lh F b.toNat]
 | r=>r
def mQ (n la:Int) (T F:List (List Int)):List (List Int):=(dB n la T F).map (FU F)
theorem Qu {α:Type} {Pr:α->Prop} {f:List Int->α}:∀{F:List (List Int)} {g:Nat->α} {N:Nat},(∀r∈F,Pr (f r))->(∀i,i<N->Pr (g i))->∀i,i<N->Pr (F.foldl (fun g r=>MB.put g (r.getD 1 0).toNat (f r)) g i)
 | [],_,_,_,h,i,hi=>h i hi
 | r::F,g,N,hF,h,i,hi=>by
  rw [wY];refine Qu (fun x hx=>hF x (f_ _ hx)) (fun j hj=>?_) i hi;unfold MB.put;split
  ·exact hF r dN
  ·exact h j hj
theorem UP {N:Nat} {la:Int} {T F:List (List Int)} (h:cO (N:Int) la T F) {i:Nat} (hi:i<N):0<=gI F i/\gI F i<N:=by
 refine Qu (Pr:=fun v:Int=>0<=v/\v<N) (f:=fun r=>r.getD 0 0) (fun r hr=>?_) (fun j hj=>?_) i hi
 ·obtain ⟨a,b,l,m,rfl,h1,h2,_⟩:=h.f r hr;exact ⟨h1,h2⟩
 ·exact ⟨by exact ip (j+0),BO hj⟩
theorem Zh {N:Nat} {la:Int} {T F:List (List Int)} (h:cO (N:Int) la T F):Idx N (mQ (N:Int) la T F):=fun r hr=>by obtain ⟨r0,h0,rfl⟩:=eI.mp hr;obtain ⟨a,b,m,rfl,ha,hb⟩:=h.idx r0 h0;have e1:=UP h ha;have e2:=UP h hb;refine ⟨(gI F a).toNat,(gI F b).toNat,m+kr F a-lh F b,?_,by lia,by lia⟩;show [gI F (a:Int).toNat,gI F (b:Int).toNat,m+kr F (a:Int).toNat-lh F (b:Int).toNat]=_;rw [hX,hX,mi e1.1,mi e2.1]
def Qs (C:Addr):Sp:=fun vs H Q _=>∃(p:Addr) (N:Nat) (la:Int) (T F:List (List Int)),vs=[.ref p]/\jl C H p (N:Int) la T F/\cO (N:Int) la T F/\∀l H',H l=none->a8 H H'->dQ H' l (mQ (N:Int) la T F)->Q (.ref l) H'
def zH6 (N:Nat) (F:List (List Int)) (t:Nat->Int):List V:=(List.range N).map fun (i:Nat)=>if (i:Int)∈nV N F then V.int (t i) else V.aR
def JX (C CN:Addr):Sp:=fun vs H Q E=>∃(p:Addr) (N:Nat) (la:Int) (T F:List (List Int)),vs=[.ref p]/\jl C H p (N:Int) la T F/\cO (N:Int) la T F/\
 (∀k l H',k<N->(aO ((mQ (N:Int) la T F).map c_) (k+1)).q=none->H l=none->a8 H H'->H' l=some (.lst (zH6 N F (aO ((mQ (N:Int) la T F).map c_) (k+1)).t))->Q (.ref l) H')/\
 ((∀k,k<N->(aO ((mQ (N:Int) la T F).map c_) (k+1)).q≠none)->∀x d l ring H',(aO ((mQ (N:Int) la T F).map c_) N).q=some x->Bo (aO ((mQ (N:Int) la T F).map c_) N).p N x ring->H d=none->H l=none->a8 H H'->
   H' d=some (ud d [("ring",.ref l)])->H' l=some (.lst (qe ring))->E (.ref CN) (some d) H')
section
abbrev V3:List Str:=["web","begin","soon","late","one","other","least","most"]
theorem vE:cC V3 ["web"] (aU bx):=de
abbrev Tz:List Str:=["a","b","most","begin","late","soon"]
theorem zIa:jB (aU bx) V3 (nP [(".0",.local),("a",.local),("b",.local),("most",.local),("begin",.free),("late",.free),("soon",.free)]) Tz [none,none,none,some 1,some 3,some 2]:=nS
theorem KY:Tz.Nodup:=by decide+kernel
theorem qU (F:Fn K mg "worst_bounds" bx ["web"] f fd) (range:mg "range"=none) (list:mg "list"=none) (TC:mG K mg C)
 (FB:Fn K mg "told_bounds" bh ["web"] fB qw) (GB:au P w K mg base a7 3 fB qw ["web"] (Fj C))
 (mF:jH K C "falls" fM) (bF:eT K zB ["self"] []) (GF:au P w K mg base a7 1 fM zB ["self"] (zS C fun _ F=>F)):au P w K mg base a7 4 f fd ["web"] (Qs C):=by
 refine F.F.dw vE fun _ A _ s H _ Q E hr h=>?_;obtain ⟨p,N,la,rT,rF,rfl,W0,af,k⟩:=h;have gW:cJ 1 _:=hr.mono (by decide);have n1:=af.n1;have n8:=af.n2;have Iu:=af.fl;refine ⟨_,bo (qH (i:=1) vE.nd rfl (Or.inr rfl) (Ti rfl rfl list rfl range (bR (fq (pv 0) rfl))))
  (bo (qH (i:=2) vE.nd rfl (Or.inr rfl) (cE Bw (l9 (bR aG)) (fq (pv 0) rfl)))
  (bo (qH (i:=3) vE.nd rfl (Or.inr rfl) (cE Bw (l9 (bR aG)) (fq (pv 0) rfl)))
  (bo (iG PassesOwn.never rfl (iH (Ag (pv 0) TC.cl mF GF gW bF .nil gD))
   (uk rfl (eN (bV 4 vE.nd) (eN (bV 5 vE.nd) (eN (bV 6 vE.nd) (eN (bV 7 vE.nd) sU)))))
   (bo (um (pv 4) (uj (pv 1) (pv 5) u7)) (bo (um (pv 6) (uj (pv 2) (pv 5) u7)) (aA (um (pv 7) (uj (pv 3) (pv 5) u7))))))
  (aA (cG (qg rfl (iH (cH GB hr FB (bR (pv 0)))) zIa (fun cl ex s0 H0=>⟨PL (K:=K) (n:=3) rfl rfl (eN (bV 0 KY) (eN (bV 1 KY) (eN (bV 2 KY) sU))),sY,
   eU (iQ (cY (BC (K:=K) rfl) (pv 3) (pv 0)) (cY (BC (K:=K) rfl) (pv 3) (pv 1)) (cE jK (cE jo (pv 2) (cY (BC (K:=K) rfl) (pv 5) (pv 0))) (cY (BC (K:=K) rfl) (pv 4) (pv 1))))⟩))))))),?_⟩
 obtain ⟨dx,ta,fa,hp,_,_⟩:=id W0;refine ⟨_,rfl,p,C,dx,_,_,rfl,hp,TC.cl,TC.nM,qI _ _ _ _,N,rfl,by lia,fun bl Wc=>?_⟩;have s1:=bf (o:=.lst ((List.range N).map fun (i:Nat)=>V.int (i:Int))) Wc;have e1:upd H bl (.lst ((List.range N).map fun (i:Nat)=>V.int (i:Int))) bl=some (.lst (bL N fun i=>(i:Int))):=aq;generalize upd H bl (.lst ((List.range N).map fun (i:Nat)=>V.int (i:Int)))=H1 at*;refine ⟨dU rfl,fun z1 CG=>?_⟩;have A6:=bf (o:=.lst [V.int 0]) CG;refine ⟨_,rfl,p,C,dx,_,_,rfl,(s1.trans A6) _ _ hp,TC.cl,TC.nM,qI _ _ _ _,z1,_,_,rfl,rfl,aq,by exact ip (N+Nat.succ 9223372036854775807),by lia,?_,fun sl CL=>?_⟩
 ·show 1*((N:Int)).toNat<=sizeLine;exact aS (gy (by lia))
 rw [hX,B0];have s2:=(s1.trans A6).trans (bf (o:=.lst (bL N fun _=>0)) CL);have DK:=bf (o:=.lst (bL N fun _=>0)) CL _ _ (A6 _ _ e1);have e2:upd (upd H1 z1 (.lst [V.int 0])) sl (.lst (bL N fun _=>0)) sl=some (.lst (bL N fun _=>0)):=aq;have bs:bl≠sl:=aP (A6 _ _ e1) CL;have My:H sl=none:=(s1.trans A6).free CL;generalize upd (upd H1 z1 (.lst [V.int 0])) sl (.lst (bL N fun _=>0))=H2 at*;refine ⟨dU rfl,fun z2 CF=>?_⟩;have wo:=bf (o:=.lst [V.int 0]) CF;refine ⟨_,rfl,p,C,dx,_,_,rfl,(s2.trans wo) _ _ hp,TC.cl,TC.nM,qI _ _ _ _,z2,_,_,rfl,rfl,aq,by exact ip (N+Nat.succ 9223372036854775807),by lia,?_,fun tl qp=>?_⟩
 ·show 1*((N:Int)).toNat<=sizeLine;exact aS (gy (by lia))
 rw [hX,B0];have s3:=(s2.trans wo).trans (bf (o:=.lst (bL N fun _=>0)) qp);have LB:=bf (o:=.lst (bL N fun _=>0)) qp;have b3:=LB _ _ (wo _ _ DK);have c3:=LB _ _ (wo _ _ e2);have e3:upd (upd H2 z2 (.lst [V.int 0])) tl (.lst (bL N fun _=>0)) tl=some (.lst (bL N fun _=>0)):=aq;have bt:bl≠tl:=aP (wo _ _ DK) qp;have st:sl≠tl:=aP (wo _ _ e2) qp;have kJ:H tl=none:=(s2.trans wo).free qp;generalize upd (upd H2 z2 (.lst [V.int 0])) tl (.lst (bL N fun _=>0))=H3 at*;clear s1 e1 A6 s2 DK e2 wo CG CF CL qp LB;obtain ⟨AX,ta3,fa3,lT,_,_⟩:=id (W0.same s3);refine ⟨_,rfl,p,AX,_,rfl,lT,Ca _ _ _ _ (by decide+kernel) (by decide+kernel) (by decide+kernel) (by decide+kernel),p,_,la,rT,rF,rfl,W0.same s3,fun fl H4 zk s4 R4=>?_⟩;obtain ⟨qs,R4⟩:=R4;refine ⟨fl,rfl,⟨_,a9.of R4.1⟩,km (K:=K) (a:=fl) (xs:=qs.map V.ref) (fun i ae H'=>∃v4 v5 v6 v7,ae=[some (.ref p),some (.ref bl),some (.ref sl),some (.ref tl),v4,v5,v6,v7]/\H' bl=some (.lst (bL N (gI (rF.take i))))/\H' sl=some (.lst (bL N (kr (rF.take i))))/\H' tl=some (.lst (bL N (lh (rF.take i))))/\a8 H H'/\gj H' fl qs rF)
  ⟨none,none,none,none,rfl,s4 _ _ b3,s4 _ _ c3,s4 _ _ e3,s3.trans s4,R4⟩ ?_ ?_ ?_⟩
 ·rintro i ae H5 _ ⟨v4,v5,v6,v7,rfl,_,_,_,_,R5⟩;exact a9.of R5.1
 ·rintro i x ae H5 hx ⟨v4,v5,v6,v7,rfl,f1,f2,f3,s5,R5⟩;obtain ⟨q,r,rfl,_,ay,ie⟩:=R5.get hx;obtain ⟨a',b',le,mo,e4,_,_,h3,h4,_⟩:=af.f r (gK ay);subst e4;obtain ⟨B,rfl⟩:∃B:Nat,b'=B:=⟨b'.toNat,by lia⟩;have hB:B<N:=by lia
  have flb:fl≠bl:=aB (aP b3 zk);have fls:fl≠sl:=aB (aP c3 zk);have zA:fl≠tl:=aB (aP e3 zk);refine ⟨q,_,rfl,dm.of ie,rfl,_,_,rfl,_,_,rfl,_,_,rfl,_,_,rfl,rfl,?_⟩;refine ⟨_,rfl,_,rfl,_,rfl,bl,_,_,_,rfl,rfl,f1,vN hB,?_⟩;rw [Ac];have g2:upd H5 bl (.lst (bL N (MB.put (gI (rF.take i)) B a'))) sl=some (.lst (bL N (kr (rF.take i)))):=by rw [aj (aB bs)];exact f2
  refine ⟨_,rfl,_,rfl,_,rfl,sl,_,_,_,rfl,rfl,g2,vN hB,?_⟩;rw [Ac];have g3:upd (upd H5 bl (.lst (bL N (MB.put (gI (rF.take i)) B a')))) sl (.lst (bL N (MB.put (kr (rF.take i)) B le))) tl=some (.lst (bL N (lh (rF.take i)))):=by rw [aj (aB st),aj (aB bt)];exact f3
  refine ⟨_,rfl,_,rfl,_,rfl,tl,_,_,_,rfl,rfl,g3,vN hB,?_⟩;rw [Ac];have tk:rF.take (i+1)=rF.take i++[[a',(B:Int),le,mo]]:=by rw [lu,ay];rfl
  have u1:gI (rF.take (i+1))=MB.put (gI (rF.take i)) B a':=by unfold gI;rw [tk,w_];rfl
  have u2:kr (rF.take (i+1))=MB.put (kr (rF.take i)) B le:=by unfold kr;rw [tk,w_];rfl
  have u3:lh (rF.take (i+1))=MB.put (lh (rF.take i)) B mo:=by unfold lh;rw [tk,w_];rfl
  rw [u1,u2,u3];have Lw:∀{y:Addr} {xs ys:List V},H5 y=some (.tup xs)->y≠bl/\y≠sl/\y≠tl:=fun {y xs ys} e=>⟨cB e f1 nofun,cB e f2 nofun,cB e f3 nofun⟩;refine ⟨_,_,_,_,rfl,?_,?_,aq,?_,?_,?_⟩
  ·rw [aj bt,aj bs,aq]
  ·rw [aj st,aq]
  ·have NG:H bl=none:=Wc;exact xM (xM (xM s5 NG) My) kJ
  ·rw [aj zA,aj fls,aj flb];exact R5.1
  ·refine iI R5.2 fun y r e=>?_;obtain ⟨y1,y2,y3⟩:=Lw (ys:=[]) e;rw [aj y3,aj y2,aj y1];exact e
 ·rintro ae H5 ⟨v4,v5,v6,v7,rfl,f1,f2,f3,s5,R5⟩;have hle:rF.take (qs.map V.ref).length=rF:=by
   rw [aI,R5.len];exact jN
  rw [hle] at f1 f2 f3;refine ⟨_,rfl,p,_,la,rT,rF,rfl,W0.same s5,af,fun al H6 _ s6 R6=>⟨al,rfl,?_,fun Da di=>?_⟩⟩
  ·obtain ⟨ps,R6⟩:=R6;exact ⟨_,a9.of R6.1⟩
  obtain ⟨WM,R6⟩:=R6;have hlen:(dB (N:Int) la rT rF).length<=100:=by unfold dB;rw [iT,iT,Ap,vU af.oK,vU af.lX];have:=af.tl;lia
  have AI:=af.idx;have Vj:=s5.trans s6;unfold mQ at k;generalize dB (N:Int) la rT rF=rows at*;refine xV (xs:=WM.map V.ref) (fun j ae H'=>∃v0 v1 v2 ps,ae=[v0,v1,v2,some (.ref bl),some (.ref tl),some (.ref sl)]/\gj H' Da ps ((rows.take j).map (FU rF))/\a8 H6 H') ⟨none,none,none,[],rfl,⟨aq,.nil⟩,bf di⟩ ?_ ?_ ?_
  ·rintro j ae H7 _ ⟨v0,v1,v2,ps,rfl,_,s7⟩;exact a9.of (s7 _ _ R6.1)
  ·rintro j x ae H7 hx ⟨v0,v1,v2,ps,rfl,R7,s7⟩;obtain ⟨q,r,rfl,_,ay,ie⟩:=R6.get hx;obtain ⟨a',b',m,e4,rX,dO⟩:=AI r (gK ay);subst e4;have hj:j<rows.length:=(gu.mp ay).1;have Ww:=s7 _ _ (s6 _ _ f1);have f2':=s7 _ _ (s6 _ _ f2);have f3':=s7 _ _ (s6 _ _ f3);refine ⟨q,_,rfl,dm.of (s7 _ _ ie),rfl,_,_,rfl,_,_,rfl,_,_,rfl,rfl,?_⟩;refine ⟨_,rfl,_,rfl,_,_,_,_,rfl,rfl,a9.of Ww,mP rX,_,rfl,_,rfl,_,_,_,_,rfl,rfl,a9.of Ww,mP dO,?_⟩;refine ⟨_,rfl,_,rfl,_,rfl,_,_,_,_,rfl,rfl,a9.of f2',mP rX,_,_,rfl,rfl,_,rfl,_,rfl,_,_,_,_,rfl,rfl,a9.of f3',mP dO,_,_,rfl,rfl,dU rfl,fun tp VJ=>?_⟩;have R8:=R7.same (bf (o:=.tup [.int (gI rF a'),.int (gI rF b'),.int (m+kr rF a'-lh rF b')]) VJ);refine ⟨_,R8.1,?_,_,_,_,ps++[tp],rfl,?_,fun b o e=>?_⟩
   ·rw [aI,R8.len,aI,jX];exact gy (by lia)
   ·have et:(rows.take (j+1)).map (FU rF)=(rows.take j).map (FU rF)++[[gI rF a',gI rF b',m+kr rF a'-lh rF b']]:=by
     rw [lu,ay,fY];rfl
    rw [et];exact R8.push aq
   ·rw [aj (aP e di),aj (aP (s7 _ _ e) VJ)];exact s7 _ _ e
  ·rintro ae H7 ⟨v0,v1,v2,ps,rfl,R7,s7⟩;have hl:rows.take (WM.map V.ref).length=rows:=by
    rw [aI,R6.len];exact jN
   rw [hl] at R7;exact k Da _ (Vj.free di) (Vj.trans s7) ⟨ps,R7⟩
theorem Lg:cC ["web","times","own"] ["web"] (aU eX):=de
theorem zIh:jB (aU eX) ["web","times","own"] (nP [(".0",.local),("moment",.local),("own",.free),("times",.free)]) ["moment","own","times"] [none,some 2,some 1]:=nS
theorem zHt:(["moment","own","times"]:List Str).Nodup:=by decide+kernel
theorem rf (F:Fn K mg "fixed" eX ["web"] f fd) (range:mg "range"=none) (TC:mG K mg C)
 (FE:Fn K mg "earliest_times" aV ["many","bounds"] fE DF) (GE:au P w K mg base (iV P w) 3 fE DF ["many","bounds"] (JW CN))
 (FW:Fn K mg "worst_bounds" bx ["web"] fW wV) (GW:au P w K mg base a7 4 fW wV ["web"] (Qs C))
 (mO:jH K C "own" fO) (bO:eT K O9 ["self"] []) (GO:au P w K mg base a7 1 fO O9 ["self"] (UE C)):au P w K mg base (iV P w) 5 f fd ["web"] (JX C CN):=by
 refine F.F.yH Lg fun _ A _ s H _ Q E hr h=>?_;obtain ⟨p,N,la,rT,rF,rfl,W0,af,kq,ke⟩:=h;have gW:cJ 1 _:=hr.mono (by decide);have CM:cJ 3 _:=hr.mono (by decide);have n1:=af.n1;have n8:=af.n2;refine ⟨_,bo (qH (i:=1) Lg.nd rfl (Or.inr rfl) (B4 GE CM rfl FE.g FE.F.kp FE.b .nil (TZ (E:=E) fun _ _ _ z=>z) (bS (fq (pv 0) rfl) (cH GW hr FW (bR (pv 0))))))
  (bo (qH (i:=2) Lg.nd rfl (Or.inr rfl) (Ag (pv 0) TC.cl mO GO gW bO .nil gD))
  (aA (cG (qg rfl (ux rfl range (bR (fq (pv 0) rfl))) zIh (fun cl ex s0 H0=>⟨bV 0 zHt,sY,QA (B9 (zDu (K:=K) rfl) (pv 0) (pv 1) (by with_unfolding_all rfl)) (cY (BC (K:=K) rfl) (pv 2) (pv 0)) og⟩))))),?_⟩
 obtain ⟨dx,ta,fa,hp,_,_⟩:=id W0;refine ⟨_,rfl,p,C,dx,_,_,rfl,hp,TC.cl,TC.nM,qI _ _ _ _,_,rfl,p,_,la,rT,rF,rfl,W0,af,fun wl H1 _ s1 R1=>?_⟩;refine ⟨N,wl,_,rfl,by lia,xQ n8,R1,Zh af,fun kk tl H2 hk hq _ s2 e2=>?_,fun kM x d l ring H2 hx jT hd hl s2 ed el=>ke kM x d l ring H2 hx jT (s1.free hd) (s1.free hl) (s1.trans s2) ed el⟩;have yw:=s1.trans s2;obtain ⟨OI,ta2,fa2,iR,_,_⟩:=id (W0.same yw);refine ⟨_,rfl,p,OI,_,rfl,iR,Ca _ _ _ _ (by decide+kernel) (by decide+kernel) (by decide+kernel) (by decide+kernel),p,_,la,rT,rF,rfl,W0.same yw,af,fun ol H3 _ s3 e3=>?_⟩;have yu:=yw.trans s3;refine ⟨_,rfl,p,C,dx,_,_,rfl,yu _ _ hp,TC.cl,TC.nM,qI _ _ _ _,(N:Int),rfl,by exact ip (N+Nat.succ 4611686018427387903),by lia,fun Da di=>?_⟩;refine BX (n:=((N:Nat):Int).toNat) (fun j ae H'=>∃v,ae=[v,some (.ref ol),some (.ref tl)]/\H' Da=some (.lst ((List.range j).map fun (i:Nat)=>if (i:Int)∈nV N rF then V.int ((aO ((mQ (N:Int) la rT rF).map c_) (kk+1)).t i) else V.aR))/\a8 H3 H') ⟨none,rfl,aq,bf di⟩ ?_ ?_
 ·rintro j ae H4 hj ⟨v,rfl,e4,s4⟩;rw [hX] at hj;have z0:(0:Int)+(j:Int)=(j:Int):=by lia
  rw [z0];refine ⟨_,rfl,_,rfl,ol,_,rfl,.inl (a9.of (s4 _ _ e3)),rfl,BV,_,rfl,?_⟩;show if ve (V.int (j:Int)) ((nV N rF).map V.int)=true then _ else _;rw [BB];have fin:∀{y:V},y=(if (j:Int)∈nV N rF then V.int ((aO ((mQ (N:Int) la rT rF).map c_) (kk+1)).t j) else V.aR)->∃ys,H4 Da=some (.lst ys)/\ys.length<sizeLine/\∃v,List.set [v,some (V.ref ol),some (V.ref tl)] 0 (some (V.int (j:Int)))=[v,some (V.ref ol),some (V.ref tl)]/\
   upd H4 Da (.lst (ys++[y])) Da=some (.lst ((List.range (j+1)).map fun (i:Nat)=>if (i:Int)∈nV N rF then V.int ((aO ((mQ (N:Int) la rT rF).map c_) (kk+1)).t i) else V.aR))/\a8 H3 (upd H4 Da (.lst (ys++[y]))):=fun {y} e=>by
   refine ⟨_,e4,?_,_,rfl,?_,fun b o q=>?_⟩
   ·rw [aI,tR];exact gy (by lia)
   ·rw [aq,List.range_succ,fY,e];rfl
   ·rw [aj (aP q di)];exact s4 _ _ q
  refine j_ (fun hc=>?_) (fun hc=>?_)
  ·have jE:(j:Int)∈nV N rF:=by simpa using hc
   refine ⟨_,rfl,_,rfl,_,_,_,_,rfl,rfl,a9.of (s4 _ _ (s3 _ _ e2)),mP hj,?_⟩;obtain ⟨ys,g1,g2,w,_,g4,g5⟩:=fin (y:=V.int _) (by rw [if_pos jE]);exact ⟨ys,g1,g2,_,rfl,g4,g5⟩
  ·have jE:¬(j:Int)∈nV N rF:=by simpa using hc
   obtain ⟨ys,g1,g2,w,_,g4,g5⟩:=fin (y:=V.aR) (by rw [if_neg jE]);exact ⟨ys,g1,g2,_,rfl,g4,g5⟩
 ·rintro ae H4 ⟨v,rfl,e4,s4⟩;rw [hX] at e4;exact kq kk Da _ hk hq (yu.free di) (yu.trans s4) e4
end
end Y0
namespace MB
open MA
open Classical in
section
variable {t:Nat->Int}
end
end MB
namespace Y0
open PySem L2
theorem xF {α:Type} {f:List Int->α} {i:Nat} {v:α}:∀{F:List (List Int)} {g:Nat->α},(∀r∈F,(r.getD 1 0).toNat=i->f r=v)->((∃r∈F,(r.getD 1 0).toNat=i)\/g i=v)->F.foldl (fun g r=>MB.put g (r.getD 1 0).toNat (f r)) g i=v
 | [],g,_,h=>by
  rcases h with ⟨r,hr,_⟩ | h
  ·cases hr
  ·exact h
 | x::F,g,hF,h=>by
  rw [wY];refine xF (fun r hr=>hF r (f_ _ hr)) ?_
  by_cases e:(x.getD 1 0).toNat=i
  ·refine .inr ?_;unfold MB.put;rw [if_pos e.symm];exact hF x dN e
  ·rcases h with ⟨r,hr,hi⟩ | h
   ·rcases eh.mp hr with q | q
    ·subst q;exact absurd hi e
    ·exact .inl ⟨r,q,hi⟩
   ·refine .inr ?_;unfold MB.put;rw [if_neg fun z=>e z.symm];exact h
theorem cO.only (h:cO n la T F) (hr:[a,b,l,m]∈F) (ay:r∈F) (e:(r.getD 1 0).toNat=b.toNat):r=[a,b,l,m]:=by
 obtain ⟨i,hi⟩:=pV.mp hr;obtain ⟨j,hj⟩:=pV.mp ay;obtain ⟨a',b',l',m',e',_,_,dO,_⟩:=h.f r ay;obtain ⟨_,_,_,_,e'',_,_,hb,_⟩:=h.f _ hr;cases e'';subst e';have rS:b'=b:=by have e:b'.toNat=b.toNat:=e;lia
 subst rS;have:=h.one i j _ _ hi hj rfl;subst this;rw [hi] at hj;exact (dM hj).symm
theorem cO.cX {n la:Int} {T F:List (List Int)} (h:cO n la T F) {a b l m:Int} (hr:[a,b,l,m]∈F):gI F b.toNat=a/\kr F b.toNat=l/\lh F b.toNat=m:=by
 refine ⟨xF (f:=fun r=>r.getD 0 0) (fun r ay e=>?_) (.inl ⟨_,hr,rfl⟩),xF (f:=fun r=>r.getD 2 0) (fun r ay e=>?_) (.inl ⟨_,hr,rfl⟩),xF (f:=fun r=>r.getD 3 0) (fun r ay e=>?_) (.inl ⟨_,hr,rfl⟩)⟩
 all_goals
  rw [h.only hr ay e];rfl
def yd (F:List (List Int)) (i:Nat):Prop:=∀r∈F,(r.getD 1 0).toNat≠i
theorem yd.is {F:List (List Int)} {i:Nat} (h:yd F i):gI F i=i/\kr F i=0/\lh F i=0:=
 ⟨xF (f:=fun r=>r.getD 0 0) (fun r hr e=>absurd e (h r hr)) (.inr rfl),xF (f:=fun r=>r.getD 2 0) (fun r hr e=>absurd e (h r hr)) (.inr rfl),xF (f:=fun r=>r.getD 3 0) (fun r hr e=>absurd e (h r hr)) (.inr rfl)⟩
theorem yd.or (i:Nat):yd F i\/∃r∈F,(r.getD 1 0).toNat=i:=by
 by_cases h:yd F i
 ·exact .inl h
 ·refine .inr (f9 fun no=>h fun r hr e=>no ⟨r,hr,e⟩)
section
variable {N:Nat}
theorem cO.LK (h:cO (N:Int) la T F):yd F 0:=fun r hr e=>by obtain ⟨a,b,l,m,e',_,_,hb,_⟩:=h.f r hr;subst e';have e:b.toNat=0:=e;lia
end
section
variable {n:Nat}
theorem Z7 (h:cO (n:Int) la T F) (hq:(aO ((mQ (n:Int) la T F).map c_) (k+1)).q=none) (t:Nat):(jn n la T F t).bar=none:=by
 have q:=(MB.quiet hq).2;generalize (aO ((mQ (n:Int) la T F).map c_) (k+1)).t=p at*;have n1:=h.n1;have row:∀{a b v:Int},[a,b,v]∈dB (n:Int) la T F->p (gI F b.toNat).toNat-p (gI F a.toNat).toNat<=v+kr F a.toNat-lh F b.toNat:=fun hm=>q _ (eI.mpr ⟨_,eI.mpr ⟨_,hm,rfl⟩,rfl⟩);have at_:∀o,fV (cP F) o->∀i,∃x,lZ (cP F) (fun j=>p j-p 0) o i=p (gI F i).toNat-p 0+x/\kr F i<=x/\x<=lh F i:=fun o ho i=>by
  rcases yd.or (F:=F) i with ow | ⟨r,hr,e⟩
  ·have hn:cP F i=none:=KR fun r hr z=>by
    obtain ⟨a,b,l,m,rfl,_,_,h3,_⟩:=h.f r hr;have z:some b=some (i:Int):=z;cases z;exact ow _ hr (hX i)
   refine ⟨0,?_,by rw [ow.is.2.1];exact ip (0+0),by rw [ow.is.2.2];exact ip (0+0)⟩;rw [HK.fg hn,ow.is.1,hX];lia
  ·obtain ⟨a,b,l,m,rfl,_,_,x3,_⟩:=h.f r hr;have e:b.toNat=i:=e;subst e;have hb:((b.toNat:Nat):Int)=b:=mi (eR x3);have hf:=h.gZ (e:=b.toNat) (by rw [hb];exact hr);obtain ⟨f1,f2,f3⟩:=h.cX hr;have:=ho _ _ hf;refine ⟨o b.toNat,?_,by rw [f2];exact this.1,by rw [f3];exact this.2⟩;rw [HK.fh hf,f1]
 have b0:gI F 0=0/\kr F 0=0/\lh F 0=0:=h.LK.is;refine Xv h (HK.lY (t:=fun j=>p j-p 0) fun e f hf=>h.m7.own e f hf) (fun o ho=>?_) (fun {a b l m} hm o ho=>?_) t
 ·have z:lZ (cP F) (fun j=>p j-p 0) o 0=0:=by
   obtain ⟨x,e1,e2,e3⟩:=at_ o ho 0;rw [b0.1] at e1;rw [b0.2.1] at e2;rw [b0.2.2] at e3;have e1:lZ (cP F) (fun j=>p j-p 0) o 0=p 0-p 0+x:=e1;lia
  refine ⟨z,fun i hi=>?_⟩
  by_cases c:i=0
  ·rw [c,z];have:=h.l1;lia
  ·obtain ⟨m1,m2⟩:=FJ (la:=la) (i:=i-1) (k:=((n:Int)-1).toNat) (Rg hi c);rw [show ((i-1:Nat):Int)+1=(i:Int) by exact RN c] at m1 m2;have r1:=row (gJ _ (gJ _ m1));have r2:=row (gJ _ (gJ _ m2));obtain ⟨x,e1,e2,e3⟩:=at_ o ho i;rw [hX] at r1 r2;have r1:p (gI F i).toNat-p (gI F 0).toNat<=la+kr F 0-lh F i:=r1;have r2:p (gI F 0).toNat-p (gI F i).toNat<=0+kr F i-lh F 0:=r2;rw [b0.1,b0.2.1] at r1;rw [b0.1,b0.2.2] at r2;have r1:p (gI F i).toNat-p 0<=la+0-lh F i:=r1;have r2:p 0-p (gI F i).toNat<=0+kr F i-0:=r2;rw [e1];lia
 ·obtain ⟨s1,s2⟩:=QN hm;have r1:=row (gJ _ (jW _ s1));have r2:=row (gJ _ (jW _ s2));obtain ⟨x,e1,e2,e3⟩:=at_ o ho a.toNat;obtain ⟨y,g1,g2,g3⟩:=at_ o ho b.toNat;rw [e1,g1];lia
theorem Zu (h1:cO (n:Int) la T F) (h2:cO (n:Int) la T F') (L:EJ la la T T F F') (hE:xj n (cP F) (mv n la T F) Te) (bC:(jn n la T F Te).bar=none):∃k,k<n/\(aO ((dB (n:Int) la T F').map c_) (k+1)).q=none:=by
 have n1:=h1.n1;obtain ⟨tm,S,h0,hT⟩:=Zj h1 h2 L hE bC;have ex:fV (cP F') (fun e=>((cP F' e).map fun f=>f.2.1).getD 0):=fun e f hf=>by dsimp only;rw [hf];exact ⟨jg _,(h2.m7.num e f hf).2.1⟩
 rcases MB.XH (n:=n) (by lia) h2.idx.Ib with h | ⟨_,h⟩
 ·exact h
 ·refine absurd ⟨tm (fun e=>((cP F' e).map fun f=>f.2.1).getD 0),fun x hx=>?_⟩ h;obtain ⟨r,hr,rfl⟩:=eI.mp hx;have:=Qe h2 S h0 (fun hm=>hT hm) hr ex;obtain ⟨a,b,v,rfl,_⟩:=h2.kH r hr;show tm _ b.toNat-tm _ a.toNat<=v;have this:tm _ b.toNat<=tm _ a.toNat+v:=this;lia
end
def Qq (C:Addr):Sp:=fun vs H Q _=>∃(p ba:Addr) (N:Nat) (la:Int) (T F rows:List (List Int)) (pt:Nat->Int),vs=[.ref p,.ref ba]/\jl C H p (N:Int) la T F/\1<=N/\N<=8/\dQ H ba rows/\Idx N rows/\IP N la (rows.map c_) pt/\
 ∀l rs H',H l=none->(∀r∈rs,H r=none)->a8 H H'->ki H' l rs N (Po N la (rows.map c_))->Q (.ref l) H'
section
abbrev V4:List Str:=["web","bounds","moments","table","moment","a","b","most","via"]
theorem sI:cC V4 ["web","bounds"] (aU bM):=de
theorem zIc:jB (aU bM) V4 (nP [(".0",.local),("moment",.local),("web",.free)]) ["moment","web"] [none,some 0]:=nS
theorem zHo:(["moment","web"]:List Str).Nodup:=by decide+kernel
theorem qY (F:Fn K mg "tight_table" bM ["web","bounds"] f fd) (T:zIn mg) (TC:mG K mg C):au P w K mg base a7 1 f fd ["web","bounds"] (Qq C):=by
 refine F.F.dw sI fun _ A _ s H _ Q E hr h=>?_;obtain ⟨p,ba,N,la,rT,rF,rows,pt,rfl,W0,N1,N8,⟨bs,R⟩,AI,pot,k⟩:=h;refine ⟨_,bo (cF 2 sI.nd (Ti rfl rfl T.list rfl T.range (bR (fq (pv 0) rfl))))
  (bo (JU (i:=3) sI.nd rfl rfl rfl (iH (pv 2)) zIc (fun cl ex s0 H0=>⟨bV 0 zHo,sY,cE Bw (l9 (bR (sT (K:=K) rfl (pv 1) rfl))) (sT (K:=K) rfl (pv 1) rfl)⟩))
  (bo (iG PassesOwn.never rfl (iH (pv 2)) (bV 4 sI.nd) (aA (um aG (uj (cY dC (pv 3) (pv 4)) (pv 4) u7))))
  (bo (iG PassesOwn.never rfl (iH (pv 1)) (uk rfl (eN (bV 5 sI.nd) (eN (bV 6 sI.nd) (eN (bV 7 sI.nd) sU))))
   (aA (um (lB (xU rfl) (by rfl) T.min (by decide+kernel) (bS (cY dC (cY dC (pv 3) (pv 5)) (pv 6)) (pv 7))) (uj (cY dC (pv 3) (pv 5)) (pv 6) u7))))
  (bo (iG PassesOwn.never rfl (iH (pv 2)) (bV 8 sI.nd)
   (aA (iG PassesOwn.never rfl (iH (pv 2)) (bV 5 sI.nd)
    (aA (iG PassesOwn.never rfl (iH (pv 2)) (bV 6 sI.nd)
     (aA (um (lB (xU rfl) (by rfl) T.min (by decide+kernel) (vP (cY dC (cY dC (pv 3) (pv 5)) (pv 6))
      (bR (cE jo (cY dC (cY dC (pv 3) (pv 5)) (pv 8)) (cY dC (cY dC (pv 3) (pv 8)) (pv 6))))))
      (uj (cY dC (pv 3) (pv 5)) (pv 6) u7))))))))
  (aA (cG (pv 3))))))),?_⟩
 obtain ⟨dx,ta,fa,hp,_,_⟩:=id W0;refine ⟨_,rfl,p,C,dx,_,_,rfl,hp,TC.cl,TC.nM,qI _ _ _ _,N,rfl,by lia,fun mo hmo=>?_⟩;have s1:=bf (o:=.lst ((List.range N).map fun (i:Nat)=>V.int (i:Int))) hmo;have e1:upd H mo (.lst ((List.range N).map fun (i:Nat)=>V.int (i:Int))) mo=some (.lst (bL N fun i=>(i:Int))):=aq;generalize upd H mo (.lst ((List.range N).map fun (i:Nat)=>V.int (i:Int)))=H1 at*;have DU:∀{i:Nat} {x:V},(bL N fun i=>(i:Int))[i]?=some x->i<N/\x=.int (i:Int):=fun {i x} e=>by
  have hi:i<N:=by
   have:=(gu.mp e).1
   rwa [sS] at this
  rw [Fm hi] at e;exact ⟨hi,(dM e).symm⟩
 refine ⟨_,rfl,mo,rfl,⟨_,a9.of e1⟩,fun l hl=>?_⟩;have Df:H l=none:=s1.free hl;refine xV (xs:=bL N fun i=>(i:Int)) (fun j ae H'=>∃v,∃rs:List Addr,ae=[v,some (.ref p)]/\H' l=some (.lst (rs.map V.ref))/\rs.length=j/\(∀(i:Nat) r,rs[i]?=some r->H' r=some (.lst (bL N fun _=>la)))/\
  (∀(i j:Nat) r,rs[i]?=some r->rs[j]?=some r->i=j)/\(∀(i:Nat) r,rs[i]?=some r->r≠l)/\(∀(i:Nat) r,rs[i]?=some r->H1 r=none)/\a8 H1 H') ?_ ?_ ?_ ?_
 ·exact ⟨none,[],rfl,aq,rfl,(fun i r e=>by simp at e),(fun i j r e=>by simp at e),(fun i r e=>by simp at e),(fun i r e=>by simp at e),bf hl⟩
 ·rintro j ae H2 _ ⟨v,rs,rfl,_,_,_,_,_,_,s2⟩;exact a9.of (s2 _ _ e1)
 ·rintro j x ae H2 hx ⟨v,rs,rfl,el,hlen,lR,vo,cK,pH,s2⟩;obtain ⟨hj,rfl⟩:=DU hx;have iR:=s2 _ _ (s1 _ _ hp);refine ⟨_,rfl,p,C,dx,_,_,rfl,iR,TC.cl,TC.nL,Pp _ _ _ _,dU rfl,fun q hq=>?_⟩;have s3:=bf (o:=.lst [V.int la]) hq;refine ⟨_,rfl,p,C,dx,_,_,rfl,s3 _ _ iR,TC.cl,TC.nM,qI _ _ _ _,q,_,_,rfl,rfl,aq,by exact ip (N+Nat.succ 9223372036854775807),by lia,?_,fun r ay=>?_⟩
  ·show 1*((N:Int)).toNat<=sizeLine;exact aS (gy (by lia))
  rw [hX,B0];have s4:=s3.trans (bf (o:=.lst (bL N fun _=>la)) ay);have er:upd (upd H2 q (.lst [V.int la])) r (.lst (bL N fun _=>la)) r=some (.lst (bL N fun _=>la)):=aq;have iK:H2 r=none:=s3.free ay;generalize upd (upd H2 q (.lst [V.int la])) r (.lst (bL N fun _=>la))=H4 at*;have II:=s4 _ _ el;have rl:r≠l:=aB (aP el iK);refine ⟨_,II,?_,_,rs++[r],rfl,by rw [aq,fY];rfl,by rw [iT,hlen];rfl,?_,?_,?_,?_,?_⟩
  ·rw [aI,hlen];exact gy (by lia)
  ·intro i r' e
   by_cases hi:i<rs.length
   ·rw [me hi] at e;rw [aj (cK i r' e)];exact s4 _ _ (lR i r' e)
   ·rw [mC (lA hi)] at e;have e':r=r':=by
     cases q:i-rs.length with
     | zero=>rw [q] at e;exact dM e
     | succ z=>rw [q] at e;cases e
    rw [<-e',aj rl];exact er
  ·have out:∀i,rs[i]?=some r->False:=fun i e=>by
    rw [lR i r e] at iK;cases iK
   have last:∀i r',rs.length<=i->(rs++[r])[i]?=some r'->i=rs.length/\r'=r:=fun i r' hi e=>by
    rw [mC hi] at e
    cases q:i-rs.length with
    | zero=>rw [q] at e;exact ⟨by lia,(dM e).symm⟩
    | succ z=>rw [q] at e;cases e
   intro i i' r' e e'
   by_cases hi:i<rs.length
   ·rw [me hi] at e
    by_cases iS:i'<rs.length
    ·rw [me iS] at e';exact vo i i' r' e e'
    ·obtain ⟨_,rfl⟩:=last i' r' (lA iS) e';exact (out i e).elim
   ·obtain ⟨h1,rfl⟩:=last i r' (lA hi) e
    by_cases iS:i'<rs.length
    ·rw [me iS] at e';exact (out i' e').elim
    ·obtain ⟨h2,_⟩:=last i' r' (lA iS) e';lia
  ·intro i r' e
   by_cases hi:i<rs.length
   ·rw [me hi] at e;exact cK i r' e
   ·rw [mC (lA hi)] at e
    cases q:i-rs.length with
    | zero=>rw [q] at e;rw [<-dM e];exact rl
    | succ z=>rw [q] at e;cases e
  ·intro i r' e
   by_cases hi:i<rs.length
   ·rw [me hi] at e;exact pH i r' e
   ·rw [mC (lA hi)] at e
    cases q:i-rs.length with
    | zero=>rw [q] at e;rw [<-dM e];exact s2.free iK
    | succ z=>rw [q] at e;cases e
  ·intro b o e;rw [aj (aP e hl)];exact s4 _ _ (s2 _ _ e)
 ·rintro ae H2 ⟨v,rs,rfl,el,hlen,lR,vo,cK,pH,s2⟩;rw [sS] at hlen;have TA:ki H2 l rs N (fun _ _=>la):=⟨el,hlen,lR,vo,cK⟩;have sH:a8 H H2:=s1.trans s2;have em:=s2 _ _ e1;have Cq:∀{i:Nat} {r:Addr},rs[i]?=some r->H r=none:=fun {i r} e=>s1.free (pH i r e);have rmo:∀{i:Nat} {r:Addr},rs[i]?=some r->mo≠r:=fun {i r} e=>aP e1 (pH i r e);have keepR:∀{H':Hp} {i:Nat} {r:Addr} {o:HO},rs[i]?=some r->a8 H H'->H' mo=some (.lst (bL N fun i=>(i:Int)))->a8 H (upd H' r o)/\upd H' r o mo=some (.lst (bL N fun i=>(i:Int))):=fun {H' i r o} e s' em'=>
   ⟨xM s' (Cq e),by rw [aj (rmo e)];exact em'⟩
  refine ⟨_,rfl,mo,rfl,⟨_,a9.of em⟩,km (K:=K) (a:=mo) (xs:=bL N fun i=>(i:Int)) (fun i ae H'=>∃v,ae=[some (.ref p),some (.ref ba),some (.ref mo),some (.ref l),v,none,none,none,none]/\ki H' l rs N (fun x y=>if x=y/\x<i then 0 else la)/\a8 H H'/\H' mo=some (.lst (bL N fun i=>(i:Int))))
   ⟨none,rfl,TA.congr (fun i j _ _=>by rw [if_neg (by lia)]),sH,em⟩ ?_ ?_ ?_⟩
  ·rintro i ae H3 _ ⟨v,rfl,_,_,DJ⟩;exact a9.of DJ
  ·rintro i x ae H3 hx ⟨v,rfl,G3,s3,DJ⟩;obtain ⟨hi,rfl⟩:=DU hx;obtain ⟨r,ay⟩:=G3.has hi;refine ⟨_,rfl,jJ rfl G3.top (G3.at_ ay) ⟨_,rfl,r,_,_,_,rfl,rfl,G3.row i r ay,vN hi,?_⟩⟩;obtain ⟨s4,AW⟩:=keepR (o:=.lst ((bL N fun y=>if i=y/\i<i then (0:Int) else la).set i (.int 0))) ay s3 DJ;refine ⟨_,rfl,(G3.set ay).congr (fun x y _ _=>?_),s4,AW⟩
   by_cases h1:x=i/\y=i
   ·rw [if_pos h1,if_pos (by lia)]
   ·rw [if_neg h1]
    by_cases h2:x=y/\x<i
    ·rw [if_pos h2,if_pos (by lia)]
    ·rw [if_neg h2,if_neg (by lia)]
  ·rintro ae H3 ⟨v,rfl,G3,s3,DJ⟩;rw [sS] at G3;have G3:ki H3 l rs N (MB.T0 la):=G3.congr fun x y hx _=>by
    unfold MB.T0
    by_cases e:x=y
    ·rw [if_pos ⟨e,hx⟩,if_pos e]
    ·rw [if_neg fun z=>e z.1,if_neg e]
   have R3:=R.same s3;refine ⟨_,rfl,ba,rfl,⟨_,a9.of R3.1⟩,km (K:=K) (a:=ba) (xs:=bs.map V.ref) (fun i ae H'=>∃v5 v6 v7,ae=[some (.ref p),some (.ref ba),some (.ref mo),some (.ref l),v,v5,v6,v7,none]/\ki H' l rs N (oV ((rows.map c_).take i) (MB.T0 la))/\a8 H H'/\H' mo=some (.lst (bL N fun i=>(i:Int))))
    ⟨none,none,none,rfl,G3,s3,DJ⟩ ?_ ?_ ?_⟩
   ·rintro i ae H4 _ ⟨v5,v6,v7,rfl,_,s4,_⟩;exact a9.of (s4 _ _ R.1)
   ·rintro i x ae H4 hx ⟨v5,v6,v7,rfl,G4,s4,AW⟩;obtain ⟨q,r0,rfl,_,Ih,ie⟩:=R.get hx;obtain ⟨a',b',m,e4,rX,dO⟩:=AI r0 (gK Ih);subst e4;have NZ:(rows.map c_)[i]?=some (a',b',m):=by
     rw [fG,Ih];show some ((a':Int).toNat,(b':Int).toNat,m)=_;rw [hX,hX]
    have est:oV ((rows.map c_).take (i+1)) (MB.T0 la)=MB.Bm (oV ((rows.map c_).take i) (MB.T0 la)) (a',b',m):=by unfold oV;rw [lu,NZ,w_];rfl
    rw [est];generalize oV ((rows.map c_).take i) (MB.T0 la)=TT at*;obtain ⟨r,ay⟩:=G4.has rX;refine ⟨q,_,rfl,dm.of (s4 _ _ ie),rfl,_,_,rfl,_,_,rfl,_,_,rfl,rfl,?_⟩;refine ⟨_,rfl,jJ rfl G4.top (G4.at_ ay) (jJ rfl (G4.row _ _ ay) (mP dO) ⟨_,rfl,_,_,rfl,?_⟩)⟩;refine ⟨_,rfl,jJ rfl G4.top (G4.at_ ay) ⟨_,rfl,r,_,_,_,rfl,rfl,G4.row _ _ ay,vN dO,?_⟩⟩;obtain ⟨s5,zD⟩:=keepR (o:=.lst ((bL N (TT a')).set b' (.int (if m<TT a' b' then m else TT a' b')))) ay s4 AW;refine ⟨_,_,_,rfl,(G4.set ay).congr (fun x y _ _=>?_),s5,zD⟩;rw [Bu];rfl
   ·rintro ae H4 ⟨v5,v6,v7,rfl,G4,s4,AW⟩;have NY:(rows.map c_).take (bs.map V.ref).length=rows.map c_:=by
     rw [aI,R.len,<-aI (f:=c_)];exact jN
    rw [NY] at G4;refine ⟨_,rfl,mo,rfl,⟨_,a9.of AW⟩,km (K:=K) (a:=mo) (xs:=bL N fun i=>(i:Int)) (fun i ae H'=>∃u5 u6 u8,ae=[some (.ref p),some (.ref ba),some (.ref mo),some (.ref l),v,u5,u6,v7,u8]/\ki H' l rs N (xk (oV (rows.map c_) (MB.T0 la)) i)/\a8 H H'/\H' mo=some (.lst (bL N fun i=>(i:Int))))
     ⟨v5,v6,none,rfl,G4,s4,AW⟩ ?_ ?_ ?_⟩
    ·rintro i ae H5 _ ⟨u5,u6,u8,rfl,_,_,zD⟩;exact a9.of zD
    ·rintro kk x ae H5 hx ⟨u5,u6,u8,rfl,G5,s5,zD⟩;obtain ⟨m6,rfl⟩:=DU hx;have tab:=MB.QP pot kk (by exact aS m6);have dk:=tab.DL kk m6;show ∃a,_;have enx:xk (oV (rows.map c_) (MB.T0 la)) (kk+1)=MA.pass kk (xk (oV (rows.map c_) (MB.T0 la)) kk):=rfl;rw [enx];generalize xk (oV (rows.map c_) (MB.T0 la)) kk=TT at*;refine ⟨_,rfl,mo,rfl,⟨_,a9.of zD⟩,km (K:=K) (a:=mo) (xs:=bL N fun i=>(i:Int)) (fun i ae H'=>∃u5 u6,ae=[some (.ref p),some (.ref ba),some (.ref mo),some (.ref l),v,u5,u6,v7,some (.int (kk:Int))]/\ki H' l rs N (MA.mix kk i 0 TT)/\a8 H H'/\H' mo=some (.lst (bL N fun i=>(i:Int))))
      ⟨u5,u6,rfl,G5.congr (fun x y _ _=>by rw [MA.Xt]),s5,zD⟩ ?_ ?_ ?_⟩
     ·rintro i ae H6 _ ⟨u5,u6,rfl,_,_,AV⟩;exact a9.of AV
     ·rintro aa x ae H6 hx ⟨u5,u6,rfl,G6,s6,AV⟩;obtain ⟨haa,rfl⟩:=DU hx;refine ⟨_,rfl,mo,rfl,⟨_,a9.of AV⟩,km (K:=K) (a:=mo) (xs:=bL N fun i=>(i:Int)) (fun i ae H'=>∃u6,ae=[some (.ref p),some (.ref ba),some (.ref mo),some (.ref l),v,some (.int (aa:Int)),u6,v7,some (.int (kk:Int))]/\ki H' l rs N (MA.mix kk aa i TT)/\a8 H H'/\H' mo=some (.lst (bL N fun i=>(i:Int))))
       ⟨u6,rfl,G6,s6,AV⟩ ?_ ?_ ?_⟩
      ·rintro i ae H7 _ ⟨u6,rfl,_,_,DI⟩;exact a9.of DI
      ·rintro bb x ae H7 hx ⟨u6,rfl,G7,s7,DI⟩;obtain ⟨rS,rfl⟩:=DU hx;obtain ⟨r,ay⟩:=G7.has haa;obtain ⟨r2,iK⟩:=G7.has m6;refine ⟨_,rfl,jJ rfl G7.top (G7.at_ ay) (jJ rfl (G7.row _ _ ay) (mP rS) ?_)⟩;refine ⟨_,rfl,jJ rfl G7.top (G7.at_ ay) (jJ rfl (G7.row _ _ ay) (mP m6) ?_)⟩;refine ⟨_,rfl,jJ rfl G7.top (G7.at_ iK) (jJ rfl (G7.row _ _ iK) (mP rS) ⟨_,_,rfl,rfl,_,_,rfl,?_⟩)⟩;refine ⟨_,rfl,jJ rfl G7.top (G7.at_ ay) ⟨_,rfl,r,_,_,_,rfl,rfl,G7.row _ _ ay,vN rS,?_⟩⟩;rw [Bu,MA.Xq,MA.zBr dk,MA.zBs dk];obtain ⟨s8,em8⟩:=keepR (o:=.lst ((bL N (MA.mix kk aa bb TT aa)).set bb (.int (min (TT aa bb) (TT aa kk+TT kk bb))))) ay s7 DI;exact ⟨_,rfl,(G7.set ay).congr (fun x y _ _=>MA.Xs x y),s8,em8⟩
      ·rintro ae H7 ⟨u6,rfl,G7,s7,DI⟩;rw [sS] at G7;exact ⟨_,_,rfl,G7.congr (fun x y _ hy=>MA.Xr hy),s7,DI⟩
     ·rintro ae H6 ⟨u5,u6,rfl,G6,s6,AV⟩;rw [sS] at G6;exact ⟨_,_,_,rfl,G6.congr (fun x y hx _=>MA.zBt hx),s6,AV⟩
    ·rintro ae H5 ⟨u5,u6,u8,rfl,G5,s5,zD⟩;rw [sS] at G5;exact ⟨_,rfl,k l rs H5 Df (fun r hr=>by obtain ⟨i,e⟩:=pV.mp hr;exact Cq e) s5 G5⟩
end
def JY (C CN:Addr):Sp:=fun vs H Q E=>∃(p:Addr) (N:Nat) (la:Int) (T F:List (List Int)),vs=[.ref p]/\jl C H p (N:Int) la T F/\cO (N:Int) la T F/\
 (∀k l rs H',k<N->(aO ((dB (N:Int) la T F).map c_) (k+1)).q=none->H l=none->(∀r∈rs,H r=none)->a8 H H'->ki H' l rs N (Po N la ((dB (N:Int) la T F).map c_))->Q (.ref l) H')/\
 ((∀k,k<N->(aO ((dB (N:Int) la T F).map c_) (k+1)).q≠none)->∀x d l ring H',(aO ((dB (N:Int) la T F).map c_) N).q=some x->Bo (aO ((dB (N:Int) la T F).map c_) N).p N x ring->H d=none->H l=none->a8 H H'->
   H' d=some (ud d [("ring",.ref l)])->H' l=some (.lst (qe ring))->E (.ref CN) (some d) H')
section
theorem TM:cC ["web","bounds"] ["web"] (aU gQ):=de
theorem qW (F:Fn K mg "tight" gQ ["web"] f fd) (TC:mG K mg C)
 (FB:Fn K mg "told_bounds" bh ["web"] fB qw) (GB:au P w K mg base a7 3 fB qw ["web"] (Fj C))
 (FE:Fn K mg "earliest_times" aV ["many","bounds"] fE DF) (GE:au P w K mg base (iV P w) 3 fE DF ["many","bounds"] (JW CN))
 (FT:Fn K mg "tight_table" bM ["web","bounds"] fT m8) (GT:au P w K mg base a7 1 fT m8 ["web","bounds"] (Qq C)):
 au P w K mg base (iV P w) 4 f fd ["web"] (JY C CN):=by
 refine F.F.yH TM fun _ A _ s H _ Q E hr h=>?_;obtain ⟨p,N,la,rT,rF,rfl,W0,af,kq,ke⟩:=h;have gW:cJ 1 _:=hr.mono (by decide);have n1:=af.n1;have n2:=af.n2;refine ⟨_,bo (cF 1 TM.nd (cH GB hr FB (bR (pv 0))))
  (bo (gE (B4 GE hr rfl FE.g FE.F.kp FE.b .nil (TZ (E:=E) fun _ _ _ z=>z) (bS (fq (pv 0) rfl) (pv 1))))
  (aA (cG (cH GT gW FT (bS (pv 0) (pv 1)))))),?_⟩
 refine ⟨_,rfl,p,_,la,rT,rF,rfl,W0,af,fun bl H1 _ s1 R1=>?_⟩;obtain ⟨dx,ta,fa,hp,_,_⟩:=id (W0.same s1);refine ⟨_,rfl,p,C,dx,_,_,rfl,hp,TC.cl,TC.nM,qI _ _ _ _,_,rfl,N,bl,_,rfl,by lia,xQ n2,R1,af.idx,fun k tl H2 hk hq _ s2 _=>?_,fun kM x d l ring H2 hx jT hd hl s2 ed el=>?_⟩
 ·refine ⟨_,rfl,_,rfl,p,bl,N,la,rT,rF,_,_,rfl,(W0.same s1).same s2,by lia,xQ n2,R1.same s2,af.idx,zDo af.l1 hq,fun l rs H3 hl hrs s3 G=>?_⟩;exact kq k l rs H3 hk hq (s1.free (s2.free hl)) (fun r hr=>s1.free (s2.free (hrs r hr))) ((s1.trans s2).trans s3) G
 ·exact ke kM x d l ring H2 hx jT (s1.free hd) (s1.free hl) (s1.trans s2) ed el
end
end Y0
namespace L2
open PySem PySem.Spec PyProof.Rows
def Aw (mg:Str->Option Value) (base:Heap):Prop:=∃bm o,mg "__builtins__"=some (.ref bm)/\bm≠builtinsNs/\base.get? bm=some o/\o.cls=.type "module"/\o.dict=some builtinsNs/\o.data=.plain
section
theorem Inv.yo {P:Addr} (I:Inv X pins σ H s) (hP:H P=some (.i7 ps)) (hx:∀b o,b≠P->s.heap.get? b=some o->h'.get? b=some o) (Dz:h'.get? P=some (PySem.W.tabObj (ps++more))):
 Inv X pins σ (upd H P (.i7 (ps++more))) { s with heap:=h',toks:=t' }:=by
 have ne:∀b,H b=none->b≠P:=fun b e z=>by rw [z,hP] at e;cases e
 refine I.un (t':=t') ⟨fun b o e n _ _=>hx b o (ne b n) e,fun b o e n _ _=>⟨o.slots,hx b o (ne b n) e⟩,fun b o _ n _=>by rw [aj (ne b n)];exact n,fun b o e _=>?_,fun b xs e=>?_,fun b o u e=>?_,fun b qs e=>?_⟩ fun b u e=>?_
 ·by_cases hb:b=P
  ·exact ⟨_,hb▸Dz⟩
  ·exact ⟨o,hx b o hb e⟩
 ·rw [aj (cB e hP nofun)];exact e
 ·rw [aj (cB e hP nofun)];exact e
 ·by_cases hb:b=P
  ·subst hb;rw [hP] at e;cases e;exact ⟨more,aq⟩
  ·exact ⟨#[],by rw [aj hb,e];simp⟩
 ·by_cases hb:b=P
  ·subst hb;rw [aq] at e;cases e;exact Dz
  ·rw [aj hb] at e;refine (I.af b u e).eW (fun c v hc q=>hx c v ?_ q) (fun c q=>by rw [aj (cB q hP nofun)];exact q) fun c xs q=>by rw [aj (cB q hP nofun)];exact q
   rcases hc with rfl | hc
   ·exact hb
   ·exact cB hc hP nofun
end
def uy (h base:Heap) (l:List Addr):Heap:=PySem.W.hideAll h ((List.range h.objs.size).filter fun a=>(base.get? a).isNone && !l.contains a)
theorem ZW {h base:Heap}:(uy h base l).objs.size=h.objs.size:=PySem.W.hideAll_size _ _
theorem KP {h base:Heap} (e:h.get? b=some o) (k:(∃o',base.get? b=some o')\/b∈l):(uy h base l).get? b=some o:=by
 refine PySem.W.hideAll_get _ e fun z=>?_;have z:=(List.mem_filter.mp z).2;simp only [sj] at z;rcases k with ⟨o',q⟩ | q
 ·rw [q] at z;exact absurd z.1 (by simp)
 ·have:=z.2;rw [List.contains_iff_mem.mpr q] at this;cases this
theorem Td {h base:Heap} (e:(uy h base l).get? b=some o):h.get? b=some o/\((∃o',base.get? b=some o')\/b∈l):=by
 have e1:=PySem.W.of_hideAll _ e;refine ⟨e1,?_⟩
 cases q:base.get? b with
 | some o'=>exact .inl ⟨o',rfl⟩
 | none=>
  refine .inr ?_
  cases hc:l.contains b with
  | true=>exact List.contains_iff_mem.mp hc
  | false=>
   have:(uy h base l).get? b=none:=PySem.W.hideAll_none _ (List.mem_filter.mpr ⟨m9.mpr (dr e1),by rw [q,hc];rfl⟩);rw [this] at e;cases e
theorem Mod.keeps {base gr:Heap} (m:Mod K mg base) (k:∀b o,base.get? b=some o->gr.get? b=some o):Mod K mg gr:=
 ⟨m.wG.keeps k,m.glob.keeps k,let ⟨mb,h1,h2⟩:=m.blt;⟨mb,h1.keeps k,h2⟩,m.nolimit.keeps k⟩
theorem S_ {h base:Heap} {l:List Addr}:∀{es:List Env},h.FunFrames base es->(∀a∈l,a∉je es)->h.FunFrames (uy h base l) es
 | [],_,_=>trivial
 | env::r,hl,n=>by
  obtain ⟨hk,⟨L,o,hf,hn,ho,hd⟩,hr⟩:=hl;refine ⟨hk,⟨L,o,hf,?_,ho,hd⟩,S_ hr fun a ha z=>n a ha ?_⟩
  ·cases q:(uy h base l).get? L with
   | none=>rfl
   | some o'=>
    rcases (Td q).2 with ⟨o2,z⟩ | z
    ·rw [hn] at z;cases z
    ·exact absurd (show L∈je (env::r) by unfold je;rw [tS,hf];exact dN) (n L z)
  ·unfold je;rw [tS,hf];exact f_ _ z
def EM (CX:pX) (P:Program) (w:World) (K:bE) (mg:Str->Option Value) (base:Heap) (N:List Str) (qual:Str) (scope:Scope) (f:Addr) (cd:Value) (dA:List (Str×Addr)) (A:Around) (outer:List Env) (s:Shared) (H:Hp) (E:XK):Cx where
 prog:=P
 w:=w
 K:=K
 mg:=mg
 base:=base
 A:=A.deeper (PySem.W.envX qual scope s.heap.objs.size f cd dA)
 N:=N
 bX:=s
 gb:=H
 env:=PySem.W.envX qual scope s.heap.objs.size f cd dA
 outer:=outer
 stack:=PySem.W.envX qual scope s.heap.objs.size f cd dA::outer
 ex:=[]
 calm:=true
 fn:=fun _=>false
 pn:=[]
 xe:=fun e s'=>wpAny (model P w) (A.deeper (PySem.W.envX qual scope s.heap.objs.size f cd dA)) (leaving (PySem.W.envX qual scope s.heap.objs.size f cd dA) e) (fun _ qS=>CX outer H s E e qS) (fun e' qS=>CX outer H s E e' qS) s'
section
variable {K:bE}
theorem T_ (h:∀C dx H',E C dx H'->EX C dx H'):qF (iV P w) (EM (iV P w) P w K mg base N qual scope f cd dA A outer s H EX) E:=by
 intro pins σ H1 s1 e s' I hx;obtain ⟨a,C,dx,H',rfl,os,bare,un,af,fl,hE⟩:=hx;have I':=I.oP (s':=s') (ch:=[]) os un af bare (fun b z=>absurd z (by simp));have fl':=fl.back fun b o e=>I.base.there b o e (by intro z;exact absurd (show b∈([]:List Addr) from z) (by simp));show wpAny (model P w) (A.deeper (PySem.W.envX qual scope s.heap.objs.size f cd dA)) (leaving (PySem.W.envX qual scope s.heap.objs.size f cd dA) (.ref a)) (fun _ qS=>iV P w outer H s EX (.ref a) qS) _ s';refine RD (L:=s.heap.objs.size) I'.ok.frames I'.stack rfl fl' (fun b o e=>I'.base.there b o e (by intro z;exact absurd (show b∈([]:List Addr) from z) (by simp))) (fun b hb=>I'.af.fresh hb) fun h' f' k=>?_;refine ⟨a,C,dx,H',rfl,I'.os,I'.bare,I'.base.fz k fun b o e hb=>?_,I'.af.fz k I'.gP,f',h _ _ _ hE⟩;unfold je at hb;rw [tS] at hb;rcases eh.mp hb with z | z
 ·exact absurd (dr e) (by rw [z];exact j8 _)
 ·exact z
end
section
variable {i:Nat}
end
section
variable {fN P c:Addr}
end
structure Ll (scope:Scope) (y:Str):Prop where
 kind:scope.kind=.function
 co:scope.isCoroutine=false
 gen:scope.isGenerator=false
 rp:∀x∈scope.names,x.2≠.cell
 jw:∀x∈scope.names,x.2≠.free
 loc:scope.names.lookup y=some .local
section
variable {K:bE}
theorem Xj (S:Ll scope y) (j5:∀x c,dA.lookup x≠some c) (hd:A.handled=none) (e0:t_ P w K mg base A outer s H) (r:bU wv u)
 (hn:h1.Ns s.heap.objs.size m) (hm:m y=some u) (hk:∀b o,s.heap.get? b=some o->h1.get? b=some o):Inv (EM CX P w K mg base [y] qual scope f cd dA A outer s H E) [] [some wv] H { s with heap:=h1,toks:=tk }:=by
 have yJ:∀b:Addr,b∉(EM CX P w K mg base [y] qual scope f cd dA A outer s H E).ex:=fun b z=>absurd (show b∈([]:List Addr) from z) (by simp);refine ⟨⟨e0.mod,S.kind,rfl,rfl,av _,fun x z c h1 _=>?_,fun x hx=>?_,fun x c hf _=>absurd (show false=true from hf) fC,fun _=>hd,Around.frames_deeper e0.frames,.inr ⟨rfl,rfl⟩,fun b z=>absurd z (yJ b),e0.bs,e0.oQ,fun b _ _=>yJ b,fun b z=>absurd z (yJ b),e0.eG,e0.pM⟩,
  rfl,e0.bare,Un.kept hk,⟨m,hn,fun i x v h1 h2 h3=>?_⟩,fun x c h=>?_,e0.af.fresh (av _),fun x c h=>?_,fun p hp=>absurd (show p∈([]:List (Addr×Obj)) from hp) (by simp),e0.af.kept hk,rfl⟩
 ·exact absurd h1 (j5 x c)
 ·have hx:scope.names.lookup x=some .cell\/scope.names.lookup x=some .free:=hx;rcases hx with hx | hx
  ·exact absurd rfl (S.rp _ (xc hx))
  ·exact absurd rfl (S.jw _ (xc hx))
 ·cases i with
  | zero=>
   cases h1;cases h2;exact ⟨u,r,.inl ⟨S.loc,hm⟩⟩
  | succ i=>cases h1
 ·exact absurd h (j5 x c)
 ·exact absurd h (j5 x c)
end
structure Bn (params:Arguments) (body:Expr) (scope:Scope) (y:Str) (base:Heap) (f:Addr) (fd:FuncData):Prop where
 at_:∃(qual:Str) (dA:List (Str×Addr)) (pm:Value) (c':Addr) (wX:Value),fd=PySem.W.kla_fn "<lambda>" qual params body scope dA pm (.ref c') wX/\base.get? f=some { cls:=.type "function",data:=.func fd }/\
  base.CodeRec (.ref c') qual/\∀x c,dA.lookup x≠some c
theorem Bn.fnAt (l:Bn params body scope y base f fd):PySem.W.FnAt f base:=by obtain ⟨_,_,_,_,_,_,e,_⟩:=l.at_;exact ⟨_,_,_,_,e⟩
theorem P8 {k:Nat} {f:Addr} {fd:FuncData} {params:Arguments} {body:Expr} {scope:Scope} {y:Str} {sp:V->Hp->VK->XK->Prop} (L:Bn params body scope y base f fd) (S:Ll scope y)
 (dJ:∀(qual:Str) (cd:Value) (dA:List (Str×Addr)) (A:Around) (outer:List Env) (s:Shared) (H:Hp) (Q:VK) (E:XK) (wv:V),cJ k (A.deeper (PySem.W.envX qual scope s.heap.objs.size f cd dA))->sp wv H Q E->
  ∃t,PE (EM (iV P w) P w K mg base [y] qual scope f cd dA A outer s H E) body t/\t [some wv] H Q):
 au P w K mg base (iV P w) (k+1) f fd [y] (fun vs H Q E=>∃wv,vs=[wv]/\sp wv H Q E):=by
 obtain ⟨qual,dA,pm,c',wX,rfl,hf,jD,j5⟩:=L.at_;refine ⟨fun vs H Q E h=>by obtain ⟨wv,rfl,_⟩:=h;rfl,fun A outer s H args us vs Q E hr e0 hb rv my=>?_⟩;obtain ⟨wv,rfl,my⟩:=my;obtain ⟨u,rfl,r⟩:=bq.one rv;have K0:∀b o,base.get? b=some o->s.heap.get? b=some o:=fun b o e=>(e0.bs b o e).1;have lim:s.heap.NoLimit:=e0.mod.nolimit.keeps K0;refine PySem.W.kla_callFunE hr.depth (K0 _ _ hf) rfl S.co S.gen rfl (jD.keeps K0) (hb _ _ _ _ ?_);refine wpAny_newFunctionEnv S.rp (fun x hx=>by
  have hx:x∈[(y,u)]:=hx;rw [iD.mp hx];exact S.loc) (fun h1 m5 VM=>⟨lim.fresh _ VM,?_⟩) S.kind
 have hk:∀b o,s.heap.get? b=some o->h1.get? b=some o:=fun b o e=>VM.extBut b o (h_ (dr e)) (cR _ e);obtain ⟨t,ht,hq⟩:=dJ qual (.ref c') dA A outer s H Q E wv (hr.deeper _) my;refine PySem.W.kla_codeExpr (wpAny_mono (ht [] _ [some wv] H Q (Xj S j5 hr.hd e0 r m5 (show [(y,u)].reverse.lookup y=some u from by rw [List.reverse_singleton,gv,pU]) hk) hq) (fun v s' hs=>?_) fun e s' hs=>hs);obtain ⟨v',H',J,rv',q⟩:=hs;exact ⟨v',H',J.os,J.bare,J.base,J.af,rv',q⟩
section
variable {i j:Nat}
theorem YL (F:au X.prog X.w X.K X.mg X.base (iV X.prog X.w) k f fd [y] sp) (hr:cJ k X.A) (hf:PySem.W.FnAt f X.base) (hb:∀(s:Shared) (u:Value),BindsTo s fd ⟨[u],[]⟩ [(y,u)]) (hN:X.N[i]?=some x) (hv:xf X.env.scope x) (hN2:X.N[j]?=some z) (Mt:xf X.env.scope z)
 (hd:(x==("__debug__":Str))=false:=by decide) (jD:(x==("__classdict__":Str))=false:=by decide) (hd2:(z==("__debug__":Str))=false:=by decide) (NA:(z==("__classdict__":Str))=false:=by decide):
 PE (xo X w9 Ex) (.Call (.Name x p) [.Name z p'] [] pos) (fun σ H Q=>σ[i]?=some (some (.ref f))/\∃v,σ[j]?=some (some v)/\sp [v] H Q (fun C dx H'=>∃c,C=.ref c/\Ex c dx σ H')):=by
 intro pins s σ H Q I zz;obtain ⟨Mh,v,Mg,q⟩:=zz;refine wpAny_Call_Name_kw (ax (JD (X:=xo X w9 Ex) (i:=i) (pos:=p) hN hv hd jD pins s σ H (fun v H1=>v=.ref f/\H1=H) I ⟨_,Mh,rfl,rfl⟩) fun uf s1 zz=>?_);obtain ⟨vf,H1,I1,r1,e1,e2⟩:=zz;subst e1 e2;obtain rfl:uf=Value.ref f:=r1;obtain ⟨oc,od,Wu,sl,ho⟩:=hf;refine PySem.W.callWith_F ⟨oc,od,Wu,sl,I1.bk _ _ ho⟩ (ax (vP (X:=xo X w9 Ex) (JD (i:=j) (pos:=p') hN2 Mt hd2 NA) qG rfl pos pins s1 σ H1 (fun vs H2=>vs=[v]/\H2=H1) I1 ⟨_,Mg,rfl,rfl⟩) fun us s2 zz=>?_);obtain ⟨vs,H2,I2,r2,e1,e2⟩:=zz;subst e1 e2;obtain ⟨u,rfl,r⟩:=bq.one r2;refine ⟨⟨oc,od,Wu,sl,I2.bk _ _ ho⟩,?_⟩;refine wpAny_call (codeAny_mono (F.run X.A X.stack s2 H2 ⟨[u],[]⟩ [u] [v] Q _ hr I2.vy (hb s2 u) (.cons r .nil) q) fun r s' hq=>?_)
 cases r with
 | error e=>
  obtain ⟨a,C,dx,H',rfl,os,bare,un,af,fl,c,hc,hE⟩:=hq;cases hc;have I':=I2.oP (s':=s') (ch:=[]) os un af bare (fun b z=>absurd z (by simp));exact ⟨a,C,dx,σ,H',σ,H2,s2,rfl,I2.iJ,I'.iJ,fun b o e=>un.there b o e (by simp),fl,hE⟩
 | ok fl=>
  cases fl with
  | ret u=>exact I2.after hq
  | next=>exact hV hq
  | brk=>exact hV hq
  | cont=>exact hV hq
end
section
variable {fN P c:Addr}
theorem zDy {i:Nat} (hN:X.N[i]?=some x) (hv:xf X.env.scope x) (I:Inv X pins σ H s) (e:σ[i]?=some (some v)) (hd:(x==("__debug__":Str))=false:=by decide) (jD:(x==("__classdict__":Str))=false:=by decide):
 ∃u,bU v u/\∀(Q:Value->Shared->Prop) (E:Value->Shared->Prop),Q u s->wpAny (model X.prog X.w) X.A (eval (.Name x p) X.env) Q E s:=by
 obtain ⟨m,hn,hl⟩:=I.loc;obtain ⟨u,r,l⟩:=hl i x v hN e hv;refine ⟨u,r,fun Q E fin=>?_⟩;rcases l with ⟨hk,hm⟩ | ⟨hk,c,hc,j6⟩
 ·exact wpAny_Name (wpAny_loadName_local I.ok.kind hk hn hm fin) hd
 ·rcases hk with hk | hk
  ·exact wpAny_Name (wpAny_loadName_cell I.ok.kind hk hc j6 fin) hd
  ·exact wpAny_Name (wpAny_loadName_free I.ok.kind hk hc j6 fin jD) hd
def zEw (X:Cx) (P:Addr) (jx:Pos) (params:Arguments) (body:Expr) (scope:Scope) (y:Str) (j:Nat) (sp:Heap->Sp):TE:=fun σ H Q=>∃ps v,H P=some (.i7 ps)/\TriplesOk ps.toList/\codeAmong jx ps.toList=none/\σ[j]?=some (some v)/\
 ∀c' f fd gr,Mod X.K X.mg gr->Bn params body scope y gr f fd->sp gr [.ref f,v] (upd H P (.i7 (ps++ #[rawInt jx.line,rawInt jx.col,.ref c']))) Q E0
theorem Tg (F:∀gr,Mod X.K X.mg gr->au X.prog X.w X.K X.mg gr a7 k fN oN [q1,q2] (sp gr)) (hr:cJ k X.A) (hg:Gl X x) (hm:X.mg x=some (.ref fN)) (hk:PySem.W.keepIn X.K (.ref fN)=true) (hb:eT X.K oN [q1,q2] [])
 (hc:X.env.code=.ref c) (C:PySem.W.CodeHd X.base c P) (bm:Aw X.mg X.base) (hN:X.N[j]?=some z) (hv:xf X.env.scope z) (S:Ll scope y)
 (jd:defaultsOf params X.env=([],[])) (lW:(x==("__debug__":Str))=false:=by decide) (hd:(z==("__debug__":Str))=false:=by decide) (jD:(z==("__classdict__":Str))=false:=by decide)
 (he:starEach [.Lambda params body scope jx,.Name z p'] X.env=[(false,eval (.Lambda params body scope jx) X.env),(false,eval (.Name z p') X.env)]:=by rfl):
 PE X (.Call (.Name x p) [.Lambda params body scope jx,.Name z p'] [] pos) (zEw X P jx params body scope y j sp):=by
 intro pins s σ H Q I zz;obtain ⟨ps,wv,hP,ht,MP,Mh,h⟩:=zz;refine wpAny_Call_Name_kw (xG I hg hm ?_ lW);obtain ⟨cl,j5,OK,_⟩:=KJ (scope:=scope) (env:=X.env) (fun z hz oG=>absurd oG (S.jw z hz));have N9:∀x c,cl.lookup x≠some c:=fun x c e=>S.jw _ (OK x c e).2 rfl;have Nm:s.heap.Ns mainGlobals X.mg:=I.mod.glob.keeps I.bk;obtain ⟨OM,ob,b1,b2,b3,b4,b5,b6⟩:=bm;have DT:=I.bk _ _ b3;have NN:s.heap.get? P=some (PySem.W.tabObj ps):=I.af P _ hP;have hgP:mainGlobals≠P:=fun z=>by obtain ⟨o,es,ep,e,hd,_⟩:=Nm;rw [z,NN] at e;cases e;cases hd
 have hbP:OM≠P:=fun z=>by rw [z,NN] at DT;cases DT;cases b4
 have hbG:OM≠mainGlobals:=fun z=>by obtain ⟨o,es,ep,e,hd,_⟩:=Nm;rw [z,e] at DT;cases DT;rw [hd] at b6;cases b6
 have neP:∀b,H b=none->b≠P:=fun b e z=>by rw [z,hP] at e;cases e
 refine DW (h₀:=X.base) (rest:=[.Name z p']) I.ok.mod.wG hk ?_ he (by rfl);rw [he];refine Calls.spliced_cons ?_;refine PySem.W.kla_eval jd (PySem.W.kla_makeFunction (mg:=X.mg) j5 I.ok.glob Nm hc (C.keeps I.bk) NN ht MP hgP ⟨OM,ob,b1,b2,hbG,hbP,DT,b4,b5,b6⟩ fun c' wX h' tk hx ik aF M6 Mw=>?_);obtain ⟨c2,oc2,vs2,tq,e2,MJ,hd2,Mt⟩:=M6;cases e2;have I1:Inv X pins σ (upd H P (.i7 (ps++ #[rawInt jx.line,rawInt jx.col,.ref c']))) { s with heap:=h'.push (PySem.W.kla_obj "<lambda>" (X.env.qual++"<lambda>") params body scope cl ((X.mg "__name__").getD .none) c' wX),toks:=tk }:=
  I.yo hP (fun b o hb e=>cR _ (hx b o hb e)) (cR _ Mw)
 obtain ⟨uz,rz,ez⟩:=zDy (p:=p') hN hv I1 Mh hd jD;refine Calls.spliced_cons (ez _ _ (Calls.spliced_nil ⟨I1.gG,?_⟩));have Vh:s.heap.objs.size<=h'.objs.size:=aS (pT ik aF);have gf:=jY (o:=PySem.W.kla_obj "<lambda>" (X.env.qual++"<lambda>") params body scope cl ((X.mg "__name__").getD .none) c' wX) h' rfl;have gc:=cR (PySem.W.kla_obj "<lambda>" (X.env.qual++"<lambda>") params body scope cl ((X.mg "__name__").getD .none) c' wX) MJ;generalize h'.push (PySem.W.kla_obj "<lambda>" (X.env.qual++"<lambda>") params body scope cl ((X.mg "__name__").getD .none) c' wX)=h2 at*;have Hf:H h'.objs.size=none:=I.af.fresh Vh;have Hc:H c'=none:=I.af.fresh ik;have K1:∀b o,X.base.get? b=some o->(uy h2 X.base [h'.objs.size,c']).get? b=some o:=fun b o e=>KP (I1.bk b o e) (.inl ⟨o,e⟩);have M1:=I1.mod.keeps K1;have e0:t_ X.prog X.w X.K X.mg (uy h2 X.base [h'.objs.size,c']) X.A X.stack { s with heap:=h2,toks:=tk } (upd H P (.i7 (ps++ #[rawInt jx.line,rawInt jx.col,.ref c']))):=by
  refine ⟨I1.ok.frames,M1,fun b o e=>?_,Nat.le_of_eq ZW,S_ I1.stack fun a ha z=>?_,I1.gP,I1.af,I1.bare⟩
  ·obtain ⟨e1,k⟩:=Td e;refine ⟨e1,?_⟩;rcases k with ⟨o',k⟩ | k
   ·exact (I1.bs b o' k).2
   ·have:H b=none:=by
     rcases eh.mp k with rfl | k
     ·exact Hf
     ·rw [iD.mp k];exact Hc
    rw [aj (neP b this)];exact this
  ·have ol:a<s.heap.objs.size:=by
    obtain ⟨_,o,ho,_⟩:=I.stack.mem z;exact dr ho
   rcases eh.mp ha with rfl | ha
   ·exact absurd (iC ol Vh) (j8 _)
   ·obtain rfl:=iD.mp ha;exact absurd (iC ol ik) (j8 _)
 have L:Bn params body scope y (uy h2 X.base [h'.objs.size,c']) h'.objs.size _:=⟨_,cl,_,c',wX,rfl,KP gf (.inr (by simp)),⟨c',oc2,vs2,tq,rfl,KP gc (.inr (by simp)),hd2,Mt⟩,N9⟩;refine wpAny_call (codeAny_mono ((F _ M1).run X.A X.stack _ _ ⟨[.ref h'.objs.size,uz],[]⟩ [.ref h'.objs.size,uz] [.ref h'.objs.size,wv] Q E0 hr e0 (hb _ [.ref h'.objs.size,uz] I1.gG rfl) (.cons rfl (.cons rz .nil)) (h c' _ _ _ M1 L)) fun r s' hq=>?_)
 cases r with
 | error e=>exact hV hq
 | ok fl=>
  cases fl with
  | ret u=>exact I1.after hq
  | next=>exact hV hq
  | brk=>exact hV hq
  | cont=>exact hV hq
end
def EK (T:Addr) (H:Hp):Prop:=∀b,H b=none\/(b≠T/\∃o xs,H b=some (.gY o (.lst xs)))\/(b=T/\H b=some (.i7 #[]))
theorem YE {mg mb:Str->Option Value} {CX:pX} {k:Nat} {fa a T c:Addr} {fd:FuncData} {x:Str} {sp:Sp} {ar:Shared} {vs:List Value} {ns:List Int}
 (KX:K.In ar.heap) (hT:ar.heap.get? T=some (PySem.W.tabObj #[])) (KT:K.lookup T=none) (hC:PySem.W.CodeHd ar.heap c T) (m5:ar.heap.Ns mainGlobals mg) (hb:ar.heap.Ns builtinsNs mb) (rS:∀x:Str,x≠"__name__"->mb x=bootBuiltins x) (MW:ar.heap.NoLimit)
 (hbm:Aw mg ar.heap) (hg:ar.gens= #[])
 (ha:ar.heap.get? a=some { cls:=.type "list",data:=.seq vs.toArray }) (hi:IntsAre vs ns) (hl:ns.length<=sizeLine) (hr:cJ k callerA)
 (F:∀base:Heap,K.In base->base.Ns mainGlobals mg->Aw mg base->au P w K mg base CX k fa fd [x] sp) (Dw:∀(s:Shared) (u:Value),BindsTo s fd ⟨[u],[]⟩ [(x,u)])
 (my:∀H:Hp,EK T H->H T=some (.i7 #[])->a9 K H a (ns.map V.int)->sp [.ref a] H (fun v _=>v=.bl true) fun _ _ _=>False)
 (NW:∀H e s',CX [] H ar (fun _ _ _=>False) e s'->False):
 codeAny (model P w) callerA (.call (.ref fa) ⟨[.ref a],[]⟩) (fun r s'=>r=.ok (.ret (.bool true))/\OldK ar.heap s'.heap/\s'.os=ar.os/\AllBare s'.gens) ar:=by
 have rv:=Sj hi;have LV:=hi.length;have aT:a≠T:=fun z=>by rw [z,hT] at ha;cases ha
 have core:∀H:Hp,EK T H->H T=some (.i7 #[])->a9 K H a (ns.map V.int)->eS P w H ar.heap->(∀b,H b≠none->b=a\/b=T)->(H a≠none->K.lookup a=none)->
  codeAny (model P w) callerA (.call (.ref fa) ⟨[.ref a],[]⟩) (fun r s'=>r=.ok (.ret (.bool true))/\OldK ar.heap s'.heap/\s'.os=ar.os/\AllBare s'.gens) ar:=by
  intro H hO Wl hS af hA hK;have kW:∀{b:Addr} {o:Obj},ar.heap.get? b=some o->H b=none->(sG ar.heap H).get? b=some o:=fun e n=>Xh e n;have Vv:∀{b:Addr} {o:Obj},ar.heap.get? b=some o->(∀its n,o.data≠.seq its n)->(∀ps,o.data≠.fields ps)->H b=none:=fun {b o} e d1 d2=>by
   cases q:H b with
   | none=>rfl
   | some u=>
    rcases hA b (by rw [q];simp) with e' | e'
    ·subst e';rw [ha] at e;cases e;exact absurd rfl (d1 _ _)
    ·subst e';rw [hT] at e;cases e;exact absurd rfl (d2 _)
  have HW:∀{b:Addr} {m:Str->Option Value},ar.heap.Ns b m->(sG ar.heap H).Ns b m:=fun {b m} ⟨o,es,ep,e,d,r⟩=>⟨o,es,ep,kW e (Vv e (fun _ _ z=>by rw [d] at z;cases z) (fun _ z=>by rw [d] at z;cases z)),d,r⟩;have z6:K.In (sG ar.heap H):=fun b o e=>kW (KX b o e) (by
   cases q:H b with
   | none=>rfl
   | some u=>
    rcases hA b (by rw [q];simp) with e' | e'
    ·subst e';rw [hK (by rw [q];simp)] at e;cases e
    ·subst e';rw [KT] at e;cases e)
  have hB:Aw mg (sG ar.heap H):=by obtain ⟨bm,o,b1,b2,b3,b4,b5,b6⟩:=hbm;exact ⟨bm,o,b1,b2,kW b3 (Vv b3 (fun _ _ z=>by rw [b6] at z;cases z) (fun _ z=>by rw [b6] at z;cases z)),b4,b5,b6⟩
  have hM:Mod K mg (sG ar.heap H):=⟨z6,HW m5,⟨mb,HW hb,rS⟩,let ⟨mc,h1,h2⟩:=MW;⟨mc,HW h1,h2⟩⟩;have e0:t_ P w K mg (sG ar.heap H) callerA [] ar H:=⟨rfl,hM,fun b o e=>zBp e,Nat.le_of_eq (YA _ _),trivial,fun b hb=>absurd (show b∈([]:List Addr) from hb) (by simp),af,.of_eq hg⟩;refine codeAny_mono ((F _ z6 (HW m5) hB).run callerA [] ar H ⟨[.ref a],[]⟩ [.ref a] [.ref a] _ _ hr e0 (Dw ar (.ref a)) (.cons rfl .nil) (my H hO Wl hS)) fun r s' h=>?_
  cases r with
  | error e=>exact (NW H e s' h).elim
  | ok fl=>
   cases fl with
   | next=>exact hV h
   | brk=>exact hV h
   | cont=>exact hV h
   | ret u=>
    obtain ⟨v,H',os,bare,un,pG,r',q⟩:=h;have q':v=.bl true:=q;subst q';obtain rfl:u=Value.bool true:=r';obtain ⟨more,em⟩:=un.i6 T #[] Wl;have Dy:s'.heap.get? T=some (PySem.W.tabObj (#[]++more)):=pG T _ em;have keep:∀b o,ar.heap.get? b=some o->b≠T->s'.heap.get? b=some o:=fun b o e hb=>by
     rcases hO b with z | ⟨_,ob,xs,z⟩ | ⟨z,_⟩
     ·exact un.keep b o e z (by intro z;exact absurd (show b∈([]:List Addr) from z) (by simp)) (by simp)
     ·have z2:=un.g9 b ob _ z;obtain ⟨e1,_⟩:=af b _ z;obtain ⟨e2,_⟩:=pG b _ z2;rw [e] at e1;cases e1;exact e2
     ·exact absurd z hb
    refine ⟨rfl,⟨fun b o e=>?_,fun b o e=>?_⟩,os,bare⟩
    ·by_cases hb:b=T
     ·subst hb;rw [hT] at e;cases e;exact .inr (.inl ⟨(hC.tab hT).isCodeTable,rfl,#[],more,rfl,Dy⟩)
     ·exact .inl (keep b o e hb)
    ·by_cases hb:b=T
     ·subst hb;exact ⟨_,Dy⟩
     ·exact ⟨o,keep b o e hb⟩
 cases hk:K.lookup a with
 | some o=>
  have e:=KX a o hk;rw [ha] at e;cases e;refine core (fun b=>if b=T then some (.i7 #[]) else none) (fun b=>?_) (if_pos rfl) (.inr ⟨_,vs.toArray,_,hk,rfl,rfl,rfl,by rw [iU,LV];exact hl,by simpa using rv⟩) (fun b u z=>?_) (fun b z=>?_) fun z=>absurd (if_neg aT) z
  ·by_cases hb:b=T
   ·exact .inr (.inr ⟨hb,if_pos hb⟩)
   ·exact .inl (if_neg hb)
  ·by_cases hb:b=T
   ·have z':=(if_pos hb).symm.trans z;cases z';subst hb;exact hT
   ·have z':=(if_neg hb).symm.trans z;cases z'
  ·by_cases hb:b=T
   ·exact .inr hb
   ·exact absurd (if_neg hb) z
 | none=>
  refine core (fun b=>if b=T then some (.i7 #[]) else if b=a then some (.gY { cls:=.type "list",data:=.seq vs.toArray } (.lst (ns.map V.int))) else none) (fun b=>?_) (if_pos rfl) (.inl (.inr ⟨{ cls:=.type "list",data:=.seq vs.toArray },(if_neg aT).trans (if_pos rfl)⟩)) (fun b u z=>?_) (fun b z=>?_) fun _=>hk
  ·by_cases hb:b=T
   ·exact .inr (.inr ⟨hb,if_pos hb⟩)
   ·by_cases iB:b=a
    ·exact .inr (.inl ⟨hb,_,_,(if_neg hb).trans (if_pos iB)⟩)
    ·exact .inl ((if_neg hb).trans (if_neg iB))
  ·by_cases hb:b=T
   ·have z':=(if_pos hb).symm.trans z;cases z';subst hb;exact hT
   ·have z:=(if_neg hb).symm.trans z
    by_cases iB:b=a
    ·have z':=(if_pos iB).symm.trans z;cases z';subst iB;exact ⟨ha,by rw [aI];exact hl,vs,_,rv,ha⟩
    ·have z':=(if_neg iB).symm.trans z;cases z'
  ·by_cases hb:b=T
   ·exact .inr hb
   ·by_cases iB:b=a
    ·exact .inl iB
    ·exact absurd ((if_neg hb).trans (if_neg iB)) z
theorem XN {l:PySem.W.OpenLaw} {n k:Nat} {q:Program} {loose:List Str} {XP:(Str->Option Value)->Heap->Prop} {YP:World->Heap->Prop} {d:DefRec} {K:Params->bE} {CX:pX} {sp:Addr->bE->Sp} {x:Str} {T:Addr}
 (hn:l.most=some n) (wK:n<=sizeLine) (Ny:d.params.defaults=[]) (hr:cJ k callerA)
 (hY:∀(w:World) (h:Heap),YP w h->(K w.params).In h/\h.get? T=some (PySem.W.tabObj #[]))
 (hK:∀w:World,(K w.params).lookup T=none)
 (F:∀(w:World) (mg:Str->Option Value) (fa:Addr) (h:Heap),(K w.params).In h->h.Ns mainGlobals mg->mg d.name=some (.ref fa)->
  ∃(fd:FuncData) (c:Addr),(∀(s:Shared) (u:Value),BindsTo s fd ⟨[u],[]⟩ [(x,u)])/\PySem.W.codeHdIn (K w.params) c T=true/\
   ∀base:Heap,(K w.params).In base->base.Ns mainGlobals mg->Aw mg base->au l.prog w (K w.params) mg base CX k fa fd [x] (sp T (K w.params)))
 (my:∀(K:bE) (H:Hp) (a:Addr) (ns:List Int),ns.length<=n->EK T H->H T=some (.i7 #[])->a9 K H a (ns.map V.int)->sp T K [.ref a] H (fun v _=>v=.bl true) fun _ _ _=>False)
 (NW:∀(H:Hp) (s:Shared) (e:Value) (s':Shared),CX [] H s (fun _ _ _=>False) e s'->False):
 PySem.W.WalkO q loose XP YP l.row.toRowW d [] (fun f vs=>PySem.call f vs):=by
 refine Xa.md hn Ny fun w bX ar mg mb fa o pm cd doc a vs ns G Y _ _ _ CZ zb hints hlen hg=>?_;obtain ⟨KX,hT⟩:=hY w _ Y;obtain ⟨fd,c,hb,hc,hF⟩:=F w mg fa _ KX G.T.g CZ;exact YE KX hT (hK w) (PySem.W.codeHd_of_K KX hc) G.T.g G.T.b G.T.builtins G.T.nolimit G.T.bmain hg zb hints (dq hlen wK) hr hF hb (fun H hO hH hS=>my (K w.params) H a ns hlen hO hH hS) fun H e s'=>NW H ar e s'
end L2
namespace Y0
open PySem L2
def Rc (P:Program) (w:World) (K:bE) (mg:Str->Option Value) (CN:Addr) (y:Str) (k:Nat) (base:Heap):Sp:=fun vs H Q _=>∃(f p:Addr) (fd:FuncData) (L9:Sp) (c:Prop),vs=[.ref f,.ref p]/\au P w K mg base (iV P w) k f fd [y] L9/\PySem.W.FnAt f base/\
 (∀(s:Shared) (u:Value),BindsTo s fd ⟨[u],[]⟩ [(y,u)])/\(∀(Q':VK) (E':XK),(c->∀v H',a8 H H'->Q' v H')->(¬c->∀d H',a8 H H'->E' (.ref CN) d H')->L9 [.ref p] H Q' E')/\∀(b:Bool) H',a8 H H'->(b=true↔c)->Q (.bl b) H'
section
theorem zE5:cC ["_law_work","_law_web_here"] ["_law_work","_law_web_here"] (aU jc):=de
theorem px (F:Fn K mg "_law_told" jc ["_law_work","_law_web_here"] f fd) (mgN:mg "NoTimes"=some (.ref CN)) (OD:PySem.W.exmOne K (.ref CN) (.ref CN)=some true):
 au P w K mg base a7 (k+1) f fd ["_law_work","_law_web_here"] (Rc P w K mg CN y k base):=by
 refine F.F.dw zE5 fun _ A _ s H _ Q E hr h=>?_;obtain ⟨fw,p,fdw,L9,c,rfl,GW,fnw,bw,q,kq⟩:=h;refine ⟨_,bo (zDm (Cn:=CN) (Ex:=fun C' _ _ H'=>C'=CN/\a8 H H'/\¬c) rfl rfl rfl mgN
  (fun pins=>aA (gE (YL (i:=0) (j:=1) GW hr fnw bw rfl (Or.inl rfl) rfl (Or.inl rfl))))
  (fun e=>aA (cG zR)))
  (aA (cG zR)),?_⟩
 refine ⟨⟨rfl,_,rfl,q _ _ (fun hc _ H' s'=>kq true H' s' ⟨fun _=>hc,fun _=>rfl⟩) fun hc _ H' s'=>⟨CN,rfl,rfl,s',hc⟩⟩,fun C' dx ae H' e=>⟨by rw [e.1];exact OD,kq false H' e.2.1 ⟨nofun,fun z=>absurd z e.2.2⟩⟩⟩
end
end Y0
namespace L2
open PySem PySem.Spec PyProof.Rows
theorem gC.okC {x qual:Str} {st:Stmt} {f c:Addr} {fd:FuncData} {N ps:List Str} {k:Nat} {sp:Sp} (F:gC K x qual st f fd) (hc:fd.code=.ref c) (S:cC N ps (aU st)) (len:∀vs H Q E,sp vs H Q E->vs.length=ps.length)
 (dJ:∀(A:Around) (outer:List Env) (s:Shared) (H:Hp) (vs:List V) (Q:VK) (E:XK),cJ k (A.deeper (PyProof.Rows.envOfC qual (aU st) s.heap.objs.size f (.ref c)))->sp vs H Q E->
  ∃t,gB (mH a7 P w K mg base N qual (aU st) f (.ref c) A outer s H E).wC (mS st) t/\t { nx:=fun _ H'=>Q .aR H',rt:=Q } (jA N vs) H):au P w K mg base a7 (k+1) f fd ps sp:=by
 obtain ⟨oc,od,kV,doc,pm,an,df,ct,o9,rfl,lk,jD⟩:=F.ex;obtain rfl:df=.ref c:=hc;refine Lp lk jD S len fun A outer s H vs Q E hr my=>?_;obtain ⟨t,h,q⟩:=dJ A outer s H vs Q E hr my;exact ⟨t,h.wC,q⟩
end L2
namespace Y0
open PySem L2
seal L2.PE L2.PA L2.PT L2.PS L2.gB L2.PG L2.pW L2.PI L2.PO
def qP (T:Addr) (K:bE):Sp:=fun vs H Q _=>∃a ns,vs=[.ref a]/\qD K H a ns/\H T=some (.i7 #[])/\∀H',Q (.bl true) H'
theorem uF (o:EK T H) (h:a9 K H a (ns.map V.int)):qD K H a ns:=by
 rcases h with (h | h) | h
 ·rcases o a with z | ⟨_,ob,xs,z⟩ | ⟨_,z⟩
  ·rw [z] at h;cases h
  ·rw [z] at h;cases h
  ·rw [z] at h;cases h
 ·exact .inl h
 ·exact .inr h
theorem GY:ck d H (upd H d o):=fun b u e n=>by rw [aj n];exact e
structure ur (H:Hp) (wp ta fa:Addr) (n la:Int) (T F:List (List Int)):Prop where
 tup:H wp=some (.tup [.int n,.int la,.ref ta,.ref fa])
 t:dQ H ta T
 f:dQ H fa F
theorem ur.same (h:ur H wp ta fa n la T F) (k:a8 H H'):ur H' wp ta fa n la T F:=⟨k _ _ h.tup,h.t.same k,h.f.same k⟩
theorem Ai (k:ck Tb H H') (hT:H Tb=some (.i7 ps)) (e:H b=some o) (h:∀qs,o≠.i7 qs):H' b=some o:=k _ _ e fun z=>by subst z;rw [hT] at e;cases e;exact h _ rfl
theorem Hr (h:dQ H a rows) (k:ck Tb H H') (hT:H Tb=some (.i7 ps)):dQ H' a rows:=by obtain ⟨qs,h1,h2⟩:=h;exact ⟨qs,Ai k hT h1 (fun _ z=>nomatch z),iI h2 fun _ _ e=>Ai k hT e (fun _ z=>nomatch z)⟩
theorem jl.tab (h:jl C H p n la T F) (k:ck Tb H H') (hT:H Tb=some (.i7 ps)):jl C H' p n la T F:=by obtain ⟨dx,ta,fa,h1,h2,h3⟩:=h;exact ⟨dx,ta,fa,Ai k hT h1 (fun _ z=>nomatch z),Hr h2 k hT,Hr h3 k hT⟩
theorem ur.tab (h:ur H wp ta fa n la T F) (k:ck Tb H H') (hT:H Tb=some (.i7 ps)):ur H' wp ta fa n la T F:=⟨Ai k hT h.tup (fun _ z=>nomatch z),Hr h.t k hT,Hr h.f k hT⟩
theorem eB.tab (h:eB K sa H d) (k:ck Tb H H') (hT:H Tb=some (.i7 ps)):eB K sa H' d:=by
 obtain ⟨⟨p,h1⟩,ns,h2⟩:=h;refine ⟨⟨p,Ai k hT h1 (fun _ z=>nomatch z)⟩,ns,?_⟩;rcases h2 with ⟨o,h2⟩ | h2
 ·exact .inl ⟨o,Ai k hT h2 (fun _ z=>nomatch z)⟩
 ·exact .inr h2
theorem zA9 {i N:Nat} {la:Int} {T F:List (List Int)} {Te:Nat} (h0:σ[i]?=some (some (.ref x))) (W:jl C H x (N:Int) la T F) (af:cO (N:Int) la T F) (hE:xj N (cP F) (mv N la T F) Te)
 (q:∀H',a8 H H'->Q (.bl (decide ((jn N la T F Te).bar=none))) H'):uD Vm (uD EZ (Lq (JM C) [] E0 (kY (vB i) qB)) (tC (.int 0))) (tC (.str "rule")) σ H Q:=by
 refine ⟨_,h0,x,N,la,T,F,Te,rfl,W,af,hE,fun r H5 _ s5=>⟨fun b hb hP=>?_,fun bC hRu=>?_⟩⟩
 ·obtain ⟨l,nn,ps,g1,_⟩:=hP;have:=q H5 s5;rw [gA (by rw [hb];exact fun z=>nomatch z)] at this;exact a_ g1 rfl ⟨rfl,this⟩
 ·obtain ⟨lt,lw,ps,qs,L,MM,g1,_⟩:=hRu;have:=q H5 s5;rw [jZ bC] at this;exact a_ g1 rfl ⟨rfl,this⟩
def IV (F F':List (List Int)) (j:Nat):Prop:=F'.length=j/\∀(i:Nat) a b l m,i<j->F[i]?=some [a,b,l,m]->∃x,F'[i]?=some [a,b,x,x]/\l<=x/\x<=m
theorem IV.ok (af:cO (N:Int) la T F) (h:IV F F' F.length):cO (N:Int) la T F'/\EJ la la T T F F':=by
 have back:∀{i:Nat} {r:List Int},F'[i]?=some r->∃a b l m x,F[i]?=some [a,b,l,m]/\r=[a,b,x,x]/\l<=x/\x<=m:=fun {i r} e=>by
  have hi:i<F.length:=by rw [<-h.1];exact (gu.mp e).1
  obtain ⟨a,b,l,m,er,_⟩:=af.f _ (zL hi);have e0:F[i]?=some [a,b,l,m]:=by rw [lz hi,er]
  obtain ⟨x,e1,e2,e3⟩:=h.2 i a b l m hi e0;rw [e] at e1;cases e1;exact ⟨a,b,l,m,x,e0,rfl,e2,e3⟩
 have mem:∀{r:List Int},r∈F'->∃(i:Nat) (a b l m x:Int),F[i]?=some [a,b,l,m]/\r=[a,b,x,x]/\l<=x/\x<=m:=fun hr=>by obtain ⟨i,e⟩:=pV.mp hr;obtain ⟨a,b,l,m,x,h1⟩:=back e;exact ⟨i,a,b,l,m,x,h1⟩
 refine ⟨⟨af.n1,af.n2,af.l1,af.l2,af.tl,by rw [h.1];exact af.fl,af.t,fun r hr=>?_,fun i j r r' e e' q=>?_,fun r hr r' ay q=>?_⟩,jg _,fun h=>⟨_,_,h,jg _,jg _⟩,fun {a b l' m'} hr=>?_,fun {a b l m} hr=>?_⟩
 ·obtain ⟨i,a,b,l,m,x,h1,rfl,h3,h4⟩:=mem hr;obtain ⟨_,_,_,_,e,x1,x2,x3,x4,x5,x6,x7,x8⟩:=af.f _ (gK h1);cases e;exact ⟨a,b,x,x,rfl,x1,x2,x3,x4,x5,o_ x6 h3,oz,o_ h4 x8⟩
 ·obtain ⟨a,b,l,m,x,h1,rfl,_⟩:=back e;obtain ⟨a',b',l',m',x',jV,rfl,_⟩:=back e';exact af.one i j _ _ h1 jV q
 ·obtain ⟨i,a,b,l,m,x,h1,rfl,_⟩:=mem hr;obtain ⟨j,a',b',l',m',x',jV,rfl,_⟩:=mem ay;exact af.own _ (gK h1) _ (gK jV) q
 ·obtain ⟨i,a0,b0,l,m,x,h1,e,h3,h4⟩:=mem hr;cases e;exact ⟨l,m,gK h1,h3,h4⟩
 ·obtain ⟨i,e⟩:=pV.mp hr;obtain ⟨x,e1,_⟩:=h.2 i a b l m (gu.mp e).1 e;exact ⟨x,x,gK e1⟩
section
abbrev n16:List Str:=["_law_script","_law_d","_law_w","_law_web_here","_law_is_rule","_law_falls_here","_law_one","_law_end","_law_least","_law_most","_law_long","_law_drawn"]
theorem pY:cC n16 ["_law_script"] (aU yr):=de
theorem yG (F:Fn K mg "law" yr ["_law_script"] f fd) (hc:fd.code=.ref c) (hC:PySem.W.CodeHd base c Tb) (bm:Aw mg base) (TC:mG K mg C)
 (FN:Fn K mg "_law_next" ju ["_law_dice","_law_many"] fN oN) (GN:au P w K mg base a7 1 fN oN ["_law_dice","_law_many"] (Bt K))
 (FW:Fn K mg "_law_web" qR ["_law_d","_law_most","_law_last","_law_wide"] fW wV) (GW:au P w K mg base a7 3 fW wV ["_law_d","_law_most","_law_last","_law_wide"] (UO K))
 (M:Mk K C fI) (bI:eT K DE ["self","many","last","ties","falls"] []) (GI:au P w K mg base a7 3 fI DE ["self","many","last","ties","falls"] (Py C))
 (FK:Fn K mg "kept" gR ["web"] fK OA) (GK:au P w K mg base a7 6 fK OA ["web"] (JM C))
 (FX:Fn K mg "fixed" eX ["web"] fX fdX) (GX:∀b:Heap,au P w K mg b (iV P w) 5 fX fdX ["web"] (JX C CN))
 (FT:Fn K mg "tight" gQ ["web"] fT m8) (GT:∀b:Heap,au P w K mg b (iV P w) 4 fT m8 ["web"] (JY C CN))
 (FO:Fn K mg "_law_told" jc ["_law_work","_law_web_here"] fO O9) (GO:∀b:Heap,au P w K mg b a7 7 fO O9 ["_law_work","_law_web_here"] (Rc P w K mg CN "_law_some" 6 b)):
 au P w K mg base a7 8 f fd ["_law_script"] (qP Tb K):=by
 refine F.F.okC hc pY (fun vs H Q E h=>?_) (fun A outer s H vs Q E hr h=>?_)
 ·obtain ⟨a,ns,rfl,_⟩:=h;rfl
 ·obtain ⟨a,ns,rfl,hS0,hTb,k⟩:=h;have gW:cJ 1 _:=hr.mono (by decide);have CM:cJ 3 _:=hr.mono (by decide);have VO:cJ 4 _:=hr.mono (by decide);have hr6:cJ 6 _:=hr.mono (by decide);refine ⟨_,cy (cF 1 pY.nd (l9 (bS (pv 0) aG)))
   (cy (cF 2 pY.nd (cH GW CM FW (nk (pv 1) aG aG aG)))
   (cy (cF 3 pY.nd (JT M GI VO rfl TC.C7 bI .nil gD (nk (bc (pv 2)) (bc (pv 2)) (bc (pv 2)) (bc (pv 2)))))
   (cy (cF 4 pY.nd (vC iu (bc (cH GK hr6 FK (bR (pv 3)))) ft))
   (cy (eM (PW.pt (xy (xw (Tg (j:=3) (y:="_law_some") (P:=Tb) (fun b _=>GO b) hr rfl FO.g FO.F.kp FO.b rfl hC bm rfl (Or.inl rfl) ⟨rfl,rfl,rfl,by decide+kernel,by decide+kernel,rfl⟩ rfl)) (xI (xB (xw (pv 4)))))) (aA (cG zR)) eV)
   (cy (cF 5 pY.nd (l9 qG))
   (cy (iG PassesOwn.never rfl (iH (bc (pv 2))) (PL (K:=K) (n:=4) rfl rfl (eN (bV 6 pY.nd) (eN (bV 7 pY.nd) (eN (bV 8 pY.nd) (eN (bV 9 pY.nd) sU)))))
    (cy (cF 10 pY.nd (cE jo (pv 8) (cH GN gW FN (bS (pv 1) (cE jo (cE jK (pv 9) (pv 8)) aG)))))
    (aA (gE (qE so qy sk qi (pv 5) (bR (eU (nk (pv 6) (pv 7) (pv 10) (pv 10)))))))))
   (cy (cF 11 pY.nd (JT M GI VO rfl TC.C7 bI .nil gD (nk (bc (pv 2)) (bc (pv 2)) (bc (pv 2)) (pv 5))))
   (aA (cG (zFg (zDp (pv 4)) (JC (Tg (j:=11) (y:="_law_some") (P:=Tb) (fun b _=>GO b) hr rfl FO.g FO.F.kp FO.b rfl hC bm rfl (Or.inl rfl) ⟨rfl,rfl,rfl,by decide+kernel,by decide+kernel,rfl⟩ rfl)))))))))))),?_⟩
  refine fun N1 c1=>⟨_,rfl,dU rfl,fun d hd=>c1 _ _ ?_⟩;have D0:eB K a (upd H d (.lst [.ref a,.int 0])) d:=⟨⟨0,aq⟩,⟨ns,hS0.same (bf hd)⟩⟩;have T0:=bf (o:=.lst [.ref a,.int 0]) hd _ _ hTb;generalize upd H d (.lst [.ref a,.int 0])=H0 at*;clear c1 N1;refine fun N1 c1=>⟨_,rfl,d,a,8,20,8,rfl,D0,by decide,by decide,by decide,by decide,by decide,by decide,fun wp ta fa n la rT rF H1 pN RT RF af n2 nm _ D1 k1 tad Wv _=>c1 _ _ ?_⟩;clear c1 N1;obtain ⟨N,rfl⟩:∃N:Nat,n=N:=⟨n.toNat,by lia⟩;have T1:H1 Tb=some (.i7 #[]):=k1 _ _ T0 (by obtain ⟨p,e⟩:=D0.at_;exact cB T0 e nofun);refine fun N1 c1=>⟨_,rfl,a_ pN rfl ⟨_,rfl,a_ pN rfl ⟨_,rfl,a_ pN rfl ⟨_,rfl,a_ pN rfl fun x dx nx Vz nex=>?_⟩⟩⟩⟩;have s3:a8 H1 (upd (upd H1 dx (.own x)) x (.ins C dx [])):=fun b o e=>by rw [aj (aP e nx),aj (aP e Vz)];exact e
  refine ⟨x,dx,_,la,ta,fa,rT,rF,rfl,aq,RT.same s3,RF.same s3,af,fun H4 W4 k4=>⟨rfl,c1 _ _ ?_⟩⟩;clear c1 N1;have s4:a8 H1 H4:=fun b o e=>k4 b o (s3 b o e) (aP e nx);have W':ur H4 wp ta fa (N:Int) la rT rF:=ur.same ⟨pN,RT,RF⟩ s4;have D4:=D1.same s4;have T4:=s4 _ _ T1;clear s3 s4 k4 nex nx Vz T1 T0 D0 D1 pN RT RF;have l2:=af.l2;obtain ⟨Te,hE⟩:=Z4 af l2;refine fun N1 c1=>zA9 rfl W4 af hE fun H5 s5=>c1 _ _ ?_;clear c1 N1;have W5:=W4.same s5;have WZ:=W'.same s5;have D5:=D4.same s5;have T5:=s5 _ _ T4;clear W4 W' D4 T4 s5;have fr:∀{kk:Nat},(aO ((mQ (N:Int) la rT rF).map c_) (kk+1)).q=none->decide ((jn N la rT rF Te).bar=none)=true:=fun hq=>jZ (Z7 af hq Te);have rt:∀{rows:List (List Int)},cO (N:Int) la rT rows->EJ la la rT rT rF rows->decide ((jn N la rT rF Te).bar=none)=true->∃k,k<N/\(aO ((dB (N:Int) la rT rows).map c_) (k+1)).q=none:=fun h2 L hb=>Zu af h2 L hE (of_decide_eq_true hb);generalize decide ((jn N la rT rF Te).bar=none)=r at*;refine fun N1 c1=>⟨#[],_,T5,trivial,rfl,rfl,fun c' fl O5 b' M' L=>?_⟩;refine ⟨fl,x,O5,_,∃kk,kk<N/\(aO ((mQ (N:Int) la rT rF).map c_) (kk+1)).q=none,rfl,P8 (k:=5) (sp:=fun wv H Q E=>JX C CN [wv] H Q E) L ⟨rfl,rfl,rfl,by decide+kernel,by decide+kernel,rfl⟩ (fun qual cd dA A outer s H Q E wv hr h=>⟨_,B4 (GX b') hr rfl FX.g FX.F.kp FX.b .nil (T_ (E:=E) fun _ _ _ z=>z) (bR (pv 0)),_,rfl,h⟩),L.fnAt,?_,?_,?_⟩
  ·intro s u;obtain ⟨_,_,_,_,_,rfl,_⟩:=L.at_;exact .of_eq rfl
  ·exact fun Q' E' hQ NS=>⟨_,rfl,x,N,la,rT,rF,rfl,W5.tab GY T5,af,fun kk l H' m6 hq _ s' _=>hQ ⟨kk,m6,hq⟩ _ H' s',fun no x d l ring H' _ _ _ _ s' _ _=>NS (fun ⟨kk,m6,hq⟩=>no kk m6 hq) _ H' s'⟩
  intro b H6 s6 hb;have c2:N1 [some (.ref a),some (.ref d),some (.ref wp),some (.ref x),some (.bl r),none,none,none,none,none,none,none] H6:=by
   refine c1 _ _ ?_;clear c1 N1 L M';have T6:=s6 _ _ (aq (H:=H5) (a:=Tb));have Be:=(WZ.tab GY T5).same s6;have D6:=(D5.tab GY T5).same s6;clear W5 WZ D5 T5 s6;refine fun N1 c1=>⟨dP _,fun l hl=>c1 _ _ ?_⟩;clear c1 N1;have s7:=bf (o:=.lst []) hl;obtain ⟨dp,AL⟩:=id D6.at_;have ld:l≠d:=(aP AL hl).symm;have DA7:=Be.same s7;have D7:=D6.same s7;have e7:upd H6 l (.lst []) l=some (.lst []):=aq;have k7:ck d H6 (upd H6 l (.lst [])):=s7.keep;generalize upd H6 l (.lst [])=H7 at*;obtain ⟨fs,zo⟩:=id Be.f;have tK:=zo.same s7;refine fun N1 c1=>⟨_,rfl,a_ DA7.tup rfl ⟨fa,rfl,⟨_,a9.of tK.1⟩,km (K:=K) (a:=fa) (xs:=fs.map V.ref) (fun j ae H'=>∃v6 v7 v8 v9 v10 ps rows,ae=[some (.ref a),some (.ref d),some (.ref wp),some (.ref x),some (.bl r),some (.ref l),v6,v7,v8,v9,v10,none]/\gj H' l ps rows/\IV rF rows j/\eB K a H' d/\ck d H6 H') ⟨none,none,none,none,none,[],[],rfl,⟨e7,.nil⟩,⟨rfl,fun _ _ _ _ _ h=>absurd h (oR _)⟩,D7,k7⟩ ?_ ?_ ?_⟩⟩
   ·rintro j ae H8 _ ⟨v6,v7,v8,v9,v10,ps,rows,rfl,_,_,_,k8⟩;exact a9.of (k8 _ _ zo.1 Wv)
   ·rintro j z ae H8 hz ⟨v6,v7,v8,v9,v10,ps,rows,rfl,R8,J8,D8,k8⟩;obtain ⟨q,row,rfl,hq,lR,ie⟩:=tK.get hz;obtain ⟨a1,b1,l1,m1,rfl,_,_,_,_,_,_,x7,_⟩:=af.f row (gK lR);have hj:=(gu.mp lR).1;have hF:=af.fl;obtain ⟨q',M7⟩:∃o,H6 q=some o:=by
     obtain ⟨r6,_,h2⟩:=aY zo.2 hq;exact ⟨_,h2⟩
    have hq8:H8 q=some (.tup ([a1,b1,l1,m1].map V.int)):=by have e:=(s7 _ _ M7).symm.trans ie;cases e;exact k8 _ _ M7 (cB M7 AL nofun)
    refine ⟨q,_,rfl,dm.of hq8,rfl,_,_,rfl,_,_,rfl,_,_,rfl,_,_,rfl,rfl,?_⟩;refine fun N2 c2=>⟨_,rfl,_,rfl,_,rfl,_,rfl,_,_,rfl,rfl,_,_,rfl,rfl,d,a,_,rfl,D8,by lia,fun g H9 g0 g1 D9 k9=>⟨_,_,rfl,rfl,c2 _ _ ?_⟩⟩;clear c2 N2;obtain ⟨dp8,hd8⟩:=id D8.at_;have R9:=R8.keep k9 hd8 ld;refine ⟨_,rfl,.inl ⟨rfl,_,a9.of R9.1⟩,_,rfl,_,rfl,_,rfl,_,rfl,dU rfl,fun p hp=>?_⟩;have xh:=R9.same (bf (o:=.tup [.int a1,.int b1,.int (l1+g),.int (l1+g)]) hp);refine ⟨l,_,_,rfl,rfl,xh.1,?_,?_⟩
    ·rw [aI,xh.len,J8.1];exact gy (by lia)
    refine ⟨_,_,_,_,_,ps++[p],rows++[[a1,b1,l1+g,l1+g]],rfl,xh.push aq,⟨by rw [iT,J8.1];rfl,fun i a2 b2 l2 m2 hi e=>?_⟩,(D9.new hp).upd xh.1 ld,mR (mR (k8.trans k9) ((k8.trans k9).free hp D9.there)) hl⟩
    by_cases c3:i<j
    ·obtain ⟨x',e1,e2⟩:=J8.2 i a2 b2 l2 m2 c3 e;exact ⟨x',by rw [me (by rw [J8.1];exact c3)];exact e1,e2⟩
    ·have:i=j:=by lia
     subst this;rw [lR] at e;cases e;exact ⟨l1+g,by rw [mC (by rw [J8.1];exact av _),J8.1,Nat.sub_self];rfl,mw g0,by lia⟩
   ·rintro ae H8 ⟨v6,v7,v8,v9,v10,ps,rows,rfl,R8,J8,D8,k8⟩;refine c1 _ _ ?_;clear c1 N1;rw [aI,tK.len] at J8;obtain ⟨pG,L'⟩:=J8.ok af;have IS:ur H8 wp ta fa (N:Int) la rT rF:=⟨k8 _ _ Be.tup (cB Be.tup AL nofun),Be.t.keep k8 AL tad,Be.f.keep k8 AL Wv⟩;have T8:=k8 _ _ T6 (cB T6 AL nofun);refine fun N1 c1=>⟨_,rfl,a_ IS.tup rfl ⟨_,rfl,a_ IS.tup rfl ⟨_,rfl,a_ IS.tup rfl ⟨_,rfl,fun y dy ny ndy _=>?_⟩⟩⟩⟩;have s9:a8 H8 (upd (upd H8 dy (.own y)) y (.ins C dy [])):=fun b o e=>by
     rw [aj (aP e ny),aj (aP e ndy)];exact e
    refine ⟨y,dy,_,la,ta,l,rT,rows,rfl,aq,IS.t.same s9,dQ.same ⟨ps,R8⟩ s9,pG,fun tW W10 tD=>⟨rfl,c1 _ _ ?_⟩⟩;clear c1 N1;have LD:a8 H8 tW:=fun b o e=>tD b o (s9 b o e) (aP e ny);have WN:=LD _ _ T8;refine ⟨_,rfl,r,rfl,!r,rfl,?_⟩
    cases r with
    | false=>exact sM rfl (k _)
    | true=>
     refine jh rfl ⟨_,_,WN,?_,?_,rfl,fun c'' fl O5 b' _ L=>?_⟩
     ·trivial
     ·rfl
     refine ⟨fl,y,O5,_,∃kk,kk<N/\(aO ((dB (N:Int) la rT rows).map c_) (kk+1)).q=none,rfl,P8 (k:=5) (sp:=fun wv H Q E=>JY C CN [wv] H Q E) L ⟨rfl,rfl,rfl,by decide+kernel,by decide+kernel,rfl⟩ (fun qual cd dA A outer s H Q E wv hr h=>⟨_,B4 (GT b') (hr.mono (by decide)) rfl FT.g FT.F.kp FT.b .nil (T_ (E:=E) fun _ _ _ z=>z) (bR (pv 0)),_,rfl,h⟩),L.fnAt,?_,?_,?_⟩
     ·intro s u;obtain ⟨_,_,_,_,_,rfl,_⟩:=L.at_;exact .of_eq rfl
     ·exact fun Q' E' hQ NS=>⟨_,rfl,y,N,la,rT,rows,rfl,W10.tab GY WN,pG,fun kk l rs H' m6 hq _ _ s' _=>hQ ⟨kk,m6,hq⟩ _ H' s',fun no x d l ring H' _ _ _ _ s' _ _=>NS (fun ⟨kk,m6,hq⟩=>no kk m6 hq) _ H' s'⟩
     intro b2 H12 _ iB;rw [show b2=true from iB.mpr (rt pG L' rfl)];exact k _
  refine ⟨b,rfl,j_ (fun hbt=>⟨_,rfl,r,rfl,jh ?_ c2⟩) (fun _=>ji c2)⟩;obtain ⟨kk,_,hq⟩:=hb.mp hbt;rw [fr hq];rfl
end
end Y0
namespace L2
theorem mI:∀{us:List α},us.length=n+1->∃a t,us=a::t/\t.length=n
 | a::t,h=>⟨a,t,rfl,Nat.succ.inj h⟩
theorem zH0 (us:List α) (h:us.length=1):∃a,us=[a]:=by obtain ⟨a,t0,rfl,h0⟩:=mI h;obtain rfl:=DX h0;exact ⟨a,rfl⟩
theorem Tx (us:List α) (h:us.length=2):∃a b,us=[a,b]:=by obtain ⟨a,t0,rfl,h0⟩:=mI h;obtain ⟨b,t1,rfl,h1⟩:=mI h0;obtain rfl:=DX h1;exact ⟨a,b,rfl⟩
theorem zHz (us:List α) (h:us.length=3):∃a b c,us=[a,b,c]:=by obtain ⟨a,t0,rfl,h0⟩:=mI h;obtain ⟨b,t1,rfl,h1⟩:=mI h0;obtain ⟨c,t2,rfl,h2⟩:=mI h1;obtain rfl:=DX h2;exact ⟨a,b,c,rfl⟩
theorem zHy (us:List α) (h:us.length=4):∃a b c d,us=[a,b,c,d]:=by obtain ⟨a,t0,rfl,h0⟩:=mI h;obtain ⟨b,t1,rfl,h1⟩:=mI h0;obtain ⟨c,t2,rfl,h2⟩:=mI h1;obtain ⟨d,t3,rfl,h3⟩:=mI h2;obtain rfl:=DX h3;exact ⟨a,b,c,d,rfl⟩
theorem zHx (us:List α) (h:us.length=5):∃a b c d e,us=[a,b,c,d,e]:=by obtain ⟨a,t0,rfl,h0⟩:=mI h;obtain ⟨b,t1,rfl,h1⟩:=mI h0;obtain ⟨c,t2,rfl,h2⟩:=mI h1;obtain ⟨d,t3,rfl,h3⟩:=mI h2;obtain ⟨e,t4,rfl,h4⟩:=mI h3;obtain rfl:=DX h4;exact ⟨a,b,c,d,e,rfl⟩
end L2
namespace Y0
open PySem L2
section
theorem DS {A B C D E F V:Type} {p:A->B->C->D->E->F->List V->Prop} (h:∀a1 a2 a3 a4 a5 a6 a,p a1 a2 a3 a4 a5 a6 [a]):∀a1 a2 a3 a4 a5 a6 (us:List V),us.length=1->p a1 a2 a3 a4 a5 a6 us:=fun _ _ _ _ _ _ us hl=>by obtain ⟨a,rfl⟩:=L2.zH0 us hl;exact h _ _ _ _ _ _ _
theorem DR {A B C D E F V:Type} {p:A->B->C->D->E->F->List V->Prop} (h:∀a1 a2 a3 a4 a5 a6 a b,p a1 a2 a3 a4 a5 a6 [a,b]):∀a1 a2 a3 a4 a5 a6 (us:List V),us.length=2->p a1 a2 a3 a4 a5 a6 us:=fun _ _ _ _ _ _ us hl=>by obtain ⟨a,b,rfl⟩:=L2.Tx us hl;exact h _ _ _ _ _ _ _ _
theorem DQ {A B C D E F V:Type} {p:A->B->C->D->E->F->List V->Prop} (h:∀a1 a2 a3 a4 a5 a6 a b c,p a1 a2 a3 a4 a5 a6 [a,b,c]):∀a1 a2 a3 a4 a5 a6 (us:List V),us.length=3->p a1 a2 a3 a4 a5 a6 us:=fun _ _ _ _ _ _ us hl=>by obtain ⟨a,b,c,rfl⟩:=L2.zHz us hl;exact h _ _ _ _ _ _ _ _ _
theorem DP {A B C D E F V:Type} {p:A->B->C->D->E->F->List V->Prop} (h:∀a1 a2 a3 a4 a5 a6 a b c d,p a1 a2 a3 a4 a5 a6 [a,b,c,d]):∀a1 a2 a3 a4 a5 a6 (us:List V),us.length=4->p a1 a2 a3 a4 a5 a6 us:=fun _ _ _ _ _ _ us hl=>by obtain ⟨a,b,c,d,rfl⟩:=L2.zHy us hl;exact h _ _ _ _ _ _ _ _ _ _
theorem DO {A B C D E F V:Type} {p:A->B->C->D->E->F->List V->Prop} (h:∀a1 a2 a3 a4 a5 a6 a b c d e,p a1 a2 a3 a4 a5 a6 [a,b,c,d,e]):∀a1 a2 a3 a4 a5 a6 (us:List V),us.length=5->p a1 a2 a3 a4 a5 a6 us:=fun _ _ _ _ _ _ us hl=>by obtain ⟨a,b,c,d,e,rfl⟩:=L2.zHx us hl;exact h _ _ _ _ _ _ _ _ _ _ _
theorem wU {x:Str} {st:Stmt} {ps:List Str} {f:Addr} {oc:Value} {od an:Option Addr} {o9:Array (Option Value)} {kV doc pm df ct:Value} (X:K.In h) (G:h.Ns mainGlobals mg) (a:PySem.W.nsIn K mainGlobals x=some (some (.ref f)):=by k_is)
 (l:K.lookup f=some ⟨oc,od,.func (PySem.W.fnOf x x (sW st) (mS st) (aU st) .none kV doc pm an df ct),o9⟩:=by k_is) (c:PySem.W.codeIn K df x=true:=by k_is) (k:PySem.W.keepIn K (.ref f)=true:=by k_is)
 (hb:∀(kV doc pm:Value) (an:Option Addr) (df ct:Value) (us:List Value),us.length=ps.length->bindArgs (PySem.W.fnOf x x (sW st) (mS st) (aU st) .none kV doc pm an df ct) ⟨us,[]⟩=pure (ps.zip us):=by first | exact Y0.DS fun _ _ _ _ _ _ _=>rfl | exact Y0.DR fun _ _ _ _ _ _ _ _=>rfl | exact Y0.DQ fun _ _ _ _ _ _ _ _ _=>rfl | exact Y0.DP fun _ _ _ _ _ _ _ _ _ _=>rfl | exact Y0.DO fun _ _ _ _ _ _ _ _ _ _ _=>rfl):
 Fn K mg x st ps f (PySem.W.fnOf x x (sW st) (mS st) (aU st) .none kV doc pm an df ct):=
 have F:=IW (st:=st) l c k
 ⟨F,F.binds hb,tQ X G a⟩
structure EA (K:bE) (C:Addr) (m q:Str) (st:Stmt) (ps:List Str) (f:Addr) (fd:FuncData):Prop where
 F:gC K m q st f fd
 b:eT K fd ps []
 a:PySem.W.findIn K (.ref C) m=some (some (.ref f))
 i:PySem.W.isFn K (.ref f)=true
theorem EA.e_ (h:EA K C m q st ps f fd):jH K C m f:=⟨h.a,h.i,h.F.kp⟩
theorem Cz {C:Addr} {x q:Str} {st:Stmt} {ps:List Str} {f:Addr} {oc:Value} {od an:Option Addr} {o9:Array (Option Value)} {kV doc pm df ct:Value} (a:PySem.W.findIn K (.ref C) x=some (some (.ref f)):=by k_is) (i:PySem.W.isFn K (.ref f)=true:=by k_is)
 (l:K.lookup f=some ⟨oc,od,.func (PySem.W.fnOf x q (sW st) (mS st) (aU st) .none kV doc pm an df ct),o9⟩:=by k_is) (c:PySem.W.codeIn K df q=true:=by k_is) (k:PySem.W.keepIn K (.ref f)=true:=by k_is)
 (hb:∀(kV doc pm:Value) (an:Option Addr) (df ct:Value) (us:List Value),us.length=ps.length->bindArgs (PySem.W.fnOf x q (sW st) (mS st) (aU st) .none kV doc pm an df ct) ⟨us,[]⟩=pure (ps.zip us):=by first | exact Y0.DS fun _ _ _ _ _ _ _=>rfl | exact Y0.DR fun _ _ _ _ _ _ _ _=>rfl | exact Y0.DQ fun _ _ _ _ _ _ _ _ _=>rfl | exact Y0.DP fun _ _ _ _ _ _ _ _ _ _=>rfl | exact Y0.DO fun _ _ _ _ _ _ _ _ _ _ _=>rfl):
 EA K C x q st ps f (PySem.W.fnOf x q (sW st) (mS st) (aU st) .none kV doc pm an df ct):=
 have F:=IW (st:=st) l c k
 ⟨F,F.binds hb,a,i⟩
theorem aE {h:Heap} (X:K.In h) (_G:h.Ns mainGlobals mg) (x:Str) (st:Stmt) (ps:List Str) (e:∃f fd,Fn (L2.iq X) mg x st ps f fd:=by unfold L2.iq;exact ⟨_,_,Y0.wU ‹_› ‹_›⟩):∃f fd,Fn (L2.iq X) mg x st ps f fd:=e
theorem d7 (a:PySem.W.nsIn (L2.iq X) mainGlobals Xn=some (some (.ref C))) (m q:Str) (st:Stmt) (ps:List Str) (e:∃C f fd,PySem.W.nsIn (L2.iq X) mainGlobals Xn=some (some (.ref C))/\EA (L2.iq X) C m q st ps f fd:=by unfold L2.iq;exact ⟨_,_,_,by k_is,Y0.Cz⟩):∃f fd,EA (L2.iq X) C m q st ps f fd:=by obtain ⟨C',f,fd,e1,e2⟩:=e;rw [a] at e1;cases e1;exact ⟨f,fd,e2⟩
structure D' (K:bE) (mg:Str->Option Value) (C:Addr):Prop where
 tc:mG K mg C
 LS:PySem.W.makesIn K C=true
 kc:PySem.W.keepIn K (.ref C)=true
theorem ym (X:K.In h) (G:h.Ns mainGlobals mg) (aC:PySem.W.nsIn K mainGlobals "Web"=some (some (.ref C)):=by k_is) (pg:PySem.W.plainGet K C Str.empty=true:=by k_is) (hd:PySem.W.hasDictIn K C=true:=by k_is) (po:PySem.W.plainOver K C=true:=by k_is)
 (sa:PySem.W.findIn K (.ref C) "__setattr__"=some (some (.builtin "object.__setattr__")):=by k_is) (mk:PySem.W.makesIn K C=true:=by k_is) (kc:PySem.W.keepIn K (.ref C)=true:=by k_is)
 (n1:PySem.W.findIn K (.ref C) "many"=some none:=by k_is) (n2:PySem.W.findIn K (.ref C) "last"=some none:=by k_is) (n3:PySem.W.findIn K (.ref C) "told_ties"=some none:=by k_is) (n4:PySem.W.findIn K (.ref C) "told_falls"=some none:=by k_is):D' K mg C:=
 ⟨⟨⟨pg,hd,po,sa⟩,n1,n2,n3,n4,tQ X G aC⟩,mk,kc⟩
theorem u9 (X:K.In h) (G:h.Ns mainGlobals mg) (m1:PySem.W.nsIn K mainGlobals "MOST_MOMENTS"=some (some (.int 8 t1)):=by k_is) (m2:PySem.W.nsIn K mainGlobals "LATEST_LAST"=some (some (.int 60 t2)):=by k_is)
 (m3:PySem.W.nsIn K mainGlobals "WIDEST_SPAN"=some (some (.int 60 t3)):=by k_is) (m4:PySem.W.nsIn K mainGlobals "LONGEST_FALL"=some (some (.int 60 t4)):=by k_is) (z:PySem.W.nsIn K mainGlobals "list"=some none:=by k_is):mj mg:=
 ⟨⟨t1,tQ X G m1⟩,⟨t2,tQ X G m2⟩,⟨t3,tQ X G m3⟩,⟨t4,tQ X G m4⟩,tV X G z⟩
structure EE (K:bE) (mg:Str->Option Value) (C:Addr):Prop where
 tc:qc K mg C
 LS:PySem.W.makesIn K C=true
 kc:PySem.W.keepIn K (.ref C)=true
 g:mg "Closing"=some (.ref C)
theorem zF (X:K.In h) (G:h.Ns mainGlobals mg) (aC:PySem.W.nsIn K mainGlobals "Closing"=some (some (.ref C)):=by k_is) (pg:PySem.W.plainGet K C Str.empty=true:=by k_is) (hd:PySem.W.hasDictIn K C=true:=by k_is) (po:PySem.W.plainOver K C=true:=by k_is)
 (sa:PySem.W.findIn K (.ref C) "__setattr__"=some (some (.builtin "object.__setattr__")):=by k_is) (mk:PySem.W.makesIn K C=true:=by k_is) (kc:PySem.W.keepIn K (.ref C)=true:=by k_is)
 (n1:PySem.W.findIn K (.ref C) "many"=some none:=by k_is) (n2:PySem.W.findIn K (.ref C) "by_end"=some none:=by k_is) (n3:PySem.W.findIn K (.ref C) "rows"=some none:=by k_is) (n4:PySem.W.findIn K (.ref C) "best"=some none:=by k_is) (n5:PySem.W.findIn K (.ref C) "bar"=some none:=by k_is)
 (z1:PySem.W.nsIn K mainGlobals "len"=some none:=by k_is) (z2:PySem.W.nsIn K mainGlobals "range"=some none:=by k_is):EE K mg C:=
 ⟨⟨⟨pg,hd,po,sa⟩,n1,n2,n3,n4,n5,tV X G z1,tV X G z2⟩,mk,kc,tQ X G aC⟩
theorem uA (X:K.In h) (G:h.Ns mainGlobals mg) (a:PySem.W.nsIn K mainGlobals "USED_KINDS"=some (some (.ref u))) (t:La K u zT) (z:PySem.W.nsIn K mainGlobals "tuple"=some none):zM K mg:=
 ⟨⟨u,tQ X G a,t⟩,tV X G z⟩
theorem zC {C M fI N:Addr} {nm q:Str} {bs:List Value} {sn:List Str} {sub:List Value} {ab:Bool} {col:Option Bool} {dd:Option Addr} {k0 k1 k2 k3 k5:Option Value}
 (l:K.lookup C=some (excClassObj nm q C N bs (.ref M::tN) true sn sub ab col dd k0 k1 k2 k3 k5 "ValueError.__new__")) (no:PySem.W.nsOkIn K N=true) (ni:PySem.W.nsIn K N "__init__"=some (some (.ref fI)))
 (tl:PySem.W.tailIn K tN (.ref M::tN)=true) (fn:PySem.W.isFn K (.ref fI)=true) (kp:PySem.W.keepIn K (.ref C)=true) (sa:PySem.W.findIn K (.ref C) "__setattr__"=some (some (.builtin "object.__setattr__"))):sD K C M fI:=
 ⟨⟨nm,q,N,bs,sn,sub,ab,col,dd,k0,k1,k2,k3,k5,l,no,ni⟩,tl,fn,kp,sa⟩
theorem uB (X:K.In h) (G:h.Ns mainGlobals mg) (aC:PySem.W.nsIn K mainGlobals "NoTimes"=some (some (.ref C))) (aM:PySem.W.nsIn K mainGlobals "MomentError"=some (some (.ref M))) (ex:sD K C M fI)
 (b1:PySem.W.typeIn K (.ref M)=some (.type "type")) (b2:PySem.W.specialIn K (.ref M) "__getattribute__"=some (some (.builtin "type.__getattribute__"))) (b3:PySem.W.findIn K (.type "type") "__getattribute__"=some (some (.builtin "type.__getattribute__")))
 (b4:PySem.W.nsIn K cStatics "thirdparty.any"=some none) (b5:PySem.W.findCls K (.ref M) (.type "type") "__init__"=some (.val (.builtin "ValueError.__init__"))) (b6:PySem.W.subIn K (.type "type") (.type "type")=some true)
 (nR:PySem.W.findIn K (.ref C) "ring"=some none) (z1:PySem.W.nsIn K mainGlobals "range"=some none) (z2:PySem.W.nsIn K mainGlobals "len"=some none) (z3:PySem.W.nsIn K mainGlobals "list"=some none):su K mg C M fI:=
 ⟨tV X G z1,tV X G z2,tV X G z3,ex,⟨b1,b2,b3,b4,b5,b6⟩,tQ X G aM,nR,tQ X G aC⟩
end
end Y0
inductive PySem.W.Fast:Prop|tw13748234087345486352|tw17501418183639903179|tw12755757794627183702|tw7433565394210474284|tw14699271812619503415|tw3249432790353076254|tw4145064407907195331|tw11455138754611866402|tw3276282599808159226|tw5650053041922209489|tw11265151930732091007|tw12984949594688177484|tw10829803378186691246|tw7362231370760564784|tw2955702342321025718|tw16223157551874977159|tw4715846635049348745|tw13328792510329517649|tw1981277944461069216|tw396238976770367959|tw8508633642260084203|tw10205273299413681980|tw16454375877432429773|tw721598197746608842|tw16473444407085002345|tw6944798072318155922|tw7013210839707383785|tw14079335366276054478|tw8708359786808809528|tw15244447629047780853|tw8854031504024400814|tw2215446982724476312|tw8862981701404246707|tw2393354160073564219|tw10056566046987934896|tw16463251075293874665|tw14106535571520681099|tw12686105225314669323|tw17301155981759756035|tw3093938202309063213|tw2364999531024833913|tw11922705563442509429|tw13241866132068339593|tw4006421411377132543|tw13730304208865330434|tw9999731323532621224|tw15648317322788893463|tw12147011097504056251|tw2996710672645356851|tw2622581606504277293|tw16322855728262206322|tw9513267012353758570|tw13808065277431191436|tw15725755348159454785|tw13190102793538604793|tw14686889707162521587|tw12947818999074450541|tw17244747843776196980|tw8496845212216089506|tw8139078483906243239|tw6192933864245978535|tw86634534091293975|tw15255902256373152042|tw3665418488395370375|tw1377700996275199008|tw12964426321685215270|tw6682793376356493490|tw16843287659718213713|tw14280383720401392007|tw17685406963211876528|tw11694989230447469078|tw5751985394861453031|tw15046391256836351244|tw3102472621970500722|tw3877419028307325259|tw17569819663607118136|tw11102279068804434991|tw11084041193994080659|tw13807495991448982117|tw8655573493883814691|tw3257313587795542219|tw13812523599047962411|tw7495593445429951467|tw3386748990723443496|tw1490743248151098468|tw9306984340499106592|tw7684346680312563756|tw5727352329943366848|tw12750163172640859479|tw5587137655743855341|tw9483612885473972802|tw1779417476530807831|tw12929040252938280302|tw12627965649246429809|tw16642592150331157350|tw17294022224638448110|tw6998224861929512285|tw9808448272303305905|tw13325078523376925495|tw11064225728181085806|tw4003563463950451030|tw6850654089825470038|tw4850931640206653222|tw1548824106182693986|tw11171821018498892550|tw7922935206603645254|tw15762499582441240011|tw17904027014004074054|tw12897156625787929807|tw2530932408701710651|tw17046696545422967103|tw1127682059421699854|tw7713278016998179445|tw13080916935428270677|tw3851108936163675816|tw10901963651798472011|tw17527694641370746974|tw16700834439019548025|tw4649981539217227048|tw17606556041932321728|tw3821227968078950578|tw7103536297819178425|tw12043266452267624392|tw14441662957494387492
open PySem PySem.W PyProof.Rows L2 Y0
set_option maxRecDepth 100000 in
set_option maxHeartbeats 0 in
theorem PySem.Challenge.cw_momentties_k16_whole_fixed_then_hand_the_holds : PySem.Challenge.rw_momentties_k16_whole_fixed_then_hand_the.Holds := by
 w_on;o_law;k_head;(case hw=>w_witness2)
 k_fill
 refine XN (l:=PySem.Challenge.rw_momentties_k16_whole_fixed_then_hand_the) (n:=63) (k:=8) (x:="_law_script") (CX:=a7) (sp:=qP) rfl (by decide) rfl ⟨rfl,by decide,by decide⟩ (fun w h Y=>⟨PySem.W.km_in_of Y,PySem.W.km_tabs_of Y _ dN⟩) ?K ?F (fun K H a ns hl hO hT hS=>⟨a,ns,rfl,uF hO hS,hT,fun _=>rfl⟩) (fun _ _ _ _ z=>z)
 case K=>exact fun w=>by with_unfolding_all rfl
 case F=>
  intro w mg fa h KX G CZ;obtain ⟨E5,U0,J3⟩:=aE KX G "room_bounds" c8 ["web"];obtain ⟨E6,U1,J4⟩:=aE KX G "span_bounds" c7 ["spans"];obtain ⟨Ed,Ua,Je⟩:=aE KX G "bounds_with" cA ["web","ties"];obtain ⟨E9,U4,J7⟩:=aE KX G "told_bounds" bh ["web"];obtain ⟨E4,Uz,J2⟩:=aE KX G "ring_behind" c9 ["pushers","moment"];obtain ⟨Ek,Uh,Jl⟩:=aE KX G "earliest_times" aV ["many","bounds"];obtain ⟨El,Ui,Jm⟩:=aE KX G "falls_by_end" cf ["web"];obtain ⟨Ei,Uf,Jj⟩:=aE KX G "by_sum" fu ["first","second"];obtain ⟨Eg,Ud,Jh⟩:=aE KX G "by_late" dZ ["falls","tie"];obtain ⟨Eh,Ue,Ji⟩:=aE KX G "by_soon" dY ["falls","tie"];obtain ⟨Ej,Ug,Jk⟩:=aE KX G "by_sure" dX ["falls","wait"];obtain ⟨Ee,Ub,Jf⟩:=aE KX G "by_back" d_ ["falls","wait","tie"];obtain ⟨Ef,Uc,Jg⟩:=aE KX G "by_cross" d0 ["falls","wait"];obtain ⟨Oa,U5,J9⟩:=aE KX G "what_follows" bz ["falls","word","used"];obtain ⟨Ec,G9,Jd⟩:=aE KX G "bars_every_hand" br ["what"];have Ja:∃C,EE (iq KX) mg C/\PySem.W.nsIn (iq KX) mainGlobals "Closing"=some (some (.ref C)):=by unfold iq;exact ⟨_,zF KX G,by k_is⟩
  obtain ⟨Gy,Ja,Gv⟩:=Ja;obtain ⟨Om,Ox,Gp⟩:=d7 Gv "__init__" "Closing.__init__" cV ["self","web"];obtain ⟨On,Oy,Gq⟩:=d7 Gv "is_news" "Closing.is_news" cp ["self","what"];obtain ⟨Op,O0,Gs⟩:=d7 Gv "take" "Closing.take" cU ["self","what","word","used"];obtain ⟨Oh,Ot,Gj⟩:=d7 Gv "draw" "Closing.draw" cj ["self","word","used"];obtain ⟨Oo,Oz,Gr⟩:=d7 Gv "known_of" "Closing.known_of" bg ["self","kind","a"];obtain ⟨Oq,O1,Gu⟩:=d7 Gv "ties_to" "Closing.ties_to" bu ["self","b"];obtain ⟨Oj,Ov,Gm⟩:=d7 Gv "draw_from_tie" "Closing.draw_from_tie" aX ["self","at","a","b"];obtain ⟨Ol,Ow,Gn⟩:=d7 Gv "draw_from_wait" "Closing.draw_from_wait" aQ ["self","at","a"];obtain ⟨Oi,Ou,Gk⟩:=d7 Gv "draw_all" "Closing.draw_all" bY ["self"];obtain ⟨Og,Os,Gi⟩:=d7 Gv "best_drawn" "Closing.best_drawn" aN ["self","kind"];obtain ⟨E2,Ux,J0⟩:=aE KX G "numbers_needed" bG ["rows","last"];obtain ⟨E3,Uy,J1⟩:=aE KX G "paper_up_to" bP ["rows","last"];obtain ⟨En,Uk,Jo⟩:=aE KX G "is_told" dW ["by_end","wait"];obtain ⟨Eo,Ul,Jp⟩:=aE KX G "kept" gR ["web"];obtain ⟨Ob,U6,Gb⟩:=aE KX G "worst_bounds" bx ["web"];obtain ⟨Em,Uj,Jn⟩:=aE KX G "fixed" eX ["web"];obtain ⟨E8,U3,J6⟩:=aE KX G "tight_table" bM ["web","bounds"];obtain ⟨E7,U2,J5⟩:=aE KX G "tight" gQ ["web"];obtain ⟨Eb,G8,Jc⟩:=aE KX G "are_two_moments" aK ["many","one","other"];obtain ⟨Ez,Uv,Jy⟩:=aE KX G "look_over_size" bJ ["many","last"];obtain ⟨E1,Uw,Jz⟩:=aE KX G "look_over_ties" bH ["many","ties"];obtain ⟨Ey,Uu,Jx⟩:=aE KX G "look_over_falls" aJ ["many","falls"];have Jb:∃C,D' (iq KX) mg C/\PySem.W.nsIn (iq KX) mainGlobals "Web"=some (some (.ref C)):=by unfold iq;exact ⟨_,ym KX G,by k_is⟩
  obtain ⟨Gz,Jb,Gw⟩:=Jb;obtain ⟨Od,U8,Gd⟩:=d7 Gw "__init__" "Web.__init__" eZ ["self","many","last","ties","falls"];obtain ⟨Of,Ea,Gg⟩:=d7 Gw "ties" "Web.ties" eY ["self"];obtain ⟨Oc,U7,Gc⟩:=d7 Gw "falls" "Web.falls" ee ["self"];obtain ⟨Oe,U9,Ge⟩:=d7 Gw "own" "Web.own" dj ["self"];obtain ⟨Et,Uq,Jt⟩:=aE KX G "_law_next" ju ["_law_dice","_law_many"];obtain ⟨Es,Up,Js⟩:=aE KX G "_law_named" kD ["_law_moment","_law_many","_law_turn"];obtain ⟨Er,Uo,Jr⟩:=aE KX G "_law_falls" kE ["_law_d","_law_many","_law_wide"];obtain ⟨Eu,Ur,Ju⟩:=aE KX G "_law_ties" lI ["_law_d","_law_many","_law_last","_law_wide"];obtain ⟨Ew,Ut,Jw⟩:=aE KX G "_law_web" qR ["_law_d","_law_most","_law_last","_law_wide"];obtain ⟨Ev,Us,Jv⟩:=aE KX G "_law_told" jc ["_law_work","_law_web_here"];have Jq:∃f fd c,Fn (iq KX) mg "law" yr ["_law_script"] f fd/\(∀(s:Shared) (u:Value),BindsTo s fd ⟨[u],[]⟩ [("_law_script",u)])/\fd.code=.ref c/\PySem.W.codeHdIn (iq KX) c 403=true:=by unfold iq;exact ⟨_,_,_,wU KX G,fun s u=>.of_eq rfl,rfl,by with_unfolding_all rfl⟩
  obtain ⟨Ep,Um,G0,Jq,Gx,zG,sf⟩:=Jq;have CN:∃C M fI fd,su (iq KX) mg C M fI/\gC (iq KX) "__init__" "NoTimes.__init__" cT fI fd/\eT (iq KX) fd ["self","ring"] []/\PySem.W.exmOne (iq KX) (.ref C) (.ref C)=some true:=by
   unfold iq
   refine' ⟨_,_,_,_,uB KX G ?aC ?aM ?ex ?b1 ?b2 ?b3 ?b4 ?b5 ?b6 ?nR ?z1 ?z2 ?z3,IW ?fl ?fc ?fk,?fb,?xm⟩
   (case aC|aM=>k_is)
   case ex=>
    refine' zC ?l ?no ?ni ?tl ?fn ?kp ?sa
    (case l=>k_is);(case no=>with_unfolding_all rfl);(case ni=>k_is);(case tl=>with_unfolding_all rfl);(case fn|kp|sa=>k_is)
   (case b1|b2|b3|b4|b5|b6|nR|z1|z2|z3=>k_is)
   (case fl|fc|fk=>k_is)
   (case xm=>with_unfolding_all rfl)
   case fb=>exact .all fun us hl=>by obtain ⟨a,b,rfl⟩:=Tx us hl;rfl
  obtain ⟨cN,cM,fI,dI,TE,FI,bI,OD⟩:=CN;have TW:mj mg:=u9 KX G;have TU:zM (iq KX) mg:=by
   unfold iq
   refine' uA KX G ?a ?t ?z
   (case a=>k_is);(case t=>with_unfolding_all rfl);(case z=>k_is)
  have Z:PySem.W.nsIn (iq KX) mainGlobals "min"=some none/\PySem.W.nsIn (iq KX) mainGlobals "max"=some none/\PySem.W.nsIn (iq KX) mainGlobals "sorted"=some none:=by
   unfold iq
   refine' ⟨?a,?b,?c⟩
   (case a|b|c=>k_is)
  have zl:=Ja.tc.len;have zr:=Ja.tc.range;have zt:=TU.tuple;have zm:=tV KX G Z.1;have zx:=tV KX G Z.2.1;have zs:=tV KX G Z.2.2;have e0:=CZ.symm.trans Jq.g;cases e0;refine ⟨Um,G0,Gx,sf,fun base kb nb bm=>?gg⟩
  case gg=>
   have GN:=uU (P:=iM) (w:=w) (base:=base) Jt zl;have GM:=qZ (P:=iM) (w:=w) (base:=base) Js;have GF:=rg Jr Jt GN zm zr;have GT:=uM Ju Jt GN zm zx zr;have GW:=yB Jw Jt GN Js GM Jr GF Ju GT;have G2:=yC (P:=iM) (w:=w) (base:=base) Jc;have GS:=uR (P:=iM) (w:=w) (base:=base) Jy TW;have GLT:=q_ Jz TW Jc G2;have GLF:=pB Jx TW Jc G2;have GI:=uY Gd.F TW Jb.tc Jy GS Jz GLT Jx GLF;have Gt:=fun b:Heap=>qX (P:=iM) (w:=w) (base:=b) Gg.F TW Jb.tc;have Gf:=fun b:Heap=>pD (P:=iM) (w:=w) (base:=b) Gc.F TW Jb.tc;have GRo:=fun b:Heap=>uS (P:=iM) (w:=w) (base:=b) J3 ⟨zr⟩ Jb.tc;have GSp:=fun b:Heap=>uP (P:=iM) (w:=w) (base:=b) J4;have GBw:=fun b:Heap=>uK Je Jb.tc J3 (GRo b) J4 (GSp b) Gc.e_ Gc.b (Gf b);have OV:=fun b:Heap=>uL J7 Jb.tc Je (GBw b) Gg.e_ Gg.b (Gt b);have GBE:=rn Jm Jb.tc Gc.e_ Gc.b (Gf base);have W1:=yD (P:=iM) (w:=w) (base:=base) Jj;have W2:=uW (P:=iM) (w:=w) (base:=base) Jh;have W3:=uQ (P:=iM) (w:=w) (base:=base) Ji;have W4:=uO (P:=iM) (w:=w) (base:=base) Jk ⟨zm⟩;have W5:=vb (P:=iM) (w:=w) (base:=base) Jf ⟨zm⟩;have W6:=rj (P:=iM) (w:=w) (base:=base) Jg ⟨zm⟩;have GWf:=n6 J9 TU Jj W1 Jh W2 Ji W3 Jk W4 Jf W5 Jg W6;have GBa:=va (P:=iM) (w:=w) (base:=base) Jd;have GNw:=uV (P:=iM) (w:=w) (base:=base) Gq.F Ja.tc;have WW:=uN Gs.F Ja.tc Gq.e_ Gq.b GNw Jd GBa;have WX:=uZ Gj.F Ja.tc Gs.e_ Gs.b WW J9 GWf;have GKn:=rd (P:=iM) (w:=w) (base:=base) Gr.F Ja.tc;have WV:=pz (P:=iM) (w:=w) (base:=base) Gu.F Ja.tc;have GFw:=lK Gn.F Ja.tc Gj.e_ Gj.b WX Gu.e_ Gu.b WV;have GFt:=nz Gm.F Ja.tc Gj.e_ Gj.b WX Gu.e_ Gu.b WV Gr.e_ Gr.b GKn;have GDa:=n9 Gk.F Ja.tc Gm.e_ Gm.b GFt Gn.e_ Gn.b GFw;have GCi:=rm Gp.F Ja.tc Jb.tc Gs.e_ Gs.b WW Jm GBE J7 (OV base);have GBd:=u_ (P:=iM) (w:=w) (base:=base) Gi.F Ja.tc zs;have GNn:=pA (P:=iM) (w:=w) (base:=base) J0 zr zs;have GPu:=nq J1 zl zt J0 GNn;have GIt:=pC (P:=iM) (w:=w) (base:=base) Jo;have GKe:=uX Jp Ja.tc ⟨Ja.LS,Gp.a,Gp.i,Ja.kc⟩ Ja.g Gp.b GCi Gk.e_ Gk.b GDa Gi.e_ Gi.b GBd J1 GPu Jo GIt;have GNT:=fun b:Heap=>yF (P:=iM) (w:=w) (base:=b) FI TE;have GRi:=fun b:Heap=>uT (P:=iM) (w:=w) (base:=b) J2 TE;have GE:=fun b:Heap=>rh Jl TE bI (GNT b) J2 (GRi b);have GOw:=fun b:Heap=>yE (P:=iM) (w:=w) (base:=b) Ge.F zr Jb.tc;have GWb:=fun b:Heap=>qU Gb zr TE.list Jb.tc J7 (OV b) Gc.e_ Gc.b (Gf b);have GFx:=fun b:Heap=>rf Jn zr Jb.tc Jl (GE b) Gb (GWb b) Ge.e_ Ge.b (GOw b);have GTa:=fun b:Heap=>qY (P:=iM) (w:=w) (base:=b) J6 ⟨zr,TE.list,zm⟩ Jb.tc;have GTi:=fun b:Heap=>qW J5 Jb.tc J7 (OV b) Jl (GE b) J6 (GTa b);have GO:=fun b:Heap=>px (P:=iM) (w:=w) (base:=b) (k:=6) (y:="_law_some") Jv TE.C7 OD;exact yG Jq zG (PySem.W.codeHd_of_K kb sf) bm Jb.tc Jt GN Jw GW ⟨Jb.LS,Gd.a,Gd.i,Jb.kc⟩ Gd.b GI Jp GKe Jn GFx J5 GTi Jv GO
