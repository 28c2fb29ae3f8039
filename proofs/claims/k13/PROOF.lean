import PyProof.Rows.All
import Wide.All
import OpenK.AllK
import Wide.FinOn
import Lean
import PyProof.EqAt
import PyProof.EqKinds
import PyProof.TupleCall
import PySem.Challenge.RW_momentties_k13_rules_hold
import KE.KTabLook
import PyProof.DictWalks
import PyProof.Rows.DictUnroll
import PyProof.Rows.SortShell
import PyProof.CollectWalk
import PyProof.DictTruth
import KE.KSortTup
import KE.LcSums
noncomputable abbrev jD := @Int.le_trans
noncomputable abbrev lV := @List.mem_append_left
noncomputable abbrev pW := @Array.toList_append
noncomputable abbrev Mh := @List.length_drop
noncomputable abbrev pV := @Nat.le_succ
noncomputable abbrev gm := @Int.le_of_lt
noncomputable abbrev ot := @Int.toNat_of_nonneg
noncomputable abbrev rJ := @PySem.mem_of_lookup
noncomputable abbrev Ts := @List.length_eq_zero_iff
noncomputable abbrev rH := @Array.length_toList
noncomputable abbrev bp := @Ne.symm
noncomputable abbrev uS := @List.mem_iff_getElem?
noncomputable abbrev zU := @PySem.boot_len
noncomputable abbrev uR := @PySem.W.mg_none_of
noncomputable abbrev aj := @PySem.wpAny_bind
noncomputable abbrev bz := @PySem.wpAny_pure
noncomputable abbrev pU := @PySem.F.plainAttrs_list
noncomputable abbrev pT := @PySem.F.slot_list_append
noncomputable abbrev rG := @PySem.F.type_list_append
noncomputable abbrev a7 := @List.length_map
noncomputable abbrev ff := @List.getElem?_eq_some_iff
noncomputable abbrev aF := @Nat.le_refl
noncomputable abbrev iR := @List.getElem?_eq_getElem
noncomputable abbrev eI := @PySem.Heap.get?_push_of_some
noncomputable abbrev g8 := @Classical.byContradiction
noncomputable abbrev dt := @List.getElem?_map
noncomputable abbrev dZ := @List.mem_of_getElem?
noncomputable abbrev iw := @List.size_toArray
noncomputable abbrev gR := @List.length_append
noncomputable abbrev jl := @List.mem_cons_of_mem
noncomputable abbrev iu := @List.mem_cons_self
noncomputable abbrev eR := @Bool.false_ne_true
noncomputable abbrev gn := @Option.some.inj
noncomputable abbrev gI := @List.lookup_cons
noncomputable abbrev eJ := @List.map_append
noncomputable abbrev dM := @Nat.zero_le
noncomputable abbrev bx := @Nat.le_of_lt
noncomputable abbrev eg := @PySem.Heap.lt_size
noncomputable abbrev jw := @List.mem_singleton
noncomputable abbrev iJ := @List.mem_cons
noncomputable abbrev fU := @List.map_cons
noncomputable abbrev dY := @Nat.le_trans
noncomputable abbrev jI := @PySem.Heap.get?_push_size
noncomputable abbrev ir := @List.take_length
noncomputable abbrev gG := @Nat.ne_of_lt
noncomputable abbrev oY := @List.getElem?_append_right
noncomputable abbrev iA := @List.length_take
noncomputable abbrev jv := @Nat.lt_of_lt_of_le
noncomputable abbrev ng := @List.mem_append_right
noncomputable abbrev kJ := @List.mem_append
noncomputable abbrev lT := @List.length_cons
noncomputable abbrev pR := @List.getElem?_append_left
noncomputable abbrev gF := @List.mem_map
noncomputable abbrev GQ := @List.getElem_of_mem
noncomputable abbrev C7 := @List.pairwise_iff_getElem
noncomputable abbrev jC := @List.take_succ
noncomputable abbrev GJ := @List.length_replicate
noncomputable abbrev rD := @List.all_eq_true
noncomputable abbrev lS := @Int.toNat_natCast
noncomputable abbrev ju := @decide_eq_true_eq
noncomputable abbrev uQ := @List.getD_eq_getElem?_getD
noncomputable abbrev pS := @Nat.lt_irrefl
noncomputable abbrev zT := @List.getElem_mem
noncomputable abbrev lU := @Nat.le_of_not_lt
noncomputable abbrev sQ := @Nat.not_lt_zero
noncomputable abbrev rE := @beq_self_eq_true
noncomputable abbrev eQ := @decide_eq_true
noncomputable abbrev eP := @decide_eq_false
noncomputable abbrev aL := PySem.W.Frag
noncomputable abbrev iq := PySem.Challenge.rw_momentties_k13_rules_hold.prog
noncomputable section
variable {P:PySem.Program} {w:PySem.World} {K:aL} {mg:PySem.Str->Option PySem.Value} {base:PySem.Heap}
set_option Elab.async false
set_option linter.all false
set_option maxRecDepth 100000
namespace L2
open PySem PySem.Spec PyProof.Rows
noncomputable abbrev Az (C:Addr) (dx:Option Addr) (t tb:Value):Obj:={ cls:=.ref C,dict:=dx,data:=.fields #[t,tb,.none,.none,.bool false,.none] }
noncomputable def Hd (A:Around) (h:Heap):Prop:=A.handled=none\/∃(a C:Addr) (dx:Option Addr) (t tb:Value),A.handled=some (.ref a)/\h.get? a=some (Az C dx t tb)
theorem Yv:entryFor table "proto.unchain"=some Builtin.«proto.unchain»:=entryFor_of_tree (by kernel_rfl)
section
variable {prog:Program} {w:World} {A:Around} {E:Value->Shared->Prop} {s:Shared}
theorem Hd.keep (q:Hd A h) (k:∀b C dx t tb,h.get? b=some (Az C dx t tb)->h'.get? b=some (Az C dx t tb)):Hd A h':=by
 rcases q with q | ⟨a,C,dx,t,tb,q,e⟩
 ·exact .inl q
 ·exact .inr ⟨a,C,dx,t,tb,q,k a C dx t tb e⟩
theorem Xf (q:Hd A s.heap) (he:s.heap.get? e=some oe) (hc:∃n,oe.cls=.type n) (hd:oe.data=.fields vs) (hz:2<vs.size)
 (h:∀h',Heap.SameBut e s.heap h'->(∃o,h'.get? e=some o/\o.cls=oe.cls)->E (.ref e) { s with heap:=h' }):wpAny (model prog w) A (raiseNew (.ref e):Sem α) Q E s:=by
 unfold raiseNew;refine aj (wpAny_handled ?_);rcases q with q | ⟨a,C,dx,t,tb,q,ea⟩
 ·rw [q];exact aj (bz (wpAny_throw (h s.heap (Heap.SameBut.refl ..) ⟨oe,he,rfl⟩)))
 ·rw [q];have ne:a≠e:=fun z=>by
   rw [z,he] at ea;obtain ⟨n,hn⟩:=hc;rw [gn ea] at hn;cases hn
  dsimp only;rw [if_pos (show (Value.ref a !=Value.ref e)=true by simp [ne])];refine aj (wpAny_holding (wpAny_runValue (codeAny_builtin Yv ?_)));show wpAny _ _ (field (.ref a) 2>>=_) _ _ s;refine aj (wpAny_field ea rfl (x:=.none) rfl ?_);rw [if_pos (by rfl)];refine aj (bz (bz ?_));refine aj (wpAny_setField (a:=e) he hd hz ?_);exact wpAny_throw (h _ (Heap.SameBut.update ..) ⟨_,Heap.get?_update_self _ he (Obj.isFreed_of_fields (Obj.data_mapFields hd _)),Obj.cls_mapFields ..⟩)
theorem DB (q:Hd A s.heap)
 (h:∀e h',(∀b o,s.heap.get? b=some o->h'.get? b=some o)->(∃o,h'.get? e=some o/\o.cls=.type "StopIteration")->E (.ref e) { s with heap:=h' }):
 wpAny (model prog w) A (newExc (.type "StopIteration") []>>=fun x=>(raiseNew x:Sem α)) Q E s:=by
 refine aj ?_;unfold newExc newTuple;refine aj (wpAny_newObj_type ?_ (by size_fits));refine aj (wpAny_of_eq (a:=Value.none) (by first | rfl | (simp only [firstArgMember];rfl)) ?_);refine wpAny_newObj_type ?_ (by size_fits);refine Xf (q.keep fun b C dx t tb e=>eI _ (eI _ e)) (jI _ rfl) ⟨_,rfl⟩ rfl (by simp;exact bx (Nat.le_add_left (Nat.succ 2).succ 2)) fun h' sb ⟨o,eo,ec⟩=>?_;refine h _ h' (fun b o' e=>?_) ⟨o,eo,ec⟩;have e1:=eI (h:=s.heap) { cls:=.type "tuple",data:=.seq ([]:List Value).toArray } e;exact (sb.2 b (gG (eg e1))).trans (eI _ e1)
theorem Dx {it:Addr} {s0:Shared} {e:Addr} {h':Heap} {Q:Option Value->Shared->Prop} (k:∀b o,b≠it->s0.heap.get? b=some o->h'.get? b=some o) (t:∃o,h'.get? e=some o/\o.cls=.type "StopIteration") (hQ:∀h',Heap.ExtBut it s0.heap h'->Q none { s0 with heap:=h' }):
 wpAny (model prog w) A (isInstance (.ref e) (.type "StopIteration")) (fun b s'=>b=true/\Q none s') E { s0 with heap:=h' }:=by
 obtain ⟨o,e1,e2⟩:=t;exact wpAny_isInstance (T:="StopIteration") (b:=true) ⟨o,e1,e2⟩ isSubtype_stop ⟨rfl,hQ h' fun b u hb e=>k b u hb e⟩
theorem Ye {it l:Addr} {i:Nat} {items:Array Value} {Q:Option Value->Shared->Prop} (q:Hd A s.heap) (st:s.heap.IsListIter it l i) (hl:s.heap.IsList l items) (hx:items[i]?=none)
 (hQ:∀h',Heap.ExtBut it s.heap h'->Q none { s with heap:=h' }):wpAny (model prog w) A (pyNext (.ref it)) Q E s:=by
 obtain ⟨u,hu,cu,du⟩:=id st;obtain ⟨v,hv,_,nv,dv⟩:=hl;unfold pyNext;refine aj (wpAny_attempt (wpAny_callSpecial?_slot (name:=Str.ofString "__next__") st.typeIs slot_listiter_next (wpAny_call_entry slot_listiter_next st.typeIs entry_listiter_next ?_ (args_listiter_next _))));show wpAny _ _ (field (.ref it) 0>>=_) _ _ s;refine aj (wpAny_field hu du (x:=.ref l) rfl ?_);rw [if_neg (show ¬((Value.ref l==Value.none)=true) from eR)];refine aj (wpAny_field hu du (x:=.int i 0) rfl (aj (wpAny_seqItems hv dv ?_)));simp only [lS,hx];refine aj (wpAny_rule (aj (wpAny_setField hu du (by simp) ?_)));have other:∀b o,b≠it->s.heap.get? b=some o->(s.heap.update it (Obj.mapFields (·.setIfInBounds 0 Value.none))).get? b=some o:=fun b o hb e=>(Heap.get?_update_other _ _ (bp hb)).trans e;refine DB (A:=A.in1) (s:={ s with heap:=s.heap.update it (Obj.mapFields (·.setIfInBounds 0 Value.none)) }) (Hd.keep (A:=A.in1) q fun b C dx t tb e=>other b _ (fun z=>?_) e) fun e h' kk te=>?_
 ·rw [z,hu] at e;cases e;cases cu
 ·refine aj (wpAny_mono (Dx (s0:=s) (fun b o hb z=>kk b o (other b o hb z)) te hQ) (fun b s' z=>?_) fun _ _ z=>z);obtain ⟨rfl,z⟩:=z;exact bz z
theorem QH {it:Addr} {x left step:Int} {Q:Option Value->Shared->Prop} (q:Hd A s.heap) (st:IsRangeIter s.heap it x left step) (hz:left<=0)
 (hQ:∀h',Heap.ExtBut it s.heap h'->Q none { s with heap:=h' }):wpAny (model prog w) A (pyNext (.ref it)) Q E s:=by
 have ty:s.TypeIs (.ref it) "range_iterator":=⟨_,st,rfl⟩;unfold pyNext;refine aj (wpAny_attempt (wpAny_callSpecial?_slot (name:=Str.ofString "__next__") ty F.slot_range_iterator_next (wpAny_call_entry F.slot_range_iterator_next ty F.entry_range_iterator_next ?_ (F.args_range_iterator_next_1 _))));show wpAny _ _ (field (.ref it) 0>>=_) _ _ s;refine aj (wpAny_field st rfl (x:=rawInt x) rfl (aj (wpAny_field st rfl (x:=rawInt left) rfl (aj (wpAny_field st rfl (x:=rawInt step) rfl ?_)))));show wpAny _ _ (if left<=0 then _ else _) _ _ s;rw [if_pos hz];refine aj (wpAny_rule ?_);refine aj ?_;refine DB (A:=A.in1) (s:=s) q fun e h' kk te=>?_;refine aj (wpAny_mono (Dx (s0:=s) (fun b o _ z=>kk b o z) te hQ) (fun b s' z=>?_) fun _ _ z=>z);obtain ⟨rfl,z⟩:=z;exact bz z
theorem QB {it t:Addr} {i:Nat} {items:Array Value} {Q:Option Value->Shared->Prop} (q:Hd A s.heap) (st:IsTupIter s.heap it t i) (hl:IsTup s.heap t items) (hx:items[i]?=none)
 (hQ:∀h',Heap.ExtBut it s.heap h'->Q none { s with heap:=h' }):wpAny (model prog w) A (pyNext (.ref it)) Q E s:=by
 obtain ⟨u,hu,cu,du⟩:=id st;obtain ⟨v,hv,_,nv,dv⟩:=hl;unfold pyNext;refine aj (wpAny_attempt (wpAny_callSpecial?_slot (name:=Str.ofString "__next__") st.typeIs slot_tupleiter_next (wpAny_call_entry slot_tupleiter_next st.typeIs entry_tupleiter_next ?_ (args_tupleiter_next _))));show wpAny _ _ (field (.ref it) 0>>=_) _ _ s;refine aj (wpAny_field hu du (x:=.ref t) rfl ?_);rw [if_neg (show ¬((Value.ref t==Value.none)=true) from eR)];refine aj (wpAny_field hu du (x:=.int i 0) rfl (aj (wpAny_seqItems hv dv ?_)));simp only [lS,hx];refine aj (wpAny_rule (aj (wpAny_setField hu du (by simp) ?_)));have other:∀b o,b≠it->s.heap.get? b=some o->(s.heap.update it (Obj.mapFields (·.setIfInBounds 0 Value.none))).get? b=some o:=fun b o hb e=>(Heap.get?_update_other _ _ (bp hb)).trans e;refine DB (A:=A.in1) (s:={ s with heap:=s.heap.update it (Obj.mapFields (·.setIfInBounds 0 Value.none)) }) (Hd.keep (A:=A.in1) q fun b C dx tt tb e=>other b _ (fun z=>?_) e) fun e h' kk te=>?_
 ·rw [z,hu] at e;cases e;cases cu
 ·refine aj (wpAny_mono (Dx (s0:=s) (fun b o hb z=>kk b o (other b o hb z)) te hQ) (fun b s' z=>?_) fun _ _ z=>z);obtain ⟨rfl,z⟩:=z;exact bz z
theorem X9 (q:Hd A s.heap) (ht:IsTup s.heap t items) (hn:targets.length=items.size) (oQ:targets.findIdx? (·.1)=none)
 (h:∀h',Heap.ExtBut s.heap.objs.size s.heap h'->wpAny (model prog w) A (assignInOrder (targets.map (·.2)) items.toList) Q E { s with heap:=h' }):wpAny (model prog w) A (unpack (.ref t) targets) Q E s:=by
 have aW:t≠s.heap.objs.size:=by obtain ⟨o,ho,_⟩:=ht;exact gG (eg ho)
 unfold unpack;rw [hn,oQ];refine aj (wpAny_holding ?_);unfold unpackItems notIterableAtAll;refine aj (aj (wpAny_specialOf ht.typeIs slot_tuple_iter.lookup (bz ?_)));simp only [Bool.false_eq_true,if_false];refine aj (wpAny_holding (iter_tuple ht ?_));refine aj (wpAny_holding (draw_tuple aW items.size 0 _ _ ⟨_,jI _ rfl,rfl,rfl⟩ (ht.push _) (by lia) fun eG A_ qp=>?_));have all:List.take items.size (List.drop 0 items.toList)=items.toList:=by rw [List.drop_zero];exact List.take_of_length_le (by simp)
 rw [all,if_neg (by simp)];have Bu:IsTup eG t items:=(ht.push _).extBut qp.extBut aW;refine aj (wpAny_holding (QB (s:={ s with heap:=eG }) (Hd.keep q fun b C dx tt tb e=>(qp.2 b (gG (eg e))).trans (eI _ e)) A_ Bu (by simp) fun ja k₂=>?_));simp only [Option.isSome_none,Bool.false_eq_true,if_false];exact bz (h ja fun b o hb e=>k₂ b o hb (qp.extBut b o hb (eI _ e)))
theorem Yz {lo:Int} {i n:Nat} (hi:i<n) (st:IsRangeIter s.heap it (lo+(i:Nat)*1) ((n:Int)-(i:Nat)) 1)
 (hQ:∀(t:Tok) h' tk,IsRangeIter h' it (lo+((i+1:Nat):Int)*1) ((n:Int)-((i+1:Nat):Int)) 1->(∀b o,b∉[it]->s.heap.get? b=some o->h'.get? b=some o)->Q (some (.int (lo+(i:Nat)*1) t)) { s with heap:=h',toks:=tk }):
 wpAny (model prog w) A (pyNext (.ref it)) Q E s:=by
 refine wpAny_pyNext_range_item st (by lia) fun h' af sb=>?_;refine hQ _ h' _ ?_ fun b o hb e=>sb.extBut b o (fun z=>hb (by simp [z])) e;have e1:lo+((i+1:Nat):Int)*1=lo+(i:Int)*1+1:=by lia
 have e2:(n:Int)-((i+1:Nat):Int)=(n:Int)-(i:Int)-1:=by lia
 rw [e1,e2];exact af
end
noncomputable abbrev Key:=Sum Int Str
noncomputable def va:Key->Value->Bool
 | .inl k,v=>Value.isInt k v
 | .inr x,v=>Value.isStrOf x v
noncomputable def YD (w:World):Key->Int
 | .inl k=>hashInt k
 | .inr x=>hashStr w x
theorem qk:∀{k:Key} {v:Value},va k v=true->(∃i t,k=Sum.inl i/\v=Value.int i t)\/(∃x t,k=Sum.inr x/\v=Value.str x t)
 | .inl i,v,h=>by
  obtain ⟨t,e⟩:=Value.isInt_shape (k:=i) (v:=v) h;exact .inl ⟨i,t,rfl,e⟩
 | .inr x,v,h=>by
  obtain ⟨t,e⟩:=Value.isStrOf_shape (x:=x) (v:=v) h;exact .inr ⟨x,t,rfl,e⟩
theorem Xr (i:Int) (t:Tok):va (.inl i) (.int i t)=true:=by simp [va,Value.isInt]
theorem Xs (x:Str) (t:Tok):va (.inr x) (.str x t)=true:=by simp [va,Value.isStrOf]
theorem UT (a b:Int):decide ((Sum.inl a:Key)=Sum.inl b)=(a==b):=by
 by_cases e:a=b
 ·subst e;simp
 ·have h:¬(Sum.inl a:Key)=Sum.inl b:=fun q=>e (Sum.inl.inj q);rw [eP h];exact (beq_eq_false_iff_ne.mpr e).symm
theorem UX (a b:Str):decide ((Sum.inr a:Key)=Sum.inr b)=decide (a=b):=by
 by_cases e:a=b
 ·subst e;simp
 ·have h:¬(Sum.inr a:Key)=Sum.inr b:=fun q=>e (Sum.inr.inj q);rw [eP h,eP e]
theorem UU (a:Int) (b:Str):decide ((Sum.inl a:Key)=Sum.inr b)=false:=eP nofun
theorem UW (a:Str) (b:Int):decide ((Sum.inr a:Key)=Sum.inl b)=false:=eP nofun
noncomputable def lK (prog:Program) (w:World):PySem.KeyKind prog w Key where
 is:=va
 hash:=YD w
 inj:=fun v a b ha hb=>by
  rcases qk ha with ⟨i,t,rfl,rfl⟩ | ⟨x,t,rfl,rfl⟩
  ·rcases qk hb with ⟨j,u,rfl,e⟩ | ⟨y,u,rfl,e⟩
   ·injection e with e1 _;rw [e1]
   ·exact nomatch e
  ·rcases qk hb with ⟨j,u,rfl,e⟩ | ⟨y,u,rfl,e⟩
   ·exact nomatch e
   ·injection e with e1 _;rw [e1]
 byValue:=fun k v h=>by
  rcases qk h with ⟨i,t,rfl,rfl⟩ | ⟨x,t,rfl,rfl⟩<;>rfl
 pyHash:=fun hv h=>by
  rcases qk hv with ⟨i,t,rfl,rfl⟩ | ⟨x,t,rfl,rfl⟩
  ·exact wpAny_pyHash_int h
  ·exact wpAny_pyHash_str h
 eqBool:=fun hu hv h=>by
  rcases qk hu with ⟨i,t,rfl,rfl⟩ | ⟨x,t,rfl,rfl⟩
  ·rcases qk hv with ⟨j,u,rfl,rfl⟩ | ⟨y,u,rfl,rfl⟩
   ·rw [UT] at h;exact wpAny_eqBool_int h
   ·rw [UU] at h;exact SeqAt.EqAt.int_str i t y u _ _ _ _ h
  ·rcases qk hv with ⟨j,u,rfl,rfl⟩ | ⟨y,u,rfl,rfl⟩
   ·rw [UW] at h;exact SeqAt.EqAt.str_int x t j u _ _ _ _ h
   ·rw [UX] at h;exact wpAny_eqBool_str h
 «strs»:=fun k x t v h=>by
  rcases qk h with ⟨i,u,rfl,e⟩ | ⟨y,u,rfl,e⟩
  ·exact nomatch e
  ·injection e with e1 _
   subst e1;cases v<;>rfl
theorem Yf (prog:Program) (w:World) (i:Int) (t:Tok):(lK prog w).is (.inl i) (.int i t)=true:=Xr i t
theorem Yg (prog:Program) (w:World) (x:Str) (t:Tok):(lK prog w).is (.inr x) (.str x t)=true:=Xs x t
inductive V where
 | bf | bl (b:Bool) | int (i:Int) | str (x:Str) | oX (b:Array UInt8) | Cc (b:UInt64) | ref (a:Addr) | ty (n:String)
 deriving DecidableEq
noncomputable def cx:V->Value->Prop
 | .bf,u=>u=Value.none
 | .bl b,u=>u=Value.bool b
 | .int i,u=>∃t,u=Value.int i t
 | .str x,u=>∃t,u=Value.str x t
 | .oX b,u=>∃t,u=Value.bytes b t
 | .Cc b,u=>∃t,u=Value.float b t
 | .ref a,u=>u=Value.ref a
 | .ty n,u=>u=Value.type n
noncomputable abbrev bw:List V->List Value->Prop:=Paired cx
theorem bw.length (r:bw xs us):xs.length=us.length:=Paired.length r
theorem bw.get:∀{xs:List V} {us:List Value} {i:Nat} {x:V},bw xs us->xs[i]?=some x->∃u,us[i]?=some u/\cx x u
 | _,_,_,_,.nil,e=>by simp at e
 | _,_,0,_,.cons r _,e=>by simp at e;subst e;exact ⟨_,rfl,r⟩
 | _,_,i+1,x,.cons _ t,e=>by
  obtain ⟨u,h1,h2⟩:=bw.get (i:=i) (x:=x) t (by simpa using e);exact ⟨u,by simpa using h1,h2⟩
theorem bw.set (r:cx x u):∀{xs:List V} {us:List Value} (i:Nat),bw xs us->bw (xs.set i x) (us.set i u)
 | _,_,_,.nil=>.nil
 | _,_,0,.cons _ t=>.cons r t
 | _,_,i+1,.cons q t=>.cons q (bw.set r i t)
theorem bw.append {xs ys:List V} {us ws:List Value} (h:bw xs us) (s:bw ys ws):bw (xs++ys) (us++ws):=by
 induction h with
 | nil=>exact s
 | cons r t ih=>exact .cons r ih
theorem bw.take:∀{xs:List V} {us:List Value} (n:Nat),bw xs us->bw (xs.take n) (us.take n)
 | _,_,0,_=>.nil
 | _,_,_+1,.nil=>.nil
 | _,_,n+1,.cons r t=>.cons r (bw.take n t)
theorem bw.drop:∀{xs:List V} {us:List Value} (n:Nat),bw xs us->bw (xs.drop n) (us.drop n)
 | _,_,0,r=>r
 | _,_,_+1,.nil=>.nil
 | _,_,n+1,.cons _ t=>bw.drop n t
noncomputable def lE:Option V->Option Value->Prop
 | some v,some u=>cx v u
 | none,none=>True
 | _,_=>False
noncomputable def KV {κ:Type}:List (κ×V)->List (κ×Value)->Prop:=Paired fun (p:κ×V) (q:κ×Value)=>p.1=q.1/\cx p.2 q.2
noncomputable def kV:Key->V
 | .inl i=>.int i
 | .inr x=>.str x
inductive HO where
 | lst (xs:List V)
 | tup (xs:List V)
 | dK (kvs:List (Key×V)) | dT (kvs:List (List Key×V))
 | set (S:Int->Bool) (n:Nat)
 | ins (C dx:Addr) (fs:List (Str×V))
 | own (x:Addr)
 | xd (fs:List (Str×V))
 | met (f x:Addr)
 | JT (lo hi:Int)
 | dB (o:Obj) (u:HO)
 | xi (ps:Array Value)
 | ext (φ:Heap->Prop)
noncomputable abbrev Hp:=Addr->Option HO
noncomputable def upd (H:Hp) (a:Addr) (o:HO):Hp:=fun b=>if b=a then some o else H b
theorem aq:upd H a o a=some o:=by unfold upd;rw [if_pos rfl]
theorem au (h:b≠a):upd H a o b=H b:=by unfold upd;rw [if_neg h]
theorem H_:upd (upd H a o) a u=upd H a u:=by
 funext b;unfold upd;split<;>rfl
theorem aQ {H:Hp} {a b:Addr} {o u:HO} (h:H a=some o) (h':H b=some u) (d:o≠u):a≠b:=by
 intro e;subst e;rw [h] at h';exact d (gn h')
theorem aO {H:Hp} {a b:Addr} {o:HO} (h:H a=some o) (h':H b=none):a≠b:=by
 intro e;subst e;rw [h] at h';cases h'
section
variable (P:Program) (w:World)
noncomputable def fv (H:Hp) (h:Heap) (a:Addr):HO->Prop
 | .lst xs=>xs.length<=sizeLine/\∃(its:List Value) (n:Nat),bw xs its/\h.get? a=some { cls:=.type "list",data:=.seq its.toArray n }
 | .tup xs=>xs.length<=sizeLine/\∃its:List Value,bw xs its/\IsTup h a its.toArray
 | .dK kvs=>kvs.length<=sizeLine/\(a==sysModules)=false/\∃vs,KV kvs vs/\h.DictOf (lK P w) a vs
 | .dT kvs=>kvs.length<=sizeLine/\(a==sysModules)=false/\∃xs:List (List Key×Addr×Value),
  Paired (fun (p:List Key×V) (q:List Key×Addr×Value)=>p.1=q.1/\H q.2.1=some (.tup (p.1.map kV))/\cx p.2 q.2.2) kvs xs/\
  ∃o es ep,h.get? a=some o/\o.ExactDict/\o.data=.dict es ep/\es.toList=xs.map (entryOfKey (tupleKind (lK P w)))/\(xs.map (·.1)).Nodup
 | .set S n=>h.SetOf (intKind P w) a S n
 | .ins C dx fs=>H dx=some (.own a)/\fs.length<=1000/\dx≠a/\h.get? a=some (PySem.W.instObj C dx)/\
  ∃mA,h.Ns1 dx mA/\(∀f,lE (fs.lookup f) (mA f))/\PySem.Within mA (fs.map (·.1))
 | .own _=>∃o,h.get? a=some o
 | .xd fs=>∃mA,h.Ns1 a mA/\∀f,lE (fs.lookup f) (mA f)
 | .JT lo hi=>∃t u v,h.get? a=some { cls:=.type "range",data:=.fields #[.int lo t,.int hi u,.int 1 v] }
 | .dB o u=>h.get? a=some o/\fv H h a u
 | .xi ps=>h.get? a=some { cls:=.none,data:=.fields ps }
 | .met f x=>h.get? a=some (PySem.W.methodObj (.ref f) (.ref x))
 | .ext φ=>φ h/\(∃o,h.get? a=some o)/\∀h1 h2:Heap,φ h1->(∀o,h1.get? a=some o->h2.get? a=some o)->φ h2
noncomputable def d_ (H:Hp) (h:Heap):Prop:=∀a o,H a=some o->fv P w H h a o
end
section
variable {P:Program} {w:World} {H H':Hp} {h h':Heap} {a:Addr} {o:HO}
theorem fv.lt (x:fv P w H h a o):a<h.objs.size:=by
 cases o with
 | lst xs=>obtain ⟨_,_,_,_,e⟩:=x;exact eg e
 | tup xs=>obtain ⟨_,_,_,p⟩:=x;exact p.lt
 | dK kvs=>obtain ⟨_,_,_,_,o,_,_,e,_⟩:=x;exact eg e
 | dT kvs=>obtain ⟨_,_,_,_,o,_,_,e,_⟩:=x;exact eg e
 | set S n=>obtain ⟨o,_,_,_,e,_⟩:=x;exact eg e
 | ins C dx fs=>obtain ⟨_,_,_,e,_⟩:=x;exact eg e
 | own y=>obtain ⟨_,e⟩:=x;exact eg e
 | xd fs=>obtain ⟨_,⟨_,_,_,e,_⟩,_⟩:=x;exact eg e
 | JT lo hi=>obtain ⟨_,_,_,e⟩:=x;exact eg e
 | dB ob u=>obtain ⟨e,_⟩:=x;exact eg e
 | xi ps=>exact eg (show h.get? a=some _ from x)
 | met f y=>exact eg (show h.get? a=some _ from x)
 | ext φ=>obtain ⟨_,⟨_,e⟩,_⟩:=x;exact eg e
theorem Paired.xF {l₁:List α} {l₂:List β} (h:Paired F l₁ l₂) (f:∀a b,F a b->G a b):Paired G l₁ l₂:=by
 induction h with
 | nil=>exact .nil
 | cons r t ih=>exact .cons (f _ _ r) ih
theorem fv.gw (x:fv P w H h a o) (k:∀b u,(b=a\/H b=some (.own a))->h.get? b=some u->h'.get? b=some u)
 (ho:∀b,H b=some (.own a)->H' b=some (.own a)) (ht:∀b xs,H b=some (.tup xs)->H' b=some (.tup xs)):fv P w H' h' a o:=by
 induction o with
 | lst xs=>obtain ⟨z,its,n,r,e⟩:=x;exact ⟨z,its,n,r,k _ _ (.inl rfl) e⟩
 | tup xs=>obtain ⟨z,its,r,ob,e,c⟩:=x;exact ⟨z,its,r,ob,k _ _ (.inl rfl) e,c⟩
 | dK kvs=>obtain ⟨z,y,vs,r,ob,es,ep,e,c⟩:=x;exact ⟨z,y,vs,r,ob,es,ep,k _ _ (.inl rfl) e,c⟩
 | dT kvs=>
  obtain ⟨z,y,xs,r,ob,es,ep,e,c⟩:=x;exact ⟨z,y,xs,Paired.xF r fun p q z=>⟨z.1,ht _ _ z.2.1,z.2.2⟩,ob,es,ep,k _ _ (.inl rfl) e,c⟩
 | set S n=>obtain ⟨ob,es,ep,t,e,c⟩:=x;exact ⟨ob,es,ep,t,k _ _ (.inl rfl) e,c⟩
 | ins C dx fs=>
  obtain ⟨d,z,ne,e,mA,⟨od,es,ep,e2,c⟩,r⟩:=x;exact ⟨ho _ d,z,ne,k _ _ (.inl rfl) e,mA,⟨od,es,ep,k _ _ (.inr d) e2,c⟩,r⟩
 | own y=>obtain ⟨ob,e⟩:=x;exact ⟨ob,k _ _ (.inl rfl) e⟩
 | xd fs=>obtain ⟨mA,⟨od,es,ep,e,c⟩,r⟩:=x;exact ⟨mA,⟨od,es,ep,k _ _ (.inl rfl) e,c⟩,r⟩
 | JT lo hi=>obtain ⟨t,u,v,e⟩:=x;exact ⟨t,u,v,k _ _ (.inl rfl) e⟩
 | dB ob u ih=>obtain ⟨e,q⟩:=x;exact ⟨k _ _ (.inl rfl) e,ih q⟩
 | xi ps=>
  have e:h.get? a=some { cls:=.none,data:=.fields ps }:=x;show h'.get? a=some { cls:=.none,data:=.fields ps };exact k a _ (.inl rfl) e
 | met f y=>
  have e:h.get? a=some (PySem.W.methodObj (.ref f) (.ref y)):=x;show h'.get? a=some (PySem.W.methodObj (.ref f) (.ref y));exact k a _ (.inl rfl) e
 | ext φ=>obtain ⟨p,⟨o,e⟩,st⟩:=x;exact ⟨st _ _ p fun o q=>k _ _ (.inl rfl) q,⟨o,k _ _ (.inl rfl) e⟩,st⟩
theorem d_.lt (x:d_ P w H h) (e:H a=some o):a<h.objs.size:=(x a o e).lt
theorem d_.fresh (x:d_ P w H h) (e:h.objs.size<=a):H a=none:=by
 cases q:H a with
 | none=>rfl
 | some u=>exact absurd (jv (x.lt q) e) (pS _)
theorem d_.kept (x:d_ P w H h) (k:∀b u,h.get? b=some u->h'.get? b=some u):d_ P w H h':=fun a o e=>
 (x a o e).gw (fun b u _ q=>k b u q) (fun _ q=>q) fun _ _ q=>q
theorem d_.laid (x:d_ P w H h) (k:∀b u,h.get? b=some u->h'.get? b=some u) (hp:h.objs.size<=a) (new:fv P w (upd H a o) h' a o):d_ P w (upd H a o) h':=fun b u e=>by
 have hn:=x.fresh hp
 by_cases hb:b=a
 ·subst hb;rw [aq] at e;cases e;exact new
 ·rw [au hb] at e;exact (x b u e).gw (fun c v _ q=>k c v q) (fun c q=>by rw [au (aO q hn)];exact q) fun c xs q=>by rw [au (aO q hn)];exact q
end
noncomputable def Rd (H:Hp) (a:Addr) (u:HO):Prop:=H a=some u\/∃o,H a=some (.dB o u)
theorem Rd.ok {P:Program} {w:World} (r:Rd H a u) (x:d_ P w H h):fv P w H h a u:=by
 rcases r with r | ⟨o,r⟩
 ·exact x a u r
 ·obtain ⟨_,q⟩:=x a _ r;exact q
noncomputable def zW:Option HO->Prop
 | some (.lst _)=>True
 | some (.dK _)=>True
 | some (.dT _)=>True
 | some (.set _ _)=>True
 | some (.ins _ _ _)=>True
 | some (.ext _)=>True
 | _=>False
section
variable {P:Program} {w:World} {H:Hp} {h h':Heap} {x e:Addr} {o':HO}
theorem d_.write (ok:d_ P w H h) (mu:zW (H x)) (he:e=x\/H e=some (.own x)) (k:∀b u,b≠e->h.get? b=some u->h'.get? b=some u) (zJ:∃u,h'.get? e=some u)
 (new:fv P w (upd H x o') h' x o'):d_ P w (upd H x o') h':=fun b u q=>by
 have uu:∀c y,H c=some (.own y)->c≠x:=fun c y r z=>by subst z;rw [r] at mu;exact mu
 have xD:∀c xs,H c=some (.tup xs)->c≠x:=fun c xs r z=>by subst z;rw [r] at mu;exact mu
 by_cases hb:b=x
 ·subst hb;rw [aq] at q;cases q;exact new
 ·rw [au hb] at q
  by_cases gY:b=e
  ·have q':H b=some (.own x):=by
    rcases he with z | z
    ·exact absurd (gY.trans z) hb
    ·rw [gY];exact z
   rw [q] at q';cases q';obtain ⟨v,hv⟩:=zJ;exact ⟨v,by rw [gY];exact hv⟩
  ·refine (ok b u q).gw (fun c v hc r=>k c v ?_ r) (fun c r=>by rw [au (uu c b r)];exact r) fun c xs r=>by rw [au (xD c xs r)];exact r
   rcases hc with rfl | hc
   ·exact gY
   ·rintro rfl;rcases he with z | z
    ·exact uu c b hc z
    ·rw [hc] at z;cases z;exact hb rfl
end
structure Un (fs ex:List Addr) (H H':Hp) (h h':Heap):Prop where
 keep:∀b o,h.get? b=some o->H b=none->b∉fs->b∉ex->h'.get? b=some o
 slot:∀b o,h.get? b=some o->H b=none->b∈fs->b∉ex->∃sl,h'.get? b=some { o with slots:=sl }
 free:∀b o,h.get? b=some o->H b=none->b∉ex->H' b=none
 there:∀b o,h.get? b=some o->b∉ex->∃o',h'.get? b=some o'
 iX:∀b xs,H b=some (.tup xs)->H' b=some (.tup xs)
 iI:∀b o u,H b=some (.dB o u)->H' b=some (.dB o u)
 jQ:∀b ps,H b=some (.xi ps)->∃more,H' b=some (.xi (ps++more))
section
variable {fs zO ex FZ:List Addr} {H H1 H2:Hp} {h h1 h2 h':Heap} {a x e:Addr} {o:HO}
theorem Un.any (u:Un fs ex H H1 h h1) (q:h.get? b=some ob) (n:H b=none) (hx:b∉ex):∃sl,h1.get? b=some { ob with slots:=sl }:=by
 by_cases hb:b∈fs
 ·exact u.slot b ob q n hb hx
 ·exact ⟨ob.slots,u.keep b ob q n hb hx⟩
theorem Un.kept (k:∀b u,h.get? b=some u->h'.get? b=some u):Un fs ex H H h h':=
 ⟨fun b ob q _ _ _=>k b ob q,fun b ob q _ _ _=>⟨ob.slots,k b ob q⟩,fun _ _ _ n _=>n,fun b ob q _=>⟨ob,k b ob q⟩,fun _ _ q=>q,fun _ _ _ q=>q,fun _ ps q=>⟨#[],by rw [q];simp⟩⟩
theorem Un.refl:Un fs ex H H h h:=Un.kept fun _ _ q=>q
theorem Un.laid (k:∀b u,h.get? b=some u->h'.get? b=some u) (hp:h.objs.size<=a) (hn:H a=none):Un fs ex H (upd H a o) h h' where
 keep:=fun b u q _ _ _=>k b u q
 slot:=fun b u q _ _ _=>⟨u.slots,k b u q⟩
 free:=fun b u q n _=>by rw [au (gG (jv (eg q) hp))];exact n
 there:=fun b u q _=>⟨u,k b u q⟩
 iX:=fun b xs q=>by rw [au (aO q hn)];exact q
 iI:=fun b u xs q=>by rw [au (aO q hn)];exact q
 jQ:=fun b ps q=>⟨#[],by rw [au (aO q hn),q];simp⟩
theorem Un.write (mu:zW (H x)) (he:e=x\/H e=some (.own x)) (k:∀b u,b≠e->h.get? b=some u->h'.get? b=some u) (zJ:∃u,h'.get? e=some u):Un fs ex H (upd H x o) h h':=by
 have hx:∀b,H b=none->b≠x:=fun b n z=>by subst z;rw [n] at mu;exact mu
 have hb:∀b,H b=none->b≠e:=fun b n z=>by
  subst z;rcases he with r | r
  ·exact hx b n r
  ·rw [n] at r;cases r
 have hm:∀b u,H b=some u->¬zW (some u)->b≠x:=fun b u q nm z=>by subst z;rw [q] at mu;exact nm mu
 refine ⟨fun b u q n _ _=>k b u (hb b n) q,fun b u q n _ _=>⟨u.slots,k b u (hb b n) q⟩,fun b u q n _=>by rw [au (hx b n)];exact n,fun b u q _=>?_,
  fun b xs q=>by rw [au (hm b _ q fun z=>z)];exact q,fun b u xs q=>by rw [au (hm b _ q fun z=>z)];exact q,fun b ps q=>⟨#[],by rw [au (hm b _ q fun z=>z),q];simp⟩⟩
 by_cases gY:b=e
 ·subst gY;exact zJ
 ·exact ⟨u,k b u gY q⟩
end
noncomputable def EO (h:Heap) (H:Hp):List Addr:=(List.range h.objs.size).filter fun a=>(H a).isSome
noncomputable def sW (h:Heap) (H:Hp):Heap:=PySem.W.hideAll h (EO h H)
theorem Xp (h:Heap) (H:Hp):(sW h H).objs.size=h.objs.size:=PySem.W.hideAll_size _ _
theorem Wq (e:h.get? b=some o) (n:H b=none):(sW h H).get? b=some o:=
 PySem.W.hideAll_get _ e fun hm=>by
  have q:(H b).isSome=true:=(List.mem_filter.mp hm).2;rw [n] at q;simp at q
theorem V7 (e:(sW h H).get? b=some o):h.get? b=some o/\H b=none:=by
 have e':h.get? b=some o:=PySem.W.of_hideAll (EO h H) e;refine ⟨e',?_⟩
 cases q:H b with
 | none=>rfl
 | some x=>
  have hm:b∈EO h H:=List.mem_filter.mpr ⟨List.mem_range.mpr (eg e'),by simp [q]⟩;have z:(sW h H).get? b=none:=PySem.W.hideAll_none (EO h H) hm;rw [z] at e;cases e
structure Mod (K:aL) (mg:Str->Option Value) (base:Heap):Prop where
 zC:K.In base
 glob:base.Ns mainGlobals mg
 blt:∃mb,base.Ns builtinsNs mb/\∀x:Str,x≠"__name__"->mb x=bootBuiltins x
 nolimit:base.NoLimit
structure Cx where
 prog:Program
 w:World
 K:aL
 mg:Str->Option Value
 base:Heap
 A:Around
 N:List Str
 c_:Shared
 iK:Hp
 env:Env
 outer:List Env
 stack:List Env
 ex:List Addr
 fn:Str->Bool
 calm:Bool
 pn:List (Addr×Obj)
 xe:Value->Shared->Prop
noncomputable def rm (l:List Env):List Addr:=l.filterMap (·.frame)
noncomputable abbrev Cx.fs (X:Cx):List Addr:=rm X.outer
noncomputable def GU (sc:Scope) (x:Str):Prop:=sc.names.lookup x=some .local\/sc.names.lookup x=some .cell\/sc.names.lookup x=some .free
noncomputable def Loc (sc:Scope) (x:Str):Prop:=sc.names.lookup x=some .local\/sc.names.lookup x=some .cell
noncomputable def Y4 (env:Env) (h:Heap) (m:Str->Option Value) (x:Str) (u:Value):Prop:=
 (env.kindOf x=some .local/\m x=some u)\/((env.kindOf x=some .cell\/env.kindOf x=some .free)/\∃c,env.cells.lookup x=some c/\h.IsCell c (some u))
structure Cx.Ok (X:Cx):Prop where
 mod:Mod X.K X.mg X.base
 kind:X.env.scope.kind=.function
 glob:X.env.globals=mainGlobals
 blt:X.env.builtins=builtinsNs
 above:X.c_.heap.objs.size<=X.env.locals
 inj:∀x y c,X.env.cells.lookup x=some c->X.env.cells.lookup y=some c->x=y
 has:∀x,(X.env.kindOf x=some .cell\/X.env.kindOf x=some .free)->∃c,X.env.cells.lookup x=some c
 Cy:∀x c,X.fn x=true->X.env.cells.lookup x=some c->X.c_.heap.objs.size<=c
 hd:X.calm=true->X.A.handled=none
 frames:X.A.frames=some X.stack
 ET:X.stack=X.outer\/(X.stack=X.env::X.outer/\X.env.frame=some X.env.locals)
 S_:∀b∈X.ex,b≠X.env.locals/\∀x c,X.env.cells.lookup x=some c->c≠b
 bs:∀b o,X.base.get? b=some o->X.c_.heap.get? b=some o/\X.iK b=none
 sO:X.base.objs.size<=X.c_.heap.objs.size
 qI:∀b o,X.base.get? b=some o->b∉X.ex
 uO:∀b∈X.ex,b∉X.fs
 ip:X.c_.heap.FunFrames X.base X.outer
 wj:∀b∈X.fs,X.iK b=none
structure Inv (X:Cx) (pins:List (Addr×Obj)) (σ:List (Option V)) (H:Hp) (s:Shared):Prop where
 ok:X.Ok
 os:s.os=X.c_.os
 bare:AllBare s.gens
 base:Un X.fs X.ex X.iK H X.c_.heap s.heap
 loc:∃m,s.heap.Ns X.env.locals m/\∀(i:Nat) (x:Str) (v:V),X.N[i]?=some x->σ[i]?=some (some v)->GU X.env.scope x->∃u,cx v u/\Y4 X.env s.heap m x u
 cell:∀x c,X.env.cells.lookup x=some c->∃v,s.heap.IsCell c v
 free:H X.env.locals=none
 eN:∀x c,X.env.cells.lookup x=some c->H c=none
 pin:∀p∈X.pn++pins,s.heap.get? p.1=some p.2/\H p.1=none/\p.1≠X.env.locals/\p.1∉X.fs/\∀v,p.2.data≠.cell v
 ae:d_ X.prog X.w H s.heap
 len:σ.length=X.N.length
section
variable {X:Cx} {pins:List (Addr×Obj)} {σ:List (Option V)} {H H':Hp} {s:Shared} {h':Heap}
theorem Cx.Ok.Kc (ok:X.Ok) (e:X.base.get? b=some o):b∉X.fs:=fun hb=>by
 have:=(ok.ip.mem hb).1;rw [e] at this;cases this
theorem Inv.bs (I:Inv X pins σ H s):∀b o,X.base.get? b=some o->s.heap.get? b=some o/\H b=none:=fun b o e=>
 ⟨I.base.keep b o (I.ok.bs b o e).1 (I.ok.bs b o e).2 (I.ok.Kc e) (I.ok.qI b o e),I.base.free b o (I.ok.bs b o e).1 (I.ok.bs b o e).2 (I.ok.qI b o e)⟩
theorem Inv.bk (I:Inv X pins σ H s):∀b o,X.base.get? b=some o->s.heap.get? b=some o:=fun b o e=>(I.bs b o e).1
theorem Inv.mod (I:Inv X pins σ H s):Mod X.K X.mg X.base:=I.ok.mod
theorem Inv.lN (I:Inv X pins σ H s):X.K.In s.heap:=I.ok.mod.zC.keeps I.bk
theorem Inv.lt (I:Inv X pins σ H s):X.env.locals<s.heap.objs.size:=let ⟨_,hn,_⟩:=I.loc;hn.lt
theorem Inv.sz (I:Inv X pins σ H s):X.c_.heap.objs.size<=s.heap.objs.size:=dY I.ok.above (bx I.lt)
theorem Inv.Kb (I:Inv X pins σ H s) (h:s.heap.objs.size<=a):a∉X.fs:=fun hb=>by
 obtain ⟨_,o,ho,_⟩:=I.ok.ip.mem hb;exact absurd (jv (eg ho) (dY I.sz h)) (pS _)
theorem Inv.yE (I:Inv X pins σ H s):∀x c,X.env.cells.lookup x=some c->c≠X.env.locals:=fun x c e z=>by
 obtain ⟨v,o,ho,hd⟩:=I.cell x c e;obtain ⟨m,⟨o',es,ep,jY,uI,_⟩,_⟩:=I.loc;rw [z,jY] at ho;cases ho;rw [uI] at hd;cases hd
theorem Inv.ip (I:Inv X pins σ H s):s.heap.FunFrames X.base X.outer:=by
 have all:∀(l:List Env),(∀b∈rm l,b∈X.fs)->X.c_.heap.FunFrames X.base l->s.heap.FunFrames X.base l:=by
  intro l
  induction l with
  | nil=>intro _ _;trivial
  | cons env r ih=>
   intro hs hl;obtain ⟨hk,⟨L,o,hf,hn,ho,hd⟩,hr⟩:=hl;have hL:L∈X.fs:=hs L (by unfold rm;rw [List.filterMap_cons,hf];exact iu);obtain ⟨sl,e⟩:=I.base.slot L o ho (I.ok.wj L hL) hL fun z=>I.ok.uO L z hL;exact ⟨hk,⟨L,_,hf,hn,e,hd⟩,ih (fun b hb=>hs b (by unfold rm;rw [List.filterMap_cons,hf];exact jl _ hb)) hr⟩
 exact all X.outer (fun _ hb=>hb) I.ok.ip
theorem Inv.stack (I:Inv X pins σ H s):s.heap.FunFrames X.base X.stack:=by
 rcases I.ok.ET with e | ⟨e,hf⟩
 ·rw [e];exact I.ip
 ·rw [e];obtain ⟨m,hn,_⟩:=I.loc;refine .cons (by rw [I.ok.kind];decide) hf hn ?_ I.ip;exact Heap.get?_none_of_le (dY I.ok.sO I.ok.above)
theorem Inv.jR (I:Inv X pins σ H s):∀b∈rm X.stack,b∈X.env.locals::X.fs:=fun b hb=>by
 rcases I.ok.ET with e | ⟨e,hf⟩
 ·rw [e] at hb;exact jl _ hb
 ·rw [e] at hb;unfold rm at hb;rw [List.filterMap_cons,hf] at hb;exact hb
theorem Inv.nP (I:Inv X pins σ H s):∀b∈rm X.stack,H b=none:=fun b hb=>by
 rcases iJ.mp (I.jR b hb) with e | hb
 ·rw [e];exact I.free
 ·obtain ⟨_,o,ho,_⟩:=I.ok.ip.mem hb;exact I.base.free b o ho (I.ok.wj b hb) fun z=>I.ok.uO b z hb
theorem Inv.step {g':Array GenState} {t':Nat} {d':Drawn} {ch:List Addr} (I:Inv X pins σ H s)
 (sE:∀b∈ch,(b∈X.ex\/X.c_.heap.objs.size<=b)/\b≠X.env.locals/\(∀x c,X.env.cells.lookup x=some c->c≠b)/\∀p∈X.pn++pins,p.1≠b)
 (keep:∀b o,b≠X.env.locals->b∉X.fs->b∉ch->s.heap.get? b=some o->H b=none->h'.get? b=some o)
 (slot:∀b o,b≠X.env.locals->b∈X.fs->b∉ch->s.heap.get? b=some o->H b=none->∃sl,h'.get? b=some { o with slots:=sl }) (free:∀b o,b∉ch->s.heap.get? b=some o->H b=none->H' b=none)
 (there:∀b o,b∉ch->s.heap.get? b=some o->∃o',h'.get? b=some o')
 (iX:∀b xs,H b=some (.tup xs)->H' b=some (.tup xs)) (iI:∀b o u,H b=some (.dB o u)->H' b=some (.dB o u)) (jQ:∀b ps,H b=some (.xi ps)->∃more,H' b=some (.xi (ps++more)))
 (ns:∀m,s.heap.Ns X.env.locals m->h'.Ns X.env.locals m) (ae:d_ X.prog X.w H' h') (hg:AllBare g'):
 Inv X pins σ H' { s with heap:=h',gens:=g',drawn:=d',toks:=t' }:=by
 have RM:∀b o,X.c_.heap.get? b=some o->b≠X.env.locals:=fun b o e=>gG (jv (eg e) I.ok.above);have Fb:∀b o,X.c_.heap.get? b=some o->b∉X.ex->b∉ch:=fun b o e hx hb=>by
  rcases (sE b hb).1 with z | z
  ·exact hx z
  ·exact absurd (jv (eg e) z) (pS _)
 have cellK:∀x c,X.env.cells.lookup x=some c->∀v,s.heap.IsCell c v->h'.IsCell c v:=fun x c e v ⟨o,ho,hd⟩=>by
  have Bl:c∉ch:=fun z=>(sE c z).2.2.1 x c e rfl
  by_cases hc:c∈X.fs
  ·obtain ⟨sl,q⟩:=slot c o (I.yE x c e) hc Bl ho (I.eN x c e);exact ⟨_,q,hd⟩
  ·exact ⟨o,keep c o (I.yE x c e) hc Bl ho (I.eN x c e),hd⟩
 refine ⟨I.ok,I.os,hg,⟨fun b o e n hb hx=>?_,fun b o e n hb hx=>?_,fun b o e n hx=>?_,fun b o e hx=>?_,fun b xs e=>iX b xs (I.base.iX b xs e),fun b o xs e=>iI b o xs (I.base.iI b o xs e),fun b ps e=>?_⟩,?_,fun x c e=>?_,?_,fun x c e=>?_,fun p hp=>?_,ae,I.len⟩
 ·exact keep b o (RM b o e) hb (Fb b o e hx) (I.base.keep b o e n hb hx) (I.base.free b o e n hx)
 ·obtain ⟨sl,e1⟩:=I.base.slot b o e n hb hx;obtain ⟨sl',e2⟩:=slot b _ (RM b o e) hb (Fb b o e hx) e1 (I.base.free b o e n hx);exact ⟨sl',e2⟩
 ·obtain ⟨o',e1⟩:=I.base.there b o e hx;exact free b o' (Fb b o e hx) e1 (I.base.free b o e n hx)
 ·obtain ⟨o',e1⟩:=I.base.there b o e hx;exact there b o' (Fb b o e hx) e1
 ·obtain ⟨m1,e1⟩:=I.base.jQ b ps e;obtain ⟨m2,e2⟩:=jQ b _ e1;exact ⟨m1++m2,by rw [e2,Array.append_assoc]⟩
 ·obtain ⟨m,hn,hl⟩:=I.loc;refine ⟨m,ns m hn,fun i x v e1 e2 e3=>?_⟩;obtain ⟨u,r,l⟩:=hl i x v e1 e2 e3;refine ⟨u,r,?_⟩;rcases l with l | ⟨k,c,e,z⟩
  ·exact .inl l
  ·exact .inr ⟨k,c,e,cellK x c e _ z⟩
 ·obtain ⟨v,z⟩:=I.cell x c e;exact ⟨v,cellK x c e v z⟩
 ·obtain ⟨m,⟨o,_,_,ho,_⟩,_⟩:=I.loc;exact free _ o (fun z=>(sE _ z).2.1 rfl) ho I.free
 ·obtain ⟨v,o,ho,hd⟩:=I.cell x c e;exact free c o (fun z=>(sE c z).2.2.1 x c e rfl) ho (I.eN x c e)
 ·obtain ⟨e,n,ne,nf,d⟩:=I.pin p hp;have Bl:p.1∉ch:=fun z=>(sE p.1 z).2.2.2 p hp rfl;exact ⟨keep p.1 p.2 ne nf Bl e n,free p.1 p.2 Bl e n,ne,nf,d⟩
theorem Inv.un {t':Nat} (I:Inv X pins σ H s) (u:Un X.fs [] H H' s.heap h') (ae:d_ X.prog X.w H' h'):Inv X pins σ H' { s with heap:=h',toks:=t' }:=by
 obtain ⟨m,⟨o,es,ep,ho,r⟩,_⟩:=id I.loc;obtain ⟨sl,hL⟩:=u.any ho I.free (by simp);exact I.step (g':=s.gens) (d':=s.drawn) (ch:=[]) (fun _ z=>nomatch z) (fun b o _ hb _ e n=>u.keep b o e n hb (by simp)) (fun b o _ hb _ e n=>u.slot b o e n hb (by simp)) (fun b o _ e n=>u.free b o e n (by simp)) (fun b o _ e=>u.there b o e (by simp)) u.iX u.iI u.jQ (fun m' hm=>by
  obtain ⟨o',Cm,Cn,jY,r'⟩:=hm;rw [ho] at jY;cases jY;exact ⟨_,Cm,Cn,hL,r'⟩) ae I.bare
theorem Inv.call {g':Array GenState} {t':Nat} {d':Drawn} {ch:List Addr} (I:Inv X pins σ H s) (u:Un (rm X.stack) ch H H' s.heap h') (ae:d_ X.prog X.w H' h') (hg:AllBare g')
 (sE:∀b∈ch,(b∈X.ex\/X.c_.heap.objs.size<=b)/\b≠X.env.locals/\(∀x c,X.env.cells.lookup x=some c->c≠b)/\∀p∈X.pn++pins,p.1≠b):
 Inv X pins σ H' { s with heap:=h',gens:=g',drawn:=d',toks:=t' }:=by
 obtain ⟨m,⟨o,es,ep,ho,r⟩,_⟩:=id I.loc;obtain ⟨sl,hL⟩:=u.any ho I.free fun z=>(sE _ z).2.1 rfl;exact I.step (ch:=ch) sE (fun b o hL hb hc e n=>u.keep b o e n (fun z=>(iJ.mp (I.jR b z)).elim hL hb) hc) (fun b o _ _ hc e n=>u.any e n hc) (fun b o hc e n=>u.free b o e n hc) (fun b o hc e=>u.there b o e hc) u.iX u.iI u.jQ (fun m' hm=>by
  obtain ⟨o',Cm,Cn,jY,r'⟩:=hm;rw [ho] at jY;cases jY;exact ⟨_,Cm,Cn,hL,r'⟩) ae hg
theorem Inv.turned {t':Nat} {it:Addr} (I:Inv X pins σ H s) (k:∀b o,b≠it->s.heap.get? b=some o->h'.get? b=some o) (hn:H it=none) (hL:it≠X.env.locals)
 (h1:it∈X.ex\/X.c_.heap.objs.size<=it) (h2:∀x c,X.env.cells.lookup x=some c->c≠it) (h3:∀p∈X.pn++pins,p.1≠it):Inv X pins σ H { s with heap:=h',toks:=t' }:=by
 have RL:∀b u,H b=some u->b≠it:=fun b u e z=>by rw [z,hn] at e;cases e
 refine I.step (g':=s.gens) (d':=s.drawn) (ch:=[it]) (fun b hb=>?_) (fun b o _ _ hc e _=>k b o (fun z=>hc (by simp [z])) e) (fun b o _ _ hc e _=>⟨o.slots,k b o (fun z=>hc (by simp [z])) e⟩) (fun _ _ _ _ n=>n)
  (fun b o hc e=>⟨o,k b o (fun z=>hc (by simp [z])) e⟩) (fun _ _ e=>e) (fun _ _ _ e=>e) (fun b ps e=>⟨#[],by rw [e];simp⟩) (fun m hm=>?_) (fun b u e=>?_) I.bare
 ·have e:b=it:=by simpa using hb
  subst e;exact ⟨h1,hL,h2,h3⟩
 ·obtain ⟨o,es,ep,ho,r⟩:=hm;exact ⟨o,es,ep,k _ o (bp hL) ho,r⟩
 ·refine (I.ae b u e).gw (fun c v hc q=>k c v ?_ q) (fun _ q=>q) fun _ _ q=>q;rcases hc with z | z
  ·rw [z];exact RL b u e
  ·exact RL c _ z
theorem Inv.tok (I:Inv X pins σ H s) (t:Nat):Inv X pins σ H { s with toks:=t }:=I.un (h':=s.heap) (t':=t) Un.refl I.ae
theorem Inv.kept (I:Inv X pins σ H s) (k:∀b u,s.heap.get? b=some u->h'.get? b=some u):Inv X pins σ H { s with heap:=h',toks:=t' }:=I.un (Un.kept k) (I.ae.kept k)
theorem Inv.laid (I:Inv X pins σ H s) (k:∀b u,s.heap.get? b=some u->h'.get? b=some u) (hp:s.heap.objs.size<=a) (new:fv X.prog X.w (upd H a o) h' a o):
 Inv X pins σ (upd H a o) { s with heap:=h',toks:=t' }:=I.un (Un.laid k hp (I.ae.fresh hp)) (I.ae.laid k hp new)
theorem Inv.write (I:Inv X pins σ H s) (mu:zW (H x)) (he:e=x\/H e=some (.own x)) (k:∀b u,b≠e->s.heap.get? b=some u->h'.get? b=some u) (zJ:∃u,h'.get? e=some u)
 (new:fv X.prog X.w (upd H x o) h' x o):Inv X pins σ (upd H x o) { s with heap:=h',toks:=t' }:=I.un (Un.write mu he k zJ) (I.ae.write mu he k zJ new)
theorem Inv.nS (I:Inv X pins σ H s) (h:∀p∈vN,s.heap.get? p.1=some p.2/\H p.1=none/\p.1≠X.env.locals/\p.1∉X.fs/\∀v,p.2.data≠.cell v):Inv X vN σ H s:=
 ⟨I.ok,I.os,I.bare,I.base,I.loc,I.cell,I.free,I.eN,fun p hp=>(kJ.mp hp).elim (fun z=>I.pin p (lV _ z)) (h p),I.ae,I.len⟩
theorem Pu {N:List Str} (hN:N.Nodup) {i j:Nat} {x:Str} (a:N[i]?=some x) (b:N[j]?=some x):i=j:=by
 obtain ⟨h1,e1⟩:=ff.mp a;obtain ⟨h2,e2⟩:=ff.mp b;exact (List.getElem_inj hN).mp (e1.trans e2.symm)
theorem Qe {M:Model} {A:Around} {E:Value->Shared->Prop} {i:Nat} {x:Str} {v:V} {u:Value} {Q:Unit->Shared->Prop} (I:Inv X pins σ H s) (hN:X.N.Nodup) (hi:X.N[i]?=some x) (hx:Loc X.env.scope x) (r:cx v u)
 (h:∀s',Inv X pins (σ.set i (some v)) H s'->(∃a,Heap.SameBut a s.heap s'.heap/\(a=X.env.locals\/X.env.cells.lookup x=some a))->Q () s') (hf:X.fn x=true\/X.env.scope.names.lookup x=some .local:=by first | exact .inl rfl | exact .inr rfl | assumption):wpAny M A (storeName X.env x u) Q E s:=by
 obtain ⟨m,hn,hl⟩:=id I.loc;have L7:(X.env.scope.kind==.class || (X.env.scope.kind==.module && X.env.locals !=X.env.globals))=false:=by rw [I.ok.kind];rfl
 have BJ:i<σ.length:=by rw [I.len];exact (ff.mp hi).1
 have yE:=I.yE;have tracked:∀{a:Addr} {h':Heap},(∃o,s.heap.get? a=some o/\H a=none)->Heap.SameBut a s.heap h'->d_ X.prog X.w H h':=fun {a h'} ha hs b ob e=>by
  obtain ⟨_,_,vX⟩:=ha;refine (I.ae b ob e).gw (fun c w' hc q=>(hs.2 c ?_).trans q) (fun _ q=>q) fun _ _ q=>q;rintro rfl;rcases hc with rfl | hc
  ·rw [vX] at e;cases e
  ·rw [vX] at hc;cases hc
 rcases hx with hk | hk
 ·refine wpAny_storeName_local hk hn (fun h' hn' hs=>?_) L7;obtain ⟨oL,_,_,B7,_⟩:=id hn;refine h _ ⟨I.ok,I.os,I.bare,⟨fun b o e n hb hx=>?_,fun b o e n hb hx=>?_,I.base.free,fun b o e hx=>?_,I.base.iX,I.base.iI,I.base.jQ⟩,⟨_,hn',fun j y v' e1 e2 e3=>?_⟩,fun y c e=>?_,I.free,I.eN,fun p hp=>?_,tracked ⟨oL,B7,I.free⟩ hs,by simpa using I.len⟩ ⟨_,hs,.inl rfl⟩
  ·exact (hs.2 b (gG (jv (eg e) I.ok.above))).trans (I.base.keep b o e n hb hx)
  ·obtain ⟨sl,e1⟩:=I.base.slot b o e n hb hx;exact ⟨sl,(hs.2 b (gG (jv (eg e) I.ok.above))).trans e1⟩
  ·obtain ⟨o',e1⟩:=I.base.there b o e hx;exact ⟨o',(hs.2 b (gG (jv (eg e) I.ok.above))).trans e1⟩
  ·by_cases hj:j=i
   ·subst hj;rw [hi] at e1;cases e1;rw [List.getElem?_set_self BJ] at e2;cases e2;exact ⟨u,r,.inl ⟨hk,by simp⟩⟩
   ·rw [List.getElem?_set_ne (bp hj)] at e2;obtain ⟨u',r',q⟩:=hl j y v' e1 e2 e3;refine ⟨u',r',?_⟩;rcases q with ⟨k,e⟩ | ⟨k,c,e,z⟩
    ·refine .inl ⟨k,?_⟩;have:y≠x:=fun e=>hj (Pu hN e1 (e▸hi));simp [this,e]
    ·exact .inr ⟨k,c,e,z.sameBut hs (yE y c e)⟩
  ·obtain ⟨w',z⟩:=I.cell y c e;exact ⟨w',z.sameBut hs (yE y c e)⟩
  ·obtain ⟨e,n,ne,nf,d⟩:=I.pin p hp;exact ⟨(hs.2 p.1 ne).trans e,n,ne,nf,d⟩
 ·have Lz:X.fn x=true:=by
   rcases hf with z | z
   ·exact z
   ·rw [z] at hk;cases hk
  obtain ⟨c,hc⟩:=I.ok.has x (.inl hk);obtain ⟨w',z⟩:=I.cell x c hc;refine wpAny_storeName_cell I.ok.kind hk hc z (fun h' pM hs=>?_);obtain ⟨oc,Sr,KY⟩:=id z;refine h { s with heap:=h' } ⟨I.ok,I.os,I.bare,⟨fun b o e n hb hx=>?_,fun b o e n hb hx=>?_,I.base.free,fun b o e hx=>?_,I.base.iX,I.base.iI,I.base.jQ⟩,⟨m,hn.sameBut hs (bp (yE x c hc)),fun j y v' e1 e2 e3=>?_⟩,fun y c' e=>?_,I.free,I.eN,fun p hp=>?_,tracked ⟨oc,Sr,I.eN x c hc⟩ hs,by simpa using I.len⟩ ⟨c,hs,.inr hc⟩
  ·exact (hs.2 b (gG (jv (eg e) (I.ok.Cy x c Lz hc)))).trans (I.base.keep b o e n hb hx)
  ·obtain ⟨sl,e1⟩:=I.base.slot b o e n hb hx;exact ⟨sl,(hs.2 b (gG (jv (eg e) (I.ok.Cy x c Lz hc)))).trans e1⟩
  ·obtain ⟨o',e1⟩:=I.base.there b o e hx;exact ⟨o',(hs.2 b (gG (jv (eg e) (I.ok.Cy x c Lz hc)))).trans e1⟩
  ·by_cases hj:j=i
   ·subst hj;rw [hi] at e1;cases e1;rw [List.getElem?_set_self BJ] at e2;cases e2;exact ⟨u,r,.inr ⟨.inl hk,c,hc,pM⟩⟩
   ·rw [List.getElem?_set_ne (bp hj)] at e2;obtain ⟨u',r',q⟩:=hl j y v' e1 e2 e3;refine ⟨u',r',?_⟩;rcases q with q | ⟨k,c',e,z'⟩
    ·exact .inl q
    ·refine .inr ⟨k,c',e,z'.sameBut hs ?_⟩;rintro rfl;exact hj (Pu hN e1 (I.ok.inj _ _ _ e hc▸hi))
  ·by_cases SD:c'=c
   ·subst SD;exact ⟨_,pM⟩
   ·obtain ⟨w2,z2⟩:=I.cell y c' e;exact ⟨w2,z2.sameBut hs SD⟩
  ·obtain ⟨e,n,ne,nf,d⟩:=I.pin p hp;refine ⟨(hs.2 p.1 ?_).trans e,n,ne,nf,d⟩;intro q;rw [q,Sr] at e;have q':oc=p.2:=gn e;exact d w' (by rw [<-q'];exact KY)
theorem Iz (I:Inv X pins σ H s) (hN:X.N.Nodup) (hi:X.N[i]?=some x) (hx:Loc X.env.scope x) (r:cx v u)
 (h:∀s',Inv X pins (σ.set i (some v)) H s'->Q () s') (hf:X.fn x=true\/X.env.scope.names.lookup x=some .local:=by first | exact .inl rfl | exact .inr rfl | assumption):wpAny M A (storeName X.env x u) Q E s:=
 Qe I hN hi hx r (fun s' I' _=>h s' I') hf
theorem Inv.Cw (I:Inv X pins σ H s) (ho:s'.os=s.os) (u:Un (rm X.stack) ch H H' s.heap s'.heap) (ae:d_ X.prog X.w H' s'.heap) (hg:AllBare s'.gens)
 (sE:∀b∈ch,(b∈X.ex\/X.c_.heap.objs.size<=b)/\b≠X.env.locals/\(∀x c,X.env.cells.lookup x=some c->c≠b)/\∀p∈X.pn++pins,p.1≠b):Inv X pins σ H' s':=by
 obtain ⟨h',g',d',t',o'⟩:=s';have e:o'=s.os:=ho;subst e;exact I.call (g':=g') (t':=t') (d':=d') u ae hg sE
end
noncomputable abbrev XK:=Value->Option Addr->Hp->Prop
noncomputable abbrev St:=List (Option V)
noncomputable abbrev VK:=V->Hp->Prop
noncomputable abbrev TE:=St->Hp->VK->Prop
noncomputable abbrev TT:=St->Hp->(Bool->Hp->Prop)->Prop
noncomputable abbrev TA:=St->Hp->(List V->Hp->Prop)->Prop
structure sS where
 nx:St->Hp->Prop
 rt:VK
 bk:St->Hp->Prop:=fun _ _=>False
 ct:St->Hp->Prop:=fun _ _=>False
noncomputable abbrev TS:=sS->St->Hp->Prop
theorem ft {α β:Type} {p q r:α->β->Prop} {P:Prop} (h:∃a b,p a b/\q a b/\r a b) (k:∀a b,p a b->q a b->r a b->P):P:=by
 obtain ⟨a,b,x,y,z⟩:=h;exact k a b x y z
theorem Tg {α:Type} {p q:α->Prop} {P:Prop} (h:∃a,p a/\q a) (k:∀a,p a->q a->P):P:=by
 obtain ⟨a,x,y⟩:=h;exact k a x y
noncomputable def EP (X:Cx) (pins:List (Addr×Obj)) (σ:St) (Q:VK) (u:Value) (s':Shared):Prop:=∃v H',Inv X pins σ H' s'/\cx v u/\Q v H'
noncomputable def TP (X:Cx) (pins:List (Addr×Obj)) (σ:St) (Q:Bool->Hp->Prop) (b:Bool) (s':Shared):Prop:=∃H',Inv X pins σ H' s'/\Q b H'
noncomputable def AP (X:Cx) (pins:List (Addr×Obj)) (σ:St) (Q:List V->Hp->Prop) (us:List Value) (s':Shared):Prop:=∃vs H',Inv X pins σ H' s'/\bw vs us/\Q vs H'
noncomputable def SP (X:Cx) (pins:List (Addr×Obj)) (D:sS) (f:Flow) (s':Shared):Prop:=
 match f with
 | .next=>∃aa H',Inv X pins aa H' s'/\D.nx aa H'
 | .brk=>∃aa H',Inv X pins aa H' s'/\D.bk aa H'
 | .cont=>∃aa H',Inv X pins aa H' s'/\D.ct aa H'
 | .ret u=>∃v aa H',Inv X pins aa H' s'/\cx v u/\D.rt v H'
noncomputable def PE (X:Cx) (e:Expr) (t:TE):Prop:=
 ∀(pins:List (Addr×Obj)) (s:Shared) (σ:St) (H:Hp) (Q:VK),Inv X pins σ H s->t σ H Q->wpAny (model X.prog X.w) X.A (eval e X.env) (EP X pins σ Q) X.xe s
noncomputable def PT (X:Cx) (e:Expr) (t:TT):Prop:=
 ∀(pins:List (Addr×Obj)) (s:Shared) (σ:St) (H:Hp) (Q:Bool->Hp->Prop),Inv X pins σ H s->t σ H Q->wpAny (model X.prog X.w) X.A (isTrue e X.env (eval e X.env)) (TP X pins σ Q) X.xe s
noncomputable def PW (X:Cx) (e:Expr) (t:TT):Prop:=
 ∀(whole:Sem Value) (pins:List (Addr×Obj)) (s:Shared) (σ:St) (H:Hp) (Q:Bool->Hp->Prop),Inv X pins σ H s->t σ H Q->wpAny (model X.prog X.w) X.A (isTrue e X.env whole) (TP X pins σ Q) X.xe s
theorem PW.pt (h:PW X e t):PT X e t:=h _
noncomputable def PA (X:Cx) (es:List Expr) (t:TA):Prop:=
 ∀(pos:Pos) (pins:List (Addr×Obj)) (s:Shared) (σ:St) (H:Hp) (Q:List V->Hp->Prop),Inv X pins σ H s->t σ H Q->wpAny (model X.prog X.w) X.A (spliced (backTo pos (starEach es X.env))) (AP X pins σ Q) X.xe s
noncomputable def PS (X:Cx) (st:Stmt) (t:TS):Prop:=
 ∀(pins:List (Addr×Obj)) (s:Shared) (σ:St) (H:Hp) (D:sS),Inv X pins σ H s->t D σ H->wpAny (model X.prog X.w) X.A (exec st X.env) (SP X pins D) X.xe s
noncomputable def gS (X:Cx) (st:List Stmt) (t:TS):Prop:=
 ∀(pins:List (Addr×Obj)) (s:Shared) (σ:St) (H:Hp) (D:sS),Inv X pins σ H s->t D σ H->wpAny (model X.prog X.w) X.A (execs st X.env) (SP X pins D) X.xe s
theorem aA (h:wpAny M A t Q E s) (hQ:∀a s,Q a s->Q' a s):wpAny M A t Q' E s:=wpAny_mono h hQ fun _ _ x=>x
section
variable {X:Cx}
noncomputable def wC (i:Nat):TE:=fun σ H Q=>∃v,σ[i]?=some (some v)/\Q v H
noncomputable def tC (v:V):TE:=fun _ H Q=>Q v H
theorem Vb (hN:X.N[i]?=some x) (hv:GU X.env.scope x) (hd:(x==("__debug__":Str))=false:=by decide) (mR:(x==("__classdict__":Str))=false:=by decide):PE X (.Name x pos) (wC i):=by
 intro pins s σ H Q I h;obtain ⟨v,e,h⟩:=h;obtain ⟨m,hn,hl⟩:=I.loc;obtain ⟨u,r,l⟩:=hl i x v hN e hv;have fin:EP X pins σ Q u s:=⟨v,H,I,r,h⟩;rcases l with ⟨hk,hm⟩ | ⟨hk,c,hc,oi⟩
 ·exact wpAny_Name (wpAny_loadName_local I.ok.kind hk hn hm fin) hd
 ·rcases hk with hk | hk
  ·exact wpAny_Name (wpAny_loadName_cell I.ok.kind hk hc oi fin) hd
  ·exact wpAny_Name (wpAny_loadName_free I.ok.kind hk hc oi fin mR) hd
theorem aH {i j pos}:PE X (.Constant (.int i) j pos) (tC (.int i)):=fun _ _ _ H _ I h=>wpAny_Constant_int ⟨.int i,H,I.tok _,⟨_,rfl⟩,h⟩
theorem rP {b j pos}:PE X (.Constant (.bool b) j pos) (tC (.bl b)):=fun _ _ _ H _ I h=>Constant_bool ⟨.bl b,H,I,rfl,h⟩
theorem j7 {j pos}:PE X (.Constant .none j pos) (tC .bf):=fun _ _ _ H _ I h=>Constant_none ⟨.bf,H,I,rfl,h⟩
theorem fh {x j pos}:PE X (.Constant (.str x) j pos) (tC (.str x)):=fun _ _ _ H _ I h=>Calls.Constant_str ⟨.str x,H,I.tok _,⟨_,rfl⟩,h⟩
noncomputable def Gl (X:Cx) (x:Str):Prop:=X.env.kindOf x=some .globalImplicit
theorem HR (I:Inv X pins σ H s) (hg:Gl X x) (hm:X.mg x=some u) (h:Q u s)
 (hd:(x==("__debug__":Str))=false:=by decide):wpAny (model X.prog X.w) X.A (eval (.Name x pos) X.env) Q E s:=
 Calls.Name_function_global I.ok.kind hg (Calls.loadGlobal_global (by rw [I.ok.glob];exact I.mod.glob.keeps I.bk) hm h) hd
theorem Au (I:Inv X pins σ H s) (hg:Gl X x) (hm:X.mg x=none) (hv:bootBuiltins x=some u) (h:Q u s)
 (hn:x≠"__name__":=by decide) (hd:(x==("__debug__":Str))=false:=by decide):wpAny (model X.prog X.w) X.A (eval (.Name x pos) X.env) Q E s:=by
 obtain ⟨mb,h1,h2⟩:=I.mod.blt;exact Calls.Name_function_global I.ok.kind hg (Calls.loadGlobal_builtin (by rw [I.ok.glob];exact I.mod.glob.keeps I.bk) hm (by rw [I.ok.blt];exact h1.keeps I.bk) ((h2 x hn).trans hv) h) hd
theorem zf (hg:Gl X x) (hm:X.mg x=some u) (r:cx v u) (hd:(x==("__debug__":Str))=false:=by decide):PE X (.Name x pos) (tC v):=
 fun _ _ _ H _ I h=>HR I hg hm ⟨v,H,I,r,h⟩ hd
variable {a b:Expr} {ta tb:TE} {pos:Pos}
noncomputable def PC (X:Cx) (op:CmpOp) (a b:Expr) (t:TE):Prop:=
 ∀(pins:List (Addr×Obj)) (s:Shared) (σ:St) (H:Hp) (Q:VK),Inv X pins σ H s->t σ H Q->
  wpAny (model X.prog X.w) X.A (eval a X.env) (fun v aJ=>wpAny (model X.prog X.w) X.A (eval b X.env) (fun u gv=>wpAny (model X.prog X.w) X.A (compareOp op v u) (EP X pins σ Q) X.xe gv) X.xe aJ) X.xe s
noncomputable def tB (t:TE):TT:=fun σ H Q=>t σ H fun x H1=>∃c,x=.bl c/\Q c H1
theorem vi (h:PC X op a b t) (h1:behindInMarks op b=false:=by first | exact Bj _ (by decide) (by decide) | rfl):PT X (.Compare a [op] [b] pos) (tB t):=by
 intro pins s σ H Q I hw;refine wpAny_isTrue_Compare1 (aA (h pins s σ H _ I hw) fun v s1 h1=>aA h1 fun u s2 h2=>aA h2 fun c s3 zz=>?_) h1;obtain ⟨x,H1,I1,r1,q1⟩:=zz;obtain ⟨d,rfl,q⟩:=q1;cases r1;exact wpAny_truthy_bool ⟨H1,I1,q⟩
theorem rV (h:PE X e t) (he:∀whole,isTrue e X.env whole=(do let v <-whole;standAt e.pos;holding [v] (truthy v)):=by intro _;rfl):PT X e (tB t):=by
 intro pins s σ H Q I hw;refine isTrue_plain (aA (h pins s σ H _ I hw) fun v s1 zz=>?_) (he _);obtain ⟨x,H1,I1,r1,q1⟩:=zz;obtain ⟨d,rfl,q⟩:=q1;cases r1;exact wpAny_truthy_bool ⟨H1,I1,q⟩
variable {tA ER:TT} {rest:List Expr}
noncomputable def Zo (t u:TT):TT:=fun σ H Q=>t σ H fun c H1=>if c=true then u σ H1 Q else Q false H1
noncomputable def ZZ (t u:TT):TT:=fun σ H Q=>t σ H fun c H1=>if c=true then Q true H1 else u σ H1 Q
noncomputable def Zu (t:TT):TT:=fun σ H Q=>t σ H fun c H1=>Q (!c) H1
theorem vm (ha:PT X a tA):PW X (.BoolOp .And [a] pos) tA:=by
 intro wh pins s σ H Q I h;refine isTrue_and (aA (ha pins s σ H Q I h) fun c s1 e=>?_)
 cases c with
 | true=>exact isTrue_and_nil e
 | false=>exact e
theorem vj (ha:PT X a tA):PW X (.BoolOp .Or [a] pos) tA:=by
 intro wh pins s σ H Q I h;refine isTrue_or (aA (ha pins s σ H Q I h) fun c s1 e=>?_)
 cases c with
 | false=>exact isTrue_or_nil e
 | true=>exact e
theorem rW (ha:PT X a tA) (hb:PW X (.BoolOp .And (b::rest) pos) ER):PW X (.BoolOp .And (a::b::rest) pos) (Zo tA ER):=by
 intro wh pins s σ H Q I h;refine isTrue_and (aA (ha pins s σ H _ I h) fun c s1 zz=>?_);obtain ⟨H1,I1,q1⟩:=zz
 cases c with
 | true=>exact hb wh pins s1 σ H1 Q I1 q1
 | false=>exact ⟨H1,I1,q1⟩
theorem rQ (ha:PT X a tA) (hb:PW X (.BoolOp .Or (b::rest) pos) ER):PW X (.BoolOp .Or (a::b::rest) pos) (ZZ tA ER):=by
 intro wh pins s σ H Q I h;refine isTrue_or (aA (ha pins s σ H _ I h) fun c s1 zz=>?_);obtain ⟨H1,I1,q1⟩:=zz
 cases c with
 | true=>exact ⟨H1,I1,q1⟩
 | false=>exact hb wh pins s1 σ H1 Q I1 q1
theorem rS (ha:PT X a tA):PT X (.UnaryOp .Not a pos) (Zu tA):=by
 intro pins s σ H Q I h;exact isTrue_not (ha pins s σ H (fun c H1=>Q (!c) H1) I h)
noncomputable def TV (ta tb:TE):TE:=fun σ H Q=>ta σ H fun x H1=>∃c,x=.bl c/\if c=true then tb σ H1 Q else Q (.bl false) H1
noncomputable def Zv (ta tb:TE):TE:=fun σ H Q=>ta σ H fun x H1=>∃c,x=.bl c/\if c=true then Q (.bl true) H1 else tb σ H1 Q
theorem vh {op} (h:PE X a t):PE X (.BoolOp op [a] pos) t:=fun pins s σ H Q I hw=>BoolOp_one (h pins s σ H Q I hw)
theorem vg (ha:PE X a ta) (hb:PE X (.BoolOp .And (b::rest) pos) tb):PE X (.BoolOp .And (a::b::rest) pos) (TV ta tb):=by
 intro pins s σ H Q I h;refine BoolOp_and (aA (ha pins s σ H _ I h) fun v s1 zz=>?_);obtain ⟨x,H1,I1,r1,q1⟩:=zz;obtain ⟨c,rfl,q1⟩:=q1;cases r1;refine wpAny_truthy_bool ?_
 cases c with
 | true=>exact hb pins s1 σ H1 Q I1 q1
 | false=>exact ⟨.bl false,H1,I1,rfl,q1⟩
theorem M9 (ha:PE X a ta) (hb:PE X (.BoolOp .Or (b::rest) pos) tb):PE X (.BoolOp .Or (a::b::rest) pos) (Zv ta tb):=by
 intro pins s σ H Q I h;refine BoolOp_or (aA (ha pins s σ H _ I h) fun v s1 zz=>?_);obtain ⟨x,H1,I1,r1,q1⟩:=zz;obtain ⟨c,rfl,q1⟩:=q1;cases r1;refine wpAny_truthy_bool ?_
 cases c with
 | false=>exact hb pins s1 σ H1 Q I1 q1
 | true=>exact ⟨.bl true,H1,I1,rfl,q1⟩
noncomputable def Z' (t:TT) (ta tb:TE):TE:=fun σ H Q=>t σ H fun c H1=>if c=true then ta σ H1 Q else tb σ H1 Q
theorem WH (hc:PT X c tA) (ha:PE X a ta) (hb:PE X b tb):PE X (.IfExp c a b pos) (Z' tA ta tb):=by
 intro pins s σ H Q I h;refine wpAny_IfExp (aA (hc pins s σ H _ I h) fun d s1 zz=>?_);obtain ⟨H1,I1,q1⟩:=zz
 cases d with
 | true=>exact ha pins s1 σ H1 Q I1 q1
 | false=>exact hb pins s1 σ H1 Q I1 q1
end
noncomputable def ay (K:aL) (H:Hp) (a:Addr) (xs:List V):Prop:=
 Rd H a (.lst xs)\/
  ∃(o:Obj) (its:Array Value) (n:Nat),K.lookup a=some o/\o.cls=.type "list"/\o.dict=none/\o.data=.seq its n/\its.size<=sizeLine/\bw xs its.toList
noncomputable def dz (K:aL) (H:Hp) (a:Addr) (xs:List V):Prop:=
 Rd H a (.tup xs)\/
  ∃(o:Obj) (its:Array Value) (n:Nat),K.lookup a=some o/\o.cls=.type "tuple"/\o.data=.seq its n/\its.size<=sizeLine/\bw xs its.toList
noncomputable def Y6:Value->Option V
 | .none=>some .bf
 | .bool b=>some (.bl b)
 | .int i _=>some (.int i)
 | .str x _=>some (.str x)
 | .bytes b _=>some (.oX b)
 | .float b _=>some (.Cc b)
 | .ref a=>some (.ref a)
 | .type n=>some (.ty n)
 | _=>none
theorem cx.abs (r:cx x u):Y6 u=some x:=by
 cases x with
 | bf=>cases r;rfl
 | bl _=>cases r;rfl
 | int _=>obtain ⟨t,rfl⟩:=r;rfl
 | str _=>obtain ⟨t,rfl⟩:=r;rfl
 | oX _=>obtain ⟨t,rfl⟩:=r;rfl
 | Cc _=>obtain ⟨t,rfl⟩:=r;rfl
 | ref _=>cases r;rfl
 | ty _=>cases r;rfl
theorem cx.inj (r:cx x u) (q:cx y u):x=y:=gn (r.abs.symm.trans q.abs)
theorem bw.inj {xs ys:List V} {us:List Value} (h:bw xs us) (h':bw ys us):xs=ys:=by
 induction h generalizing ys with
 | nil=>cases h';rfl
 | cons r t ih=>
  cases h' with
  | cons r' t'=>rw [r.inj r',ih t']
section
variable {X:Cx} {pins:List (Addr×Obj)} {σ:St} {H:Hp} {s:Shared} {a:Addr} {xs ys:List V}
theorem ay.of {K:aL} (h:H a=some (.lst xs)):ay K H a xs:=.inl (.inl h)
theorem dz.of {K:aL} (h:H a=some (.tup xs)):dz K H a xs:=.inl (.inl h)
theorem Inv.list (I:Inv X pins σ H s) (h:ay X.K H a xs):∃its:List Value,bw xs its/\PlainL s.heap a its.toArray/\xs.length<=sizeLine:=by
 rcases h with h | ⟨o,its,n,hk,hc,hd,hs,hz,r⟩
 ·obtain ⟨z,its,n,r,e⟩:=h.ok I.ae;exact ⟨its,r,⟨_,n,e,rfl,rfl,rfl⟩,z⟩
 ·refine ⟨its.toList,r,⟨o,n,I.lN a o hk,hc,hd,by simpa using hs⟩,?_⟩;have e:=r.length;simp only [rH] at e;lia
theorem Inv.tuple (I:Inv X pins σ H s) (h:dz X.K H a xs):∃its:List Value,bw xs its/\IsTup s.heap a its.toArray/\xs.length<=sizeLine:=by
 rcases h with h | ⟨o,its,n,hk,hc,hs,hz,r⟩
 ·obtain ⟨z,its,r,p⟩:=h.ok I.ae;exact ⟨its,r,p,z⟩
 ·refine ⟨its.toList,r,⟨o,I.lN a o hk,hc,n,by simpa using hs⟩,?_⟩;have e:=r.length;simp only [rH] at e;lia
theorem Inv.qK (I:Inv X pins σ H s) (h:ay X.K H a xs) (h':ay X.K H a ys):xs=ys:=by
 obtain ⟨its,r,⟨o,n,e,_,_,d⟩,_⟩:=I.list h;obtain ⟨its',r',⟨o',n',e',_,_,d'⟩,_⟩:=I.list h';rw [e] at e';cases e';rw [d] at d'
 injection d' with d1 _
 have:its=its':=by simpa using congrArg Array.toList d1
 subst this;exact r.inj r'
theorem Inv.o9 (I:Inv X pins σ H s) (h:dz X.K H a xs) (h':dz X.K H a ys):xs=ys:=by
 obtain ⟨its,r,⟨o,e,_,n,d⟩,_⟩:=I.tuple h;obtain ⟨its',r',⟨o',e',_,n',d'⟩,_⟩:=I.tuple h';rw [e] at e';cases e';rw [d] at d'
 injection d' with d1 _
 have:its=its':=by simpa using congrArg Array.toList d1
 subst this;exact r.inj r'
end
noncomputable abbrev Cx.j9 (X:Cx) (E:Value->Shared->Prop):Cx:={ X with xe:=E }
noncomputable abbrev Cx.xE (X:Cx):Cx:=X.j9 fun _ _=>False
theorem Cx.Ok.j9 {X:Cx} (ok:X.Ok) (E:Value->Shared->Prop):(X.j9 E).Ok:=
 ⟨ok.mod,ok.kind,ok.glob,ok.blt,ok.above,ok.inj,ok.has,ok.Cy,ok.hd,ok.frames,ok.ET,ok.S_,ok.bs,ok.sO,ok.qI,ok.uO,ok.ip,ok.wj⟩
theorem Cx.Ok.fj {X:Cx} {E:Value->Shared->Prop} (ok:(X.j9 E).Ok):X.Ok:=
 ⟨ok.mod,ok.kind,ok.glob,ok.blt,ok.above,ok.inj,ok.has,ok.Cy,ok.hd,ok.frames,ok.ET,ok.S_,ok.bs,ok.sO,ok.qI,ok.uO,ok.ip,ok.wj⟩
section
variable {X:Cx} {pins:List (Addr×Obj)} {σ:St} {H:Hp} {s:Shared} {E:Value->Shared->Prop}
theorem Inv.j9 (I:Inv X pins σ H s) (E:Value->Shared->Prop):Inv (X.j9 E) pins σ H s:=⟨I.ok.j9 E,I.os,I.bare,I.base,I.loc,I.cell,I.free,I.eN,I.pin,I.ae,I.len⟩
theorem Inv.fj (I:Inv (X.j9 E) pins σ H s):Inv X pins σ H s:=⟨I.ok.fj,I.os,I.bare,I.base,I.loc,I.cell,I.free,I.eN,I.pin,I.ae,I.len⟩
theorem SP.fj (h:SP (X.j9 E) pins D f s'):SP X pins D f s':=by
 cases f with
 | next=>obtain ⟨aa,H',I,q⟩:=h;exact ⟨aa,H',I.fj,q⟩
 | brk=>obtain ⟨aa,H',I,q⟩:=h;exact ⟨aa,H',I.fj,q⟩
 | cont=>obtain ⟨aa,H',I,q⟩:=h;exact ⟨aa,H',I.fj,q⟩
 | ret u=>obtain ⟨v,aa,H',I,r,q⟩:=h;exact ⟨v,aa,H',I.fj,r,q⟩
theorem gS.xE {st:List Stmt} {t:TS} (h:gS X.xE st t):gS X st t:=fun pins s σ H D I hw=>
 wpAny_mono (h pins s σ H D (I.j9 _) hw) (fun _ _ q=>q.fj) fun _ _ z=>False.elim z
end
section
variable {X:Cx} {st:Stmt} {rest:List Stmt} {t u:TS} {e:Expr} {te:TE} {pos:Pos}
noncomputable def UA:TS:=fun D σ H=>D.nx σ H
noncomputable def Zx (t u:TS):TS:=fun D σ H=>t { D with nx:=u D } σ H
theorem d9:gS X [] UA:=fun _ _ σ H _ I h=>wpAny_execs_nil ⟨σ,H,I,h⟩
theorem cC (h1:PS X st t) (h2:gS X rest u):gS X (st::rest) (Zx t u):=by
 intro pins s σ H D I h;refine wpAny_execs_cons (aA (h1 pins s σ H { D with nx:=u D } I h) fun f s1 q=>?_)
 cases f with
 | next=>
  obtain ⟨aa,H',I',q⟩:=q;exact h2 pins s1 aa H' D I' q
 | ret v=>exact q
 | brk=>exact q
 | cont=>exact q
theorem az (h1:PS X st t):gS X [st] t:=by
 intro pins s σ H D I h;refine wpAny_execs_cons (aA (h1 pins s σ H D I h) fun f s1 q=>?_)
 cases f with
 | next=>exact wpAny_execs_nil q
 | ret v=>exact q
 | brk=>exact q
 | cont=>exact q
theorem Inv.quiet (I:Inv X pins σ H s):interactive X.env=false:=by simp [interactive,I.ok.kind]
noncomputable def TZ (te:TE):TS:=fun D σ H=>te σ H fun _ H1=>D.nx σ H1
theorem gB (he:PE X e te) (hs:swapsWith e none pos.line X.env=pure false:=by rfl):PS X (.Expr e pos) (TZ te):=by
 intro pins s σ H D I h;exact wpAny_Expr_any (aA (he pins s σ H _ I h) fun v s1 zz=>L2.ft zz fun x H1 I1 r1 q1=>⟨σ,H1,I1,q1⟩) I.quiet hs
noncomputable def Zw (te:TE):TS:=fun D σ H=>te σ H D.rt
theorem c7 (he:PE X e te):PS X (.Return (some e) pos) (Zw te):=by
 intro pins s σ H D I h;exact wpAny_Return_some (aA (he pins s σ H _ I h) fun v s1 zz=>L2.ft zz fun x H1 I1 r1 q1=>⟨x,σ,H1,I1,r1,q1⟩)
noncomputable def Zs (c:TT) (t u:TS):TS:=fun D σ H=>c σ H fun b H1=>if b=true then t D σ H1 else u D σ H1
theorem d0 (hc:PT X c tc) (ha:gS X a t) (hb:gS X b u):PS X (.If c a b pos) (Zs tc t u):=by
 intro pins s σ H D I h;refine wpAny_If (aA (hc pins s σ H _ I h) fun d s1 zz=>?_);obtain ⟨H1,I1,q1⟩:=zz
 cases d with
 | true=>exact ha pins s1 σ H1 D I1 q1
 | false=>exact hb pins s1 σ H1 D I1 q1
noncomputable def Vi:TS:=fun _ _ _=>False
theorem o8:gS X sts Vi:=fun _ _ _ _ _ _ h=>h.elim
end
noncomputable abbrev TG:=V->St->Hp->(St->Hp->Prop)->Prop
noncomputable abbrev zV:=List V->St->Hp->(St->Hp->Prop)->Prop
noncomputable def PG (X:Cx) (target:Expr) (t:TG):Prop:=
 ∀(pins:List (Addr×Obj)) (s:Shared) (σ:St) (H:Hp) (v:V) (u:Value) (Q:St->Hp->Prop),Inv X pins σ H s->cx v u->t v σ H Q->
  wpAny (model X.prog X.w) X.A (assign target X.env u) (fun _ s'=>∃aa H',Inv X pins aa H' s'/\Q aa H') X.xe s
noncomputable def lX (X:Cx) (ts:List Expr) (t:zV):Prop:=
 ∀(pins:List (Addr×Obj)) (s:Shared) (σ:St) (H:Hp) (vs:List V) (us:List Value) (Q:St->Hp->Prop),Inv X pins σ H s->bw vs us->t vs σ H Q->
  wpAny (model X.prog X.w) X.A (assignInOrder ((assignEach ts X.env).map (·.2)) us) (fun _ s'=>∃aa H',Inv X pins aa H' s'/\Q aa H') X.xe s
noncomputable abbrev QQ:=V->V->V->Hp->(Hp->Prop)->Prop
noncomputable def QP (X:Cx) (t:QQ):Prop:=
 ∀(pins:List (Addr×Obj)) (s:Shared) (σ:St) (H:Hp) (o i v:V) (ov iv u:Value) (Q:Hp->Prop),Inv X pins σ H s->cx o ov->cx i iv->cx v u->t o i v H Q->
  wpAny (model X.prog X.w) X.A (setItem ov iv u) (fun _ s'=>∃H',Inv X pins σ H' s'/\Q H') X.xe s
noncomputable abbrev Mj:=V->V->Hp->VK->Prop
noncomputable def Tw (X:Cx) (op:Operator) (t:Mj):Prop:=
 ∀(pins:List (Addr×Obj)) (s:Shared) (σ:St) (H:Hp) (x y:V) (v u:Value) (Q:VK),Inv X pins σ H s->cx x v->cx y u->t x y H Q->
  wpAny (model X.prog X.w) X.A (inplaceOp op v u) (EP X pins σ Q) X.xe s
section
variable {X:Cx} {pos:Pos}
noncomputable def wI (i:Nat):TG:=fun v σ H Q=>Q (σ.set i (some v)) H
theorem OD (hN:X.N.Nodup) (hi:X.N[i]?=some x) (hx:Loc X.env.scope x) (hf:X.fn x=true\/X.env.scope.names.lookup x=some .local:=by first | exact .inl rfl | exact .inr rfl | assumption):PG X (.Name x pos) (wI i):=by
 intro pins s σ H v u Q I r h;exact wpAny_assign_Name (Iz I hN hi hx r (fun s' I'=>⟨_,H,I',h⟩) hf)
noncomputable def YA:zV:=fun vs σ H Q=>vs=[]/\Q σ H
noncomputable def ZK (t:TG) (u:zV):zV:=fun vs σ H Q=>∃v r,vs=v::r/\t v σ H fun aa H'=>u r aa H' Q
theorem qg:lX X [] YA:=by
 intro pins s σ H vs us Q I r h;obtain ⟨e,h⟩:=h;subst e;cases r;exact assignInOrder_nil ⟨σ,H,I,h⟩
theorem eL (h1:PG X e t) (h2:lX X es u)
 (hs:(assignEach (e::es) X.env).map (·.2)=assign e X.env::(assignEach es X.env).map (·.2):=by rfl):lX X (e::es) (ZK t u):=by
 intro pins s σ H vs us Q I r h;obtain ⟨v,vr,e1,h⟩:=h;subst e1
 cases r with
 | cons r rr=>
  rw [hs];refine assignInOrder_cons (aA (h1 pins s σ H _ _ _ I r h) fun _ s1 zz=>?_);obtain ⟨yM,H1,I1,q1⟩:=zz;exact h2 pins s1 yM H1 _ _ Q I1 rr q1
noncomputable def JG (K:aL) (n:Nat) (t:zV):TG:=fun v σ H Q=>∃a xs,v=.ref a/\dz K H a xs/\xs.length=n/\t xs σ H Q
theorem yZ (hc:X.calm=true) (h:lX X es t)
 (hn:(assignEach es X.env).length=n:=by rfl) (oQ:(assignEach es X.env).findIdx? (·.1)=none:=by rfl):PG X (.Tuple es k pos) (JG X.K n t):=by
 intro pins s σ H v u Q I r hw;obtain ⟨a,xs,e1,hq,hl,hw⟩:=hw;subst e1;cases r;obtain ⟨its,rv,ht,hz⟩:=I.tuple hq;refine assign_Tuple_tuple (I.ok.hd hc) ht (by simp [hn,<-hl,rv.length]) oQ fun h' hx=>?_;have I1:Inv X pins σ H { s with heap:=h' }:=I.kept (t':=s.toks) fun b o e=>hx b o (gG (eg e)) e;exact h pins _ σ H xs _ Q I1 (by simpa using rv) hw
noncomputable def YB (to ti:TE) (t:QQ):TG:=fun v σ H Q=>to σ H fun o H1=>ti σ H1 fun i H2=>t o i v H2 fun H3=>Q σ H3
theorem HB (ho:PE X o to) (hi:PE X i ti) (hs:QP X t)
 (ha:∀v,assign (.Subscript o i pos) X.env v=(do
  let ov <-holding [v] (eval o X.env)
  let iv <-holding [v,ov] (eval i X.env)
  standAt pos
  holding [v,ov,iv] (setItem ov iv v)
  release [v,ov,iv] []):=by intro _;rfl):PG X (.Subscript o i pos) (YB to ti t):=by
 intro pins s σ H v u Q I r h;rw [ha];refine aj (wpAny_holding (aA (ho pins s σ H _ I h) fun ov s1 zz=>?_));obtain ⟨x,H1,I1,r1,q1⟩:=zz;refine aj (wpAny_holding (aA (hi pins s1 σ H1 _ I1 q1) fun iv s2 zz=>?_));obtain ⟨y,H2,I2,r2,q2⟩:=zz;refine aj (wpAny_standAt (aj (wpAny_holding (aA (hs pins s2 σ H2 x y v ov iv u _ I2 r1 r2 r q2) fun _ s3 zz=>?_))));obtain ⟨H3,I3,q3⟩:=zz;exact wpAny_release ⟨σ,H3,I3,q3⟩
noncomputable def Ag (te:TE) (g:TG):TS:=fun D σ H=>te σ H fun x H1=>g x σ H1 D.nx
theorem HE (he:PE X e te) (hg:PG X tg g) (hs:swapsWithSole [tg] e pos.line X.env=pure false:=by rfl) (hw:swappedStores [tg] e X.env=pure none:=by rfl)
 (h1:(assignEach [tg] X.env).map (·.2)=[assign tg X.env]:=by rfl):PS X (.Assign [tg] e pos) (Ag te g):=by
 intro pins s σ H D I h;refine wpAny_Assign_stores (aA (he pins s σ H _ I h) fun v s1 zz=>?_) hs hw;obtain ⟨x,H1,I1,r1,q1⟩:=zz;rw [h1];exact aA (hg pins s1 σ H1 x v _ I1 r1 q1) fun _ s2 q=>q
theorem tj (hN:X.N.Nodup) (hi:X.N[i]?=some x) (hx:Loc X.env.scope x) (he:PE X e te) (hs:swapsWith e (some (.Name x pos')) pos.line X.env=pure false:=by rfl) (hf:X.fn x=true\/X.env.scope.names.lookup x=some .local:=by first | exact .inl rfl | exact .inr rfl | assumption):
 PS X (.Assign [.Name x pos'] e pos) (Ag te (wI i)):=by
 intro pins s σ H D I h;refine wpAny_Assign_Name (aA (he pins s σ H _ I h) fun v s1 zz=>?_) hs;obtain ⟨y,H1,I1,r1,q1⟩:=zz;exact Iz I1 hN hi hx r1 (fun s2 I2=>⟨_,H1,I2,q1⟩) hf
noncomputable def Zp (i:Nat) (te:TE) (ti:Mj):TS:=fun D σ H=>∃x,σ[i]?=some (some x)/\te σ H fun y H1=>ti x y H1 fun z H2=>D.nx (σ.set i (some z)) H2
theorem HF (hN:X.N.Nodup) (hi:X.N[i]?=some x) (hx:Loc X.env.scope x) (he:PE X e te) (ho:Tw X op ti) (hf:X.fn x=true\/X.env.scope.names.lookup x=some .local:=by first | exact .inl rfl | exact .inr rfl | assumption):
 PS X (.AugAssign (.Name x pos') op e pos) (Zp i te ti):=by
 intro pins s σ H D I h;obtain ⟨v,e1,h⟩:=h;obtain ⟨m,hn,hl⟩:=I.loc;have ZU:GU X.env.scope x:=by rcases hx with k | k;exact .inl k;exact .inr (.inl k)
 obtain ⟨u,r,l⟩:=hl i x v hi e1 ZU;refine wpAny_AugAssign_Name ?_;have go:wpAny (model X.prog X.w) X.A (eval e X.env) (fun w gv=>wpAny (model X.prog X.w) X.A (inplaceOp op u w) (fun r jA=>wpAny (model X.prog X.w) X.A (storeName X.env x r) (fun _=>SP X pins D .next) X.xe jA) X.xe gv) X.xe s:=by
  refine aA (he pins s σ H _ I h) fun w s1 zz=>?_;obtain ⟨y,H1,I1,r1,q1⟩:=zz;refine aA (ho pins s1 σ H1 v y u w _ I1 r r1 q1) fun z s2 zz=>?_;obtain ⟨zv,H2,I2,r2,q2⟩:=zz;exact Iz I2 hN hi hx r2 (fun s3 I3=>⟨_,H2,I3,q2⟩) hf
 rcases l with ⟨hk,hm⟩ | ⟨hk,c,hc,oi⟩
 ·exact wpAny_loadName_local I.ok.kind hk hn hm go
 ·rcases hk with hk | hk
  ·exact wpAny_loadName_cell I.ok.kind hk hc oi go
  ·rcases hx with k | k
   ·have:X.env.scope.names.lookup x=some .free:=hk;rw [k] at this;cases this
   ·have:X.env.scope.names.lookup x=some .free:=hk;rw [k] at this;cases this
noncomputable def ipI (f:Int->Int->Int):Mj:=fun x y H Q=>∃i j,x=.int i/\y=.int j/\Q (.int (f i j)) H
theorem Hv:Tw X .Add (ipI fun i j=>i+j):=by
 intro pins s σ H x y v u Q I r1 r2 h;obtain ⟨i,j,e1,e2,q⟩:=h;subst e1;subst e2;obtain ⟨t,rfl⟩:=r1;obtain ⟨t',rfl⟩:=r2;exact iadd_int ⟨.int _,H,I.tok _,⟨_,rfl⟩,q⟩
end
section
variable {X:Cx} {pos:Pos}
noncomputable def Vj (c:TT) (tb:TS):TS:=fun D σ H=>∃W:Nat->St->Hp->Prop,(∃m,W m σ H)/\∀m σ H,W m σ H->
 c σ H fun b H1=>if b=true then ∃N:St->Hp->Prop,(∀aa H',N aa H'->∃m',m'<m/\W m' aa H')/\tb { D with nx:=N,ct:=N,bk:=D.nx } σ H1 else D.nx σ H1
theorem Py (hp:PassesOwn (model X.prog X.w) X.A X.env X.xe) (hc:PT X c tc) (hb:gS X body tb):PS X (.While c body [] pos) (Vj tc tb):=by
 intro pins s σ H D I h;obtain ⟨W,⟨m0,w0⟩,turn⟩:=h;refine wpAny_While (codeAny_whileLoop (fun n s'=>∃aa H',Inv X pins aa H' s'/\W n aa H') ?_ m0 ⟨σ,H,I,w0⟩);rintro n s1 ⟨yM,H1,I1,w1⟩;refine wpAny_passesOwn hp (aA (hc pins s1 yM H1 _ I1 (turn n yM H1 w1)) fun b s2 zz=>?_);obtain ⟨H2,I2,q2⟩:=zz
 cases b with
 | true=>
  obtain ⟨N,hN,q2⟩:=q2;rw [if_pos rfl];refine wpAny_passesOwn hp (aA (hb pins s2 yM H2 _ I2 q2) fun f s3 q3=>?_)
  cases f with
  | next=>
   obtain ⟨eY,H3,I3,n3⟩:=q3;obtain ⟨m',hm,w3⟩:=hN eY H3 n3;exact ⟨m',hm,eY,H3,I3,w3⟩
  | cont=>
   obtain ⟨eY,H3,I3,n3⟩:=q3;obtain ⟨m',hm,w3⟩:=hN eY H3 n3;exact ⟨m',hm,eY,H3,I3,w3⟩
  | brk=>exact q3
  | ret v=>exact q3
 | false=>
  rw [if_neg eR];exact wpAny_execs_nil ⟨yM,H2,I2,q2⟩
end
structure It where
 go:Nat->Hp->Prop
 vA:Nat->Hp->V->Hp->Prop
 stop:Nat->Hp->Prop
noncomputable def rM (X:Cx) (pins:List (Addr×Obj)) (H:Hp) (b:Addr):Prop:=
 H b=none/\b≠X.env.locals/\b∉X.fs/\(b∈X.ex\/X.c_.heap.objs.size<=b)/\(∀x c,X.env.cells.lookup x=some c->c≠b)/\∀p∈X.pn++pins,p.1≠b
theorem Inv.oU (I:Inv X pins σ H s) (hb:s.heap.objs.size<=b) (hn:H' b=none):rM X pins H' b:=by
 refine ⟨hn,Nat.ne_of_gt (jv I.lt hb),I.Kb hb,.inr (dY I.sz hb),fun x c e z=>?_,fun p hp z=>?_⟩
 ·obtain ⟨v,q⟩:=I.cell x c e;exact absurd (jv q.lt (by rw [z];exact hb)) (pS _)
 ·exact absurd (jv (eg (I.pin p hp).1) (by rw [z];exact hb)) (pS _)
noncomputable def ME (X:Cx):Prop:=X.A.handled=none\/∃(a C:Addr) (dx:Option Addr) (t tb:Value) (u:HO),X.A.handled=some (.ref a)/\X.iK a=some (.dB (Az C dx t tb) u)
noncomputable def l_ (X:Cx):Prop:=X.calm=true\/ME X
theorem wJ (q:l_ X) (I:Inv X pins σ H s):Hd X.A s.heap:=by
 rcases q with q | q | ⟨a,C,dx,t,tb,u,q,e⟩
 ·exact .inl (I.ok.hd q)
 ·exact .inl q
 ·exact .inr ⟨a,C,dx,t,tb,q,(I.ae a _ (I.base.iI a _ _ e)).1⟩
theorem l_.in_ (q:l_ X) (I:Inv X pins σ H s) (h1:Y.calm=X.calm) (h2:Y.A.handled=X.A.handled) (h3:∀a o u,H a=some (.dB o u)->Y.iK a=some (.dB o u)):l_ Y:=by
 rcases q with q | q | ⟨a,C,dx,t,tb,u,q,e⟩
 ·exact .inl (h1.trans q)
 ·exact .inr (.inl (h2.trans q))
 ·exact .inr (.inr ⟨a,C,dx,t,tb,u,h2.trans q,h3 _ _ _ (I.base.iI a _ _ e)⟩)
structure uV (P:Program) (w:World) (K:aL) (tg:Expr) (J:It) (fp:List Addr) (it:Addr) (tn:Nat->Heap->Prop):Prop where
 mem:it∈fp
 obj:∀i h,tn i h->∀b∈fp,∃o,h.get? b=some o/\∀v,o.data≠.cell v
 keep:∀i h h',tn i h->(∀b∈fp,∀o,h.get? b=some o->h'.get? b=some o)->tn i h'
 item:∀(X:Cx),X.prog=P->X.w=w->X.K=K->l_ X->∀(i:Nat) (pins:List (Addr×Obj)) (s:Shared) (σ:St) (H:Hp) (E:Value->Shared->Prop),Inv X pins σ H s->(∀b∈fp,rM X pins H b)->tn i s.heap->J.go i H->
  wpAny (model P w) X.A (pyNext (.ref it)) (fun r s1=>∃u,r=some u/\
   wpAny (model P w) X.A (letOwnedTupleGo tg (.ref it) u) (fun _ s2=>∃x H',Inv X pins σ H' s2/\cx x u/\J.vA i H x H'/\tn (i+1) s2.heap/\∀b∈fp,H' b=none) E s1) E s
 done:∀(X:Cx),X.prog=P->X.w=w->X.K=K->l_ X->∀(i:Nat) (pins:List (Addr×Obj)) (s:Shared) (σ:St) (H:Hp) (E:Value->Shared->Prop),Inv X pins σ H s->(∀b∈fp,rM X pins H b)->tn i s.heap->J.stop i H->
  wpAny (model P w) X.A (pyNext (.ref it)) (fun r s1=>r=none/\Inv X pins σ H s1) E s
 self:∀(A:Around) (i:Nat) (s:Shared) (Q:Value->Shared->Prop) (E:Value->Shared->Prop),tn i s.heap->Q (.ref it) s->wpAny (model P w) A (pyIter (.ref it)) Q E s
noncomputable abbrev TI:=St->Hp->(It->Hp->Prop)->Prop
noncomputable def Tx (X:Cx) (pins:List (Addr×Obj)) (σ:St) (tg:Expr) (R:It->Hp->Prop) (Fg:Value) (s2:Shared):Prop:=
 ∃(it:Addr) (fp:List Addr) (tn:Nat->Heap->Prop) (J:It) (H':Hp),Fg=.ref it/\Inv X pins σ H' s2/\uV X.prog X.w X.K tg J fp it tn/\tn 0 s2.heap/\(∀b∈fp,rM X pins H' b)/\R J H'
noncomputable def PI (X:Cx) (tg iter:Expr) (wi:TI):Prop:=
 ∀(pins:List (Addr×Obj)) (s:Shared) (σ:St) (H:Hp) (R:It->Hp->Prop),Inv X pins σ H s->wi σ H R->
  wpAny (model X.prog X.w) X.A (eval iter X.env) (fun v s1=>wpAny (model X.prog X.w) X.A (pyIter v) (Tx X pins σ tg R) X.xe s1) X.xe s
theorem Dg (ho:s.heap.get? it=some o) (hc:o.cls=.type n) (hd:o.data=.fields vs)
 (hn:["enumerate","zip","dict_itemiterator","dict_reverseitemiterator","odict_iterator","itertools.zip_longest","itertools.pairwise"].contains n=false) (hQ:Q () s):wpAny M A (letOwnedTupleGo tg (.ref it) u) Q E s:=by
 unfold letOwnedTupleGo;cases tg<;>first
  | exact bz hQ
  | (cases u<;>first
   | exact bz hQ
   | (refine aj (wpAny_load ho ?_)
      rw [hc,hd];show wpAny M A (if (["enumerate","zip","dict_itemiterator","dict_reverseitemiterator","odict_iterator","itertools.zip_longest","itertools.pairwise"].contains n && vs[0]?==some (rawInt _))=true then _ else _) Q E s;rw [if_neg (by intro h;rw [hn,Bool.false_and] at h;cases h)];exact bz hQ))
noncomputable def zZ (K:aL) (a:Addr):It:=
 ⟨fun i H=>∃xs x,ay K H a xs/\xs[i]?=some x,fun i H x H'=>H'=H/\∀xs,ay K H a xs->xs[i]?=some x,fun i H=>∃xs,ay K H a xs/\xs.length<=i⟩
noncomputable def zY (K:aL) (a:Addr):It:=
 ⟨fun i H=>∃xs x,dz K H a xs/\xs[i]?=some x,fun i H x H'=>H'=H/\∀xs,dz K H a xs->xs[i]?=some x,fun i H=>∃xs,dz K H a xs/\xs.length<=i⟩
noncomputable def wu (lo:Int) (n:Nat):It:=⟨fun i _=>i<n,fun i H x H'=>H'=H/\x=.int (lo+i),fun i _=>n<=i⟩
theorem X8 {P:Program} {w:World} {K:aL} {tg:Expr} (a it:Addr):uV P w K tg (zZ K a) [it] it (fun i h=>h.IsListIter it a i) where
 mem:=by simp
 obj:=fun i h st b hb=>by
  have e:b=it:=by simpa using hb
  subst e;obtain ⟨o,e,c,d⟩:=st;exact ⟨o,e,fun v z=>by rw [d] at z;cases z⟩
 keep:=fun i h h' st k=>st.at fun o e=>k it (by simp) o e
 item:=by
  intro X hP hw hK hc i pins s σ H E I hf st hg;subst hP hw hK;obtain ⟨xs,x,hq,hx⟩:=hg;obtain ⟨its,rv,p,hz⟩:=I.list hq;obtain ⟨u,hu,ru⟩:=rv.get hx;obtain ⟨f0,f1,f2,f3,f4,f5⟩:=hf it (by simp);refine wpAny_pyNext_list_item st p.isList (x:=u) (by simpa using hu) fun h' af sb=>?_;have I1:Inv X pins σ H { s with heap:=h' }:=I.turned (t':=s.toks) (fun b o hb e=>(sb.2 b hb).trans e) f0 f1 f3 f4 f5;obtain ⟨o,e,c,d⟩:=id af;exact ⟨u,rfl,Dg (s:={ s with heap:=h' }) e c d (by decide) ⟨x,H,I1,ru,⟨rfl,fun ys hy=>by rw [I.qK hy hq];exact hx⟩,af,fun b hb=>(hf b hb).1⟩⟩
 done:=by
  intro X hP hw hK hc i pins s σ H E I hf st hg;subst hP hw hK;obtain ⟨xs,hq,hx⟩:=hg;obtain ⟨its,rv,p,hz⟩:=I.list hq;obtain ⟨f0,f1,f2,f3,f4,f5⟩:=hf it (by simp);have hl:=rv.length;exact Ye (wJ hc I) st p.isList (by simp;lia) fun h' eb=>⟨rfl,I.turned (t':=s.toks) (fun b o hb e=>eb b o hb e) f0 f1 f3 f4 f5⟩
 self:=fun _ _ _ _ _ st h=>wpAny_pyIter_listiter st h
theorem XU {P:Program} {w:World} {K:aL} {tg:Expr} (a it:Addr):uV P w K tg (zY K a) [it] it (fun i h=>h.IsTupleIter it a i) where
 mem:=by simp
 obj:=fun i h st b hb=>by
  have e:b=it:=by simpa using hb
  subst e;obtain ⟨o,e,c,d⟩:=st;exact ⟨o,e,fun v z=>by rw [d] at z;cases z⟩
 keep:=fun i h h' st k=>st.at fun o e=>k it (by simp) o e
 item:=by
  intro X hP hw hK hc i pins s σ H E I hf st hg;subst hP hw hK;obtain ⟨xs,x,hq,hx⟩:=hg;obtain ⟨its,rv,p,hz⟩:=I.tuple hq;obtain ⟨u,hu,ru⟩:=rv.get hx;obtain ⟨f0,f1,f2,f3,f4,f5⟩:=hf it (by simp);refine wpAny_pyNext_tuple_item st (show s.heap.IsTuple a its.toArray from p) (x:=u) (by simpa using hu) fun h' af sb=>?_;have I1:Inv X pins σ H { s with heap:=h' }:=I.turned (t':=s.toks) (fun b o hb e=>(sb.2 b hb).trans e) f0 f1 f3 f4 f5;obtain ⟨o,e,c,d⟩:=id af;exact ⟨u,rfl,Dg (s:={ s with heap:=h' }) e c d (by decide) ⟨x,H,I1,ru,⟨rfl,fun ys hy=>by rw [I.o9 hy hq];exact hx⟩,af,fun b hb=>(hf b hb).1⟩⟩
 done:=by
  intro X hP hw hK hc i pins s σ H E I hf st hg;subst hP hw hK;obtain ⟨xs,hq,hx⟩:=hg;obtain ⟨its,rv,p,hz⟩:=I.tuple hq;obtain ⟨f0,f1,f2,f3,f4,f5⟩:=hf it (by simp);have hl:=rv.length;exact QB (wJ hc I) st p (by simp;lia) fun h' eb=>⟨rfl,I.turned (t':=s.toks) (fun b o hb e=>eb b o hb e) f0 f1 f3 f4 f5⟩
 self:=fun _ _ _ _ _ st h=>wpAny_pyIter_tupleiter st h
theorem XT {P:Program} {w:World} {K:aL} {tg:Expr} (it:Addr) (lo:Int) (n:Nat):uV P w K tg (wu lo n) [it] it (fun i h=>IsRangeIter h it (lo+(i:Nat)*1) ((n:Int)-(i:Nat)) 1) where
 mem:=by simp
 obj:=fun i h st b hb=>by
  have e:b=it:=by simpa using hb
  subst e;exact ⟨_,st,fun v z=>by
   have z':Data.fields _=Data.cell v:=z;cases z'⟩
 keep:=fun i h h' st k=>k it (by simp) _ st
 item:=by
  intro X hP hw hK hc i pins s σ H E I hf st hg;subst hP hw hK;obtain ⟨f0,f1,f2,f3,f4,f5⟩:=hf it (by simp);refine Yz hg st fun t h' tk af kk=>?_;have I1:Inv X pins σ H { s with heap:=h',toks:=tk }:=I.turned (fun b o hb e=>kk b o (by simpa using hb) e) f0 f1 f3 f4 f5;refine ⟨_,rfl,Dg (s:={ s with heap:=h',toks:=tk }) (n:="range_iterator") af rfl rfl (by decide) ⟨.int (lo+i),H,I1,⟨t,?_⟩,⟨rfl,rfl⟩,af,fun b hb=>(hf b hb).1⟩⟩;rw [Int.mul_one]
 done:=by
  intro X hP hw hK hc i pins s σ H E I hf st hg;subst hP hw hK;obtain ⟨f0,f1,f2,f3,f4,f5⟩:=hf it (by simp);exact QH (wJ hc I) st (by have:n<=i:=hg;lia) fun h' eb=>⟨rfl,I.turned (t':=s.toks) (fun b o hb e=>eb b o hb e) f0 f1 f3 f4 f5⟩
 self:=fun _ _ _ _ _ st h=>wpAny_pyIter_rangeiter st h
section
variable {X:Cx} {tg:Expr}
noncomputable def ZN (K:aL) (tl:TE):TI:=fun σ H R=>tl σ H fun x H1=>∃a,x=.ref a/\(∃xs,ay K H1 a xs)/\R (zZ K a) H1
noncomputable def YC (K:aL) (tl:TE):TI:=fun σ H R=>tl σ H fun x H1=>∃a,x=.ref a/\(∃xs,dz K H1 a xs)/\R (zY K a) H1
theorem gA {l:Expr} {tl:TE} (hl:PE X l tl):PI X tg l (ZN X.K tl):=by
 intro pins s σ H R I h;refine aA (hl pins s σ H _ I h) fun v s1 zz=>?_;obtain ⟨x,H1,I1,r1,q1⟩:=zz;obtain ⟨a,e,⟨xs,hq⟩,q⟩:=q1;subst e;cases r1;obtain ⟨its,rv,p,hz⟩:=I1.list hq;refine wpAny_pyIter_list p.isList ?_;refine ⟨s1.heap.objs.size,[s1.heap.objs.size],_,_,H1,rfl,I1.kept (t':=s1.toks) fun b o e=>eI _ e,X8 a _,⟨_,jI _ rfl,rfl,rfl⟩,fun b hb=>?_,q⟩;have e:b=s1.heap.objs.size:=by simpa using hb
 subst e;exact I1.oU (aF _) (I1.ae.fresh (aF _))
theorem HC {l:Expr} {tl:TE} (hl:PE X l tl):PI X tg l (YC X.K tl):=by
 intro pins s σ H R I h;refine aA (hl pins s σ H _ I h) fun v s1 zz=>?_;obtain ⟨x,H1,I1,r1,q1⟩:=zz;obtain ⟨a,e,⟨xs,hq⟩,q⟩:=q1;subst e;cases r1;obtain ⟨its,rv,p,hz⟩:=I1.tuple hq;refine wpAny_pyIter_tuple (show s1.heap.IsTuple a its.toArray from p) ?_;refine ⟨s1.heap.objs.size,[s1.heap.objs.size],_,_,H1,rfl,I1.kept (t':=s1.toks) fun b o e=>eI _ e,XU a _,⟨_,jI _ rfl,rfl,rfl⟩,fun b hb=>?_,q⟩;have e:b=s1.heap.objs.size:=by simpa using hb
 subst e;exact I1.oU (aF _) (I1.ae.fresh (aF _))
theorem OX {lo hi:Int} {tk:Nat} (I:Inv X pins σ H s) (h1: -(2 ^ 62)<=lo) (h2:lo<2 ^ 62) (h3: -(2 ^ 62)<=hi) (h4:hi<2 ^ 62)
 (q:R (wu lo (hi-lo).toNat) H):wpAny (model X.prog X.w) X.A (pyIter (.ref s.heap.objs.size)) (Tx X pins σ tg R) E { s with heap:=s.heap.push { cls:=.type "range",data:=.fields #[.int lo t,.int hi u,.int 1 v] },toks:=tk }:=by
 refine wpAny_pyIter_range (IsRange.new ..) (small_one h1 h2 h3 h4) ?_;have I1:Inv X pins σ H { s with heap:=s.heap.push { cls:=.type "range",data:=.fields #[.int lo t,.int hi u,.int 1 v] },toks:=tk }:=I.kept fun b o e=>eI _ e;refine ⟨(s.heap.push { cls:=.type "range",data:=.fields #[.int lo t,.int hi u,.int 1 v] }).objs.size,[(s.heap.push { cls:=.type "range",data:=.fields #[.int lo t,.int hi u,.int 1 v] }).objs.size],_,_,H,rfl,
  I1.kept (t':=tk) fun b o e=>eI _ e,XT _ lo (hi-lo).toNat,?_,fun b hb=>?_,q⟩
 ·have e1:lo+((0:Nat):Int)*1=lo:=by simp
  have e2:(((hi-lo).toNat:Nat):Int)-((0:Nat):Int)=Builtin.Range.rangeSize lo hi 1:=by rw [rangeSize_one];split<;>lia
  show IsRangeIter _ _ (lo+((0:Nat):Int)*1) ((((hi-lo).toNat:Nat):Int)-((0:Nat):Int)) 1;rw [e1,e2];exact jI _ rfl
 ·have e:b=(s.heap.push { cls:=.type "range",data:=.fields #[.int lo t,.int hi u,.int 1 v] }).objs.size:=by simpa using hb
  subst e;exact I1.oU (aF _) (I1.ae.fresh (aF _))
noncomputable def ZO (ta:TA):TI:=fun σ H R=>ta σ H fun vs H1=>∃j:Int,vs=[.int j]/\-(2 ^ 62)<=j/\j<2 ^ 62/\R (wu 0 j.toNat) H1
noncomputable def ZP (ta:TA):TI:=fun σ H R=>ta σ H fun vs H1=>∃i j:Int,vs=[.int i,.int j]/\(-(2 ^ 62)<=i/\i<2 ^ 62/\-(2 ^ 62)<=j/\j<2 ^ 62)/\R (wu i (j-i).toNat) H1
theorem vp (hg:Gl X "range") (hm:X.mg "range"=none) (ha:PA X [a] ta) (hs:starEach [a] X.env=[(false,eval a X.env)]:=by rfl):PI X tg (.Call (.Name "range" p) [a] [] pos) (ZO ta):=by
 intro pins s σ H R I h;refine Call_ (Au I hg hm boot_range (PyProof.Rows.callWith_type1 (aA (ha pos pins s σ H _ I h) fun us s1 zz=>?_) hs rfl));obtain ⟨vs,H1,I1,r1,q1⟩:=zz;obtain ⟨j,e,q1,q2,q⟩:=q1;subst e
 cases r1 with
 | cons r rr=>
  cases rr;obtain ⟨t,rfl⟩:=r;exact call_range_1 (OX I1 (by lia) (by exact Int.NonNeg.mk (2 ^ 62-Nat.succ 0)) q1 q2 (by simpa using q))
theorem PB (hg:Gl X "range") (hm:X.mg "range"=none) (ha:PA X [a,b] ta) (hs:starEach [a,b] X.env=[(false,eval a X.env),(false,eval b X.env)]:=by rfl) (lh:starEach [b] X.env=[(false,eval b X.env)]:=by rfl):
 PI X tg (.Call (.Name "range" p) [a,b] [] pos) (ZP ta):=by
 intro pins s σ H R I h;refine Call_ (Au I hg hm boot_range (PyProof.Rows.callWith_type1 (aA (ha pos pins s σ H _ I h) fun us s1 zz=>?_) (by rw [hs,lh]) (by rw [lh];rfl)));obtain ⟨vs,H1,I1,r1,q1⟩:=zz;obtain ⟨i,j,e,⟨q1,q2,q3,q4⟩,q⟩:=q1;subst e
 cases r1 with
 | cons r rr=>
  cases rr with
  | cons r' rr=>
   cases rr;obtain ⟨t,rfl⟩:=r;obtain ⟨t',rfl⟩:=r';exact call_range_2 (OX I1 q1 q2 q3 q4 q)
noncomputable def Rh (wi:TI) (g:TG) (tb:TS):TS:=fun D σ H=>wi σ H fun J H1=>∃W:Nat->Nat->St->Hp->Prop,(∃m,W 0 m σ H1)/\∀i m σ H,W i m σ H->
 (J.stop i H/\D.nx σ H)\/(J.go i H/\∃N:St->Hp->Prop,(∀aa H',N aa H'->∃m',m'<m/\W (i+1) m' aa H')/\∀x H',J.vA i H x H'->g x σ H' fun gW H2=>tb { D with nx:=N,ct:=N,bk:=D.nx } gW H2)
noncomputable def Aw (fp:List Addr) (h:Heap):List (Addr×Obj):=fp.filterMap fun b=>(h.get? b).map fun o=>(b,o)
theorem ED (hb:b∈fp) (e:h.get? b=some o):(b,o)∈Aw fp h:=List.mem_filterMap.mpr ⟨b,hb,by rw [e];rfl⟩
theorem X3 (hp:p∈Aw fp h):p.1∈fp/\h.get? p.1=some p.2:=by
 obtain ⟨b,hb,e⟩:=List.mem_filterMap.mp hp
 cases q:h.get? b with
 | none=>rw [q] at e;cases e
 | some o=>
  rw [q] at e;have e':(b,o)=p:=gn e;subst e';exact ⟨hb,q⟩
theorem Inv.pinned (I:Inv X pins σ H s) (hf:∀b∈fp,rM X pins H b) (ho:∀b∈fp,∃o,s.heap.get? b=some o/\∀v,o.data≠.cell v):Inv X (pins++Aw fp s.heap) σ H s:=
 I.nS fun p hp=>(kJ.mp hp).elim (fun z=>I.pin p (ng _ z)) fun z=>by
  obtain ⟨hb,e⟩:=X3 z;obtain ⟨f0,f1,f2,_⟩:=hf p.1 hb;obtain ⟨o,e',d⟩:=ho p.1 hb;rw [e] at e';cases e';exact ⟨e,f0,f1,f2,d⟩
theorem Inv.gK (I:Inv X (pins++pl) σ H s):Inv X pins σ H s:=I.nS fun p hp=>I.pin p (ng _ (lV _ hp))
theorem HW (hp:PassesOwn (model X.prog X.w) X.A X.env X.xe) (hc:l_ X) (hi:PI X tg iter wi) (hg:PG X tg g) (hb:gS X body tb)
 (hs:∀x,foldedSetIterable iter X.env x=pure x:=by intro _;rfl):PS X (.For tg iter body [] pos) (Rh wi g tb):=by
 intro pins s σ H D I h;refine wpAny_For (aA (hi pins s σ H _ I h) fun v s1 h1=>aA h1 fun Fg s2 h2=>?_) hs;obtain ⟨it,fp,tn,J,H2,e,I2,T,ba,f2,W,⟨m0,w0⟩,turn⟩:=h2;subst e;have mh:∀{H':Hp},(∀b∈fp,H' b=none)->∀b∈fp,rM X pins H' b:=fun hn b hb=>⟨hn b hb,(f2 b hb).2⟩;refine codeAny_forLoop_any (fun n s'=>∃i aa H',Inv X pins aa H' s'/\tn i s'.heap/\(∀b∈fp,H' b=none)/\W i n aa H') ?_ m0 ⟨0,σ,H2,I2,ba,fun b hb=>(f2 b hb).1,w0⟩;rintro n s3 ⟨i,eY,H3,I3,cD,SY,w3⟩;rcases turn i n eY H3 w3 with ⟨stop,qn⟩ | ⟨go,N,hN,step⟩
 ·refine wpAny_passesOwn hp (aA (T.done X rfl rfl rfl hc i pins s3 eY H3 X.xe I3 (mh SY) cD stop) fun r s4 ⟨hr,I4⟩=>?_);subst hr;exact wpAny_execs_nil ⟨eY,H3,I4,qn⟩
 ·refine wpAny_passesOwn hp (aA (T.item X rfl rfl rfl hc i pins s3 eY H3 X.xe I3 (mh SY) cD go) fun r s4 zz=>L2.Tg zz fun u hr h4=>?_);subst hr;refine wpAny_passesOwn hp (aA h4 fun _ s5 zz=>?_);obtain ⟨x,H5,I5,r5,y5,kS,FX⟩:=zz;have I5':=I5.pinned (mh FX) (T.obj _ _ kS);refine wpAny_passesOwn hp (aA (hg _ s5 eY H5 x u _ I5' r5 (step x H5 y5)) fun _ s6 zz=>?_);obtain ⟨TL,H6,I6,q6⟩:=zz;refine wpAny_passesOwn hp (aA (hb _ s6 TL H6 _ I6 q6) fun f s7 q7=>?_);have again:∀{pX:St} {H7:Hp},Inv X (pins++Aw fp s5.heap) pX H7 s7->N pX H7->∃m,m<n/\∃i aa H',Inv X pins aa H' s7/\tn i s7.heap/\(∀b∈fp,H' b=none)/\W i m aa H':=fun {pX H7} I7 n7=>by
   obtain ⟨m',hm,w7⟩:=hN pX H7 n7;refine ⟨m',hm,i+1,pX,H7,I7.gK,T.keep _ _ _ kS fun b hb o e=>(I7.pin (b,o) (ng _ (ng _ (ED hb e)))).1,fun b hb=>?_,w7⟩;obtain ⟨o,e,d⟩:=T.obj _ _ kS b hb;exact (I7.pin (b,o) (ng _ (ng _ (ED hb e)))).2.1
  cases f with
  | next=>obtain ⟨pX,H7,I7,n7⟩:=q7;exact again I7 n7
  | cont=>obtain ⟨pX,H7,I7,n7⟩:=q7;exact again I7 n7
  | brk=>obtain ⟨pX,H7,I7,q7⟩:=q7;exact ⟨pX,H7,I7.gK,q7⟩
  | ret v=>obtain ⟨x7,pX,H7,I7,r7,q7⟩:=q7;exact ⟨x7,pX,H7,I7.gK,r7,q7⟩
theorem iP (hp:PassesOwn (model X.prog X.w) X.A X.env X.xe) (hc:X.calm=true) (hi:PI X tg iter wi) (hg:PG X tg g) (hb:gS X body tb)
 (hs:∀x,foldedSetIterable iter X.env x=pure x:=by intro _;rfl):PS X (.For tg iter body [] pos) (Rh wi g tb):=HW hp (.inl hc) hi hg hb hs
end
theorem kO {K:aL} {a:Addr} {xs:List V} {g:TG} {tb:TS} {D:sS} {σ:St} {H:Hp} (Pv:Nat->St->Hp->Prop) (h0:Pv 0 σ H) (hl:∀i σ H,i<=xs.length->Pv i σ H->ay K H a xs)
 (hs:∀i x σ H,xs[i]?=some x->Pv i σ H->g x σ H fun gW H2=>tb { D with nx:=Pv (i+1),ct:=Pv (i+1),bk:=D.nx } gW H2) (hd:∀σ H,Pv xs.length σ H->D.nx σ H):
 ∃W:Nat->Nat->St->Hp->Prop,(∃m,W 0 m σ H)/\∀i m σ H,W i m σ H->
  ((zZ K a).stop i H/\D.nx σ H)\/((zZ K a).go i H/\∃N:St->Hp->Prop,(∀aa H',N aa H'->∃m',m'<m/\W (i+1) m' aa H')/\∀x H',(zZ K a).vA i H x H'->g x σ H' fun gW H2=>tb { D with nx:=N,ct:=N,bk:=D.nx } gW H2):=by
 refine ⟨fun i m σ H=>m=xs.length-i/\i<=xs.length/\Pv i σ H,⟨xs.length,by simp,dM _,h0⟩,?_⟩;rintro i m σ H ⟨rfl,hi,p⟩;have q:=hl i σ H hi p
 by_cases aW:i<xs.length
 ·refine .inr ⟨⟨xs,xs[i],q,by simp [aW]⟩,Pv (i+1),fun aa H' p'=>⟨xs.length-(i+1),by omega,rfl,aW,p'⟩,fun x H' y=>?_⟩;obtain ⟨e,y⟩:=y;subst e;exact hs i x σ _ (y xs q) p
 ·have e:i=xs.length:=by lia
  subst e;exact .inl ⟨⟨xs,q,aF _⟩,hd σ H p⟩
theorem VN {K:aL} {a:Addr} {xs:List V} {g:TG} {tb:TS} {D:sS} {σ:St} {H:Hp} (Pv:Nat->St->Hp->Prop) (h0:Pv 0 σ H) (hl:∀i σ H,i<=xs.length->Pv i σ H->dz K H a xs)
 (hs:∀i x σ H,xs[i]?=some x->Pv i σ H->g x σ H fun gW H2=>tb { D with nx:=Pv (i+1),ct:=Pv (i+1),bk:=D.nx } gW H2) (hd:∀σ H,Pv xs.length σ H->D.nx σ H):
 ∃W:Nat->Nat->St->Hp->Prop,(∃m,W 0 m σ H)/\∀i m σ H,W i m σ H->
  ((zY K a).stop i H/\D.nx σ H)\/((zY K a).go i H/\∃N:St->Hp->Prop,(∀aa H',N aa H'->∃m',m'<m/\W (i+1) m' aa H')/\∀x H',(zY K a).vA i H x H'->g x σ H' fun gW H2=>tb { D with nx:=N,ct:=N,bk:=D.nx } gW H2):=by
 refine ⟨fun i m σ H=>m=xs.length-i/\i<=xs.length/\Pv i σ H,⟨xs.length,by simp,dM _,h0⟩,?_⟩;rintro i m σ H ⟨rfl,hi,p⟩;have q:=hl i σ H hi p
 by_cases aW:i<xs.length
 ·refine .inr ⟨⟨xs,xs[i],q,by simp [aW]⟩,Pv (i+1),fun aa H' p'=>⟨xs.length-(i+1),by omega,rfl,aW,p'⟩,fun x H' y=>?_⟩;obtain ⟨e,y⟩:=y;subst e;exact hs i x σ _ (y xs q) p
 ·have e:i=xs.length:=by lia
  subst e;exact .inl ⟨⟨xs,q,aF _⟩,hd σ H p⟩
theorem zq {lo:Int} {n:Nat} {g:TG} {tb:TS} {D:sS} {σ:St} {H:Hp} (Pv:Nat->St->Hp->Prop) (h0:Pv 0 σ H)
 (hs:∀i σ H,i<n->Pv i σ H->g (.int (lo+i)) σ H fun gW H2=>tb { D with nx:=Pv (i+1),ct:=Pv (i+1),bk:=D.nx } gW H2) (hd:∀σ H,Pv n σ H->D.nx σ H):
 ∃W:Nat->Nat->St->Hp->Prop,(∃m,W 0 m σ H)/\∀i m σ H,W i m σ H->
  ((wu lo n).stop i H/\D.nx σ H)\/((wu lo n).go i H/\∃N:St->Hp->Prop,(∀aa H',N aa H'->∃m',m'<m/\W (i+1) m' aa H')/\∀x H',(wu lo n).vA i H x H'->g x σ H' fun gW H2=>tb { D with nx:=N,ct:=N,bk:=D.nx } gW H2):=by
 refine ⟨fun i m σ H=>m=n-i/\i<=n/\Pv i σ H,⟨n,by simp,dM _,h0⟩,?_⟩;rintro i m σ H ⟨rfl,hi,p⟩
 by_cases aW:i<n
 ·refine .inr ⟨aW,Pv (i+1),fun aa H' p'=>⟨n-(i+1),by omega,rfl,aW,p'⟩,fun x H' y=>?_⟩;obtain ⟨e,y⟩:=y;subst e y;exact hs i σ _ aW p
 ·have e:i=n:=by lia
  subst e;exact .inl ⟨aF _,hd σ H p⟩
noncomputable abbrev R2:=V->V->Hp->VK->Prop
noncomputable def fg (X:Cx) (f:Value->Value->Sem Value) (r:R2):Prop:=
 ∀(pins:List (Addr×Obj)) (s:Shared) (σ:St) (H:Hp) (x y:V) (v u:Value) (Q:VK),Inv X pins σ H s->cx x v->cx y u->r x y H Q->
  wpAny (model X.prog X.w) X.A (f v u) (EP X pins σ Q) X.xe s
noncomputable def Mi (X:Cx) (f:Value->Sem Value) (r:V->Hp->VK->Prop):Prop:=
 ∀(pins:List (Addr×Obj)) (s:Shared) (σ:St) (H:Hp) (x:V) (v:Value) (Q:VK),Inv X pins σ H s->cx x v->r x H Q->
  wpAny (model X.prog X.w) X.A (f v) (EP X pins σ Q) X.xe s
noncomputable def qd (X:Cx) (f:Value) (r:List V->Hp->VK->Prop):Prop:=
 ∀(pins:List (Addr×Obj)) (s:Shared) (σ:St) (H:Hp) (xs:List V) (us:List Value) (Q:VK),Inv X pins σ H s->bw xs us->r xs H Q->
  wpAny (model X.prog X.w) X.A (call f us) (EP X pins σ Q) X.xe s
noncomputable def xj (r:R2) (ta tb:TE):TE:=fun σ H Q=>ta σ H fun x H1=>tb σ H1 fun y H2=>r x y H2 Q
noncomputable def ZX (r:V->Hp->VK->Prop) (ta:TE):TE:=fun σ H Q=>ta σ H fun x H1=>r x H1 Q
noncomputable def rI (C:Int->Int->Prop) (g:Int->Int->V):R2:=fun x y H Q=>∃i j,x=.int i/\y=.int j/\C i j/\Q (g i j) H
noncomputable def vL (g:Int->Int->V):R2:=fun x y H Q=>∃i j,x=.int i/\y=.int j/\Q (g i j) H
noncomputable def rU (g:Int->V):V->Hp->VK->Prop:=fun x H Q=>∃i,x=.int i/\Q (g i) H
section
variable {X:Cx} {a b c:Expr} {ta tb tc:TE} {pos:Pos}
theorem JE (ha:PE X a ta) (hb:PE X b tb) {pins:List (Addr×Obj)} {s:Shared} {σ:St} {H:Hp} {R:V->V->Hp->Prop} (I:Inv X pins σ H s)
 (h:ta σ H fun x H1=>tb σ H1 fun y H2=>R x y H2) {Q:Value->Shared->Prop} {f:Value->Value->Sem Value}
 (hf:∀v u s2 x y H2,Inv X pins σ H2 s2->cx x v->cx y u->R x y H2->wpAny (model X.prog X.w) X.A (f v u) Q X.xe s2):
 wpAny (model X.prog X.w) X.A (eval a X.env) (fun v aJ=>wpAny (model X.prog X.w) X.A (eval b X.env) (fun u gv=>wpAny (model X.prog X.w) X.A (f v u) Q X.xe gv) X.xe aJ) X.xe s:=by
 refine aA (ha pins s σ H _ I h) fun v s1 zz=>?_;obtain ⟨x,H1,I1,r1,q1⟩:=zz;refine aA (hb pins s1 σ H1 _ I1 q1) fun u s2 zz=>?_;obtain ⟨y,H2,I2,r2,q2⟩:=zz;exact hf v u s2 x y H2 I2 r1 r2 q2
theorem cG {op:Operator} {r:R2} (ho:fg X (binaryOp op) r) (ha:PE X a ta) (hb:PE X b tb):PE X (.BinOp a op b pos) (xj r ta tb):=by
 intro pins s σ H Q I h;exact wpAny_BinOp (JE ha hb I h fun v u s2 x y H2 I2 rx ry q=>ho pins s2 σ H2 x y v u Q I2 rx ry q)
theorem yX (ho:Mi X (unaryOp op) r) (ha:PE X a ta):PE X (.UnaryOp op a pos) (ZX r ta):=by
 intro pins s σ H Q I h;exact UnaryOp_ (aA (ha pins s σ H _ I h) fun v s1 zz=>L2.ft zz fun x H1 I1 r1 q1=>ho pins s1 σ H1 x v Q I1 r1 q1)
theorem RG {f:Value->Value->Sem Value} {C:Int->Int->Prop} {g:Int->Int->Int}
 (rule:∀(i j:Int) (t u:Tok) (s:Shared) (Q:Value->Shared->Prop) (E:Value->Shared->Prop),C i j->Q (.int (g i j) s.toks) { s with toks:=s.toks+1 }->wpAny (model X.prog X.w) X.A (f (.int i t) (.int j u)) Q E s):
 fg X f (rI C fun i j=>.int (g i j)):=by
 intro pins s σ H x y v u Q I rx ry h;obtain ⟨i,j,rfl,rfl,hc,q⟩:=h;obtain ⟨t,rfl⟩:=rx;obtain ⟨t',rfl⟩:=ry;exact rule i j t t' s _ _ hc ⟨.int (g i j),H,I.tok _,⟨_,rfl⟩,q⟩
theorem QT {f:Value->Value->Sem Value} {g:Int->Int->Int}
 (rule:∀(i j:Int) (t u:Tok) (s:Shared) (Q:Value->Shared->Prop) (E:Value->Shared->Prop),Q (.int (g i j) s.toks) { s with toks:=s.toks+1 }->wpAny (model X.prog X.w) X.A (f (.int i t) (.int j u)) Q E s):
 fg X f (vL fun i j=>.int (g i j)):=by
 intro pins s σ H x y v u Q I rx ry h;obtain ⟨i,j,rfl,rfl,q⟩:=h;obtain ⟨t,rfl⟩:=rx;obtain ⟨t',rfl⟩:=ry;exact rule i j t t' s _ _ ⟨.int (g i j),H,I.tok _,⟨_,rfl⟩,q⟩
theorem CL {f:Value->Value->Sem Value} {g:Int->Int->Bool}
 (rule:∀(i j:Int) (t u:Tok) (s:Shared) (Q:Value->Shared->Prop) (E:Value->Shared->Prop),Q (.bool (g i j)) s->wpAny (model X.prog X.w) X.A (f (.int i t) (.int j u)) Q E s):
 fg X f (vL fun i j=>.bl (g i j)):=by
 intro pins s σ H x y v u Q I rx ry h;obtain ⟨i,j,rfl,rfl,q⟩:=h;obtain ⟨t,rfl⟩:=rx;obtain ⟨t',rfl⟩:=ry;exact rule i j t t' s _ _ ⟨.bl (g i j),H,I,rfl,q⟩
noncomputable def IZ (i j:Int):Prop:=(-(2 ^ 64)<i/\i<2 ^ 64)\/(-(2 ^ 64)<j/\j<2 ^ 64)
theorem IZ.ok (h:IZ i j):IntMulOk i j:=by
 rcases h with ⟨h1,h2⟩ | ⟨h1,h2⟩
 ·exact .of_left (intBits_le_64 h1 h2)
 ·exact .of_right (intBits_le_64 h1 h2)
theorem iE:fg X (binaryOp .Add) (vL fun i j=>.int (i+j)):=QT fun _ _ _ _ _ _ _ q=>add_int q
theorem iO:fg X (binaryOp .Sub) (vL fun i j=>.int (i-j)):=QT fun _ _ _ _ _ _ _ q=>sub_int q
theorem U':fg X (binaryOp .Mult) (rI IZ fun i j=>.int (i*j)):=RG fun _ _ _ _ _ _ _ hc q=>mul_int q hc.ok
theorem HJ:fg X (binaryOp .Mod) (rI (fun _ j=>0<j) fun i j=>.int (i % j)):=RG fun i j _ _ _ _ _ hc q=>by
 have h1:(0:Int)<j:=hc;exact mod_int' (by exact Int.ne_of_gt hc) (by rw [Int.fmod_eq_emod_of_nonneg i (by exact gm hc)];exact q)
theorem ZV {f:Value->Sem Value} {g:Int->Int}
 (rule:∀(i:Int) (t:Tok) (s:Shared) (Q:Value->Shared->Prop) (E:Value->Shared->Prop),Q (.int (g i) s.toks) { s with toks:=s.toks+1 }->wpAny (model X.prog X.w) X.A (f (.int i t)) Q E s):
 Mi X f (rU fun i=>.int (g i)):=by
 intro pins s σ H x v Q I rx h;obtain ⟨i,rfl,q⟩:=h;obtain ⟨t,rfl⟩:=rx;exact rule i t s _ _ ⟨.int (g i),H,I.tok _,⟨_,rfl⟩,q⟩
theorem zc:Mi X (unaryOp .USub) (rU fun i=>.int (-i)):=ZV fun _ _ _ _ _ q=>neg_int q
end
noncomputable def Rc:V->V->Bool
 | .bf,.bf=>true | .bf,.int _=>true | .int _,.bf=>true | .bf,.bl _=>true | .bl _,.bf=>true | .bf,.str _=>true | .str _,.bf=>true
 | .int _,.int _=>true | .bl _,.bl _=>true | .str _,.str _=>true | .oX _,.oX _=>true
 | .int _,.str _=>true | .str _,.int _=>true | .bl _,.str _=>true | .str _,.bl _=>true
 | _,_=>false
noncomputable def rEq:R2:=fun x y H Q=>Rc x y=true/\Q (.bl (decide (x=y))) H
noncomputable def rNe:R2:=fun x y H Q=>Rc x y=true/\Q (.bl (!decide (x=y))) H
theorem NM:decide (V.int i=V.int j)=(i==j):=by
 rw [Bool.eq_iff_iff];simp
theorem MP:decide (V.bl i=V.bl j)=(i==j):=by
 rw [Bool.eq_iff_iff];simp
theorem NA:decide (V.str i=V.str j)=(i==j):=by
 rw [Bool.eq_iff_iff];simp
theorem NL:decide (V.oX i=V.oX j)=(i.toList==j.toList):=by
 rw [Bool.eq_iff_iff];cases i;cases j;simp
section
variable {X:Cx} {a b c:Expr} {ta tb tc:TE} {pos:Pos}
theorem gf (I:Inv X pins σ H s) (q:Q (.bl k) H) (e:k=k'):EP X pins σ Q (.bool k') s:=by
 subst e;exact ⟨.bl k,H,I,rfl,q⟩
theorem fw:fg X (compareOp .Eq) rEq:=by
 intro pins s σ H x y v u Q I rx ry h;obtain ⟨hs,q⟩:=h
 cases x with
 | bf=>
  cases rx
  cases y with
  | bf=>cases ry;exact PySem.EqNone.eq_none_none (gf I q (by simp))
  | bl j=>cases ry;exact PySem.EqNone.eq_none_bool (gf I q (by simp))
  | int j=>obtain ⟨t',rfl⟩:=ry;exact PySem.EqNone.eq_none_int (gf I q (by simp))
  | str j=>obtain ⟨t',rfl⟩:=ry;exact PySem.EqNone.eq_none_str (gf I q (by simp))
  | _=>exact absurd (show false=true from hs) eR
 | bl i=>
  cases rx
  cases y with
  | bf=>cases ry;exact PySem.EqNone.eq_bool_none (gf I q (by simp))
  | bl j=>cases ry;exact eq_bool (gf I q MP)
  | str j=>obtain ⟨t',rfl⟩:=ry;exact PySem.EqMixed.eq_bool_str (gf I q (by simp))
  | _=>exact absurd (show false=true from hs) eR
 | int i=>
  obtain ⟨t,rfl⟩:=rx
  cases y with
  | bf=>cases ry;exact PySem.EqNone.eq_int_none (gf I q (by simp))
  | int j=>obtain ⟨t',rfl⟩:=ry;exact eq_int (gf I q NM)
  | str j=>obtain ⟨t',rfl⟩:=ry;exact PySem.EqMixed.eq_int_str (gf I q (by simp))
  | _=>exact absurd (show false=true from hs) eR
 | str i=>
  obtain ⟨t,rfl⟩:=rx
  cases y with
  | bf=>cases ry;exact PySem.EqNone.eq_str_none (gf I q (by simp))
  | bl j=>cases ry;exact PySem.EqMixed.eq_str_bool (gf I q (by simp))
  | int j=>obtain ⟨t',rfl⟩:=ry;exact PySem.EqMixed.eq_str_int (gf I q (by simp))
  | str j=>obtain ⟨t',rfl⟩:=ry;exact eq_str (gf I q NA)
  | _=>exact absurd (show false=true from hs) eR
 | oX i=>
  obtain ⟨t,rfl⟩:=rx
  cases y with
  | oX j=>obtain ⟨t',rfl⟩:=ry;exact PySem.W.eq_bytes (gf I q NL)
  | _=>exact absurd (show false=true from hs) eR
 | _=>cases y<;>exact absurd (show false=true from hs) eR
theorem De:fg X (compareOp .NotEq) rNe:=by
 intro pins s σ H x y v u Q I rx ry h;obtain ⟨hs,q⟩:=h
 cases x with
 | bf=>
  cases rx
  cases y with
  | bf=>cases ry;exact PySem.EqNone.ne_none_none (gf I q (by simp))
  | bl j=>cases ry;exact PySem.EqNone.ne_none_bool (gf I q (by simp))
  | int j=>obtain ⟨t',rfl⟩:=ry;exact PySem.EqNone.ne_none_int (gf I q (by simp))
  | str j=>obtain ⟨t',rfl⟩:=ry;exact PySem.EqNone.ne_none_str (gf I q (by simp))
  | _=>exact absurd (show false=true from hs) eR
 | bl i=>
  cases rx
  cases y with
  | bf=>cases ry;exact PySem.EqNone.ne_bool_none (gf I q (by simp))
  | bl j=>cases ry;exact ne_bool (gf I q (congrArg not MP))
  | str j=>obtain ⟨t',rfl⟩:=ry;exact PySem.EqMixed.ne_bool_str (gf I q (by simp))
  | _=>exact absurd (show false=true from hs) eR
 | int i=>
  obtain ⟨t,rfl⟩:=rx
  cases y with
  | bf=>cases ry;exact PySem.EqNone.ne_int_none (gf I q (by simp))
  | int j=>obtain ⟨t',rfl⟩:=ry;exact ne_int (gf I q (congrArg not NM))
  | str j=>obtain ⟨t',rfl⟩:=ry;exact PySem.EqMixed.ne_int_str (gf I q (by simp))
  | _=>exact absurd (show false=true from hs) eR
 | str i=>
  obtain ⟨t,rfl⟩:=rx
  cases y with
  | bf=>cases ry;exact PySem.EqNone.ne_str_none (gf I q (by simp))
  | bl j=>cases ry;exact PySem.EqMixed.ne_str_bool (gf I q (by simp))
  | int j=>obtain ⟨t',rfl⟩:=ry;exact PySem.EqMixed.ne_str_int (gf I q (by simp))
  | str j=>obtain ⟨t',rfl⟩:=ry;exact ne_str (gf I q (congrArg not NA))
  | _=>exact absurd (show false=true from hs) eR
 | oX i=>
  obtain ⟨t,rfl⟩:=rx
  cases y with
  | oX j=>obtain ⟨t',rfl⟩:=ry;exact PySem.W.ne_bytes (gf I q (congrArg not NL))
  | _=>exact absurd (show false=true from hs) eR
 | _=>cases y<;>exact absurd (show false=true from hs) eR
theorem sZ:fg X (compareOp .Lt) (vL fun i j=>.bl (decide (i<j))):=CL fun _ _ _ _ _ _ _ q=>lt_int q
theorem ko:fg X (compareOp .LtE) (vL fun i j=>.bl (decide (i<=j))):=CL fun _ _ _ _ _ _ _ q=>le_int q
theorem yW:fg X (compareOp .Gt) (vL fun i j=>.bl (decide (j<i))):=CL fun _ _ _ _ _ _ _ q=>gt_int q
theorem Ho:fg X (compareOp .GtE) (vL fun i j=>.bl (decide (j<=i))):=CL fun _ _ _ _ _ _ _ q=>ge_int q
theorem Av:fg X (compareOp .Is) (fun x y H Q=>y=.bf/\Q (.bl (decide (x=.bf))) H):=by
 intro pins s σ H x y v u Q I rx ry h;obtain ⟨rfl,q⟩:=h;cases ry;refine is_none_gen (gf I q ?_);cases x<;>first
  | (cases rx;rfl)
  | (obtain ⟨t,rfl⟩:=rx;rfl)
theorem wQ:fg X (compareOp .IsNot) (fun x y H Q=>y=.bf/\Q (.bl (!decide (x=.bf))) H):=by
 intro pins s σ H x y v u Q I rx ry h;obtain ⟨rfl,q⟩:=h;cases ry;refine isnot_none_gen (gf I q ?_);cases x<;>first
  | (cases rx;rfl)
  | (obtain ⟨t,rfl⟩:=rx;rfl)
theorem Nq (b:Expr) (h:op≠.In:=by decide) (h2:op≠.NotIn:=by decide):behindInMarks op b=false:=by
 have e1:(op==CmpOp.In)=false:=by cases op<;>first | rfl | exact absurd rfl h
 have e2:(op==CmpOp.NotIn)=false:=by cases op<;>first | rfl | exact absurd rfl h2
 cases b<;>simp [behindInMarks,e1,e2]
theorem OB (ho:fg X (compareOp op) r) (ha:PE X a ta) (hb:PE X b tb) (hm:behindInMarks op b=false):PE X (.Compare a [op] [b] pos) (xj r ta tb):=by
 intro pins s σ H Q I h;exact wpAny_Compare1 (JE ha hb I h fun v u s2 x y H2 I2 rx ry q=>ho pins s2 σ H2 x y v u Q I2 rx ry q) hm
noncomputable def Di (t:TE):TT:=fun σ H Q=>t σ H fun x H'=>∃k,x=.bl k/\Q k H'
theorem zg (ho:fg X (compareOp op) r) (ha:PE X a ta) (hb:PE X b tb) (hm:behindInMarks op b=false):PT X (.Compare a [op] [b] pos) (Di (xj r ta tb)):=by
 intro pins s σ H Q I h;refine wpAny_isTrue_Compare1 (aA (ha pins s σ H _ I h) fun v s1 zz=>L2.ft zz fun x H1 I1 r1 q1=>aA (hb pins s1 σ H1 _ I1 q1) fun u s2 zz=>L2.ft zz fun y H2 I2 r2 q2=>
  aA (ho pins s2 σ H2 x y v u _ I2 r1 r2 q2) fun c s3 zz=>?_) hm
 obtain ⟨z,H3,I3,r3,k,e,q3⟩:=zz;subst e;cases r3;exact wpAny_truthy_bool ⟨H3,I3,q3⟩
theorem kL {X:Cx} {a b:Expr} {ta tb:TE} {pos:Pos} {op:CmpOp} {r:R2} (ho:fg X (compareOp op) r) (ha:PE X a ta) (hb:PE X b tb) (h:op≠.In:=by decide) (h2:op≠.NotIn:=by decide):PE X (.Compare a [op] [b] pos) (xj r ta tb):=OB ho ha hb (Nq _ h h2)
theorem cV {X:Cx} {a b:Expr} {ta tb:TE} {pos:Pos} {op:CmpOp} {r:R2} (ho:fg X (compareOp op) r) (ha:PE X a ta) (hb:PE X b tb) (h:op≠.In:=by decide) (h2:op≠.NotIn:=by decide):PT X (.Compare a [op] [b] pos) (Di (xj r ta tb)):=zg ho ha hb (Nq _ h h2)
noncomputable def Nk (r r':R2) (ta tb tc:TE):TE:=fun σ H Q=>ta σ H fun x H1=>tb σ H1 fun y H2=>r x y H2 fun z H3=>∃k,z=.bl k/\
 (if k=true then tc σ H3 fun w' H4=>r' y w' H4 Q else Q (.bl false) H3)
theorem Iw (ho:fg X (compareOp op) r) (jY:fg X (compareOp vO) r') (ha:PE X a ta) (hb:PE X b tb) (hc:PE X c tc)
 (hm:lastMarks [op,vO] [b,c]=false:=by with_unfolding_all rfl):PE X (.Compare a [op,vO] [b,c] pos) (Nk r r' ta tb tc):=by
 intro pins s σ H Q I h;refine Compare_chain (aA (ha pins s σ H _ I h) fun v s1 zz=>L2.ft zz fun x H1 I1 r1 q1=>chain_link (aA (hb pins s1 σ H1 _ I1 q1) fun u s2 zz=>L2.ft zz fun y H2 I2 r2 q2=>
  aA (ho pins s2 σ H2 x y v u _ I2 r1 r2 q2) fun d s3 zz=>?_)) hm
 obtain ⟨z,H3,I3,r3,k,e,q3⟩:=zz;subst e;cases r3;refine wpAny_truthy_bool ?_
 cases k with
 | false=>exact ite_ff ⟨.bl false,H3,I3,rfl,q3⟩
 | true=>exact ite_tt (chain_last (aA (hc pins s3 σ H3 _ I3 q3) fun w' s4 zz=>L2.ft zz fun z' H4 I4 r4 q4=>jY pins s4 σ H4 y z' u w' Q I4 r2 r4 q4))
theorem DF (ho:fg X (compareOp op) r) (jY:fg X (compareOp vO) r') (ha:PE X a ta) (hb:PE X b tb) (hc:PE X c tc)
 (hm:lastMarks [op,vO] [b,c]=false:=by with_unfolding_all rfl):PT X (.Compare a [op,vO] [b,c] pos) (Di (Nk r r' ta tb tc)):=by
 intro pins s σ H Q I h;refine isTrue_chain (aA (ha pins s σ H _ I h) fun v s1 zz=>L2.ft zz fun x H1 I1 r1 q1=>test_link (aA (hb pins s1 σ H1 _ I1 q1) fun u s2 zz=>L2.ft zz fun y H2 I2 r2 q2=>
  aA (ho pins s2 σ H2 x y v u _ I2 r1 r2 q2) fun d s3 zz=>?_)) hm
 obtain ⟨z,H3,I3,r3,k,e,q3⟩:=zz;subst e;cases r3;refine wpAny_truthy_bool ?_
 cases k with
 | false=>
  obtain ⟨k',e',q'⟩:=q3;cases e';exact ite_ff ⟨H3,I3,q'⟩
 | true=>
  refine ite_tt (test_last (aA (hc pins s3 σ H3 _ I3 q3) fun w' s4 zz=>L2.ft zz fun z' H4 I4 r4 q4=>aA (jY pins s4 σ H4 y z' u w' _ I4 r2 r4 q4) fun d' s5 zz=>?_));obtain ⟨z2,H5,I5,r5,k2,e2,q5⟩:=zz;subst e2;cases r5;exact wpAny_truthy_bool ⟨H5,I5,q5⟩
theorem Dt:(sizeLine:Nat)<2 ^ 63:=by rw [sizeLine_eq];decide
theorem vc (r:bw [x] us):∃u,us=[u]/\cx x u:=by
 cases r with
 | cons r1 r2=>cases r2;exact ⟨_,rfl,r1⟩
theorem MJ (r:bw [x,y] us):∃u w',us=[u,w']/\cx x u/\cx y w':=by
 cases r with
 | cons r1 r2=>
  cases r2 with
  | cons r3 r4=>cases r4;exact ⟨_,_,rfl,r1,r3⟩
theorem P5 (hc:X.calm=true):qd X (.builtin "max") (fun xs H Q=>∃i j,xs=[.int i,.int j]/\Q (.int (if j>i then j else i)) H):=by
 intro pins s σ H xs us Q I r h;obtain ⟨i,j,rfl,q⟩:=h;obtain ⟨u,w',rfl,⟨t,rfl⟩,⟨t',rfl⟩⟩:=MJ r;refine max_two_ints (I.ok.hd hc) fun h' tk k=>⟨_,H,I.kept k,?_,q⟩
 by_cases hj:j>i
 ·rw [if_pos hj,if_pos hj];exact ⟨_,rfl⟩
 ·rw [if_neg hj,if_neg hj];exact ⟨_,rfl⟩
theorem zk (hc:X.calm=true):qd X (.builtin "min") (fun xs H Q=>∃i j,xs=[.int i,.int j]/\Q (.int (if j<i then j else i)) H):=by
 intro pins s σ H xs us Q I r h;obtain ⟨i,j,rfl,q⟩:=h;obtain ⟨u,w',rfl,⟨t,rfl⟩,⟨t',rfl⟩⟩:=MJ r;refine min_two_ints (I.ok.hd hc) fun h' tk k=>⟨_,H,I.kept k,?_,q⟩
 by_cases hj:j<i
 ·rw [if_pos hj,if_pos hj];exact ⟨_,rfl⟩
 ·rw [if_neg hj,if_neg hj];exact ⟨_,rfl⟩
theorem Xc:qd X (.type "int") (fun xs H Q=>(∃i,xs=[.int i]/\Q (.int i) H)\/∃k,xs=[.bl k]/\Q (.int (if k then 1 else 0)) H):=by
 intro pins s σ H xs us Q I r h;rcases h with ⟨i,rfl,q⟩ | ⟨k,rfl,q⟩
 ·obtain ⟨u,rfl,t,rfl⟩:=vc r;exact call_int_int ⟨.int i,H,I,⟨_,rfl⟩,q⟩
 ·obtain ⟨u,rfl,r1⟩:=vc r;cases r1;exact call_int_bool ⟨.int (if k then 1 else 0),H,I.tok _,⟨_,rfl⟩,q⟩
end
structure w6 (h:Heap) (x dx C:Addr) (mA:Str->Option Value):Prop where
 obj:h.get? x=some (PySem.W.instObj C dx)
 ns:h.Ns1 dx mA
 ne:dx≠x
theorem Xt {h:Heap} {dx:Addr} {mA:Str->Option Value} (n:h.Ns1 dx mA):∃od,h.get? dx=some od/\∀name,PySem.W.lookIn name od=some (mA name):=by
 obtain ⟨o,es,ep,ho,hd,hk,_,hm⟩:=n;refine ⟨o,ho,fun name=>?_⟩;have e:=hm name;unfold nsFind findBy at e;rw [<-Array.find?_toList] at e;unfold PySem.W.lookIn;rw [hd];dsimp only;split
 ·rename_i y q
  rw [q] at e;exact congrArg some e
 ·rename_i q
  rw [q] at e;have a:es.toList.any (·.refKey)=false:=by
   rw [List.any_eq_false];intro y hy;obtain ⟨z,t,mJ⟩:=hk y (Array.mem_toList_iff.mp hy);simp [DictEntry.refKey,mJ]
  have a':¬es.toList.any (·.refKey)=true:=by rw [a];exact eR
  rw [if_neg a'];exact congrArg some e
theorem w6.look (I:w6 h x dx C mA):∃od,PySem.W.InstAt h x (PySem.W.instObj C dx) C (some od)/\∀name,PySem.W.lookIn name od=some (mA name):=
 let ⟨od,ho,hl⟩:=Xt I.ns
 ⟨od,⟨I.obj,rfl,rfl,ho⟩,hl⟩
section
variable {prog:Program} {w:World} {A:Around} {E:Value->Shared->Prop} {s:Shared} {K:aL} {x dx C f:Addr} {mA:Str->Option Value} {name:Str} {v:Value}
theorem VQ (X:K.In s.heap) (I:w6 s.heap x dx C mA) (hg:PySem.W.plainGet K C name=true) (hh:PySem.W.hasDictIn K C=true)
 (ha:PySem.W.findIn K (.ref C) name=some none) (hv:mA name=some v) (gh:PySem.W.handedIn v=true) (h:Q v { s with toks:=s.toks+1 }):
 wpAny (model prog w) A (getAttr (.ref x) name expr) Q E s:=by
 obtain ⟨od,J,hl⟩:=I.look;exact PySem.W.get_value X J (PySem.W.plainGet_of hg).1 (PySem.W.findObj_own hh ha rfl (by rw [hl,hv])) gh h
theorem WS (X:K.In s.heap) (I:w6 s.heap x dx C mA) (hg:PySem.W.plainGet K C name=true)
 (hf:PySem.W.findIn K (.ref C) name=some (some (.ref f))) (ht:PySem.W.isFn K (.ref f)=true) (hv:mA name=none) (h:Q (.ref f,[.ref x]) s):
 wpAny (model prog w) A (getMethod (.ref x) name pl) Q E s:=by
 obtain ⟨od,J,hl⟩:=I.look;exact PySem.W.method_fn X J (PySem.W.plainGet_of hg).1 (PySem.W.plainGet_of hg).2 hf (beq_iff_eq.mp ht) (by show (PySem.W.lookIn name od).map (·.isSome)=some false;rw [hl,hv];rfl) h
theorem Wj (X:K.In s.heap) (I:w6 s.heap x dx C mA)
 (hs:PySem.W.findIn K (.ref C) "__setattr__"=some (some (.builtin "object.__setattr__"))) (hp:PySem.W.plainOver K C=true) (ht:PySem.W.takerIn K C name=some none) (hh:PySem.W.hasDictIn K C=true)
 (hw:PySem.Within mA ns) (hsz:ns.length<=sizeLine)
 (h:∀h',w6 h' x dx C (fun y=>if y=name then some v else mA y)->Heap.SameBut dx s.heap h'->Q () { s with heap:=h',toks:=s.toks+2 }):
 wpAny (model prog w) A (setAttr (.ref x) name v) Q E s:=by
 obtain ⟨od,J,hl⟩:=I.look;refine PySem.W.set_plain X J hs (PySem.W.osa_open (s:={ s with toks:=s.toks+1 }) (r:=none) X J hp ht fun b=>?_);obtain ⟨cd,hc,uI⟩:=PySem.W.any_some hh;have hx:s.heap.get? x=some ⟨.ref C,some dx,.plain,#[]⟩:=I.obj;refine aj (bz (aj (aj (wpAny_loadPart hx (aj (PySem.W.Looks.here (s:={ s with toks:=s.toks+1 }) (PySem.W.looks_clsIn X hc) ?_))))));rw [uI];refine bz (a:=some dx) (aj (bz (aj ?_)));refine wpAny_nsSet1 (s:={ s with toks:=s.toks+1 }) I.ns fun h' sr lh=>?_;obtain ⟨oD,esD,epD,hoD,hdD,hcD⟩:=sr.count (PySem.Within.cons name v hw);refine aj (wpAny_lookBehind hoD (by rw [hdD];exact pastItsLine_dict (dY hcD (by rw [lT];lia))) ?_);exact bz (h _ ⟨(lh.2 _ (bp I.ne)).trans I.obj,sr,I.ne⟩ lh)
theorem Wv (X:K.In s.heap) (hm:PySem.W.makesIn K C=true)
 (hi:PySem.W.findIn K (.ref C) "__init__"=some (some (.ref f))) (hf:PySem.W.typeIn K (.ref f)=some (.type "function"))
 (h:codeAny (model prog w) (A.under (.builtin "type.__call__" ⟨.ref C::vs,kw⟩)) (.call (.ref f) ⟨.ref (s.heap.objs.size+1)::vs,kw⟩) (PySem.W.InitBack (s.heap.objs.size+1) R)
  { s with heap:=(s.heap.push PySem.W.emptyDict).push (PySem.W.instObj C s.heap.objs.size) }):
 codeAny (model prog w) A (.call (.ref C) ⟨vs,kw⟩) R s:=by
 obtain ⟨hh,g,d,t,os⟩:=s;exact PySem.W.make_core (PySem.W.makes_of X hm) (PySem.W.looks_findIn X hi) (fun self=>PySem.W.bind_fn X self hf) (.inl rfl) h
end
noncomputable def ak (f:Str) (v:V):List (Str×V)->List (Str×V)
 | []=>[(f,v)]
 | (g,x)::r=>if g=f then (g,v)::r else (g,x)::ak f v r
theorem lL (f g:Str) (v:V):∀fs:List (Str×V),(ak f v fs).lookup g=if g=f then some v else fs.lookup g
 | []=>by
  show List.lookup g [(f,v)]=_
  by_cases h:g=f
  ·have hb:(g==f)=true:=beq_iff_eq.mpr h;simp only [List.lookup,hb,if_pos h]
  ·have hb:(g==f)=false:=beq_eq_false_iff_ne.mpr h;simp only [List.lookup,hb,if_neg h]
 | (k,x)::r=>by
  have ih:=lL f g v r;rw [show ak f v ((k,x)::r)=(if k=f then (k,v)::r else (k,x)::ak f v r) from rfl]
  by_cases hk:k=f
  ·rw [if_pos hk]
   by_cases h:g=k
   ·have hb:(g==k)=true:=beq_iff_eq.mpr h;simp only [List.lookup,hb,if_pos (h.trans hk)]
   ·have hb:(g==k)=false:=beq_eq_false_iff_ne.mpr h;simp only [List.lookup,hb,if_neg (fun e:g=f=>h (e.trans hk.symm))]
  ·rw [if_neg hk]
   by_cases h:g=k
   ·have hb:(g==k)=true:=beq_iff_eq.mpr h;simp only [List.lookup,hb,if_neg (fun e:g=f=>hk (h.symm.trans e))]
   ·have hb:(g==k)=false:=beq_eq_false_iff_ne.mpr h;simp only [List.lookup,hb];exact ih
theorem II (f:Str) (v:V):∀fs:List (Str×V),f∈(ak f v fs).map (·.1)/\∀g,g∈fs.map (·.1)->g∈(ak f v fs).map (·.1)
 | []=>⟨by simp [ak],fun g h=>by simp at h⟩
 | (k,x)::r=>by
  obtain ⟨i1,i2⟩:=II f v r;rw [show ak f v ((k,x)::r)=(if k=f then (k,v)::r else (k,x)::ak f v r) from rfl]
  by_cases hk:k=f
  ·rw [if_pos hk];subst hk;exact ⟨by simp,fun g h=>by simpa using h⟩
  ·rw [if_neg hk];refine ⟨?_,fun g h=>?_⟩
   ·rw [fU];exact jl _ i1
   ·rw [fU] at h ⊢;rcases iJ.mp h with e | e
    ·exact iJ.mpr (.inl e)
    ·exact jl _ (i2 g e)
theorem Q8 (f:Str) (v:V):∀fs:List (Str×V),(ak f v fs).length<=fs.length+1
 | []=>by simp [ak]
 | (k,x)::r=>by
  have ih:=Q8 f v r;rw [show ak f v ((k,x)::r)=(if k=f then (k,v)::r else (k,x)::ak f v r) from rfl]
  by_cases hk:k=f
  ·rw [if_pos hk,lT,lT];exact Nat.le.step Nat.le.refl
  ·rw [if_neg hk,lT,lT];lia
theorem lE.some_of (r:lE (some v) o):∃u,o=some u/\cx v u:=by
 cases o with
 | none=>exact (show False from r).elim
 | some u=>exact ⟨u,rfl,r⟩
theorem lE.none_of (r:lE none o):o=none:=by
 cases o with
 | none=>rfl
 | some u=>exact (show False from r).elim
theorem Xo (r:cx v u):PySem.W.handedIn u=true:=by
 cases v with
 | bf=>cases (show u=Value.none from r);rfl
 | bl b=>cases (show u=Value.bool b from r);rfl
 | int i=>obtain ⟨t,e⟩:=(show ∃t,u=Value.int i t from r);cases e;rfl
 | str x=>obtain ⟨t,e⟩:=(show ∃t,u=Value.str x t from r);cases e;rfl
 | oX b=>obtain ⟨t,e⟩:=(show ∃t,u=Value.bytes b t from r);cases e;rfl
 | Cc b=>obtain ⟨t,e⟩:=(show ∃t,u=Value.float b t from r);cases e;rfl
 | ref a=>cases (show u=Value.ref a from r);rfl
 | ty n=>cases (show u=Value.type n from r);rfl
section
variable {P:Program} {w:World} {H H':Hp} {h h':Heap} {a C dx:Addr} {fs zO:List (Str×V)}
theorem Im (ae:d_ P w H h) (e:H a=some (.ins C dx fs)):∃mA,w6 h a dx C mA/\(∀f,lE (fs.lookup f) (mA f))/\PySem.Within mA (fs.map (·.1))/\fs.length<=1000/\H dx=some (.own a):=by
 obtain ⟨d,z,ne,ob,mA,n,r,q⟩:=(show fv P w H h a (.ins C dx fs) from ae a _ e);exact ⟨mA,⟨ob,n,ne⟩,r,q,z,d⟩
end
structure oZ (K:aL) (C:Addr):Prop where
 pg:PySem.W.plainGet K C Str.empty=true
 hd:PySem.W.hasDictIn K C=true
 po:PySem.W.plainOver K C=true
 sa:PySem.W.findIn K (.ref C) "__setattr__"=some (some (.builtin "object.__setattr__"))
theorem oZ.get {K:aL} {C:Addr} (c:oZ K C) (f:Str):PySem.W.plainGet K C f=true:=c.pg
noncomputable def jn (K:aL) (C:Addr) (f:Str):Prop:=PySem.W.findIn K (.ref C) f=some none
theorem jn.AZ {K:aL} {C:Addr} {f:Str} (n:jn K C f):PySem.W.takerIn K C f=some none:=by
 unfold PySem.W.takerIn;rw [show PySem.W.findIn K (.ref C) f=some none from n];rfl
structure gq (K:aL) (C:Addr) (m:Str) (f:Addr):Prop where
 at_:PySem.W.findIn K (.ref C) m=some (some (.ref f))
 fn:PySem.W.isFn K (.ref f)=true
 kp:PySem.W.keepIn K (.ref f)=true
section
variable {X:Cx} {pins:List (Addr×Obj)} {σ:St} {H:Hp} {s:Shared} {a C dx:Addr} {fs:List (Str×V)} {f:Str} {v:V} {A:Around} {E:Value->Shared->Prop}
theorem Qs (I:Inv X pins σ H s) (e:H a=some (.ins C dx fs)) (c:oZ X.K C) (n:jn X.K C f) (l:fs.lookup f=some v)
 (h:∀u s',Inv X pins σ H s'->cx v u->Q u s'):wpAny (model X.prog X.w) A (getAttr (.ref a) f b) Q E s:=by
 obtain ⟨mA,O,r,_,_,_⟩:=Im I.ae e;obtain ⟨u,hu,ru⟩:=lE.some_of (v:=v) (o:=mA f) (by rw [<-l];exact r f);exact VQ I.lN O (c.get f) c.hd n hu (Xo ru) (h u _ (I.tok _) ru)
theorem Qt (I:Inv X pins σ H s) (e:H a=some (.ins C dx fs)) (c:oZ X.K C) (k:gq X.K C m g) (l:fs.lookup m=none)
 (h:Q (.ref g,[.ref a]) s):wpAny (model X.prog X.w) A (getMethod (.ref a) m pl) Q E s:=by
 obtain ⟨mA,O,r,_,_,_⟩:=Im I.ae e;have hn:mA m=none:=lE.none_of (by rw [<-l];exact r m);exact WS I.lN O (c.get m) k.at_ k.fn hn h
theorem Qw (I:Inv X pins σ H s) (e:H a=some (.ins C dx fs)) (c:oZ X.K C) (n:jn X.K C f) (hl:fs.length<1000) (ry:cx y u)
 (h:∀s',Inv X pins σ (upd H a (.ins C dx (ak f y fs))) s'->Q () s'):wpAny (model X.prog X.w) A (setAttr (.ref a) f u) Q E s:=by
 obtain ⟨mA,O,r,wi,_,ho⟩:=Im I.ae e;have hz:(fs.map (·.1)).length<=sizeLine:=by rw [a7,sizeLine_eq];lia
 refine Wj I.lN O c.sa c.po n.AZ c.hd wi hz fun h' O' sb=>h _ ?_;have hd:∃o,h'.get? dx=some o:=let ⟨o,_,_,e',_⟩:=O'.ns;⟨o,e'⟩;refine I.write (x:=a) (e:=dx) (by rw [e];exact True.intro) (.inr ho) (fun b q hb z=>(sb.2 b hb).trans z) hd ?_;refine ⟨by rw [au O.ne];exact ho,?_,O.ne,O'.obj,_,O'.ns,fun g=>?_,fun g hg=>?_⟩
 ·have:=Q8 f y fs;lia
 ·show lE ((ak f y fs).lookup g) (if g=f then some u else mA g);rw [lL]
  by_cases q:g=f
  ·rw [if_pos q,if_pos q];exact ry
  ·rw [if_neg q,if_neg q];exact r g
 ·by_cases q:g=f
  ·rw [q];exact (II f y fs).1
  ·refine (II f y fs).2 g (wi g fun z=>hg ?_);show (if g=f then some u else mA g)=none;rw [if_neg q];exact z
theorem Inv.made (I:Inv X pins σ H s):Inv X pins σ (upd (upd H s.heap.objs.size (.own (s.heap.objs.size+1))) (s.heap.objs.size+1) (.ins C s.heap.objs.size []))
 { s with heap:=(s.heap.push PySem.W.emptyDict).push (PySem.W.instObj C s.heap.objs.size) }:=by
 have e1:(s.heap.push PySem.W.emptyDict).get? s.heap.objs.size=some PySem.W.emptyDict:=jI s.heap rfl;have e2:((s.heap.push PySem.W.emptyDict).push (PySem.W.instObj C s.heap.objs.size)).get? (s.heap.objs.size+1)=some (PySem.W.instObj C s.heap.objs.size):=by
  have:=jI (s.heap.push PySem.W.emptyDict) (o:=PySem.W.instObj C s.heap.objs.size) rfl
  rwa [Heap.size_push] at this
 have e3:(s.heap.push PySem.W.emptyDict).Ns s.heap.objs.size (fun _=>none):=⟨PySem.W.emptyDict,#[],_,e1,rfl,(fun e he=>absurd he (by simp)),fun _=>rfl⟩;have I1:=I.laid (a:=s.heap.objs.size) (o:=.own (s.heap.objs.size+1)) (h':=s.heap.push PySem.W.emptyDict) (t':=s.toks) (fun b u q=>eI _ q) (aF _) ⟨_,e1⟩;refine I1.laid (a:=s.heap.objs.size+1) (o:=.ins C s.heap.objs.size []) (t':=s.toks) (fun b u q=>eI _ q) (Nat.le_of_eq (Heap.size_push _ _)) ?_;have ne:s.heap.objs.size≠s.heap.objs.size+1:=gG (Nat.lt_succ_self _);refine ⟨by rw [au ne,aq],dM _,ne,e2,fun _=>none,(Heap.Ns1.of_empty e3).at fun o q=>eI _ q,fun _=>True.intro,fun y hy=>absurd rfl hy⟩
theorem VI {w:World} (hb:attributeBase e f env (eval e env)=eval e env)
 (h:wpAny (model prog w) A (eval e env) (fun o aJ=>wpAny (model prog w) A (getAttr o f true) Q E aJ) E s):wpAny (model prog w) A (eval (.Attribute e f pos) env) Q E s:=
 Attribute_any_ h (by rw [arm_eval_Attribute,hb])
end
noncomputable def Rg (K:aL) (ta:TE) (f:Str):TE:=fun σ H Q=>ta σ H fun x H1=>∃a C dx fs v,x=.ref a/\H1 a=some (.ins C dx fs)/\oZ K C/\jn K C f/\fs.lookup f=some v/\Q v H1
noncomputable def Zy (K:aL) (ta tv:TE) (f:Str):TS:=fun D σ H=>tv σ H fun y H1=>ta σ H1 fun x H2=>∃a C dx fs,x=.ref a/\H2 a=some (.ins C dx fs)/\oZ K C/\jn K C f/\fs.length<1000/\
 D.nx σ (upd H2 a (.ins C dx (ak f y fs)))
noncomputable def QM (X:Cx) (op:Operator) (rd:V->V->Hp->VK->Prop):Prop:=
 ∀(pins:List (Addr×Obj)) (s:Shared) (σ:St) (H:Hp) (x y:V) (u v:Value) (Q:VK),Inv X pins σ H s->cx x u->cx y v->rd x y H Q->wpAny (model X.prog X.w) X.A (inplaceOp op u v) (EP X pins σ Q) X.xe s
noncomputable def Wi (K:aL) (ta tv:TE) (rd:V->V->Hp->VK->Prop) (f:Str):TS:=fun D σ H=>ta σ H fun x H1=>∃a C dx fs v,x=.ref a/\H1 a=some (.ins C dx fs)/\oZ K C/\jn K C f/\fs.lookup f=some v/\
 tv σ H1 fun y H2=>rd v y H2 fun z H3=>∃Cs zO,H3 a=some (.ins C Cs zO)/\zO.length<1000/\D.nx σ (upd H3 a (.ins C Cs (ak f z zO)))
section
variable {X:Cx} {o e value:Expr} {f:Str} {pos pos' AX:Pos} {ta tv:TE}
theorem cS (he:PE X e ta) (hb:attributeBase e f X.env (eval e X.env)=eval e X.env):PE X (.Attribute e f pos) (Rg X.K ta f):=by
 intro pins s σ H Q I h;refine VI hb (aA (he pins s σ H _ I h) fun u s1 zz=>?_);obtain ⟨x,H1,I1,rx,a,C,dx,fs,v,ex,ea,c,n,l,q⟩:=zz;subst ex;obtain rfl:u=Value.ref a:=rx;exact Qs I1 ea c n l fun u' s2 I2 ru=>⟨v,H1,I2,ru,q⟩
theorem lJ (ha:PE X o ta) (hv:PE X value tv) (hs:swapsWith value (some (.Attribute o f pos')) pos.line X.env=pure false):PS X (.Assign [.Attribute o f pos'] value pos) (Zy X.K ta tv f):=by
 intro pins s σ H D I h;refine plainObj_wpAny_Assign_Attribute (aA (hv pins s σ H _ I h) fun u s1 zz=>L2.ft zz fun y H1 I1 ry q=>aA (ha pins s1 σ H1 _ I1 q) fun ov s2 zz=>?_) hs;obtain ⟨x,H2,I2,rx,a,C,dx,fs,ex,ea,c,n,l,q2⟩:=zz;subst ex;obtain rfl:ov=Value.ref a:=rx;exact Qw I2 ea c n l ry fun s3 I3=>⟨σ,_,I3,q2⟩
theorem X1 (ha:PE X o ta) (hv:PE X value tv) (hop:QM X op rd):PS X (.AugAssign (.Attribute o f AX) op value pos) (Wi X.K ta tv rd f):=by
 intro pins s σ H D I h;refine wpAny_AugAssign_AttributeAny (aA (ha pins s σ H _ I h) fun ov s1 zz=>?_);obtain ⟨x,H1,I1,rx,a,C,dx,fs,v,ex,ea,c,n,l,q⟩:=zz;subst ex;obtain rfl:ov=Value.ref a:=rx;refine Qs I1 ea c n l fun u s2 I2 ru=>aA (hv pins s2 σ H1 _ I2 q) fun w3 s3 zz=>L2.ft zz fun y H2 I3 ry q3=>aA (hop pins s3 σ H2 v y u w3 _ I3 ru ry q3) fun w4 s4 zz=>?_;obtain ⟨z,H3,I4,rz,Cs,zO,ea',l',q4⟩:=zz;exact Qw I4 ea' c n l' rz fun s5 I5=>⟨σ,_,I5,q4⟩
noncomputable def YU:V->V->Hp->VK->Prop:=fun x y H Q=>∃i j,x=.int i/\y=.int j/\Q (.int (i+j)) H
theorem US:QM X .Add YU:=by
 rintro pins s σ H x y u v Q I rx ry ⟨i,j,rfl,rfl,q⟩;obtain ⟨t,rfl⟩:=(show ∃t,u=Value.int i t from rx);obtain ⟨t',rfl⟩:=(show ∃t',v=Value.int j t' from ry);exact PyProof.Rows.iadd_int ⟨.int (i+j),H,I.tok _,⟨_,rfl⟩,q⟩
end
section
variable {X:Cx} {pins:List (Addr×Obj)} {σ:St} {H:Hp} {s:Shared} {A:Around} {E:Value->Shared->Prop} {Q:Value->Shared->Prop} {c:Value} {b:Bool}
end
structure dn (k:Nat) (A:Around):Prop where
 hd:A.handled=none
 dp:A.depth+3*k+5<recursionLimit
 un:A.units+16*k+200<cLine
theorem dn.mono (r:dn k A) (h:j<=k):dn j A:=⟨r.hd,by have:=r.dp;lia,by have:=r.un;lia⟩
theorem dn.deeper (r:dn (k+1) A) (env:Env):dn k (A.deeper env):=
 ⟨r.hd,by have:=r.dp;show A.depth+1+3*k+5<_;lia,by have:=r.un;show A.units+3+16*k+200<_;lia⟩
theorem X_ {A:Around} {C:Addr} {us:List Value} {kw:List (Str×Value)}:(A.under (.builtin "type.__call__" ⟨.ref C::us,kw⟩)).depth=A.depth+1:=by
 first | rfl | simp [Around.under,Code.weight,Code.isCreation,Code.isGuard,Code.isCaller,Code.frames,Code.isFrame,guardIds]
theorem Ya {A:Around} {C:Addr} {us:List Value} {kw:List (Str×Value)}:(A.under (.builtin "type.__call__" ⟨.ref C::us,kw⟩)).units=A.units+1:=by
 first | rfl | simp [Around.under,Code.cUnits,Code.frames,Code.isFrame]
theorem dn.make (r:dn (k+1) A) (C:Addr) (us:List Value) (kw:List (Str×Value)):dn k (A.under (.builtin "type.__call__" ⟨.ref C::us,kw⟩)):=
 ⟨r.hd,by have:=r.dp;rw [X_];lia,by have:=r.un;rw [Ya];lia⟩
theorem dn.depth (r:dn k A):A.depth<recursionLimit:=by have:=r.dp;lia
theorem dn.units (r:dn k A):A.units+64<cLine:=by have:=r.un;lia
noncomputable def rO:TA:=fun _ H Q=>Q [] H
noncomputable def kN (ta:TE) (tr:TA):TA:=fun σ H Q=>ta σ H fun x H1=>tr σ H1 fun xs H2=>Q (x::xs) H2
section
variable {X:Cx} {e:Expr} {es:List Expr} {te:TE} {t:TA} {pos:Pos}
theorem nH:PA X [] rO:=fun _ _ _ _ H Q I h=>Calls.spliced_nil ⟨[],H,I,.nil,h⟩
theorem tw (ha:PE X e te) (hr:PA X es t) (hs:starEach (e::es) X.env=(false,eval e X.env)::starEach es X.env:=by rfl):PA X (e::es) (kN te t):=by
 intro pos pins s σ H Q I h;rw [hs];show wpAny _ _ (spliced ((false,eval e X.env)::backTo pos (starEach es X.env))) _ _ s;refine Calls.spliced_cons (aA (ha pins s σ H _ I h) fun u s1 zz=>?_);obtain ⟨x,H1,I1,r1,q1⟩:=zz;exact aA (hr pos pins s1 σ H1 _ I1 q1) fun us s2 zz=>L2.ft zz fun xs H2 I2 r2 q2=>⟨x::xs,H2,I2,.cons r1 r2,q2⟩
theorem eW {n:Nat} (h:Nat.ble n sizeLine=true):n<=sizeLine:=Nat.le_of_ble_eq_true h
theorem cI {X:Cx} {x:Str} {e:Expr} {te:TE} {pos pos':Pos} (i:Nat) (hN:X.N.Nodup) (he:PE X e te) (hi:X.N[i]?=some x:=by rfl) (hx:Loc X.env.scope x:=by exact Or.inl rfl) (hs:swapsWith e (some (.Name x pos')) pos.line X.env=pure false:=by rfl) (hf:X.fn x=true\/X.env.scope.names.lookup x=some .local:=by first | exact .inl rfl | exact .inr rfl | assumption):PS X (.Assign [.Name x pos'] e pos) (Ag te (wI i)):=tj (i:=i) hN hi hx he hs hf
theorem cj {X:Cx} {x:Str} {pos:Pos} (i:Nat) (hN:X.N.Nodup) (hi:X.N[i]?=some x:=by rfl) (hx:Loc X.env.scope x:=by exact Or.inl rfl) (hf:X.fn x=true\/X.env.scope.names.lookup x=some .local:=by first | exact .inl rfl | exact .inr rfl | assumption):PG X (.Name x pos) (wI i):=OD (i:=i) hN hi hx hf
theorem cw {X:Cx} {a:Expr} {ta:TE} (ha:PE X a ta) (hs:starEach [a] X.env=(false,eval a X.env)::starEach [] X.env:=by rfl):PA X [a] (kN ta rO):=tw ha nH hs
theorem cf {X:Cx} {a b:Expr} {ta tb:TE} (ha:PE X a ta) (hb:PE X b tb) (hs:starEach [a,b] X.env=(false,eval a X.env)::starEach [b] X.env:=by rfl) (lh:starEach [b] X.env=(false,eval b X.env)::starEach [] X.env:=by rfl):PA X [a,b] (kN ta (kN tb rO)):=tw ha (cw hb lh) hs
theorem gD {X:Cx} {a b c:Expr} {ta tb tc:TE} (ha:PE X a ta) (hb:PE X b tb) (hc:PE X c tc) (hs:starEach [a,b,c] X.env=(false,eval a X.env)::starEach [b,c] X.env:=by rfl) (lh:starEach [b,c] X.env=(false,eval b X.env)::starEach [c] X.env:=by rfl) (qR:starEach [c] X.env=(false,eval c X.env)::starEach [] X.env:=by rfl):PA X [a,b,c] (kN ta (kN tb (kN tc rO))):=tw ha (cf hb hc lh qR) hs
theorem pD {X:Cx} {a b c d:Expr} {ta tb tc td:TE} (ha:PE X a ta) (hb:PE X b tb) (hc:PE X c tc) (hd:PE X d td) (hs:starEach [a,b,c,d] X.env=(false,eval a X.env)::starEach [b,c,d] X.env:=by rfl) (lh:starEach [b,c,d] X.env=(false,eval b X.env)::starEach [c,d] X.env:=by rfl) (qR:starEach [c,d] X.env=(false,eval c X.env)::starEach [d] X.env:=by rfl) (so:starEach [d] X.env=(false,eval d X.env)::starEach [] X.env:=by rfl):PA X [a,b,c,d] (kN ta (kN tb (kN tc (kN td rO)))):=tw ha (gD hb hc hd lh qR so) hs
noncomputable def Hj (t:TA):TE:=fun σ H Q=>t σ H fun xs H1=>xs.length<=sizeLine/\∀p,H1 p=none->Q (.ref p) (upd H1 p (.tup xs))
noncomputable def Zt (t:TA):TE:=fun σ H Q=>t σ H fun xs H1=>xs.length<=sizeLine/\∀p,H1 p=none->Q (.ref p) (upd H1 p (.lst xs))
theorem eU {x1} (h:PA X es t):PE X (.Tuple es x1 pos) (Hj t):=by
 intro pins s σ H Q I hq;refine wpAny_Tuple_spliced (aA (h pos pins s σ H _ I hq) fun us s1 zz=>?_);obtain ⟨xs,H1,I1,r,z,q⟩:=zz;refine ⟨by rw [<-r.length];exact z,?_⟩;have hf:H1 s1.heap.objs.size=none:=I1.ae.fresh (aF _);refine ⟨.ref s1.heap.objs.size,upd H1 s1.heap.objs.size (.tup xs),I1.laid (t':=s1.toks) (fun b u e=>eI _ e) (aF _) ?_,rfl,q _ hf⟩;exact ⟨z,us,r,⟨_,jI _ rfl,rfl,_,rfl⟩⟩
theorem jN (h:PA X es t):PE X (.List es pos) (Zt t):=by
 intro pins s σ H Q I hq;refine wpAny_List_spliced (aA (h pos pins s σ H _ I hq) fun us s1 zz=>?_);obtain ⟨xs,H1,I1,r,z,q⟩:=zz;refine ⟨by rw [<-r.length];exact z,?_⟩;have hf:H1 s1.heap.objs.size=none:=I1.ae.fresh (aF _);refine ⟨.ref s1.heap.objs.size,upd H1 s1.heap.objs.size (.lst xs),I1.laid (t':=s1.toks) (fun b u e=>eI _ e) (aF _) ?_,rfl,q _ hf⟩;exact ⟨z,us,0,r,jI _ rfl⟩
end
noncomputable abbrev Sp:=List V->Hp->VK->XK->Prop
noncomputable abbrev km:=List Env->Hp->Shared->XK->Value->Shared->Prop
structure sT (P:Program) (w:World) (K:aL) (mg:Str->Option Value) (base:Heap) (A:Around) (outer:List Env) (s:Shared) (H:Hp):Prop where
 frames:A.frames=some outer
 mod:Mod K mg base
 bs:∀b o,base.get? b=some o->s.heap.get? b=some o/\H b=none
 sO:base.objs.size<=s.heap.objs.size
 ip:s.heap.FunFrames base outer
 wj:∀b∈rm outer,H b=none
 ae:d_ P w H s.heap
 bare:AllBare s.gens
noncomputable def CE (outer:List Env) (P:Program) (w:World) (H:Hp) (s:Shared) (Q:VK) (u:Value) (s':Shared):Prop:=
 ∃v H',s'.os=s.os/\AllBare s'.gens/\Un (rm outer) [] H H' s.heap s'.heap/\d_ P w H' s'.heap/\cx v u/\Q v H'
noncomputable def CR (CX:km) (outer:List Env) (P:Program) (w:World) (H:Hp) (s:Shared) (Q:VK) (E:XK) (r:Result) (s':Shared):Prop:=
 match r with
 | .ok (.ret u)=>CE outer P w H s Q u s'
 | .ok _=>False
 | .error e=>CX outer H s E e s'
structure aw (P:Program) (w:World) (K:aL) (mg:Str->Option Value) (base:Heap) (CX:km) (k:Nat) (f:Addr) (fd:FuncData) (ps:List Str) (sp:Sp):Prop where
 len:∀vs H Q E,sp vs H Q E->vs.length=ps.length
 run:∀(A:Around) (outer:List Env) (s:Shared) (H:Hp) (args:Args) (us:List Value) (vs:List V) (Q:VK) (E:XK),dn k A->sT P w K mg base A outer s H->BindsTo s fd args (ps.zip us)->bw vs us->sp vs H Q E->
  codeAny (model P w) A (.call (.ref f) args) (CR CX outer P w H s Q E) s
theorem sT.make {P:Program} {w:World} {K:aL} {mg:Str->Option Value} {base:Heap} {A:Around} {outer:List Env} {s:Shared} {H:Hp} (e:sT P w K mg base A outer s H) (C:Addr) (us:List Value) (kw:List (Str×Value)):
 sT P w K mg base (A.under (.builtin "type.__call__" ⟨.ref C::us,kw⟩)) outer s H:=⟨by first | exact e.frames | (simpa [Around.under,Code.envs,Code.isFrame,pushEnvs] using e.frames),e.mod,e.bs,e.sO,e.ip,e.wj,e.ae,e.bare⟩
section
variable {X:Cx} {pins:List (Addr×Obj)} {σ:St} {H:Hp} {s s':Shared}
theorem Inv.Co (I:Inv X pins σ H s):sT X.prog X.w X.K X.mg X.base X.A X.stack s H:=
 ⟨I.ok.frames,I.ok.mod,I.bs,dY I.ok.sO I.sz,I.stack,I.nP,I.ae,I.bare⟩
theorem Inv.after (I:Inv X pins σ H s) (h:CE X.stack X.prog X.w H s Q u s'):EP X pins σ Q u s':=by
 obtain ⟨v,H',os,bare,un,ae,r,q⟩:=h;obtain ⟨hh,g,d,t,os'⟩:=s';obtain rfl:os'=s.os:=os;exact ⟨v,H',I.call (h':=hh) (g':=g) (d':=d) (t':=t) (ch:=[]) un ae bare (fun b z=>absurd z (by simp)),r,q⟩
end
noncomputable def MI (sp:Sp) (ji:List V) (E:XK) (t:TA):TE:=fun σ H Q=>t σ H fun vs H1=>sp (vs++ji) H1 Q E
noncomputable def Hs (C:Addr) (m:Str) (sp:Sp) (ji:List V) (E:XK) (ta:TE) (t:TA):TE:=fun σ H Q=>ta σ H fun x H1=>∃a dx fs,x=.ref a/\H1 a=some (.ins C dx fs)/\fs.lookup m=none/\
 t σ H1 fun vs H2=>sp (x::(vs++ji)) H2 Q E
noncomputable def T_ (C:Addr) (sp:Sp) (ji:List V) (E:XK) (t:TA):TE:=fun σ H Q=>t σ H fun vs H1=>∀x dx,H1 x=none->H1 dx=none->dx≠x->
 sp (.ref x::(vs++ji)) (upd (upd H1 dx (.own x)) x (.ins C dx [])) (fun v H2=>v=.bf/\Q (.ref x) H2) E
noncomputable def dP (K:aL) (fd:FuncData) (ps:List Str) (ds:List Value):Prop:=
 ∀(s:Shared) (us:List Value),K.In s.heap->(us++ds).length=ps.length->BindsTo s fd ⟨us,[]⟩ (ps.zip (us++ds))
theorem dP.all {K:aL} {fd:FuncData} {ps:List Str} (h:∀us:List Value,us.length=ps.length->bindArgs fd ⟨us,[]⟩=pure (ps.zip us)):dP K fd ps []:=fun s us _ hl=>by
 rw [List.append_nil] at hl ⊢;exact .of_eq (h us hl)
noncomputable def wL (CX:km) (X:Cx) (E:XK):Prop:=∀(pins:List (Addr×Obj)) (σ:St) (H:Hp) (s:Shared) (e:Value) (s':Shared),Inv X pins σ H s->CX X.stack H s E e s'->X.xe e s'
section
variable {X:Cx} {CX:km} {k:Nat} {f C:Addr} {fd:FuncData} {ps:List Str} {sp:Sp} {ji:List V} {ds:List Value} {E:XK} {x m:Str} {p pos apos:Pos} {e o:Expr} {es:List Expr} {ta:TE} {t:TA}
theorem HH (F:aw X.prog X.w X.K X.mg X.base CX k f fd ps sp) (hr:dn k X.A) (hb:dP X.K fd ps ds) (hd:bw ji ds) (hx:wL CX X E)
 (I:Inv X pins σ H s) (r:bw vs us) (h:sp (vs++ji) H Q E):wpAny (model X.prog X.w) X.A (call (.ref f) us) (EP X pins σ Q) X.xe s:=by
 have r2:bw (vs++ji) (us++ds):=r.append hd;have hl:(us++ds).length=ps.length:=by rw [<-r2.length];exact F.len _ _ _ _ h
 refine wpAny_call (codeAny_mono (F.run X.A X.stack s H ⟨us,[]⟩ (us++ds) (vs++ji) Q E hr I.Co (hb s us I.lN hl) r2 h) fun r s' hq=>?_)
 cases r with
 | error e=>exact hx pins σ H s e s' I hq
 | ok fl=>
  cases fl with
  | ret u=>exact I.after hq
  | next=>exact False.elim hq
  | brk=>exact False.elim hq
  | cont=>exact False.elim hq
theorem VC (F:aw X.prog X.w X.K X.mg X.base CX k f fd ps sp) (hr:dn k X.A) (hg:Gl X x) (hm:X.mg x=some (.ref f)) (hk:PySem.W.keepIn X.K (.ref f)=true) (hb:dP X.K fd ps ds) (hd:bw ji ds) (hx:wL CX X E)
 (ha:PA X (e::es) t) (uH:(x==("__debug__":Str))=false:=by decide) (he:starEach (e::es) X.env=(false,eval e X.env)::starEach es X.env:=by rfl) (gy:(backTo pos (starEach es X.env)).any (·.1)=false:=by rfl):
 PE X (.Call (.Name x p) (e::es) [] pos) (MI sp ji E t):=by
 intro pins s σ H Q I h;refine wpAny_Call_Name_kw (HR I hg hm ?_ uH);refine PySem.W.callWith_K (h₀:=X.base) I.ok.mod.zC hk (aA (ha pos pins s σ H _ I h) fun us s1 zz=>L2.ft zz fun vs H1 I1 r q=>⟨I1.lN,?_⟩) he gy;exact HH F hr hb hd hx I1 r q
theorem gX (he:PE X o ta) (c:oZ X.K C) (hm:gq X.K C m f) (F:aw X.prog X.w X.K X.mg X.base CX k f fd ps sp) (hr:dn k X.A) (hb:dP X.K fd ps ds) (hd:bw ji ds) (hx:wL CX X E) (ha:PA X (e::es) t)
 (oQ:starEach (e::es) X.env=(false,eval e X.env)::starEach es X.env:=by rfl) (gy:(backTo pos (starEach es X.env)).any (·.1)=false:=by rfl)
 (ht:eval (.Call (.Attribute o m apos) (e::es) [] pos) X.env=(do
  let ov <-eval o X.env
  standAt apos.atName
  let (f,first) <-holding [ov] (getMethod ov m pl)
  callWith pos f first (backTo pos (starEach (e::es) X.env)) (backToKw pos (keywordEach [] X.env))):=by rfl):
 PE X (.Call (.Attribute o m apos) (e::es) [] pos) (Hs C m sp ji E ta t):=by
 intro pins s σ H Q I h;refine PySem.W.methodCall_KW (pl:=pl) (aA (he pins s σ H _ I h) fun u s1 zz=>?_) ht;obtain ⟨x,H1,I1,rx,a,dx,fs,ex,ea,l,q⟩:=zz;subst ex;obtain rfl:u=Value.ref a:=rx;refine Qt I1 ea c hm l ?_;refine PySem.W.callWith_K (first:=[.ref a]) (h₀:=X.base) I.ok.mod.zC hm.kp (aA (ha pos pins s1 σ H1 _ I1 q) fun us s2 zz=>L2.ft zz fun vs H2 I2 r q2=>⟨I2.lN,?_⟩) oQ gy;exact HH (us:=.ref a::us) (vs:=.ref a::vs) F hr hb hd hx I2 (.cons rfl r) q2
theorem vw (he:PE X o ta) (c:oZ X.K C) (hm:gq X.K C m f) (F:aw X.prog X.w X.K X.mg X.base CX k f fd ps sp) (hr:dn k X.A) (hb:dP X.K fd ps ds) (hd:bw ji ds) (hx:wL CX X E)
 (ht:eval (.Call (.Attribute o m apos) [] [] pos) X.env=(do
  let ov <-eval o X.env
  standAt apos.atName
  let (f,first) <-holding [ov] (getMethod ov m pl)
  callWith pos f first (backTo pos (starEach [] X.env)) (backToKw pos (keywordEach [] X.env))):=by rfl):
 PE X (.Call (.Attribute o m apos) [] [] pos) (Hs C m sp ji E ta rO):=by
 intro pins s σ H Q I h;refine PySem.W.methodCall_KW (pl:=pl) (aA (he pins s σ H _ I h) fun u s1 zz=>?_) ht;obtain ⟨x,H1,I1,rx,a,dx,fs,ex,ea,l,q⟩:=zz;subst ex;obtain rfl:u=Value.ref a:=rx;refine Qt I1 ea c hm l ?_;exact PySem.W.callWith_K0 (first:=[.ref a]) I1.lN hm.kp (HH (us:=[.ref a]) (vs:=[.ref a]) F hr hb hd hx I1 (.cons rfl .nil) q)
structure Mk (K:aL) (C f:Addr):Prop where
 makes:PySem.W.makesIn K C=true
 init:PySem.W.findIn K (.ref C) "__init__"=some (some (.ref f))
 fn:PySem.W.isFn K (.ref f)=true
 kp:PySem.W.keepIn K (.ref C)=true
theorem Xg (M:Mk X.K C f) (F:aw X.prog X.w X.K X.mg X.base CX k f fd ps sp) (hr:dn (k+1) X.A) (hb:dP X.K fd ps ds) (hd:bw ji ds)
 (hx:wL CX X E) (I:Inv X pins σ H s) (r:bw vs us)
 (h:∀x dx,H x=none->H dx=none->dx≠x->sp (.ref x::(vs++ji)) (upd (upd H dx (.own x)) x (.ins C dx [])) (fun v H2=>v=.bf/\Q (.ref x) H2) E):
 wpAny (model X.prog X.w) X.A (call (.ref C) us) (EP X pins σ Q) X.xe s:=by
 have hq:=h (s.heap.objs.size+1) s.heap.objs.size (I.ae.fresh (pV _)) (I.ae.fresh (aF _)) (gG (Nat.lt_succ_self _));have I2:=Inv.made (C:=C) I;have r2:bw (V.ref (s.heap.objs.size+1)::(vs++ji)) (Value.ref (s.heap.objs.size+1)::(us++ds)):=.cons rfl (r.append hd);have hl:(Value.ref (s.heap.objs.size+1)::us++ds).length=ps.length:=by
  have e:=r2.length;rw [F.len _ _ _ _ hq] at e;exact e.symm
 refine wpAny_call (Wv (f:=f) I.lN M.makes M.init (beq_iff_eq.mp M.fn) (codeAny_mono (F.run _ X.stack _ _ ⟨Value.ref (s.heap.objs.size+1)::us,[]⟩ (Value.ref (s.heap.objs.size+1)::(us++ds)) _ _ E (hr.make C us [])
  (I2.Co.make C us []) (hb _ (Value.ref (s.heap.objs.size+1)::us) I2.lN hl) r2 hq) fun r s' jX=>?_))
 cases r with
 | error e=>exact hx pins σ _ _ e s' I2 jX
 | ok fl=>
  cases fl with
  | ret u=>
   obtain ⟨v,H',I3,rv,ev,q3⟩:=I2.after jX;subst ev;exact ⟨rv,⟨V.ref (s.heap.objs.size+1),H',I3,rfl,q3⟩⟩
  | next=>exact False.elim jX
  | brk=>exact False.elim jX
  | cont=>exact False.elim jX
theorem HV (M:Mk X.K C f) (F:aw X.prog X.w X.K X.mg X.base CX k f fd ps sp) (hr:dn (k+1) X.A) (hg:Gl X x) (hm:X.mg x=some (.ref C)) (hb:dP X.K fd ps ds) (hd:bw ji ds) (hx:wL CX X E)
 (ha:PA X (e::es) t) (uH:(x==("__debug__":Str))=false:=by decide) (he:starEach (e::es) X.env=(false,eval e X.env)::starEach es X.env:=by rfl) (gy:(backTo pos (starEach es X.env)).any (·.1)=false:=by rfl):
 PE X (.Call (.Name x p) (e::es) [] pos) (T_ C sp ji E t):=by
 intro pins s σ H Q I h;refine wpAny_Call_Name_kw (HR I hg hm ?_ uH);refine PySem.W.callWith_K (h₀:=X.base) I.ok.mod.zC M.kp (aA (ha pos pins s σ H _ I h) fun us s1 zz=>L2.ft zz fun vs H1 I1 r q=>⟨I1.lN,?_⟩) he gy;exact Xg M F hr hb hd hx I1 r q
end
section
variable {X:Cx} {CX:km} {k:Nat} {f C:Addr} {fd:FuncData} {ps ks:List Str} {sp:Sp} {E:XK} {x m:Str} {p pos apos kpos:Pos} {e o:Expr} {es:List Expr} {kws:List Keyword} {te ta:TE} {t tk:TA} {nm:Option Str}
variable {g:List Value->List Value->List Value} {gV:List V->List V->List V}
end
structure cF (N P:List Str) (sc:Scope):Prop where
 kind:sc.kind=.function
 co:sc.isCoroutine=false
 gen:sc.isGenerator=false
 nd:N.Nodup
 pre:N.take P.length=P
 par:∀x∈P,sc.names.lookup x=some .local\/sc.names.lookup x=some .cell
 qH:∀y∈sc.names,y.2≠.free
theorem cT {N P:List Str} {sc:Scope} (h1:sc.kind=.function:=by rfl) (h2:sc.isCoroutine=false:=by rfl) (h3:sc.isGenerator=false:=by rfl) (h4:N.Nodup:=by decide+kernel) (h5:N.take P.length=P:=by rfl) (h6:∀x∈P,sc.names.lookup x=some .local\/sc.names.lookup x=some .cell:=by decide+kernel) (h7:∀y∈sc.names,y.2≠.free:=by decide+kernel):cF N P sc:=⟨h1,h2,h3,h4,h5,h6,h7⟩
theorem P2 {kindOf:Str->Option NameKind} {x:Str}:∀{binds:List (Str×Value)} {m:Str->Option Value},(∀v,(x,v)∉binds)->bindL kindOf binds m x=m x
 | [],_,_=>rfl
 | (n,v)::r,m,h=>by
  unfold bindL;rw [P2 fun w hw=>h w (jl _ hw)];split
  ·have:x≠n:=by rintro rfl;exact h v iu
   simp [this]
  ·rfl
theorem P1 {kindOf:Str->Option NameKind} {x:Str}:∀{binds:List (Str×Value)} {m:Str->Option Value},(∀v,(x,v)∉binds)->bindC kindOf binds m x=m x
 | [],_,_=>rfl
 | (n,v)::r,m,h=>by
  unfold bindC;rw [P1 fun w hw=>h w (jl _ hw)];split
  ·rfl
  ·have:x≠n:=by rintro rfl;exact h v iu
   simp [this]
theorem IG {kindOf:Str->Option NameKind} {x:Str} {v:Value}:∀{P:List Str} {vs:List Value} {i:Nat} {m:Str->Option Value},P.Nodup->P[i]?=some x->vs[i]?=some v->kindOf x=some .local->
 bindL kindOf (P.zip vs) m x=some v
 | [],_,_,_,_,h,_,_=>by simp at h
 | _::_,[],_,_,_,_,h,_=>by simp at h
 | p::P,w::vs,0,m,nd,h1,h2,hk=>by
  simp at h1 h2;subst h1;subst h2;show bindL kindOf ((p,w)::P.zip vs) m p=_;unfold bindL;rw [P2 fun v hv=>(List.nodup_cons.mp nd).1 (List.of_mem_zip hv).1,if_pos hk];simp
 | p::P,w::vs,i+1,m,nd,h1,h2,hk=>by
  show bindL kindOf ((p,w)::P.zip vs) m x=_;unfold bindL;exact IG (i:=i) (List.nodup_cons.mp nd).2 (by simpa using h1) (by simpa using h2) hk
theorem IF {kindOf:Str->Option NameKind} {x:Str} {v:Value}:∀{P:List Str} {vs:List Value} {i:Nat} {m:Str->Option Value},P.Nodup->P[i]?=some x->vs[i]?=some v->kindOf x≠some .local->
 bindC kindOf (P.zip vs) m x=some v
 | [],_,_,_,_,h,_,_=>by simp at h
 | _::_,[],_,_,_,_,h,_=>by simp at h
 | p::P,w::vs,0,m,nd,h1,h2,hk=>by
  simp at h1 h2;subst h1;subst h2;show bindC kindOf ((p,w)::P.zip vs) m p=_;unfold bindC;rw [P1 fun v hv=>(List.nodup_cons.mp nd).1 (List.of_mem_zip hv).1,if_neg hk];simp
 | p::P,w::vs,i+1,m,nd,h1,h2,hk=>by
  show bindC kindOf ((p,w)::P.zip vs) m x=_;unfold bindC;exact IF (i:=i) (List.nodup_cons.mp nd).2 (by simpa using h1) (by simpa using h2) hk
noncomputable def i6 (N:List Str) (vs:List V):St:=vs.map some++List.replicate (N.length-vs.length) none
noncomputable def yN (CX:km) (P:Program) (w:World) (K:aL) (mg:Str->Option Value) (base:Heap) (N:List Str) (qual:Str) (scope:Scope) (f:Addr) (cd:Value) (A:Around) (outer:List Env) (s:Shared) (H:Hp) (E:XK):Cx where
 prog:=P
 w:=w
 K:=K
 mg:=mg
 base:=base
 A:=A.deeper (envOfC qual scope s.heap.objs.size f cd)
 N:=N
 c_:=s
 iK:=H
 env:=envOfC qual scope s.heap.objs.size f cd
 outer:=outer
 stack:=envOfC qual scope s.heap.objs.size f cd::outer
 ex:=[]
 calm:=true
 fn:=fun _=>true
 pn:=[]
 xe:=fun e s'=>wpAny (model P w) (A.deeper (envOfC qual scope s.heap.objs.size f cd)) (leaving (envOfC qual scope s.heap.objs.size f cd) e) (fun _ xo=>CX outer H s E e xo) (fun e' xo=>CX outer H s E e' xo) s'
theorem DK {sc:Scope} {n:Nat} {x:Str} (h:sc.names.lookup x=some .cell):∃c,(cellsFrom n sc.names []).lookup x=some c:=by
 have q:=PySem.W.cellsFrom_some sc.names n [] (.inl h);exact Option.isSome_iff_exists.mp q
theorem Xq {CX:km} {P:Program} {w:World} {K:aL} {mg:Str->Option Value} {base:Heap} {N ps:List Str} {qual:Str} {scope:Scope} {f:Addr} {cd:Value} {A:Around} {outer:List Env} {s s1:Shared} {H:Hp} {E:XK} {us:List Value} {vs:List V}
 (S:cF N ps scope) (hd:A.handled=none) (e0:sT P w K mg base A outer s H) (hl:vs.length=ps.length) (r:bw vs us)
 (x:InCallC s s.heap.objs.size (bindL (envOfC qual scope s.heap.objs.size f cd).kindOf (ps.zip us) fun _=>none) (cellsFrom (s.heap.objs.size+1) scope.names []) (bindC (envOfC qual scope s.heap.objs.size f cd).kindOf (ps.zip us) fun _=>none) s1):
 Inv (yN CX P w K mg base N qual scope f cd A outer s H E) [] (i6 N vs) H s1:=by
 have gy:ps.length<=N.length:=by have:=congrArg List.length S.pre;rw [iA] at this;lia
 obtain ⟨h1,tk,rfl,hk⟩:=x.done;have uw:∀b:Addr,b∉(yN CX P w K mg base N qual scope f cd A outer s H E).ex:=fun b z=>absurd (show b∈([]:List Addr) from z) (by simp);refine ⟨⟨e0.mod,S.kind,rfl,rfl,aF _,fun y z c h1 h2=>?_,fun y hy=>?_,fun y c _ h=>?_,fun _=>hd,Around.frames_deeper e0.frames,.inr ⟨rfl,rfl⟩,fun b z=>absurd z (uw b),e0.bs,e0.sO,fun b _ _=>uw b,fun b z=>absurd z (uw b),e0.ip,e0.wj⟩,
  rfl,e0.bare,Un.kept hk,⟨_,x.toInCall.ns,fun i y v h1 h2 h3=>?_⟩,fun y c h=>⟨_,x.cell y c h⟩,e0.ae.fresh (aF _),fun y c h=>?_,fun p hp=>absurd (show p∈([]:List (Addr×Obj)) from hp) (by simp),e0.ae.kept hk,?_⟩
 ·exact name_of_addr x.apart (rJ h1) (rJ h2)
 ·have hy:scope.names.lookup y=some .cell\/scope.names.lookup y=some .free:=hy;rcases hy with hy | hy
  ·exact DK hy
  ·exact absurd rfl (S.qH _ (rJ hy))
 ·exact bx (x.above y c (rJ h))
 ·have hi:i<vs.length:=by
   unfold i6 at h2
   by_cases hi:i<vs.length
   ·exact hi
   ·rw [oY (by simpa using hi)] at h2;rw [List.getElem?_replicate] at h2;split at h2<;>cases h2
  have ha:vs[i]?=some v:=by
   unfold i6 at h2;rw [pR (by simpa using hi),dt] at h2
   cases e:vs[i]? with
   | none=>rw [e] at h2;cases h2
   | some a=>rw [e] at h2;cases h2;rfl
  obtain ⟨u,hu,rv⟩:=r.get ha;have hp:ps[i]?=some y:=by
   rw [<-S.pre,List.getElem?_take_of_lt (by lia)];exact h1
  have Bk:ps.Nodup:=by rw [<-S.pre];exact S.nd.sublist (List.take_sublist _ _)
  refine ⟨u,rv,?_⟩;rcases S.par y (dZ hp) with k | k
  ·exact .inl ⟨k,IG Bk hp hu k⟩
  ·obtain ⟨c,e⟩:=DK (n:=s.heap.objs.size+1) k;refine .inr ⟨.inl k,c,e,?_⟩;have q:=x.cell y c e;rw [IF Bk hp hu (by show scope.names.lookup y≠_;rw [k];decide)] at q;exact q
 ·exact e0.ae.fresh (bx (x.above y c (rJ h)))
 ·unfold i6;show _=N.length;rw [gR,a7,GJ];lia
theorem ZJ {CX:km} {P:Program} {w:World} {K:aL} {mg:Str->Option Value} {base:Heap} {k:Nat} {f:Addr} {name qual:Str} {params:Arguments} {body:List Stmt} {scope:Scope} {dV kV doc pm dc ct oc:Value} {an od:Option Addr}
 {mj:Array (Option Value)} {N ps:List Str} {sp:Sp} (lk:K.lookup f=some ⟨oc,od,.func (PySem.W.fnOf name qual params body scope dV kV doc pm an dc ct),mj⟩) (mR:PySem.W.codeIn K dc qual=true) (S:cF N ps scope)
 (len:∀vs H Q E,sp vs H Q E->vs.length=ps.length)
 (jf:∀(A:Around) (outer:List Env) (s:Shared) (H:Hp) (vs:List V) (Q:VK) (E:XK),dn k (A.deeper (envOfC qual scope s.heap.objs.size f dc))->sp vs H Q E->
  ∃t,gS (yN CX P w K mg base N qual scope f dc A outer s H E) body t/\t { nx:=fun _ H'=>Q .bf H',rt:=Q } (i6 N vs) H):
 aw P w K mg base CX (k+1) f (PySem.W.fnOf name qual params body scope dV kV doc pm an dc ct) ps sp:=by
 refine ⟨len,fun A outer s H args us vs Q E hr e0 hb r m7=>?_⟩;have hl:=len _ _ _ _ m7;have KX:K.In s.heap:=e0.mod.zC.keeps fun b o e=>(e0.bs b o e).1;have lim:s.heap.NoLimit:=e0.mod.nolimit.keeps fun b o e=>(e0.bs b o e).1;have jc:∀y∈ps.zip us,scope.names.lookup y.1=some .local\/(scope.names.lookup y.1=some .cell/\((cellsFrom (s.heap.objs.size+1) scope.names []).lookup y.1).isSome=true):=fun ⟨n,v⟩ hy=>by
  rcases S.par n (List.of_mem_zip hy).1 with q | q
  ·exact .inl q
  ·exact .inr ⟨q,PySem.W.cellsFrom_some _ _ _ (.inl q)⟩
 refine codeAny_call_function hr.depth (KX _ _ lk) rfl S.co S.gen rfl (PySem.W.codeRec_of KX mR) (hb _ _ _ _ ?_);refine wpAny_newFunctionEnv_cells S.kind jc fun env he s1 x=>?_;subst he;refine ⟨lim.keeps x.toInCall.keep,codeAny_func ?_⟩;obtain ⟨t,ht,hq⟩:=jf A outer s H vs Q E (hr.deeper _) m7;have I:Inv (yN CX P w K mg base N qual scope f dc A outer s H E) [] (i6 N vs) H s1:=Xq S hr.hd e0 hl r x;refine wpAny_mono (ht [] s1 (i6 N vs) H _ I hq) (fun fl s' hs=>?_) fun e s' hs=>hs;have fin:∀{aa:St} {H':Hp} {v:V} {u:Value},Inv (yN CX P w K mg base N qual scope f dc A outer s H E) [] aa H' s'->cx v u->Q v H'->CE outer P w H s Q u s':=
  fun {aa H' v u} J rv q=>⟨v,H',J.os,J.bare,J.base,J.ae,rv,q⟩
 cases fl with
 | ret u=>
  obtain ⟨v,aa,H',J,rv,q⟩:=hs;exact fin J rv q
 | next=>
  obtain ⟨aa,H',J,q⟩:=hs;exact fin (v:=V.bf) (u:=Value.none) J rfl q
 | brk=>
  obtain ⟨_,_,_,q⟩:=hs;exact False.elim q
 | cont=>
  obtain ⟨_,_,_,q⟩:=hs;exact False.elim q
section
variable {X:Cx} {x:Str} {p pos:Pos} {e:Expr} {es:List Expr} {t:TA} {id T:String} {r:List V->Hp->VK->Prop}
noncomputable def Ru (r:List V->Hp->VK->Prop) (t:TA):TE:=fun σ H Q=>t σ H fun vs H1=>r vs H1 Q
theorem kE (hc:qd X (.builtin id) r) (hg:Gl X x) (hm:X.mg x=none) (hv:bootBuiltins x=some (.builtin id)) (ha:PA X (e::es) t) (hn:x≠"__name__":=by decide) (uH:(x==("__debug__":Str))=false:=by decide)
 (he:starEach (e::es) X.env=(false,eval e X.env)::starEach es X.env:=by rfl) (gy:(backTo pos (starEach es X.env)).any (·.1)=false:=by rfl):PE X (.Call (.Name x p) (e::es) [] pos) (Ru r t):=by
 intro pins s σ H Q I h;refine wpAny_Call_Name_kw (Au I hg hm hv ?_ hn uH);exact PyProof.Rows.callWith_builtin1 (aA (ha pos pins s σ H _ I h) fun us s1 zz=>L2.ft zz fun vs H1 I1 r1 q1=>hc pins s1 σ H1 vs us Q I1 r1 q1) he gy
theorem vo (hc:qd X (.type T) r) (hg:Gl X x) (hm:X.mg x=none) (hv:bootBuiltins x=some (.type T)) (ha:PA X (e::es) t) (hn:x≠"__name__":=by decide) (uH:(x==("__debug__":Str))=false:=by decide)
 (he:starEach (e::es) X.env=(false,eval e X.env)::starEach es X.env:=by rfl) (gy:(backTo pos (starEach es X.env)).any (·.1)=false:=by rfl):PE X (.Call (.Name x p) (e::es) [] pos) (Ru r t):=by
 intro pins s σ H Q I h;refine wpAny_Call_Name_kw (Au I hg hm hv ?_ hn uH);exact PyProof.Rows.callWith_type1 (aA (ha pos pins s σ H _ I h) fun us s1 zz=>L2.ft zz fun vs H1 I1 r1 q1=>hc pins s1 σ H1 vs us Q I1 r1 q1) he gy
end
end L2
namespace HT
open PySem PyProof.Rows
section
open PySem.SeqAt
open PySem.AutoSeq1 (wpAny_loadPart')
open PySem.MeetsSeq PySem.MeetsSeq2 PySem.MeetsSeq3
end
section
variable {prog:Program} {w:World} {A:Around} {E:Value->Shared->Prop} {s:Shared}
noncomputable def cE (n d:Nat):Option Int->Nat
 | none=>d
 | some v=>if v<0 then (v+(n:Int)).toNat else min v.toNat n
theorem i_ (n d:Nat):cE n d none=d:=rfl
theorem gL (n d k:Nat):cE n d (some (k:Int))=min k n:=by
 show (if (k:Int)<0 then ((k:Int)+(n:Int)).toNat else min (k:Int).toNat n)=min k n;rw [if_neg (by exact Int.not_lt.mpr (Int.natCast_nonneg k)),lS]
theorem Vu (n d:Nat) (hd:d<=n) (o:Option Int):cE n d o<=n:=by
 cases o with
 | none=>exact hd
 | some v=>
  show (if v<0 then (v+(n:Int)).toNat else min v.toNat n)<=n
  by_cases hv:v<0
  ·rw [if_pos hv];lia
  ·rw [if_neg hv];exact Nat.min_le_right _ _
theorem NH (v:Int) (n d:Nat):(if v<0 then max (v+(n:Int)) 0 else min v (n:Int))=((cE n d (some v):Nat):Int):=by
 show (if v<0 then max (v+(n:Int)) 0 else min v (n:Int))=(((if v<0 then (v+(n:Int)).toNat else min v.toNat n):Nat):Int)
 by_cases hv:v<0
 ·simp only [if_pos hv];lia
 ·simp only [if_neg hv];lia
theorem XE (lo hi:Option Int) (n:Nat):Builtin.Slice.sliceAdjust lo hi 1 (n:Int)=(((cE n 0 lo:Nat):Int),((cE n n hi:Nat):Int)):=by
 have h1:¬((1:Int)<0):=by lia
 unfold Builtin.Slice.sliceAdjust;simp only [h1,if_false];refine Prod.ext ?_ ?_
 ·cases lo with
  | none=>rfl
  | some v=>exact NH v n 0
 ·cases hi with
  | none=>rfl
  | some v=>exact NH v n n
theorem Yd (i j:Nat):Builtin.Slice.slicePlaces (i:Int) (j:Int) 1=j-i:=by
 unfold Builtin.Slice.slicePlaces;have h1:(1:Int)>0:=by exact Int.NonNeg.mk (1-Nat.succ 0)
 simp only [h1,if_true,Int.ediv_one];split<;>lia
theorem Qx (p:IsPart v o) (h:Q o s):wpAny (model prog w) A (Builtin.Slice.slicePartIndex v) Q E s:=by
 cases p with
 | none=>exact slicePart_none h
 | int i t=>exact slicePart_int h
theorem Y3 {sl:Addr} {vl vu:Value} {lo hi:Option Int} {n:Nat} {Q:Int×Int×Nat->Shared->Prop} (hs:s.heap.IsSliceOf sl vl vu .none) (pl:IsPart vl lo) (pu:IsPart vu hi)
 (h:Q (((cE n 0 lo:Nat):Int),1,cE n n hi-cE n 0 lo) s):wpAny (model prog w) A (Builtin.Slice.sliceApplied (.ref sl) (pure (n:Int))) Q E s:=by
 obtain ⟨os,B4,SA,ym⟩:=id hs;unfold Builtin.Slice.sliceApplied Builtin.Slice.sliceFields;refine aj (aj (wpAny_field B4 ym (x:=vl) rfl (aj (wpAny_field B4 ym (x:=vu) rfl (aj (wpAny_field B4 ym (x:=.none) rfl (bz ?_)))))));refine aj (slicePart_none ?_);show wpAny _ _ (if ((1:Int)==0)=true then _ else _) _ _ s;rw [if_neg (by decide)];refine aj (Qx pl (aj (Qx pu (aj (bz ?_)))));show wpAny _ _ (match Builtin.Slice.sliceAdjust lo hi 1 (n:Int) with | (lo,hi)=>pure (lo,(1:Int),Builtin.Slice.slicePlaces lo hi 1)) _ _ s;rw [XE lo hi n];show wpAny _ _ (pure (((cE n 0 lo:Nat):Int),(1:Int),Builtin.Slice.slicePlaces ((cE n 0 lo:Nat):Int) ((cE n n hi:Nat):Int) 1)) _ _ s;rw [Yd];exact bz h
theorem WJ (xs:Array Value) (i k:Nat):((List.range k).filterMap fun (m:Nat)=>xs[((i:Int)+(m:Int)*1).toNat]?).toArray=((xs.toList.drop i).take k).toArray:=by
 have e:(fun (m:Nat)=>xs[((i:Int)+(m:Int)*1).toNat]?)=fun m=>xs[i+m]?:=by
  funext m
  have:((i:Int)+(m:Int)*1).toNat=i+m:=by lia
  rw [this]
 rw [e];have:=pick_run xs i k;rw [List.filterMap_map] at this;have e2:((fun x=>xs[x]?) ∘ fun x=>i+x)=fun m=>xs[i+m]?:=rfl;rw [e2] at this;rw [this]
theorem gP {t sl:Addr} {items:Array Value} {vl vu:Value} {lo hi:Option Int} {Q:Value->Shared->Prop} (ht:IsTup s.heap t items) (hs:s.heap.IsSliceOf sl vl vu .none) (pl:IsPart vl lo) (pu:IsPart vu hi)
 (hw:¬(cE items.size 0 lo=0/\cE items.size items.size hi=items.size))
 (h:Q (.ref s.heap.objs.size) { s with heap:=s.heap.push { cls:=.type "tuple",data:=.seq ((items.toList.drop (cE items.size 0 lo)).take (cE items.size items.size hi-cE items.size 0 lo)).toArray } })
 (hsz:items.size<=sizeLine):wpAny (model prog w) A (getItem (.ref t) (.ref sl)) Q E s:=by
 have og:sizeOk (.seq ((items.toList.drop (cE items.size 0 lo)).take (cE items.size items.size hi-cE items.size 0 lo)).toArray):=by
  show ((items.toList.drop (cE items.size 0 lo)).take (cE items.size items.size hi-cE items.size 0 lo)).toArray.size<=sizeLine;rw [iw,iA,Mh,rH];omega
 have hj:cE items.size items.size hi<=items.size:=Vu _ _ (aF _) hi;obtain ⟨os,B4,SA,ym⟩:=id hs;have hTs:s.TypeIs (.ref sl) "slice":=⟨os,B4,SA⟩;unfold getItem
 try with_reducible refine wpAny_holding ?_
 first | refine aj (bz ?_) | skip
 refine aj (wpAny_sequenceKey ht.typeIs (by decide) ?_);refine aj (wpAny_callSpecial?_slot (name:=Str.ofString "__getitem__") ht.typeIs PyProof.Rows.slot_tuple_getitem
  (wpAny_call_entry PyProof.Rows.slot_tuple_getitem ht.typeIs entry_tuple_getitem ?_ (args_tuple_getitem _ _)))
 show wpAny _ _ (Builtin.Tuple.tupleItemsOf (.ref t)>>=_) _ _ s;refine aj (tupleItemsOf_ ht ?_);refine aj (wpAny_typeOf hTs ?_);rw [if_pos (by decide)];refine aj (Y3 hs pl pu ?_);have yh:¬((((cE items.size 0 lo:Nat):Int)==0 && (1:Int)==1 && (cE items.size items.size hi-cE items.size 0 lo)==items.size)=true):=by
  intro q;rw [Bool.and_eq_true,Bool.and_eq_true] at q;have q1:((cE items.size 0 lo:Nat):Int)=0:=eq_of_beq q.1.1;have q2:cE items.size items.size hi-cE items.size 0 lo=items.size:=eq_of_beq q.2;exact hw ⟨by lia,by omega⟩
 show wpAny _ _ (if (((cE items.size 0 lo:Nat):Int)==0 && (1:Int)==1 && (cE items.size items.size hi-cE items.size 0 lo)==items.size)=true then _ else _) _ _ s;rw [if_neg yh,WJ]
 first
  | exact aj (m:=Builtin.Tuple.tupleExact _) (wpAny_newObj_type (bz ⟨_,rfl,bz h⟩) og)
  | exact aj (m:=Builtin.Tuple.tupleExact _) (wpAny_newObj_type (aj (bz (bz ⟨_,rfl,bz h⟩))) og)
  | exact aj (aj (m:=Builtin.Tuple.tupleExact _) (wpAny_newObj_type (bz (bz ⟨_,rfl,bz h⟩)) og))
  | exact aj (aj (m:=Builtin.Tuple.tupleExact _) (wpAny_newObj_type (bz ⟨_,rfl,bz h⟩) og))
end
end HT
namespace L2
open PySem PySem.Spec PyProof.Rows
noncomputable abbrev TO:=St->Hp->(Option Int->Hp->Prop)->Prop
noncomputable def PO (X:Cx) (e:Option Expr) (t:TO):Prop:=
 ∀(pins:List (Addr×Obj)) (s:Shared) (σ:St) (H:Hp) (Q:Option Int->Hp->Prop),Inv X pins σ H s->t σ H Q->
  wpAny (model X.prog X.w) X.A (evalPart e X.env) (fun u s'=>∃o H',Inv X pins σ H' s'/\IsPart u o/\Q o H') X.xe s
noncomputable def VX:TO:=fun _ H Q=>Q none H
noncomputable def UB (t:TE):TO:=fun σ H Q=>t σ H fun x H1=>∃i,x=.int i/\Q (some i) H1
section
variable {X:Cx} {e:Expr} {te:TE} {lo hi:Option Expr} {tl th:TO} {pos p2:Pos}
theorem A8:PO X none VX:=by
 intro pins s σ H Q I h;rw [evalPart_none];exact bz ⟨none,H,I,.none,h⟩
theorem A9 (h:PE X e te):PO X (some e) (UB te):=by
 intro pins s σ H Q I hw;rw [evalPart_some];refine aA (h pins s σ H _ I hw) fun u s1 zz=>?_;obtain ⟨x,H1,I1,r1,q1⟩:=zz;obtain ⟨i,rfl,q⟩:=q1;obtain ⟨t,rfl⟩:=r1;exact ⟨some i,H1,I1,.int i t,q⟩
noncomputable def GV (X:Cx) (r:V->Option Int->Option Int->Hp->VK->Prop):Prop:=
 ∀(pins:List (Addr×Obj)) (s:Shared) (σ:St) (H:Hp) (x:V) (v vl vu:Value) (lo hi:Option Int) (sl:Addr) (Q:VK),Inv X pins σ H s->cx x v->s.heap.IsSliceOf sl vl vu .none->IsPart vl lo->IsPart vu hi->r x lo hi H Q->
  ∃T id,typeLookup (.type T) "__getitem__"=pure (some (.builtin id))/\s.TypeIs v T/\wpAny (model X.prog X.w) X.A (getItem v (.ref sl)) (EP X pins σ Q) X.xe s
noncomputable def ZY (r:V->Option Int->Option Int->Hp->VK->Prop) (te:TE) (tl th:TO):TE:=fun σ H Q=>te σ H fun x H1=>tl σ H1 fun l H2=>th σ H2 fun u H3=>r x l u H3 Q
theorem AG (hr:GV X r) (he:PE X e te) (hl:PO X lo tl) (hu:PO X hi th):PE X (.Subscript e (.Slice lo hi none p2) pos) (ZY r te tl th):=by
 intro pins s σ H Q I h;refine Subscript_ (aA (he pins s σ H _ I h) fun v s1 zz=>?_);obtain ⟨x,H1,I1,r1,q1⟩:=zz;refine wpAny_Slice (aA (hl pins s1 σ H1 _ I1 q1) fun vl s2 zz=>L2.ft zz fun l H2 I2 pl q2=>aA (hu pins s2 σ H2 _ I2 q2) fun vu s3 zz=>?_);obtain ⟨u,H3,I3,pu,q3⟩:=zz;rw [evalPart_none];refine bz ?_;have I4:Inv X pins σ H3 { s3 with heap:=s3.heap.push { cls:=.type "slice",data:=.fields #[vl,vu,.none] } }:=I3.kept (t':=s3.toks) fun b ob q=>eI _ q;obtain ⟨T,id,hT,ht,hg⟩:=hr pins { s3 with heap:=s3.heap.push { cls:=.type "slice",data:=.fields #[vl,vu,.none] } } σ H3 x v vl vu l u s3.heap.objs.size Q I4 r1 (Heap.IsSliceOf.new ..) pl pu q3;show wpAny (model X.prog X.w) X.A (subscriptTail e (.Slice lo hi none p2) v (.ref s3.heap.objs.size)) (EP X pins σ Q) X.xe { s3 with heap:=s3.heap.push { cls:=.type "slice",data:=.fields #[vl,vu,.none] } };exact tail_any (ops:=[.ref s3.heap.objs.size,v]) ht hT hg (by with_unfolding_all rfl)
noncomputable def o3 (xs:List V) (lo hi:Option Int):List V:=(xs.drop (HT.cE xs.length 0 lo)).take (HT.cE xs.length xs.length hi-HT.cE xs.length 0 lo)
theorem Q7 (xs:List V) (lo hi:Option Int):(o3 xs lo hi).length<=xs.length:=by
 unfold o3;rw [iA,Mh];lia
noncomputable def YZ (K:aL):V->Option Int->Option Int->Hp->VK->Prop:=fun x lo hi H Q=>∃a xs,x=.ref a/\dz K H a xs/\
 ¬(HT.cE xs.length 0 lo=0/\HT.cE xs.length xs.length hi=xs.length)/\∀p,H p=none->Q (.ref p) (upd H p (.tup (o3 xs lo hi)))
theorem Dl:GV X (YZ X.K):=by
 intro pins s σ H x v vl vu lo hi sl Q I rx hs pl pu h;obtain ⟨a,xs,rfl,hx,hw,q⟩:=h;cases rx;obtain ⟨its,r,ht,hz⟩:=I.tuple hx;have hlen:its.toArray.size=xs.length:=by rw [iw];exact r.length.symm
 refine ⟨"tuple",_,PyProof.Rows.slot_tuple_getitem.lookup,ht.typeIs,?_⟩;refine HT.gP ht hs pl pu (by rw [hlen];exact hw) ?_ (by rw [hlen];exact hz);rw [hlen];refine ⟨.ref s.heap.objs.size,_,I.laid (t':=s.toks) (o:=.tup (o3 xs lo hi)) (fun b ob q=>eI _ q) (aF _) ?_,rfl,q _ (I.ae.fresh (aF _))⟩;exact ⟨dY (Q7 xs lo hi) hz,_,(r.drop (HT.cE xs.length 0 lo)).take (HT.cE xs.length xs.length hi-HT.cE xs.length 0 lo),IsTup.new _ _⟩
end
noncomputable def uy (n:Nat) (i:Int):Option Nat:=if 0<=i then (if i<n then some i.toNat else none) else if-(n:Int)<=i then some (i+n).toNat else none
noncomputable def g_ {α:Type} (xs:List α) (i:Int):Option α:=(uy xs.length i).bind fun j=>xs[j]?
theorem ND (h:uy n i=some j):seqIndex? i n=some j/\j<n/\-(n:Int)<=i/\i<n:=by
 unfold uy at h
 by_cases h0:0<=i
 ·rw [if_pos h0] at h
  by_cases h1:i<n
  ·rw [if_pos h1] at h;have e:i.toNat=j:=gn h;exact ⟨by rw [seqIndex_of h0 h1,e],by lia,by lia,h1⟩
  ·rw [if_neg h1] at h;cases h
 ·rw [if_neg h0] at h
  by_cases h1: -(n:Int)<=i
  ·rw [if_pos h1] at h;have e:(i+n).toNat=j:=gn h;exact ⟨by rw [seqIndex_neg (by lia) h1,e],by lia,h1,by lia⟩
  ·rw [if_neg h1] at h;cases h
theorem Nw (h:g_ xs i=some v):∃j,seqIndex? i xs.length=some j/\xs[j]?=some v/\j<xs.length/\-(xs.length:Int)<=i/\i<xs.length:=by
 unfold g_ at h
 cases e:uy xs.length i with
 | none=>rw [e] at h;cases h
 | some j=>
  rw [e] at h;obtain ⟨h1,h2,h3,h4⟩:=ND e;exact ⟨j,h1,h,h2,h3,h4⟩
theorem j8 {α:Type} {xs:List α} {j:Nat} {v:α} (h:xs[j]?=some v):g_ xs (j:Int)=some v:=by
 have hj:j<xs.length:=(ff.mp h).1;have e:uy xs.length (j:Int)=some j:=by
  unfold uy;rw [if_pos (by exact Int.NonNeg.mk (j+0)),if_pos (by lia)];simp
 unfold g_;rw [e];exact h
noncomputable def Vr (b:Expr):Prop:=∀o i,subscripted b false o i=operate [o,i] (getItem o i)
noncomputable def zX (X:Cx) (r:R2):Prop:=
 ∀(value slice:Expr) (pins:List (Addr×Obj)) (s:Shared) (σ:St) (H:Hp) (x y:V) (v u:Value) (Q:VK),Inv X pins σ H s->cx x v->cx y u->r x y H Q->
  subscripted slice false v u=operate [v,u] (getItem v u)->wpAny (model X.prog X.w) X.A (subscriptTail value slice v u) (EP X pins σ Q) X.xe s
noncomputable def MtR (X:Cx) (id:String) (r:V->List V->Hp->VK->Prop):Prop:=
 ∀(pins:List (Addr×Obj)) (s:Shared) (σ:St) (H:Hp) (x:V) (xs:List V) (v:Value) (us:List Value) (Q:VK),Inv X pins σ H s->cx x v->bw xs us->r x xs H Q->
  wpAny (model X.prog X.w) X.A (call (.builtin id) (v::us)) (EP X pins σ Q) X.xe s
section
variable {X:Cx} {a b:Expr} {ta tb:TE} {pos:Pos}
theorem cW (hr:zX X r) (ha:PE X a ta) (hb:PE X b tb) (hs:Vr b):PE X (.Subscript a b pos) (xj r ta tb):=by
 intro pins s σ H Q I h;exact Subscript_ (JE ha hb I h fun v u s2 x y H2 I2 rx ry q=>hr a b pins s2 σ H2 x y v u Q I2 rx ry q (hs _ _))
noncomputable def YW (K:aL):R2:=fun x y H Q=>∃p xs i v,x=.ref p/\y=.int i/\ay K H p xs/\g_ xs i=some v/\Q v H
noncomputable def QV (K:aL):R2:=fun x y H Q=>∃p xs i v,x=.ref p/\y=.int i/\dz K H p xs/\g_ xs i=some v/\Q v H
theorem NF:zX X (YW X.K):=by
 intro value slice pins s σ H x y v u Q I rx ry h hs;obtain ⟨p,xs,i,z,rfl,rfl,hq,he,q⟩:=h;cases rx;obtain ⟨t,rfl⟩:=ry;obtain ⟨its,r,pl,hz⟩:=I.list hq;obtain ⟨j,h1,h2,h3,h4,h5⟩:=Nw he;obtain ⟨w,ew,tS⟩:=r.get h2;have hl:=r.length;have hn:=Dt;have fin:EP X pins σ Q w s:=⟨z,H,I,tS,q⟩
 by_cases h0:0<=i
 ·have hj:i.toNat=j:=by
   rw [seqIndex_of h0 h5] at h1;exact gn h1
  exact item_listR pl.isList h0 (by lia) (by rw [hj];simpa using ew) fin hs
 ·have hj:(i+(its.toArray.size:Int)).toNat=j:=by
   rw [seqIndex_neg (by lia) h4] at h1;rw [iw,<-hl];exact gn h1
  exact subscriptTail_builtinR (x:=w) pl.isList.typeIs slot_list_getitem.lookup
   (wpAny_getItem_list_neg (Q:=fun r s'=>r=w/\EP X pins σ Q r s') pl.isList (by lia) (by rw [iw]<;>lia) (by lia) (by rw [hj];simpa using ew) ⟨rfl,fin⟩) hs
theorem Np:zX X (QV X.K):=by
 intro value slice pins s σ H x y v u Q I rx ry h hs;obtain ⟨p,xs,i,z,rfl,rfl,hq,he,q⟩:=h;cases rx;obtain ⟨t,rfl⟩:=ry;obtain ⟨its,r,pl,hz⟩:=I.tuple hq;obtain ⟨j,h1,h2,h3,h4,h5⟩:=Nw he;obtain ⟨w,ew,tS⟩:=r.get h2;have hl:=r.length;have hn:=Dt;have fin:EP X pins σ Q w s:=⟨z,H,I,tS,q⟩;exact subscriptTail_builtinR (x:=w) pl.typeIs slot_tuple_getitem.lookup
  (getItem_tuple (j:=j) (Q:=fun r s'=>r=w/\EP X pins σ Q r s') pl (by lia) (by lia) (by rw [iw,<-hl];exact h1) (by simpa using ew) ⟨rfl,fin⟩) hs
theorem Yb (its:List Value) (n j:Nat) (u:Value):Obj.mapSeq (·.setIfInBounds j u) { cls:=.type "list",data:=.seq its.toArray n }={ cls:=.type "list",data:=.seq (its.set j u).toArray n }:=by
 simp [Obj.mapSeq]
theorem Inv.lst (I:Inv X pins σ H s) (h:H p=some (.lst xs)):
 ∃(its:List Value) (n:Nat),bw xs its/\s.heap.get? p=some { cls:=.type "list",data:=.seq its.toArray n }/\xs.length<=sizeLine:=by
 obtain ⟨z,its,n,r,e⟩:=I.ae p _ h;exact ⟨its,n,r,e,z⟩
theorem Inv.xG {pins:List (Addr×Obj)} {σ:St} {H:Hp} {s:Shared} {p:Addr} {xs ys:List V} {its its':List Value} {n n':Nat} {f:Obj->Obj} (I:Inv X pins σ H s) (h:H p=some (.lst xs))
 (ho:s.heap.get? p=some { cls:=.type "list",data:=.seq its.toArray n }) (hf:f { cls:=.type "list",data:=.seq its.toArray n }={ cls:=.type "list",data:=.seq its'.toArray n' }) (r:bw ys its') (hz:ys.length<=sizeLine) (t:Nat):
 Inv X pins σ (upd H p (.lst ys)) { s with heap:=s.heap.update p f,toks:=t }:=by
 have e:(s.heap.update p f).get? p=some { cls:=.type "list",data:=.seq its'.toArray n' }:=by
  rw [Heap.get?_update_self f ho (by rw [hf]<;>rfl),hf]
 refine I.write (x:=p) (e:=p) (by rw [h];trivial) (.inl rfl) (fun b u hb q=>(Heap.get?_update_other _ _ (bp hb)).trans q) ⟨_,e⟩ ?_;exact ⟨hz,its',n',r,e⟩
noncomputable def UM:V->V->V->Hp->(Hp->Prop)->Prop:=fun o i v H Q=>∃p xs k j,o=.ref p/\i=.int k/\H p=some (.lst xs)/\uy xs.length k=some j/\Q (upd H p (.lst (xs.set j v)))
theorem ID:QP X UM:=by
 intro pins s σ H o i v ov iv u Q I ro ri rv h;obtain ⟨p,xs,k,j,rfl,rfl,hp,hj,q⟩:=h;cases ro;obtain ⟨t,rfl⟩:=ri;obtain ⟨its,n,r,ho,hz⟩:=I.lst hp;obtain ⟨h1,h2,h3,h4⟩:=ND hj;have hl:=r.length;have hn:=Dt;have I':Inv X pins σ (upd H p (.lst (xs.set j v))) { s with heap:=s.heap.update p (Obj.mapSeq (·.setIfInBounds j u)) }:=
  I.xG hp ho (Yb its n j u) (r.set rv j) (by rw [List.length_set];exact hz) s.toks
 by_cases h0:0<=k
 ·have hk:k.toNat=j:=by
   rw [seqIndex_of h0 h4] at h1;exact gn h1
  exact PySem.W.ki_setAt ho h0 (by lia) (by rw [iw,<-hl];exact h4) (by rw [hk];exact ⟨_,I',q⟩)
 ·have hk:(k+(its.toArray.size:Int)).toNat=j:=by
   rw [seqIndex_neg (by lia) h3] at h1;rw [iw,<-hl];exact gn h1
  exact PySem.W.ki_setBack ho (by lia) (by rw [iw,<-hl];exact h3) (by lia) (by rw [hk];exact ⟨_,I',q⟩)
theorem Yq (lo hi:Option Int) (n:Nat):(sliceBounds lo hi none n).1=((HT.cE n 0 lo:Nat):Int)/\(sliceBounds lo hi none n).2.1=((HT.cE n n hi:Nat):Int)/\(sliceBounds lo hi none n).2.2=1:=by
 refine ⟨?_,?_,rfl⟩
 ·cases lo with
  | none=>simp [sliceBounds,HT.cE]
  | some i=>
   simp only [sliceBounds,HT.cE,Option.getD_none,show (1:Int)>0 by decide,if_true]
   by_cases h:i<0
   ·simp only [h,if_true]<;>lia
   ·simp only [h,if_false]<;>lia
 ·cases hi with
  | none=>simp [sliceBounds,HT.cE]
  | some i=>
   simp only [sliceBounds,HT.cE,Option.getD_none,show (1:Int)>0 by decide,if_true]
   by_cases h:i<0
   ·simp only [h,if_true]<;>lia
   ·simp only [h,if_false]<;>lia
theorem Y1 (its:List Value) (lo hi:Option Int):slicePick its.toArray lo hi none=((its.drop (HT.cE its.length 0 lo)).take (HT.cE its.length its.length hi-HT.cE its.length 0 lo)).toArray:=by
 obtain ⟨h1,h2,h3⟩:=Yq lo hi its.toArray.size;unfold slicePick;rw [h1,h2,h3];simp only [sliceRange_one,pick_run,iw]<;>rfl
noncomputable def YY (K:aL):V->Option Int->Option Int->Hp->VK->Prop:=fun x lo hi H Q=>∃a xs,x=.ref a/\ay K H a xs/\∀p,H p=none->Q (.ref p) (upd H p (.lst (o3 xs lo hi)))
theorem Wk:GV X (YY X.K):=by
 intro pins s σ H x v vl vu lo hi sl Q I rx hs pl pu h;obtain ⟨a,xs,rfl,hx,q⟩:=h;cases rx;obtain ⟨its,r,ht,hz⟩:=I.list hx;have hlen:=r.length;refine ⟨"list",_,slot_list_getitem.lookup,ht.isList.typeIs,?_⟩;refine wpAny_getItem_list_slice ht.isList hs pl pu .none (by simp) ?_ (by rw [iw]<;>lia);rw [Y1,<-hlen];refine ⟨.ref s.heap.objs.size,_,I.laid (t':=s.toks) (o:=.lst (o3 xs lo hi)) (fun b ob q=>eI _ q) (aF _) ?_,rfl,q _ (I.ae.fresh (aF _))⟩;exact ⟨dY (Q7 xs lo hi) hz,_,0,(r.drop (HT.cE xs.length 0 lo)).take (HT.cE xs.length xs.length hi-HT.cE xs.length 0 lo),jI _ rfl⟩
noncomputable def jy:V->Bool
 | .bf=>true
 | .bl _=>true
 | .int _=>true
 | .str _=>true
 | _=>false
noncomputable def pQ:V->V->Bool
 | .bf,.bf=>true
 | .bl a,.bl b=>a==b
 | .bl a,.int b=>(if a then 1 else 0)==b
 | .int a,.bl b=>a==(if b then 1 else 0)
 | .int a,.int b=>a==b
 | .str a,.str b=>a==b
 | _,_=>false
theorem MR (ry:cx y u) (rx:cx x v) (fy:jy y=true) (fx:jy x=true):SeqAt.EqAt A s u v (pQ y x):=by
 cases y with
 | bf=>
  cases ry
  cases x with
  | bf=>cases rx;exact SeqAt.EqAt.same _
  | bl b=>cases rx;exact SeqAt.EqAt.none_bool b
  | int b=>obtain ⟨t,rfl⟩:=rx;exact SeqAt.EqAt.none_int b t
  | str b=>obtain ⟨t,rfl⟩:=rx;exact SeqAt.EqAt.none_str b t
  | _=>exact absurd (show false=true from fx) eR
 | bl a=>
  cases ry
  cases x with
  | bf=>cases rx;exact SeqAt.EqAt.bool_none a
  | bl b=>cases rx;exact SeqAt.EqAt.bool_bool a b
  | int b=>obtain ⟨t,rfl⟩:=rx;exact SeqAt.EqAt.bool_int a b t
  | str b=>obtain ⟨t,rfl⟩:=rx;exact SeqAt.EqAt.bool_str a b t
  | _=>exact absurd (show false=true from fx) eR
 | int a=>
  obtain ⟨t',rfl⟩:=ry
  cases x with
  | bf=>cases rx;exact SeqAt.EqAt.int_none a t'
  | bl b=>cases rx;exact SeqAt.EqAt.int_bool a t' b
  | int b=>obtain ⟨t,rfl⟩:=rx;exact SeqAt.EqAt.int_int a t' b t
  | str b=>obtain ⟨t,rfl⟩:=rx;exact SeqAt.EqAt.int_str a t' b t
  | _=>exact absurd (show false=true from fx) eR
 | str a=>
  obtain ⟨t',rfl⟩:=ry
  cases x with
  | bf=>cases rx;exact SeqAt.EqAt.str_none a t'
  | bl b=>cases rx;exact SeqAt.EqAt.str_bool a t' b
  | int b=>obtain ⟨t,rfl⟩:=rx;exact SeqAt.EqAt.str_int a t' b t
  | str b=>obtain ⟨t,rfl⟩:=rx;exact SeqAt.EqAt.str_str a t' b t
  | _=>exact absurd (show false=true from fx) eR
 | _=>exact absurd (show false=true from fy) eR
noncomputable def nc (x:V) (u:Value):Bool:=match u with
 | .none=>pQ .bf x
 | .bool b=>pQ (.bl b) x
 | .int i _=>pQ (.int i) x
 | .str z _=>pQ (.str z) x
 | _=>false
theorem MS (r:cx y u) (f:jy y=true):nc x u=pQ y x:=by
 cases y with
 | bf=>cases r;rfl
 | bl b=>cases r;rfl
 | int i=>obtain ⟨t,rfl⟩:=r;rfl
 | str z=>obtain ⟨t,rfl⟩:=r;rfl
 | _=>exact absurd (show false=true from f) eR
theorem Dv {xs:List V} {us:List Value} (h:bw xs us) (f:xs.all jy=true):us.any (nc x)=xs.any fun y=>pQ y x:=by
 induction h with
 | nil=>rfl
 | cons r t ih=>
  rw [List.all_cons,Bool.and_eq_true] at f;rw [List.any_cons,List.any_cons,MS r f.1,ih f.2]
theorem DR (rx:cx x v) (fx:jy x=true) {xs:List V} {us:List Value} (h:bw xs us) (f:xs.all jy=true):∀u∈us,SeqAt.EqAt A s u v (nc x u):=by
 induction h with
 | nil=>intro u hu;cases hu
 | cons r t ih=>
  intro u' hu;rw [List.all_cons,Bool.and_eq_true] at f;rcases iJ.mp hu with rfl | hu
  ·rw [MS r f.1];exact MR r rx f.1 fx
  ·exact ih f.2 u' hu
noncomputable def pG (x:V) (xs:List V):Bool:=xs.any fun y=>pQ y x
noncomputable def JV (K:aL) (neg:Bool):R2:=fun x y H Q=>∃p xs,y=.ref p/\(ay K H p xs\/dz K H p xs)/\jy x=true/\xs.all jy=true/\Q (.bl (if neg then !pG x xs else pG x xs)) H
theorem DZ:fg X (compareOp .In) (JV X.K false):=by
 intro pins s σ H x y v u Q I rx ry h;obtain ⟨p,xs,rfl,hq,fx,fs,q⟩:=h;cases ry;rcases hq with hq | hq
 ·obtain ⟨its,r,pl,hz⟩:=I.list hq;refine SeqAt.in_listAt (nc x) pl.isList (fun w hw=>DR rx fx r fs w (by simpa using hw)) ⟨.bl _,H,I,rfl,?_⟩;rw [show its.toArray.any (nc x)=its.any (nc x) by simp,Dv r fs];exact q
 ·obtain ⟨its,r,pl,hz⟩:=I.tuple hq;refine SeqAt.in_tupleAt (nc x) pl (fun w hw=>DR rx fx r fs w (by simpa using hw)) ⟨.bl _,H,I,rfl,?_⟩;rw [show its.toArray.any (nc x)=its.any (nc x) by simp,Dv r fs];exact q
theorem QG:fg X (compareOp .NotIn) (JV X.K true):=by
 intro pins s σ H x y v u Q I rx ry h;obtain ⟨p,xs,rfl,hq,fx,fs,q⟩:=h;cases ry;rcases hq with hq | hq
 ·obtain ⟨its,r,pl,hz⟩:=I.list hq;refine SeqAt.notIn_listAt (nc x) pl.isList (fun w hw=>DR rx fx r fs w (by simpa using hw)) ⟨.bl _,H,I,rfl,?_⟩;rw [show its.toArray.any (nc x)=its.any (nc x) by simp,Dv r fs];exact q
 ·obtain ⟨its,r,pl,hz⟩:=I.tuple hq;refine SeqAt.notIn_tupleAt (nc x) pl (fun w hw=>DR rx fx r fs w (by simpa using hw)) ⟨.bl _,H,I,rfl,?_⟩;rw [show its.toArray.any (nc x)=its.any (nc x) by simp,Dv r fs];exact q
theorem zy:qd X (.builtin "len") (fun xs H Q=>∃p ys,xs=[.ref p]/\(ay X.K H p ys\/dz X.K H p ys)/\Q (.int ys.length) H):=by
 intro pins s σ H xs us Q I r h;obtain ⟨p,ys,rfl,hq,q⟩:=h;obtain ⟨u,rfl,rx⟩:=vc r;cases rx;have hn:=Dt;rcases hq with hq | hq
 ·obtain ⟨its,r',pl,hz⟩:=I.list hq;have hlen:=r'.length;exact Calls.call_len_list pl.isList (by simp only [iw]<;>lia) ⟨.int ys.length,H,I.tok _,⟨s.toks+1,by rw [iw,hlen]⟩,q⟩
 ·obtain ⟨its,r',pl,hz⟩:=I.tuple hq;have hlen:=r'.length;exact len_tuple pl (by simp only [iw]<;>lia) ⟨.int ys.length,H,I.tok _,⟨s.toks+1,by rw [iw,hlen]⟩,q⟩
theorem AS:qd X (.type "list") (fun xs H Q=>∃p ys,xs=[.ref p]/\(ay X.K H p ys\/dz X.K H p ys)/\∀l,H l=none->Q (.ref l) (upd H l (.lst ys))):=by
 intro pins s σ H xs us Q I r h;obtain ⟨p,ys,rfl,hq,q⟩:=h;obtain ⟨u,rfl,rx⟩:=vc r;cases rx;have fin:∀(its:List Value),bw ys its->ys.length<=sizeLine->∀(h':Heap) (c':Nat),(∀b o',s.heap.get? b=some o'->h'.get? b=some o')->
  h'.get? s.heap.objs.size=some { cls:=.type "list",dict:=none,data:=.seq its.toArray c',slots:= #[] }->EP X pins σ Q (.ref s.heap.objs.size) { s with heap:=h' }:=fun its r' hz h' c' kp e=>
  ⟨.ref s.heap.objs.size,_,I.laid (t':=s.toks) kp (aF _) (show fv X.prog X.w _ h' _ (.lst ys) from ⟨hz,its,c',r',e⟩),rfl,q _ (I.ae.fresh (aF _))⟩
 rcases hq with hq | hq
 ·obtain ⟨its,r',pl,hz⟩:=I.list hq;have hlen:=r'.length;obtain ⟨o,ho,hc,n,hd⟩:=pl.isList;exact call_list_seq p (.inl rfl) ho hc hd (fun h' c' kp e=>fin its r' hz h' c' kp e) (by simp only [iw]<;>lia)
 ·obtain ⟨its,r',pl,hz⟩:=I.tuple hq;have hlen:=r'.length;obtain ⟨o,ho,hc,n,hd⟩:=pl;exact call_list_seq p (.inr rfl) ho hc hd (fun h' c' kp e=>fin its r' hz h' c' kp e) (by simp only [iw]<;>lia)
theorem QJ:qd X (.type "tuple") (fun xs H Q=>∃p ys,xs=[.ref p]/\((ay X.K H p ys/\∀l,H l=none->Q (.ref l) (upd H l (.tup ys)))\/(dz X.K H p ys/\Q (.ref p) H))):=by
 intro pins s σ H xs us Q I r h;obtain ⟨p,ys,rfl,h⟩:=h;obtain ⟨u,rfl,rx⟩:=vc r;cases rx;rcases h with ⟨hq,q⟩ | ⟨hq,q⟩
 ·obtain ⟨its,r',pl,hz⟩:=I.list hq;have hlen:=r'.length;refine call_tuple_list pl.isList (fun h' kp=>?_) (by simp only [iw]<;>lia);have I1:Inv X pins σ H { s with heap:=h' }:=I.kept (t':=s.toks) kp;have I2:Inv X pins σ (upd H h'.objs.size (.tup ys)) { s with heap:=h'.push { cls:=.type "tuple",data:=.seq its.toArray } }:=
   I1.laid (t':=s.toks) (fun b o e=>eI _ e) (aF _) (show fv X.prog X.w _ _ _ (.tup ys) from ⟨hz,its,r',IsTup.new _ _⟩)
  exact ⟨.ref h'.objs.size,_,I2,rfl,q _ (I1.ae.fresh (aF _))⟩
 ·obtain ⟨its,r',pl,hz⟩:=I.tuple hq;exact call_tuple_same pl ⟨.ref p,H,I,rfl,q⟩
noncomputable def Rp (K:aL) (T:String) (x:V) (H:Hp):Prop:=match x with
 | .str _=>T="str"
 | .int _=>T="int"
 | .ref p=>(T="list"/\∃xs,ay K H p xs)\/(T="tuple"/\∃o,K.lookup p=some o/\o.cls=.type "tuple"/\o.dict=none)\/
  (T="dict"/\((∃kvs,H p=some (.dK kvs))\/∃kvs,H p=some (.dT kvs)))\/(T="set"/\∃S n,H p=some (.set S n))
 | _=>False
theorem Vk (I:Inv X pins σ H s) (r:cx x v) (ty:Rp X.K T x H):
 s.TypeIs v T/\∀a,v=.ref a->∃ob,s.heap.get? a=some ob/\ob.dict=none:=by
 cases x with
 | str z=>
  obtain ⟨t,rfl⟩:=r;cases (show T="str" from ty);exact ⟨typeIs_str s z t,fun _ e=>nomatch e⟩
 | int i=>
  obtain ⟨t,rfl⟩:=r;cases (show T="int" from ty);exact ⟨typeIs_int s i t,fun _ e=>nomatch e⟩
 | ref p=>
  cases r;rcases ty with ⟨rfl,xs,hq⟩ | ⟨rfl,o,hk,hc,hd⟩ | ⟨rfl,hk⟩ | ⟨rfl,S,n,hk⟩
  ·obtain ⟨its,_,pl,_⟩:=I.list hq;refine ⟨pl.isList.typeIs,fun a e=>?_⟩;cases e;obtain ⟨o,n,e,c,hd,_⟩:=pl;exact ⟨o,e,hd⟩
  ·refine ⟨⟨o,I.lN p o hk,hc⟩,fun a e=>?_⟩;cases e;exact ⟨o,I.lN _ o hk,hd⟩
  ·have z:∃o,s.heap.get? p=some o/\o.ExactDict:=by
    rcases hk with ⟨kvs,hk⟩ | ⟨kvs,hk⟩
    ·obtain ⟨_,_,_,_,o,_,_,e,ex,_⟩:=I.ae p _ hk;exact ⟨o,e,ex⟩
    ·obtain ⟨_,_,_,_,o,_,_,e,ex,_⟩:=I.ae p _ hk;exact ⟨o,e,ex⟩
   obtain ⟨o,e,ex⟩:=z;refine ⟨⟨o,e,ex.1⟩,fun a e2=>?_⟩;cases e2;exact ⟨o,e,ex.2.1⟩
  ·obtain ⟨o,_,_,_,e,ex,_⟩:=I.ae p _ hk;refine ⟨⟨o,e,ex.1⟩,fun a e2=>?_⟩;cases e2;exact ⟨o,e,ex.2.1⟩
 | _=>exact False.elim ty
noncomputable def Z_ (K:aL) (T:String) (r:V->List V->Hp->VK->Prop) (to:TE) (t:TA):TE:=fun σ H Q=>to σ H fun x H1=>Rp K T x H1/\t σ H1 fun xs H2=>r x xs H2 Q
variable {o e:Expr} {es:List Expr} {to:TE} {t:TA} {name:Str} {apos g7:Pos} {T id:String} {r:V->List V->Hp->VK->Prop}
theorem px (pa:PlainAttrs T) (slot:Slot T name id) (hty:typeOf (.builtin id)=pure (.type "method_descriptor")) (hm:MtR X id r) (ho:PE X o to) (ha:PA X (e::es) t)
 (BW:attributeBase o name X.env (eval o X.env)=eval o X.env:=by rfl)
 (L5:((backTo g7 (starEach (e::es) X.env)).all (fun x=> !x.1) && (backToKw g7 (keywordEach [] X.env)).all (fun x=>x.1.isSome)
  && decide ((e::es).length+([]:List Keyword).length+(if ([]:List Keyword).isEmpty then 0 else 1)<30))=true:=by rfl)
 (BE:(apos.endLine==g7.line)=true:=by rfl) (hs:starEach (e::es) X.env=(false,eval e X.env)::starEach es X.env:=by rfl) (xZ:(backTo g7 (starEach es X.env)).any (·.1)=false:=by rfl):
 PE X (.Call (.Attribute o name apos) (e::es) [] g7) (Z_ X.K T r to t):=by
 intro pins s σ H Q I h;refine wpAny_Call_method_late BW L5 BE rfl (aA (ho pins s σ H _ I h) fun v s1 zz=>?_);obtain ⟨x,H1,I1,r1,ty,q1⟩:=zz;obtain ⟨h1,h2⟩:=Vk I1 r1 ty;refine ⟨T,id,pa,slot,hty,h1,h2,?_⟩;have hA:=ha g7 pins s1 σ H1 _ I1 q1;rw [hs] at hA ⊢;refine Calls.callWith_builtin (by show (false || (backTo g7 (starEach es X.env)).any (·.1))=false;rw [xZ]<;>rfl) (Calls.evalArgs_plain ?_);exact aA hA fun us s2 zz=>L2.ft zz fun vs H2 I2 r2 q2=>hm pins s2 σ H2 x vs v us Q I2 r1 r2 q2
end
noncomputable def Tz (X:Cx) (id:String) (r:V->List V->Hp->VK->Prop):Prop:=
 ∀(pins:List (Addr×Obj)) (s:Shared) (σ:St) (H:Hp) (x:V) (xs:List V) (v:Value) (us:List Value) (Q:VK),Inv X pins σ H s->cx x v->bw xs us->r x xs H Q->
  wpAny (model X.prog X.w) X.A (call (.builtin id) (v::us)) (EP X pins σ Q) X.xe s
theorem bw.one {x:V} {us:List Value} (h:bw [x] us):∃u,us=[u]/\cx x u:=by
 cases h with
 | cons r t=>
  cases t;exact ⟨_,rfl,r⟩
theorem bw.rep (h:bw xs us):∀k:Nat,bw (List.replicate k xs).flatten (List.replicate k us).flatten
 | 0=>.nil
 | k+1=>by
  rw [List.replicate_succ,List.replicate_succ,List.flatten_cons,List.flatten_cons];exact bw.append h (bw.rep h k)
theorem PU (its:List Value):∀(k:Nat) (acc:List Value),
 List.foldl (fun x1 x2=>x1++x2) acc.toArray (List.replicate k its.toArray)=(acc++(List.replicate k its).flatten).toArray
 | 0,acc=>by simp
 | k+1,acc=>by
  have e:acc.toArray++its.toArray=(acc++its).toArray:=by simp
  have e2:(acc++its)++(List.replicate k its).flatten=acc++(List.replicate (k+1) its).flatten:=by
   rw [List.replicate_succ,List.flatten_cons,List.append_assoc]
  rw [<-e2,<-PU its k (acc++its),<-e,List.replicate_succ,List.foldl_cons]
section
variable {X:Cx} {pins:List (Addr×Obj)} {σ:St} {H:Hp} {s:Shared} {l b:Addr} {xs ys zs:List V}
theorem Inv.Kj {its its':List Value} {n:Nat} {f:Array Value->Array Value} {t':Nat} (I:Inv X pins σ H s) (hH:H l=some (.lst xs))
 (e:s.heap.get? l=some { cls:=.type "list",data:=.seq its.toArray n }) (hf:f its.toArray=its'.toArray) (hv:bw ys its') (hz:ys.length<=sizeLine):
 Inv X pins σ (upd H l (.lst ys)) { s with heap:=s.heap.update l (Obj.mapSeq f),toks:=t' }:=by
 have q:=PySem.IsL.update e f;rw [hf] at q;refine I.write (x:=l) (e:=l) (by rw [hH];exact trivial) (.inl rfl) (fun b' u hb hu=>(Heap.get?_update_other s.heap (Obj.mapSeq f) (bp hb)).trans hu) ⟨_,q⟩ ?_;exact ⟨hz,its',_,hv,q⟩
theorem Inv.xH (I:Inv X pins σ H s) (hv:bw ys its) (hz:ys.length<=sizeLine):
 Inv X pins σ (upd H s.heap.objs.size (.lst ys)) { s with heap:=s.heap.push { cls:=.type "list",data:=.seq its.toArray },toks:=t' }:=
 I.laid (fun _ _ q=>eI _ q) (aF _) ⟨hz,its,0,hv,jI _ rfl⟩
theorem Inv.fresh (I:Inv X pins σ H s):H s.heap.objs.size=none:=I.ae.fresh (aF _)
theorem Inv.ux (I:Inv X pins σ H s) (hH:H l=some (.lst xs)):xs.length<=sizeLine/\∃(its:List Value) (n:Nat),bw xs its/\xs.length=its.length/\s.heap.get? l=some { cls:=.type "list",data:=.seq its.toArray n }:=by
 obtain ⟨z,its,n,r,e⟩:=I.ae l _ hH;exact ⟨z,its,n,r,r.length,e⟩
theorem Wz (h:n<=sizeLine):Builtin.List.listTooLong n=false:=by
 unfold Builtin.List.listTooLong;exact eP (by exact Nat.not_lt_of_le h)
end
section
variable {X:Cx}
noncomputable def VH:V->List V->Hp->VK->Prop:=fun x vs H Q=>∃l xs y,x=.ref l/\vs=[y]/\H l=some (.lst xs)/\xs.length<sizeLine/\Q .bf (upd H l (.lst (xs++[y])))
theorem pC:Tz X "list.append" VH:=by
 intro pins s σ H x vs v us Q I rx rv h;obtain ⟨l,xs,y,rfl,rfl,hH,hz,q⟩:=h;cases rx;obtain ⟨u,rfl,ru⟩:=rv.one;obtain ⟨z,its,n,r,hl,e⟩:=I.ux hH;refine call_meets pT ⟨_,e,rfl⟩ F.entry_list_append (F.args_list_append_2 _ _) (PySem.list_append l its.toArray n u (by rw [iw];lia)) ⟨e,?_⟩;refine ⟨.bf,_,I.Kj (its':=its++[u]) hH e (by simp) (r.append (.cons ru .nil)) ?_,rfl,q⟩;rw [gR,List.length_singleton];exact hz
noncomputable def YV:R2:=fun x y H Q=>∃l b xs zs,x=.ref l/\y=.ref b/\H l=some (.lst xs)/\H b=some (.lst zs)/\xs.length+zs.length<=sizeLine/\∀p,H p=none->Q (.ref p) (upd H p (.lst (xs++zs)))
theorem yY:fg X (binaryOp .Add) YV:=by
 intro pins s σ H x y v u Q I rx ry h;obtain ⟨l,b,xs,zs,rfl,rfl,hH,hB,hz,q⟩:=h;cases rx;cases ry;obtain ⟨z,its,n,r,hl,e⟩:=I.ux hH;obtain ⟨z2,uz,n2,r2,yi,e2⟩:=I.ux hB;refine PySem.P.add_list e e2 ?_ (by rw [iw,iw];lia);have ea:its.toArray++uz.toArray=(its++uz).toArray:=by simp
 rw [ea];exact ⟨.ref _,_,I.xH (t':=s.toks) (r.append r2) (by rw [gR];omega),rfl,q _ I.fresh⟩
noncomputable def YX:R2:=fun x y H Q=>∃l k xs,x=.ref l/\y=.int k/\H l=some (.lst xs)/\-(2 ^ 63)<=k/\k<2 ^ 63/\xs.length*k.toNat<=sizeLine/\
 ∀p,H p=none->Q (.ref p) (upd H p (.lst (List.replicate k.toNat xs).flatten))
theorem V1 (xs:List α) (k:Nat):(List.replicate k xs).flatten.length=k*xs.length:=by
 induction k with
 | zero=>simp
 | succ k ih=>rw [List.replicate_succ,List.flatten_cons,gR,ih,Nat.succ_mul,Nat.add_comm]
theorem Va:fg X (binaryOp .Mult) YX:=by
 intro pins s σ H x y v u Q I rx ry h;obtain ⟨l,k,xs,rfl,rfl,hH,h1,h2,hz,q⟩:=h;cases rx;obtain ⟨t,rfl⟩:=ry;obtain ⟨z,its,n,r,hl,e⟩:=I.ux hH;have hlen:its.toArray.size*k.toNat<=sizeLine:=by rw [iw,<-hl];exact hz
 have L9:¬its.toArray.size*k.toNat>(2 ^ 63-1) / 8:=by
  have:(sizeLine:Nat)<=(2 ^ 63-1) / 8:=by decide
  lia
 have L4:¬(!Builtin.List.listFitsIndex k)=true:=by
  rw [fitsIndex_both h1 h2];exact eR
 have BC:¬Builtin.List.listTooLong (its.toArray.size*k.toNat)=true:=by
  rw [Wz hlen];exact eR
 have La:List.foldl (fun x1 x2=>x1++x2) #[] (List.replicate (if its.toArray.isEmpty=true then 0 else k.toNat) its.toArray)=(List.replicate k.toNat its).flatten.toArray:=by
  have f0:∀m:Nat,List.foldl (fun x1 x2=>x1++x2) #[] (List.replicate m its.toArray)=(List.replicate m its).flatten.toArray:=fun m=>by
   have:=PU its m [];rw [List.nil_append] at this;exact this
  rw [f0]
  cases its with
  | nil=>simp
  | cons a r'=>rw [if_neg (by simp)]
 refine wpAny_binaryOp_repeat_ref (T:="list") (U:="int") (by decide) ⟨_,e,rfl⟩ (fun s'=>typeIs_int s' k t) noFill_list_mul F.fills_int_mul F.slot_int_rmul repeat_list F.slot_int_index.lookup
  (call_meets F.slot_int_rmul (typeIs_int s k t) F.entry_int_rmul (F.args_int_rmul_2 _ _) (int___rmul___int_list k t l its.toArray n)
   ⟨e,rfl,⟨_,e,rfl⟩,call_meets F.slot_list_mul ⟨_,e,rfl⟩ F.entry_list_mul (F.args_list_mul_2 _ _) (AutoListH.list___mul___list_int_3 l its.toArray n k t L4 L9 BC) ⟨e,?_⟩⟩)
 rw [La];exact ⟨.ref _,_,I.xH (t':=s.toks) (r.rep k.toNat) (by rw [V1,Nat.mul_comm];exact hz),rfl,q _ I.fresh⟩
end
section
variable {prog:Program} {w:World} {A:Around} {E:Value->Shared->Prop} {s:Shared}
set_option maxRecDepth 100000 in
end
section
variable {X:Cx}
end
end L2
namespace TK
open PySem PySem.W PySem.Calls PyProof.Rows
theorem Y2 {P:Params}:∀(ns:List Int) (vs:List Value),WellAll P h vs (ns.map WData.int)->IntsAre vs ns:=by
 intro ns
 induction ns with
 | nil=>
  intro vs w;rw [List.map_nil] at w;cases w;exact .nil
 | cons n ns ih=>
  intro vs w;rw [fU] at w
  cases w with
  | cons a b=>
   cases a;exact .cons _ _ (ih _ b)
theorem X2 {l:OpenLaw} {n:Nat} (hn:l.most=some n) {P:Params} {h:Heap} {args:List WData} {vals:List Value}
 (uB:l.row.toRowW.claim.pre args=true) (K1:WellAll P h vals args):
 ∃a vs ns,vals=[Value.ref a]/\args=[WData.list (ns.map WData.int)]/\h.get? a=some { cls:=.type "list",data:=.seq vs.toArray }/\IntsAre vs ns/\ns.length<=n:=by
 have KD:WShape.hasAll [] args [.list .int]=true:=(pre_splitW uB).1;have hc:l.pre.holds [] { args:=args }=true:=(pre_splitW uB).2;obtain ⟨d,r,rfl,h1,h2⟩:=hasAllW_cons KD;obtain rfl:=hasAllW_nil h2;obtain ⟨xs,rfl,h3⟩:=hasW_list h1;obtain ⟨ns,rfl⟩:=items_int h3;have hlen:ns.length<=n:=by
  unfold OpenLaw.pre at hc;have h4:(WTm.not (.lt (.lit (.int (n:Int))) (.len (.arg 0)))).holds [] { args:=[.list (ns.map .int)] }=true:=by
   have h4:=(holds_andW hc).1;rw [hn] at h4;exact h4
  have h5:=condW_of h4 (w_not (w_lt w_lit (w_len_list (w_arg rfl))));rw [a7] at h5;refine lU fun q=>?_;have q':(n:Int)<((ns.length:Nat):Int):=by omega
  first
   | (rw [eQ q'] at h5;exact absurd h5 (by decide))
   | (simp at h5;omega)
 cases K1 with
 | cons w1 w2=>
  cases w2
  cases w1 with
  | list ho bP=>exact ⟨_,_,ns,rfl,rfl,ho,Y2 ns _ bP,hlen⟩
theorem X0 (l:OpenLaw) (args:List WData):l.row.toRowW.claim.post args (.bool true) args=true:=
 postW_of (r:=l.row.toRowW) (X:=(true==true))
  (show WShape.has [] (.bool true) .bool=true by first | rfl | decide | simp [WShape.has,WShape.arms,WShape.armsAll])
  (show (WTm.eq .res (.lit (.bool true))).value [] { args:=args,res:=some (.bool true),after:=args }=some (.bool (true==true)) from w_eq_bool (w_res rfl) w_lit) rfl
theorem lC {l:OpenLaw} {n:Nat} {q:Program} {loose:List Str} {XP:(Str->Option Value)->Heap->Prop} {YP:World->Heap->Prop} {d:DefRec}
 (hn:l.most=some n) (BN:d.params.defaults=[])
 (call:∀(w:World) (c_ aJ:Shared) (mg mb:Str->Option Value) (fa:Addr) (o:Obj) (pm cd doc:Value) (a:Addr) (vs:List Value) (ns:List Int),
  Ground q loose [] XP w c_ mg mb aJ.heap->YP w aJ.heap->
  aJ.heap.get? fa=some o->o.data=.func (docDef d.name d.params d.body d.scope pm cd doc)->aJ.heap.CodeRec cd d.name->mg d.name=some (.ref fa)->
  aJ.heap.get? a=some { cls:=.type "list",data:=.seq vs.toArray }->IntsAre vs ns->ns.length<=n->aJ.gens= #[]->
  codeAny (model l.prog w) callerA (.call (.ref fa) ⟨[.ref a],[]⟩) (fun r s'=>r=.ok (.ret (.bool true))/\OldK aJ.heap s'.heap/\s'.os=aJ.os/\AllBare s'.gens) aJ):
 WalkO q loose XP YP l.row.toRowW d [] (fun f vs=>PySem.call f vs):=by
 intro w c_ aJ mg mb G Y fa o pm cd doc dV kV ho hd mR hD BB hg args vals as uB hlay hrd K1 uF;obtain rfl:dV=.none:=Dflts.none hD BN;obtain rfl:kV=.none:=Dflts.noKw hD;obtain ⟨a,vs,ns,rfl,rfl,yg,hints,hlen⟩:=X2 hn uB K1;refine enter_call (codeAny_mono (call w c_ aJ mg mb fa o pm cd doc a vs ns G Y ho (fd_plain hd) mR BB yg hints hlen hg) fun r s' hq=>?_);obtain ⟨rfl,h2,h3,h4⟩:=hq;exact ⟨.inl ⟨.bool true,.bool true,[],rfl,fun _=>rfl,.bool true,X0 l _,fun _=>⟨List.Pairwise.nil,fun _ hm=>(nomatch hm)⟩⟩,h2,h3,h4⟩
section
variable {prog:Program} {w:World} {A:Around} {E:Value->Shared->Prop} {s:Shared} {K:Frag}
end
end TK
namespace L2
open PySem PySem.Spec PyProof.Rows
theorem PY:∀{vs:List Value} {ns:List Int},IntsAre vs ns->bw (ns.map V.int) vs
 | _,_,.nil=>.nil
 | _,_,.cons n t h=>.cons ⟨t,rfl⟩ (PY h)
noncomputable def Af (H:Hp):Prop:=∀b,H b=none\/∃o xs,H b=some (.dB o (.lst xs))
theorem Wt {P:Program} {w:World} {K:aL} {mg mb:Str->Option Value} {CX:km} {k:Nat} {fa a:Addr} {fd:FuncData} {x:Str} {sp:Sp} {aJ:Shared} {vs:List Value} {ns:List Int}
 (KX:K.In aJ.heap) (qV:aJ.heap.Ns mainGlobals mg) (hb:aJ.heap.Ns builtinsNs mb) (F7:∀x:Str,x≠"__name__"->mb x=bootBuiltins x) (Li:aJ.heap.NoLimit) (hg:aJ.gens= #[])
 (ha:aJ.heap.get? a=some { cls:=.type "list",data:=.seq vs.toArray }) (hi:IntsAre vs ns) (hl:ns.length<=sizeLine) (hr:dn k callerA)
 (F:∀base:Heap,K.In base->base.Ns mainGlobals mg->aw P w K mg base CX k fa fd [x] sp) (BU:∀(s:Shared) (u:Value),BindsTo s fd ⟨[u],[]⟩ [(x,u)])
 (m7:∀H:Hp,Af H->ay K H a (ns.map V.int)->sp [.ref a] H (fun v _=>v=.bl true) fun _ _ _=>False)
 (B':∀H e s',CX [] H aJ (fun _ _ _=>False) e s'->False):
 codeAny (model P w) callerA (.call (.ref fa) ⟨[.ref a],[]⟩) (fun r s'=>r=.ok (.ret (.bool true))/\OldK aJ.heap s'.heap/\s'.os=aJ.os/\AllBare s'.gens) aJ:=by
 have rv:=PY hi;have Kl:=hi.length;have core:∀H:Hp,Af H->ay K H a (ns.map V.int)->d_ P w H aJ.heap->(∀b,H b≠none->b=a)->(H a≠none->K.lookup a=none)->
  codeAny (model P w) callerA (.call (.ref fa) ⟨[.ref a],[]⟩) (fun r s'=>r=.ok (.ret (.bool true))/\OldK aJ.heap s'.heap/\s'.os=aJ.os/\AllBare s'.gens) aJ:=by
  intro H hO hS ae hA hK;have oq:∀{b:Addr} {o:Obj},aJ.heap.get? b=some o->H b=none->(sW aJ.heap H).get? b=some o:=fun e n=>Wq e n;have uw:∀{b:Addr} {o:Obj} {es:Array DictEntry} {ep:Nat},aJ.heap.get? b=some o->o.data=.dict es ep->H b=none:=fun {b o es ep} e d=>by
   cases q:H b with
   | none=>rfl
   | some u=>
    have e':b=a:=hA b (by rw [q];simp);subst e';rw [ha] at e;cases e;have d':Data.seq vs.toArray _=Data.dict es ep:=d;cases d'
  have E_:∀{b:Addr} {m:Str->Option Value},aJ.heap.Ns b m->(sW aJ.heap H).Ns b m:=fun {b m} ⟨o,es,ep,e,d,r⟩=>⟨o,es,ep,oq e (uw e d),d,r⟩;have zM:K.In (sW aJ.heap H):=fun b o e=>oq (KX b o e) (by
   cases q:H b with
   | none=>rfl
   | some u=>
    have e':b=a:=hA b (by rw [q];simp);subst e';rw [hK (by rw [q];simp)] at e;cases e)
  have hM:Mod K mg (sW aJ.heap H):=⟨zM,E_ qV,⟨mb,E_ hb,F7⟩,let ⟨mc,h1,h2⟩:=Li;⟨mc,E_ h1,h2⟩⟩;have e0:sT P w K mg (sW aJ.heap H) callerA [] aJ H:=⟨rfl,hM,fun b o e=>V7 e,Nat.le_of_eq (Xp _ _),trivial,fun b hb=>absurd (show b∈([]:List Addr) from hb) (by simp),ae,.of_eq hg⟩;refine codeAny_mono ((F _ zM (E_ qV)).run callerA [] aJ H ⟨[.ref a],[]⟩ [.ref a] [.ref a] _ _ hr e0 (BU aJ (.ref a)) (.cons rfl .nil) (m7 H hO hS)) fun r s' h=>?_
  cases r with
  | error e=>exact (B' H e s' h).elim
  | ok fl=>
   cases fl with
   | next=>exact False.elim h
   | brk=>exact False.elim h
   | cont=>exact False.elim h
   | ret u=>
    obtain ⟨v,H',os,bare,un,KW,r',q⟩:=h;have q':v=.bl true:=q;subst q';obtain rfl:u=Value.bool true:=r';refine ⟨rfl,OldK.of_keep fun b o e=>?_,os,bare⟩
    cases q:H b with
    | none=>exact un.keep b o e q (by intro z;exact absurd (show b∈([]:List Addr) from z) (by simp)) (by simp)
    | some u=>
     rcases hO b with z | ⟨ob,xs,z⟩
     ·rw [q] at z;cases z
     ·have z2:=un.iI b ob _ z;obtain ⟨e1,_⟩:=ae b _ z;obtain ⟨e2,_⟩:=KW b _ z2;rw [e] at e1;cases e1;exact e2
 cases hk:K.lookup a with
 | some o=>
  have e:=KX a o hk;rw [ha] at e;cases e;refine core (fun _=>none) (fun _=>.inl rfl) (.inr ⟨_,vs.toArray,_,hk,rfl,rfl,rfl,by rw [iw,Kl];exact hl,by simpa using rv⟩) (fun b u z=>by have z':(none:Option HO)=some u:=z;cases z') (fun b z=>absurd rfl z) fun z=>absurd rfl z
 | none=>
  refine core (fun b=>if b=a then some (.dB { cls:=.type "list",data:=.seq vs.toArray } (.lst (ns.map V.int))) else none) (fun b=>?_) (.inl (.inr ⟨{ cls:=.type "list",data:=.seq vs.toArray },if_pos rfl⟩)) (fun b u z=>?_) (fun b z=>?_) fun _=>hk
  ·by_cases hb:b=a
   ·exact .inr ⟨_,_,if_pos hb⟩
   ·exact .inl (if_neg hb)
  ·by_cases hb:b=a
   ·have z':=(if_pos hb).symm.trans z;cases z';subst hb;exact ⟨ha,by rw [a7];exact hl,vs,_,rv,ha⟩
   ·have z':=(if_neg hb).symm.trans z;cases z'
  ·by_cases hb:b=a
   ·exact hb
   ·exact absurd (if_neg hb) z
noncomputable abbrev ai {K:aL} {h:Heap} (_:K.In h):aL:=K
theorem Wa {l:PySem.W.OpenLaw} {n k:Nat} {q:Program} {loose:List Str} {XP:(Str->Option Value)->Heap->Prop} {YP:World->Heap->Prop} {d:DefRec} {K:Params->aL} {CX:World->km} {sp:World->Sp} {x:Str}
 (hn:l.most=some n) (sr:n<=sizeLine) (BN:d.params.defaults=[]) (hr:dn k callerA)
 (hY:∀(w:World) (h:Heap),YP w h->(K w.params).In h)
 (F:∀(w:World) (mg:Str->Option Value) (fa:Addr) (h:Heap),(K w.params).In h->h.Ns mainGlobals mg->mg d.name=some (.ref fa)->
  ∃fd:FuncData,(∀(s:Shared) (u:Value),BindsTo s fd ⟨[u],[]⟩ [(x,u)])/\
   ∀base:Heap,(K w.params).In base->base.Ns mainGlobals mg->aw l.prog w (K w.params) mg base (CX w) k fa fd [x] (sp w))
 (m7:∀(w:World) (H:Hp) (a:Addr) (ns:List Int),ns.length<=n->Af H->ay (K w.params) H a (ns.map V.int)->sp w [.ref a] H (fun v _=>v=.bl true) fun _ _ _=>False)
 (B':∀(w:World) (H:Hp) (s:Shared) (e:Value) (s':Shared),CX w [] H s (fun _ _ _=>False) e s'->False):
 PySem.W.WalkO q loose XP YP l.row.toRowW d [] (fun f vs=>PySem.call f vs):=by
 refine TK.lC hn BN fun w c_ aJ mg mb fa o pm cd doc a vs ns G Y ho hd mR BB yg hints hlen hg=>?_;have KX:=hY w _ Y;obtain ⟨fd,hb,hF⟩:=F w mg fa _ KX G.T.g BB;exact Wt KX G.T.g G.T.b G.T.builtins G.T.nolimit hg yg hints (dY hlen sr) hr hF hb (fun H hO hS=>m7 w H a ns hlen hO hS) fun H e s'=>B' w H aJ e s'
theorem WZ {l:PySem.W.OpenLaw} {n k:Nat} {q:Program} {loose:List Str} {XP:(Str->Option Value)->Heap->Prop} {YP:World->Heap->Prop} {d:DefRec} {K:Params->aL} {CX:km} {sp:aL->Sp} {x:Str}
 (hn:l.most=some n) (sr:n<=sizeLine) (BN:d.params.defaults=[]) (hr:dn k callerA)
 (hY:∀(w:World) (h:Heap),YP w h->(K w.params).In h)
 (F:∀(w:World) (mg:Str->Option Value) (fa:Addr) (h:Heap),(K w.params).In h->h.Ns mainGlobals mg->mg d.name=some (.ref fa)->
  ∃fd:FuncData,(∀(s:Shared) (u:Value),BindsTo s fd ⟨[u],[]⟩ [(x,u)])/\
   ∀base:Heap,(K w.params).In base->base.Ns mainGlobals mg->aw l.prog w (K w.params) mg base CX k fa fd [x] (sp (K w.params)))
 (m7:∀(K:aL) (H:Hp) (a:Addr) (ns:List Int),ns.length<=n->Af H->ay K H a (ns.map V.int)->sp K [.ref a] H (fun v _=>v=.bl true) fun _ _ _=>False)
 (B':∀(H:Hp) (s:Shared) (e:Value) (s':Shared),CX [] H s (fun _ _ _=>False) e s'->False):
 PySem.W.WalkO q loose XP YP l.row.toRowW d [] (fun f vs=>PySem.call f vs):=
 Wa (K:=K) (CX:=fun _=>CX) (sp:=fun w=>sp (K w.params)) hn sr BN hr hY F (fun w H a ns h1 h2 h3=>m7 (K w.params) H a ns h1 h2 h3) fun _ H s e s'=>B' H s e s'
noncomputable def iQ (s:Stmt) (j:Nat):Stmt:=match s with
 | .ClassDef _ _ _ body _ _ _ _ _ _ _=>body.getD j (.Pass ⟨0,0,0,0⟩)
 | _=>.Pass ⟨0,0,0,0⟩
noncomputable def r_ (s:Stmt):Arguments:=match s with
 | .FunctionDef _ a _ _ _ _ _ _ _ _=>a
 | _=>{ posonlyargs:=[],args:=[],vararg:=none,kwonlyargs:=[],kw_defaults:=[],kwarg:=none,defaults:=[] }
noncomputable def p0 (s:Stmt):List Stmt:=match s with
 | .FunctionDef _ _ b _ _ _ _ _ _ _=>b
 | _=>[]
noncomputable def aZ (s:Stmt):Scope:=match s with
 | .FunctionDef _ _ _ _ _ _ sc _ _ _=>sc
 | _=>{ kind:=.function,names:=[],isGenerator:=false,isCoroutine:=false }
noncomputable abbrev ax:km:=fun _ _ _ _ _ _=>False
noncomputable abbrev E0:XK:=fun _ _ _=>False
theorem ee:wL ax X E0:=fun _ _ _ _ _ _ _ h=>h.elim
structure gc (K:aL) (x qual:Str) (st:Stmt) (f:Addr) (fd:FuncData):Prop where
 ex:∃(oc:Value) (od:Option Addr) (kV doc pm:Value) (an:Option Addr) (dc ct:Value) (mj:Array (Option Value)),
  fd=PySem.W.fnOf x qual (r_ st) (p0 st) (aZ st) .none kV doc pm an dc ct/\K.lookup f=some ⟨oc,od,.func fd,mj⟩/\PySem.W.codeIn K dc qual=true
 kp:PySem.W.keepIn K (.ref f)=true
section
theorem gc.ok {x qual:Str} {st:Stmt} {f:Addr} {fd:FuncData} {N ps:List Str} {k:Nat} {sp:Sp} (F:gc K x qual st f fd) (S:cF N ps (aZ st)) (len:∀vs H Q E,sp vs H Q E->vs.length=ps.length)
 (jf:∀(dc:Value) (A:Around) (outer:List Env) (s:Shared) (H:Hp) (vs:List V) (Q:VK) (E:XK),dn k (A.deeper (envOfC qual (aZ st) s.heap.objs.size f dc))->sp vs H Q E->
  ∃t,gS (yN ax P w K mg base N qual (aZ st) f dc A outer s H E).xE (p0 st) t/\t { nx:=fun _ H'=>Q .bf H',rt:=Q } (i6 N vs) H):aw P w K mg base ax (k+1) f fd ps sp:=by
 obtain ⟨oc,od,kV,doc,pm,an,dc,ct,mj,rfl,lk,mR⟩:=F.ex;refine ZJ lk mR S len fun A outer s H vs Q E hr m7=>?_;obtain ⟨t,h,q⟩:=jf dc A outer s H vs Q E hr m7;exact ⟨t,h.xE,q⟩
theorem gc.binds {x qual:Str} {st:Stmt} {f:Addr} {fd:FuncData} {ps:List Str} (F:gc K x qual st f fd)
 (h:∀(kV doc pm:Value) (an:Option Addr) (dc ct:Value) (us:List Value),us.length=ps.length->bindArgs (PySem.W.fnOf x qual (r_ st) (p0 st) (aZ st) .none kV doc pm an dc ct) ⟨us,[]⟩=pure (ps.zip us)):dP K fd ps []:=by
 obtain ⟨oc,od,kV,doc,pm,an,dc,ct,mj,rfl,lk,mR⟩:=F.ex;exact .all (h kV doc pm an dc ct)
theorem Nn {x qual:Str} {st:Stmt} {f:Addr} {oc:Value} {od an:Option Addr} {mj:Array (Option Value)} {kV doc pm dc ct:Value} (l:K.lookup f=some ⟨oc,od,.func (PySem.W.fnOf x qual (r_ st) (p0 st) (aZ st) .none kV doc pm an dc ct),mj⟩)
 (c:PySem.W.codeIn K dc qual=true) (k:PySem.W.keepIn K (.ref f)=true):gc K x qual st f (PySem.W.fnOf x qual (r_ st) (p0 st) (aZ st) .none kV doc pm an dc ct):=⟨⟨oc,od,kV,doc,pm,an,dc,ct,mj,rfl,l,c⟩,k⟩
end
theorem jK (hr:dn k A):A.units+1<cLine:=Nat.lt_of_le_of_lt (Nat.add_le_add_left (by decide:1<=64) _) hr.units
theorem fi (h:n<=1000):n<sizeLine:=Nat.lt_of_le_of_lt h (by decide)
section
variable {X:Cx}
theorem pv (i:Nat) (hN:X.N[i]?=some x:=by rfl) (hv:GU X.env.scope x:=by first | exact Or.inl rfl | exact Or.inr (Or.inl rfl) | exact Or.inr (Or.inr rfl)) (hd:(x==("__debug__":Str))=false:=by decide)
 (mR:(x==("__classdict__":Str))=false:=by decide):PE X (.Name x pos) (wC i):=Vb hN hv hd mR
end
theorem dO {A B:Prop} (h:B):if false=true then A else B:=by
 rw [if_neg eR];exact h
theorem iN {A B:Prop} (h:A):if true=true then A else B:=by
 rw [if_pos rfl];exact h
theorem kK {c A B:Prop} [Decidable c] (h1:c->A) (h2:¬c->B):if c then A else B:=by
 by_cases h:c
 ·rw [if_pos h];exact h1 h
 ·rw [if_neg h];exact h2 h
theorem uZ {c A B:Prop} [Decidable c] (hc:c) (h:B):if (!decide c)=true then A else B:=by
 rw [eQ hc];exact dO h
noncomputable def aM (H H':Hp):Prop:=∀b o,H b=some o->H' b=some o
theorem aM.refl (H:Hp):aM H H:=fun _ _ h=>h
theorem aM.trans (a:aM H H1) (b:aM H1 H2):aM H H2:=fun c o h=>b c o (a c o h)
theorem aM.free (e:aM H H') (h:H' l=Option.none):H l=Option.none:=by
 cases q:H l with
 | none=>rfl
 | some o=>
  rw [e l o q] at h;cases h
section
variable {prog:Program} {w:World} {A:Around} {R:Result->Shared->Prop} {s:Shared}
theorem Xv (I:Nat->Shared->Prop)
 (turn:∀n s,I n s->wpAny (model prog w) A (pyNext it) (fun r aJ=>match r with
  | none=>R (.ok .next) aJ
  | some v=>wpAny (model prog w) A (letOwnedTupleGo target it v) (fun _ vF=>wpAny (model prog w) A (assign target env v) (fun _ gv=>
   wpAny (model prog w) A (forIn ifs true fun c r=>if r=true then do let ok <-isTrue c env (eval c env);pure (ForInStep.yield ok) else pure (ForInStep.yield r)) (fun ok jA=>
    if ok=true then wpAny (model prog w) A (eval elt env) (fun x tO=>
     wpAny (model prog w) A (call (.builtin "list.append") [acc,x]) (fun _ A'=>∃m,m<n/\I m A') (fun _ _=>False) tO) (fun _ _=>False) jA
    else ∃m,m<n/\I m jA) (fun _ _=>False) gv) (fun _ _=>False) vF) (fun _ _=>False) aJ) (fun _ _=>False) s)
 (n:Nat) (h:I n s):codeAny (model prog w) A (.compLoop (.ListComp elt [⟨target,iter,ifs,0⟩] scope pos) 0 it acc env) R s:=by
 refine codeAny_loop rfl I (fun n s hI=>?_) n h;show wpAny _ A ((compTurn (.ListComp elt [⟨target,iter,ifs,0⟩] scope pos) 0 it acc env).onRaise (fun x=>do noteFrame x env;theTreesLotGoes x)) _ _ s;refine wpAny_noted ?_;rw [compTurn_list];refine aj (wpAny_standAt (aj (wpAny_mono (turn n s hI) (fun r aJ eG=>?_) fun _ _ h'=>h'.elim)))
 cases r with
 | none=>exact bz eG
 | some v=>
  refine aj (wpAny_mono eG (fun _ vF Bt=>?_) fun _ _ h'=>h'.elim);refine aj (wpAny_mono Bt (fun _ gv ja=>aj (wpAny_mono ja (fun ok jA u4=>?_) fun _ _ h'=>h'.elim)) fun _ _ h'=>h'.elim)
  cases ok with
  | false=>exact bz ⟨rfl,u4⟩
  | true=>
   exact aj (aj (wpAny_mono u4 (fun x tO Kv=>aj (wpAny_mono Kv (fun _ A' Ku=>bz (bz ⟨rfl,Ku⟩)) fun _ _ h'=>h'.elim)) fun _ _ h'=>h'.elim))
end
theorem XG {env:Env} {f:(Str×NameKind)->List (Str×Addr)->Sem (ForInStep (List (Str×Addr)))}
 (h1:∀n k cs,k≠NameKind.free->f (n,k) cs=pure (.yield cs)) (h2:∀n a cs,env.cells.lookup n=some a->f (n,.free) cs=pure (.yield ((n,a)::cs))):
 ∀(names:List (Str×NameKind)) (acc:List (Str×Addr)),(∀x∈names,x.2=.free->∃c,env.cells.lookup x.1=some c)->(∀x c,acc.lookup x=some c->env.cells.lookup x=some c)->
  ∃cl,forIn names acc f=pure cl/\(∀x c,cl.lookup x=some c->env.cells.lookup x=some c/\((∃c',acc.lookup x=some c')\/(x,NameKind.free)∈names))/\
   ∀x,((∃c,acc.lookup x=some c)\/(x,NameKind.free)∈names)->∃c,cl.lookup x=some c:=by
 intro names
 induction names with
 | nil=>exact fun acc _ ha=>⟨acc,rfl,fun x c e=>⟨ha x c e,.inl ⟨c,e⟩⟩,fun x hx=>hx.elim (fun z=>z) fun z=>nomatch z⟩
 | cons y r ih=>
  intro acc hn ha;obtain ⟨n,k⟩:=y;have hr:∀x∈r,x.2=.free->∃c,env.cells.lookup x.1=some c:=fun x hx=>hn x (jl _ hx)
  by_cases hk:k=.free
  ·subst hk;obtain ⟨a,e⟩:=hn (n,.free) iu rfl;have e:env.cells.lookup n=some a:=e;have F8:∀x c,((n,a)::acc).lookup x=some c->env.cells.lookup x=some c:=fun x c q=>by
    rw [gI] at q
    cases hx:x==n with
    | true=>rw [hx] at q;cases q;rw [beq_iff_eq.mp hx];exact e
    | false=>rw [hx] at q;exact ha x c q
   obtain ⟨cl,e1,e2,e3⟩:=ih ((n,a)::acc) hr F8;refine ⟨cl,?_,fun x c q=>?_,fun x hx=>?_⟩
   ·rw [List.forIn_cons,h2 n a acc e,pure_bind];exact e1
   ·obtain ⟨q1,q2⟩:=e2 x c q;refine ⟨q1,?_⟩;rcases q2 with ⟨c',q2⟩ | q2
    ·rw [gI] at q2
     cases hx:x==n with
     | true=>rw [beq_iff_eq.mp hx];exact .inr iu
     | false=>rw [hx] at q2;exact .inl ⟨c',q2⟩
    ·exact .inr (jl _ q2)
   ·refine e3 x ?_;rcases hx with ⟨c,hx⟩ | hx
    ·refine .inl ?_;rw [gI]
     cases x==n with
     | true=>exact ⟨a,rfl⟩
     | false=>exact ⟨c,hx⟩
    ·rcases iJ.mp hx with z | z
     ·cases z;exact .inl ⟨a,by rw [gI,rE]⟩
     ·exact .inr z
  ·obtain ⟨cl,e1,e2,e3⟩:=ih acc hr ha;refine ⟨cl,?_,fun x c q=>?_,fun x hx=>?_⟩
   ·rw [List.forIn_cons,h1 n k acc hk,pure_bind];exact e1
   ·obtain ⟨q1,q2⟩:=e2 x c q;exact ⟨q1,q2.elim .inl fun z=>.inr (jl _ z)⟩
   ·refine e3 x ?_;rcases hx with hx | hx
    ·exact .inl hx
    ·rcases iJ.mp hx with z | z
     ·cases z;exact absurd rfl hk
     ·exact .inr z
theorem Qp {scope:Scope} {env:Env} (h:∀x∈scope.names,x.2=.free->∃c,env.cells.lookup x.1=some c):
 ∃cl,closureFor scope env=pure cl/\(∀x c,cl.lookup x=some c->env.cells.lookup x=some c/\(x,NameKind.free)∈scope.names)/\∀x,(x,NameKind.free)∈scope.names->∃c,cl.lookup x=some c:=by
 obtain ⟨cl,e1,e2,e3⟩:=XG (env:=env) (f:=fun x cs=>if (x.2==NameKind.free)=true then do let a <-cellOf env x.1;pure (ForInStep.yield ((x.1,a)::cs)) else pure (ForInStep.yield cs))
  (fun n k cs hk=>by
   have:(k==NameKind.free)=false:=by simpa using hk
   simp only [this,Bool.false_eq_true,if_false])
  (fun n a cs e=>by
   simp only [rE,if_true,cellOf,e,pure_bind])
  scope.names [] h (fun x c q=>nomatch q)
 refine ⟨cl,?_,fun x c q=>?_,fun x hx=>e3 x (.inr hx)⟩
 ·unfold closureFor
  first
   | (rw [show (forIn scope.names ([]:List (Str×Addr)) _:Sem (List (Str×Addr)))=pure cl from e1];rfl)
   | (simp only [e1,pure_bind];done)
   | exact (congrArg (fun z=>z>>=fun cs=>pure cs) e1).trans (pure_bind _ _)
 ·obtain ⟨q1,q2⟩:=e2 x c q;exact ⟨q1,q2.elim (fun ⟨_,z⟩=>nomatch z) fun z=>z⟩
theorem QL {env:Env}:∀{names:List (Str×NameKind)} {x:Str},names.lookup x=some .free->
 (names.map fun (n,k)=>if (k==NameKind.free && env.scope.kind==.function && env.kindOf n==some .cell) then (n,NameKind.cell) else (n,k)).lookup x=some .cell\/
 (names.map fun (n,k)=>if (k==NameKind.free && env.scope.kind==.function && env.kindOf n==some .cell) then (n,NameKind.cell) else (n,k)).lookup x=some .free
 | [],_,h=>by simp at h
 | (n,k)::r,x,h=>by
  have ih:= @QL env r x;show List.lookup x ((if (k==NameKind.free && env.scope.kind==.function && env.kindOf n==some .cell)=true then (n,NameKind.cell) else (n,k))::_)=_\/
   List.lookup x ((if (k==NameKind.free && env.scope.kind==.function && env.kindOf n==some .cell)=true then (n,NameKind.cell) else (n,k))::_)=_
  cases hx:x==n with
  | true=>
   simp only [gI,hx] at h;cases h
   by_cases hc:(NameKind.free==NameKind.free && env.scope.kind==.function && env.kindOf n==some .cell)=true
   ·rw [if_pos hc];exact .inl (by simp [gI,hx])
   ·rw [if_neg hc];exact .inr (by simp [gI,hx])
  | false=>
   simp only [gI,hx] at h
   by_cases hc:(k==NameKind.free && env.scope.kind==.function && env.kindOf n==some .cell)=true
   ·rw [if_pos hc];simp only [gI,hx];exact ih h
   ·rw [if_neg hc];simp only [gI,hx];exact ih h
noncomputable def ic (X:Cx) (scope:Scope) (cl:List (Str×Addr)) (N:List Str) (ex:List Addr) (s:Shared) (H:Hp):Cx where
 prog:=X.prog
 w:=X.w
 K:=X.K
 mg:=X.mg
 base:=X.base
 A:=X.A
 N:=N
 c_:=s
 iK:=H
 env:=compEnvC scope cl s.heap.objs.size X.env
 outer:=X.stack
 stack:=X.stack
 ex:=ex
 fn:=fun x=>scope.names.lookup x==some .local
 calm:=X.calm
 pn:=[]
 xe:=fun _ _=>False
noncomputable def rX (js:List (Option Nat)) (σ:St):St:=js.map fun j=>match j with
 | none=>none
 | some j=>(σ[j]?).join
structure i7 (sc:Scope) (NX:List Str) (scope:Scope) (N:List Str) (js:List (Option Nat)):Prop where
 kind:scope.kind=.function
 cell:∀x∈scope.names,x.2≠.cell
 loc:∀x∈scope.names,x.2=.local->scope.names.lookup x.1=some .local
 free:∀x∈scope.names,x.2=.free->scope.names.lookup x.1=some .free/\(sc.names.lookup x.1=some .cell\/sc.names.lookup x.1=some .free)
 len:js.length=N.length
 at_:∀p∈js.zip N,p.1=none\/∃j∈List.range NX.length,p.1=some j/\NX[j]?=some p.2/\(p.2,NameKind.free)∈scope.names
theorem kj {sc:Scope} {NX:List Str} {scope:Scope} {N:List Str} {js:List (Option Nat)} (h1:scope.kind=.function:=by rfl) (h2:∀x∈scope.names,x.2≠.cell:=by decide+kernel) (h3:∀x∈scope.names,x.2=.local->scope.names.lookup x.1=some .local:=by decide+kernel) (h4:∀x∈scope.names,x.2=.free->scope.names.lookup x.1=some .free/\(sc.names.lookup x.1=some .cell\/sc.names.lookup x.1=some .free):=by decide+kernel) (h5:js.length=N.length:=by rfl) (h6:∀p∈js.zip N,p.1=none\/∃j∈List.range NX.length,p.1=some j/\NX[j]?=some p.2/\(p.2,NameKind.free)∈scope.names:=by decide+kernel):i7 sc NX scope N js:=⟨h1,h2,h3,h4,h5,h6⟩
section
variable {X:Cx} {pins:List (Addr×Obj)} {σ:St} {H:Hp} {s:Shared} {scope:Scope} {N:List Str} {js:List (Option Nat)} {cl:List (Str×Addr)} {ex:List Addr}
theorem Wr (I:Inv X pins σ H s) (C:i7 X.env.scope X.N scope N js) (c2:∀x c,cl.lookup x=some c->X.env.cells.lookup x=some c/\(x,NameKind.free)∈scope.names)
 (c3:∀x,(x,NameKind.free)∈scope.names->∃c,cl.lookup x=some c) (hex:∀b∈ex,rM X pins H b/\b<s.heap.objs.size)
 (qV:h1.Ns s.heap.objs.size fun _=>none) (hk:∀b o,s.heap.get? b=some o->h1.get? b=some o):Inv (ic X scope cl N ex s H) [] (rX js σ) H { s with heap:=h1,toks:=tk }:=by
 have fr:∀x,(x,NameKind.free)∈scope.names->(relabel scope X.env).names.lookup x=some .cell\/(relabel scope X.env).names.lookup x=some .free:=fun x hx=>QL (C.free _ hx rfl).1;refine ⟨⟨I.ok.mod,C.kind,I.ok.glob,I.ok.blt,aF _,fun x y c e1 e2=>I.ok.inj x y c (c2 x c e1).1 (c2 y c e2).1,fun x hx=>?_,fun x c hf e=>?_,I.ok.hd,I.ok.frames,.inl rfl,fun b hb=>⟨gG (hex b hb).2,fun x c e=>(hex b hb).1.2.2.2.2.1 x c (c2 x c e).1⟩,I.bs,dY I.ok.sO I.sz,fun b o e hb=>?_,fun b hb hf=>?_,I.stack,I.nP⟩,
  rfl,I.bare,Un.kept hk,⟨fun _=>none,qV,fun i x v e1 e2 e3=>?_⟩,fun x c e=>?_,I.ae.fresh (aF _),fun x c e=>I.eN x c (c2 x c e).1,fun p hp=>absurd (show p∈([]:List (Addr×Obj)) from hp) (by simp),I.ae.kept hk,?_⟩
 ·
  have hx:(relabel scope X.env).names.lookup x=some .cell\/(relabel scope X.env).names.lookup x=some .free:=hx;have hm:(x,NameKind.free)∈scope.names:=by
   have key:∀k,(relabel scope X.env).names.lookup x=some k->k=.cell\/k=.free->(x,NameKind.free)∈scope.names:=fun k hl hk=>by
    have m:=rJ hl;obtain ⟨⟨n,k'⟩,hm,e⟩:=gF.mp m;dsimp only at e
    by_cases hc:(k'==NameKind.free && X.env.scope.kind==.function && X.env.kindOf n==some .cell)=true
    ·rw [if_pos hc] at e;cases e;have:k'=.free:=by
      simp only [Bool.and_eq_true,beq_iff_eq] at hc;exact hc.1.1
     subst this;exact hm
    ·rw [if_neg hc] at e;cases e;rcases hk with z | z
     ·exact absurd z (C.cell _ hm)
     ·subst z;exact hm
   rcases hx with z | z
   ·exact key _ z (.inl rfl)
   ·exact key _ z (.inr rfl)
  exact c3 x hm
 ·have hf:(scope.names.lookup x==some .local)=true:=hf;have e':=(C.free _ (c2 x c e).2 rfl).1;rw [e'] at hf;exact absurd hf (by decide)
 ·obtain ⟨⟨_,_,_,hz,_,_⟩,aW⟩:=hex b hb;rcases hz with z | z
  ·exact I.ok.qI b o e z
  ·exact absurd (jv (jv (eg e) I.ok.sO) z) (pS _)
 ·obtain ⟨⟨_,hL,Lx,_⟩,_⟩:=hex b hb;rcases iJ.mp (I.jR b hf) with z | z
  ·exact hL z
  ·exact Lx z
 ·
  unfold rX at e2;rw [dt] at e2
  cases ej:js[i]? with
  | none=>rw [ej] at e2;cases e2
  | some oj=>
   rw [ej] at e2
   cases oj with
   | none=>cases e2
   | some j=>
    have rB:(σ[j]?).join=some v:=gn e2;have Mc:σ[j]?=some (some v):=by
     cases q:σ[j]? with
     | none=>rw [q] at rB;cases rB
     | some z=>rw [q] at rB;exact congrArg some rB
    have e1:N[i]?=some x:=e1;have hz:(some j,x)∈js.zip N:=uS.mpr ⟨i,by rw [List.getElem?_zip_eq_some];exact ⟨ej,e1⟩⟩;obtain ⟨a1,a2⟩:X.N[j]?=some x/\(x,NameKind.free)∈scope.names:=by
     rcases C.at_ _ hz with q | ⟨j',_,q,a1,a2⟩
     ·cases q
     ·cases q;exact ⟨a1,a2⟩
    have a1:X.N[j]?=some x:=a1;have a2:(x,NameKind.free)∈scope.names:=a2;obtain ⟨b1,b2⟩:=C.free _ a2 rfl;have b2:X.env.scope.names.lookup x=some .cell\/X.env.scope.names.lookup x=some .free:=b2;obtain ⟨m,_,hl⟩:=I.loc;obtain ⟨u,r,l⟩:=hl j x v a1 Mc (.inr b2);refine ⟨u,r,?_⟩;rcases l with ⟨k,_⟩ | ⟨_,c,hc,z⟩
    ·have k:X.env.scope.names.lookup x=some .local:=k;rcases b2 with b2 | b2<;>(rw [b2] at k;cases k)
    ·obtain ⟨c',pM⟩:=c3 x a2;have:=(c2 x c' pM).1;rw [hc] at this;cases this;obtain ⟨o,ho,hd⟩:=z;exact .inr ⟨fr x a2,c,pM,⟨o,hk _ _ ho,hd⟩⟩
 ·obtain ⟨v,o,ho,hd⟩:=I.cell x c (c2 x c e).1;exact ⟨v,o,hk _ _ ho,hd⟩
 ·show (rX js σ).length=N.length;unfold rX;rw [a7];exact C.len
end
noncomputable def yI (X:Cx) (ifs:List Expr) (t:TT):Prop:=
 ∀(pins:List (Addr×Obj)) (s:Shared) (σ:St) (H:Hp) (Q:Bool->Hp->Prop),Inv X pins σ H s->t σ H Q->
  wpAny (model X.prog X.w) X.A (forIn ifs true fun c r=>if r=true then do let ok <-isTrue c X.env (eval c X.env);pure (ForInStep.yield ok) else pure (ForInStep.yield r)) (TP X pins σ Q) X.xe s
noncomputable def Zn:TT:=fun _ H Q=>Q true H
theorem vy:yI X [] Zn:=fun _ _ _ H _ I h=>wpAny_tests_nil ⟨H,I,h⟩
theorem pA (h:PT X c t):yI X [c] t:=fun pins s σ H Q I hw=>wpAny_tests_one (h pins s σ H Q I hw)
noncomputable def zd (js:List (Option Nat)) (g:TG) (tc:TT) (te:TE) (σ:St) (Q:VK) (J:It) (H1:Hp) (D:Addr):Prop:=∃W:Nat->Nat->St->Hp->Prop,(∃m,W 0 m (rX js σ) (upd H1 D (.lst [])))/\
 ∀i m aa H',W i m aa H'->(J.stop i H'/\Q (.ref D) H')\/(J.go i H'/\∃N:St->Hp->Prop,(∀gW H2,N gW H2->∃m',m'<m/\W (i+1) m' gW H2)/\
  ∀x H2,J.vA i H' x H2->g x aa H2 fun eY H3=>tc eY H3 fun ok H4=>if ok=true then te eY H4 fun y H5=>∃ys,H5 D=some (.lst ys)/\ys.length<sizeLine/\N eY (upd H5 D (.lst (ys++[y]))) else N eY H4)
noncomputable def Dh (js:List (Option Nat)) (wi:TI) (g:TG) (tc:TT) (te:TE):TE:=fun σ H Q=>wi σ H fun J H1=>∀D,H1 D=none->zd js g tc te σ Q J H1 D
noncomputable def kh (l:List (Str×NameKind)):Scope:={ kind:=.function,names:=l,isGenerator:=false,isCoroutine:=false,more:=[] }
section
variable {X:Cx} {tg iter elt:Expr} {ifs:List Expr} {scope:Scope} {pos:Pos} {N:List Str} {js:List (Option Nat)} {wi:TI} {g:TG} {tc:TT} {te:TE}
theorem ON {cl:List (Str×Addr)} {pins:List (Addr×Obj)} {σ:St} {H:Hp} {s:Shared} {E:Value->Shared->Prop} {Q:VK} {RR:Value->Addr->Result->Shared->Prop} (hc:l_ X) (C:i7 X.env.scope X.N scope N js)
 (c2:∀x c,cl.lookup x=some c->X.env.cells.lookup x=some c/\(x,NameKind.free)∈scope.names) (c3:∀x,(x,NameKind.free)∈scope.names->∃c,cl.lookup x=some c)
 (hb:∀cl ex s H,l_ (ic X scope cl N ex s H)->PG (ic X scope cl N ex s H) tg g/\yI (ic X scope cl N ex s H) ifs tc/\PE (ic X scope cl N ex s H) elt te)
 {it:Addr} {fp:List Addr} {tn:Nat->Heap->Prop} {J:It} (I:Inv X pins σ H s) (T:uV X.prog X.w X.K tg J fp it tn) (st:tn 0 s.heap) (f2:∀b∈fp,rM X pins H b)
 (q:∀D,H D=none->zd js g tc te σ Q J H D)
 (hRR:∀D C' H' s',Q (.ref D) H'->(∃m,s'.heap.Ns C' m)->H' C'=none->X.c_.heap.objs.size<=C'->C'≠X.env.locals->(∀x c,X.env.cells.lookup x=some c->c≠C')->(∀p∈X.pn++pins,p.1≠C')->Inv X pins σ H' s'->RR (.ref D) C' (.ok .next) s'):
 wpAny (model X.prog X.w) X.A (newList []) (fun acc jA=>wpAny (model X.prog X.w) X.A (newFunctionEnv scope X.env.globals cl [] X.env.qual none .none (some X.env)) (fun Cv tO=>
  codeAny (model X.prog X.w) X.A (.compStart (.ListComp elt [⟨tg,iter,ifs,0⟩] scope pos) 0 (.ref it) acc { Cv with scope:=relabel scope X.env }) (RR acc Cv.locals) tO) E jA) E s:=by
 have hD:H s.heap.objs.size=none:=I.fresh;have I3:Inv X pins σ (upd H s.heap.objs.size (.lst [])) { s with heap:=s.heap.push { cls:=.type "list",data:=.seq ([]:List Value).toArray } }:=I.xH (its:=[]) (ys:=[]) (t':=s.toks) .nil (dM _);refine wpAny_newObj_type (wpAny_newFunctionEnv C.cell (by intro y hy;simp at hy) (fun eG m9 m8=>?_) C.kind);dsimp only at m9 m8 ⊢;generalize qR:({ s with heap:=s.heap.push { cls:=.type "list",data:=.seq ([]:List Value).toArray } }:Shared)=s3 at I3;have Lu:s.heap.push { cls:=.type "list",dict:=none,data:=.seq ([]:List Value).toArray }=s3.heap:=by rw [<-qR]
 rw [Lu] at m9 m8 ⊢;have kp:∀b o,s3.heap.get? b=some o->eG.get? b=some o:=fun b o e=>m8.extBut b o (gG (eg e)) (eI _ e);have aW:∀b∈fp,b<s.heap.objs.size:=fun b hb=>by
  obtain ⟨o,e,_⟩:=T.obj 0 s.heap st b hb;exact eg e
 have Rw:s3.heap.objs.size=s.heap.objs.size+1:=by rw [<-Lu,Heap.size_push]
 have f3:∀b∈fp,rM X pins (upd H s.heap.objs.size (.lst [])) b:=fun b hb=>by
  obtain ⟨h1,h2⟩:=f2 b hb;exact ⟨by rw [au (gG (aW b hb))];exact h1,h2⟩
 have IY:∀tk,Inv (ic X scope cl N fp s3 (upd H s.heap.objs.size (.lst []))) [] (rX js σ) (upd H s.heap.objs.size (.lst [])) { s3 with heap:=eG,toks:=tk }:=fun tk=>
  Wr I3 C c2 c3 (fun b hb=>⟨f3 b hb,by rw [Rw];exact Nat.lt_succ_of_lt (aW b hb)⟩) m9 kp
 have gC:tn 0 eG:=T.keep 0 s.heap eG st fun b hb o e=>kp b o (by rw [<-Lu];exact eI _ e);obtain ⟨W,⟨m0,w0⟩,turn⟩:=q s.heap.objs.size hD;have LC:l_ (ic X scope cl N fp s3 (upd H s.heap.objs.size (.lst []))):=hc.in_ I3 rfl rfl fun _ _ _ z=>z;have hbY:=hb cl fp s3 (upd H s.heap.objs.size (.lst [])) LC;obtain ⟨hg,hif,he⟩:=hbY;have mh:∀{H':Hp},(∀b∈fp,H' b=none)->∀b∈fp,rM (ic X scope cl N fp s3 (upd H s.heap.objs.size (.lst []))) [] H' b:=fun hn b hb=>by
  obtain ⟨_,hL,Lx,_,mQ,_⟩:=f2 b hb;refine ⟨hn b hb,gG (by show b<s3.heap.objs.size;rw [Rw];exact Nat.lt_succ_of_lt (aW b hb)),fun z=>?_,.inl hb,fun x c e=>mQ x c (c2 x c e).1,fun p hp=>absurd (show p∈([]:List (Addr×Obj)) from hp) (by simp)⟩;rcases iJ.mp (I.jR b z) with z | z
  ·exact hL z
  ·exact Lx z
 have loop:∀s4:Shared,s4={ s3 with heap:=eG,toks:=s.toks+([]:List (Str×Value)).length }->
  codeAny (model X.prog X.w) X.A (.compLoop (.ListComp elt [⟨tg,iter,ifs,0⟩] scope pos) 0 (.ref it) (.ref s.heap.objs.size) (compEnvC scope cl s3.heap.objs.size X.env)) (RR (.ref s.heap.objs.size) s3.heap.objs.size) s4:=by
  rintro s4 rfl;refine Xv (fun n s'=>∃i aa H',Inv (ic X scope cl N fp s3 (upd H s.heap.objs.size (.lst []))) [] aa H' s'/\tn i s'.heap/\(∀b∈fp,H' b=none)/\W i n aa H') ?_ m0
   ⟨0,_,_,IY _,gC,fun b hb=>(f3 b hb).1,w0⟩
  rintro n s5 ⟨i,CJ,H5,I5,kS,FX,w5⟩;rcases turn i n CJ H5 w5 with ⟨stop,qn⟩ | ⟨go,Nx,hN,step⟩
  ·refine aA (T.done (ic X scope cl N fp s3 (upd H s.heap.objs.size (.lst []))) rfl rfl rfl LC i [] s5 CJ H5 _ I5 (mh FX) kS stop) fun r s6 ⟨hr,I6⟩=>?_;subst hr;obtain ⟨m,hn,_⟩:=I6.loc;refine hRR _ _ H5 s6 qn ⟨m,hn⟩ I6.free (dY I3.sz (aF _)) (Nat.ne_of_gt I3.lt) (fun x c e z=>?_) (fun p hp z=>?_) (I3.Cw I6.os I6.base I6.ae I6.bare fun b hb=>?_)
   ·obtain ⟨v,o,ho,_⟩:=I3.cell x c e;exact absurd (eg ho) (by rw [z];exact pS _)
   ·exact absurd (eg (I3.pin p hp).1) (by rw [z];exact pS _)
   ·obtain ⟨_,hL,_,hx,mQ,hp⟩:=f2 b hb;exact ⟨hx,hL,mQ,hp⟩
  ·refine aA (T.item (ic X scope cl N fp s3 (upd H s.heap.objs.size (.lst []))) rfl rfl rfl LC i [] s5 CJ H5 _ I5 (mh FX) kS go) fun r s6 zz=>L2.Tg zz fun u hr h6=>?_;subst hr;refine aA h6 fun _ s7 zz=>?_;obtain ⟨x,H7,I7,r7,y7,JO,fr7⟩:=zz;have I7':=I7.pinned (mh fr7) (T.obj _ _ JO);refine aA (hg _ s7 CJ H7 x u _ I7' r7 (step x H7 y7)) fun _ s8 zz=>?_;obtain ⟨CI,H8,I8,q8⟩:=zz;refine aA (hif _ s8 CI H8 _ I8 q8) fun ok s9 zz=>?_;obtain ⟨H9,I9,q9⟩:=zz;have again:∀{s':Shared} {aa:St} {H':Hp},Inv (ic X scope cl N fp s3 (upd H s.heap.objs.size (.lst []))) ([]++Aw fp s7.heap) aa H' s'->Nx aa H'->
    ∃m,m<n/\∃i Ad Mr,Inv (ic X scope cl N fp s3 (upd H s.heap.objs.size (.lst []))) [] Ad Mr s'/\tn i s'.heap/\(∀b∈fp,Mr b=none)/\W i m Ad Mr:=fun {s' aa H'} I' n'=>by
    obtain ⟨m',hm,w'⟩:=hN aa H' n';refine ⟨m',hm,i+1,aa,H',I'.gK,T.keep _ _ _ JO fun b hb o e=>(I'.pin (b,o) (ng _ (ng _ (ED hb e)))).1,fun b hb=>?_,w'⟩;obtain ⟨o,e,d⟩:=T.obj _ _ JO b hb;exact (I'.pin (b,o) (ng _ (ng _ (ED hb e)))).2.1
   cases ok with
   | false=>exact again I9 q9
   | true=>
    refine aA (he _ s9 CI H9 _ I9 q9) fun yv z8 zz=>?_;obtain ⟨y,nh,I10,r10,ys,hDD,Lf,n10⟩:=zz;refine aA (pC _ z8 CI nh (.ref s.heap.objs.size) [y] (.ref s.heap.objs.size) [yv] (fun _ H'=>Nx CI H') I10 rfl (.cons r10 .nil) ⟨_,ys,y,rfl,rfl,hDD,Lf,n10⟩) fun _ tR zz=>?_;obtain ⟨_,rK,I11,_,n11⟩:=zz;exact again I11 n11
 have e4:({ s with heap:=eG,toks:=s.toks+([]:List (Str×Value)).length }:Shared)={ s3 with heap:=eG,toks:=s.toks+([]:List (Str×Value)).length }:=by rw [<-qR]
 exact codeAny_compStart_list (loop _ e4) (T.self _ 0 _ _ _ gC (loop _ e4))
theorem WE (hc:l_ X) (hi:PI X tg iter wi) (C:i7 X.env.scope X.N scope N js)
 (hb:∀cl ex s H,l_ (ic X scope cl N ex s H)->PG (ic X scope cl N ex s H) tg g/\yI (ic X scope cl N ex s H) ifs tc/\PE (ic X scope cl N ex s H) elt te)
 (hs:∀x,foldedSetIterable iter X.env x=pure x:=by intro _;rfl):PE X (.ListComp elt [⟨tg,iter,ifs,0⟩] scope pos) (Dh js wi g tc te):=by
 intro pins s σ H Q I h;obtain ⟨cl,mQ,c2,c3⟩:=Qp (scope:=scope) (env:=X.env) fun x hx hf=>I.ok.has x.1 (C.free x hx hf).2;rw [eval_ListComp];refine wpAny_comprehension_free (use:=none) rfl hs mQ C.kind C.loc (aA (hi pins s σ H _ I h) fun xv aJ eG=>aA eG fun Fg gv ja=>?_);obtain ⟨it,fp,tn,J,H2,rfl,I2,T,ba,f2,q⟩:=ja;refine ON (RR:=fun acc C'=>compPost (model X.prog X.w) X.A X.xe none (EP X pins σ Q) acc C') hc C c2 c3 hb I2 T ba f2 q ?_;intro D C' H' s' hq qV Ly hsz hL uJ x_ I';obtain ⟨m,hn⟩:=qV;refine ⟨m,hn,fun h' sb=>⟨.ref D,H',?_,rfl,hq⟩⟩;exact I'.turned (t':=s'.toks) (fun b o hb e=>(sb.2 b hb).trans e) Ly (bp (bp hL)) (.inr hsz) uJ x_
theorem o5 (hc:X.calm=true) (hi:PI X tg iter wi) (C:i7 X.env.scope X.N scope N js)
 (hb:∀cl ex s H,PG (ic X scope cl N ex s H) tg g/\yI (ic X scope cl N ex s H) ifs tc/\PE (ic X scope cl N ex s H) elt te)
 (hs:∀x,foldedSetIterable iter X.env x=pure x:=by intro _;rfl):PE X (.ListComp elt [⟨tg,iter,ifs,0⟩] scope pos) (Dh js wi g tc te):=WE (.inl hc) hi C (fun cl ex s H _=>hb cl ex s H) hs
theorem WL (hN:X.N.Nodup) (mP:X.N[i]?=some y) (hy:X.env.scope.names.lookup y=some .local) (hc:l_ X) (hi:PI X tg iter wi) (C:i7 X.env.scope X.N scope N js)
 (hb:∀cl ex s H,l_ (ic X scope cl N ex s H)->PG (ic X scope cl N ex s H) tg g/\yI (ic X scope cl N ex s H) ifs tc/\PE (ic X scope cl N ex s H) elt te)
 (KC:swapsWith (.ListComp elt [⟨tg,iter,ifs,0⟩] scope pos) (some (.Name y py)) xl.line X.env=pure true:=by rfl)
 (hs:∀x,foldedSetIterable iter X.env x=pure x:=by intro _;rfl):PS X (.Assign [.Name y py] (.ListComp elt [⟨tg,iter,ifs,0⟩] scope pos) xl) (Ag (Dh js wi g tc te) (wI i)):=by
 intro pins s σ H D I h;obtain ⟨cl,mQ,c2,c3⟩:=Qp (scope:=scope) (env:=X.env) fun x hx hf=>I.ok.has x.1 (C.free x hx hf).2;rw [exec_Assign_Name_used _ _ _ _ KC];refine aj (wpAny_standAt (aj ?_));show wpAny _ X.A (do let _ <-comprehension (.ListComp elt [⟨tg,iter,ifs,0⟩] scope pos) scope X.env _ (newList []) false (eval iter X.env) (some (assign (.Name y py) X.env))) _ _ s;refine aj (wpAny_mono (wpAny_comprehension_free (use:=some (assign (.Name y py) X.env)) (Q:=fun _ s'=>SP X pins D .next s') rfl hs mQ C.kind C.loc (aA (hi pins s σ H _ I h) fun xv aJ eG=>aA eG fun Fg gv ja=>?_))
  (fun _ s' hq=>bz (bz hq)) fun _ _ e=>e)
 obtain ⟨it,fp,tn,J,H2,rfl,I2,T,ba,f2,q⟩:=ja;refine ON (Q:=fun x H1=>wI i x σ H1 D.nx) (RR:=fun acc C'=>compPost (model X.prog X.w) X.A X.xe (some (assign (.Name y py) X.env)) (fun _ s'=>SP X pins D .next s') acc C') hc C c2 c3 hb I2 T ba f2 q ?_;intro Da C' H' s' hq qV Ly hsz hL uJ x_ I';obtain ⟨m,hn⟩:=qV;show wpAny _ X.A (assign (.Name y py) X.env (.ref Da)) _ _ _;refine wpAny_assign_Name (Qe I' hN mP (.inl hy) (v:=.ref Da) rfl (fun s2 I2 hx=>?_) (.inr hy));obtain ⟨a,sba,ha⟩:=hx;have dJ:C'≠a:=by
  rcases ha with z | z
  ·rw [z];exact hL
  ·exact fun e=>uJ y a z e.symm
 refine ⟨m,hn.sameBut sba dJ,fun h' sb=>⟨_,H',?_,hq⟩⟩;exact I2.turned (t':=s2.toks) (fun b o hb e=>(sb.2 b hb).trans e) Ly hL (.inr hsz) uJ x_
theorem wR (hN:X.N.Nodup) (mP:X.N[i]?=some y) (hy:X.env.scope.names.lookup y=some .local) (hc:X.calm=true) (hi:PI X tg iter wi) (C:i7 X.env.scope X.N scope N js)
 (hb:∀cl ex s H,PG (ic X scope cl N ex s H) tg g/\yI (ic X scope cl N ex s H) ifs tc/\PE (ic X scope cl N ex s H) elt te)
 (KC:swapsWith (.ListComp elt [⟨tg,iter,ifs,0⟩] scope pos) (some (.Name y py)) xl.line X.env=pure true:=by rfl)
 (hs:∀x,foldedSetIterable iter X.env x=pure x:=by intro _;rfl):PS X (.Assign [.Name y py] (.ListComp elt [⟨tg,iter,ifs,0⟩] scope pos) xl) (Ag (Dh js wi g tc te) (wI i)):=WL hN mP hy (.inl hc) hi C (fun cl ex s H _=>hb cl ex s H) KC hs
end
section
variable {g:TG} {tc:TT} {te:TE} {js:List (Option Nat)} {σ:St} {H:Hp} {Q:VK} {D:Addr}
theorem D_ {lo:Int} {n:Nat} (Pv:Nat->St->Hp->Prop) (h0:Pv 0 (rX js σ) (upd H D (.lst [])))
 (hs:∀i aa H',i<n->Pv i aa H'->g (.int (lo+i)) aa H' fun eY H3=>tc eY H3 fun ok H4=>if ok=true then te eY H4 fun y H5=>∃ys,H5 D=some (.lst ys)/\ys.length<sizeLine/\Pv (i+1) eY (upd H5 D (.lst (ys++[y]))) else Pv (i+1) eY H4)
 (hd:∀aa H',Pv n aa H'->Q (.ref D) H'):
 zd js g tc te σ Q (wu lo n) H D:=by
 refine ⟨fun i m σ H=>m=n-i/\i<=n/\Pv i σ H,⟨n,by simp,dM _,h0⟩,?_⟩;rintro i m aa H' ⟨rfl,hi,p⟩
 by_cases aW:i<n
 ·refine .inr ⟨aW,Pv (i+1),fun gW H2 p'=>⟨n-(i+1),by omega,rfl,aW,p'⟩,fun x H2 y=>?_⟩;obtain ⟨e,y⟩:=y;subst e y;exact hs i aa _ aW p
 ·have e:i=n:=by lia
  subst e;exact .inl ⟨aF _,hd aa H' p⟩
theorem o7 {K:aL} {a:Addr} {xs:List V} (Pv:Nat->St->Hp->Prop) (h0:Pv 0 (rX js σ) (upd H D (.lst []))) (hl:∀i aa H',i<=xs.length->Pv i aa H'->ay K H' a xs)
 (hs:∀i x aa H',xs[i]?=some x->Pv i aa H'->g x aa H' fun eY H3=>tc eY H3 fun ok H4=>if ok=true then te eY H4 fun y H5=>∃ys,H5 D=some (.lst ys)/\ys.length<sizeLine/\Pv (i+1) eY (upd H5 D (.lst (ys++[y]))) else Pv (i+1) eY H4)
 (hd:∀aa H',Pv xs.length aa H'->Q (.ref D) H'):
 zd js g tc te σ Q (zZ K a) H D:=by
 refine ⟨fun i m σ H=>m=xs.length-i/\i<=xs.length/\Pv i σ H,⟨xs.length,by simp,dM _,h0⟩,?_⟩;rintro i m aa H' ⟨rfl,hi,p⟩;have q:=hl i aa H' hi p
 by_cases aW:i<xs.length
 ·refine .inr ⟨⟨xs,xs[i],q,by simp [aW]⟩,Pv (i+1),fun gW H2 p'=>⟨xs.length-(i+1),by omega,rfl,aW,p'⟩,fun x H2 y=>?_⟩;obtain ⟨e,y⟩:=y;subst e;exact hs i x aa _ (y xs q) p
 ·have e:i=xs.length:=by lia
  subst e;exact .inl ⟨⟨xs,q,aF _⟩,hd aa H' p⟩
end
end L2
set_option maxHeartbeats 4000000
namespace L2
open PySem PySem.Spec PyProof.Rows
section
variable {P:Program} {w:World} {H:Hp} {h:Heap} {a d C:Addr} {dx:Option Addr} {t:Addr} {fs:List (Str×V)}
end
section
variable {prog:Program} {w:World} {A:Around} {E:Value->Shared->Prop} {h:Heap} {g:Array GenState} {d:Drawn} {t:Nat} {os:OsState}
variable {nm q:Str} {C N:Addr} {bs bm:List Value} {hdct:Bool} {sn:List Str} {sub:List Value} {ab:Bool} {col:Option Bool} {dd:Option Addr} {k0 k1 k2 k3 k5:Option Value}
end
section
variable {X:Cx} {CX:km} {k:Nat} {f C Mo:Addr} {fd:FuncData} {ps:List Str} {sp:Sp} {E:XK} {x:Str} {p pos:Pos} {e:Expr} {es:List Expr} {t:TA}
end
open PySem PySem.Spec PyProof.Rows Builtin Builtin.ObjectAttr
section
variable {M:Model} {A:Around} {E:Value->Shared->Prop} {s:Shared} {base h0:Heap} {H:Hp} {env:Env} {outer:List Env} {L a C:Addr} {dx:Option Addr}
end
section
variable {P:Program} {w:World} {K:aL} {mg:Str->Option Value} {base:Heap} {N:List Str} {qual:Str} {scope:Scope} {f:Addr} {cd:Value} {A:Around} {outer:List Env} {s:Shared} {H:Hp} {EX:XK}
end
section
variable {P:Program} {w:World} {K:aL} {mg:Str->Option Value} {base:Heap} {N:List Str} {qual:Str} {scope:Scope} {f:Addr} {cd:Value} {A:Around} {outer:List Env} {s:Shared} {H:Hp} {EX:XK}
end
section
variable {X:Cx} {pins vN:List (Addr×Obj)} {Ex:Addr->Option Addr->St->Hp->Prop} {σ:St} {H:Hp} {s:Shared} {e:Value}
end
section
variable {X:Cx} {a b c d:Expr} {ta tb tc td:TE} {pos:Pos}
noncomputable def VU (r r' Bf:R2) (ta tb tc td:TE):TE:=fun σ H Q=>ta σ H fun x H1=>tb σ H1 fun y H2=>r x y H2 fun z H3=>∃k,z=.bl k/\
 (if k=true then tc σ H3 fun x2 H4=>r' y x2 H4 fun z2 H5=>∃k2,z2=.bl k2/\(if k2=true then td σ H5 fun x3 H6=>Bf x2 x3 H6 Q else Q (.bl false) H5) else Q (.bl false) H3)
theorem PD (ho:fg X (compareOp op) r) (jY:fg X (compareOp vO) r') (K':fg X (compareOp Bh) Bf) (ha:PE X a ta) (hb:PE X b tb) (hc:PE X c tc) (hd:PE X d td)
 (hm:lastMarks [op,vO,Bh] [b,c,d]=false:=by with_unfolding_all rfl):PT X (.Compare a [op,vO,Bh] [b,c,d] pos) (Di (VU r r' Bf ta tb tc td)):=by
 intro pins s σ H Q I h;refine isTrue_chain (aA (ha pins s σ H _ I h) fun v s1 zz=>L2.ft zz fun x H1 I1 r1 q1=>test_link (aA (hb pins s1 σ H1 _ I1 q1) fun u s2 zz=>L2.ft zz fun y H2 I2 r2 q2=>
  aA (ho pins s2 σ H2 x y v u _ I2 r1 r2 q2) fun z s3 zz=>?_)) hm
 obtain ⟨z',H3,I3,r3,k,e,q3⟩:=zz;subst e;cases r3;refine wpAny_truthy_bool ?_
 cases k with
 | false=>
  obtain ⟨k',e',q'⟩:=q3;cases e';exact ite_ff ⟨H3,I3,q'⟩
 | true=>
  refine ite_tt (test_link (aA (hc pins s3 σ H3 _ I3 q3) fun x2 s4 zz=>L2.ft zz fun y4 H4 I4 r4 q4=>aA (jY pins s4 σ H4 y y4 u x2 _ I4 r2 r4 q4) fun z2 s5 zz=>?_));obtain ⟨z5,H5,I5,r5,k2,e2,q5⟩:=zz;subst e2;cases r5;refine wpAny_truthy_bool ?_
  cases k2 with
  | false=>
   obtain ⟨k',e',q'⟩:=q5;cases e';exact ite_ff ⟨H5,I5,q'⟩
  | true=>
   refine ite_tt (test_last (aA (hd pins s5 σ H5 _ I5 q5) fun x3 s6 zz=>L2.ft zz fun y6 H6 I6 r6 q6=>aA (K' pins s6 σ H6 y4 y6 x2 x3 _ I6 r4 r6 q6) fun z3 s7 zz=>?_));obtain ⟨z7,H7,I7,r7,k3,e3,q7⟩:=zz;subst e3;cases r7;exact wpAny_truthy_bool ⟨H7,I7,q7⟩
theorem Dz:∀{us:List Value},bw (ns.map V.int) us->IntsAre us ns:=by
 induction ns with
 | nil=>intro us h;cases h;exact .nil
 | cons n r ih=>
  intro us h
  cases h with
  | cons q t=>
   obtain ⟨tk,rfl⟩:=q;exact .cons n tk (ih t)
noncomputable def QU (K:aL) (neg:Bool):R2:=fun x y H Q=>∃(p q:Addr) (ns ms:List Int),x=.ref p/\y=.ref q/\ay K H p (ns.map V.int)/\ay K H q (ms.map V.int)/\Q (.bl (if neg then !decide (ns=ms) else decide (ns=ms))) H
theorem UZ (hu:X.A.units+64<cLine):fg X (compareOp .Eq) (QU X.K false):=by
 intro pins s σ H x y v u Q I rx ry h;obtain ⟨p,q,ns,ms,rfl,rfl,h1,h2,hq⟩:=h;cases rx;cases ry;obtain ⟨its,r1,p1,_⟩:=I.list h1;obtain ⟨uz,r2,p2,_⟩:=I.list h2;exact PySem.W.ke_eq_ints p1.isList p2.isList (Dz r1) (Dz r2) hu ⟨.bl _,H,I,rfl,hq⟩
theorem U_ (hu:X.A.units+64<cLine):fg X (compareOp .NotEq) (QU X.K true):=by
 intro pins s σ H x y v u Q I rx ry h;obtain ⟨p,q,ns,ms,rfl,rfl,h1,h2,hq⟩:=h;cases rx;cases ry;obtain ⟨its,r1,p1,_⟩:=I.list h1;obtain ⟨uz,r2,p2,_⟩:=I.list h2;exact PySem.W.ke_ne_ints p1.isList p2.isList (Dz r1) (Dz r2) hu ⟨.bl _,H,I,rfl,hq⟩
end
section
variable {Y:Cx} {K:aL} {tg:Expr}
theorem Vy (h:Y.K=K):zX Y (QV K):=by subst h;exact Np
theorem X4 (h:Y.K=K):fg Y (compareOp .NotIn) (JV K true):=by subst h;exact QG
theorem A7 (hK:Y.K=K) (hc:Y.calm=true) (h:lX Y es t) (hn:(assignEach es Y.env).length=n:=by rfl) (oQ:(assignEach es Y.env).findIdx? (·.1)=none:=by rfl):PG Y (.Tuple es k pos) (JG K n t):=by
 subst hK;exact yZ hc h hn oQ
end
section
variable {P:Program} {w:World} {H:Hp} {h:Heap} {a C:Addr} {dx:Option Addr} {t tb:Value}
end
section
variable {X:Cx} {pins:List (Addr×Obj)} {σ:St} {H:Hp} {s:Shared} {a C:Addr} {dx:Option Addr} {t tb:Value}
end
open PySem PySem.Spec PyProof.Rows Builtin
section
variable {prog:Program} {w:World} {A:Around} {E:Value->Shared->Prop} {s:Shared} {K:aL} {x C:Addr} {ox od:Obj} {name:Str}
end
section
variable {X:Cx} {K:aL} {e:Expr} {f:Str} {pos:Pos} {ta:TE}
end
structure wG (k:Nat) (A:Around):Prop where
 dp:A.depth+3*k+5<recursionLimit
 un:A.units+16*k+200<cLine
theorem dn.h (r:dn k A):wG k A:=⟨r.dp,r.un⟩
theorem wG.deeper (r:wG (k+1) A) (env:Env):wG k (A.deeper env):=⟨by have:=r.dp;show A.depth+1+3*k+5<_;lia,by have:=r.un;show A.units+3+16*k+200<_;lia⟩
noncomputable def MD (A:Around) (H:Hp):Prop:=A.handled=none\/∃(a C:Addr) (dx:Option Addr) (t tb:Value) (u:HO),A.handled=some (.ref a)/\H a=some (.dB (Az C dx t tb) u)
structure Al (P:Program) (w:World) (K:aL) (mg:Str->Option Value) (base:Heap) (CX:km) (k:Nat) (f:Addr) (fd:FuncData) (ps:List Str) (sp:Sp):Prop where
 len:∀vs H Q E,sp vs H Q E->vs.length=ps.length
 run:∀(A:Around) (outer:List Env) (s:Shared) (H:Hp) (args:Args) (us:List Value) (vs:List V) (Q:VK) (E:XK),wG k A->MD A H->sT P w K mg base A outer s H->BindsTo s fd args (ps.zip us)->bw vs us->sp vs H Q E->
  codeAny (model P w) A (.call (.ref f) args) (CR CX outer P w H s Q E) s
theorem Al.fn {P:Program} {w:World} {K:aL} {mg:Str->Option Value} {base:Heap} {CX:km} {k:Nat} {f:Addr} {fd:FuncData} {ps:List Str} {sp:Sp} (F:Al P w K mg base CX k f fd ps sp):aw P w K mg base CX k f fd ps sp:=
 ⟨F.len,fun A outer s H args us vs Q E hr he hb hv hs=>F.run A outer s H args us vs Q E hr.h (.inl hr.hd) he hb hv hs⟩
noncomputable def yD (CX:km) (P:Program) (w:World) (K:aL) (mg:Str->Option Value) (base:Heap) (N:List Str) (qual:Str) (scope:Scope) (f:Addr) (cd:Value) (A:Around) (outer:List Env) (s:Shared) (H:Hp) (E:XK):Cx where
 prog:=P
 w:=w
 K:=K
 mg:=mg
 base:=base
 A:=A.deeper (envOfC qual scope s.heap.objs.size f cd)
 N:=N
 c_:=s
 iK:=H
 env:=envOfC qual scope s.heap.objs.size f cd
 outer:=outer
 stack:=envOfC qual scope s.heap.objs.size f cd::outer
 ex:=[]
 calm:=false
 fn:=fun _=>true
 pn:=[]
 xe:=fun e s'=>wpAny (model P w) (A.deeper (envOfC qual scope s.heap.objs.size f cd)) (leaving (envOfC qual scope s.heap.objs.size f cd) e) (fun _ xo=>CX outer H s E e xo) (fun e' xo=>CX outer H s E e' xo) s'
theorem X' {CX:km} {P:Program} {w:World} {K:aL} {mg:Str->Option Value} {base:Heap} {N ps:List Str} {qual:Str} {scope:Scope} {f:Addr} {cd:Value} {A:Around} {outer:List Env} {s s1:Shared} {H:Hp} {E:XK} {us:List Value} {vs:List V}
 (S:cF N ps scope) (e0:sT P w K mg base A outer s H) (hl:vs.length=ps.length) (r:bw vs us)
 (x:InCallC s s.heap.objs.size (bindL (envOfC qual scope s.heap.objs.size f cd).kindOf (ps.zip us) fun _=>none) (cellsFrom (s.heap.objs.size+1) scope.names []) (bindC (envOfC qual scope s.heap.objs.size f cd).kindOf (ps.zip us) fun _=>none) s1):
 Inv (yD CX P w K mg base N qual scope f cd A outer s H E) [] (i6 N vs) H s1:=by
 have gy:ps.length<=N.length:=by have:=congrArg List.length S.pre;rw [iA] at this;lia
 obtain ⟨h1,tk,rfl,hk⟩:=x.done;have uw:∀b:Addr,b∉(yD CX P w K mg base N qual scope f cd A outer s H E).ex:=fun b z=>absurd (show b∈([]:List Addr) from z) (by simp);refine ⟨⟨e0.mod,S.kind,rfl,rfl,aF _,fun y z c h1 h2=>?_,fun y hy=>?_,fun y c _ h=>?_,(fun z=>absurd (show false=true from z) eR),Around.frames_deeper e0.frames,.inr ⟨rfl,rfl⟩,fun b z=>absurd z (uw b),e0.bs,e0.sO,fun b _ _=>uw b,fun b z=>absurd z (uw b),e0.ip,e0.wj⟩,
  rfl,e0.bare,Un.kept hk,⟨_,x.toInCall.ns,fun i y v h1 h2 h3=>?_⟩,fun y c h=>⟨_,x.cell y c h⟩,e0.ae.fresh (aF _),fun y c h=>?_,fun p hp=>absurd (show p∈([]:List (Addr×Obj)) from hp) (by simp),e0.ae.kept hk,?_⟩
 ·exact name_of_addr x.apart (rJ h1) (rJ h2)
 ·have hy:scope.names.lookup y=some .cell\/scope.names.lookup y=some .free:=hy;rcases hy with hy | hy
  ·exact DK hy
  ·exact absurd rfl (S.qH _ (rJ hy))
 ·exact bx (x.above y c (rJ h))
 ·have hi:i<vs.length:=by
   unfold i6 at h2
   by_cases hi:i<vs.length
   ·exact hi
   ·rw [oY (by simpa using hi)] at h2;rw [List.getElem?_replicate] at h2;split at h2<;>cases h2
  have ha:vs[i]?=some v:=by
   unfold i6 at h2;rw [pR (by simpa using hi),dt] at h2
   cases e:vs[i]? with
   | none=>rw [e] at h2;cases h2
   | some a=>rw [e] at h2;cases h2;rfl
  obtain ⟨u,hu,rv⟩:=r.get ha;have hp:ps[i]?=some y:=by
   rw [<-S.pre,List.getElem?_take_of_lt (by lia)];exact h1
  have Bk:ps.Nodup:=by rw [<-S.pre];exact S.nd.sublist (List.take_sublist _ _)
  refine ⟨u,rv,?_⟩;rcases S.par y (dZ hp) with k | k
  ·exact .inl ⟨k,IG Bk hp hu k⟩
  ·obtain ⟨c,e⟩:=DK (n:=s.heap.objs.size+1) k;refine .inr ⟨.inl k,c,e,?_⟩;have q:=x.cell y c e;rw [IF Bk hp hu (by show scope.names.lookup y≠_;rw [k];decide)] at q;exact q
 ·exact e0.ae.fresh (bx (x.above y c (rJ h)))
 ·unfold i6;show _=N.length;rw [gR,a7,GJ];lia
theorem UP {CX:km} {P:Program} {w:World} {K:aL} {mg:Str->Option Value} {base:Heap} {k:Nat} {f:Addr} {name qual:Str} {params:Arguments} {body:List Stmt} {scope:Scope} {dV kV doc pm dc ct oc:Value} {an od:Option Addr}
 {mj:Array (Option Value)} {N ps:List Str} {sp:Sp} (lk:K.lookup f=some ⟨oc,od,.func (PySem.W.fnOf name qual params body scope dV kV doc pm an dc ct),mj⟩) (mR:PySem.W.codeIn K dc qual=true) (S:cF N ps scope)
 (len:∀vs H Q E,sp vs H Q E->vs.length=ps.length)
 (jf:∀(A:Around) (outer:List Env) (s:Shared) (H:Hp) (vs:List V) (Q:VK) (E:XK),wG k (A.deeper (envOfC qual scope s.heap.objs.size f dc))->MD A H->sp vs H Q E->
  ∃t,gS (yD CX P w K mg base N qual scope f dc A outer s H E) body t/\t { nx:=fun _ H'=>Q .bf H',rt:=Q } (i6 N vs) H):
 Al P w K mg base CX (k+1) f (PySem.W.fnOf name qual params body scope dV kV doc pm an dc ct) ps sp:=by
 refine ⟨len,fun A outer s H args us vs Q E hr hh e0 hb r m7=>?_⟩;have hl:=len _ _ _ _ m7;have KX:K.In s.heap:=e0.mod.zC.keeps fun b o e=>(e0.bs b o e).1;have lim:s.heap.NoLimit:=e0.mod.nolimit.keeps fun b o e=>(e0.bs b o e).1;have jc:∀y∈ps.zip us,scope.names.lookup y.1=some .local\/(scope.names.lookup y.1=some .cell/\((cellsFrom (s.heap.objs.size+1) scope.names []).lookup y.1).isSome=true):=fun ⟨n,v⟩ hy=>by
  rcases S.par n (List.of_mem_zip hy).1 with q | q
  ·exact .inl q
  ·exact .inr ⟨q,PySem.W.cellsFrom_some _ _ _ (.inl q)⟩
 refine codeAny_call_function (show A.depth<recursionLimit from by have:=hr.dp;lia) (KX _ _ lk) rfl S.co S.gen rfl (PySem.W.codeRec_of KX mR) (hb _ _ _ _ ?_);refine wpAny_newFunctionEnv_cells S.kind jc fun env he s1 x=>?_;subst he;refine ⟨lim.keeps x.toInCall.keep,codeAny_func ?_⟩;obtain ⟨t,ht,hq⟩:=jf A outer s H vs Q E (hr.deeper _) hh m7;have I:Inv (yD CX P w K mg base N qual scope f dc A outer s H E) [] (i6 N vs) H s1:=X' S e0 hl r x;refine wpAny_mono (ht [] s1 (i6 N vs) H _ I hq) (fun fl s' hs=>?_) fun e s' hs=>hs;have fin:∀{aa:St} {H':Hp} {v:V} {u:Value},Inv (yD CX P w K mg base N qual scope f dc A outer s H E) [] aa H' s'->cx v u->Q v H'->CE outer P w H s Q u s':=
  fun {aa H' v u} J rv q=>⟨v,H',J.os,J.bare,J.base,J.ae,rv,q⟩
 cases fl with
 | ret u=>
  obtain ⟨v,aa,H',J,rv,q⟩:=hs;exact fin J rv q
 | next=>
  obtain ⟨aa,H',J,q⟩:=hs;exact fin (v:=V.bf) (u:=Value.none) J rfl q
 | brk=>
  obtain ⟨_,_,_,q⟩:=hs;exact False.elim q
 | cont=>
  obtain ⟨_,_,_,q⟩:=hs;exact False.elim q
section
theorem gc.okH {x qual:Str} {st:Stmt} {f:Addr} {fd:FuncData} {N ps:List Str} {k:Nat} {sp:Sp} (F:gc K x qual st f fd) (S:cF N ps (aZ st)) (len:∀vs H Q E,sp vs H Q E->vs.length=ps.length)
 (jf:∀(dc:Value) (A:Around) (outer:List Env) (s:Shared) (H:Hp) (vs:List V) (Q:VK) (E:XK),wG k (A.deeper (envOfC qual (aZ st) s.heap.objs.size f dc))->ME (yD ax P w K mg base N qual (aZ st) f dc A outer s H E).xE->sp vs H Q E->
  ∃t,gS (yD ax P w K mg base N qual (aZ st) f dc A outer s H E).xE (p0 st) t/\t { nx:=fun _ H'=>Q .bf H',rt:=Q } (i6 N vs) H):Al P w K mg base ax (k+1) f fd ps sp:=by
 obtain ⟨oc,od,kV,doc,pm,an,dc,ct,mj,rfl,lk,mR⟩:=F.ex;refine UP lk mR S len fun A outer s H vs Q E hr hh m7=>?_;obtain ⟨t,h,q⟩:=jf dc A outer s H vs Q E hr hh m7;exact ⟨t,h.xE,q⟩
end
section
variable {X:Cx} {CX:km} {k:Nat} {f:Addr} {fd:FuncData} {ps:List Str} {sp:Sp} {ji:List V} {ds:List Value} {E:XK} {x:Str} {p pos:Pos} {e:Expr} {es:List Expr} {t:TA}
end
theorem VE {X:Cx} {es:List Expr} {k:Nat} {t:zV} {n:Nat} {K:aL} {pos:Pos} (hK:X.K=K) (hq:l_ X) (h:lX X es t) (hn:(assignEach es X.env).length=n:=by rfl) (oQ:(assignEach es X.env).findIdx? (·.1)=none:=by rfl):PG X (.Tuple es k pos) (JG K n t):=by
 subst hK;intro pins s σ H v u Q I r hw;obtain ⟨a,xs,e1,hs,hl,hw⟩:=hw;subst e1;cases r;obtain ⟨its,rv,ht,hz⟩:=I.tuple hs;rw [assign_Tuple];refine aj (wpAny_standAt (X9 (wJ hq I) ht (by simp [hn,<-hl,rv.length]) oQ fun h' hx=>?_));have I1:Inv X pins σ H { s with heap:=h' }:=I.kept (t':=s.toks) fun b o e=>hx b o (gG (eg e)) e;exact h pins _ σ H xs _ Q I1 (by simpa using rv) hw
theorem DO:∀{xs:List V} {j:Nat} {x:V},xs.all jy=true->xs[j]?=some x->jy x=true
 | [],_,_,_,e=>by simp at e
 | y::xs,j,x,h,e=>by
  rw [List.all_cons,Bool.and_eq_true] at h
  cases j with
  | zero=>simp at e;subst e;exact h.1
  | succ j=>exact DO h.2 (by simpa using e)
theorem VL (r1:bw xs us) (r2:bw ys vs) (f1:xs.all jy=true) (f2:ys.all jy=true) (j:Nat) (h1:j<us.toArray.size) (h2:j<vs.toArray.size):
 SeqAt.EqAt A s us.toArray[j] vs.toArray[j] (pQ (xs.getD j .bf) (ys.getD j .bf)):=by
 have l1:=r1.length;have l2:=r2.length;rw [iw] at h1 h2;have g1:xs[j]?=some (xs.getD j .bf):=by rw [uQ,iR (by lia)];rfl
 have g2:ys[j]?=some (ys.getD j .bf):=by rw [uQ,iR (by lia)];rfl
 obtain ⟨u,hu,ru⟩:=r1.get g1;obtain ⟨v,hv,rv⟩:=r2.get g2;have e1:us.toArray[j]=u:=by
  have:=(ff.mp hu).2;simpa using this
 have e2:vs.toArray[j]=v:=by
  have:=(ff.mp hv).2;simpa using this
 rw [e1,e2];exact MR ru rv (DO f1 g1) (DO f2 g2)
section
variable {X:Cx} {K:aL}
end
section
variable {X:Cx} {K:aL}
end
section
variable {X:Cx} {RD:List (Addr×Obj)} {Ex:Addr->Option Addr->St->Hp->Prop} {k:Nat} {f:Addr} {fd:FuncData} {ps:List Str} {sp:Sp} {ji:List V} {ds:List Value} {x:Str} {p pos:Pos} {e:Expr} {es:List Expr} {t:TA}
end
noncomputable def UC (t u:TS):TS:=fun D σ H=>∀N:St->Hp->Prop,(∀aa H',u D aa H'->N aa H')->t { D with nx:=N } σ H
theorem aY {X:Cx} {st:Stmt} {rest:List Stmt} {t u:TS} (h1:PS X st t) (h2:gS X rest u):gS X (st::rest) (UC t u):=fun pins s σ H D I h=>cC h1 h2 pins s σ H D I (h (u D) fun _ _ z=>z)
noncomputable def Hq:R2:=fun x y H Q=>∃p xs i v,x=.ref p/\y=.int i/\H p=some (.lst xs)/\g_ xs i=some v/\Q v H
noncomputable def Ht:R2:=fun x y H Q=>∃p xs i v,x=.ref p/\y=.int i/\H p=some (.tup xs)/\g_ xs i=some v/\Q v H
theorem df:zX X Hq:=by
 intro value slice pins s σ H x y v u Q I rx ry zz hs;obtain ⟨p,xs,i,v',e1,e2,h,e,q⟩:=zz;exact NF value slice pins s σ H x y v u Q I rx ry ⟨p,xs,i,v',e1,e2,ay.of h,e,q⟩ hs
theorem Vx:zX X Ht:=by
 intro value slice pins s σ H x y v u Q I rx ry zz hs;obtain ⟨p,xs,i,v',e1,e2,h,e,q⟩:=zz;exact Np value slice pins s σ H x y v u Q I rx ry ⟨p,xs,i,v',e1,e2,dz.of h,e,q⟩ hs
theorem aE {X:Cx} {a:Expr} {ta:TE} {k:Int} {j pos JY} (h:PE X a ta):PE X (.Subscript a (.Constant (.int k) j JY) pos) (xj Ht ta (tC (.int k))):=cW Vx h aH (fun _ _=>rfl)
theorem a9 (h:H p=some (.tup xs)) (e:g_ xs i=some v) (q:Q v H):tC (.int i) σ H fun y H2=>Ht (.ref p) y H2 Q:=⟨p,xs,i,v,rfl,rfl,h,e,q⟩
theorem lM (h:H p=some (.lst xs)) (e:g_ xs i=some v) (q:Q v H):tC (.int i) σ H fun y H2=>Hq (.ref p) y H2 Q:=⟨p,xs,i,v,rfl,rfl,h,e,q⟩
theorem pd (h0:σ[j]?=some (some (.int i))) (h:H p=some (.lst xs)) (e:g_ xs i=some v) (q:Q v H):wC j σ H fun y H2=>Hq (.ref p) y H2 Q:=⟨.int i,h0,p,xs,i,v,rfl,rfl,h,e,q⟩
end L2
namespace MA
end MA
namespace MB
open MA
noncomputable abbrev B3:=Nat×Nat×Int
end MB
namespace Y0
open PySem L2
noncomputable def top (i:Nat):Stmt:=PySem.Challenge.pw_momentties_k13_rules_hold.main.body.getD i (.Pass ⟨0,0,0,0⟩)
noncomputable abbrev cM:Stmt:=top 7
noncomputable abbrev cL:Stmt:=top 8
noncomputable abbrev cN:Stmt:=top 9
noncomputable abbrev cK:Stmt:=top 10
noncomputable abbrev bJ:Stmt:=top 13
noncomputable abbrev f9:Stmt:=top 14
noncomputable abbrev eE:Stmt:=top 15
noncomputable abbrev eD:Stmt:=top 16
noncomputable abbrev eC:Stmt:=top 17
noncomputable abbrev eF:Stmt:=top 18
noncomputable abbrev dD:Stmt:=top 19
noncomputable abbrev bC:Stmt:=top 20
noncomputable abbrev br:Stmt:=top 21
noncomputable abbrev cA:Stmt:=iQ (top 23) 0
noncomputable abbrev bu:Stmt:=iQ (top 23) 1
noncomputable abbrev c9:Stmt:=iQ (top 23) 2
noncomputable abbrev bM:Stmt:=iQ (top 23) 3
noncomputable abbrev aN:Stmt:=iQ (top 23) 4
noncomputable abbrev aT:Stmt:=iQ (top 23) 5
noncomputable abbrev aK:Stmt:=iQ (top 23) 6
noncomputable abbrev aB:Stmt:=iQ (top 23) 7
noncomputable abbrev bh:Stmt:=iQ (top 23) 8
noncomputable abbrev aG:Stmt:=iQ (top 23) 9
noncomputable abbrev bS:Stmt:=top 24
noncomputable abbrev ck:Stmt:=top 25
noncomputable abbrev eB:Stmt:=top 26
noncomputable abbrev f7:Stmt:=top 27
noncomputable abbrev dk:Stmt:=iQ (top 29) 0
noncomputable abbrev cU:Stmt:=iQ (top 29) 1
noncomputable abbrev bt:Stmt:=iQ (top 29) 3
noncomputable abbrev aU:Stmt:=iQ (top 29) 4
noncomputable abbrev bY:Stmt:=iQ (top 29) 5
noncomputable abbrev cp:Stmt:=iQ (top 29) 6
noncomputable abbrev bX:Stmt:=iQ (top 29) 7
noncomputable abbrev cq:Stmt:=iQ (top 29) 8
noncomputable abbrev a_:Stmt:=iQ (top 29) 9
noncomputable abbrev dm:Stmt:=iQ (top 29) 10
noncomputable abbrev aS:Stmt:=top 35
noncomputable abbrev bV:Stmt:=top 36
noncomputable abbrev bU:Stmt:=top 37
noncomputable abbrev aR:Stmt:=top 38
noncomputable abbrev dF:Stmt:=iQ (top 39) 0
noncomputable abbrev dE:Stmt:=iQ (top 39) 1
noncomputable abbrev dj:Stmt:=iQ (top 39) 2
noncomputable abbrev cQ:Stmt:=iQ (top 39) 3
noncomputable abbrev iY:Stmt:=top 41
noncomputable abbrev jS:Stmt:=top 43
noncomputable abbrev jT:Stmt:=top 44
noncomputable abbrev kT:Stmt:=top 45
noncomputable abbrev qr:Stmt:=top 46
noncomputable abbrev fJ:Stmt:=top 47
noncomputable abbrev fk:Stmt:=top 48
noncomputable abbrev fC:Stmt:=top 49
noncomputable abbrev qu:Stmt:=top 50
structure Fn (K:aL) (mg:Str->Option Value) (x:Str) (st:Stmt) (ps:List Str) (f:Addr) (fd:FuncData):Prop where
 F:gc K x x st f fd
 b:dP K fd ps []
 g:mg x=some (.ref f)
theorem cO {X:Cx} {k:Nat} {f:Addr} {fd:FuncData} {ps:List Str} {sp:Sp} {x:Str} {st:Stmt} {e:Expr} {es:List Expr} {t:TA} {p pos:Pos} (G:aw X.prog X.w X.K X.mg X.base ax k f fd ps sp) (hr:dn k X.A) (F:Fn X.K X.mg x st ps f fd) (ha:PA X (e::es) t) (hg:Gl X x:=by rfl) (uH:(x==("__debug__":Str))=false:=by decide) (he:starEach (e::es) X.env=(false,eval e X.env)::starEach es X.env:=by rfl) (gy:(backTo pos (starEach es X.env)).any (·.1)=false:=by rfl):PE X (.Call (.Name x p) (e::es) [] pos) (MI sp [] E0 t):=VC G hr hg F.g F.F.kp F.b .nil ee ha uH he gy
end Y0
namespace L2
open PySem
noncomputable def cB (d:Addr) (H H':Hp):Prop:=∀b o,H b=some o->b≠d->H' b=some o
theorem cB.refl (d:Addr) (H:Hp):cB d H H:=fun _ _ e _=>e
theorem cB.trans (x:cB d H H1) (y:cB d H1 H2):cB d H H2:=fun b o e n=>y b o (x b o e n) n
theorem aM.keep (x:aM H H1):cB d H H1:=fun b o e _=>x b o e
theorem bj (h:H p=none):aM H (upd H p o):=fun b u e=>by rw [au (aO e h)];exact e
end L2
namespace Y0
open PySem L2
noncomputable def qf (K:aL) (H:Hp) (sa:Addr) (ns:List Int):Prop:=(∃o,H sa=some (.dB o (.lst (ns.map V.int))))\/
 ∃(o:Obj) (its:Array Value) (n:Nat),K.lookup sa=some o/\o.cls=.type "list"/\o.dict=none/\o.data=.seq its n/\its.size<=sizeLine/\bw (ns.map V.int) its.toList
theorem qf.sq {K:aL} (h:qf K H sa ns):ay K H sa (ns.map V.int):=by
 rcases h with ⟨o,h⟩ | h
 ·exact .inl (.inr ⟨o,h⟩)
 ·exact .inr h
theorem qf.same {K:aL} (h:qf K H sa ns) (k:aM H H1):qf K H1 sa ns:=by
 rcases h with ⟨o,h⟩ | h
 ·exact .inl ⟨o,k _ _ h⟩
 ·exact .inr h
theorem qf.keep {K:aL} (h:qf K H sa ns) (k:cB l H H1) (hl:H l=some (.lst xs)):qf K H1 sa ns:=by
 rcases h with ⟨o,h⟩ | h
 ·exact .inl ⟨o,k _ _ h (aQ h hl nofun)⟩
 ·exact .inr h
structure eZ (K:aL) (sa:Addr) (H:Hp) (d:Addr):Prop where
 at_:∃p:Nat,H d=some (.lst [.ref sa,.int p])
 scr:∃ns:List Int,qf K H sa ns
theorem eZ.same {K:aL} (x:eZ K sa H d) (k:aM H H1):eZ K sa H1 d:=by
 obtain ⟨⟨p,h⟩,⟨ns,r⟩⟩:=x;exact ⟨⟨p,k _ _ h⟩,⟨ns,r.same k⟩⟩
noncomputable def Ay (K:aL):Sp:=fun vs H Q _=>∃d sa m,vs=[.ref d,.int m]/\eZ K sa H d/\1<=m/\∀r H',0<=r->r<m->eZ K sa H' d->cB d H H'->Q (.int r) H'
theorem scN:cF ["_law_dice","_law_many"] ["_law_dice","_law_many"] (aZ iY):=cT
theorem ue (F:Fn K mg "_law_next" iY ["_law_dice","_law_many"] f fd) (len:mg "len"=none):aw P w K mg base ax 1 f fd ["_law_dice","_law_many"] (Ay K):=by
 refine F.F.ok scN (fun _ _ _ _ h=>?_) fun _ A _ s H _ Q E hr h=>?_
 ·obtain ⟨d,sa,m,rfl,_⟩:=h;rfl
 ·obtain ⟨d,sa,m,rfl,D,hm,k⟩:=h;obtain ⟨⟨p,hd⟩,⟨ns,hs0⟩⟩:=id D;refine ⟨_,cC (HE (cG iE (cW df (pv 0) aH (fun _ _=>rfl)) aH) (HB (pv 0) aH ID))
   (cC (d0 (cV yW (cW df (pv 0) aH (fun _ _=>rfl)) (kE zy (by rfl) len zU (cw (cW df (pv 0) aH (fun _ _=>rfl))))) (az (c7 aH)) d9)
   (az (c7 (cG HJ (cW NF (cW df (pv 0) aH (fun _ _=>rfl)) (cG iO (cW df (pv 0) aH (fun _ _=>rfl)) aH) (fun _ _=>rfl)) (pv 1))))),?_⟩
  refine ⟨_,rfl,lM hd rfl ⟨_,_,rfl,rfl,_,rfl,_,_,_,_,rfl,rfl,hd,rfl,?_⟩⟩;have BP:upd H d (.lst ([V.ref sa,V.int p].set 1 (.int ((p:Int)+1)))) d=some (.lst [.ref sa,.int ((p:Int)+1)]):=aq;have kp:cB d H (upd H d (.lst ([V.ref sa,V.int p].set 1 (.int ((p:Int)+1))))):=fun b o e n=>by rw [au n];exact e
  have lh:=hs0.keep kp hd;have Sn:=lh.sq;have D1:eZ K sa (upd H d (.lst ([V.ref sa,V.int p].set 1 (.int ((p:Int)+1))))) d:=⟨⟨p+1,BP⟩,⟨ns,lh⟩⟩;refine ⟨_,rfl,lM BP rfl ⟨_,rfl,lM BP rfl ⟨_,_,rfl,.inl Sn,_,_,rfl,rfl,_,rfl,?_⟩⟩⟩;refine kK (fun _=>?_) (fun hc=>?_)
  ·exact k 0 _ (Int.le_refl _) (by exact hm) D1 kp
  ·have aW:p<ns.length:=by
    rw [a7] at hc;simp only [ju] at hc;omega
   have ha:g_ (ns.map V.int) ((p:Int)+1-1)=some (.int ns[p]):=by
    rw [show (p:Int)+1-1=((p:Nat):Int) by lia];exact j8 (by rw [dt,iR aW];rfl)
   refine ⟨_,rfl,lM BP rfl ⟨_,rfl,lM BP rfl ⟨_,_,rfl,rfl,_,_,_,_,rfl,rfl,Sn,ha,_,rfl,_,_,rfl,rfl,(by show (0:Int)<m;exact hm),?_⟩⟩⟩;exact k _ _ (Int.emod_nonneg _ (by exact Int.ne_of_gt hm)) (Int.emod_lt_of_pos _ (by exact hm)) D1 kp
end Y0
namespace L2
open PySem
noncomputable def Zq (t:TS):TS:=fun D σ H=>∃R:St->Hp->Prop,t { D with nx:=R } σ H/\∀aa H',R aa H'->D.nx aa H'
theorem zb (h:PS X st t):PS X st (Zq t):=by
 intro pins s σ H D I hw;obtain ⟨R,h1,h2⟩:=hw;refine aA (h pins s σ H _ I h1) fun f s1 q=>?_
 cases f with
 | next=>obtain ⟨aa,H',I',r⟩:=q;exact ⟨aa,H',I',h2 aa H' r⟩
 | brk=>exact q
 | cont=>exact q
 | ret v=>exact q
noncomputable def e_ (H:Hp) (a:Addr) (ps:List Addr) (rows:List (List Int)):Prop:=H a=some (.lst (ps.map V.ref))/\Paired (fun p r=>H p=some (.tup (r.map V.int))) ps rows
noncomputable def fz (H:Hp) (a:Addr) (rows:List (List Int)):Prop:=∃ps,e_ H a ps rows
theorem dN (h:Paired F l m) (i:∀a b,F a b->G a b):Paired G l m:=Paired.xF h i
theorem e_.same (h:e_ H a ps rows) (k:aM H H'):e_ H' a ps rows:=⟨k _ _ h.1,dN h.2 fun _ _ e=>k _ _ e⟩
theorem e_.keep (h:e_ H a ps rows) (k:cB d H H') (hd:H d=some (.lst xs)) (ne:a≠d):e_ H' a ps rows:=
 ⟨k _ _ h.1 ne,dN h.2 fun _ _ e=>k _ _ e (aQ e hd nofun)⟩
theorem fz.same (h:fz H a rows) (k:aM H H'):fz H' a rows:=let ⟨ps,r⟩:=h;⟨ps,r.same k⟩
theorem fz.keep (h:fz H a rows) (k:cB d H H') (hd:H d=some (.lst xs)) (ne:a≠d):fz H' a rows:=let ⟨ps,r⟩:=h;⟨ps,r.keep k hd ne⟩
theorem e_.len (h:e_ H a ps rows):ps.length=rows.length:=h.2.length
theorem e_.push (h:e_ H a ps rows) (hp:H p=some (.tup (r.map V.int))):e_ (upd H a (.lst (ps.map V.ref++[.ref p]))) a (ps++[p]) (rows++[r]):=by
 have na:∀q xs,H q=some (.tup xs)->q≠a:=fun q xs e=>aQ e h.1 nofun;refine ⟨by rw [aq,eJ];rfl,Paired.snoc (dN h.2 fun q r e=>?_) ?_⟩
 ·rw [au (na q _ e)];exact e
 ·rw [au (na p _ hp)];exact hp
theorem o6 (k:cB d H0 H) (h:H0 l=none):cB d H0 (upd H l o):=fun b u e n=>by
 rw [au (aO e h)];exact k b u e n
theorem cB.free (k:cB d H0 H) (h:H l=none) (hd:∃o,H d=some o):H0 l=none:=by
 cases q:H0 l with
 | none=>rfl
 | some o=>
  by_cases e:l=d
  ·subst e;obtain ⟨o',e'⟩:=hd;rw [h] at e';cases e'
  ·rw [k l o q e] at h;cases h
end L2
namespace Y0
open PySem L2
theorem eZ.there {K:aL} (x:eZ K sa H d):∃o,H d=some o:=let ⟨p,e⟩:=x.at_;⟨_,e⟩
theorem eZ.upd {K:aL} (x:eZ K sa H d) (hl:H l=some (.lst xs)) (hd:l≠d):eZ K sa (upd H l o) d:=by
 obtain ⟨⟨p,h⟩,⟨ns,r⟩⟩:=x;exact ⟨⟨p,by rw [au (bp hd)];exact h⟩,⟨ns,r.keep (fun b u e n=>by rw [au n];exact e) hl⟩⟩
theorem eZ.new {K:aL} (x:eZ K sa H d) (hl:H l=none):eZ K sa (L2.upd H l o) d:=x.same (bj hl)
noncomputable def gJ (m n t:Int):Int:=if m=0 then 0 else 1+(m-1+t) % (n-1)
noncomputable def N_:Sp:=fun vs H Q _=>∃m n t,vs=[.int m,.int n,.int t]/\2<=n/\Q (.int (gJ m n t)) H
theorem Zi:cF ["_law_moment","_law_many","_law_turn"] ["_law_moment","_law_many","_law_turn"] (aZ jS):=cT
theorem qz (F:Fn K mg "_law_named" jS ["_law_moment","_law_many","_law_turn"] f fd):aw P w K mg base ax 1 f fd ["_law_moment","_law_many","_law_turn"] N_:=by
 refine F.F.ok Zi (fun _ _ _ _ h=>?_) fun _ A _ s H _ Q E hr h=>?_
 ·obtain ⟨m,n,t,rfl,_⟩:=h;rfl
 ·obtain ⟨m,n,t,rfl,hn,k⟩:=h;refine ⟨_,cC (d0 (cV fw (pv 0) aH) (az (c7 aH)) d9)
   (az (c7 (cG iE aH (cG HJ (cG iE (cG iO (pv 0) aH) (pv 2)) (cG iO (pv 1) aH))))),?_⟩
  refine ⟨_,rfl,rfl,_,rfl,?_⟩;refine kK (fun hc=>?_) (fun hc=>?_)
  ·have e:m=0:=by simpa using hc
   have q:gJ m n t=0:=by unfold gJ;rw [if_pos e]
   rw [q] at k;exact k
  ·have e:¬m=0:=by simpa using hc
   have q:gJ m n t=1+(m-1+t) % (n-1):=by unfold gJ;rw [if_neg e]
   rw [q] at k;exact ⟨_,rfl,_,_,rfl,rfl,_,rfl,_,_,rfl,rfl,_,rfl,_,_,rfl,rfl,_,_,rfl,rfl,(by show (0:Int)<n-1;lia),_,_,rfl,rfl,k⟩
noncomputable def wU (n:Int) (c:Nat) (rows:List (List Int)):Prop:=∀(k:Nat) r,rows[k]?=some r->∃a l m:Int,r=[a,n-1-k,l,m]/\0<=a/\a<n-c/\1<=l/\l<=m/\m<=60
theorem wU.snoc (h:wU n c rows) (h1:0<=a) (h2:a<n-c) (h3:1<=l) (h4:l<=m) (h5:m<=60):wU n c (rows++[[a,n-1-rows.length,l,m]]):=by
 intro k r e
 by_cases hk:k<rows.length
 ·rw [pR hk] at e;exact h k r e
 ·rw [oY (by exact lU hk)] at e;have mM:k-rows.length=0:=by
   cases q:k-rows.length with
   | zero=>rfl
   | succ z=>rw [q] at e;simp at e
  rw [mM] at e;cases e;have:k=rows.length:=by lia
  subst this;exact ⟨a,l,m,rfl,h1,h2,h3,h4,h5⟩
noncomputable def CD (wd:Int) (rows:List (List Int)):Prop:=wd≠8->rows.length<=3/\∀r∈rows,r.getD 3 0-r.getD 2 0<wd
noncomputable def NW (K:aL):Sp:=fun vs H Q _=>∃d sa n wd,vs=[.ref d,.int n,.int wd]/\eZ K sa H d/\2<=n/\n<=8/\1<=wd/\wd<=8/\
 ∀(l:Addr) (c:Nat) rows H',(c:Int)<=n-1->rows.length=c->wU n c rows->fz H' l rows->H l=none->eZ K sa H' d->cB d H H'->CD wd rows->Q (.ref l) H'
noncomputable abbrev nF:List Str:=["_law_d","_law_many","_law_wide","_law_count","_law_falls_here","_law_k","_law_least","_law_most"]
theorem tP:cF nF ["_law_d","_law_many","_law_wide"] (aZ jT):=cT
theorem qD (F:Fn K mg "_law_falls" jT ["_law_d","_law_many","_law_wide"] f fd) (FN:Fn K mg "_law_next" iY ["_law_dice","_law_many"] fN pP)
 (GN:aw P w K mg base ax 1 fN pP ["_law_dice","_law_many"] (Ay K)) (min:mg "min"=none) (range:mg "range"=none):aw P w K mg base ax 2 f fd ["_law_d","_law_many","_law_wide"] (NW K):=by
 refine F.F.ok tP (fun _ _ _ _ h=>?_) fun _ A _ s H _ Q E hr h=>?_
 ·obtain ⟨d,sa,n,wd,rfl,_⟩:=h;rfl
 ·obtain ⟨d,sa,n,wd,rfl,D,B9,sr,nZ,xR,k⟩:=h;refine ⟨_,cC (cI 3 tP.nd (cO GN hr FN (cf (pv 0) (cG iE (kE (zk rfl) (by rfl) min (by decide+kernel) (cf aH (cG iO (pv 1) aH))) aH))))
   (cC (zb (d0 (PW.pt (rW (cV fw (pv 2) aH) (vm (cV fw (cO GN hr FN (cf (pv 0) aH)) aH))))
    (az (cI 3 tP.nd (cO GN hr FN (cf (pv 0) (pv 1))))) d9))
   (cC (cI 4 tP.nd (jN nH))
   (cC (iP PassesOwn.never rfl (vp rfl range (cw (pv 3))) (cj 5 tP.nd)
    (cC (cI 6 tP.nd (cG iE aH (cO GN hr FN (cf (pv 0) (pv 2)))))
    (cC (cI 7 tP.nd (cG iE (pv 6) (cO GN hr FN (cf (pv 0) (pv 2)))))
    (cC (zb (d0 (PW.pt (rW (cV fw (pv 2) aH) (vm (cV fw (cO GN hr FN (cf (pv 0) aH)) aH))))
     (cC (cI 6 tP.nd (cG iE aH (cO GN hr FN (cf (pv 0) aH))))
     (az (cI 7 tP.nd (cG iE (pv 6) (cO GN hr FN (cf (pv 0) (cG iO aH (pv 6)))))))) d9))
    (az (gB (px pU pT rG pC (pv 4)
     (cw (eU (pD (cO GN hr FN (cf (pv 0) (cG iO (pv 1) (pv 3)))) (cG iO (cG iO (pv 1) aH) (pv 5)) (pv 6) (pv 7)))))))))))
   (az (c7 (pv 4)))))),?_⟩
  refine ⟨_,rfl,_,rfl,_,_,rfl,rfl,_,_,rfl,_,_,rfl,rfl,d,sa,_,rfl,D,(by split<;>lia),fun c0 H1 BS yq D1 k1=>?_⟩;have SE:c0<=n-1:=by
   revert yq
   split<;>intro yq<;>lia
  have hc3:c0<=3:=by
   revert yq
   split<;>intro yq<;>lia
  refine ⟨fun aa H'=>∃c:Nat,(c:Int)<=n-1/\(wd≠8->c<=3)/\aa=[some (.ref d),some (.int n),some (.int wd),some (.int (c:Int)),none,none,none,none]/\eZ K sa H' d/\cB d H H',?_,?_⟩
  ·
   refine ⟨_,rfl,rfl,_,rfl,?_⟩;refine kK (fun h8=>?_) (fun _=>?_)
   ·have h8:wd=8:=by simpa using h8
    refine ⟨_,rfl,d,sa,_,rfl,D1,by decide,fun r H2 _ _ D2 k2=>⟨rfl,_,rfl,?_⟩⟩;refine kK (fun _=>?_) (fun _=>?_)
    ·refine ⟨_,rfl,_,rfl,d,sa,_,rfl,D2,by exact gm B9,fun c H3 h0 h1 D3 k3=>⟨c.toNat,by lia,fun z=>absurd h8 z,?_,D3,(k1.trans k2).trans k3⟩⟩;rw [ot h0];rfl
    ·exact ⟨c0.toNat,by lia,fun z=>absurd h8 z,by rw [ot BS];rfl,D2,k1.trans k2⟩
   ·refine dO ?_;exact ⟨c0.toNat,by lia,fun _=>by lia,by rw [ot BS];rfl,D1,k1⟩
  ·rintro aa H2 ⟨c,hc,hcw,rfl,D2,k2⟩;refine ⟨dM _,fun l hl=>?_⟩;have vW:H l=none:=k2.free hl D2.there;have ld:l≠d:=fun e=>by
    subst e;obtain ⟨o,q⟩:=D2.there;rw [hl] at q;cases q
   refine ⟨_,rfl,_,rfl,by exact Int.NonNeg.mk (c+Nat.succ 4611686018427387903),by lia,zq (n:=c) (fun i aa H'=>∃v1 v2 v3 ps rows,aa=[some (.ref d),some (.int n),some (.int wd),some (.int (c:Int)),some (.ref l),v1,v2,v3]/\e_ H' l ps rows/\rows.length=i/\wU n c rows/\eZ K sa H' d/\cB d H H'/\(wd≠8->∀r∈rows,r.getD 3 0-r.getD 2 0<wd))
    ⟨none,none,none,[],[],rfl,⟨aq,.nil⟩,rfl,(fun k r e=>by simp at e),D2.new hl,o6 k2 vW,fun _ r hr=>nomatch hr⟩ ?_ ?_⟩
   ·rintro i aa H3 hi ⟨v1,v2,v3,ps,rows,rfl,R3,hlen,hF,D3,k3,m_⟩;have kl:∀{H4:Hp},cB d H3 H4->e_ H4 l ps rows:=fun k4=>by
     obtain ⟨p,e⟩:=D3.at_;exact R3.keep k4 e ld
    refine ⟨_,rfl,_,rfl,d,sa,_,rfl,D3,nZ,fun r1 H4 FQ LR D4 k4=>⟨_,_,rfl,rfl,?_⟩⟩;refine ⟨_,rfl,_,rfl,_,rfl,d,sa,_,rfl,D4,nZ,fun r2 H5 SX SW D5 k5=>⟨_,_,rfl,rfl,?_⟩⟩;refine ⟨fun aa H'=>∃a b:Int,1<=a/\a<=b/\b<=60/\(wd≠8->b-a<wd)/\aa=[some (.ref d),some (.int n),some (.int wd),some (.int (c:Int)),some (.ref l),some (.int (0+(i:Int))),some (.int a),some (.int b)]/\eZ K sa H' d/\cB d H3 H',?_,?_⟩
    ·refine ⟨_,rfl,rfl,_,rfl,?_⟩;refine kK (fun h8=>?_) (fun _=>?_)
     ·have h8:wd=8:=by simpa using h8
      refine ⟨_,rfl,d,sa,_,rfl,D5,by decide,fun r H6 _ _ D6 k6=>⟨rfl,_,rfl,?_⟩⟩;refine kK (fun _=>?_) (fun _=>?_)
      ·refine ⟨_,rfl,d,sa,_,rfl,D6,by decide,fun r3 H7 h3a h3b D7 k7=>⟨_,_,rfl,rfl,?_⟩⟩;refine ⟨_,rfl,_,rfl,_,rfl,_,_,rfl,rfl,d,sa,_,rfl,D7,by lia,fun r4 H8 h4a h4b D8 k8=>⟨_,_,rfl,rfl,?_⟩⟩;exact ⟨1+r3,1+r3+r4,by lia,by lia,by lia,fun z=>absurd h8 z,rfl,D8,(((k4.trans k5).trans k6).trans k7).trans k8⟩
      ·exact ⟨1+r1,1+r1+r2,by lia,by lia,by lia,fun z=>absurd h8 z,rfl,D6,(k4.trans k5).trans k6⟩
     ·refine dO ?_;exact ⟨1+r1,1+r1+r2,by lia,by lia,by lia,fun _=>by lia,rfl,D5,k4.trans k5⟩
    ·rintro aa H6 ⟨a,b,ha,sG,hb,hba,rfl,D6,k6⟩;have R6:=kl k6;refine ⟨_,rfl,.inl ⟨rfl,_,ay.of R6.1⟩,?_⟩;refine ⟨_,rfl,_,rfl,_,rfl,_,_,rfl,rfl,d,sa,_,rfl,D6,by lia,fun r5 H7 h5a h5b D7 k7=>?_⟩;have R7:=kl (k6.trans k7);refine ⟨_,rfl,_,_,rfl,rfl,_,rfl,_,_,rfl,rfl,_,rfl,_,rfl,eW rfl,fun p hp=>?_⟩;have R8:=R7.same (bj (o:=.tup [.int r5,.int (n-1-(0+(i:Int))),.int a,.int b]) hp);refine ⟨l,_,_,rfl,rfl,R8.1,?_,?_⟩
     ·rw [a7,R8.len];exact fi (by lia)
     ·have e0:(0:Int)+(i:Int)=(rows.length:Int):=by rw [hlen];lia
      refine ⟨_,_,_,ps++[p],rows++[[r5,n-1-(0+(i:Int)),a,b]],rfl,R8.push aq,by rw [gR,hlen];rfl,?_,?_,?_,fun z r hr=>?_⟩
      ·rw [e0];exact hF.snoc h5a h5b ha sG hb
      ·exact (D7.new hp).upd R8.1 ld
      ·exact o6 (o6 ((k3.trans k6).trans k7) (((k3.trans k6).trans k7).free hp D7.there)) vW
      ·rcases kJ.mp hr with y | y
       ·exact m_ z r y
       ·rw [jw.mp y];exact hba z
   ·rintro aa H3 ⟨v1,v2,v3,ps,rows,rfl,R3,hlen,hF,D3,k3,m_⟩;exact ⟨_,rfl,k l c rows H3 hc hlen hF ⟨ps,R3⟩ vW D3 k3 fun z=>⟨by rw [hlen];exact hcw z,m_ z⟩⟩
theorem Iu {x n:Int} (h0:0<=x) (h1:x<2*n) (hn:0<n):x % n=if x<n then x else x-n:=by
 by_cases h:x<n
 ·rw [if_pos h,Int.emod_eq_of_lt h0 h]
 ·rw [if_neg h];have e:x % n=(x-n) % n:=by
   first
    | exact (Int.sub_emod_right x n).symm
    | (have:=Int.sP (a:=x-n) (b:=n);rw [Int.sub_add_cancel] at this;exact this)
  rw [e,Int.emod_eq_of_lt (by lia) (by lia)]
theorem Ny {xs:List Int} {i:Int} (h0:0<=i) (h1:i<xs.length):∃v,v∈xs/\g_ (xs.map V.int) i=some (.int v):=by
 obtain ⟨j,rfl⟩:∃j:Nat,i=j:=⟨i.toNat,by lia⟩;have hi:j<xs.length:=by lia
 exact ⟨xs[j],zT hi,j8 (by rw [dt,iR hi];rfl)⟩
noncomputable def uY (n:Int) (r:List Int):Prop:=∃a b l m:Int,r=[a,b,l,m]/\0<=a/\a<n/\0<=b/\b<n/\a≠b/\-60<=l/\l<=m/\m<=60
noncomputable def Ng (K:aL):Sp:=fun vs H Q _=>∃d sa n la wd,vs=[.ref d,.int n,.int la,.int wd]/\eZ K sa H d/\2<=n/\n<=8/\1<=la/\la<=60/\1<=wd/\wd<=8/\
 ∀(l:Addr) rows H',rows.length<=12->(∀r∈rows,uY n r)->fz H' l rows->H l=none->eZ K sa H' d->cB d H H'->Q (.ref l) H'
noncomputable abbrev nT:List Str:=["_law_d","_law_many","_law_last","_law_wide","_law_ties_here","_law_k","_law_times","_law_count","_law_one","_law_other","_law_near","_law_least"]
theorem qo:cF nT ["_law_d","_law_many","_law_last","_law_wide"] (aZ kT):=cT
theorem coT:i7 (aZ kT) nT (kh [(".0",.local),("_law_k",.local),("_law_next",.globalImplicit),("_law_d",.free),("_law_last",.free)]) ["_law_k","_law_d","_law_last"] [none,some 0,some 2]:=kj
theorem ndT:(["_law_k","_law_d","_law_last"]:List Str).Nodup:=by decide+kernel
theorem tY (F:Fn K mg "_law_ties" kT ["_law_d","_law_many","_law_last","_law_wide"] f fd) (FN:Fn K mg "_law_next" iY ["_law_dice","_law_many"] fN pP)
 (GN:aw P w K mg base ax 1 fN pP ["_law_dice","_law_many"] (Ay K)) (min:mg "min"=none) (max:mg "max"=none) (range:mg "range"=none):aw P w K mg base ax 2 f fd ["_law_d","_law_many","_law_last","_law_wide"] (Ng K):=by
 refine F.F.ok qo (fun _ _ _ _ h=>?_) fun _ A _ s H _ Q E hr h=>?_
 ·obtain ⟨d,sa,n,la,wd,rfl,_⟩:=h;rfl
 ·obtain ⟨d,sa,n,la,wd,rfl,D,B9,sr,qZ,yi,nZ,xR,k⟩:=h;refine ⟨_,aY (cI 4 qo.nd (jN nH))
   (aY (cI 6 qo.nd (cG yY (jN (cw aH)) (o5 rfl (vp rfl range (cw (cG iO (pv 1) aH))) coT
    (fun cl ex s0 H0=>⟨cj 0 ndT,vy,cO GN hr FN (cf (pv 1) (cG iE (pv 2) aH))⟩))))
   (aY (cI 7 qo.nd (cO GN hr FN (cf (pv 0) aH)))
   (aY (zb (d0 (PW.pt (rW (cV fw (pv 3) aH) (vm (cV fw (cO GN hr FN (cf (pv 0) aH)) aH))))
    (az (cI 7 qo.nd (cO GN hr FN (cf (pv 0) aH)))) d9))
   (aY (iP PassesOwn.never rfl (vp rfl range (cw (pv 7))) (cj 5 qo.nd)
    (aY (cI 8 qo.nd (cO GN hr FN (cf (pv 0) (pv 1))))
    (aY (cI 9 qo.nd (cG HJ (cG iE (cG iE (pv 8) aH) (cO GN hr FN (cf (pv 0) (cG iO (pv 1) aH)))) (pv 1)))
    (aY (cI 10 qo.nd (cG iO (cW df (pv 6) (pv 9) (fun _ _=>rfl)) (cW df (pv 6) (pv 8) (fun _ _=>rfl))))
    (aY (zb (d0 (cV fw (cO GN hr FN (cf (pv 0) aH)) aH)
     (az (cI 10 qo.nd (cG iO (cO GN hr FN (cf (pv 0) (cG iE (cG U' aH (pv 2)) aH))) (pv 2)))) d9))
    (aY (cI 11 qo.nd (kE (P5 rfl) (by rfl) max (by decide+kernel) (cf (yX zc aH) (cG iO (pv 10) (cO GN hr FN (cf (pv 0) (cG iE (pv 3) aH)))))))
    (az (gB (px pU pT rG pC (pv 4)
     (cw (eU (pD (pv 8) (pv 9) (pv 11) (kE (zk rfl) (by rfl) min (by decide+kernel) (cf aH (kE (P5 rfl) (by rfl) max (by decide+kernel)
      (cf (pv 11) (cG iE (pv 10) (cO GN hr FN (cf (pv 0) (cG iE (pv 3) aH))))))))))))))))))))
   (az (c7 (pv 4))))))),?_⟩
  refine fun M0 m0=>⟨dM _,fun l hl=>m0 _ _ ?_⟩;clear m0 M0;have ld:l≠d:=fun e=>by
   subst e;obtain ⟨o,q⟩:=D.there;rw [hl] at q;cases q
  refine fun M0 m0=>⟨eW rfl,fun z hz=>?_⟩;refine ⟨_,rfl,_,_,rfl,rfl,_,rfl,by lia,by lia,fun Da dh=>?_⟩;have zl:z≠l:=bp (aO (aq (H:=H) (a:=l) (o:=.lst [])) hz);have Sd:H z=none:=by rw [au zl] at hz;exact hz
  have Mu:Da≠l:=bp (aO (show upd (upd H l (.lst [])) z (.lst [.int 0]) l=some (.lst []) by rw [au (bp zl),aq]) dh);have Mt:Da≠z:=bp (aO (aq (H:=upd H l (.lst [])) (a:=z) (o:=.lst [.int 0])) dh);have rg:H Da=none:=by rw [au Mt,au Mu] at dh;exact dh
  have nd:∀{a:Addr},H a=none->a≠d:=fun {a} e q=>by
   subst q;obtain ⟨o,q⟩:=D.there;rw [e] at q;cases q
  refine D_ (n:=(n-1).toNat) (fun i aa H'=>∃v,∃ts:List Int,aa=[v,some (.ref d),some (.int la)]/\ts.length=i/\(∀t∈ts,0<=t/\t<=la)/\H' Da=some (.lst (ts.map V.int))/\H' l=some (.lst [])/\H' z=some (.lst [.int 0])/\eZ K sa H' d/\cB d H H') ?_ ?_ ?_
  ·exact ⟨none,[],rfl,rfl,(fun t ht=>nomatch ht),aq,by rw [au (bp Mu),au (bp zl),aq],by rw [au (bp Mt),aq],((D.new hl).new hz).new dh,o6 (o6 (o6 (cB.refl d H) hl) Sd) rg⟩
  ·rintro i aa H3 hi ⟨v,ts,rfl,hlen,zG,e1,e2,e3,D3,k3⟩;refine ⟨_,rfl,_,rfl,_,_,rfl,rfl,d,sa,_,rfl,D3,by lia,fun r H4 h0 h1 D4 k4=>?_⟩;have f1:=k4 _ _ e1 (nd rg);refine ⟨_,f1,?_,_,ts++[r],rfl,by rw [gR,hlen];rfl,fun t ht=>?_,?_,?_,?_,D4.upd f1 (nd rg),o6 (k3.trans k4) rg⟩
   ·rw [a7];exact fi (by omega)
   ·rcases kJ.mp ht with q | q
    ·exact zG t q
    ·rw [jw.mp q];lia
   ·rw [aq,eJ];rfl
   ·rw [au (bp Mu)];exact k4 _ _ e2 ld
   ·rw [au (bp Mt)];exact k4 _ _ e3 (nd Sd)
  ·rintro aa H3 ⟨v,ts,rfl,hlen,zG,e1,e2,e3,D3,k3⟩;refine ⟨z,Da,_,_,rfl,rfl,e3,e1,?_,fun tl xT=>m0 _ _ ?_⟩
   ·rw [a7];exact bx (fi (by simp;omega))
   clear m0 M0;have m6:H tl=none:=k3.free xT D3.there;have Rr:tl≠l:=bp (aO e2 xT);obtain ⟨tt,lP,aW,j_⟩:∃tt:List Int,[V.int 0]++ts.map V.int=tt.map V.int/\(tt.length:Int)=n/\∀t∈tt,0<=t/\t<=la:=by
    refine ⟨0::ts,rfl,by rw [lT,hlen];omega,fun t ht=>?_⟩;rcases iJ.mp ht with q | q
    ·rw [q];lia
    ·exact zG t q
   rw [lP];have g1:upd H3 tl (.lst (tt.map V.int)) tl=some (.lst (tt.map V.int)):=aq;have g2:upd H3 tl (.lst (tt.map V.int)) l=some (.lst []):=by rw [au (bp Rr)];exact e2
   have D4:eZ K sa (upd H3 tl (.lst (tt.map V.int))) d:=D3.new xT;have k4:cB d H (upd H3 tl (.lst (tt.map V.int))):=o6 k3 m6;refine fun M0 m0=>⟨_,rfl,d,sa,_,rfl,D4,by decide,fun c0 H5 BS yq D5 k5=>m0 _ _ ?_⟩;clear m0 M0;have l5:=k5 _ _ g2 ld;have t5:=k5 _ _ g1 (nd m6);refine fun M0 m0=>⟨fun aa H'=>∃c:Nat,c<=12/\aa=[some (.ref d),some (.int n),some (.int la),some (.int wd),some (.ref l),none,some (.ref tl),some (.int (c:Int)),none,none,none,none]/\eZ K sa H' d/\cB d H H'/\H' l=some (.lst [])/\H' tl=some (.lst (tt.map V.int)),?_,?_⟩
   ·refine ⟨_,rfl,rfl,_,rfl,?_⟩;refine kK (fun _=>?_) (fun _=>?_)
    ·refine ⟨_,rfl,d,sa,_,rfl,D5,by decide,fun r H6 _ _ D6 k6=>⟨rfl,_,rfl,?_⟩⟩;refine kK (fun _=>?_) (fun _=>?_)
     ·refine ⟨_,rfl,d,sa,_,rfl,D6,by decide,fun c H7 h0 h1 D7 k7=>⟨c.toNat,by lia,?_,D7,((k4.trans k5).trans k6).trans k7,(k6.trans k7) _ _ l5 ld,(k6.trans k7) _ _ t5 (nd m6)⟩⟩;rw [ot h0];rfl
     ·exact ⟨c0.toNat,by lia,by rw [ot BS];rfl,D6,(k4.trans k5).trans k6,k6 _ _ l5 ld,k6 _ _ t5 (nd m6)⟩
    ·refine dO ?_;exact ⟨c0.toNat,by lia,by rw [ot BS];rfl,D5,k4.trans k5,l5,t5⟩
   ·rintro aa H6 ⟨c,hc,rfl,D6,k6,l6,t6⟩;refine m0 _ _ fun M1 m1=>⟨_,rfl,_,rfl,by exact Int.NonNeg.mk (c+Nat.succ 4611686018427387903),by lia,zq (n:=c) (fun i aa H'=>∃v1 v2 v3 v4 v5 ps rows,aa=[some (.ref d),some (.int n),some (.int la),some (.int wd),some (.ref l),v1,some (.ref tl),some (.int (c:Int)),v2,v3,v4,v5]/\e_ H' l ps rows/\rows.length=i/\(∀r∈rows,uY n r)/\
     H' tl=some (.lst (tt.map V.int))/\eZ K sa H' d/\cB d H H') ⟨none,none,none,none,none,[],[],rfl,⟨l6,.nil⟩,rfl,(fun r hr=>nomatch hr),t6,D6,k6⟩ ?_ ?_⟩
    ·rintro i aa H7 hi ⟨v1,v2,v3,v4,v5,ps,rows,rfl,R7,vV,ae,t7,D7,k7⟩;have kl:∀{H8:Hp},cB d H7 H8->e_ H8 l ps rows:=fun k8=>by
      obtain ⟨p,e⟩:=D7.at_;exact R7.keep k8 e ld
     refine fun M2 m2=>⟨_,rfl,_,rfl,d,sa,_,rfl,D7,by exact gm B9,fun o1 H8 FQ LR D8 k8=>m2 _ _ ?_⟩;clear m2 M2;refine fun M2 m2=>⟨_,rfl,_,_,rfl,rfl,_,rfl,_,rfl,_,_,rfl,rfl,d,sa,_,rfl,D8,by lia,fun o2 H9 SX SW D9 k9=>⟨_,_,rfl,rfl,_,rfl,_,_,rfl,rfl,(by show (0:Int)<n;exact gm B9),m2 _ _ ?_⟩⟩;clear m2 M2;have hw:=Iu (x:=o1+1+o2) (n:=n) (by lia) (by lia) (by exact gm B9);have ho:0<=(o1+1+o2) % n/\(o1+1+o2) % n<n/\o1≠(o1+1+o2) % n:=by
      rw [hw];split<;>lia
     obtain ⟨B8,ho2,Fo⟩:=ho;have t9:=(k8.trans k9) _ _ t7 (nd m6);obtain ⟨w1,K6,ha1⟩:=Ny (xs:=tt) B8 (by lia);obtain ⟨w2,K4,ha2⟩:=Ny (xs:=tt) FQ (by lia);have b1:=j_ w1 K6;have b2:=j_ w2 K4;refine fun M2 m2=>⟨_,rfl,pd rfl t9 ha1 ⟨_,rfl,pd rfl t9 ha2 ⟨_,_,rfl,rfl,m2 _ _ ?_⟩⟩⟩;clear m2 M2;refine fun M2 m2=>⟨fun aa H'=>∃nr:Int,-60<=nr/\nr<=60/\aa=[some (.ref d),some (.int n),some (.int la),some (.int wd),some (.ref l),some (.int (0+(i:Int))),some (.ref tl),some (.int (c:Int)),some (.int o1),some (.int ((o1+1+o2) % n)),some (.int nr),v5]/\eZ K sa H' d/\cB d H7 H',?_,?_⟩
     ·refine ⟨_,rfl,d,sa,_,rfl,D9,by decide,fun r nh _ _ Ha vS=>⟨rfl,_,rfl,?_⟩⟩;refine kK (fun _=>?_) (fun _=>?_)
      ·refine ⟨_,rfl,_,rfl,_,_,rfl,rfl,.inl ⟨by decide,by decide⟩,_,_,rfl,rfl,d,sa,_,rfl,Ha,by lia,fun r' rK g0 FV Mx xO=>⟨_,rfl,_,_,rfl,rfl,r'-la,by lia,by lia,rfl,Mx,((k8.trans k9).trans vS).trans xO⟩⟩
      ·exact ⟨w1-w2,by lia,by lia,rfl,Ha,(k8.trans k9).trans vS⟩
     ·rintro aa nh ⟨nr,hnr1,hnr2,rfl,Ha,vS⟩;refine m2 _ _ fun M3 m3=>⟨_,rfl,_,rfl,_,rfl,_,rfl,_,_,rfl,rfl,d,sa,_,rfl,Ha,by lia,fun r1 rK h3a h3b Mx xO=>⟨_,_,rfl,rfl,_,_,rfl,m3 _ _ ?_⟩⟩;clear m3 M3 m2 M2;obtain ⟨le,Td,le1,le2⟩:∃le,(if nr-r1> -60 then nr-r1 else-60)=le/\-60<=le/\le<=60:=⟨_,rfl,by split<;>lia,by split<;>lia⟩;rw [Td];clear Td;have R11:=kl (vS.trans xO);refine ⟨_,rfl,.inl ⟨rfl,_,ay.of R11.1⟩,?_⟩;refine ⟨_,rfl,_,rfl,_,rfl,_,rfl,_,rfl,_,rfl,_,rfl,_,_,rfl,rfl,d,sa,_,rfl,Mx,by lia,fun r2 CC h4a h4b TJ lb=>⟨_,_,rfl,rfl,_,_,rfl,_,_,rfl,eW rfl,fun p hp=>?_⟩⟩;obtain ⟨mo,Tc,mo1,mo2⟩:∃mo,(if (if nr+r2>le then nr+r2 else le)<60 then (if nr+r2>le then nr+r2 else le) else 60)=mo/\le<=mo/\mo<=60:=⟨_,rfl,by repeat' split<;>lia,by split<;>lia⟩;rw [Tc];clear Tc;have R12:=kl ((vS.trans xO).trans lb);have GX:=R12.same (bj (o:=.tup [.int o1,.int ((o1+1+o2) % n),.int le,.int mo]) hp);have kA:=((k7.trans vS).trans xO).trans lb;refine ⟨l,_,_,rfl,rfl,GX.1,?_,?_⟩
      ·rw [a7,GX.len];exact fi (by lia)
      ·refine ⟨_,_,_,_,_,ps++[p],rows++[[o1,(o1+1+o2) % n,le,mo]],rfl,GX.push aq,by rw [gR,vV];rfl,fun r hr=>?_,?_,?_,?_⟩
       ·rcases kJ.mp hr with q | q
        ·exact ae r q
        ·rw [jw.mp q];exact ⟨_,_,_,_,rfl,FQ,LR,B8,ho2,Fo,le1,mo1,mo2⟩
       ·rw [au Rr,au (bp (aO ((((vS.trans xO).trans lb)) _ _ t7 (nd m6)) hp).symm)];exact ((vS.trans xO).trans lb) _ _ t7 (nd m6)
       ·exact (TJ.new hp).upd GX.1 ld
       ·exact o6 (o6 kA (kA.free hp TJ.there)) hl
    ·rintro aa H7 ⟨v1,v2,v3,v4,v5,ps,rows,rfl,R7,vV,ae,t7,D7,k7⟩;exact m1 _ _ ⟨_,rfl,k l rows H7 (by lia) ae ⟨ps,R7⟩ hl D7 k7⟩
theorem av {l:List α} {m:List β} {i:Nat} {a:α} (h:Paired F l m) (e:l[i]?=some a):∃b,m[i]?=some b/\F a b:=by
 induction h generalizing i with
 | nil=>simp at e
 | cons r t ih=>
  cases i with
  | zero=>simp at e;subst e;exact ⟨_,rfl,r⟩
  | succ i=>
   obtain ⟨b,h1,h2⟩:=ih (i:=i) (by simpa using e);exact ⟨b,by simpa using h1,h2⟩
theorem eZ.qN {K:aL} (x:eZ K sa H d) (k:cB l H H1) (hl:H l=some (.lst xs)) (hd:l≠d):eZ K sa H1 d:=by
 obtain ⟨⟨p,h⟩,⟨ns,r⟩⟩:=x;exact ⟨⟨p,k _ _ h (bp hd)⟩,⟨ns,r.keep k hl⟩⟩
theorem Pq (a:cB d H H1) (b:cB l H1 H2) (hl:H l=none):cB d H H2:=fun c o e n=>b c o (a c o e n) (aO e hl)
theorem DY (hn:2<=n) (h0:0<=m):0<=gJ m n t/\gJ m n t<n:=by
 unfold gJ;split
 ·lia
 ·have h1:=Int.emod_nonneg (m-1+t) (show n-1≠0 by lia);have h2:=Int.emod_lt_of_pos (m-1+t) (show 0<n-1 by lia);omega
theorem IQ (hn:2<=n) (h0:m≠0):0<gJ m n t:=by
 unfold gJ;rw [if_neg h0];have h1:=Int.emod_nonneg (m-1+t) (show n-1≠0 by lia);omega
theorem EE (hn:2<=n) (ha:0<=a) (F8:a<n) (hb:0<=b) (gk:b<n) (ht:0<=t) (xU:t<n) (e:gJ a n t=gJ b n t):a=b:=by
 by_cases a0:a=0
 ·by_cases b0:b=0
  ·lia
  ·have:=IQ (t:=t) hn b0;have z:gJ a n t=0:=by unfold gJ;rw [if_pos a0]
   lia
 ·by_cases b0:b=0
  ·have:=IQ (t:=t) hn a0;have z:gJ b n t=0:=by unfold gJ;rw [if_pos b0]
   lia
  ·unfold gJ at e;rw [if_neg a0,if_neg b0,Iu (x:=a-1+t) (n:=n-1) (by lia) (by lia) (by lia),Iu (x:=b-1+t) (n:=n-1) (by lia) (by lia) (by lia)] at e
   revert e
   split<;>split<;>intro e<;>lia
noncomputable def lF (n t:Int):List Int->List Int
 | [a,b,l,m]=>[gJ a n t,gJ b n t,l,m]
 | r=>r
noncomputable def Ve (n:Int) (r:List Int):Prop:=∃a b l m:Int,r=[a,b,l,m]/\0<=a/\a<n/\0<b/\b<n/\a≠b/\1<=l/\l<=m/\m<=60
structure di (n la:Int) (T F:List (List Int)):Prop where
 n1:1<=n
 n2:n<=8
 l1:1<=la
 l2:la<=60
 tl:T.length<=24
 fl:F.length<=7
 t:∀r∈T,uY n r
 f:∀r∈F,Ve n r
 one:∀(i j:Nat) r r',F[i]?=some r->F[j]?=some r'->r[1]?=r'[1]?->i=j
 own:∀r∈F,∀r'∈F,r[0]?≠r'[1]?
theorem uY.JU (hn:2<=n) (ht:0<=t) (xU:t<n) (h:uY n r):uY n (lF n t r):=by
 obtain ⟨a,b,l,m,rfl,h1,h2,h3,h4,h5,h6,h7,h8⟩:=h;have ha:=DY (t:=t) hn h1;have hb:=DY (t:=t) hn h3;exact ⟨_,_,l,m,rfl,ha.1,ha.2,hb.1,hb.2,fun e=>h5 (EE hn h1 h2 h3 h4 ht xU e),h6,h7,h8⟩
theorem W' {n la t:Int} {c:Nat} {T F:List (List Int)} (hn:2<=n) (sr:n<=8) (qZ:1<=la) (yi:la<=60) (ht:0<=t) (xU:t<n) (hT:∀r∈T,uY n r) (zL:T.length<=12) (hc:(c:Int)<=n-1) (hlen:F.length=c) (hF:wU n c F):
 di n la (T.map (lF n t)) (F.map (lF n t)):=by
 have at_:∀(i:Nat) r,(F.map (lF n t))[i]?=some r->∃a l m:Int,r=[gJ a n t,gJ (n-1-i) n t,l,m]/\i<c/\0<=a/\a<n-c/\1<=l/\l<=m/\m<=60:=fun i r e=>by
  rw [dt] at e
  cases q:F[i]? with
  | none=>rw [q] at e;cases e
  | some r0=>
   rw [q] at e;have hi:i<c:=by rw [<-hlen];exact (ff.mp q).1
   obtain ⟨a,l,m,rfl,r1⟩:=hF i r0 q;cases e;exact ⟨a,l,m,rfl,hi,r1⟩
 have mem:∀r,r∈F.map (lF n t)->∃i:Nat,(F.map (lF n t))[i]?=some r:=fun r hr=>uS.mp hr;refine ⟨by exact gm hn,sr,qZ,yi,by rw [a7];lia,by rw [a7];lia,fun r hr=>?_,fun r hr=>?_,fun i j r r' e e' q=>?_,fun r hr r' bo=>?_⟩
 ·obtain ⟨r0,h0,rfl⟩:=gF.mp hr;exact (hT r0 h0).JU hn ht xU
 ·obtain ⟨i,e⟩:=mem r hr;obtain ⟨a,l,m,rfl,hi,h1,h2,h3,h4,h5⟩:=at_ i r e;have ha:=DY (t:=t) hn h1;have hb:=DY (m:=n-1-i) (t:=t) hn (by lia);exact ⟨_,_,l,m,rfl,ha.1,ha.2,IQ hn (by lia),hb.2,fun z=>by
   have:=EE hn h1 (by lia) (by lia) (by lia) ht xU z;lia,h3,h4,h5⟩
 ·obtain ⟨a,l,m,rfl,hi,_⟩:=at_ i r e;obtain ⟨a',l',m',rfl,hj,_⟩:=at_ j r' e';have z:gJ (n-1-i) n t=gJ (n-1-j) n t:=by simpa using q
  have:=EE hn (by lia) (by lia) (by lia) (by lia) ht xU z;lia
 ·obtain ⟨i,e⟩:=mem r hr;obtain ⟨j,e'⟩:=mem r' bo;obtain ⟨a,l,m,rfl,hi,h1,h2,_⟩:=at_ i r e;obtain ⟨a',l',m',rfl,hj,_⟩:=at_ j r' e';intro q;have z:gJ a n t=gJ (n-1-j) n t:=by simpa using q
  have:=EE hn h1 (by lia) (by lia) (by lia) ht xU z;lia
theorem CD.JU (h:CD wd rows) (hF:wU n0 c rows):CD wd (rows.map (lF n t)):=fun z=>by
 obtain ⟨h1,h2⟩:=h z;refine ⟨by rw [a7];exact h1,fun r hr=>?_⟩;obtain ⟨r0,h0,rfl⟩:=gF.mp hr;obtain ⟨i,e⟩:=uS.mp h0;obtain ⟨a,l,m,e',_⟩:=hF i r0 e;have:=h2 r0 h0;subst e';exact this
noncomputable def MG (K:aL):Sp:=fun vs H Q _=>∃d sa mo la wd,vs=[.ref d,.int mo,.int la,.int wd]/\eZ K sa H d/\2<=mo/\mo<=8/\1<=la/\la<=60/\1<=wd/\wd<=8/\
 ∀(p ta fa:Addr) n l T F H',H' p=some (.tup [.int n,.int l,.ref ta,.ref fa])->fz H' ta T->fz H' fa F->di n l T F->2<=n->n<=mo->l<=la->eZ K sa H' d->cB d H H'->ta≠d->fa≠d->CD wd F/\T.length<=12->Q (.ref p) H'
noncomputable abbrev nW:List Str:=["_law_d","_law_most","_law_last","_law_wide","_law_many","_law_falls_here","_law_ties_here","_law_turn","_law_found","_law_rows"]
theorem vJ:cF nW ["_law_d","_law_most","_law_last","_law_wide"] (aZ qr):=cT
noncomputable abbrev RU:List Str:=["_law_r","_law_many","_law_turn"]
theorem coW:i7 (aZ qr) nW (kh [(".0",.local),("_law_r",.local),("_law_named",.globalImplicit),("_law_many",.free),("_law_turn",.free)]) RU [none,some 4,some 7]:=kj
theorem YT:RU.Nodup:=by decide+kernel
theorem xw (F:Fn K mg "_law_web" qr ["_law_d","_law_most","_law_last","_law_wide"] f fd)
 (FN:Fn K mg "_law_next" iY ["_law_dice","_law_many"] fN pP) (GN:aw P w K mg base ax 1 fN pP ["_law_dice","_law_many"] (Ay K))
 (FM:Fn K mg "_law_named" jS ["_law_moment","_law_many","_law_turn"] fM Cg) (GM:aw P w K mg base ax 1 fM Cg ["_law_moment","_law_many","_law_turn"] N_)
 (FF:Fn K mg "_law_falls" jT ["_law_d","_law_many","_law_wide"] fF zP) (GF:aw P w K mg base ax 2 fF zP ["_law_d","_law_many","_law_wide"] (NW K))
 (FT:Fn K mg "_law_ties" kT ["_law_d","_law_many","_law_last","_law_wide"] fT kI) (GT:aw P w K mg base ax 2 fT kI ["_law_d","_law_many","_law_last","_law_wide"] (Ng K)):
 aw P w K mg base ax 3 f fd ["_law_d","_law_most","_law_last","_law_wide"] (MG K):=by
 refine F.F.ok vJ (fun _ _ _ _ h=>?_) fun _ A _ s H _ Q E hr h=>?_
 ·obtain ⟨d,sa,mo,la,wd,rfl,_⟩:=h;rfl
 ·obtain ⟨d,sa,mo,la,wd,rfl,D,Fp,Lc,qZ,yi,nZ,xR,k⟩:=h;have gE:dn 1 _:=hr.mono (by decide);refine ⟨_,cC (tj (i:=4) vJ.nd rfl (Or.inr rfl) (cG iE aH (cO GN gE FN (cf (pv 0) (cG iO (pv 1) aH)))))
   (cC (cI 2 vJ.nd (cG iE aH (cO GN gE FN (cf (pv 0) (pv 2)))))
   (cC (cI 5 vJ.nd (cO GF hr FF (gD (pv 0) (pv 4) (pv 3))))
   (cC (cI 6 vJ.nd (cO GT hr FT (pD (pv 0) (pv 4) (pv 2) (pv 3))))
   (cC (tj (i:=7) vJ.nd rfl (Or.inr rfl) (cO GN gE FN (cf (pv 0) (pv 4))))
   (cC (cI 8 vJ.nd (jN nH))
   (cC (iP PassesOwn.never rfl (gA (jN (cf (pv 6) (pv 5)))) (cj 9 vJ.nd)
    (az (gB (px pU pT rG pC (pv 8)
     (cw (o5 rfl (gA (pv 9)) coW (fun cl ex s0 H0=>⟨cj 0 YT,vy,
      eU (tw (cO GM gE FM (gD (aE (pv 0)) (pv 1) (pv 2)))
       (tw (cO GM gE FM (gD (aE (pv 0)) (pv 1) (pv 2)))
       (cf (aE (pv 0)) (aE (pv 0)))))⟩)))))))
   (az (c7 (eU (pD (pv 4) (pv 2) (cW df (pv 8) aH (fun _ _=>rfl)) (cW df (pv 8) aH (fun _ _=>rfl)))))))))))),?_⟩
  refine ⟨_,rfl,_,rfl,_,_,rfl,rfl,d,sa,_,rfl,D,by lia,fun r1 H1 FQ LR D1 k1=>⟨_,_,rfl,rfl,?_⟩⟩;refine ⟨_,rfl,_,rfl,d,sa,_,rfl,D1,by omega,fun r2 H2 SX SW D2 k2=>⟨_,_,rfl,rfl,?_⟩⟩;refine ⟨_,rfl,_,rfl,_,rfl,d,sa,_,_,rfl,D2,by lia,by lia,nZ,xR,fun fl c F0 H3 hc mQ LN RF jt D3 k3 m_=>?_⟩;refine ⟨_,rfl,_,rfl,_,rfl,_,rfl,d,sa,_,_,_,rfl,D3,by lia,by lia,by lia,by lia,nZ,xR,fun tl T0 H4 zL F9 RT xT D4 k4=>?_⟩;refine ⟨_,rfl,_,rfl,d,sa,_,rfl,D4,by lia,fun t H5 hta Fl D5 k5=>?_⟩;have fld:fl≠d:=fun e=>by
   subst e;obtain ⟨o,q⟩:=D2.there;rw [jt] at q;cases q
  have ZW:tl≠d:=fun e=>by
   subst e;obtain ⟨o,q⟩:=D3.there;rw [xT] at q;cases q
  have Tu:fz H5 fl F0:=by
   obtain ⟨p,e⟩:=D3.at_;exact RF.keep (k4.trans k5) e fld
  have Tt:fz H5 tl T0:=by
   obtain ⟨p,e⟩:=D4.at_;exact RT.keep k5 e ZW
  have kA:cB d H H5:=(((k1.trans k2).trans k3).trans k4).trans k5;refine ⟨dM _,fun fo yl=>?_⟩;have LU:fo≠d:=fun e=>by
   subst e;obtain ⟨o,q⟩:=D5.there;rw [yl] at q;cases q
  have yk:H fo=none:=kA.free yl D5.there;have RF6:=Tu.same (bj (o:=.lst []) yl);have RT6:=Tt.same (bj (o:=.lst []) yl);have AY:tl≠fo:=by
   obtain ⟨ps,e,_⟩:=Tt;exact aO e yl
  have Cd:fl≠fo:=by
   obtain ⟨ps,e,_⟩:=Tu;exact aO e yl
  refine ⟨_,rfl,_,rfl,eW rfl,fun ll qY=>⟨ll,rfl,⟨_,ay.of aq⟩,?_⟩⟩;have xI:ll≠fo:=bp (aO (aq (H:=H5) (a:=fo) (o:=.lst [])) qY);have Lg:H5 ll=none:=by rw [au xI] at qY;exact qY
  have Lh:H ll=none:=kA.free Lg D5.there;generalize zN:upd (upd H5 fo (.lst [])) ll (.lst [V.ref tl,V.ref fl])=H7;have e7:H7 fo=some (.lst []):=by rw [<-zN,au (bp xI),aq]
  have e7l:H7 ll=some (.lst [V.ref tl,V.ref fl]):=by rw [<-zN,aq]
  have RF7:fz H7 fl F0:=by rw [<-zN];exact RF6.same (bj qY)
  have RT7:fz H7 tl T0:=by rw [<-zN];exact RT6.same (bj qY)
  have D7:eZ K sa H7 d:=by rw [<-zN];exact (D5.new yl).new qY
  have k7:cB d H H7:=by rw [<-zN];exact o6 (o6 kA yk) Lh
  refine kO (K:=K) (a:=ll) (xs:=[V.ref tl,V.ref fl]) (fun i aa H'=>∃v ls,aa=[some (.ref d),some (.int mo),some (.int (1+r2)),some (.int wd),some (.int (2+r1)),some (.ref fl),some (.ref tl),some (.int t),some (.ref fo),v]/\
   H' fo=some (.lst (ls.map V.ref))/\Paired (fun a rs=>fz H' a rs/\a≠fo/\a≠d) ls (([T0,F0].take i).map fun R=>R.map (lF (2+r1) t))/\cB fo H7 H') ⟨none,[],rfl,e7,.nil,cB.refl fo H7⟩ ?_ ?_ ?_
  ·rintro i aa H8 _ ⟨v,ls,rfl,_,_,k8⟩;exact ay.of (k8 _ _ e7l xI)
  ·rintro i x aa H8 hx ⟨v,ls,rfl,e8,zA,k8⟩;obtain ⟨a0,R0,rfl,RA,a0fo,htk,KD,hln⟩:∃a0 R0,x=.ref a0/\fz H8 a0 R0/\a0≠fo/\(([T0,F0].take (i+1)).map fun R=>R.map (lF (2+r1) t))=(([T0,F0].take i).map fun R=>R.map (lF (2+r1) t))++[R0.map (lF (2+r1) t)]/\
    (∀r∈R0,∃a b l m:Int,r=[a,b,l,m])/\R0.length<=12:=by
    match i,hx with
    | 0,hx=>
     cases hx;exact ⟨tl,T0,rfl,RT7.keep k8 e7 AY,AY,rfl,fun r hr=>by
      obtain ⟨a,b,l,m,e,_⟩:=F9 r hr;exact ⟨a,b,l,m,e⟩,zL⟩
    | 1,hx=>
     cases hx;exact ⟨fl,F0,rfl,RF7.keep k8 e7 Cd,Cd,rfl,fun r hr=>by
      obtain ⟨i,e⟩:=uS.mp hr;obtain ⟨a,l,m,e,_⟩:=LN i r e;exact ⟨a,_,l,m,e⟩,by lia⟩
    | i+2,hx=>cases hx
   obtain ⟨z9,RP⟩:=RA;refine ⟨_,rfl,.inl ⟨rfl,_,ay.of e8⟩,?_⟩;refine ⟨_,rfl,a0,rfl,⟨_,ay.of RP.1⟩,fun Da dh=>?_⟩;refine o7 (xs:=z9.map V.ref) (fun j aa H'=>∃v ps,aa=[v,some (.int (2+r1)),some (.int t)]/\e_ H' Da ps ((R0.take j).map (lF (2+r1) t))/\aM H8 H') ?_ ?_ ?_ ?_
   ·exact ⟨none,[],rfl,⟨aq,.nil⟩,bj dh⟩
   ·rintro j aa H9 _ ⟨v,ps,rfl,_,s9⟩;exact ay.of (s9 _ _ RP.1)
   ·rintro j x aa H9 vT ⟨v,ps,rfl,R9,s9⟩;rw [dt] at vT
    cases hq:z9[j]? with
    | none=>rw [hq] at vT;cases vT
    | some q=>
     rw [hq] at vT;cases vT;obtain ⟨r,hr,jq⟩:=av RP.2 hq;obtain ⟨a,b,l,m,rfl⟩:=KD r (dZ hr);have uA:=s9 _ _ jq;refine ⟨_,rfl,a9 uA rfl ⟨_,rfl,_,rfl,_,_,_,rfl,by lia,?_⟩⟩;refine ⟨_,rfl,a9 uA rfl ⟨_,rfl,_,rfl,_,_,_,rfl,by lia,?_⟩⟩;refine ⟨_,rfl,a9 uA rfl ⟨_,rfl,a9 uA rfl ⟨eW rfl,fun p hp=>?_⟩⟩⟩;have Ml:=R9.same (bj (o:=.tup [.int (gJ a (2+r1) t),.int (gJ b (2+r1) t),.int l,.int m]) hp);have LQ:H8 Da=none:=dh;refine ⟨_,Ml.1,?_,_,ps++[p],rfl,?_,fun b o e=>?_⟩
     ·rw [a7,Ml.len,a7,iA];exact fi (by lia)
     ·have hj:(R0.take (j+1)).map (lF (2+r1) t)=(R0.take j).map (lF (2+r1) t)++[[gJ a (2+r1) t,gJ b (2+r1) t,l,m]]:=by
       rw [jC,hr,eJ];rfl
      rw [hj];exact Ml.push aq
     ·rw [au (aO e LQ),au (aO (s9 _ _ e) hp)];exact s9 _ _ e
   ·rintro aa H9 ⟨v,ps,rfl,R9,s9⟩;have e9:=s9 _ _ e8;refine ⟨fo,_,.ref Da,rfl,rfl,e9,?_,?_⟩
    ·rw [a7,zA.length,a7,iA];exact fi (by simp;lia)
    ·have wc:Da≠fo:=bp (aO e8 dh);have LP:Da≠d:=fun e=>by
      subst e;obtain ⟨p,q⟩:=(D7.qN k8 e7 LU).at_;rw [dh] at q;cases q
     have ku:cB fo H9 (upd H9 fo (.lst (ls.map V.ref++[.ref Da]))):=fun b o e n=>by rw [au n];exact e
     refine ⟨_,ls++[Da],rfl,by rw [aq,eJ];rfl,?_,fun b o e n=>by rw [au n];exact s9 _ _ (k8 b o e n)⟩;rw [htk];refine Paired.snoc (dN zA fun a rs z=>⟨(z.1.same s9).keep ku e9 z.2.1,z.2⟩) ⟨?_,wc,LP⟩;have hl:R0.take (z9.map V.ref).length=R0:=by
      rw [a7,RP.len];exact ir
     rw [hl] at R9;exact fz.keep ⟨ps,R9⟩ ku e9 wc
  ·rintro aa H8 ⟨v,ls,rfl,e8,zA,k8⟩;have zA:Paired (fun a rs=>fz H8 a rs/\a≠fo/\a≠d) ls [T0.map (lF (2+r1) t),F0.map (lF (2+r1) t)]:=zA
   cases zA with
   | @cons lt _ ls1 _ q1 pl9=>
    cases pl9 with
    | @cons lf _ ls2 _ q2 JZ=>
     cases JZ;refine ⟨_,rfl,_,rfl,_,rfl,lM e8 rfl ⟨_,rfl,lM e8 rfl ⟨eW rfl,fun p hp=>?_⟩⟩⟩;have sm:=bj (o:=.tup [.int (2+r1),.int (1+r2),.ref lt,.ref lf]) hp;exact k p lt lf _ _ _ _ _ aq (q1.1.same sm) (q2.1.same sm) (W' (by lia) (by lia) (by lia) (by lia) hta Fl F9 zL hc mQ LN) (by lia) (by lia) (by lia) ((D7.qN k8 e7 LU).same sm) (o6 (Pq k7 k8 yk) ((Pq k7 k8 yk).free hp (D7.qN k8 e7 LU).there)) q1.2.2 q2.2.2 ⟨m_.JU LN,by rw [a7];exact zL⟩
end Y0
namespace L2
open PySem PySem.Spec PyProof.Rows
section
end
theorem gr {c A B:Prop} [Decidable c] (hc:c) (h:A):if decide c=true then A else B:=by
 rw [eQ hc];exact iN h
theorem ix {c A B:Prop} [Decidable c] (hc:¬c) (h:B):if decide c=true then A else B:=by
 rw [eP hc];exact dO h
theorem qc {Q:VK} {H:Hp} {b b':Bool} (k:Q (.bl b) H) (e:b=b'):Q (.bl b') H:=e▸k
theorem AE:∀{ns:List Int},pG (.int a) (ns.map V.int)=decide (a∈ns)
 | []=>by simp [pG]
 | n::r=>by
  have ih:=AE (a:=a) (ns:=r);unfold pG at ih ⊢;rw [fU,List.any_cons,ih];show ((n==a) || decide (a∈r))=decide (a∈n::r)
  by_cases e:n=a
  ·subst e;simp
  ·have:¬a=n:=fun z=>e z.symm;simp [e,this]
theorem DV:∀{ns:List Int},(ns.map V.int).all jy=true
 | []=>rfl
 | n::r=>by
  rw [fU,List.all_cons,DV (ns:=r)];rfl
theorem OP {α:Type} {xs:List α} {i:Nat} (h:i<=xs.length):(xs.drop (HT.cE xs.length 0 none)).take (HT.cE xs.length xs.length (some (i:Int))-HT.cE xs.length 0 none)=xs.take i:=by
 rw [HT.i_,HT.gL,List.drop_zero,Nat.sub_zero,Nat.min_eq_left h]
end L2
namespace Y0
open PySem L2
structure lD (mg:Str->Option Value):Prop where
 mm:∃t,mg "MOST_MOMENTS"=some (.int 8 t)
 ll:∃t,mg "LATEST_LAST"=some (.int 60 t)
 ws:∃t,mg "WIDEST_SPAN"=some (.int 60 t)
 lf:∃t,mg "LONGEST_FALL"=some (.int 60 t)
 list:mg "list"=none
noncomputable def Hr:Sp:=fun vs H Q _=>∃n a b,vs=[.int n,.int a,.int b]/\Q (.bl (decide (0<=a/\a<n/\0<=b/\b<n/\a≠b))) H
noncomputable def Nb:Sp:=fun vs H Q _=>∃n la,vs=[.int n,.int la]/\1<=n/\n<=8/\1<=la/\la<=60/\Q .bf H
noncomputable def N':Sp:=fun vs H Q _=>∃n a T,vs=[.int n,.ref a]/\fz H a T/\(∀r∈T,uY n r)/\Q .bf H
noncomputable def Pe:Sp:=fun vs H Q _=>∃n a la T F,vs=[.int n,.ref a]/\fz H a F/\di n la T F/\∀H',aM H H'->Q .bf H'
theorem sc2:cF ["many","one","other"] ["many","one","other"] (aZ aS):=cT
theorem xy {f:Addr} {fd:FuncData} (F:Fn K mg "are_two_moments" aS ["many","one","other"] f fd):aw P w K mg base ax 1 f fd ["many","one","other"] Hr:=by
 refine F.F.ok sc2 (fun _ _ _ _ h=>?_) fun _ A _ s H _ Q E hr h=>?_
 ·obtain ⟨n,a,b,rfl,_⟩:=h;rfl
 ·obtain ⟨n,a,b,rfl,k⟩:=h;refine ⟨_,az (c7 (vg (Iw ko sZ aH (pv 1) (pv 0)) (vg (Iw ko sZ aH (pv 2) (pv 0)) (vh (kL De (pv 1) (pv 2)))))),?_⟩;refine ⟨_,rfl,_,_,rfl,rfl,_,rfl,kK (fun h1=>⟨_,rfl,_,_,rfl,rfl,_,rfl,kK (fun h2=>⟨_,rfl,_,_,rfl,rfl,_,rfl,kK (fun h3=>⟨_,rfl,_,_,rfl,rfl,_,rfl,kK (fun h4=>⟨_,rfl,_,rfl,rfl,?_⟩) (fun h4=>?_)⟩) (fun h3=>⟨false,rfl,dO ?_⟩)⟩) (fun h2=>?_)⟩) (fun h1=>⟨false,rfl,dO ?_⟩)⟩
  all_goals simp only [ju] at*
  ·refine qc (Q:=Q) k ?_
   by_cases e:a=b
   ·subst e;simp
   ·simp [e];lia
  all_goals (refine qc (Q:=Q) k (eP fun z=>?_);omega)
theorem scS:cF ["many","last"] ["many","last"] (aZ bV):=cT
theorem uc (F:Fn K mg "look_over_size" bV ["many","last"] f fd) (T:lD mg):aw P w K mg base ax 1 f fd ["many","last"] Nb:=by
 obtain ⟨t1,m1⟩:=T.mm;obtain ⟨t2,m2⟩:=T.ll;refine F.F.ok scS (fun _ _ _ _ h=>?_) fun _ A _ s H _ Q E hr h=>?_
 ·obtain ⟨n,a,rfl,_⟩:=h;rfl
 ·obtain ⟨n,la,rfl,n1,n2,l1,l2,k⟩:=h;refine ⟨_,cC (d0 (rS (DF ko ko aH (pv 0) (zf (v:=.int 8) rfl m1 ⟨_,rfl⟩))) o8 d9) (az (d0 (rS (DF ko ko aH (pv 1) (zf (v:=.int 60) rfl m2 ⟨_,rfl⟩))) o8 d9)),?_⟩;refine ⟨_,rfl,_,_,rfl,rfl,_,rfl,gr n1 ⟨_,_,rfl,rfl,_,rfl,uZ n2 ?_⟩⟩;exact ⟨_,rfl,_,_,rfl,rfl,_,rfl,gr l1 ⟨_,_,rfl,rfl,_,rfl,uZ l2 k⟩⟩
noncomputable abbrev nLT:List Str:=["many","ties","at","one","other","least","most"]
theorem wD:cF nLT ["many","ties"] (aZ bU):=cT
theorem qA (F:Fn K mg "look_over_ties" bU ["many","ties"] f fd) (T:lD mg) (F2:Fn K mg "are_two_moments" aS ["many","one","other"] f2 L')
 (G2:aw P w K mg base ax 1 f2 L' ["many","one","other"] Hr):aw P w K mg base ax 2 f fd ["many","ties"] N':=by
 obtain ⟨t1,m1⟩:=T.ws;refine F.F.ok wD (fun _ _ _ _ h=>?_) fun _ A _ s H _ Q E hr h=>?_
 ·obtain ⟨n,a,_,rfl,_⟩:=h;rfl
 ·obtain ⟨n,a,rows,rfl,⟨ps,R⟩,ae,k⟩:=h;refine ⟨_,cC (cI 2 wD.nd aH) (az (iP PassesOwn.never rfl (gA (pv 1))
   (yZ rfl (eL (cj 3 wD.nd) (eL (cj 4 wD.nd) (eL (cj 5 wD.nd) (eL (cj 6 wD.nd) qg)))))
   (cC (d0 (rS (rV (cO G2 hr F2 (gD (pv 0) (pv 3) (pv 4))))) o8 d9)
   (cC (d0 (rS (PD ko ko ko (yX zc (zf (v:=.int 60) rfl m1 ⟨_,rfl⟩)) (pv 5) (pv 6) (zf (v:=.int 60) rfl m1 ⟨_,rfl⟩))) o8 d9)
   (az (HF (i:=2) wD.nd rfl (Or.inl rfl) aH Hv)))))),?_⟩
  refine ⟨_,rfl,a,rfl,⟨_,ay.of R.1⟩,kO (K:=K) (a:=a) (xs:=ps.map V.ref) (fun i aa H'=>∃z v1 v2 v3 v4,aa=[some (.int n),some (.ref a),some (.int z),v1,v2,v3,v4]/\H'=H) ⟨0,none,none,none,none,rfl,rfl⟩ ?_ ?_ ?_⟩
  ·rintro i aa H' _ ⟨z,v1,v2,v3,v4,rfl,rfl⟩;exact ay.of R.1
  ·rintro i x aa H' hx ⟨z,v1,v2,v3,v4,rfl,rfl⟩;rw [dt] at hx
   cases hq:ps[i]? with
   | none=>rw [hq] at hx;cases hx
   | some q=>
    rw [hq] at hx;cases hx;obtain ⟨r,bo,jq⟩:=av R.2 hq;obtain ⟨a',b',l,m,rfl,h1,h2,h3,h4,h5,h6,h7,h8⟩:=ae r (dZ bo);refine ⟨q,_,rfl,dz.of jq,rfl,_,_,rfl,_,_,rfl,_,_,rfl,_,_,rfl,rfl,?_⟩;refine ⟨_,rfl,_,rfl,_,rfl,n,a',b',rfl,_,rfl,uZ ⟨h1,h2,h3,h4,h5⟩ ?_⟩;refine ⟨_,rfl,_,rfl,_,_,rfl,rfl,_,rfl,gr (by omega) ⟨_,rfl,_,_,rfl,rfl,_,rfl,gr h7 ⟨_,_,rfl,rfl,_,rfl,uZ h8 ?_⟩⟩⟩;exact ⟨_,rfl,_,_,rfl,rfl,_,_,_,_,_,rfl,rfl⟩
  ·rintro aa H' ⟨z,v1,v2,v3,v4,rfl,rfl⟩;exact k
end Y0
namespace L2
open PySem PySem.Spec PyProof.Rows
theorem g9 {b:Bool} {A B:Prop} (e:b=false) (h:B):if b=true then A else B:=by
 rw [e];exact dO h
theorem pk {b:Bool} {A B:Prop} (e:b=true) (h:A):if b=true then A else B:=by
 rw [e];exact iN h
theorem DG (f:Str) (v:V):∀fs:List (Str×V),(ak f v fs).length<=fs.length+1
 | []=>aF _
 | (g,x)::r=>by
  unfold ak;split
  ·exact pV _
  ·exact Nat.succ_le_succ (DG f v r)
theorem e_.get {rows:List (List Int)} (R:e_ H a ps rows) {i:Nat} (hx:(ps.map V.ref)[i]?=some x):∃q r,x=.ref q/\ps[i]?=some q/\rows[i]?=some r/\H q=some (.tup (r.map V.int)):=by
 rw [dt] at hx
 cases hq:ps[i]? with
 | none=>rw [hq] at hx;cases hx
 | some q=>
  rw [hq] at hx;cases hx;obtain ⟨r,bo,jq⟩:=Y0.av R.2 hq;exact ⟨q,r,rfl,rfl,bo,jq⟩
end L2
namespace Y0
open PySem L2
noncomputable def pY (r:List Int):Int:=r.getD 1 0
structure o_ (K:aL) (mg:Str->Option Value) (C:Addr):Prop where
 cl:oZ K C
 nM:jn K C "many"
 nL:jn K C "last"
 nT:jn K C "told_ties"
 nF:jn K C "told_falls"
 mgC:mg "Web"=some (.ref C)
noncomputable def o4 (n la:Int) (ta fa:Addr):List (Str×V):=ak "told_falls" (.ref fa) (ak "told_ties" (.ref ta) (ak "last" (.int la) (ak "many" (.int n) [])))
theorem k1:¬(("many":Str)="told_falls"):=by decide+kernel
theorem k2:¬(("many":Str)="told_ties"):=by decide+kernel
theorem k3:¬(("many":Str)="last"):=by decide+kernel
theorem k4:¬(("last":Str)="told_falls"):=by decide+kernel
theorem k5:¬(("last":Str)="told_ties"):=by decide+kernel
theorem k6:¬(("told_ties":Str)="told_falls"):=by decide+kernel
theorem Dn (n la:Int) (ta fa:Addr):(o4 n la ta fa).lookup ("many":Str)=some (.int n):=by
 unfold o4;rw [lL,if_neg k1,lL,if_neg k2,lL,if_neg k3,lL,if_pos rfl]
theorem Vl (n la:Int) (ta fa:Addr):(o4 n la ta fa).lookup ("last":Str)=some (.int la):=by
 unfold o4;rw [lL,if_neg k4,lL,if_neg k5,lL,if_pos rfl]
theorem Vm (n la:Int) (ta fa:Addr):(o4 n la ta fa).lookup ("told_ties":Str)=some (.ref ta):=by
 unfold o4;rw [lL,if_neg k6,lL,if_pos rfl]
theorem OH (n la:Int) (ta fa:Addr):(o4 n la ta fa).lookup ("told_falls":Str)=some (.ref fa):=by
 unfold o4;rw [lL,if_pos rfl]
theorem CU (n la:Int) (ta fa:Addr) {m:Str} (h1:¬m="told_falls") (h2:¬m="told_ties") (h3:¬m="last") (h4:¬m="many"):(o4 n la ta fa).lookup m=none:=by
 unfold o4;rw [lL,if_neg h1,lL,if_neg h2,lL,if_neg h3,lL,if_neg h4]
 all_goals rfl
noncomputable def kM (C:Addr) (H:Hp) (p:Addr) (n la:Int) (T F:List (List Int)):Prop:=∃dx ta fa,H p=some (.ins C dx (o4 n la ta fa))/\fz H ta T/\fz H fa F
theorem kM.same (h:kM C H p n la T F) (k:aM H H'):kM C H' p n la T F:=by
 obtain ⟨dx,ta,fa,e,r1,r2⟩:=h;exact ⟨dx,ta,fa,k _ _ e,r1.same k,r2.same k⟩
noncomputable def MW (C:Addr):Sp:=fun vs H Q _=>∃p dx n la a b T F,vs=[.ref p,.int n,.int la,.ref a,.ref b]/\H p=some (.ins C dx [])/\fz H a T/\fz H b F/\di n la T F/\
 ∀H',kM C H' p n la T F->cB p H H'->Q .bf H'
noncomputable def Ap (C:Addr) (g:List (List Int)->List (List Int)->List (List Int)):Sp:=fun vs H Q _=>∃p n la T F,vs=[.ref p]/\kM C H p n la T F/\∀l H',H l=none->aM H H'->fz H' l (g T F)->Q (.ref l) H'
noncomputable abbrev RW:List Str:=["many","falls","ends","at","one","other","least","most"]
theorem uX:cF RW ["many","falls"] (aZ aR):=cT
theorem Zc:i7 (aZ aR) RW (kh [(".0",.local),("fall",.local)]) ["fall"] [none]:=kj
theorem RN:([x]:List Str).Nodup:=by simp
theorem oJ (F:Fn K mg "look_over_falls" aR ["many","falls"] f fd) (T:lD mg) (F2:Fn K mg "are_two_moments" aS ["many","one","other"] f2 L')
 (G2:aw P w K mg base ax 1 f2 L' ["many","one","other"] Hr):aw P w K mg base ax 2 f fd ["many","falls"] Pe:=by
 obtain ⟨t1,m1⟩:=T.lf;refine F.F.ok uX (fun _ _ _ _ h=>?_) fun _ A _ s H _ Q E hr h=>?_
 ·obtain ⟨n,a,_,_,_,rfl,_⟩:=h;rfl
 ·obtain ⟨n,a,la,TT,rows,rfl,⟨ps,R⟩,ae,k⟩:=h;refine ⟨_,cC (wR (i:=2) uX.nd rfl rfl rfl (gA (pv 1)) Zc (fun cl ex s0 H0=>⟨cj 0 RN,vy,aE (pv 0)⟩))
   (cC (cI 3 uX.nd aH) (az (iP PassesOwn.never rfl (gA (pv 1))
   (yZ rfl (eL (cj 4 uX.nd) (eL (cj 5 uX.nd) (eL (cj 6 uX.nd) (eL (cj 7 uX.nd) qg)))))
   (cC (d0 (PW.pt (rQ (rS (rV (cO G2 hr F2 (gD (pv 0) (pv 4) (pv 5))))) (vj (zg DZ (pv 4) (pv 2) (by with_unfolding_all rfl))))) o8 d9)
   (cC (d0 (PW.pt (rQ (cV fw (pv 5) aH) (vj (zg DZ (pv 5) (AG Wk (pv 2) A8 (A9 (pv 3))) (by with_unfolding_all rfl))))) o8 d9)
   (cC (d0 (rS (PD ko ko ko aH (pv 6) (pv 7) (zf (v:=.int 60) rfl m1 ⟨_,rfl⟩))) o8 d9)
   (az (HF (i:=3) uX.nd rfl (Or.inl rfl) aH Hv)))))))),?_⟩
  refine ⟨_,rfl,a,rfl,⟨_,ay.of R.1⟩,fun Da dh=>?_⟩;refine o7 (xs:=ps.map V.ref) (fun j aa H'=>∃v,aa=[v]/\H' Da=some (.lst (((rows.take j).map pY).map V.int))/\aM H H') ?_ ?_ ?_ ?_
  ·exact ⟨none,rfl,aq,bj dh⟩
  ·rintro j aa H1 _ ⟨v,rfl,_,s1⟩;exact ay.of (s1 _ _ R.1)
  ·rintro j x aa H1 hx ⟨v,rfl,e1,s1⟩;obtain ⟨q,r,rfl,hq,bo,jq⟩:=R.get hx;obtain ⟨a',b',l,m,rfl,_⟩:=ae.f r (dZ bo);refine ⟨_,rfl,a9 (s1 _ _ jq) rfl ⟨_,e1,?_,_,rfl,?_,fun b o e=>?_⟩⟩
   ·rw [a7,a7,iA];have:=ae.fl;exact fi (by lia)
   ·rw [aq,jC,bo,eJ,eJ];rfl
   ·rw [au (aO e dh)];exact s1 _ _ e
  ·rintro aa H1 ⟨v,rfl,e1,s1⟩;have hl:rows.take (ps.map V.ref).length=rows:=by
    rw [a7,R.len];exact ir
   rw [hl] at e1;have R1:=R.same s1;refine ⟨_,rfl,a,rfl,⟨_,ay.of R1.1⟩,kO (K:=K) (a:=a) (xs:=ps.map V.ref) (fun i aa H'=>∃z v1 v2 v3 v4,z=(i:Int)/\aa=[some (.int n),some (.ref a),some (.ref Da),some (.int z),v1,v2,v3,v4]/\aM H1 H') ⟨0,none,none,none,none,rfl,rfl,aM.refl _⟩ ?_ ?_ ?_⟩
   ·rintro i aa H' _ ⟨z,v1,v2,v3,v4,_,rfl,s2⟩;exact ay.of (s2 _ _ R1.1)
   ·rintro i x aa H2 hx ⟨z,v1,v2,v3,v4,rfl,rfl,s2⟩;have R2:=R1.same s2;obtain ⟨q,r,rfl,hq,bo,jq⟩:=R2.get hx;have eX:=dZ bo;obtain ⟨a',b',l,m,e4,h1,h2,h3,h4,h5,h6,h7,h8⟩:=ae.f r eX;subst e4;have e2:=s2 _ _ e1;refine ⟨q,_,rfl,dz.of jq,rfl,_,_,rfl,_,_,rfl,_,_,rfl,_,_,rfl,rfl,?_⟩;refine ⟨_,rfl,_,rfl,_,rfl,n,a',b',rfl,_,rfl,uZ ⟨h1,h2,by exact gm h3,h4,h5⟩ ?_⟩;refine ⟨_,rfl,_,rfl,Da,_,rfl,.inl (ay.of e2),rfl,DV,_,rfl,g9 ?_ ?_⟩
    ·show pG _ _=false;rw [AE];refine eP fun z=>?_;obtain ⟨r',i9,e⟩:=gF.mp z;obtain ⟨a2,b2,l2,m2,e5,_⟩:=ae.f r' i9;subst e5;refine ae.own _ eX _ i9 ?_;have e6:b2=a':=e;show some a'=some b2;rw [e6]
    ·refine ⟨_,rfl,rfl,_,rfl,ix (by intro z;have:=V.int.inj z;lia) ?_⟩;refine ⟨_,rfl,_,rfl,_,rfl,_,rfl,Da,_,rfl,ay.of e2,fun p hp=>⟨p,_,rfl,.inl (ay.of aq),rfl,?_,_,rfl,g9 ?_ ?_⟩⟩
     ·unfold o3;rw [OP (by rw [a7,a7];exact bx (ff.mp bo).1),<-List.map_take];exact DV
     ·show pG _ _=false;unfold o3;rw [OP (by rw [a7,a7];exact bx (ff.mp bo).1),<-List.map_take,AE];refine eP fun z=>?_;obtain ⟨j,hj⟩:=uS.mp z;have hji:j<i:=by
       have:=(ff.mp hj).1;rw [iA] at this;lia
      rw [List.getElem?_take_of_lt hji,dt] at hj
      cases i9:rows[j]? with
      | none=>rw [i9] at hj;cases hj
      | some r'=>
       rw [i9] at hj;have e:pY r'=b':=gn hj;obtain ⟨a2,b2,l2,m2,e5,_⟩:=ae.f r' (dZ i9);subst e5;have e6:b2=b':=e;have:=ae.one j i _ _ i9 bo (by show some b2=some b';rw [e6]);lia
     ·refine ⟨_,rfl,_,_,rfl,rfl,_,rfl,gr h6 ⟨_,rfl,_,_,rfl,rfl,_,rfl,gr h7 ⟨_,_,rfl,rfl,_,rfl,uZ h8 ?_⟩⟩⟩;exact ⟨_,rfl,_,_,rfl,rfl,_,_,_,_,_,(by show (i:Int)+1=_;lia),rfl,s2.trans (bj hp)⟩
   ·rintro aa H' ⟨z,v1,v2,v3,v4,_,rfl,s2⟩;exact k _ (s1.trans s2)
theorem scI:cF ["self","many","last","ties","falls"] ["self","many","last","ties","falls"] (aZ dF):=cT
theorem uj (F:gc K "__init__" "Web.__init__" dF f fd) (T:lD mg) (TC:o_ K mg C)
 (FS:Fn K mg "look_over_size" bV ["many","last"] fS LW) (GS:aw P w K mg base ax 1 fS LW ["many","last"] Nb)
 (FT:Fn K mg "look_over_ties" bU ["many","ties"] fT kI) (GT:aw P w K mg base ax 2 fT kI ["many","ties"] N')
 (FF:Fn K mg "look_over_falls" aR ["many","falls"] fF zP) (GF:aw P w K mg base ax 2 fF zP ["many","falls"] Pe):
 aw P w K mg base ax 3 f fd ["self","many","last","ties","falls"] (MW C):=by
 refine F.ok scI (fun _ _ _ _ h=>?_) fun _ A _ s H _ Q E hr h=>?_
 ·obtain ⟨p,dx,n,la,a,b,_,_,rfl,_⟩:=h;rfl
 ·obtain ⟨p,dx,n,la,a,b,rT,rF,rfl,hp,RT,RF,ae,k⟩:=h;have gE:dn 1 _:=hr.mono (by decide);refine ⟨_,cC (gB (cO GS gE FS (cf (pv 1) (pv 2))))
   (cC (gB (cO GT hr FT (cf (pv 1) (pv 3))))
   (cC (gB (cO GF hr FF (cf (pv 1) (pv 4))))
   (cC (lJ (pv 0) (pv 1) rfl) (cC (lJ (pv 0) (pv 2) rfl)
   (cC (lJ (pv 0) (vo AS (by rfl) T.list (by decide+kernel) (cw (pv 3))) rfl)
   (az (lJ (pv 0) (vo AS (by rfl) T.list (by decide+kernel) (cw (pv 4))) rfl))))))),?_⟩
  refine ⟨_,rfl,_,rfl,n,la,rfl,ae.n1,ae.n2,ae.l1,ae.l2,?_⟩;refine ⟨_,rfl,_,rfl,n,a,rT,rfl,RT,ae.t,?_⟩;refine ⟨_,rfl,_,rfl,n,b,la,rT,rF,rfl,RF,ae,fun H1 s1=>?_⟩;have fq:=s1 _ _ hp;have RT1:=RT.same s1;have RF1:=RF.same s1;obtain ⟨Bg,Q1⟩:=RT1;obtain ⟨EZ,Q2⟩:=RF1;refine ⟨_,rfl,_,rfl,p,C,dx,_,rfl,fq,TC.cl,TC.nM,(by show 0<1000;decide),?_⟩;refine ⟨_,rfl,_,rfl,p,C,dx,_,rfl,aq,TC.cl,TC.nL,(by show 1<1000;decide),?_⟩;rw [H_];have kp:∀{o:HO},cB p H1 (upd H1 p o):=fun {o} b u e ne=>by rw [au ne];exact e
  have np:∀{x:Addr} {xs:List V},H1 x=some (.lst xs)->x≠p:=fun {x xs} e=>aQ e fq nofun;refine ⟨_,rfl,a,_,rfl,.inl (ay.of (by rw [au (np Q1.1)];exact Q1.1)),fun l1 qZ=>?_⟩;have Fe:l1≠p:=bp (aO aq qZ);have Lm:H1 l1=none:=by rw [au Fe] at qZ;exact qZ
  refine ⟨_,rfl,p,C,dx,_,rfl,(by rw [au (bp Fe),aq]),TC.cl,TC.nT,Nat.lt_of_le_of_lt (DG _ _ _) (by show 2<1000;decide),?_⟩;generalize LL:upd (upd (upd H1 p (.ins C dx (ak "last" (.int la) (ak "many" (.int n) [])))) l1 (.lst (Bg.map V.ref))) p (.ins C dx (ak "told_ties" (.ref l1) (ak "last" (.int la) (ak "many" (.int n) []))))=H2;have zD:cB p H1 H2:=fun x o e ne=>by rw [<-LL,au ne,au (aO e Lm),au ne];exact e
  have p2:H2 p=some (.ins C dx (ak "told_ties" (.ref l1) (ak "last" (.int la) (ak "many" (.int n) [])))):=by rw [<-LL,aq]
  have l2:H2 l1=some (.lst (Bg.map V.ref)):=by rw [<-LL,au Fe,aq]
  refine ⟨_,rfl,b,_,rfl,.inl (ay.of (zD _ _ Q2.1 (np Q2.1))),fun l3 pJ=>?_⟩;have Km:l3≠p:=bp (aO p2 pJ);have l31:l3≠l1:=bp (aO l2 pJ);have Ll:H1 l3=none:=by
   cases q:H1 l3 with
   | none=>rfl
   | some o=>rw [zD _ _ q Km] at pJ;cases pJ
  refine ⟨_,rfl,p,C,dx,_,rfl,(by rw [au (bp Km)];exact p2),TC.cl,TC.nF,Nat.lt_of_le_of_lt (DG _ _ _) (Nat.lt_of_le_of_lt (Nat.succ_le_succ (DG _ _ _)) (by show 3<1000;decide)),?_⟩;generalize FG:upd (upd H2 l3 (.lst (EZ.map V.ref))) p (.ins C dx (ak "told_falls" (.ref l3) (ak "told_ties" (.ref l1) (ak "last" (.int la) (ak "many" (.int n) [])))))=H4;have Ko:cB p H1 H4:=fun x o e ne=>by rw [<-FG,au ne,au (aO e Ll)];exact zD _ _ e ne
  have tp:∀{x:Addr} {xs:List V},H1 x=some (.tup xs)->x≠p:=fun {x xs} e=>aQ e fq nofun;refine k H4 ⟨dx,l1,l3,by rw [<-FG,aq];rfl,⟨Bg,?_,dN Q1.2 fun x r e=>Ko _ _ e (tp e)⟩,⟨EZ,?_,dN Q2.2 fun x r e=>Ko _ _ e (tp e)⟩⟩ (fun x o e ne=>Ko _ _ (s1 _ _ e) ne)
  ·rw [<-FG,au Fe,au (bp l31)];exact l2
  ·rw [<-FG,au Km,aq]
theorem Z1:cF ["self"] ["self"] (aZ dE):=cT
theorem Z2:cF ["self"] ["self"] (aZ dj):=cT
theorem qy (F:gc K "ties" "Web.ties" dE f fd) (T:lD mg) (TC:o_ K mg C):aw P w K mg base ax 1 f fd ["self"] (Ap C fun T _=>T):=by
 refine F.ok Z1 (fun _ _ _ _ h=>?_) fun _ A _ s H _ Q E hr h=>?_
 ·obtain ⟨p,_,_,_,_,rfl,_⟩:=h;rfl
 ·obtain ⟨p,n,la,rT,rF,rfl,⟨dx,ta,fa,hp,⟨ps,R⟩,_⟩,k⟩:=h;refine ⟨_,az (c7 (vo AS (by rfl) T.list (by decide+kernel) (cw (cS (pv 0) rfl)))),?_⟩;refine ⟨_,rfl,p,C,dx,_,_,rfl,hp,TC.cl,TC.nT,Vm _ _ _ _,ta,_,rfl,.inl (ay.of R.1),fun l hl=>?_⟩;exact k l _ hl (bj hl) ⟨ps,aq,(R.same (bj hl)).2⟩
theorem oN (F:gc K "falls" "Web.falls" dj f fd) (T:lD mg) (TC:o_ K mg C):aw P w K mg base ax 1 f fd ["self"] (Ap C fun _ F=>F):=by
 refine F.ok Z2 (fun _ _ _ _ h=>?_) fun _ A _ s H _ Q E hr h=>?_
 ·obtain ⟨p,_,_,_,_,rfl,_⟩:=h;rfl
 ·obtain ⟨p,n,la,rT,rF,rfl,⟨dx,ta,fa,hp,_,⟨ps,R⟩⟩,k⟩:=h;refine ⟨_,az (c7 (vo AS (by rfl) T.list (by decide+kernel) (cw (cS (pv 0) rfl)))),?_⟩;refine ⟨_,rfl,p,C,dx,_,_,rfl,hp,TC.cl,TC.nF,OH _ _ _ _,fa,_,rfl,.inl (ay.of R.1),fun l hl=>?_⟩;exact k l _ hl (bj hl) ⟨ps,aq,(R.same (bj hl)).2⟩
end Y0
namespace L2
open PySem PySem.Spec PyProof.Rows
theorem wZ {l l':List α} {m m':List β} (h:Paired F l m) (h':Paired F l' m'):Paired F (l++l') (m++m'):=by
 induction h with
 | nil=>exact h'
 | cons r t ih=>exact .cons r ih
theorem e_.cat (h1:e_ H a ps r) (h2:e_ H b qs s) (hp:H p=none):e_ (upd H p (.lst (ps.map V.ref++qs.map V.ref))) p (ps++qs) (r++s):=
 ⟨by rw [aq,eJ],wZ (h1.same (bj hp)).2 (h2.same (bj hp)).2⟩
theorem e_.more (h:e_ H l ps rows) (s:aM H0 H) (hl:H0 l=none) (hp:H p=none):
 e_ (upd (upd H p (.tup (r.map V.int))) l (.lst (ps.map V.ref++[.ref p]))) l (ps++[p]) (rows++[r])/\aM H0 (upd (upd H p (.tup (r.map V.int))) l (.lst (ps.map V.ref++[.ref p])))/\upd H p (.tup (r.map V.int)) l=some (.lst (ps.map V.ref)):=by
 have R:=h.same (bj (o:=.tup (r.map V.int)) hp);refine ⟨R.push aq,fun b o e=>?_,R.1⟩;rw [au (aO e hl),au (aO (s _ _ e) hp)];exact s _ _ e
end L2
namespace Y0
open PySem L2
noncomputable def jL (la:Int):Nat->List (List Int)
 | 0=>[]
 | k+1=>jL la k++[[0,(k:Int)+1,la],[(k:Int)+1,0,0]]
theorem vq (la:Int):∀k,(jL la k).length=2*k
 | 0=>rfl
 | k+1=>by unfold jL;rw [gR,vq la k];rfl
noncomputable def TR:List Int->List (List Int)
 | [a,b,l,m]=>[[a,b,m],[b,a,-l]]
 | _=>[]
noncomputable def jM (rows:List (List Int)):List (List Int):=(rows.map TR).flatten
noncomputable def uT (rows:List (List Int)):Prop:=∀r∈rows,∃a b l m:Int,r=[a,b,l,m]
theorem tK:∀{rows:List (List Int)},uT rows->(jM rows).length=2*rows.length
 | [],_=>rfl
 | r::t,h=>by
  obtain ⟨a,b,l,m,rfl⟩:=h _ iu;have ih:=tK (rows:=t) fun r hr=>h r (jl _ hr);unfold jM at ih ⊢;rw [fU,List.flatten_cons,gR,ih,lT];show 2+2*t.length=2*(t.length+1);lia
theorem di.om (h:di n la T F):uT T:=fun r hr=>by
 obtain ⟨a,b,l,m,e,_⟩:=h.t r hr;exact ⟨a,b,l,m,e⟩
theorem di.l7 (h:di n la T F):uT F:=fun r hr=>by
 obtain ⟨a,b,l,m,e,_⟩:=h.f r hr;exact ⟨a,b,l,m,e⟩
noncomputable def iM (n la:Int) (T F:List (List Int)):List (List Int):=jL la (n-1).toNat++jM T++jM F
structure Y5 (mg:Str->Option Value):Prop where
 range:mg "range"=none
noncomputable def Na (C:Addr):Sp:=fun vs H Q _=>∃p n la T F,vs=[.ref p]/\kM C H p n la T F/\1<=n/\n<=8/\∀l H',H l=none->aM H H'->fz H' l (jL la (n-1).toNat)->Q (.ref l) H'
noncomputable def Nd:Sp:=fun vs H Q _=>∃a rows,vs=[.ref a]/\fz H a rows/\uT rows/\rows.length<=100/\∀l H',H l=none->aM H H'->fz H' l (jM rows)->Q (.ref l) H'
noncomputable def Ni (C:Addr):Sp:=fun vs H Q _=>∃p a n la T F T',vs=[.ref p,.ref a]/\kM C H p n la T F/\di n la T F/\fz H a T'/\uT T'/\T'.length<=100/\∀l H',H l=none->aM H H'->fz H' l (iM n la T' F)->Q (.ref l) H'
noncomputable def Nh (C:Addr):Sp:=fun vs H Q _=>∃p n la T F,vs=[.ref p]/\kM C H p n la T F/\di n la T F/\∀l H',H l=none->aM H H'->fz H' l (iM n la T F)->Q (.ref l) H'
theorem Hh:cF ["web","bounds","moment"] ["web"] (aZ cM):=cT
theorem ud (F:Fn K mg "room_bounds" cM ["web"] f fd) (T:Y5 mg) (TC:o_ K mg C):aw P w K mg base ax 1 f fd ["web"] (Na C):=by
 refine F.F.ok Hh (fun _ _ _ _ h=>?_) fun _ A _ s H _ Q E hr h=>?_
 ·obtain ⟨p,_,_,_,_,rfl,_⟩:=h;rfl
 ·obtain ⟨p,n,la,rT,rF,rfl,⟨dx,ta,fa,hp,_,_⟩,n1,n2,k⟩:=h;refine ⟨_,cC (cI 1 Hh.nd (jN nH))
   (cC (iP PassesOwn.never rfl (PB rfl T.range (cf aH (cS (pv 0) rfl))) (cj 2 Hh.nd)
    (cC (gB (px pU pT rG pC (pv 1) (cw (eU (gD aH (pv 2) (cS (pv 0) rfl))))))
    (az (gB (px pU pT rG pC (pv 1) (cw (eU (gD (pv 2) aH aH))))))))
   (az (c7 (pv 1)))),?_⟩
  refine ⟨dM _,fun l hl=>?_⟩;have s0:=bj (o:=.lst []) hl;refine ⟨_,rfl,p,C,dx,_,_,rfl,s0 _ _ hp,TC.cl,TC.nM,Dn _ _ _ _,1,n,rfl,⟨by decide,by decide,by lia,by lia⟩,?_⟩;refine zq (n:=(n-1).toNat) (fun i aa H'=>∃v ps,aa=[some (.ref p),some (.ref l),v]/\e_ H' l ps (jL la i)/\aM H H') ⟨none,[],rfl,⟨aq,.nil⟩,s0⟩ ?_ ?_
  ·rintro i aa H1 hi ⟨v,ps,rfl,R1,s1⟩;have small:∀j:Nat,j<=20->j<sizeLine:=fun j hj=>fi (by lia);refine ⟨_,rfl,.inl ⟨rfl,_,ay.of R1.1⟩,_,rfl,_,rfl,p,C,dx,_,_,rfl,s1 _ _ hp,TC.cl,TC.nL,Vl _ _ _ _,eW rfl,fun p1 fq=>?_⟩;obtain ⟨R2,s2,e2⟩:=R1.more (r:=[0,1+(i:Int),la]) s1 hl fq;refine ⟨l,_,_,rfl,rfl,e2,?_,?_⟩
   ·rw [a7,R1.len,vq];exact small _ (by omega)
   refine ⟨_,rfl,.inl ⟨rfl,_,ay.of R2.1⟩,_,rfl,eW rfl,fun p2 gz=>?_⟩;obtain ⟨R3,s3,e3⟩:=R2.more (r:=[1+(i:Int),0,0]) s2 hl gz;refine ⟨l,_,_,rfl,rfl,e3,?_,?_⟩
   ·rw [a7,R2.len,gR,vq];exact small _ (by simp;omega)
   refine ⟨_,ps++[p1]++[p2],rfl,?_,s3⟩;have e:jL la (i+1)=jL la i++[[0,1+(i:Int),la]]++[[1+(i:Int),0,0]]:=by
    rw [List.append_assoc,Int.add_comm 1 (i:Int)];rfl
   rw [e];exact R3
  ·rintro aa H1 ⟨v,ps,rfl,R1,s1⟩;exact ⟨_,rfl,k l _ hl s1 ⟨ps,R1⟩⟩
noncomputable abbrev nSb:List Str:=["spans","bounds","one","other","least","most"]
theorem yP:cF nSb ["spans"] (aZ cL):=cT
theorem ua (F:Fn K mg "span_bounds" cL ["spans"] f fd):aw P w K mg base ax 1 f fd ["spans"] Nd:=by
 refine F.F.ok yP (fun _ _ _ _ h=>?_) fun _ A _ s H _ Q E hr h=>?_
 ·obtain ⟨a,_,rfl,_⟩:=h;rfl
 ·obtain ⟨a,rows,rfl,⟨qs,R⟩,h4,hlen,k⟩:=h;refine ⟨_,cC (cI 1 yP.nd (jN nH))
   (cC (iP PassesOwn.never rfl (gA (pv 0))
    (yZ rfl (eL (cj 2 yP.nd) (eL (cj 3 yP.nd) (eL (cj 4 yP.nd) (eL (cj 5 yP.nd) qg)))))
    (cC (gB (px pU pT rG pC (pv 1) (cw (eU (gD (pv 2) (pv 3) (pv 5))))))
    (az (gB (px pU pT rG pC (pv 1) (cw (eU (gD (pv 3) (pv 2) (yX zc (pv 4))))))))))
   (az (c7 (pv 1)))),?_⟩
  refine ⟨dM _,fun l hl=>?_⟩;have s0:=bj (o:=.lst []) hl;refine ⟨_,rfl,a,rfl,⟨_,ay.of (s0 _ _ R.1)⟩,kO (K:=K) (a:=a) (xs:=qs.map V.ref) (fun i aa H'=>∃v1 v2 v3 v4 ps,aa=[some (.ref a),some (.ref l),v1,v2,v3,v4]/\e_ H' l ps (jM (rows.take i))/\aM H H') ⟨none,none,none,none,[],rfl,⟨aq,.nil⟩,s0⟩ ?_ ?_ ?_⟩
  ·rintro i aa H1 _ ⟨v1,v2,v3,v4,ps,rfl,R1,s1⟩;exact ay.of (s1 _ _ R.1)
  ·rintro i x aa H1 hx ⟨v1,v2,v3,v4,ps,rfl,R1,s1⟩;obtain ⟨q,r,rfl,hq,bo,jq⟩:=R.get hx;obtain ⟨a',b',le,mo,e4⟩:=h4 r (dZ bo);subst e4;have hi:i<rows.length:=(ff.mp bo).1;have mS:uT (rows.take i):=fun r hr=>h4 r (List.mem_of_mem_take hr);have qZ:(jM (rows.take i)).length<=200:=by rw [tK mS,iA];lia
   refine ⟨q,_,rfl,dz.of (s1 _ _ jq),rfl,_,_,rfl,_,_,rfl,_,_,rfl,_,_,rfl,rfl,?_⟩;refine ⟨_,rfl,.inl ⟨rfl,_,ay.of R1.1⟩,_,rfl,_,rfl,_,rfl,eW rfl,fun p1 fq=>?_⟩;obtain ⟨R2,s2,e2⟩:=R1.more (r:=[a',b',mo]) s1 hl fq;refine ⟨l,_,_,rfl,rfl,e2,?_,?_⟩
   ·rw [a7,R1.len];exact fi (by lia)
   refine ⟨_,rfl,.inl ⟨rfl,_,ay.of R2.1⟩,_,rfl,_,rfl,_,rfl,_,rfl,eW rfl,fun p2 gz=>?_⟩;obtain ⟨R3,s3,e3⟩:=R2.more (r:=[b',a',-le]) s2 hl gz;refine ⟨l,_,_,rfl,rfl,e3,?_,?_⟩
   ·rw [a7,R2.len,gR];exact fi (by simp;lia)
   refine ⟨_,_,_,_,ps++[p1]++[p2],rfl,?_,s3⟩;have e:jM (rows.take (i+1))=jM (rows.take i)++[[a',b',mo]]++[[b',a',-le]]:=by
    unfold jM;rw [jC,bo,eJ,List.flatten_append,List.append_assoc];rfl
   rw [e];exact R3
  ·rintro aa H1 ⟨v1,v2,v3,v4,ps,rfl,R1,s1⟩;have hle:rows.take (qs.map V.ref).length=rows:=by
    rw [a7,R.len];exact ir
   rw [hle] at R1;exact ⟨_,rfl,k l _ hl s1 ⟨ps,R1⟩⟩
theorem Z0:cF ["web","ties"] ["web","ties"] (aZ cN):=cT
theorem tW (F:Fn K mg "bounds_with" cN ["web","ties"] f fd) (TC:o_ K mg C)
 (FR:Fn K mg "room_bounds" cM ["web"] fR fdR) (GR:aw P w K mg base ax 1 fR fdR ["web"] (Na C))
 (FS:Fn K mg "span_bounds" cL ["spans"] fS LW) (GS:aw P w K mg base ax 1 fS LW ["spans"] Nd)
 (mF:gq K C "falls" fM) (bF:dP K Cg ["self"] []) (GF:aw P w K mg base ax 1 fM Cg ["self"] (Ap C fun _ F=>F)):aw P w K mg base ax 2 f fd ["web","ties"] (Ni C):=by
 refine F.F.ok Z0 (fun _ _ _ _ h=>?_) fun _ A _ s H _ Q E hr h=>?_
 ·obtain ⟨p,a,_,_,_,_,_,rfl,_⟩:=h;rfl
 ·obtain ⟨p,a,n,la,rT,rF,T',rfl,W0,ae,RT,SG,zL,k⟩:=h;refine ⟨_,az (c7 (cG yY (cG yY (cO GR hr FR (cw (pv 0))) (cO GS hr FS (cw (pv 1))))
   (cO GS hr FS (cw (vw (pv 0) TC.cl mF GF hr bF .nil ee))))),?_⟩
  refine ⟨_,rfl,p,n,la,rT,rF,rfl,W0,ae.n1,ae.n2,fun l1 H1 qZ s1 R1=>?_⟩;refine ⟨_,rfl,a,T',rfl,RT.same s1,SG,zL,fun l2 H2 yi s2 R2=>?_⟩;obtain ⟨Bg,Mm⟩:=R1.same s2;obtain ⟨EZ,R2⟩:=R2;have e1:=Mm.len;have e2:=R2.len;rw [vq] at e1;rw [tK SG] at e2;have n2:=ae.n2;refine ⟨l1,l2,_,_,rfl,rfl,Mm.1,R2.1,?_,fun l3 pJ=>?_⟩
  ·rw [a7,a7];exact bx (fi (by lia))
  have R3:=Mm.cat R2 pJ;have s3:=bj (o:=.lst (Bg.map V.ref++EZ.map V.ref)) pJ;have oA:=(s1.trans s2).trans s3;obtain ⟨dx,ta,fa,hp,_,_⟩:=id (W0.same oA);refine ⟨_,rfl,p,dx,_,rfl,hp,CU _ _ _ _ (by decide+kernel) (by decide+kernel) (by decide+kernel) (by decide+kernel),p,n,la,rT,rF,rfl,W0.same oA,fun l4 H4 BF s4 R4=>?_⟩;refine ⟨l4,rF,rfl,R4,ae.l7,by have:=ae.fl;lia,fun l5 H5 Lk s5 R5=>?_⟩;have Tv:=(R3.same s4).same s5;obtain ⟨ps5,R5⟩:=R5;have e5:=R5.len;rw [tK ae.l7] at e5;have fl:=ae.fl;refine ⟨l3,l5,_,_,rfl,rfl,Tv.1,R5.1,?_,fun l6 Fs=>?_⟩
  ·rw [a7,a7,gR];exact bx (fi (by lia))
  have Rx:=(oA.trans s4).trans s5;exact k l6 _ (Rx.free Fs) (Rx.trans (bj Fs)) ⟨_,Tv.cat R5 Fs⟩
theorem Zk:cF ["web"] ["web"] (aZ cK):=cT
theorem tX (F:Fn K mg "told_bounds" cK ["web"] f fd) (TC:o_ K mg C)
 (FB:Fn K mg "bounds_with" cN ["web","ties"] fB sM) (GB:aw P w K mg base ax 2 fB sM ["web","ties"] (Ni C))
 (mT:gq K C "ties" fM) (bT:dP K Cg ["self"] []) (GT:aw P w K mg base ax 1 fM Cg ["self"] (Ap C fun T _=>T)):aw P w K mg base ax 3 f fd ["web"] (Nh C):=by
 refine F.F.ok Zk (fun _ _ _ _ h=>?_) fun _ A _ s H _ Q E hr h=>?_
 ·obtain ⟨p,_,_,_,_,rfl,_⟩:=h;rfl
 ·obtain ⟨p,n,la,rT,rF,rfl,W0,ae,k⟩:=h;have gE:dn 1 _:=hr.mono (by decide);refine ⟨_,az (c7 (cO GB hr FB (cf (pv 0) (vw (pv 0) TC.cl mT GT gE bT .nil ee)))),?_⟩;obtain ⟨dx,ta,fa,hp,_,_⟩:=id W0;refine ⟨_,rfl,_,rfl,p,dx,_,rfl,hp,CU _ _ _ _ (by decide+kernel) (by decide+kernel) (by decide+kernel) (by decide+kernel),p,n,la,rT,rF,rfl,W0,fun l1 H1 qZ s1 R1=>?_⟩;exact ⟨p,l1,n,la,rT,rF,rT,rfl,W0.same s1,ae,R1,ae.om,by have:=ae.tl;lia,fun l H' hl s' R=>k l H' (s1.free hl) (s1.trans s') R⟩
end Y0
namespace L2
open PySem PySem.Spec PyProof.Rows
section
variable {κ:Type} [DecidableEq κ]
noncomputable def eK (kvs:List (κ×V)) (k:κ):Option V:=(kvs.find? fun kv=>decide (kv.1=k)).map (·.2)
noncomputable def eT (kvs:List (κ×V)) (k:κ) (v:V):List (κ×V):=
 if (kvs.any fun kv=>decide (kv.1=k))=true then kvs.map (fun kv=>if kv.1=k then (kv.1,v) else kv) else kvs++[(k,v)]
theorem qj {p:κ×V} {r:List (κ×V)} {k:κ} (e:p.1=k):eK (p::r) k=some p.2:=by simp [eK,List.find?_cons,e]
theorem qi {p:κ×V} {r:List (κ×V)} {k:κ} (e:¬p.1=k):eK (p::r) k=eK r k:=by simp [eK,List.find?_cons,e]
theorem wX (k:κ):∀kvs:List (κ×V),(kvs.any fun kv=>decide (kv.1=k))=(eK kvs k).isSome
 | []=>rfl
 | p::r=>by
  rw [List.any_cons]
  by_cases e:p.1=k
  ·simp only [qj e,eQ e,Bool.true_or,Option.isSome_some]
  ·rw [qi e,eP e,Bool.false_or];exact wX k r
theorem Pm (k j:κ) (y:V):∀kvs:List (κ×V),eK (kvs.map fun kv=>if kv.1=k then (kv.1,y) else kv) j=(eK kvs j).map fun x=>if j=k then y else x
 | []=>rfl
 | p::r=>by
  have ih:=Pm k j y r;rw [fU]
  by_cases h:p.1=k
  ·rw [if_pos h]
   by_cases e:p.1=j
   ·rw [qj (p:=(p.1,y)) e,qj e,Option.map_some,if_pos (e.symm.trans h)]
   ·rw [qi (p:=(p.1,y)) e,qi e,ih]
  ·rw [if_neg h]
   by_cases e:p.1=j
   ·rw [qj (p:=p) e,qj e,Option.map_some,if_neg (fun z=>h (e.trans z))]
   ·rw [qi (p:=p) e,qi e,ih]
theorem Ql (k j:κ) (y:V):∀kvs:List (κ×V),eK kvs k=none->eK (kvs++[(k,y)]) j=if j=k then some y else eK kvs j
 | [],_=>by
  by_cases e:k=j
  ·rw [if_pos e.symm];exact qj (p:=(k,y)) e
  ·rw [if_neg (fun z=>e z.symm)];exact qi (p:=(k,y)) e
 | p::r,hn=>by
  rw [List.cons_append];have hk:¬p.1=k:=fun z=>by rw [qj z] at hn;cases hn
  rw [qi hk] at hn;have ih:=Ql k j y r hn
  by_cases e:p.1=j
  ·rw [qj e,qj e,if_neg (fun z=>hk (e.trans z))]
  ·rw [qi e,qi e,ih]
theorem AK (kvs:List (κ×V)) (k j:κ) (y:V):eK (eT kvs k y) j=if j=k then some y else eK kvs j:=by
 unfold eT
 by_cases a:(kvs.any fun kv=>decide (kv.1=k))=true
 ·rw [if_pos a,Pm];rw [wX] at a
  by_cases e:j=k
  ·obtain ⟨x,hx⟩:=Option.isSome_iff_exists.mp a;rw [if_pos e,e,hx,Option.map_some,if_pos rfl]
  ·rw [if_neg e]
   cases eK kvs j with
   | none=>rfl
   | some x=>rw [Option.map_some,if_neg e]
 ·rw [if_neg a];refine Ql k j y kvs ?_;rw [wX] at a
  cases q:eK kvs k with
  | none=>rfl
  | some x=>rw [q] at a;exact (a rfl).elim
theorem zw (kvs:List (κ×V)) (k:κ) (v:V):(eT kvs k v).length<=kvs.length+1:=by
 unfold eT;split
 ·rw [a7];exact Nat.le.step Nat.le.refl
 ·rw [gR,lT,List.length_nil];exact Nat.le.refl
theorem lE.dW (r:lE o u):o.isSome=u.isSome:=by
 cases o with
 | none=>cases u with
  | none=>rfl
  | some _=>exact (show False from r).elim
 | some _=>cases u with
  | none=>exact (show False from r).elim
  | some _=>rfl
theorem KV.val {kvs:List (κ×V)} {vs:List (κ×Value)} (r:KV kvs vs) (k:κ):lE (eK kvs k) (valueAt vs k):=by
 unfold KV at r
 induction r with
 | nil=>exact True.intro
 | @cons p q ps qs h t ih=>
  obtain ⟨h1,h2⟩:=h
  by_cases e:p.1=k
  ·have e':q.1=k:=h1.symm.trans e;have b:valueAt (q::qs) k=some q.2:=by simp [valueAt,List.find?_cons,e']
   rw [qj e,b];exact h2
  ·have e':¬q.1=k:=fun z=>e (h1.trans z);have b:valueAt (q::qs) k=valueAt qs k:=by simp [valueAt,List.find?_cons,e']
   rw [qi e,b];exact ih
theorem KV.any (r:KV kvs vs) (k:κ):(kvs.any fun kv=>decide (kv.1=k))=vs.any fun kv=>decide (kv.1=k):=by
 unfold KV at r
 induction r with
 | nil=>rfl
 | cons h t ih=>rw [List.any_cons,List.any_cons,ih,h.1]
theorem KV.xr (r:KV kvs vs) (k:κ) (ry:cx y u):
 KV (kvs.map fun kv=>if kv.1=k then (kv.1,y) else kv) (vs.map fun kv=>if kv.1=k then (kv.1,u) else kv):=by
 unfold KV at r ⊢
 induction r with
 | nil=>exact .nil
 | @cons p q ps qs h t ih=>
  rw [fU,fU];refine .cons ?_ ih;obtain ⟨h1,h2⟩:=h
  by_cases e:p.1=k
  ·rw [if_pos e,if_pos (h1.symm.trans e)];exact ⟨h1,ry⟩
  ·rw [if_neg e,if_neg (fun z=>e (h1.trans z))];exact ⟨h1,h2⟩
theorem KV.put (r:KV kvs vs) (k:κ) (ry:cx y u):KV (eT kvs k y) (stored vs k u):=by
 unfold eT stored;rw [r.any k]
 by_cases e:(vs.any fun kv=>decide (kv.1=k))=true
 ·rw [if_pos e,if_pos e];exact r.xr k ry
 ·rw [if_neg e,if_neg e];exact Paired.snoc r ⟨rfl,ry⟩
theorem KV.length (r:KV kvs vs):kvs.length=vs.length:=Paired.length r
end
theorem yV {P:Program} {w:World} (r:cx (kV k) u):(lK P w).is k u=true:=by
 cases k with
 | inl i=>obtain ⟨t,e⟩:=(show ∃t,u=Value.int i t from r);subst e;exact Yf P w i t
 | inr x=>obtain ⟨t,e⟩:=(show ∃t,u=Value.str x t from r);subst e;exact Yg P w x t
theorem P6 {P:Program} {w:World}:∀{ks:List Key} {us:List Value},bw (ks.map kV) us->ItemsAre (lK P w) ks us
 | [],_,r=>by rw [List.map_nil] at r;cases r;exact .nil
 | k::ks,_,r=>by
  rw [fU] at r
  cases r with
  | cons h t=>exact .cons (yV h) (P6 t)
noncomputable abbrev KT (H:Hp):List (List Key×V)->List (List Key×Addr×Value)->Prop:=Paired fun p q=>p.1=q.1/\H q.2.1=some (.tup (p.1.map kV))/\cx p.2 q.2.2
theorem KT.val {H:Hp} {kvs:List (List Key×V)} {xs:List (List Key×Addr×Value)} (r:KT H kvs xs) (k:List Key):lE (eK kvs k) ((atKey xs k).map (·.2)):=by
 induction r with
 | nil=>exact True.intro
 | @cons p q ps qs h t ih=>
  obtain ⟨h1,_,h2⟩:=h
  by_cases e:p.1=k
  ·have e':q.1=k:=h1.symm.trans e;have b:atKey (q::qs) k=some q.2:=by simp [atKey,List.find?_cons,e']
   rw [qj e,b];exact h2
  ·have e':¬q.1=k:=fun z=>e (h1.trans z);have b:atKey (q::qs) k=atKey qs k:=by simp [atKey,List.find?_cons,e']
   rw [qi e,b];exact ih
theorem KT.xr (r:KT H kvs xs) (k:List Key) (ry:cx y u):
 KT H (kvs.map fun kv=>if kv.1=k then (kv.1,y) else kv) (xs.map (putAt k u)):=by
 induction r with
 | nil=>exact .nil
 | @cons p q ps qs h t ih=>
  rw [fU,fU];refine .cons ?_ ih;obtain ⟨h1,h2,h3⟩:=h;unfold putAt
  by_cases e:p.1=k
  ·rw [if_pos e,if_pos (h1.symm.trans e)];exact ⟨h1,h2,ry⟩
  ·rw [if_neg e,if_neg (fun z=>e (h1.trans z))];exact ⟨h1,h2,h3⟩
theorem KT.put (r:KT H kvs xs) (k:List Key) (hb:H b=some (.tup (k.map kV))) (ry:cx y u):
 KT H (eT kvs k y) (storedH xs k b u):=by
 have e:(kvs.any fun kv=>decide (kv.1=k))=(atKey xs k).isSome:=by
  rw [wX,(r.val k).dW,Option.isSome_map]
 unfold eT storedH;rw [e]
 by_cases q:(atKey xs k).isSome=true
 ·rw [if_pos q,if_pos q];exact r.xr k ry
 ·rw [if_neg q,if_neg q];exact Paired.snoc r ⟨rfl,hb,ry⟩
theorem KT.keeps (r:KT H kvs xs) (ht:∀b ys,H b=some (.tup ys)->H' b=some (.tup ys)):KT H' kvs xs:=
 Paired.xF r fun _ _ z=>⟨z.1,ht _ _ z.2.1,z.2.2⟩
section
variable {P:Program} {w:World} {H:Hp} {h:Heap} {a:Addr}
theorem MC (ok:d_ P w H h) (e:Rd H a u):fv P w H h a u:=e.ok ok
theorem An (ok:d_ P w H h) (e:Rd H a (.dK kvs)):kvs.length<=sizeLine/\(a==sysModules)=false/\∃vs,KV kvs vs/\h.DictOf (lK P w) a vs:=
 show fv P w H h a (.dK kvs) from MC ok e
theorem M6 (ok:d_ P w H h) (e:H a=some (.dK kvs)):kvs.length<=sizeLine/\(a==sysModules)=false/\∃vs,KV kvs vs/\h.DictOf (lK P w) a vs:=An ok (.inl e)
theorem As (ok:d_ P w H h) (e:H a=some (.tup (ks.map kV))):(tupleKind (lK P w)).is h ks a:=by
 obtain ⟨_,its,r,o,h1,h2,n,h3⟩:=(show fv P w H h a (.tup (ks.map kV)) from ok a _ e);exact ⟨o,its.toArray,n,h1,h2,h3,by simpa using P6 r⟩
theorem Ao (ok:d_ P w H h) (e:Rd H a (.dT kvs)):kvs.length<=sizeLine/\(a==sysModules)=false/\
 ∃xs,KT H kvs xs/\h.DictOfH (tupleKind (lK P w)) a xs:=by
 obtain ⟨z,y,xs,r,o,es,ep,h1,h2,h3,h4,h5⟩:=(show fv P w H h a (.dT kvs) from MC ok e);refine ⟨z,y,xs,r,o,es,ep,h1,h2,h3,h4,fun x hx=>?_,h5⟩;have all:∀{l:List (List Key×V)} {m:List (List Key×Addr×Value)},KT H l m->∀x∈m,(tupleKind (lK P w)).is h x.1 x.2.1:=by
  intro l m q
  induction q with
  | nil=>intro x hx;exact nomatch hx
  | @cons p q ps qs hq t ih=>
   intro x hx;rcases iJ.mp hx with e | hx
   ·subst e;exact As ok (by rw [<-hq.1];exact hq.2.1)
   ·exact ih x hx
 exact all r x hx
theorem ZI (ok:d_ P w H h) (e:H a=some (.dT kvs)):kvs.length<=sizeLine/\(a==sysModules)=false/\
 ∃xs,KT H kvs xs/\h.DictOfH (tupleKind (lK P w)) a xs:=Ao ok (.inl e)
end
noncomputable def eS (H:Hp) (a:Addr) (y:V) (r:Option V):Prop:=
 (∃kvs k,Rd H a (.dK kvs)/\y=kV k/\r=eK kvs k)\/∃kvs k b,Rd H a (.dT kvs)/\y=.ref b/\H b=some (.tup (k.map kV))/\r=eK kvs k
noncomputable def rL (H:Hp) (a:Addr) (y v:V) (H':Hp):Prop:=
 (∃kvs k,H a=some (.dK kvs)/\y=kV k/\kvs.length<sizeLine/\H'=upd H a (.dK (eT kvs k v)))\/
 ∃kvs k b,H a=some (.dT kvs)/\y=.ref b/\H b=some (.tup (k.map kV))/\kvs.length<sizeLine/\H'=upd H a (.dT (eT kvs k v))
theorem eS.k {H:Hp} {a:Addr} {kvs:List (Key×V)} {k:Key} (e:H a=some (.dK kvs)):eS H a (kV k) (eK kvs k):=.inl ⟨kvs,k,.inl e,rfl,rfl⟩
theorem eS.t {H:Hp} {a b:Addr} {kvs:List (List Key×V)} {k:List Key} (e:H a=some (.dT kvs)) (eb:H b=some (.tup (k.map kV))):eS H a (.ref b) (eK kvs k):=.inr ⟨kvs,k,b,.inl e,rfl,eb,rfl⟩
theorem rL.k {H:Hp} {a:Addr} {kvs:List (Key×V)} {k:Key} {v:V} (e:H a=some (.dK kvs)) (hl:kvs.length<sizeLine):rL H a (kV k) v (upd H a (.dK (eT kvs k v))):=.inl ⟨kvs,k,e,rfl,hl,rfl⟩
theorem rL.t {H:Hp} {a b:Addr} {kvs:List (List Key×V)} {k:List Key} {v:V} (e:H a=some (.dT kvs)) (eb:H b=some (.tup (k.map kV))) (hl:kvs.length<sizeLine):
 rL H a (.ref b) v (upd H a (.dT (eT kvs k v))):=.inr ⟨kvs,k,b,e,rfl,eb,hl,rfl⟩
section
variable {X:Cx} {pins:List (Addr×Obj)} {σ:St} {H:Hp} {s:Shared} {a:Addr} {y v:V} {u r:Value} {o:Option V} {A:Around} {E:Value->Shared->Prop}
theorem Inv.big (I:Inv X pins σ H s):sysModules<s.heap.objs.size:=by
 have h:mainGlobals<s.heap.objs.size:=(I.mod.glob.keeps I.bk).lt;exact Nat.lt_trans (by decide) h
theorem Xx (hu:A.units+1<cLine) (I:Inv X pins σ H s) (g:eS H a y (some v)) (ry:cx y u) (h:∀w' s',Inv X pins σ H s'->cx v w'->Q w' s'):
 wpAny (model X.prog X.w) A (getItem (.ref a) u) Q E s:=by
 rcases g with ⟨kvs,k,e,ey,l⟩ | ⟨kvs,k,b,e,ey,eb,l⟩
 ·subst ey;obtain ⟨z,hd,vs,rel,dd⟩:=An I.ae e;obtain ⟨w',hw,tS⟩:=lE.some_of (v:=v) (o:=valueAt vs k) (by rw [l];exact rel.val k);exact wpAny_getItem_of (yV ry) dd.mapOf hw (h w' _ (I.tok _) tS)
 ·subst ey;cases (show u=Value.ref b from ry);obtain ⟨z,hd,xs,rel,dd⟩:=Ao I.ae e;obtain ⟨w',hw,tS⟩:=lE.some_of (v:=v) (o:=(atKey xs k).map (·.2)) (by rw [l];exact rel.val k);obtain ⟨p,hp,gz⟩:=Option.map_eq_some_iff.mp hw;refine wpAny_getItem_heap (tupleKind_room_in1 hu) (As I.ae eb) dd hp ?_;rw [gz];exact h w' _ (I.tok _) tS
theorem Y9 (hu:A.units+1<cLine) (I:Inv X pins σ H s) (g:eS H a y o) (ry:cx y u) (h:∀s',Inv X pins σ H s'->Q (.bool o.isSome) s'):
 wpAny (model X.prog X.w) A (compareOp .In u (.ref a)) Q E s:=by
 rcases g with ⟨kvs,k,e,ey,l⟩ | ⟨kvs,k,b,e,ey,eb,l⟩
 ·subst ey;obtain ⟨z,hd,vs,rel,dd⟩:=An I.ae e;refine wpAny_in_of (yV ry) hd dd.mapOf ?_;rw [<-(rel.val k).dW,<-l];exact h _ (I.tok _)
 ·subst ey;cases (show u=Value.ref b from ry);obtain ⟨z,hd,xs,rel,dd⟩:=Ao I.ae e;refine wpAny_in_heap (tupleKind_room_in1 hu) (As I.ae eb) hd dd ?_;have q:=(rel.val k).dW;rw [Option.isSome_map] at q;rw [<-q,<-l];exact h _ (I.tok _)
theorem VJ (hu:A.units+1<cLine) (I:Inv X pins σ H s) (g:eS H a y o) (ry:cx y u) (h:∀s',Inv X pins σ H s'->Q (.bool (!o.isSome)) s'):
 wpAny (model X.prog X.w) A (compareOp .NotIn u (.ref a)) Q E s:=by
 rcases g with ⟨kvs,k,e,ey,l⟩ | ⟨kvs,k,b,e,ey,eb,l⟩
 ·subst ey;obtain ⟨z,hd,vs,rel,dd⟩:=An I.ae e;refine wpAny_notIn_of (yV ry) hd dd.mapOf ?_;rw [<-(rel.val k).dW,<-l];exact h _ (I.tok _)
 ·subst ey;cases (show u=Value.ref b from ry);obtain ⟨z,hd,xs,rel,dd⟩:=Ao I.ae e;refine wpAny_notIn_heap (tupleKind_room_in1 hu) (As I.ae eb) hd dd ?_;have q:=(rel.val k).dW;rw [Option.isSome_map] at q;rw [<-q,<-l];exact h _ (I.tok _)
theorem Il (I:Inv X pins σ H s) (mu:zW (H a)) (hs:Heap.SameBut a s.heap h') (he:∃q,h'.get? a=some q) (new:fv X.prog X.w (upd H a ob) h' a ob):
 Inv X pins σ (upd H a ob) { s with heap:=h',toks:=t' }:=
 I.write (x:=a) (e:=a) mu (.inl rfl) (fun b q hb z=>(hs.2 b hb).trans z) he new
theorem MQ {P:Program} {w:World} (z:kvs.length<=sizeLine) (hd:(a==sysModules)=false) (rel:KV kvs vs) (dd:h'.DictOf (lK P w) a vs):
 fv P w H' h' a (.dK kvs):=⟨z,hd,vs,rel,dd⟩
theorem Xy (hu:A.units+1<cLine) (I:Inv X pins σ H s) (g:rL H a y v H') (ry:cx y u) (rv:cx v r) (h:∀s',Inv X pins σ H' s'->Q () s'):
 wpAny (model X.prog X.w) A (setItem (.ref a) u r) Q E s:=by
 rcases g with ⟨kvs,k,e,ey,l,eH⟩ | ⟨kvs,k,b,e,ey,eb,l,eH⟩
 ·subst ey eH;obtain ⟨z,hd,vs,rel,dd⟩:=M6 I.ae e;have hz:vs.length<=sizeLine:=by rw [<-rel.length];exact z
  have hl:(eT kvs k v).length<=sizeLine:=by have:=zw kvs k v;lia
  refine wpAny_setItem_pairs (hsz:=hz) (yV ry) dd fun h' yC hs=>h _ ?_;have he:∃q,h'.get? a=some q:=let ⟨q,_,_,hq,_⟩:=yC;⟨q,hq⟩;exact Il I (by rw [e];exact True.intro) hs he (MQ hl hd (rel.put k rv) yC)
 ·subst ey eH;cases (show u=Value.ref b from ry);obtain ⟨z,hd,xs,rel,dd⟩:=ZI I.ae e;have hz:xs.length<=sizeLine:=by rw [<-Paired.length rel];exact z
  have hl:(eT kvs k v).length<=sizeLine:=by have:=zw kvs k v;lia
  refine wpAny_setItem_heap (hsz:=hz) (tupleKind_room_in1 hu) (As I.ae eb) dd fun h' yC hs=>h _ ?_;obtain ⟨q,es,ep,hq,h2,h3,h4,_,h5⟩:=yC;refine Il I (by rw [e];exact True.intro) hs ⟨q,hq⟩ ⟨hl,hd,_,(rel.put k eb rv).keeps fun c ys ec=>?_,q,es,ep,hq,h2,h3,h4,h5⟩;rw [au (aQ ec e nofun)];exact ec
end
section
variable {X:Cx} {pins:List (Addr×Obj)} {σ:St} {H:Hp} {s:Shared} {a:Addr} {kvs:List (Key×V)} {k:Key} {u:Value} {A:Around} {E:Value->Shared->Prop}
end
noncomputable def QO (i:Expr):Prop:=∀ov iv,subscripted i false ov iv=operate [ov,iv] (getItem ov iv)
theorem VS {prog:Program} {w:World} {A:Around} {E:Value->Shared->Prop} {s:Shared} {env:Env} {value slice:Expr} {pos:Pos} {T id:String} {Q:Value->Shared->Prop}
 (hl:typeLookup (.type T) "__getitem__"=pure (some (.builtin id))) (hs:QO slice)
 (h:wpAny (model prog w) A (eval value env) (fun o aJ=>wpAny (model prog w) A (eval slice env) (fun i gv=>gv.TypeIs o T/\wpAny (model prog w) A (getItem o i) Q E gv) E aJ) E s):
 wpAny (model prog w) A (eval (.Subscript value slice pos) env) Q E s:=by
 refine Subscript_ (wpAny_mono h (fun o aJ eG=>wpAny_mono eG (fun i gv ja=>?_) fun _ _ x=>x) fun _ _ x=>x);obtain ⟨hT,ja⟩:=ja;unfold subscriptTail;refine aj ?_;rw [getitemInPython_of_ne hT.not_modules];refine aj (wpAny_specialOf hT hl ?_);have fin:wpAny (model prog w) A (subscripted slice false o i) (fun r jA=>wpAny (model prog w) A (letTemporaryGo value o r>>=fun _=>pure r) Q E jA) E gv:=by
  rw [hs o i];exact wpAny_operating (wpAny_mono ja (fun r jA u4=>aj (wpAny_letTemporaryGo (bz u4))) fun _ _ x=>x)
 first
  | exact bz (aj fin)
  | exact aj (bz (aj fin))
  | exact aj fin
theorem Ym (I:Inv X pins σ H s) (g:eS H a y o):s.TypeIs (.ref a) "dict":=by
 rcases g with ⟨kvs,k,e,_,_⟩ | ⟨kvs,k,b,e,_,_,_⟩
 ·obtain ⟨_,_,vs,_,dd⟩:=An I.ae e;exact dd.typeIs
 ·obtain ⟨_,_,xs,_,dd⟩:=Ao I.ae e;exact dd.typeIs
noncomputable def TX (td ty:TE):TE:=fun σ H Q=>td σ H fun x H1=>ty σ H1 fun y H2=>∃a v,x=.ref a/\eS H2 a y (some v)/\Q v H2
noncomputable def Zr (ty td:TE):TE:=fun σ H Q=>ty σ H fun y H1=>td σ H1 fun x H2=>∃a o,x=.ref a/\eS H2 a y o/\Q (.bl o.isSome) H2
noncomputable def VW (ty td:TE):TE:=fun σ H Q=>ty σ H fun y H1=>td σ H1 fun x H2=>∃a o,x=.ref a/\eS H2 a y o/\Q (.bl (!o.isSome)) H2
noncomputable def TN (td ty tv:TE):TS:=fun D σ H=>tv σ H fun v H1=>td σ H1 fun x H2=>ty σ H2 fun y H3=>∃a H4,x=.ref a/\rL H3 a y v H4/\D.nx σ H4
section
variable {X:Cx} {o i e value:Expr} {pos pos' AX:Pos} {td ty tv:TE}
theorem kD (hu:X.A.units+1<cLine) (ho:PE X o td) (hi:PE X i ty) (hs:QO i):PE X (.Subscript o i pos) (TX td ty):=by
 intro pins s σ H Q I h;refine VS PySem.F.slot_dict_getitem.lookup hs (aA (ho pins s σ H _ I h) fun u s1 zz=>L2.ft zz fun x H1 I1 rx q1=>aA (hi pins s1 σ H1 _ I1 q1) fun iv s2 zz=>?_);obtain ⟨y,H2,I2,ry,a,v,ex,g,q2⟩:=zz;subst ex;obtain rfl:u=Value.ref a:=rx;exact ⟨Ym I2 g,Xx hu I2 g ry fun w' s3 I3 tS=>⟨v,H2,I3,tS,q2⟩⟩
theorem HM (hu:X.A.units+1<cLine) (hi:PE X i ty) (ho:PE X o td):PC X .In i o (Zr ty td):=by
 intro pins s σ H Q I h;refine aA (hi pins s σ H _ I h) fun iv s1 zz=>L2.ft zz fun y H1 I1 ry q1=>aA (ho pins s1 σ H1 _ I1 q1) fun u s2 zz=>?_;obtain ⟨x,H2,I2,rx,a,ov,ex,g,q2⟩:=zz;subst ex;obtain rfl:u=Value.ref a:=rx;exact Y9 hu I2 g ry fun s3 I3=>⟨.bl ov.isSome,H2,I3,rfl,q2⟩
theorem AR (hu:X.A.units+1<cLine) (hi:PE X i ty) (ho:PE X o td):PC X .NotIn i o (VW ty td):=by
 intro pins s σ H Q I h;refine aA (hi pins s σ H _ I h) fun iv s1 zz=>L2.ft zz fun y H1 I1 ry q1=>aA (ho pins s1 σ H1 _ I1 q1) fun u s2 zz=>?_;obtain ⟨x,H2,I2,rx,a,ov,ex,g,q2⟩:=zz;subst ex;obtain rfl:u=Value.ref a:=rx;exact VJ hu I2 g ry fun s3 I3=>⟨.bl (!ov.isSome),H2,I3,rfl,q2⟩
theorem DA (hu:X.A.units+1<cLine) (ho:PE X o td) (hi:PE X i ty) (hv:PE X value tv) (hs:swapsWith value (some (.Subscript o i pos')) pos.line X.env=pure false):
 PS X (.Assign [.Subscript o i pos'] value pos) (TN td ty tv):=by
 intro pins s σ H D I h;refine wpAny_Assign_Subscript (aA (hv pins s σ H _ I h) fun r s1 zz=>L2.ft zz fun v H1 I1 rv q1=>aA (ho pins s1 σ H1 _ I1 q1) fun u s2 zz=>L2.ft zz fun x H2 I2 rx q2=>aA (hi pins s2 σ H2 _ I2 q2) fun iv s3 zz=>?_) hs;obtain ⟨y,H3,I3,ry,a,H4,ex,g,q3⟩:=zz;subst ex;obtain rfl:u=Value.ref a:=rx;exact Xy hu I3 g ry rv fun s4 I4=>⟨σ,H4,I4,q3⟩
end
theorem OR {P:Program} {w:World} (h:Heap) (hb:sysModules<h.objs.size):fv P w H (h.push { cls:=.type "dict",data:=.dict #[] }) h.objs.size (.dK []):=
 ⟨dM _,beq_eq_false_iff_ne.mpr (bp (gG hb)),[],.nil,Heap.DictOf.new h⟩
theorem WM {P:Program} {w:World} (h:Heap) (hb:sysModules<h.objs.size):fv P w H (h.push { cls:=.type "dict",data:=.dict #[] }) h.objs.size (.dT []):=
 ⟨dM _,beq_eq_false_iff_ne.mpr (bp (gG hb)),[],.nil,_,#[],0,jI _ rfl,⟨rfl,rfl,rfl⟩,rfl,rfl,List.nodup_nil⟩
noncomputable def Vg:TE:=fun _ H Q=>∀p,H p=none->Q (.ref p) (upd H p (.dK []))
noncomputable def Vh:TE:=fun _ H Q=>∀p,H p=none->Q (.ref p) (upd H p (.dT []))
section
variable {X:Cx} {pos:Pos}
theorem Px:PE X (.Dict [] [] pos) Vg:=fun pins s σ H Q I h=>
 wpAny_Dict_empty ⟨.ref s.heap.objs.size,_,I.laid (a:=s.heap.objs.size) (o:=.dK []) (t':=s.toks) (fun _ _ q=>eI _ q) (aF _) (OR s.heap I.big),rfl,h _ (I.ae.fresh (aF _))⟩
theorem WG:PE X (.Dict [] [] pos) Vh:=fun pins s σ H Q I h=>
 wpAny_Dict_empty ⟨.ref s.heap.objs.size,_,I.laid (a:=s.heap.objs.size) (o:=.dT []) (t':=s.toks) (fun _ _ q=>eI _ q) (aF _) (WM s.heap I.big),rfl,h _ (I.ae.fresh (aF _))⟩
end
noncomputable def HP:List (TE×TE)->St->Hp->(List (V×V)->Hp->Prop)->Prop
 | [],_,H,Q=>Q [] H
 | (tk,tv)::r,σ,H,Q=>tk σ H fun x H1=>tv σ H1 fun y H2=>HP r σ H2 fun ps H3=>Q ((x,y)::ps) H3
noncomputable abbrev VV:List (V×V)->List (Value×Value)->Prop:=Paired fun p q=>cx p.1 q.1/\cx p.2 q.2
noncomputable def GY (X:Cx) (pos:Pos) (keys:List (Option Expr)) (values:List Expr) (xf:List (TE×TE)):Prop:=
 ∀(pins:List (Addr×Obj)) (s:Shared) (σ:St) (H:Hp) (Q:List (V×V)->Hp->Prop),Inv X pins σ H s->HP xf σ H Q->
  wpAny (model X.prog X.w) X.A (evalPairs (pairTrees keys values X.env pos)) (fun vs s'=>∃ps H',Inv X pins σ H' s'/\VV ps vs/\Q ps H') X.xe s
theorem VG:GY X pos [] [] []:=fun pins s σ H Q I h=>pairTrees_nil_walk ⟨[],H,I,.nil,h⟩
theorem WK (hk:PE X k tk) (hv:PE X v tv) (hr:GY X pos ks vs xf):
 GY X pos (some k::ks) (v::vs) ((tk,tv)::xf):=fun pins s σ H Q I h=>
 pairTrees_cons_walk (aA (hk pins s σ H _ I h) fun u s1 zz=>L2.ft zz fun x H1 I1 rx q1=>aA (hv pins s1 σ H1 _ I1 q1) fun w2 s2 zz=>L2.ft zz fun y H2 I2 ry q2=>
  aA (hr pins s2 σ H2 _ I2 q2) fun ws s3 zz=>L2.ft zz fun ps H3 I3 rel q3=>⟨(x,y)::ps,H3,I3,.cons ⟨rx,ry⟩ rel,q3⟩)
noncomputable def ve (kvs more:List (Key×V)):List (Key×V):=more.foldl (fun acc kv=>eT acc kv.1 kv.2) kvs
theorem KV.merge:∀{more:List (Key×V)} {rs:List (Key×Value)} {kvs:List (Key×V)} {vs:List (Key×Value)},KV more rs->KV kvs vs->KV (ve kvs more) (merged vs rs):=by
 intro more rs kvs vs r;unfold KV at r
 induction r generalizing kvs vs with
 | nil=>intro q;exact q
 | @cons p q ps qs h t ih=>
  intro r0;have e:KV (eT kvs p.1 p.2) (stored vs q.1 q.2):=by
   have:=r0.put p.1 h.2;rw [<-h.1];exact this
  exact ih e
theorem QK:∀(more kvs:List (Key×V)),(ve kvs more).length<=kvs.length+more.length
 | [],kvs=>by show kvs.length<=kvs.length+0;exact Nat.le.refl
 | p::r,kvs=>by
  have h1:=QK r (eT kvs p.1 p.2);have h2:=zw kvs p.1 p.2;show (ve (eT kvs p.1 p.2) r).length<=_;rw [lT];lia
theorem Qo {P:Program} {w:World}:∀{kvs:List (Key×V)} {ws:List (Value×Value)},VV (kvs.map fun kv=>(kV kv.1,kv.2)) ws->∃rs,Carries (lK P w) ws rs/\KV kvs rs
 | [],_,r=>by rw [List.map_nil] at r;cases r;exact ⟨[],True.intro,.nil⟩
 | p::kvs,_,r=>by
  rw [fU] at r
  cases r with
  | @cons a b as bs h t=>
   obtain ⟨rs,c,q⟩:=Qo (P:=P) (w:=w) t;obtain ⟨b1,b2⟩:=b;exact ⟨(p.1,b2)::rs,⟨yV h.1,rfl,c⟩,.cons ⟨rfl,h.2⟩ q⟩
noncomputable def TY (xf:List (TE×TE)):TE:=fun σ H Q=>∀p,H p=none->HP xf σ (upd H p (.dK [])) fun ps H2=>H2 p=some (.dK [])/\∃kvs:List (Key×V),ps=kvs.map (fun kv=>(kV kv.1,kv.2))/\kvs.length<=15/\Q (.ref p) (upd H2 p (.dK (ve [] kvs)))
theorem VD (h:GY X pos keys values xf) (bP:keys.all (·.isSome)=true) (hl:keys.length=values.length) (h0:keys≠[])
 (h15:keys.length<=15):PE X (.Dict keys values pos) (TY xf):=by
 intro pins s σ H Q I q;have hn:=I.ae.fresh (aF s.heap.objs.size);have I1:=I.laid (a:=s.heap.objs.size) (o:=.dK []) (h':=s.heap.push { cls:=.type "dict",data:=.dict #[] }) (t':=s.toks) (fun _ _ q=>eI _ q) (aF _) (OR s.heap I.big);refine wpAny_Dict_walk (knd:=lK X.prog X.w) bP hl h0 h15 (aA (h pins _ σ _ _ I1 (q _ hn)) fun ws s2 zz=>?_);obtain ⟨ps,H2,I2,rel,e,kvs,ep,lk,q2⟩:=zz;subst ep;obtain ⟨rs,c,rk⟩:=Qo (P:=X.prog) (w:=X.w) rel;obtain ⟨z,hd,vs0,r0,dd⟩:=M6 I2.ae e;cases r0;refine ⟨rs,c,dd,fun h' yC hs=>⟨.ref s.heap.objs.size,_,?_,rfl,q2⟩⟩;have hz:(ve [] kvs).length<=sizeLine:=by
  have h1:=QK kvs [];rw [List.length_nil] at h1;rw [sizeLine_eq];lia
 have he:∃q,h'.get? s.heap.objs.size=some q:=let ⟨q,_,_,hq,_⟩:=yC;⟨q,hq⟩;exact Il I2 (by rw [e];exact True.intro) hs he (MQ hz hd (rk.merge .nil) yC)
structure M1 (X:Cx) (o:Expr) (m:Str) (apos:Pos) (e:Expr) (g7:Pos):Prop where
 base:attributeBase o m X.env (eval o X.env)=eval o X.env
 m_:((backTo g7 (starEach [e] X.env)).all (fun x=> !x.1) && (backToKw g7 (keywordEach [] X.env)).all (fun x=>x.1.isSome)
  && decide (([e]:List Expr).length+([]:List Keyword).length+(if ([]:List Keyword).isEmpty then 0 else 1)<30))=true
 line:(apos.endLine==g7.line)=true
 trees:backTo g7 (starEach [e] X.env)=[(false,eval e X.env)]
section
variable {X:Cx} {pins:List (Addr×Obj)} {σ:St} {H:Hp} {s:Shared} {a:Addr} {y d:V} {u r:Value} {o:Option V} {A:Around} {E:Value->Shared->Prop}
end
section
variable {X:Cx} {o e f:Expr} {apos g7:Pos} {td ty tx:TE}
end
section
variable {X:Cx} {pins:List (Addr×Obj)} {σ:St} {H:Hp} {s:Shared} {a:Addr} {kvs:List (Key×V)} {A:Around} {E:Value->Shared->Prop}
end
section
variable {X:Cx} {pins:List (Addr×Obj)} {σ:St} {H:Hp} {s:Shared} {a:Addr} {y:V} {u:Value} {A:Around} {E:Value->Shared->Prop}
end
end L2
namespace MT
variable {n:Nat} {m:Nat->Nat->Nat->Option Int} {pt:Nat->Nat->Nat->Prop} {low:Int}
end MT
namespace MU
structure ao where
 tie:Bool
 a:Nat
 b:Nat
 v:Int
inductive Wd where
 | told | sum | aV | b5 | sure | back | a8
structure Row where
 cP:ao
 word:Wd
 used:List Nat
noncomputable abbrev Key:=Bool×Nat×Nat
noncomputable def ao.key (w:ao):Key:=(w.tie,w.a,w.b)
structure St where
 rows:List Row
 best:Key->Option Nat
 bar:Option Nat
noncomputable abbrev cv:=Nat->Option (Nat×Int×Int)
noncomputable def ah (st:St) (i:Nat):Option ao:=(st.rows[i]?).map (·.cP)
noncomputable def val (st:St) (k:Key):Option Int:=(st.best k).bind fun i=>(ah st i).map (·.v)
noncomputable def eA (tie:Bool) (v u:Int):Prop:=if tie=true then v<u else u<v
theorem Yi (h1:eA b x y) (h2:eA b y z):eA b x z:=by
 unfold eA at*;cases b<;>simp_all<;>lia
theorem IW (h1:¬eA b x y) (h2:¬eA b y z):¬eA b x z:=by
 unfold eA at*;cases b<;>simp_all<;>lia
theorem Qn (h:eA b x y):¬eA b y x:=by
 unfold eA at*;cases b<;>simp_all<;>exact gm h
noncomputable def hV (st:St) (w:ao):Prop:=if w.tie=true/\w.a=w.b then w.v<0 else ∀u,val st w.key=some u->eA w.tie w.v u
noncomputable def iL (w:ao):Prop:=w.tie=true/\w.a=w.b/\w.v<0
noncomputable instance (w:ao):Decidable (iL w):=by unfold iL;infer_instance
open Classical in
noncomputable instance (st:St) (w:ao):Decidable (hV st w):=propDecidable _
noncomputable def take (st:St) (w:ao) (word:Wd) (used:List Nat):St:=
 if hV st w then { rows:=st.rows++[⟨w,word,used⟩],best:=fun k=>if k=w.key then some st.rows.length else st.best k,bar:=if st.bar=none/\iL w then some st.rows.length else st.bar } else st
noncomputable def aI (p q:ao):Option ao:=if p.tie=true/\q.tie=true/\p.b=q.a then some ⟨true,p.a,q.b,p.v+q.v⟩ else none
noncomputable def d8 (F:cv) (p:ao):Option ao:=if p.tie=true/\p.a≠p.b then (F p.b).map fun f=>⟨false,p.a,p.b,f.2.2-p.v⟩ else none
noncomputable def dC (F:cv) (p:ao):Option ao:=if p.tie=true/\p.a≠p.b/\p.v<0 then (F p.a).map fun f=>⟨true,f.1,p.b,f.2.1+p.v⟩ else none
noncomputable def dH (F:cv) (p:ao):Option ao:=if p.tie=false then (F p.b).map fun f=>⟨true,p.a,f.1,-min p.v f.2.1⟩ else none
noncomputable def bq (F:cv) (p q:ao):Option ao:=if p.tie=false/\q.tie=true/\q.b=p.a/\q.a≠p.b then (F p.b).map fun f=>⟨false,q.a,p.b,min p.v f.2.2-q.v⟩ else none
noncomputable def d7 (F:cv) (p:ao):Option ao:=if p.tie=false/\p.a≠p.b/\0<p.v then (F p.a).bind fun o=>(F p.b).map fun f=>⟨false,o.1,p.b,min p.v f.2.2-o.2.1⟩ else none
noncomputable def put (st:St) (o:Option ao) (word:Wd) (used:List Nat):St:=match o with
 | some w=>take st w word used
 | none=>st
noncomputable def aP (f:ao->Option ao) (word:Wd) (i:Nat) (st:St):St:=put st ((ah st i).bind f) word [i]
noncomputable def ar (f:ao->ao->Option ao) (word:Wd) (i j:Nat) (st:St):St:=put st ((ah st i).bind fun p=>(ah st j).bind fun q=>f p q) word [i,j]
noncomputable def cZ (n:Nat) (st:St) (tie:Bool) (a:Nat):List Nat:=(List.range n).filterMap fun b=>st.best (tie,a,b)
noncomputable def dI (n:Nat) (st:St) (b:Nat):List Nat:=(List.range n).filterMap fun a=>st.best (true,a,b)
noncomputable def eV (n:Nat) (F:cv) (at_ a b:Nat) (JP:St):St:=
 let gC:=aP (d8 F) .aV at_ JP
 let ba:=aP (dC F) .b5 at_ gC
 let cD:=(cZ n ba true b).foldl (fun st j=>ar aI .sum at_ j st) ba
 let cJ:=(dI n cD a).foldl (fun st j=>ar aI .sum j at_ st) cD
 (cZ n cJ false b).foldl (fun st j=>ar (bq F) .back j at_ st) cJ
noncomputable def fX (n:Nat) (F:cv) (at_ a:Nat) (JP:St):St:=
 let gC:=aP (dH F) .sure at_ JP
 let ba:=aP (d7 F) .a8 at_ gC
 (dI n ba a).foldl (fun st j=>ar (bq F) .back at_ j st) ba
noncomputable def look (n:Nat) (F:cv) (at_:Nat) (st:St):St:=match ah st at_ with
 | some w=>if st.best w.key=some at_ then (if w.tie=true then eV n F at_ w.a w.b st else fX n F at_ w.a st) else st
 | none=>st
noncomputable def run (n:Nat) (F:cv) (st:St):Nat->St
 | 0=>st
 | t+1=>look n F t (run n F st t)
structure Ext (s s':St):Prop where
 rows:∃more,s'.rows=s.rows++more
 best:∀k,s'.best k=s.best k\/∃j,s'.best k=some j/\s.rows.length<=j
 bar:s.bar≠none->s'.bar≠none
structure cy (n:Nat) (s:St):Prop where
 at_:∀k i,s.best k=some i->∃w,ah s i=some w/\w.key=k
 top:∀i w,ah s i=some w->∃j,i<=j/\s.best w.key=some j
 lt:∀i w,ah s i=some w->w.a<n/\w.b<n
 ne:s.bar=none->∀i w,ah s i=some w->w.a≠w.b
 drop:s.bar=none->∀i j w w',ah s i=some w->ah s j=some w'->w.key=w'.key->i<j->eA w.tie w'.v w.v
theorem nI {w:ao} (h:ah s i=some w):i<s.rows.length:=by
 unfold ah at h
 cases q:s.rows[i]? with
 | none=>rw [q] at h;cases h
 | some r=>exact (ff.mp q).1
theorem c8 {w:ao} (e:Ext s s') (h:ah s i=some w):ah s' i=some w:=by
 obtain ⟨more,hm⟩:=e.rows;have hi:=nI h;unfold ah at h ⊢;rw [hm,pR hi];exact h
theorem Ext.refl (s:St):Ext s s:=⟨⟨[],by simp⟩,fun _=>.inl rfl,fun h=>h⟩
theorem Ext.len (e:Ext s s'):s.rows.length<=s'.rows.length:=by
 obtain ⟨more,hm⟩:=e.rows;rw [hm,gR];lia
theorem Ext.trans (x:Ext a b) (y:Ext b c):Ext a c:=by
 refine ⟨?_,fun k=>?_,fun h=>y.bar (x.bar h)⟩
 ·obtain ⟨m1,h1⟩:=x.rows;obtain ⟨m2,h2⟩:=y.rows;exact ⟨m1++m2,by rw [h2,h1,List.append_assoc]⟩
 ·rcases y.best k with h | ⟨j,h,hj⟩
  ·rcases x.best k with h' | ⟨j,h',hj⟩
   ·exact .inl (h.trans h')
   ·exact .inr ⟨j,h.trans h',hj⟩
  ·exact .inr ⟨j,h,dY x.len hj⟩
theorem AJ (st:St) (w:ao) (word:Wd) (used:List Nat):Ext st (take st w word used):=by
 unfold take;split
 ·refine ⟨⟨_,rfl⟩,fun k=>?_,fun h=>?_⟩
  ·show (if k=w.key then some st.rows.length else st.best k)=_\/∃j,(if k=w.key then some st.rows.length else st.best k)=some j/\_
   by_cases e:k=w.key
   ·rw [if_pos e];exact .inr ⟨_,rfl,aF _⟩
   ·rw [if_neg e];exact .inl rfl
  ·show (if st.bar=none/\iL w then some st.rows.length else st.bar)≠none;rw [if_neg fun z=>h z.1];exact h
 ·exact Ext.refl st
theorem zj {w:ao} (h:ah ⟨rows++[r],best,bar⟩ i=some w):(i<rows.length/\(rows[i]?).map (·.cP)=some w)\/(i=rows.length/\w=r.cP):=by
 unfold ah at h
 by_cases c:i<rows.length
 ·left;refine ⟨c,?_⟩;have h:((rows++[r])[i]?).map (·.cP)=some w:=h
  rwa [pR c] at h
 ·right;have h:((rows++[r])[i]?).map (·.cP)=some w:=h;rw [oY (by exact lU c)] at h
  cases q:i-rows.length with
  | zero=>rw [q] at h;exact ⟨by lia,by cases h;rfl⟩
  | succ z=>rw [q] at h;cases h
theorem Qh {w:ao} (g:cy n st) (ha:w.a<n) (hb:w.b<n) (hw:w.tie=false->w.a≠w.b):cy n (take st w word used):=by
 unfold take;split
 next hn=>
  have old:∀{i u},ah st i=some u->ah { rows:=st.rows++[⟨w,word,used⟩],best:=fun k=>if k=w.key then some st.rows.length else st.best k,bar:=if st.bar=none/\iL w then some st.rows.length else st.bar } i=some u:=fun {i u} h=>by
   have hi:=nI h;unfold ah at h ⊢;rw [pR hi];exact h
  have new:ah { rows:=st.rows++[⟨w,word,used⟩],best:=fun k=>if k=w.key then some st.rows.length else st.best k,bar:=if st.bar=none/\iL w then some st.rows.length else st.bar } st.rows.length=some w:=by
   unfold ah;rw [oY (aF _),Nat.sub_self];rfl
  have nb:(if st.bar=none/\iL w then some st.rows.length else st.bar)=none->st.bar=none/\¬iL w:=fun h=>by
   by_cases c:st.bar=none/\iL w
   ·rw [if_pos c] at h;cases h
   ·rw [if_neg c] at h;exact ⟨h,fun z=>c ⟨h,z⟩⟩
  have Rm:¬iL w->w.a≠w.b:=fun hb e=>by
   cases ht:w.tie with
   | false=>exact hw ht e
   | true=>
    unfold hV at hn;rw [if_pos ⟨ht,e⟩] at hn;exact hb ⟨ht,e,hn⟩
  refine ⟨fun k i h=>?_,fun i u h=>?_,fun i u h=>?_,fun h0 i u h=>?_,fun h0 i j u u' h h' hk gj=>?_⟩
  ·have h:(if k=w.key then some st.rows.length else st.best k)=some i:=h
   by_cases c:k=w.key
   ·rw [if_pos c] at h;cases h;exact ⟨w,new,c.symm⟩
   ·rw [if_neg c] at h;obtain ⟨u,hu,hk⟩:=g.at_ k i h;exact ⟨u,old hu,hk⟩
  ·show ∃j,i<=j/\(if u.key=w.key then some st.rows.length else st.best u.key)=some j;rcases zj h with ⟨hi,hu⟩ | ⟨hi,rfl⟩
   ·by_cases c:u.key=w.key
    ·rw [if_pos c];exact ⟨_,bx hi,rfl⟩
    ·rw [if_neg c];exact g.top i u hu
   ·rw [if_pos rfl];exact ⟨_,Nat.le_of_eq hi,rfl⟩
  ·rcases zj h with ⟨_,hu⟩ | ⟨_,rfl⟩
   ·exact g.lt i u hu
   ·exact ⟨ha,hb⟩
  ·obtain ⟨b0,b1⟩:=nb h0;rcases zj h with ⟨_,hu⟩ | ⟨_,rfl⟩
   ·exact g.ne b0 i u hu
   ·exact Rm b1
  ·obtain ⟨b0,b1⟩:=nb h0;rcases zj h' with ⟨hj,kG⟩ | ⟨hj,e'⟩
   ·rcases zj h with ⟨_,hu⟩ | ⟨hi,_⟩
    ·exact g.drop b0 i j u u' hu kG hk gj
    ·lia
   ·have e':u'=w:=e';rw [e'] at hk ⊢;rcases zj h with ⟨hi,hu⟩ | ⟨hi,_⟩
    ·
     have hu:ah st i=some u:=hu;obtain ⟨j0,hij0,dG⟩:=g.top i u hu;obtain ⟨u0,Fj,hk0⟩:=g.at_ _ _ dG;have hv:val st w.key=some u0.v:=by
      unfold val;have hk:u.key=w.key:=hk;rw [<-hk,dG];show (ah st j0).map (·.v)=_;rw [Fj];rfl
     unfold hV at hn;rw [if_neg fun z=>Rm b1 z.2] at hn;have h1:=hn _ hv;have ht:u.tie=w.tie:=congrArg Prod.fst hk;rw [ht]
     by_cases c:i=j0
     ·subst c;rw [hu] at Fj;cases Fj;exact h1
     ·have h2:=g.drop b0 i j0 u u0 hu Fj hk0.symm (by lia);rw [ht] at h2;exact Yi h1 h2
    ·lia
 next=>exact g
theorem tE (st:St) (o:Option ao) (word:Wd) (used:List Nat):Ext st (put st o word used):=by
 cases o with
 | none=>exact Ext.refl st
 | some w=>exact AJ st w word used
noncomputable def Imp (s s':St):Prop:=Ext s s'/\∀k u,k.2.1≠k.2.2->val s k=some u->∃u',val s' k=some u'/\¬eA k.1 u u'
theorem z6 (b:Bool) (u:Int):¬eA b u u:=by unfold eA;split<;>exact Int.not_lt.mpr (Int.le_refl u)
theorem Imp.refl (s:St):Imp s s:=⟨Ext.refl s,fun k u _ h=>⟨u,h,z6 _ _⟩⟩
theorem Imp.trans (x:Imp a b) (y:Imp b c):Imp a c:=by
 refine ⟨x.1.trans y.1,fun k u hk h=>?_⟩;obtain ⟨u1,h1,n1⟩:=x.2 k u hk h;obtain ⟨u2,h2,n2⟩:=y.2 k u1 hk h1;exact ⟨u2,h2,IW n1 n2⟩
theorem pB {w:ao} (h:s.best k=some i) (hw:ah s i=some w):val s k=some w.v:=by
 unfold val;rw [h];show (ah s i).map (·.v)=_;rw [hw];rfl
theorem DI {w:ao} (h:hV st w):val (take st w word used) w.key=some w.v/\ah (take st w word used) st.rows.length=some w/\(take st w word used).rows.length=st.rows.length+1:=by
 have e:take st w word used={ rows:=st.rows++[⟨w,word,used⟩],best:=fun k=>if k=w.key then some st.rows.length else st.best k,bar:=if st.bar=none/\iL w then some st.rows.length else st.bar }:=by
  unfold take;rw [if_pos h]
 have hw:ah (take st w word used) st.rows.length=some w:=by
  rw [e];unfold ah;rw [oY (aF _),Nat.sub_self];rfl
 refine ⟨pB (i:=st.rows.length) (by rw [e];show (if w.key=w.key then some st.rows.length else st.best w.key)=_;rw [if_pos rfl]) hw,hw,?_⟩;rw [e];show (st.rows++[_]).length=_;rw [gR];rfl
theorem wW {w:ao} (h:¬hV st w):take st w word used=st:=by
 unfold take;rw [if_neg h]
theorem XB {w:ao} (hk:k≠w.key) (h:val st k=some u):val (take st w word used) k=some u:=by
 by_cases c:hV st w
 ·have e:=AJ st w word used;unfold val at h ⊢;have hb:(take st w word used).best k=st.best k:=by
   unfold take;rw [if_pos c];show (if k=w.key then some st.rows.length else st.best k)=_;rw [if_neg hk]
  rw [hb]
  cases q:st.best k with
  | none=>rw [q] at h;cases h
  | some i=>
   rw [q] at h;have h:(ah st i).map (·.v)=some u:=h;show (ah (take st w word used) i).map (·.v)=some u
   cases q2:ah st i with
   | none=>rw [q2] at h;cases h
   | some r=>rw [c8 e q2];rw [q2] at h;exact h
 ·rw [wW c];exact h
theorem Pk (st:St) (w:ao) (word:Wd) (used:List Nat):Imp st (take st w word used):=by
 refine ⟨AJ st w word used,fun k u hk h=>?_⟩
 by_cases c:k=w.key
 ·by_cases hn:hV st w
  ·have h2:=hn;unfold hV at h2;have:¬(w.tie=true/\w.a=w.b):=fun z=>hk (by rw [c];exact z.2);rw [if_neg this] at h2;have h3:=h2 u (by rw [<-c];exact h);refine ⟨w.v,by rw [c];exact (DI hn).1,fun z=>?_⟩;rw [c] at z;exact Qn h3 z
  ·rw [wW hn];exact ⟨u,h,z6 _ _⟩
 ·exact ⟨u,XB c h,z6 _ _⟩
theorem EF {w:ao} (h:w.a≠w.b):∃u,val (take st w word used) w.key=some u/\¬eA w.tie w.v u:=by
 by_cases c:hV st w
 ·exact ⟨w.v,(DI c).1,z6 _ _⟩
 ·rw [wW c];unfold hV at c;rw [if_neg fun z=>h z.2] at c;have c:=Classical.not_forall.mp c;obtain ⟨u,hu⟩:=c;have hu:=Classical.not_imp.mp hu;exact ⟨u,hu.1,hu.2⟩
theorem Qf {w:ao} (h:iL w):(take st w word used).bar≠none:=by
 have hn:hV st w:=by
  unfold hV;rw [if_pos ⟨h.1,h.2.1⟩];exact h.2.2
 unfold take;rw [if_pos hn];show (if st.bar=none/\iL w then some st.rows.length else st.bar)≠none
 by_cases c:st.bar=none
 ·rw [if_pos ⟨c,h⟩];simp
 ·rw [if_neg fun z=>c z.1];exact c
theorem NN (st:St) (o:Option ao) (word:Wd) (used:List Nat):Imp st (put st o word used):=by
 cases o with
 | none=>exact Imp.refl st
 | some w=>exact Pk st w word used
theorem dR (hf:∀s j,Imp s (f s j)):∀(l:List Nat) (s:St),Imp s (l.foldl f s)
 | [],s=>Imp.refl s
 | j::l,s=>(hf s j).trans (dR hf l (f s j))
theorem gs (f:ao->Option ao) (word:Wd) (i:Nat) (s:St):Imp s (aP f word i s):=NN ..
theorem cY (f:ao->ao->Option ao) (word:Wd) (i j:Nat) (s:St):Imp s (ar f word i j s):=NN ..
theorem Yp (n:Nat) (F:cv) (at_ a b:Nat) (s:St):Imp s (eV n F at_ a b s):=
 ((((gs _ _ _ _).trans (gs _ _ _ _)).trans (dR (fun _ _=>cY ..) _ _)).trans (dR (fun _ _=>cY ..) _ _)).trans (dR (fun _ _=>cY ..) _ _)
theorem Yu (n:Nat) (F:cv) (at_ a:Nat) (s:St):Imp s (fX n F at_ a s):=
 ((gs _ _ _ _).trans (gs _ _ _ _)).trans (dR (fun _ _=>cY ..) _ _)
theorem vv (n:Nat) (F:cv) (at_:Nat) (s:St):Imp s (look n F at_ s):=by
 unfold look;split
 ·split
  ·split
   ·exact Yp ..
   ·exact Yu ..
  ·exact Imp.refl s
 ·exact Imp.refl s
structure jE (n:Nat) (F:cv) (most:Int):Prop where
 lt:∀e f,F e=some f->f.1<n/\e<n
 own:∀e f,F e=some f->F f.1=none
 num:∀e f,F e=some f->1<=f.2.1/\f.2.1<=f.2.2/\f.2.2<=most
noncomputable def sR (n:Nat) (w:ao):Prop:=w.a<n/\w.b<n/\(w.tie=false->w.a≠w.b)
theorem Iy (g:cy n st) (h:∀w,o=some w->sR n w):cy n (put st o word used):=by
 cases o with
 | none=>exact g
 | some w=>exact Qh g (h w rfl).1 (h w rfl).2.1 (h w rfl).2.2
theorem nG (g:cy n s) (hf:∀p w,p.a<n->p.b<n->f p=some w->sR n w):cy n (aP f word i s):=by
 refine Iy g fun w h=>?_
 cases q:ah s i with
 | none=>rw [q] at h;cases h
 | some p=>
  rw [q] at h;have:=g.lt i p q;exact hf p w this.1 this.2 h
theorem wO (g:cy n s) (hf:∀p q w,p.a<n->p.b<n->q.a<n->q.b<n->f p q=some w->sR n w):cy n (ar f word i j s):=by
 refine Iy g fun w h=>?_
 cases e1:ah s i with
 | none=>rw [e1] at h;cases h
 | some p=>
  rw [e1] at h;have h:(ah s j).bind (fun q=>f p q)=some w:=h
  cases e2:ah s j with
  | none=>rw [e2] at h;cases h
  | some q=>
   rw [e2] at h;have h1:=g.lt i p e1;have h2:=g.lt j q e2;exact hf p q w h1.1 h1.2 h2.1 h2.2 h
theorem vz (hf:∀s j,cy n s->cy n (f s j)):∀(l:List Nat) (s:St),cy n s->cy n (l.foldl f s)
 | [],_,g=>g
 | j::l,s,g=>vz hf l (f s j) (hf s j g)
theorem AA (p q w:ao) (h1:p.a<n) (_:p.b<n) (_:q.a<n) (h4:q.b<n) (h:aI p q=some w):sR n w:=by
 unfold aI at h;split at h
 ·cases h;exact ⟨h1,h4,fun z=>nomatch z⟩
 ·cases h
theorem AF (p w:ao) (h1:p.a<n) (h2:p.b<n) (h:d8 F p=some w):sR n w:=by
 unfold d8 at h;split at h
 next c=>
  cases q:F p.b with
  | none=>rw [q] at h;cases h
  | some f=>rw [q] at h;cases h;exact ⟨h1,h2,fun _=>c.2⟩
 ·cases h
theorem AI (hF:jE n F most) (p w:ao) (_:p.a<n) (h2:p.b<n) (h:dC F p=some w):sR n w:=by
 unfold dC at h;split at h
 ·cases q:F p.a with
  | none=>rw [q] at h;cases h
  | some f=>rw [q] at h;cases h;exact ⟨(hF.lt _ _ q).1,h2,fun z=>nomatch z⟩
 ·cases h
theorem DH (hF:jE n F most) (p w:ao) (h1:p.a<n) (_:p.b<n) (h:dH F p=some w):sR n w:=by
 unfold dH at h;split at h
 ·cases q:F p.b with
  | none=>rw [q] at h;cases h
  | some f=>rw [q] at h;cases h;exact ⟨h1,(hF.lt _ _ q).1,fun z=>nomatch z⟩
 ·cases h
theorem Io (p q w:ao) (_:p.a<n) (h2:p.b<n) (h3:q.a<n) (_:q.b<n) (h:bq F p q=some w):sR n w:=by
 unfold bq at h;split at h
 next c=>
  cases e:F p.b with
  | none=>rw [e] at h;cases h
  | some f=>rw [e] at h;cases h;exact ⟨h3,h2,fun _=>c.2.2.2⟩
 ·cases h
theorem DU (hF:jE n F most) (p w:ao) (_:p.a<n) (h2:p.b<n) (h:d7 F p=some w):sR n w:=by
 unfold d7 at h;split at h
 ·cases e:F p.a with
  | none=>rw [e] at h;cases h
  | some o=>
   rw [e] at h;have h:(F p.b).map (fun f=>(⟨false,o.1,p.b,min p.v f.2.2-o.2.1⟩:ao))=some w:=h
   cases e2:F p.b with
   | none=>rw [e2] at h;cases h
   | some f=>
    rw [e2] at h;cases h;refine ⟨(hF.lt _ _ e).1,h2,fun _ z=>?_⟩;have z:o.1=p.b:=z;have:=hF.own _ _ e;rw [z,e2] at this;cases this
 ·cases h
theorem Xu (hF:jE n F most) (g:cy n s):cy n (look n F at_ s):=by
 unfold look;split
 ·split
  ·split
   ·refine vz (fun _ _ g=>wO g Io) _ _ (vz (fun _ _ g=>wO g AA) _ _ (vz (fun _ _ g=>wO g AA) _ _ (nG (nG g AF) (AI hF))))
   ·exact vz (fun _ _ g=>wO g Io) _ _ (nG (nG g (DH hF)) (DU hF))
  ·exact g
 ·exact g
theorem wV (hF:jE n F most) (g:cy n s):∀t,cy n (run n F s t)
 | 0=>g
 | t+1=>Xu hF (wV hF g t)
noncomputable def Add (C:ao->Prop) (s s':St):Prop:=∀i w,s.rows.length<=i->ah s' i=some w->C w
theorem Add.refl (s:St):Add C s s:=fun i w h e=>absurd (nI e) (by exact Nat.not_lt_of_le h)
theorem Add.trans (x:Add C a b) (e:Ext b c) (y:Add C b c):Add C a c:=fun i w h hw=>by
 by_cases hi:i<b.rows.length
 ·have:∃w',ah b i=some w':=⟨_,by unfold ah;rw [iR hi];rfl⟩;obtain ⟨w',lO⟩:=this;have:=c8 e lO;rw [hw] at this;cases this;exact x i w h lO
 ·exact y i w (by exact lU hi) hw
theorem Pj {w:ao} (h:C w):Add C s (take s w word used):=fun i u hi hu=>by
 by_cases c:hV s w
 ·obtain ⟨_,h1,h2⟩:=DI (word:=word) (used:=used) c;have:=nI hu;have e:i=s.rows.length:=by lia
  rw [e,h1] at hu;cases hu;exact h
 ·rw [wW c] at hu;exact absurd (nI hu) (by exact Nat.not_lt_of_le hi)
theorem tD (h:∀w,o=some w->C w):Add C s (put s o word used):=by
 cases o with
 | none=>exact Add.refl s
 | some w=>exact Pj (h w rfl)
theorem wK (hp:ah s i=some p) (h:∀w,f p=some w->C w):Add C s (aP f word i s):=tD fun w e=>by rw [hp] at e;exact h w e
theorem HA (hp:ah s i=some p) (hq:ah s j=some q) (h:∀w,f p q=some w->C w):Add C s (ar f word i j s):=tD fun w e=>by
 rw [hp] at e;have e:(ah s j).bind (fun q=>f p q)=some w:=e;rw [hq] at e;exact h w e
theorem wY (hf:∀s j,Imp s (f s j)):∀(l:List Nat) (s0 s:St),Imp s0 s->(∀j∈l,∀s1,Imp s0 s1->Add C s1 (f s1 j))->Add C s (l.foldl f s)
 | [],_,s,_,_=>Add.refl s
 | j::l,s0,s,h0,h=>(h j iu s h0).trans (dR hf l (f s j)).1 (wY hf l s0 (f s j) (h0.trans (hf s j)) fun k hk=>h k (jl _ hk))
theorem IH (hf:∀s j,Imp s (f s j)):∀(l:List Nat) (s:St) (j:Nat),j∈l->∃s1,Imp s s1/\Imp (f s1 j) (l.foldl f s)
 | [],_,_,h=>nomatch h
 | k::l,s,j,h=>by
  rcases iJ.mp h with e | h
  ·subst e;exact ⟨s,Imp.refl s,dR hf l (f s j)⟩
  ·obtain ⟨s1,h1,h2⟩:=IH hf l (f s k) j h;exact ⟨s1,(hf s k).trans h1,h2⟩
theorem IJ (h:j∈cZ n st tie a):∃b,b<n/\st.best (tie,a,b)=some j:=by
 obtain ⟨b,hb,e⟩:=List.mem_filterMap.mp h;exact ⟨b,List.mem_range.mp hb,e⟩
theorem EI (h:j∈dI n st b):∃a,a<n/\st.best (true,a,b)=some j:=by
 obtain ⟨a,ha,e⟩:=List.mem_filterMap.mp h;exact ⟨a,List.mem_range.mp ha,e⟩
theorem AB (g:cy n s) (h:val s k=some u):∃i w,s.best k=some i/\ah s i=some w/\w.key=k/\w.v=u:=by
 unfold val at h
 cases q:s.best k with
 | none=>rw [q] at h;cases h
 | some i=>
  obtain ⟨w,hw,hk⟩:=g.at_ k i q;rw [q] at h;have h:(ah s i).map (·.v)=some u:=h;rw [hw] at h;exact ⟨i,w,rfl,hw,hk,gn h⟩
theorem iD {w:ao} {t:Bool} {a b:Nat} (h:w.key=(t,a,b)):w.tie=t/\w.a=a/\w.b=b:=by
 unfold ao.key at h;exact ⟨congrArg Prod.fst h,congrArg (fun z=>z.2.1) h,congrArg (fun z=>z.2.2) h⟩
theorem rY (g:cy n s) (hb:s.bar=none) (h:val s (t,a,b)=some u):a≠b/\a<n/\b<n:=by
 obtain ⟨i,w,_,hw,hk,_⟩:=AB g h;obtain ⟨_,h2,h3⟩:=iD hk;have h4:=g.ne hb i w hw;have h5:=g.lt i w hw;rw [h2,h3] at h4;rw [h2,h3] at h5;exact ⟨h4,h5⟩
theorem OE {n:Nat} {F:cv} {most:Int} (hF:jE n F most) {s:St} (g:cy n s) {at_ a b c:Nat} {p:ao} {u:Int} (hp:ah s at_=some p) (pt:p.tie=true) (pa:p.a=a) (pb:p.b=b) (hu:val s (true,b,c)=some u) (yr:b≠c) (hc:c<n):
 (a≠c->∃x,x<=p.v+u/\val (eV n F at_ a b s) (true,a,c)=some x)/\(a=c->p.v+u<0->(eV n F at_ a b s).bar≠none):=by
 have i2:Imp s (aP (dC F) .b5 at_ (aP (d8 F) .aV at_ s)):=(gs _ _ _ _).trans (gs _ _ _ _);have g2:cy n (aP (dC F) .b5 at_ (aP (d8 F) .aV at_ s)):=nG (nG g AF) (AI hF);unfold eV;dsimp only;generalize aP (dC F) .b5 at_ (aP (d8 F) .aV at_ s)=s2 at*;obtain ⟨u2,xS,nb⟩:=i2.2 (true,b,c) u yr hu;have hle:u2<=u:=by
  unfold eA at nb;simp at nb;exact nb
 obtain ⟨j,q,hj,hq,hqk,hqv⟩:=AB g2 xS;obtain ⟨qt,qa,qb⟩:=iD hqk;have eX:j∈cZ n s2 true b:=List.mem_filterMap.mpr ⟨c,List.mem_range.mpr hc,hj⟩;obtain ⟨s3,i3,Sb⟩:=IH (f:=fun st j=>ar aI .sum at_ j st) (fun _ _=>cY ..) _ s2 j eX;have iG:=c8 (i2.1.trans i3.1) hp;have hq3:=c8 i3.1 hq;have hw:aI p q=some ⟨true,a,c,p.v+u2⟩:=by
  unfold aI;rw [if_pos ⟨pt,qt,by rw [pb,qa]⟩,pa,qb,hqv]
 have hd:ar aI .sum at_ j s3=take s3 ⟨true,a,c,p.v+u2⟩ .sum [at_,j]:=by
  unfold ar;rw [iG];show put s3 ((ah s3 j).bind fun q=>aI p q) .sum [at_,j]=_;rw [hq3];show put s3 (aI p q) .sum [at_,j]=_;rw [hw];rfl
 rw [hd] at Sb;have iZ:=Sb.trans ((dR (f:=fun st j=>ar aI .sum j at_ st) (fun _ _=>cY ..) (dI n ((cZ n s2 true b).foldl (fun st j=>ar aI .sum at_ j st) s2) a) _).trans (dR (f:=fun st j=>ar (bq F) .back j at_ st) (fun _ _=>cY ..) (cZ n ((dI n ((cZ n s2 true b).foldl (fun st j=>ar aI .sum at_ j st) s2) a).foldl (fun st j=>ar aI .sum j at_ st) ((cZ n s2 true b).foldl (fun st j=>ar aI .sum at_ j st) s2)) false b) _));refine ⟨fun wa=>?_,fun wa aW=>?_⟩
 ·obtain ⟨x,hx,nx⟩:=EF (st:=s3) (word:=.sum) (used:=[at_,j]) (w:=⟨true,a,c,p.v+u2⟩) wa;obtain ⟨y,hy,ny⟩:=iZ.2 (true,a,c) x wa hx;refine ⟨y,?_,hy⟩;unfold eA at nx ny;simp at nx ny;lia
 ·exact iZ.1.bar (Qf ⟨rfl,wa,by show p.v+u2<0;lia⟩)
theorem Pn (hF:jE n F most) (g:cy n s) (hp:ah s at_=some p) (pt:p.tie=false) (pa:p.a=a)
 (hB:∀x v,val (fX n F at_ a s) (true,x,a)=some v->-B<=v) (FI:0<=B) (bQ:(fX n F at_ a s).bar=none):
 Add (fun w=>(w.tie=true->-most<=w.v)/\(w.tie=false->w.v<=most+B)) s (fX n F at_ a s):=by
 unfold fX at hB bQ ⊢;dsimp only at hB bQ ⊢;have g1:cy n (aP (dH F) .sure at_ s):=nG g (DH hF);have i1:Imp s (aP (dH F) .sure at_ s):=gs _ _ _ _;have A1:Add (fun w=>(w.tie=true->-most<=w.v)/\(w.tie=false->w.v<=most+B)) s (aP (dH F) .sure at_ s):=wK hp fun w e=>by
  unfold dH at e;rw [if_pos pt] at e
  cases q:F p.b with
  | none=>rw [q] at e;cases e
  | some f=>
   rw [q] at e;cases e;have:=hF.num _ _ q;refine ⟨fun _=>?_,nofun⟩
   show-most<=-min p.v f.2.1
   lia
 generalize aP (dH F) .sure at_ s=s1 at*;have fq:=c8 i1.1 hp;have g2:cy n (aP (d7 F) .a8 at_ s1):=nG g1 (DU hF);have i2:Imp s1 (aP (d7 F) .a8 at_ s1):=gs _ _ _ _;have A2:Add (fun w=>(w.tie=true->-most<=w.v)/\(w.tie=false->w.v<=most+B)) s1 (aP (d7 F) .a8 at_ s1):=wK fq fun w e=>by
  unfold d7 at e;split at e
  ·cases q:F p.a with
   | none=>rw [q] at e;cases e
   | some o=>
    rw [q] at e;have e:(F p.b).map (fun f=>(⟨false,o.1,p.b,min p.v f.2.2-o.2.1⟩:ao))=some w:=e
    cases q2:F p.b with
    | none=>rw [q2] at e;cases e
    | some f=>
     rw [q2] at e;cases e;have h1:=hF.num _ _ q;have h2:=hF.num _ _ q2;refine ⟨nofun,fun _=>?_⟩;show min p.v f.2.2-o.2.1<=most+B;omega
  ·cases e
 generalize aP (d7 F) .a8 at_ s1=s2 at*;have gz:=c8 i2.1 fq;have i3:Imp s2 ((dI n s2 a).foldl (fun st j=>ar (bq F) .back at_ j st) s2):=dR (fun _ _=>cY ..) _ _;have b2:=g8 fun z=>i3.1.bar z bQ;have A3:Add (fun w=>(w.tie=true->-most<=w.v)/\(w.tie=false->w.v<=most+B)) s2 ((dI n s2 a).foldl (fun st j=>ar (bq F) .back at_ j st) s2):=wY (f:=fun st j=>ar (bq F) .back at_ j st) (fun _ _=>cY ..) _ s2 s2 (Imp.refl _) fun j hj sx hx=>by
  obtain ⟨c,_,dG⟩:=EI hj;obtain ⟨q,hq,hk⟩:=g2.at_ _ _ dG;obtain ⟨_,qa,qb⟩:=iD hk;have xt:=g2.ne b2 j q hq;rw [qa,qb] at xt;obtain ⟨v',gh,nb⟩:=i3.2 (true,c,a) q.v xt (pB dG hq);have uF:=hB c v' gh;unfold eA at nb;simp at nb;refine HA (c8 hx.1 gz) (c8 hx.1 hq) fun w e=>?_;unfold bq at e;split at e
  ·cases z:F p.b with
   | none=>rw [z] at e;cases e
   | some f=>
    rw [z] at e;cases e;have h2:=hF.num _ _ z;refine ⟨nofun,fun _=>?_⟩;show min p.v f.2.2-q.v<=most+B;lia
  ·cases e
 exact (A1.trans i2.1 A2).trans i3.1 A3
theorem NQ (t:Nat):∀d,Imp (run n F s t) (run n F s (t+d))
 | 0=>Imp.refl _
 | d+1=>(NQ t d).trans (vv n F (t+d) _)
theorem tI (h:t<=t'):Imp (run n F s t) (run n F s t'):=by
 have:=NQ (n:=n) (F:=F) (s:=s) t (t'-t)
 rwa [show t+(t'-t)=t' by lia] at this
section
variable {n:Nat} {F:cv} {most:Int} {s0:St}
noncomputable def pt (n:Nat) (F:cv) (s0:St) (t a b:Nat):Prop:=∃w,ah (run n F s0 t) t=some w/\w.tie=true/\w.a=a/\w.b=b/\(run n F s0 t).best (true,a,b)=some t
theorem DQ {w:ao} (hw:ah s t=some w) (ht:w.tie=true) (ha:w.a=a) (hb:w.b=b) (dG:s.best (true,a,b)=some t):look n F t s=eV n F t a b s:=by
 unfold look;rw [hw];have hk:w.key=(true,a,b):=by unfold ao.key;rw [ht,ha,hb]
 dsimp only;rw [hk,if_pos dG,if_pos ht,ha,hb]
theorem HS (g:cy n s) (g':cy n s') (e:Ext s s') (h:val s' k≠val s k):∃j w,s.rows.length<=j/\ah s' j=some w/\w.key=k/\val s' k=some w.v:=by
 rcases e.best k with hb | ⟨j,hj,hlen⟩
 ·exfalso;apply h;unfold val;rw [hb]
  cases q:s.best k with
  | none=>rfl
  | some i=>
   show (ah s' i).map (·.v)=(ah s i).map (·.v);obtain ⟨w,hw,_⟩:=g.at_ k i q;rw [hw,c8 e hw]
 ·obtain ⟨w,hw,hk⟩:=g'.at_ k j hj;exact ⟨j,w,hlen,hw,hk,pB hj hw⟩
theorem P0 (h:t<=t') (g:cy n (run n F s0 t)) (hi:(run n F s0 t).best k=some i) (hj:(run n F s0 t').best k=some j):i<=j:=by
 rcases (tI (n:=n) (F:=F) (s:=s0) h).1.best k with e | ⟨j',e,hl⟩
 ·rw [e,hi] at hj;cases hj;exact aF _
 ·rw [e] at hj;cases hj;obtain ⟨w,hw,_⟩:=g.at_ k i hi;exact dY (bx (nI hw)) hl
theorem Yk (h:t<=t') (g:cy n (run n F s0 t)) (g':cy n (run n F s0 t')) (bQ:(run n F s0 t').bar=none) (hi:(run n F s0 t).best k=some i) (hj:(run n F s0 t').best k=some j) (dJ:i≠j):val (run n F s0 t') k≠val (run n F s0 t) k:=by
 obtain ⟨w,hw,hk⟩:=g.at_ k i hi;obtain ⟨w',lO,mM⟩:=g'.at_ k j hj;have hle:=P0 h g hi hj;have:=g'.drop bQ i j w w' (c8 (tI h).1 hw) lO (hk.trans mM.symm) (by lia);rw [pB hi hw,pB hj lO];intro e;have e:w'.v=w.v:=gn e;rw [e] at this;exact z6 _ _ this
end
variable {n:Nat} {F:cv} {most:Int} {s0:St}
theorem IK (hp:ah s t=some p) (ht:p.tie=false) (hb:s.best p.key=some t):look n F t s=fX n F t p.a s:=by
 unfold look;rw [hp];dsimp only;rw [if_pos hb,if_neg (by rw [ht];decide)]
theorem P8 (hp:ah s t=some p) (hb:s.best p.key≠some t):look n F t s=s:=by
 unfold look;rw [hp];dsimp only;rw [if_neg hb]
end MU
namespace MH
theorem Hu:∀(M N:Nat) (f:Nat->Nat),(∀i,i<N->f i<M)->(∀i j,i<j->j<N->f i≠f j)->N<=M
 | 0,N,f,h,_=>by
  cases N with
  | zero=>exact aF _
  | succ N=>exact absurd (h 0 (Nat.succ_pos _)) (sQ _)
 | M+1,N,f,h,hi=>by
  by_cases c:∃p,p<N/\f p=M
  ·obtain ⟨p,hp,ep⟩:=c;have k:=Hu M (N-1) (fun i=>f (if i<p then i else i+1)) (fun i mP=>by
    have h1:(if i<p then i else i+1)<N:=by split<;>lia
    have h2:=h _ h1;have h3:f (if i<p then i else i+1)≠M:=fun z=>by
     by_cases c:i<p
     ·rw [if_pos c] at z;exact hi i p c hp (z.trans ep.symm)
     ·rw [if_neg c] at z;exact hi p (i+1) (by lia) (by lia) (ep.trans z.symm)
    show f (if i<p then i else i+1)<M;lia) (fun i j gj hj=>by
    show f (if i<p then i else i+1)≠f (if j<p then j else j+1);refine hi _ _ ?_ ?_
    ·split<;>split<;>lia
    ·split<;>lia)
   lia
  ·have k:=Hu M N f (fun i mP=>by
    have h1:=h i mP;have h2:f i≠M:=fun z=>c ⟨i,mP,z⟩;lia) hi
   exact Nat.le.step k
open Classical in
noncomputable def cnt (P:Nat->Prop):Nat->Nat
 | 0=>0
 | N+1=>cnt P N+if P N then 1 else 0
theorem pz {P:Nat->Prop} (h:P N):cnt P (N+1)=cnt P N+1:=by
 rw [cnt,if_pos h]
theorem tf {P:Nat->Prop} (h:¬P N):cnt P (N+1)=cnt P N:=by
 rw [cnt,if_neg h,Nat.add_zero]
theorem OM (P:Nat->Prop):∀N,∃e:Nat->Nat,(∀i,i<cnt P N->P (e i)/\e i<N)/\∀i j,i<j->j<cnt P N->e i<e j
 | 0=>⟨fun i=>i,fun i h=>absurd h (sQ _),fun i j _ h=>absurd h (sQ _)⟩
 | N+1=>by
  obtain ⟨e,h1,h2⟩:=OM P N
  by_cases c:P N
  ·have ec:cnt P (N+1)=cnt P N+1:=pz c;refine ⟨fun i=>if i<cnt P N then e i else N,fun i hi=>?_,fun i j gj hj=>?_⟩
   ·by_cases d:i<cnt P N
    ·show P (if i<cnt P N then e i else N)/\(if i<cnt P N then e i else N)<N+1;rw [if_pos d];have:=h1 i d;exact ⟨this.1,by lia⟩
    ·show P (if i<cnt P N then e i else N)/\(if i<cnt P N then e i else N)<N+1;rw [if_neg d];exact ⟨c,by exact Nat.le.refl⟩
   ·show (if i<cnt P N then e i else N)<(if j<cnt P N then e j else N);rw [if_pos (show i<cnt P N by lia)]
    by_cases d:j<cnt P N
    ·rw [if_pos d];exact h2 i j gj d
    ·rw [if_neg d];exact (h1 i (by lia)).2
  ·have ec:cnt P (N+1)=cnt P N:=tf c;rw [ec];exact ⟨e,fun i hi=>⟨(h1 i hi).1,by have:=(h1 i hi).2;exact Nat.le.step this⟩,h2⟩
theorem UO {P:Nat->Prop} (code:Nat->Nat) (h:∀i,i<N->P i->code i<M) (hi:∀i j,i<j->j<N->P i->P j->code i≠code j):cnt P N<=M:=by
 obtain ⟨e,h1,h2⟩:=OM P N;exact Hu M (cnt P N) (fun i=>code (e i)) (fun i z=>h _ (h1 i z).2 (h1 i z).1) fun i j gj hj=>hi _ _ (h2 i j gj hj) (h1 j hj).2 (h1 i (by lia)).1 (h1 j hj).1
theorem Hz {P Q R:Nat->Prop} (h:∀i,P i->Q i\/R i):∀N,cnt P N<=cnt Q N+cnt R N
 | 0=>aF _
 | N+1=>by
  have ih:=Hz h N;have hq:cnt Q N<=cnt Q (N+1):=by
   by_cases c:Q N
   ·rw [pz c];exact Nat.le.step Nat.le.refl
   ·rw [tf c];exact Nat.le.refl
  have hr:cnt R N<=cnt R (N+1):=by
   by_cases c:R N
   ·rw [pz c];exact Nat.le.step Nat.le.refl
   ·rw [tf c];exact Nat.le.refl
  by_cases c:P N
  ·rw [pz c];rcases h N c with q | q
   ·rw [pz q];lia
   ·rw [pz q];lia
  ·rw [tf c];lia
theorem zev:∀(N:Nat) (l:List Nat),l.Nodup->(∀z∈l,z<N)->l.length<=N
 | 0,l,_,h=>by
  cases l with
  | nil=>exact aF _
  | cons x t=>exact absurd (h x iu) (sQ _)
 | N+1,l,hn,h=>by
  by_cases c:N∈l
  ·have k:=zev N (l.erase N) (hn.erase N) (fun z hz=>by
    have h1:=h z (List.mem_of_mem_erase hz);have h2:z≠N:=fun e=>by
     rw [e] at hz;exact (hn.mem_erase_iff.mp hz).1 rfl
    lia)
   rw [List.length_erase_of_mem c] at k;lia
  ·have k:=zev N l hn (fun z hz=>by
    have h1:=h z hz;have h2:z≠N:=fun e=>c (e▸hz);lia)
   exact Nat.le.step k
end MH
set_option linter.unusedVariables false
namespace MH
structure Bd (n:Nat) (L most:Int) (T:Nat) (len:Nat->Nat) (m w:Nat->Nat->Nat->Option Int) (pt pw:Nat->Nat->Nat->Prop):Prop where
 n8:n<=8
 L0:0<=L
 Bm:0<=most
 go:∀t,t<T->t<len t
 xJ:∀t,t<T->len t<=len (t+1)
 lt:∀t a b v,t<=T->m t a b=some v->a<n/\b<n/\a≠b
 known:∀t a b,t<T->pt t a b->∃v,m t a b=some v
 iW:∀t a b,t<T->pw t a b->a<n/\b<n/\a≠b/\∃v,w t a b=some v
 mono:∀t a b v,t<T->m t a b=some v->∃v',v'<=v/\m (t+1) a b=some v'
 AU:∀t a b v,t<T->w t a b=some v->∃v',v<=v'/\w (t+1) a b=some v'
 told:∀i,0<i->i<n->(∃v,v<=L/\m 0 0 i=some v)/\∃v,v<=0/\m 0 i 0=some v
 vB:∀a b,w 0 a b=none
 sum:∀t a b c v u,t<T->pt t a b->m t a b=some v->m t b c=some u->a≠c->∃x,x<=v+u/\m (t+1) a c=some x
 bar:∀t a b v u,t<T->pt t a b->m t a b=some v->m t b a=some u->0<=v+u
 one:∀t a b a' b',t<T->pt t a b->pt t a' b'->a=a'/\b=b'
 J_:∀t a b a' b',t<T->pw t a b->pw t a' b'->a=a'/\b=b'
 apart:∀t a b a' b',t<T->pt t a b->¬pw t a' b'
 cause:∀t a b,t<T->m (t+1) a b≠m t a b->(∃c v q y,pt t a c/\c≠b/\m t a c=some v/\m t c b=some q/\m (t+1) a b=some y/\v+q<=y)\/(∃c,pt t c b/\c≠a)\/∃e y,pw t a e/\m (t+1) a b=some y/\-most<=y
 aV:∀t a b e v v',t<T->pt t a b->m t a b=some v->t<=e->e<T->pw e a b->w e a b=some v'->1-v<=v'
 ql:∀t a b B,t<T->0<=B->(∀x y v,m (t+1) x y=some v->-B<=v)->w (t+1) a b≠w t a b->∃y,w (t+1) a b=some y/\y<=most+B
 grow:∀t,t<T->len (t+1)<=len t+20
 we:∀t,t<T->(∀a b,¬pt t a b)->len (t+1)<=len t+8
 wg:∀t,t<T->(∀a b,¬pt t a b)->(∀a b,¬pw t a b)->len (t+1)=len t
 gw:∀t0 t a b v,t<=T->len t0<=t->t0<=t->m t0 a b=some v->m t a b=some v->∃s,s<t/\pt s a b/\m s a b=some v
 drop:∀t t' a b v v',t<t'->t'<T->pt t a b->pt t' a b->m t a b=some v->m t' a b=some v'->v'<v
 vC:∀t t' a b v v',t<t'->t'<T->pw t a b->pw t' a b->w t a b=some v->w t' a b=some v'->v<v'
 once:∀t t' a b,t<t'->t'<T->pt t a b->pt t' a b->len t<=t'
 nK:∀t t' a b,t<t'->t'<T->pw t a b->pw t' a b->len t<=t'
section
variable {n:Nat} {L most:Int} {T:Nat} {len:Nat->Nat} {m w:Nat->Nat->Nat->Option Int} {pt pw:Nat->Nat->Nat->Prop}
noncomputable def Kn (m:Nat->Nat->Nat->Option Int) (t a b:Nat) (x:Int):Prop:=∃v,v<=x/\m t a b=some v
theorem Kn.le (h:Kn m t a b x) (hx:x<=y):Kn m t a b y:=by
 obtain ⟨v,h1,h2⟩:=h;exact ⟨v,by lia,h2⟩
theorem Bd.nY (R:Bd n L most T len m w pt pw) (h:m t a b=some v):∀d,t+d<=T->∃v',v'<=v/\m (t+d) a b=some v'
 | 0,_=>⟨v,Int.le_refl _,h⟩
 | d+1,hd=>by
  obtain ⟨v1,h1,e1⟩:=R.nY h d (by exact bx hd);obtain ⟨v2,h2,e2⟩:=R.mono _ _ _ _ (by exact hd) e1;exact ⟨v2,by lia,e2⟩
theorem Bd.kZ (R:Bd n L most T len m w pt pw) (h:m t a b=some v) (ht:t<=t') (hT:t'<=T):∃v',v'<=v/\m t' a b=some v':=by
 obtain ⟨v',h1,h2⟩:=R.nY h (t'-t) (by lia);rw [show t+(t'-t)=t' by lia] at h2;exact ⟨v',h1,h2⟩
theorem Bd.kn (R:Bd n L most T len m w pt pw) (h:Kn m t a b x) (ht:t<=t') (hT:t'<=T):Kn m t' a b x:=by
 obtain ⟨v,h1,h2⟩:=h;obtain ⟨v',h3,h4⟩:=R.kZ h2 ht hT;exact ⟨v',by lia,h4⟩
theorem Bd.same (R:Bd n L most T len m w pt pw) (h:m t a b=some v) (h':m t' a b=some v) (h1:t<=s) (h2:s<=t') (hT:t'<=T):m s a b=some v:=by
 obtain ⟨v1,l1,e1⟩:=R.kZ h h1 (by lia);obtain ⟨v2,l2,e2⟩:=R.kZ e1 h2 hT;rw [h'] at e2;cases e2;rw [e1,show v1=v by lia]
noncomputable def ig (m:Nat->Nat->Nat->Option Int) (t x:Nat):Int:=(m t x 0).getD 0
theorem Bd.da (R:Bd n L most T len m w pt pw) (hx:0<x) (hn:x<n) (ht:t<=T):m t x 0=some (ig m t x)/\ig m t x<=0:=by
 obtain ⟨v,h1,h2⟩:=(R.told x hx hn).2;obtain ⟨v',h3,h4⟩:=R.kZ h2 (dM t) ht;unfold ig;rw [h4];exact ⟨rfl,by show v'<=0;lia⟩
theorem Bd.dS (R:Bd n L most T len m w pt pw) (hx:0<x) (hn:x<n) (ht:t<T):ig m (t+1) x<=ig m t x:=by
 obtain ⟨v,h1,h2⟩:=R.mono _ _ _ _ ht (R.da hx hn (bx ht)).1;have:=(R.da (t:=t+1) hx hn ht).1;rw [h2] at this;have:=gn this;lia
theorem Bd.nU (R:Bd n L most T len m w pt pw) (hx:0<x) (hn:x<n) (ht:t<=T):Kn m t 0 x L:=by
 obtain ⟨v,h1,h2⟩:=(R.told x hx hn).1;exact R.kn ⟨v,h1,h2⟩ (dM t) ht
noncomputable def lY (n:Nat) (L:Int) (m:Nat->Nat->Nat->Option Int) (t x:Nat):Prop:= -L<=ig m t x/\∀z,0<z->z<n->z≠x->Kn m t x z (ig m t x+max L (-ig m t z))
noncomputable def yQ (n:Nat) (m:Nat->Nat->Nat->Option Int) (t x:Nat) (l:List Nat):Prop:=l.Nodup/\x∈l/\(∀z∈l,0<z/\z<n)/\∀z∈l,z≠x->Kn m t x z (ig m t x-ig m t z)
theorem lY.next (R:Bd n L most T len m w pt pw) (hx:0<x) (hn:x<n) (ht:t<T) (h:lY n L m t x) (e:m (t+1) x 0=m t x 0):lY n L m (t+1) x:=by
 have er:ig m (t+1) x=ig m t x:=by unfold ig;rw [e]
 refine ⟨by rw [er];exact h.1,fun z h1 h2 h3=>?_⟩;have hz:=R.dS h1 h2 ht;rw [er];exact (R.kn (h.2 z h1 h2 h3) (pV t) ht).le (by omega)
theorem yQ.next (R:Bd n L most T len m w pt pw) (ht:t<T) (h:yQ n m t x l) (e:m (t+1) x 0=m t x 0):yQ n m (t+1) x l:=by
 have er:ig m (t+1) x=ig m t x:=by unfold ig;rw [e]
 obtain ⟨h1,h2,h3,h4⟩:=h;refine ⟨h1,h2,h3,fun z hz dJ=>?_⟩;have:=R.dS (h3 z hz).1 (h3 z hz).2 ht;rw [er];exact (R.kn (h4 z hz dJ) (pV t) ht).le (by lia)
theorem lY.AV (R:Bd n L most T len m w pt pw) (hx:0<x) (hn:x<n) (h:lY n L m s x):∀d,s+d<=T->m (s+d) x 0=m s x 0->lY n L m (s+d) x
 | 0,_,_=>h
 | d+1,hd,e=>by
  have h1:=(R.da (t:=s) hx hn (by lia)).1;have h2:m (s+(d+1)) x 0=some (ig m s x):=e.trans h1;have h3:=R.same h1 h2 (s:=s+d) (by lia) (by exact Nat.le.step Nat.le.refl) hd;exact lY.next R (t:=s+d) hx hn (by exact hd) (lY.AV R hx hn h d (by exact bx hd) (h3.trans h1.symm)) (h2.trans h3.symm)
theorem Bd.looked (R:Bd n L most T len m w pt pw) (hs:s<T) (h:pt s x 0) (hx:0<x) (hn:x<n) (e:m (s+1) x 0=m s x 0):lY n L m (s+1) x:=by
 obtain ⟨h1,_⟩:=R.da (t:=s) hx hn (bx hs);have er:ig m (s+1) x=ig m s x:=by unfold ig;rw [e]
 obtain ⟨p,fq,gz⟩:=R.nU hx hn (bx hs);have hb:=R.bar _ _ _ _ _ hs h h1 gz;refine ⟨by rw [er];lia,fun z z1 z2 z3=>?_⟩;obtain ⟨q,Fm,qS⟩:=R.nU z1 z2 (bx hs);obtain ⟨y,hy,ey⟩:=R.sum _ _ _ _ _ _ hs h h1 qS (bp z3);refine ⟨y,?_,ey⟩;rw [er];lia
theorem Bd.xk (R:Bd n L most T len m w pt pw) (hx:0<x) (hn:x<n) (ht:t<=T) (h0:len t0<=t) (h1:t0<=t) (e:m t x 0=m t0 x 0):lY n L m t x:=by
 have hr:=(R.da (t:=t) hx hn ht).1;obtain ⟨s,hs,hp,hv⟩:=R.gw t0 t x 0 _ ht h0 h1 (e.symm.trans hr) hr;have e1:=R.same hv hr (s:=s+1) (by exact Nat.le.step Nat.le.refl) (by exact hs) ht;have hf:=R.looked (by lia) hp hx hn (e1.trans hv.symm);have:=lY.AV R hx hn hf (t-(s+1)) (by lia);rw [show s+1+(t-(s+1))=t by omega] at this;exact this (hr.trans e1.symm)
theorem Bd.over (R:Bd n L most T len m w pt pw) (ht:t<T) (hx:0<x) (hn:x<n) (hc:c≠0) (hp:pt t x c) (hv:m t x c=some v) (hq:m t c 0=some q) (hy:m (t+1) x 0=some y) (hle:v+q<=y) (dJ:m (t+1) x 0≠m t x 0):
 c<n/\c≠x/\ig m t c=q/\ig m (t+1) x=v+q/\ig m (t+1) x<ig m t x/\ig m (t+1) c<=q:=by
 obtain ⟨l1,l2,l3⟩:=R.lt _ _ _ _ (bx ht) hv;have jX:=(R.da (t:=t) (x:=c) (by lia) l2 (bx ht)).1;rw [hq] at jX;have eq:=gn jX;obtain ⟨z,hz,ez⟩:=R.sum _ _ _ _ _ _ ht hp hv hq (show x≠0 by exact Nat.ne_of_gt hx);rw [hy] at ez;have ez:=gn ez;have Sf:=(R.da (t:=t+1) hx hn ht).1;rw [hy] at Sf;have ey:=gn Sf;have kF:=(R.da (t:=t) hx hn (bx ht)).1;have hmn:=R.dS hx hn ht;have Fz:=R.dS (x:=c) (by lia) l2 ht;refine ⟨l2,bp l3,eq.symm,by lia,?_,by lia⟩;have:ig m (t+1) x≠ig m t x:=fun z=>dJ (by rw [kF,hy,<-z,ey]);lia
theorem Bd.qw (R:Bd n L most T len m w pt pw) (ht:t<T) (hx:0<x) (hn:x<n) (hc:c≠0) (hp:pt t x c) (hv:m t x c=some v) (hq:m t c 0=some q) (hy:m (t+1) x 0=some y) (hle:v+q<=y) (dJ:m (t+1) x 0≠m t x 0) (h:lY n L m t c):lY n L m (t+1) x:=by
 obtain ⟨Fz,L6,eq,er,aW,yq⟩:=R.over ht hx hn hc hp hv hq hy hle dJ;obtain ⟨f1,f2⟩:=h;have L0:=R.L0;obtain ⟨u,hu,eu⟩:=f2 x hx hn (bp L6);have hb:=R.bar _ _ _ _ _ ht hp hv eu;rw [eq] at hu;refine ⟨by lia,fun z h1 h2 h3=>?_⟩;have hz:=R.dS h1 h2 ht
 by_cases e:z=c
 ·subst e;obtain ⟨v',gh,L_⟩:=R.mono _ _ _ _ ht hv;exact ⟨v',by omega,L_⟩
 ·obtain ⟨u',kG,Ma⟩:=f2 z h1 h2 e;obtain ⟨x',kF,FZ⟩:=R.sum _ _ _ _ _ _ ht hp hv Ma (bp h3);rw [eq] at kG;exact ⟨x',by omega,FZ⟩
theorem Bd.oB (R:Bd n L most T len m w pt pw) (ht:t<T) (hx:0<x) (hn:x<n) (hc:c≠0) (hp:pt t x c) (hv:m t x c=some v) (hq:m t c 0=some q) (hy:m (t+1) x 0=some y) (hle:v+q<=y) (dJ:m (t+1) x 0≠m t x 0) (h:yQ n m t c l):yQ n m (t+1) x (x::l):=by
 obtain ⟨Fz,L6,eq,er,aW,yq⟩:=R.over ht hx hn hc hp hv hq hy hle dJ;obtain ⟨g1,g2,g3,g4⟩:=h;have hxl:x∉l:=fun z=>by
  obtain ⟨u,hu,eu⟩:=g4 x z (bp L6);have hb:=R.bar _ _ _ _ _ ht hp hv eu;rw [eq] at hu;lia
 refine ⟨List.nodup_cons.mpr ⟨hxl,g1⟩,iu,fun z hz=>?_,fun z hz qX=>?_⟩
 ·rcases iJ.mp hz with rfl | hz
  ·exact ⟨hx,hn⟩
  ·exact g3 z hz
 ·rcases iJ.mp hz with e | hz
  ·exact absurd e qX
  ·have hzr:=R.dS (g3 z hz).1 (g3 z hz).2 ht
   by_cases e:z=c
   ·subst e;obtain ⟨v',gh,L_⟩:=R.mono _ _ _ _ ht hv;exact ⟨v',by lia,L_⟩
   ·obtain ⟨u',kG,Ma⟩:=g4 z hz e;obtain ⟨x',kF,FZ⟩:=R.sum _ _ _ _ _ _ ht hp hv Ma (bp qX);rw [eq] at kG;exact ⟨x',by lia,FZ⟩
noncomputable def gen (len:Nat->Nat):Nat->Nat
 | 0=>0
 | g+1=>len (gen len g)
noncomputable def w8 (n:Nat) (most:Int) (m:Nat->Nat->Nat->Option Int) (pt:Nat->Nat->Nat->Prop) (t:Nat):Prop:=(∃c,pt t c 0)\/∃x y,0<x/\x<n/\m (t+1) x 0=some y/\m (t+1) x 0≠m t x 0/\-most<=y
noncomputable def wy (n:Nat) (L:Int) (m:Nat->Nat->Nat->Option Int) (k t0 t:Nat):Prop:=∀x,0<x->x<n->lY n L m t x\/∃l,yQ n m t x l/\(k+1<=l.length\/(k<=l.length/\m t x 0=m t0 x 0))
theorem Bd.oV (R:Bd n L most T len m w pt pw) (ht:t<T) (hs:¬w8 n most m pt t) (h:wy n L m k t0 t):wy n L m k t0 (t+1):=fun x hx hn=>by
 by_cases e:m (t+1) x 0=m t x 0
 ·rcases h x hx hn with f | ⟨l,c,hl⟩
  ·exact .inl (f.next R hx hn ht e)
  ·refine .inr ⟨l,c.next R ht e,?_⟩;rcases hl with hl | ⟨hl,e0⟩
   ·exact .inl hl
   ·exact .inr ⟨hl,e.trans e0⟩
 ·rcases R.cause t x 0 ht e with ⟨c,v,q,y,hp,hc,hv,hq,hy,hle⟩ | ⟨c,hp,_⟩ | ⟨e',y,_,hy,uF⟩
  ·obtain ⟨Fz,_⟩:=R.over ht hx hn hc hp hv hq hy hle e;rcases h c (by lia) Fz with f | ⟨l,ch,hl⟩
   ·exact .inl (R.qw ht hx hn hc hp hv hq hy hle e f)
   ·refine .inr ⟨x::l,R.oB ht hx hn hc hp hv hq hy hle e ch,.inl ?_⟩;rw [lT];rcases hl with hl | ⟨hl,_⟩<;>lia
  ·exact absurd (.inl ⟨c,hp⟩) hs
  ·exact absurd (.inr ⟨x,y,hx,hn,hy,e,uF⟩) hs
theorem Bd.lA (R:Bd n L most T len m w pt pw) (hs:∀t,t0<=t->t<len t0->¬w8 n most m pt t) (h:wy n L m k t0 t0):∀d,t0+d<=T->t0+d<=len t0->wy n L m k t0 (t0+d)
 | 0,_,_=>h
 | d+1,h1,h2=>R.oV (t:=t0+d) (by exact h1) (hs (t0+d) (by lia) (by exact h2)) (R.lA hs h d (by exact bx h1) (by exact bx h2))
theorem Bd.oW (R:Bd n L most T len m w pt pw) (h0:t0<=len t0) (hT:len t0<=T) (hs:∀t,t0<=t->t<len t0->¬w8 n most m pt t) (h:wy n L m k t0 t0):wy n L m (k+1) (len t0) (len t0):=fun x hx hn=>by
 have:=R.lA hs h (len t0-t0) (by lia) (by lia);rw [show t0+(len t0-t0)=len t0 by lia] at this;rcases this x hx hn with f | ⟨l,c,hl⟩
 ·exact .inl f
 ·rcases hl with hl | ⟨hl,e⟩
  ·exact .inr ⟨l,c,.inr ⟨hl,rfl⟩⟩
  ·exact .inl (R.xk hx hn hT (aF _) h0 e)
theorem Bd.kg (R:Bd n L most T len m w pt pw) (h:gen len g<=T) (h2:gen len (g+1)<=T):gen len g<=gen len (g+1):=by
 by_cases c:gen len g=T
 ·rw [c];show T<=len (gen len g);rw [c];have:gen len (g+1)=len T:=by show len (gen len g)=_;rw [c]
  by_cases z:T=0
  ·lia
  ·have h3:=R.go (T-1) (by lia);have h4:=R.xJ (T-1) (by lia);rw [show T-1+1=T by lia] at h4;omega
 ·exact bx (R.go _ (by lia))
theorem Bd.lB (R:Bd n L most T len m w pt pw):∀k,gen len (g+k)<=T->(∀i,i<=k->gen len (g+i)<=T)->(∀t,gen len g<=t->t<gen len (g+k)->¬w8 n most m pt t)->(∀i,i<=k->gen len g<=gen len (g+i))->(∀i,i<k->gen len (g+i)<=gen len (g+k))->wy n L m (k+1) (gen len (g+k)) (gen len (g+k))
 | 0,_,_,_,_,_=>fun x hx hn=>.inr ⟨[x],⟨List.nodup_cons.mpr ⟨by simp,List.nodup_nil⟩,iu,fun z hz=>by rw [jw.mp hz];exact ⟨hx,hn⟩,fun z hz dJ=>absurd (jw.mp hz) dJ⟩,.inr ⟨aF _,rfl⟩⟩
 | k+1,hT,hle,hs,hm,hu=>by
  have h1:gen len (g+k)<=gen len (g+(k+1)):=hu k (by exact Nat.le.refl);have ih:=R.lB (g:=g) k (hle k (by exact Nat.le.step Nat.le.refl)) (fun i hi=>hle i (by exact Nat.le.step hi)) (fun t a b=>hs t a (by lia)) (fun i hi=>hm i (by exact Nat.le.step hi)) (fun i hi=>by
   have h2:∀j,j<=k-i->gen len (g+i)<=gen len (g+(i+j)):=fun j=>by
    induction j with
    | zero=>intro _;exact aF _
    | succ j ih=>
     intro hj;exact dY (ih (by exact bx hj)) (R.kg (g:=g+(i+j)) (hle (i+j) (by lia)) (hle (i+j+1) (by lia)))
   have:=h2 (k-i) (aF _)
   rwa [show i+(k-i)=k by lia] at this)
  exact R.oW (t0:=gen len (g+k)) h1 hT (fun t a b=>hs t (by have:=hm k (by exact Nat.le.step Nat.le.refl);lia) b) ih
end
end MH
set_option maxRecDepth 4000
namespace MH
theorem wN {P:Nat->Prop} (Rl:Nat->Nat->Prop) (h:∀i,i<N->P i->∃c,c<M/\Rl i c) (hi:∀i j c,i<j->j<N->P i->P j->Rl i c->Rl j c->False):cnt P N<=M:=by
 classical
 refine UO (fun i=>if z:∃c,c<M/\Rl i c then Classical.choose z else 0) (fun i hN hP=>?_) (fun i j gj hN hP SO e=>?_)
 ·have z:=h i hN hP;show (if z:∃c,c<M/\Rl i c then Classical.choose z else 0)<M;rw [dif_pos z];exact (Classical.choose_spec z).1
 ·have z1:=h i (by lia) hP;have z2:=h j hN SO;have e:(if z:∃c,c<M/\Rl i c then Classical.choose z else 0)=(if z:∃c,c<M/\Rl j c then Classical.choose z else 0):=e;rw [dif_pos z1,dif_pos z2] at e;have h1:=(Classical.choose_spec z1).2;have h2:=(Classical.choose_spec z2).2;rw [<-e] at h2;exact hi i j _ gj hN hP SO h1 h2
theorem NJ {P:Nat->Prop}:∀{N:Nat},(∀i,i<N->P i)->cnt P N=N
 | 0,_=>rfl
 | N+1,h=>by rw [pz (h N (by exact Nat.le.refl)),NJ fun i hi=>h i (by exact Nat.le.step hi)]
theorem dec {k a r a' r':Nat} (hr:r<k) (bo:r'<k) (h:a*k+r=a'*k+r'):a=a'/\r=r':=by
 have hk:0<k:=by lia
 have e1:(a*k+r) / k=a:=by rw [Nat.add_comm,Nat.add_mul_div_right _ _ hk,Nat.div_eq_of_lt hr,Nat.zero_add]
 have e2:(a'*k+r') / k=a':=by rw [Nat.add_comm,Nat.add_mul_div_right _ _ hk,Nat.div_eq_of_lt bo,Nat.zero_add]
 rw [h,e2] at e1;subst e1;exact ⟨rfl,by lia⟩
theorem enc {k a r N:Nat} (ha:a<N) (hr:r<k):a*k+r<N*k:=by
 have h1:(a+1)*k<=N*k:=Nat.mul_le_mul_right _ ha;rw [Nat.add_mul,Nat.one_mul] at h1;lia
noncomputable def kc (a b:Nat):Nat:=a*7+if b<a then b else b-1
noncomputable def N8 (a b:Nat):Prop:=a<8/\b<8/\a≠b
theorem pq (h:N8 a b):kc a b<56:=by
 obtain ⟨h1,h2,h3⟩:=h;unfold kc;split<;>lia
theorem u_ {a b a' b':Nat} (h:N8 a b) (h':N8 a' b') (e:kc a b=kc a' b'):a=a'/\b=b':=by
 obtain ⟨h1,h2,h3⟩:=h;obtain ⟨h4,h5,h6⟩:=h';unfold kc at e;obtain ⟨e1,e2⟩:=dec (show (if b<a then b else b-1)<7 by split<;>omega) (show (if b'<a' then b' else b'-1)<7 by split<;>omega) e;subst e1;refine ⟨rfl,?_⟩;split at e2<;>split at e2<;>lia
section
variable {n l mo T:Nat} {len:Nat->Nat} {m w:Nat->Nat->Nat->Option Int} {pt pw:Nat->Nat->Nat->Prop}
theorem Bd.mV (R:Bd n L most T len m w pt pw):∀d,t0+d<=T->len (t0+d)<=len t0+20*cnt (fun i=>∃a b,pt (t0+i) a b) d+8*cnt (fun i=>∃a b,pw (t0+i) a b) d
 | 0,_=>by show len t0<=_;exact Nat.le.refl
 | d+1,h=>by
  have ih:=R.mV (t0:=t0) d (by exact bx h);have hT:t0+d<T:=by exact h
  show len (t0+d+1)<=_
  by_cases c:∃a b,pt (t0+d) a b
  ·rw [pz c];have h1:=R.grow (t0+d) hT;have h2:cnt (fun i=>∃a b,pw (t0+i) a b) d<=cnt (fun i=>∃a b,pw (t0+i) a b) (d+1):=by
    by_cases z:∃a b,pw (t0+d) a b
    ·rw [pz z];exact Nat.le.step Nat.le.refl
    ·rw [tf z];exact Nat.le.refl
   lia
  ·rw [tf c];have c':∀a b,¬pt (t0+d) a b:=fun a b z=>c ⟨a,b,z⟩
   by_cases z:∃a b,pw (t0+d) a b
   ·rw [pz z];have:=R.we (t0+d) hT c';lia
   ·rw [tf z];have:=R.wg (t0+d) hT c' fun a b q=>z ⟨a,b,q⟩;lia
theorem Bd.qL (R:Bd n L most T len m w pt pw):∀d,t+d<=T->len t<=len (t+d)
 | 0,_=>aF _
 | d+1,h=>dY (R.qL d (by exact bx h)) (R.xJ (t+d) (by exact h))
theorem Bd.fm (R:Bd n L most T len m w pt pw) (h:t<=t') (hT:t'<=T):len t<=len t':=by
 have:=R.qL (t:=t) (t'-t) (by lia)
 rwa [show t+(t'-t)=t' by lia] at this
theorem Bd.nV (R:Bd n L most T len m w pt pw) (hT:t0+d<=T) (hl:t0+d<=len t0):len (t0+d)<=len t0+1568:=by
 have h:=R.mV d hT;have h8:=R.n8;have c1:cnt (fun i=>∃a b,pt (t0+i) a b) d<=56:=by
  refine wN (fun i c=>∃a b,pt (t0+i) a b/\N8 a b/\c=kc a b) (fun i hi hP=>?_) (fun i j c gj hj _ _ h1 h2=>?_)
  ·obtain ⟨a,b,hp⟩:=hP;obtain ⟨v,hv⟩:=R.known _ _ _ (show t0+i<T by lia) hp;obtain ⟨l1,l2,l3⟩:=R.lt _ _ _ _ (show t0+i<=T by lia) hv;have q:N8 a b:=⟨by lia,by lia,l3⟩;exact ⟨_,pq q,a,b,hp,q,rfl⟩
  ·obtain ⟨a,b,hp,hb,e1⟩:=h1;obtain ⟨a',b',iH,gk,e2⟩:=h2;obtain ⟨rfl,rfl⟩:=u_ hb gk (e1.symm.trans e2);have:=R.once _ _ _ _ (show t0+i<t0+j by lia) (by lia) hp iH;have:=R.fm (show t0<=t0+i by lia) (by lia);lia
 have c2:cnt (fun i=>∃a b,pw (t0+i) a b) d<=56:=by
  refine wN (fun i c=>∃a b,pw (t0+i) a b/\N8 a b/\c=kc a b) (fun i hi hP=>?_) (fun i j c gj hj _ _ h1 h2=>?_)
  ·obtain ⟨a,b,hp⟩:=hP;obtain ⟨l1,l2,l3,_⟩:=R.iW _ _ _ (show t0+i<T by lia) hp;have q:N8 a b:=⟨by lia,by lia,l3⟩;exact ⟨_,pq q,a,b,hp,q,rfl⟩
  ·obtain ⟨a,b,hp,hb,e1⟩:=h1;obtain ⟨a',b',iH,gk,e2⟩:=h2;obtain ⟨rfl,rfl⟩:=u_ hb gk (e1.symm.trans e2);have:=R.nK _ _ _ _ (show t0+i<t0+j by lia) (by lia) hp iH;have:=R.fm (show t0<=t0+i by lia) (by lia);lia
 lia
theorem Bd.gens (R:Bd n L most T len m w pt pw):∀N,((∀i,i<=N->gen len i<=T)/\len (gen len N)<=len 0+1568*N)\/len T<=len 0+1568*N
 | 0=>.inl ⟨fun i hi=>by rw [show i=0 by lia];exact dM _,aF _⟩
 | N+1=>by
  rcases R.gens N with ⟨h,hl⟩ | h
  ·have h0:=h N (aF _)
   by_cases c:gen len (N+1)<=T
   ·refine .inl ⟨fun i hi=>?_,?_⟩
    ·by_cases e:i=N+1
     ·rw [e];exact c
     ·exact h i (by lia)
    ·have h1:=R.kg h0 c;have:=R.nV (t0:=gen len N) (d:=gen len (N+1)-gen len N) (by lia) (by show _<=gen len (N+1);lia);rw [show gen len N+(gen len (N+1)-gen len N)=gen len (N+1) by lia] at this;rw [Nat.mul_succ,<-Nat.add_assoc];exact dY this (Nat.add_le_add_right hl _)
   ·right;have:=R.nV (t0:=gen len N) (d:=T-gen len N) (by lia) (by show _<=gen len (N+1);lia);rw [show gen len N+(T-gen len N)=T by lia] at this;rw [Nat.mul_succ,<-Nat.add_assoc];exact dY this (Nat.add_le_add_right hl _)
  ·right;rw [Nat.mul_succ,<-Nat.add_assoc];exact dY h (Nat.le_add_right _ _)
theorem Bd.cX (R:Bd n L most T len m w pt pw) (h:∀i,i<=N->gen len i<=T):∀j,i+j<=N->gen len i<=gen len (i+j)
 | 0,_=>aF _
 | j+1,hj=>dY (R.cX h j (by exact bx hj)) (R.kg (g:=i+j) (h (i+j) (by exact bx hj)) (h (i+j+1) (by omega)))
theorem Bd.narrow (R:Bd n (l:Int) (mo:Int) T len m w pt pw) (hg:∀i,i<=g+7->gen len i<=T) (hs:∀t,gen len g<=t->t<gen len (g+7)->¬w8 n (mo:Int) m pt t):∀a b,a<n->b<n->a≠b->Kn m (gen len (g+7)) a b (l:Int):=by
 have hT:=hg (g+7) (aF _);have c:=R.lB (g:=g) 7 hT (fun i hi=>hg _ (by lia)) hs (fun i hi=>R.cX hg i (by lia)) (fun i hi=>by
  have:=R.cX hg (i:=g+i) (7-i) (by lia)
  rwa [show g+i+(7-i)=g+7 by lia] at this)
 have h8:=R.n8;have Cf:∀x,0<x->x<n->lY n (l:Int) m (gen len (g+7)) x:=fun x hx hn=>by
  rcases c x hx hn with f | ⟨ls,⟨c1,c2,c3,_⟩,hl⟩
  ·exact f
  ·exfalso;have:=zev 8 (0::ls) (List.nodup_cons.mpr ⟨fun z=>by have:=(c3 0 z).1;exact False.elim (pS 0 this),c1⟩) (fun z hz=>by
    rcases iJ.mp hz with e | hz
    ·lia
    ·have:=(c3 z hz).2;lia)
   rw [lT] at this;lia
 intro a b ha hb sG
 by_cases e:a=0
 ·subst e;exact R.nU (by lia) hb hT
 ·by_cases e':b=0
  ·subst e';obtain ⟨h1,h2⟩:=R.da (t:=gen len (g+7)) (by lia) ha hT;exact ⟨_,by lia,h1⟩
  ·have h1:=(Cf a (by lia) ha).2 b (by lia) hb (bp sG);have h2:=(Cf b (by lia) hb).1;have h3:=(R.da (t:=gen len (g+7)) (x:=a) (by lia) ha hT).2;exact h1.le (by lia)
theorem Bd.quiet (R:Bd n (l:Int) (mo:Int) T len m w pt pw) {N:Nat} (hN:N=7*(l+1)+7*(mo+1)+1) (hg:∀i,i<=7*N->gen len i<=T):∃b,b<N/\∀t,gen len (7*b)<=t->t<gen len (7*b+7)->¬w8 n (mo:Int) m pt t:=by
 refine g8 fun hn=>?_;have hs:∀b,b<N->∃t,gen len (7*b)<=t/\t<gen len (7*b+7)/\w8 n (mo:Int) m pt t:=fun b hb=>by
  refine g8 fun h=>hn ⟨b,hb,fun t h1 h2 h3=>h ⟨t,h1,h2,h3⟩⟩
 have h8:=R.n8;have tT:∀{b t},b<N->t<gen len (7*b+7)->t<T:=fun {b t} hb ht=>by
  have:=hg (7*b+7) (by lia);lia
 have key:=wN (P:=fun _=>True) (N:=N) (M:=7*(l+1)+7*(mo+1)) (fun b c=>∃t,gen len (7*b)<=t/\t<gen len (7*b+7)/\((∃x r,pt t (x+1) 0/\x<7/\r<l+1/\m t (x+1) 0=some (-(r:Int))/\c=x*(l+1)+r)\/
  ∃x r,x<7/\r<mo+1/\m (t+1) (x+1) 0=some (-(r:Int))/\m (t+1) (x+1) 0≠m t (x+1) 0/\c=7*(l+1)+(x*(mo+1)+r))) (fun b hb _=>by
  obtain ⟨t,h1,h2,h3⟩:=hs b hb;have ht:=tT hb h2;rcases h3 with ⟨x,hp⟩ | ⟨x,y,hx,hxn,hy,dJ,uF⟩
  ·obtain ⟨v,hv⟩:=R.known _ _ _ ht hp;obtain ⟨l1,_,l3⟩:=R.lt _ _ _ _ (bx ht) hv;obtain ⟨e1,e2⟩:=R.da (t:=t) (x:=x) (by lia) l1 (bx ht);rw [hv] at e1;have e1:=gn e1;obtain ⟨p,fq,gz⟩:=R.nU (t:=t) (x:=x) (by lia) l1 (bx ht);have hb:=R.bar _ _ _ _ _ ht hp hv gz;have hr:(-v).toNat<l+1:=by lia
   obtain ⟨x,rfl⟩:∃z,x=z+1:=⟨x-1,by lia⟩;exact ⟨x*(l+1)+(-v).toNat,by have:=enc (a:=x) (N:=7) (show x<7 by lia) hr;lia,t,h1,h2,.inl ⟨x,(-v).toNat,hp,by lia,hr,by rw [hv];congr 1;lia,rfl⟩⟩
  ·obtain ⟨e1,e2⟩:=R.da (t:=t+1) hx hxn (show t+1<=T by exact ht);rw [hy] at e1;have e1:=gn e1;have hr:(-y).toNat<mo+1:=by lia
   obtain ⟨x,rfl⟩:∃z,x=z+1:=⟨x-1,by lia⟩;exact ⟨7*(l+1)+(x*(mo+1)+(-y).toNat),by have:=enc (a:=x) (N:=7) (show x<7 by lia) hr;lia,t,h1,h2,.inr ⟨x,(-y).toNat,by lia,hr,by rw [hy];congr 1;lia,dJ,rfl⟩⟩)
  (fun b b' c F7 gk _ _ h1 h2=>by
   obtain ⟨t,t1,t2,h1⟩:=h1;obtain ⟨t',t1',Rv,h2⟩:=h2;have lP:t<t':=by
    have:=R.cX hg (i:=7*b+7) (7*b'-(7*b+7)) (by omega);rw [show 7*b+7+(7*b'-(7*b+7))=7*b' by omega] at this;lia
   have SH:=tT gk Rv;rcases h1 with ⟨x,r,hp,hx,hr,hv,e1⟩ | ⟨x,r,hx,hr,hv,dJ,e1⟩
   ·rcases h2 with ⟨x',r',iH,kF,bo,gh,e2⟩ | ⟨x',r',kF,bo,gh,qX,e2⟩
    ·obtain ⟨rfl,rfl⟩:=dec hr bo (e1.symm.trans e2);have:=R.drop _ _ _ _ _ _ lP SH hp iH hv gh;lia
    ·have:=enc (a:=x) (N:=7) hx hr;lia
   ·rcases h2 with ⟨x',r',iH,kF,bo,gh,e2⟩ | ⟨x',r',kF,bo,gh,qX,e2⟩
    ·have:=enc (a:=x') (N:=7) kF bo;lia
    ·obtain ⟨rfl,rfl⟩:=dec hr bo (show x*(mo+1)+r=x'*(mo+1)+r' by lia);have:=R.same hv gh (s:=t') (by exact lP) (by exact Nat.le.step Nat.le.refl) (by exact SH);exact qX (gh.trans this.symm))
 rw [NJ fun i _=>trivial] at key;lia
end
section
variable {n l mo T:Nat} {len:Nat->Nat} {m w:Nat->Nat->Nat->Option Int} {pt pw:Nat->Nat->Nat->Prop}
theorem Bd.yz (R:Bd n L most T len m w pt pw) (ht:t<T):∃g,(∀i,i<=g->gen len i<=t)/\t<gen len (g+1):=by
 have key:∀N,(∀i,i<=N->gen len i<=t/\i<=gen len i)\/∃g,(∀i,i<=g->gen len i<=t)/\t<gen len (g+1):=by
  intro N
  induction N with
  | zero=>exact .inl fun i hi=>by rw [show i=0 by lia];exact ⟨dM _,dM _⟩
  | succ N ih=>
   rcases ih with h | h
   ·by_cases c:gen len (N+1)<=t
    ·refine .inl fun i hi=>?_
     by_cases e:i=N+1
     ·rw [e];have h1:=h N (aF _);have h2:gen len N<gen len (N+1):=R.go (gen len N) (by lia);exact ⟨c,by lia⟩
     ·exact h i (by lia)
    ·exact .inr ⟨N,fun i hi=>(h i hi).1,by lia⟩
   ·exact .inr h
 rcases key (t+1) with h | h
 ·have:=h (t+1) (aF _);omega
 ·exact h
theorem Bd.mX (R:Bd n L most T len m w pt pw) (h:∀i,i<=g'->gen len i<=t) (ht:t<=T) (hg:g<=g'):gen len g<=gen len g':=by
 have:=R.cX (N:=g') (fun i hi=>dY (h i hi) ht) (i:=g) (g'-g) (by lia)
 rwa [show g+(g'-g)=g' by lia] at this
theorem Bd.kP (R:Bd n L most T len m w pt pw) (hB:0<=B) (hT:t<=T) (h:∀x y v,m t x y=some v->-B<=v):∀s,s<=t->∀a b v,w s a b=some v->v<=most+B
 | 0,_,a,b,v,e=>by rw [R.vB] at e;cases e
 | s+1,hs,a,b,v,e=>by
  by_cases c:w (s+1) a b=w s a b
  ·exact R.kP hB hT h s (by exact bx hs) a b v (c▸e)
  ·obtain ⟨y,h1,h2⟩:=R.ql s a b B (by lia) hB (fun x y v' e'=>by
    obtain ⟨v2,l2,e2⟩:=R.kZ e' hs hT;have:=h x y v2 e2;lia) c
   rw [e] at h1;cases h1;exact h2
theorem Bd.Ba (R:Bd n (l:Int) (mo:Int) T len m w pt pw) (hg:∀i,i<=g+1->gen len i<=T) (hk:∀a b,a<n->b<n->a≠b->Kn m (gen len g) a b (l:Int))
 (hq:∀τ,gen len g<=τ->τ<gen len (g+1)->(∀a b,¬pt τ a b)/\∀a b,m (τ+1) a b=m τ a b) (h1:gen len g<=t) (h2:t<gen len (g+1)) (hp:pw t a b) (hv:w t a b=some v):1-(l:Int)<=v/\v<=(mo:Int)+l:=by
 have hT:=hg (g+1) (aF _);have Fu:=R.kg (hg g (by exact Nat.le.step Nat.le.refl)) hT;have same:∀x y d,gen len g+d<=gen len (g+1)->m (gen len g+d) x y=m (gen len g) x y:=fun x y d=>by
  induction d with
  | zero=>intro _;rfl
  | succ d ih=>exact fun hd=>((hq (gen len g+d) (by lia) (by exact hd)).2 x y).trans (ih (by exact bx hd))
 have ra:∀x y,m (gen len (g+1)) x y=m (gen len g) x y:=fun x y=>by
  have:=same x y (gen len (g+1)-gen len g) (by lia)
  rwa [show gen len g+(gen len (g+1)-gen len g)=gen len (g+1) by lia] at this
 have seen:∀x y q,m (gen len (g+1)) x y=some q->∃s,s<gen len g/\pt s x y/\m s x y=some q:=fun x y q jX=>by
  obtain ⟨s,hs,hp,hv⟩:=R.gw (gen len g) (gen len (g+1)) x y q hT (aF _) Fu ((ra x y).symm.trans jX) jX;refine ⟨s,?_,hp,hv⟩;refine g8 fun c=>?_;exact (hq s (by exact lU c) hs).1 x y hp
 have kn:∀x y,x<n->y<n->x≠y->Kn m (gen len (g+1)) x y (l:Int):=fun x y hx hy pI=>R.kn (hk x y hx hy pI) Fu hT;have low:∀x y q,m (gen len (g+1)) x y=some q->-(l:Int)<=q:=fun x y q jX=>by
  obtain ⟨x1,x2,x3⟩:=R.lt _ _ _ _ hT jX;obtain ⟨q',Ft,e'⟩:=kn y x x2 x1 (bp x3);obtain ⟨s,hs,ps,vs⟩:=seen x y q jX;obtain ⟨s',vU,dA,Ro⟩:=seen y x q' e';have gT:=hg g (by exact Nat.le.step Nat.le.refl);rcases Nat.lt_trichotomy s s' with c | c | c
  ·have:=R.same vs jX (s:=s') (by exact bx c) (by lia) hT;have:=R.bar _ _ _ _ _ (by lia) dA Ro this;lia
  ·subst c;have:=(R.one _ _ _ _ _ (by lia) ps dA).1;exact False.elim (x3 this)
  ·have:=R.same Ro e' (s:=s) (by exact bx c) (by lia) hT;have:=R.bar _ _ _ _ _ (by lia) ps vs this;lia
 refine ⟨?_,R.kP (Int.natCast_nonneg l) hT (fun x y v e=>low x y v e) t (by exact bx h2) a b v hv⟩;obtain ⟨p1,p2,p3,_⟩:=R.iW _ _ _ (by lia) hp;obtain ⟨q,Ft,e'⟩:=kn a b p1 p2 p3;obtain ⟨s,hs,ps,vs⟩:=seen a b q e';have:=R.aV _ _ _ _ _ _ (by lia) ps vs (show s<=t by lia) (by lia) hp hv;lia
theorem Bd.after (R:Bd n (l:Int) (mo:Int) T len m w pt pw) (S0:∀i,i<=g1->gen len i<=T) (hk:∀a b,a<n->b<n->a≠b->Kn m (gen len g1) a b (l:Int)):
 len T<=len (gen len g1)+20*(56*(2*l+1))+8*((56*(2*l+1)+56*(mo+l+1))*56+(56*(mo+2*l+1)+56)):=by
 have h1:=S0 g1 (aF _);have h8:=R.n8;have g:=R.mV (t0:=gen len g1) (T-gen len g1) (by lia);rw [show gen len g1+(T-gen len g1)=T by lia] at g;have kn:∀t x y,gen len g1<=t->t<=T->x<n->y<n->x≠y->Kn m t x y (l:Int):=fun t x y ht hT hx hy pI=>R.kn (hk x y hx hy pI) ht hT;have tie:∀t a b,gen len g1<=t->t<T->pt t a b->∃r,a<8/\N8 a b/\r<2*l+1/\m t a b=some ((r:Int)-l):=fun t a b h h' hp=>by
  obtain ⟨v,hv⟩:=R.known _ _ _ h' hp;obtain ⟨l1,l2,l3⟩:=R.lt _ _ _ _ (bx h') hv;obtain ⟨v1,hle,e1⟩:=kn t a b h (bx h') l1 l2 l3;rw [hv] at e1;cases e1;obtain ⟨u,hu,eu⟩:=kn t b a h (bx h') l2 l1 (bp l3);have:=R.bar _ _ _ _ _ h' hp hv eu;exact ⟨(v+l).toNat,by lia,⟨by lia,by lia,l3⟩,by lia,by rw [hv];congr 1;lia⟩
 have c1:cnt (fun i=>∃a b,pt (gen len g1+i) a b) (T-gen len g1)<=56*(2*l+1):=by
  refine wN (fun i c=>∃a b r,pt (gen len g1+i) a b/\a<8/\N8 a b/\r<2*l+1/\m (gen len g1+i) a b=some ((r:Int)-l)/\c=kc a b*(2*l+1)+r) (fun i hi hP=>?_) (fun i j c gj hj _ _ z1 z2=>?_)
  ·obtain ⟨a,b,hp⟩:=hP;obtain ⟨r,x1,x2,x3,x4⟩:=tie _ a b (Nat.le_add_right _ _) (by lia) hp;exact ⟨_,enc (pq x2) x3,a,b,r,hp,x1,x2,x3,x4,rfl⟩
  ·obtain ⟨a,b,r,hp,x1,x2,x3,x4,e1⟩:=z1;obtain ⟨a',b',r',iH,y1,y2,y3,y4,e2⟩:=z2;obtain ⟨ek,rfl⟩:=dec x3 y3 (e1.symm.trans e2);obtain ⟨rfl,rfl⟩:=u_ x2 y2 ek;have:=R.drop _ _ _ _ _ _ (show gen len g1+i<gen len g1+j by lia) (by omega) hp iH x4 y4;lia
 have c2:cnt (fun i=>∃a b,pw (gen len g1+i) a b) (T-gen len g1)<=(56*(2*l+1)+56*(mo+l+1))*56+(56*(mo+2*l+1)+56):=by
  let Ga:Nat->Nat->Prop:=fun t g=>(∀i,i<=g->gen len i<=t)/\t<gen len (g+1)/\gen len (g+1)<=T
  let St:Nat->Prop:=fun τ=>(∃a b,pt τ a b)\/∃a b,m (τ+1) a b≠m τ a b
  have up:∀{t g},gen len g1<=t->t<T->(∀i,i<=g->gen len i<=t)->t<gen len (g+1)->g1<=g:=fun {t g} h h' z1 z2=>by
   refine g8 fun c=>?_;have:=R.cX S0 (i:=g+1) (g1-(g+1)) (by lia);rw [show g+1+(g1-(g+1))=g1 by omega] at this;lia
  have s1:=Hz (P:=fun i=>∃a b,pw (gen len g1+i) a b/\gen len g1+i<T) (Q:=fun i=>(∃a b,pw (gen len g1+i) a b)/\∃g,Ga (gen len g1+i) g/\∃τ,gen len g<=τ/\τ<gen len (g+1)/\St τ)
   (R:=fun i=>(∃a b,pw (gen len g1+i) a b)/\((∃g,Ga (gen len g1+i) g/\∀τ,gen len g<=τ->τ<gen len (g+1)->¬St τ)\/∃g,gen len g<=gen len g1+i/\T<gen len (g+1))) (fun i hP=>by
    obtain ⟨a,b,hp,hT⟩:=hP;obtain ⟨g,z1,z2⟩:=R.yz hT
    by_cases c:gen len (g+1)<=T
    ·by_cases d:∃τ,gen len g<=τ/\τ<gen len (g+1)/\St τ
     ·exact .inl ⟨⟨a,b,hp⟩,g,⟨z1,z2,c⟩,d⟩
     ·exact .inr ⟨⟨a,b,hp⟩,.inl ⟨g,⟨z1,z2,c⟩,fun τ y1 y2 y3=>d ⟨τ,y1,y2,y3⟩⟩⟩
    ·exact .inr ⟨⟨a,b,hp⟩,.inr ⟨g,z1 g (aF _),by lia⟩⟩) (T-gen len g1)
  have s0:cnt (fun i=>∃a b,pw (gen len g1+i) a b) (T-gen len g1)=cnt (fun i=>∃a b,pw (gen len g1+i) a b/\gen len g1+i<T) (T-gen len g1):=by
   have:∀N,N<=T-gen len g1->cnt (fun i=>∃a b,pw (gen len g1+i) a b) N=cnt (fun i=>∃a b,pw (gen len g1+i) a b/\gen len g1+i<T) N:=fun N=>by
    induction N with
    | zero=>intro _;rfl
    | succ N ih=>
     intro hN
     by_cases c:∃a b,pw (gen len g1+N) a b
     ·obtain ⟨a,b,hp⟩:=c;rw [pz ⟨a,b,hp⟩,pz (P:=fun i=>∃a b,pw (gen len g1+i) a b/\gen len g1+i<T) ⟨a,b,hp,by lia⟩,ih (by exact bx hN)]
     ·rw [tf c,tf (P:=fun i=>∃a b,pw (gen len g1+i) a b/\gen len g1+i<T) fun ⟨a,b,hp,_⟩=>c ⟨a,b,hp⟩,ih (by exact bx hN)]
   exact this _ (aF _)
  have s2:=Hz (P:=fun i=>(∃a b,pw (gen len g1+i) a b)/\((∃g,Ga (gen len g1+i) g/\∀τ,gen len g<=τ->τ<gen len (g+1)->¬St τ)\/∃g,gen len g<=gen len g1+i/\T<gen len (g+1)))
   (Q:=fun i=>(∃a b,pw (gen len g1+i) a b)/\∃g,Ga (gen len g1+i) g/\∀τ,gen len g<=τ->τ<gen len (g+1)->¬St τ) (R:=fun i=>(∃a b,pw (gen len g1+i) a b)/\∃g,gen len g<=gen len g1+i/\T<gen len (g+1)) (fun i hP=>hP.2.elim (fun z=>.inl ⟨hP.1,z⟩) fun z=>.inr ⟨hP.1,z⟩) (T-gen len g1)
  have xN:∀{t a b},t<T->pw t a b->a<8/\N8 a b:=fun {t a b} h hp=>by
   obtain ⟨x1,x2,x3,_⟩:=R.iW _ _ _ h hp;exact ⟨by lia,by lia,by lia,x3⟩
  have d3:cnt (fun i=>(∃a b,pw (gen len g1+i) a b)/\∃g,gen len g<=gen len g1+i/\T<gen len (g+1)) (T-gen len g1)<=56:=by
   refine wN (fun i c=>∃a b,pw (gen len g1+i) a b/\a<8/\N8 a b/\c=kc a b) (fun i hi hP=>?_) (fun i j c gj hj hP _ z1 z2=>?_)
   ·obtain ⟨⟨a,b,hp⟩,_⟩:=hP;obtain ⟨x1,x2⟩:=xN (show gen len g1+i<T by lia) hp;exact ⟨_,pq x2,a,b,hp,x1,x2,rfl⟩
   ·obtain ⟨_,g,z3,z4⟩:=hP;obtain ⟨a,b,hp,x1,x2,e1⟩:=z1;obtain ⟨a',b',iH,y1,y2,e2⟩:=z2;obtain ⟨rfl,rfl⟩:=u_ x2 y2 (e1.symm.trans e2);have q1:=R.nK _ _ _ _ (show gen len g1+i<gen len g1+j by lia) (by omega) hp iH;have q2:gen len (g+1)<=len (gen len g1+i):=R.fm z3 (by omega);omega
  have d2:cnt (fun i=>(∃a b,pw (gen len g1+i) a b)/\∃g,Ga (gen len g1+i) g/\∀τ,gen len g<=τ->τ<gen len (g+1)->¬St τ) (T-gen len g1)<=56*(mo+2*l+1):=by
   refine wN (fun i c=>∃a b r,pw (gen len g1+i) a b/\a<8/\N8 a b/\r<mo+2*l+1/\w (gen len g1+i) a b=some ((r:Int)+1-l)/\c=kc a b*(mo+2*l+1)+r) (fun i hi hP=>?_) (fun i j c gj hj _ _ z1 z2=>?_)
   ·obtain ⟨⟨a,b,hp⟩,g,⟨z1,z2,z3⟩,z4⟩:=hP;have hT:gen len g1+i<T:=by lia
    obtain ⟨x1,x2⟩:=xN hT hp;obtain ⟨_,_,_,v,hv⟩:=R.iW _ _ _ hT hp;have Lv:=up (Nat.le_add_right _ _) hT z1 z2;have Sz:∀i,i<=g+1->gen len i<=T:=fun k mM=>by
     by_cases e:k=g+1
     ·rw [e];exact z3
     ·have:=z1 k (by lia);lia
    have hle:gen len g1<=gen len g:=R.mX z1 (bx hT) Lv;obtain ⟨y1,y2⟩:=R.Ba Sz (fun x y hx hy pI=>kn _ x y hle (Sz g (by exact Nat.le.step Nat.le.refl)) hx hy pI) (fun τ q1 q2=>⟨fun x y iH=>z4 τ q1 q2 (.inl ⟨x,y,iH⟩),fun x y=>g8 fun hc=>z4 τ q1 q2 (.inr ⟨x,y,hc⟩)⟩) (z1 g (aF _)) z2 hp hv;have hr:(v-1+l).toNat<mo+2*l+1:=by lia
    exact ⟨_,enc (pq x2) hr,a,b,_,hp,x1,x2,hr,by rw [hv];congr 1;lia,rfl⟩
   ·obtain ⟨a,b,r,hp,x1,x2,x3,x4,e1⟩:=z1;obtain ⟨a',b',r',iH,y1,y2,y3,y4,e2⟩:=z2;obtain ⟨ek,rfl⟩:=dec x3 y3 (e1.symm.trans e2);obtain ⟨rfl,rfl⟩:=u_ x2 y2 ek;have:=R.vC _ _ _ _ _ _ (show gen len g1+i<gen len g1+j by lia) (by omega) hp iH x4 y4;lia
  have d1:cnt (fun i=>(∃a b,pw (gen len g1+i) a b)/\∃g,Ga (gen len g1+i) g/\∃τ,gen len g<=τ/\τ<gen len (g+1)/\St τ) (T-gen len g1)<=(56*(2*l+1)+56*(mo+l+1))*56:=by
   refine wN (fun i c=>∃g τ a b cg,Ga (gen len g1+i) g/\gen len g<=τ/\τ<gen len (g+1)/\pw (gen len g1+i) a b/\a<8/\N8 a b/\c=cg*56+kc a b/\
    ((∃x y r,pt τ x y/\x<8/\N8 x y/\r<2*l+1/\m τ x y=some ((r:Int)-l)/\cg=kc x y*(2*l+1)+r)\/
     ∃x y r,x<8/\N8 x y/\r<mo+l+1/\m (τ+1) x y=some ((r:Int)-mo)/\m (τ+1) x y≠m τ x y/\cg=56*(2*l+1)+(kc x y*(mo+l+1)+r))) (fun i hi hP=>?_) (fun i j c gj hj _ _ z1 z2=>?_)
   ·obtain ⟨⟨a,b,hp⟩,g,hG,τ,t1,t2,oQ⟩:=hP;have hT:gen len g1+i<T:=by lia
    obtain ⟨x1,x2⟩:=xN hT hp;have Lv:=up (Nat.le_add_right _ _) hT hG.1 hG.2.1;have hle:gen len g1<=gen len g:=R.mX hG.1 (bx hT) Lv;have Fh:τ<T:=by have:=hG.2.2;lia
    have tc:∀x y,pt τ x y->∃cg,cg<56*(2*l+1)+56*(mo+l+1)/\∃x y r,pt τ x y/\x<8/\N8 x y/\r<2*l+1/\m τ x y=some ((r:Int)-l)/\cg=kc x y*(2*l+1)+r:=fun x y jH=>by
     obtain ⟨r,q1,q2,q3,q4⟩:=tie τ x y (by lia) Fh jH;refine ⟨_,?_,x,y,r,jH,q1,q2,q3,q4,rfl⟩;have:=enc (pq q2) q3;lia
    have fin:∀cg,cg<56*(2*l+1)+56*(mo+l+1)->cg*56+kc a b<(56*(2*l+1)+56*(mo+l+1))*56:=fun cg hc=>enc hc (pq x2)
    by_cases c:∃x y,pt τ x y
    ·obtain ⟨x,y,jH⟩:=c;obtain ⟨cg,hc,rest⟩:=tc x y jH;exact ⟨_,fin cg hc,g,τ,a,b,cg,hG,t1,t2,hp,x1,x2,rfl,.inl rest⟩
    ·rcases oQ with ⟨x,y,jH⟩ | ⟨x,y,dJ⟩
     ·exact absurd ⟨x,y,jH⟩ c
     ·rcases R.cause τ x y Fh dJ with ⟨c',v,q,y',jH,_⟩ | ⟨c',jH,_⟩ | ⟨e',y',_,hy,uF⟩
      ·exact absurd ⟨x,c',jH⟩ c
      ·exact absurd ⟨c',y,jH⟩ c
      ·obtain ⟨l1,l2,l3⟩:=R.lt _ _ _ _ (show τ+1<=T by exact Fh) hy;obtain ⟨v1,hle1,e1⟩:=kn (τ+1) x y (by lia) (by exact Fh) l1 l2 l3;rw [hy] at e1;cases e1;have hr:(y'+mo).toNat<mo+l+1:=by lia
       refine ⟨_,fin (56*(2*l+1)+(kc x y*(mo+l+1)+(y'+mo).toNat)) ?_,g,τ,a,b,_,hG,t1,t2,hp,x1,x2,rfl,.inr ⟨x,y,_,by lia,⟨by lia,by lia,l3⟩,hr,by rw [hy];congr 1;lia,dJ,rfl⟩⟩;have:=enc (pq ⟨by lia,by lia,l3⟩) hr;lia
   ·obtain ⟨g,τ,a,b,cg,hG,t1,t2,hp,x1,x2,e1,hcg⟩:=z1;obtain ⟨g',Ac,a',b',cg',LM,t1',Rv,iH,y1,y2,e2,BQ⟩:=z2;obtain ⟨ec,ek⟩:=dec (pq x2) (pq y2) (e1.symm.trans e2);obtain ⟨rfl,rfl⟩:=u_ x2 y2 ek;subst ec;have hT:gen len g1+j<T:=by lia
    have My:τ<T:=by have:=hG.2.2;lia
    have Ab:Ac<T:=by have:=LM.2.2;lia
    have eτ:τ=Ac:=by
     rcases hcg with ⟨x,y,r,p1,p2,p3,p4,p5,p6⟩ | ⟨x,y,r,p2,p3,p4,p5,pn,p6⟩
     ·rcases BQ with ⟨x',y',r',q1,q2,q3,q4,q5,q6⟩ | ⟨x',y',r',q2,q3,q4,q5,qn,q6⟩
      ·obtain ⟨ek,rfl⟩:=dec p4 q4 (p6.symm.trans q6);obtain ⟨rfl,rfl⟩:=u_ p3 q3 ek;rcases Nat.lt_trichotomy τ Ac with c | c | c
       ·have:=R.drop _ _ _ _ _ _ c Ab p1 q1 p5 q5;lia
       ·exact c
       ·have:=R.drop _ _ _ _ _ _ c My q1 p1 q5 p5;lia
      ·have:=enc (pq p3) p4;lia
     ·rcases BQ with ⟨x',y',r',q1,q2,q3,q4,q5,q6⟩ | ⟨x',y',r',q2,q3,q4,q5,qn,q6⟩
      ·have:=enc (pq q3) q4;lia
      ·obtain ⟨ek,rfl⟩:=dec p4 q4 (show kc x y*(mo+l+1)+r=kc x' y'*(mo+l+1)+r' by lia);obtain ⟨rfl,rfl⟩:=u_ p3 q3 ek;rcases Nat.lt_trichotomy τ Ac with c | c | c
       ·have:=R.same p5 q5 (s:=Ac) (by exact c) (by exact Nat.le.step Nat.le.refl) (by exact Ab);exact absurd (q5.trans this.symm) qn
       ·exact c
       ·have:=R.same q5 p5 (s:=τ) (by exact c) (by exact Nat.le.step Nat.le.refl) (by exact My);exact absurd (p5.trans this.symm) pn
    subst eτ;have q1:=R.nK _ _ _ _ (show gen len g1+i<gen len g1+j by lia) hT hp iH;have q2:gen len (g+1)<=len (gen len g1+i):=R.fm (hG.1 g (aF _)) (by lia);have q3:gen len (g'+1)<=gen len (g+1):=by
     refine g8 fun c=>?_;have Fu:g<g':=by
      refine g8 fun d=>?_;have e0:∀k,k<=g+1->gen len k<=T:=fun k mM=>by
       by_cases e:k=g+1
       ·rw [e];exact hG.2.2
       ·have:=hG.1 k (by lia);lia
      have:=R.cX e0 (i:=g'+1) (g+1-(g'+1)) (by omega);rw [show g'+1+(g+1-(g'+1))=g+1 by omega] at this;exact c this
     have:=R.mX (g:=g+1) LM.1 (bx hT) (by exact Fu);lia
    have:=LM.2.1;lia
  rw [s0];exact dY s1 (Nat.add_le_add d1 (dY s2 (Nat.add_le_add d2 d3)))
 have m1:=Nat.mul_le_mul_left 20 c1;have m2:=Nat.mul_le_mul_left 8 c2;exact dY g (Nat.add_le_add (Nat.add_le_add_left m1 _) m2)
theorem Bd.rows (R:Bd n (l:Int) (mo:Int) T len m w pt pw):len T<=len 0+1568*(7*(7*(l+1)+7*(mo+1)+1))+20*(56*(2*l+1))+8*((56*(2*l+1)+56*(mo+l+1))*56+(56*(mo+2*l+1)+56)):=by
 rcases R.gens (7*(7*(l+1)+7*(mo+1)+1)) with ⟨h1,h2⟩ | h
 ·obtain ⟨b,hb,hs⟩:=R.quiet rfl h1;have hg:∀i,i<=7*b+7->gen len i<=T:=fun i hi=>h1 i (by lia);have k:=R.after (g1:=7*b+7) hg (R.narrow hg hs);have e:=R.cX h1 (i:=7*b+7) (7*(7*(l+1)+7*(mo+1)+1)-(7*b+7)) (by omega);rw [show 7*b+7+(7*(7*(l+1)+7*(mo+1)+1)-(7*b+7))=7*(7*(l+1)+7*(mo+1)+1) by omega] at e;have k2:=R.fm e (h1 _ (aF _));exact dY k (Nat.add_le_add_right (Nat.add_le_add_right (dY k2 h2) _) _)
 ·exact dY h (dY (Nat.le_add_right _ _) (Nat.le_add_right _ _))
end
end MH
namespace MU
variable {n:Nat} {F:cv} {most:Int} {s0:St}
theorem I0 (hF:jE n F most) (g:cy n s) (hp:ah s at_=some p) (pa:p.a=a) (pb:p.b=b) (bQ:(eV n F at_ a b s).bar=none):
 Add (fun w=>(w.tie=true->(w.a=a/\w.b≠b/\∃q,val s (true,b,w.b)=some q/\w.v=p.v+q)\/(w.b=b/\w.a≠a))/\(w.tie=false->w.v<=most-p.v/\∃f,F w.b=some f)) s (eV n F at_ a b s):=by
 unfold eV at bQ ⊢;dsimp only at bQ ⊢;generalize hC:(fun w:ao=>(w.tie=true->(w.a=a/\w.b≠b/\∃q,val s (true,b,w.b)=some q/\w.v=p.v+q)\/(w.b=b/\w.a≠a))/\(w.tie=false->w.v<=most-p.v/\∃f,F w.b=some f))=C;have g1:cy n (aP (d8 F) .aV at_ s):=nG g AF;have i1:Imp s (aP (d8 F) .aV at_ s):=gs _ _ _ _;have T1:Add (fun w=>w.tie=true->w.b=b) s (aP (d8 F) .aV at_ s):=wK hp fun w e ht=>by
  unfold d8 at e;split at e
  ·cases q:F p.b with
   | none=>rw [q] at e;cases e
   | some f=>rw [q] at e;cases e;cases ht
  ·cases e
 have A1:Add C s (aP (d8 F) .aV at_ s):=wK hp fun w e=>by
  subst hC;unfold d8 at e;split at e
  ·cases q:F p.b with
   | none=>rw [q] at e;cases e
   | some f=>
    rw [q] at e;cases e;have:=hF.num _ _ q;exact ⟨nofun,fun _=>⟨by show f.2.2-p.v<=_;lia,f,q⟩⟩
  ·cases e
 generalize aP (d8 F) .aV at_ s=s1 at*;have fq:=c8 i1.1 hp;have g2:cy n (aP (dC F) .b5 at_ s1):=nG g1 (AI hF);have i2:Imp s1 (aP (dC F) .b5 at_ s1):=gs _ _ _ _;have T2:Add (fun w=>w.tie=true->w.b=b) s1 (aP (dC F) .b5 at_ s1):=wK fq fun w e _=>by
  unfold dC at e;split at e
  ·cases q:F p.a with
   | none=>rw [q] at e;cases e
   | some f=>rw [q] at e;cases e;exact pb
  ·cases e
 have A2:Add C s1 (aP (dC F) .b5 at_ s1):=wK fq fun w e=>by
  subst hC;unfold dC at e;split at e
  ·cases q:F p.a with
   | none=>rw [q] at e;cases e
   | some f=>
    rw [q] at e;cases e;refine ⟨fun _=>.inr ⟨pb,fun z=>?_⟩,nofun⟩;have z:f.1=a:=z;have:=hF.own _ _ q;rw [z,<-pa,q] at this;cases this
  ·cases e
 generalize aP (dC F) .b5 at_ s1=s2 at*;have gz:=c8 i2.1 fq;have T12:=T1.trans i2.1 T2;have Br:∀z,z≠b->val s2 (true,b,z)=val s (true,b,z):=fun z hz=>g8 fun hc=>by
  obtain ⟨j,w,hj,hw,hk,_⟩:=HS g g2 (i1.1.trans i2.1) hc;obtain ⟨kt,_,kb⟩:=iD hk;have:=T12 j w hj hw kt;exact hz (kb.symm.trans this)
 have i3:Imp s2 ((cZ n s2 true b).foldl (fun st j=>ar aI .sum at_ j st) s2):=dR (fun _ _=>cY ..) _ _;have g3:cy n ((cZ n s2 true b).foldl (fun st j=>ar aI .sum at_ j st) s2):=vz (fun _ _ g=>wO g AA) _ _ g2;have i4:=dR (f:=fun st j=>ar aI .sum j at_ st) (fun _ _=>cY ..) (dI n ((cZ n s2 true b).foldl (fun st j=>ar aI .sum at_ j st) s2) a) ((cZ n s2 true b).foldl (fun st j=>ar aI .sum at_ j st) s2);have i5:=dR (f:=fun st j=>ar (bq F) .back j at_ st) (fun _ _=>cY ..) (cZ n ((dI n ((cZ n s2 true b).foldl (fun st j=>ar aI .sum at_ j st) s2) a).foldl (fun st j=>ar aI .sum j at_ st) ((cZ n s2 true b).foldl (fun st j=>ar aI .sum at_ j st) s2)) false b) ((dI n ((cZ n s2 true b).foldl (fun st j=>ar aI .sum at_ j st) s2) a).foldl (fun st j=>ar aI .sum j at_ st) ((cZ n s2 true b).foldl (fun st j=>ar aI .sum at_ j st) s2));have b4:=g8 fun z=>i5.1.bar z bQ;have b3:=g8 fun z=>i4.1.bar z b4;have b2:=g8 fun z=>i3.1.bar z b3;have A3:Add C s2 ((cZ n s2 true b).foldl (fun st j=>ar aI .sum at_ j st) s2):=wY (f:=fun st j=>ar aI .sum at_ j st) (fun _ _=>cY ..) _ s2 s2 (Imp.refl _) fun j hj sx hx=>by
  subst hC;obtain ⟨c,_,dG⟩:=IJ hj;obtain ⟨q,hq,hk⟩:=g2.at_ _ _ dG;obtain ⟨_,qa,qb⟩:=iD hk;have xt:=g2.ne b2 j q hq;refine HA (c8 hx.1 gz) (c8 hx.1 hq) fun w e=>?_;unfold aI at e;split at e
  ·cases e;have L8:c≠b:=fun z=>xt (by rw [qa,qb,z]);refine ⟨fun _=>.inl ⟨pa,fun z=>xt (by rw [qa];exact z.symm),q.v,?_,rfl⟩,nofun⟩;show val s (true,b,q.b)=_;rw [qb,<-Br c L8];exact pB dG hq
  ·cases e
 generalize (cZ n s2 true b).foldl (fun st j=>ar aI .sum at_ j st) s2=s3 at*;have iG:=c8 i3.1 gz;have A4:Add C s3 ((dI n s3 a).foldl (fun st j=>ar aI .sum j at_ st) s3):=wY (f:=fun st j=>ar aI .sum j at_ st) (fun _ _=>cY ..) _ s3 s3 (Imp.refl _) fun j hj sx hx=>by
  subst hC;obtain ⟨c,_,dG⟩:=EI hj;obtain ⟨q,hq,hk⟩:=g3.at_ _ _ dG;obtain ⟨_,qa,qb⟩:=iD hk;have xt:=g3.ne b3 j q hq;refine HA (c8 hx.1 hq) (c8 hx.1 iG) fun w e=>?_;unfold aI at e;split at e
  ·cases e;exact ⟨fun _=>.inr ⟨pb,fun z=>xt (by rw [qb];exact z)⟩,nofun⟩
  ·cases e
 generalize (dI n s3 a).foldl (fun st j=>ar aI .sum j at_ st) s3=s4 at*;have yd:=c8 i4.1 iG;have A5:Add C s4 ((cZ n s4 false b).foldl (fun st j=>ar (bq F) .back j at_ st) s4):=wY (f:=fun st j=>ar (bq F) .back j at_ st) (fun _ _=>cY ..) _ s4 s4 (Imp.refl _) fun j hj sx hx=>tD fun w e=>by
  subst hC
  cases e1:ah sx j with
  | none=>rw [e1] at e;cases e
  | some q=>
   rw [e1] at e;have e:(ah sx at_).bind (fun p=>bq F q p)=some w:=e;rw [c8 hx.1 yd] at e;have e:bq F q p=some w:=e;unfold bq at e;split at e
   ·cases z:F q.b with
    | none=>rw [z] at e;cases e
    | some f=>
     rw [z] at e;cases e;have:=hF.num _ _ z;exact ⟨nofun,fun _=>⟨by show min q.v f.2.2-p.v<=_;lia,f,z⟩⟩
   ·cases e
 exact (((A1.trans i2.1 A2).trans i3.1 A3).trans i4.1 A4).trans i5.1 A5
theorem XC:Add (fun w=>w.tie=false->∃f,F w.b=some f) s (fX n F at_ a s):=by
 unfold fX;dsimp only;have A1:Add (fun w:ao=>w.tie=false->∃f,F w.b=some f) s (aP (dH F) .sure at_ s):=tD fun w e ht=>by
  cases q:ah s at_ with
  | none=>rw [q] at e;cases e
  | some p=>
   rw [q] at e;have e:dH F p=some w:=e;unfold dH at e;split at e
   ·cases z:F p.b with
    | none=>rw [z] at e;cases e
    | some f=>rw [z] at e;cases e;cases ht
   ·cases e
 have i1:Imp s (aP (dH F) .sure at_ s):=gs _ _ _ _;generalize aP (dH F) .sure at_ s=s1 at*;have A2:Add (fun w:ao=>w.tie=false->∃f,F w.b=some f) s1 (aP (d7 F) .a8 at_ s1):=tD fun w e ht=>by
  cases q:ah s1 at_ with
  | none=>rw [q] at e;cases e
  | some p=>
   rw [q] at e;have e:d7 F p=some w:=e;unfold d7 at e;split at e
   ·cases z:F p.a with
    | none=>rw [z] at e;cases e
    | some o=>
     rw [z] at e;have e:(F p.b).map (fun f=>(⟨false,o.1,p.b,min p.v f.2.2-o.2.1⟩:ao))=some w:=e
     cases z2:F p.b with
     | none=>rw [z2] at e;cases e
     | some f=>rw [z2] at e;cases e;exact ⟨f,z2⟩
   ·cases e
 have i2:Imp s1 (aP (d7 F) .a8 at_ s1):=gs _ _ _ _;generalize aP (d7 F) .a8 at_ s1=s2 at*;have A3:Add (fun w:ao=>w.tie=false->∃f,F w.b=some f) s2 ((dI n s2 a).foldl (fun st j=>ar (bq F) .back at_ j st) s2):=wY (f:=fun st j=>ar (bq F) .back at_ j st) (fun _ _=>cY ..) _ s2 s2 (Imp.refl _) fun j _ sx _=>tD fun w e ht=>by
  cases q1:ah sx at_ with
  | none=>rw [q1] at e;cases e
  | some p=>
   rw [q1] at e;have e:(ah sx j).bind (fun q=>bq F p q)=some w:=e
   cases q2:ah sx j with
   | none=>rw [q2] at e;cases e
   | some q=>
    rw [q2] at e;have e:bq F p q=some w:=e;unfold bq at e;split at e
    ·cases z:F p.b with
     | none=>rw [z] at e;cases e
     | some f=>rw [z] at e;cases e;exact ⟨f,z⟩
    ·cases e
 have i3:Imp s2 ((dI n s2 a).foldl (fun st j=>ar (bq F) .back at_ j st) s2):=dR (fun _ _=>cY ..) _ _;exact (A1.trans i2.1 A2).trans i3.1 A3
theorem h_ (st:St) (o:Option ao) (word:Wd) (used:List Nat):(put st o word used).rows.length<=st.rows.length+1:=by
 cases o with
 | none=>exact pV _
 | some w=>
  show (take st w word used).rows.length<=_
  by_cases c:hV st w
  ·rw [(DI c).2.2];exact aF _
  ·rw [wW c];exact pV _
theorem qh (hf:∀s j,(f s j).rows.length<=s.rows.length+1):∀(l:List Nat) (s:St),(l.foldl f s).rows.length<=s.rows.length+l.length
 | [],s=>aF _
 | j::l,s=>by
  have h1:=qh hf l (f s j);have h2:=hf s j;rw [lT];show (l.foldl f (f s j)).rows.length<=_;lia
theorem DX:(cZ n st tie a).length<=n:=by
 have:=List.length_filterMap_le (fun b=>st.best (tie,a,b)) (List.range n);rw [List.length_range] at this;exact this
theorem EH:(dI n st b).length<=n:=by
 have:=List.length_filterMap_le (fun a=>st.best (true,a,b)) (List.range n);rw [List.length_range] at this;exact this
theorem VZ:(eV n F at_ a b s).rows.length<=s.rows.length+(2+3*n):=by
 unfold eV;dsimp only;have h1:(aP (d8 F) .aV at_ s).rows.length<=s.rows.length+1:=h_ _ _ _ _;generalize aP (d8 F) .aV at_ s=s1 at*;have h2:(aP (dC F) .b5 at_ s1).rows.length<=s1.rows.length+1:=h_ _ _ _ _;generalize aP (dC F) .b5 at_ s1=s2 at*;have h3:=qh (f:=fun st j=>ar aI .sum at_ j st) (fun _ _=>h_ _ _ _ _) (cZ n s2 true b) s2;have k3:=DX (n:=n) (tie:=true) (st:=s2) (a:=b);generalize (cZ n s2 true b).foldl (fun st j=>ar aI .sum at_ j st) s2=s3 at*;have h4:=qh (f:=fun st j=>ar aI .sum j at_ st) (fun _ _=>h_ _ _ _ _) (dI n s3 a) s3;have k4:=EH (n:=n) (st:=s3) (b:=a);generalize (dI n s3 a).foldl (fun st j=>ar aI .sum j at_ st) s3=s4 at*;have h5:=qh (f:=fun st j=>ar (bq F) .back j at_ st) (fun _ _=>h_ _ _ _ _) (cZ n s4 false b) s4;have k5:=DX (n:=n) (tie:=false) (st:=s4) (a:=b);lia
theorem WX:(fX n F at_ a s).rows.length<=s.rows.length+(2+n):=by
 unfold fX;dsimp only;have h1:(aP (dH F) .sure at_ s).rows.length<=s.rows.length+1:=h_ _ _ _ _;generalize aP (dH F) .sure at_ s=s1 at*;have h2:(aP (d7 F) .a8 at_ s1).rows.length<=s1.rows.length+1:=h_ _ _ _ _;generalize aP (d7 F) .a8 at_ s1=s2 at*;have h3:=qh (f:=fun st j=>ar (bq F) .back at_ j st) (fun _ _=>h_ _ _ _ _) (dI n s2 a) s2;have k3:=EH (n:=n) (st:=s2) (b:=a);lia
theorem Wu (h8:n<=8):(look n F at_ s).rows.length<=s.rows.length+26:=by
 unfold look;split
 ·split
  ·split
   ·exact dY VZ (by lia)
   ·exact dY WX (by lia)
  ·lia
 ·lia
theorem V3 {x y k:Nat} (pI:x≠y):(if x<k+1 then 1 else 0)+(if y<k+1 then 1 else 0)<=(if x<k then 1 else 0)+(if y<k then 1 else 0)+1/\(¬(k=x\/k=y)->(if x<k+1 then 1 else 0)+(if y<k+1 then 1 else 0)=(if x<k then 1 else 0)+(if y<k then 1 else 0)):=by
 have one:∀z,k≠z->(if z<k+1 then 1 else 0)=(if z<k then 1 else 0):=fun z h=>by
  by_cases c:z<k
  ·rw [if_pos c,if_pos (Nat.lt_succ_of_lt c)]
  ·rw [if_neg c,if_neg (by lia)]
 by_cases a:k=x
 ·subst a;rw [one y pI,if_pos (Nat.lt_succ_self k),if_neg (pS k)];exact ⟨by lia,fun h=>absurd (.inl rfl) h⟩
 ·rw [one x a]
  by_cases b:k=y
  ·subst b;rw [if_pos (Nat.lt_succ_self k),if_neg (pS k)];exact ⟨aF _,fun h=>absurd (.inr rfl) h⟩
  ·rw [one y b];exact ⟨pV _,fun _=>rfl⟩
theorem AQ {f:St->Nat->St} {g:Nat->Option Nat} {s0:St} {x y:Nat} (pI:x≠y) (hi:∀s j,Imp s (f s j)) (hf:∀s j,(f s j).rows.length<=s.rows.length+1) (hq:∀c j s,c=x\/c=y->g c=some j->Imp s0 s->(f s j).bar=none->(f s j).rows.length<=s.rows.length):
 ∀k,(((List.range k).filterMap g).foldl f s0).bar=none->(((List.range k).filterMap g).foldl f s0).rows.length+((if x<k then 1 else 0)+(if y<k then 1 else 0))<=s0.rows.length+k
 | 0,_=>aF _
 | k+1,h=>by
  rw [List.range_succ,List.filterMap_append,List.foldl_append] at h ⊢;have i0:Imp s0 (((List.range k).filterMap g).foldl f s0):=dR hi _ _;have ih:=AQ pI hi hf hq k;obtain ⟨l1,l2⟩:=V3 (k:=k) pI;generalize (if x<k then 1 else 0)+(if y<k then 1 else 0)=A at*;generalize (if x<k+1 then 1 else 0)+(if y<k+1 then 1 else 0)=B at*;generalize ((List.range k).filterMap g).foldl f s0=s at*
  cases hg:g k with
  | none=>
   rw [show [k].filterMap g=[] by rw [List.filterMap_cons,hg];rfl] at h ⊢;have ih:=ih h;show s.rows.length+_<=_;lia
  | some j=>
   rw [show [k].filterMap g=[j] by rw [List.filterMap_cons,hg];rfl] at h ⊢;have h:(f s j).bar=none:=h;have hs:s.bar=none:=g8 fun c=>(hi s j).1.bar c h;have ih:=ih hs;have h1:=hf s j;show (f s j).rows.length+_<=_
   by_cases c:k=x\/k=y
   ·have:=hq k j s c hg i0 h;lia
   ·have:=l2 c;lia
theorem D' (g:cy n st) (hb:st.bar=none) (h:st.best (t,a,a)=some j):False:=by
 obtain ⟨w,h1,h2⟩:=g.at_ _ _ h;obtain ⟨_,e1,e2⟩:=iD h2;exact g.ne hb j w h1 (e1.trans e2.symm)
theorem P9 {w:ao} (ht:w.tie=true) (e:w.a=w.b) (h:(take st w word used).bar=none):(take st w word used).rows.length<=st.rows.length:=by
 by_cases c:hV st w
 ·refine absurd h ?_;unfold take;rw [if_pos c];have c':=c;unfold hV at c';rw [if_pos ⟨ht,e⟩] at c';show (if st.bar=none/\iL w then some st.rows.length else st.bar)≠none
  by_cases z:st.bar=none
  ·rw [if_pos ⟨z,ht,e,c'⟩];exact fun h=>nomatch h
  ·rw [if_neg fun q=>z q.1];exact z
 ·rw [wW c];exact aF _
theorem DM (h1:ah s i=some p) (h2:ah s j=some q):ar f word i j s=put s (f p q) word [i,j]:=by
 unfold ar;rw [h1,h2];rfl
variable {at_:Nat} {p:ao} {s:St}
theorem Xj (g:cy n s) (hp:ah s at_=some p) (pt:p.tie=true) (hn:s.bar=none) (hb:((cZ n s true p.b).foldl (fun st j=>ar aI .sum at_ j st) s).bar=none):((cZ n s true p.b).foldl (fun st j=>ar aI .sum at_ j st) s).rows.length+2<=s.rows.length+n:=by
 have hl:=g.lt _ _ hp;have h:=AQ (f:=fun st j=>ar aI .sum at_ j st) (g:=fun c=>s.best (true,p.b,c)) (s0:=s) (x:=p.a) (y:=p.b) (g.ne hn _ _ hp) (fun _ _=>cY ..) (fun _ _=>h_ _ _ _ _) (fun c j s' hc hj i gk=>by
  have hj:s.best (true,p.b,c)=some j:=hj;rcases hc with rfl | rfl
  ·obtain ⟨q,h1,h2⟩:=g.at_ _ _ hj;obtain ⟨q1,q2,q3⟩:=iD h2;have e:=DM (f:=aI) (word:=.sum) (c8 i.1 hp) (c8 i.1 h1);have e2:aI p q=some ⟨true,p.a,q.b,p.v+q.v⟩:=if_pos ⟨pt,q1,q2.symm⟩;rw [e2] at e;have gk:(ar aI .sum at_ j s').bar=none:=gk;show (ar aI .sum at_ j s').rows.length<=_;rw [e] at gk ⊢;exact P9 (w:=⟨true,p.a,q.b,p.v+q.v⟩) rfl q3.symm gk
  ·exact (D' g hn hj).elim) n hb
 rw [if_pos hl.1,if_pos hl.2] at h;exact h
theorem Xk (g:cy n s) (hp:ah s at_=some p) (pt:p.tie=true) (hn:s.bar=none) (hb:((dI n s p.a).foldl (fun st j=>ar aI .sum j at_ st) s).bar=none):((dI n s p.a).foldl (fun st j=>ar aI .sum j at_ st) s).rows.length+2<=s.rows.length+n:=by
 have hl:=g.lt _ _ hp;have h:=AQ (f:=fun st j=>ar aI .sum j at_ st) (g:=fun c=>s.best (true,c,p.a)) (s0:=s) (x:=p.a) (y:=p.b) (g.ne hn _ _ hp) (fun _ _=>cY ..) (fun _ _=>h_ _ _ _ _) (fun c j s' hc hj i gk=>by
  have hj:s.best (true,c,p.a)=some j:=hj;rcases hc with rfl | rfl
  ·exact (D' g hn hj).elim
  ·obtain ⟨q,h1,h2⟩:=g.at_ _ _ hj;obtain ⟨q1,q2,q3⟩:=iD h2;have e:=DM (f:=aI) (word:=.sum) (c8 i.1 h1) (c8 i.1 hp);have e2:aI q p=some ⟨true,q.a,p.b,q.v+p.v⟩:=if_pos ⟨q1,pt,q3⟩;rw [e2] at e;have gk:(ar aI .sum j at_ s').bar=none:=gk;show (ar aI .sum j at_ s').rows.length<=_;rw [e] at gk ⊢;exact P9 (w:=⟨true,q.a,p.b,q.v+p.v⟩) rfl q2 gk) n hb
 rw [if_pos hl.1,if_pos hl.2] at h;exact h
theorem Xa (g:cy n s) (hp:ah s at_=some p) (hn:s.bar=none) (hb:((cZ n s false p.b).foldl (fun st j=>ar (bq F) .back j at_ st) s).bar=none):((cZ n s false p.b).foldl (fun st j=>ar (bq F) .back j at_ st) s).rows.length+2<=s.rows.length+n:=by
 have hl:=g.lt _ _ hp;have h:=AQ (f:=fun st j=>ar (bq F) .back j at_ st) (g:=fun c=>s.best (false,p.b,c)) (s0:=s) (x:=p.a) (y:=p.b) (g.ne hn _ _ hp) (fun _ _=>cY ..) (fun _ _=>h_ _ _ _ _) (fun c j s' hc hj i gk=>by
  have hj:s.best (false,p.b,c)=some j:=hj;rcases hc with rfl | rfl
  ·obtain ⟨q,h1,h2⟩:=g.at_ _ _ hj;obtain ⟨q1,q2,q3⟩:=iD h2;have e:=DM (f:=bq F) (word:=.back) (c8 i.1 h1) (c8 i.1 hp);have e2:bq F q p=none:=if_neg fun z=>z.2.2.2 q3.symm;rw [e2] at e;show (ar (bq F) .back j at_ s').rows.length<=_;rw [e];exact aF _
  ·exact (D' g hn hj).elim) n hb
 rw [if_pos hl.1,if_pos hl.2] at h;exact h
theorem Xb (g:cy n s) (hp:ah s at_=some p) (hn:s.bar=none) (hb:((dI n s p.a).foldl (fun st j=>ar (bq F) .back at_ j st) s).bar=none):((dI n s p.a).foldl (fun st j=>ar (bq F) .back at_ j st) s).rows.length+2<=s.rows.length+n:=by
 have hl:=g.lt _ _ hp;have h:=AQ (f:=fun st j=>ar (bq F) .back at_ j st) (g:=fun c=>s.best (true,c,p.a)) (s0:=s) (x:=p.a) (y:=p.b) (g.ne hn _ _ hp) (fun _ _=>cY ..) (fun _ _=>h_ _ _ _ _) (fun c j s' hc hj i gk=>by
  have hj:s.best (true,c,p.a)=some j:=hj;rcases hc with rfl | rfl
  ·exact (D' g hn hj).elim
  ·obtain ⟨q,h1,h2⟩:=g.at_ _ _ hj;obtain ⟨q1,q2,q3⟩:=iD h2;have e:=DM (f:=bq F) (word:=.back) (c8 i.1 hp) (c8 i.1 h1);have e2:bq F p q=none:=if_neg fun z=>z.2.2.2 q2;rw [e2] at e;show (ar (bq F) .back at_ j s').rows.length<=_;rw [e];exact aF _) n hb
 rw [if_pos hl.1,if_pos hl.2] at h;exact h
theorem WV (hF:jE n F most) (g:cy n s) (hp:ah s at_=some p) (pt:p.tie=true) (hb:(eV n F at_ p.a p.b s).bar=none):(eV n F at_ p.a p.b s).rows.length+4<=s.rows.length+3*n:=by
 unfold eV at hb ⊢;dsimp only at hb ⊢;have h1:(aP (d8 F) .aV at_ s).rows.length<=s.rows.length+1:=h_ _ _ _ _;have g1:cy n (aP (d8 F) .aV at_ s):=nG g AF;have p1:=c8 (gs (d8 F) .aV at_ s).1 hp;generalize aP (d8 F) .aV at_ s=s1 at*;have h2:(aP (dC F) .b5 at_ s1).rows.length<=s1.rows.length+1:=h_ _ _ _ _;have g2:cy n (aP (dC F) .b5 at_ s1):=nG g1 (AI hF);have p2:=c8 (gs (dC F) .b5 at_ s1).1 p1;generalize aP (dC F) .b5 at_ s1=s2 at*;have h3:=Xj g2 p2 pt;have i3:Imp s2 ((cZ n s2 true p.b).foldl (fun st j=>ar aI .sum at_ j st) s2):=dR (fun _ _=>cY ..) _ _;have g3:cy n ((cZ n s2 true p.b).foldl (fun st j=>ar aI .sum at_ j st) s2):=vz (fun _ _ g=>wO g AA) _ _ g2;generalize (cZ n s2 true p.b).foldl (fun st j=>ar aI .sum at_ j st) s2=s3 at*;have p3:=c8 i3.1 p2;have h4:=Xk g3 p3 pt;have i4:Imp s3 ((dI n s3 p.a).foldl (fun st j=>ar aI .sum j at_ st) s3):=dR (fun _ _=>cY ..) _ _;have g4:cy n ((dI n s3 p.a).foldl (fun st j=>ar aI .sum j at_ st) s3):=vz (fun _ _ g=>wO g AA) _ _ g3;generalize (dI n s3 p.a).foldl (fun st j=>ar aI .sum j at_ st) s3=s4 at*;have p4:=c8 i4.1 p3;have i5:Imp s4 ((cZ n s4 false p.b).foldl (fun st j=>ar (bq F) .back j at_ st) s4):=dR (fun _ _=>cY ..) _ _;have b4:s4.bar=none:=g8 fun c=>i5.1.bar c hb;have b3:s3.bar=none:=g8 fun c=>i4.1.bar c b4;have b2:s2.bar=none:=g8 fun c=>i3.1.bar c b3;have h3:=h3 b2 b3;have h4:=h4 b3 b4;have h5:=Xa g4 p4 b4 hb;lia
theorem P_ (hF:jE n F most) (g:cy n s) (hp:ah s at_=some p) (hb:(fX n F at_ p.a s).bar=none):(fX n F at_ p.a s).rows.length<=s.rows.length+n:=by
 unfold fX at hb ⊢;dsimp only at hb ⊢;have h1:(aP (dH F) .sure at_ s).rows.length<=s.rows.length+1:=h_ _ _ _ _;have g1:cy n (aP (dH F) .sure at_ s):=nG g (DH hF);have p1:=c8 (gs (dH F) .sure at_ s).1 hp;generalize aP (dH F) .sure at_ s=s1 at*;have h2:(aP (d7 F) .a8 at_ s1).rows.length<=s1.rows.length+1:=h_ _ _ _ _;have g2:cy n (aP (d7 F) .a8 at_ s1):=nG g1 (DU hF);have p2:=c8 (gs (d7 F) .a8 at_ s1).1 p1;generalize aP (d7 F) .a8 at_ s1=s2 at*;have i3:Imp s2 ((dI n s2 p.a).foldl (fun st j=>ar (bq F) .back at_ j st) s2):=dR (fun _ _=>cY ..) _ _;have b2:s2.bar=none:=g8 fun c=>i3.1.bar c hb;have h3:=Xb g2 p2 b2 hb;lia
noncomputable def pw (n:Nat) (F:cv) (s0:St) (t a b:Nat):Prop:=∃w,ah (run n F s0 t) t=some w/\w.tie=false/\w.a=a/\w.b=b/\(run n F s0 t).best (false,a,b)=some t
theorem step (n:Nat) (F:cv) (s0:St) (hl:t<(run n F s0 t).rows.length):
 (∃p,ah (run n F s0 t) t=some p/\p.tie=true/\pt n F s0 t p.a p.b/\run n F s0 (t+1)=eV n F t p.a p.b (run n F s0 t))\/
 (∃p,ah (run n F s0 t) t=some p/\p.tie=false/\pw n F s0 t p.a p.b/\run n F s0 (t+1)=fX n F t p.a (run n F s0 t))\/
 ((∀a b,¬pt n F s0 t a b)/\(∀a b,¬pw n F s0 t a b)/\run n F s0 (t+1)=run n F s0 t):=by
 obtain ⟨p,hp⟩:∃p,ah (run n F s0 t) t=some p:=⟨_,by unfold ah;rw [iR hl];rfl⟩;have hl:run n F s0 (t+1)=look n F t (run n F s0 t):=rfl
 by_cases hb:(run n F s0 t).best p.key=some t
 ·cases vM:p.tie with
  | true=>
   have sF:(run n F s0 t).best (true,p.a,p.b)=some t:=by rw [<-hb];unfold ao.key;rw [vM]
   exact .inl ⟨p,hp,vM,⟨p,hp,vM,rfl,rfl,sF⟩,hl.trans (DQ hp vM rfl rfl sF)⟩
  | false=>
   have sF:(run n F s0 t).best (false,p.a,p.b)=some t:=by rw [<-hb];unfold ao.key;rw [vM]
   exact .inr (.inl ⟨p,hp,vM,⟨p,hp,vM,rfl,rfl,sF⟩,hl.trans (IK hp vM hb)⟩)
 ·refine .inr (.inr ⟨fun a b h=>?_,fun a b h=>?_,hl.trans (P8 hp hb)⟩)
  ·obtain ⟨w,h1,h2,h3,h4,h5⟩:=h;rw [hp] at h1;cases h1;exact hb (by unfold ao.key;rw [h2,h3,h4];exact h5)
  ·obtain ⟨w,h1,h2,h3,h4,h5⟩:=h;rw [hp] at h1;cases h1;exact hb (by unfold ao.key;rw [h2,h3,h4];exact h5)
variable {n:Nat} {F:cv} {most:Int} {s0:St}
theorem tJ (e:Ext s s') {w:ao} (hi:i<s.rows.length) (h:ah s' i=some w):ah s i=some w:=by
 obtain ⟨p,hp⟩:∃p,ah s i=some p:=⟨_,by unfold ah;rw [iR hi];rfl⟩;rw [c8 e hp] at h;cases h;exact hp
theorem O_ (hF:jE n F most) (g0:cy n s0) (w0:∀a b,val s0 (false,a,b)=none) (hl:∀t,t<T->t<(run n F s0 t).rows.length) (hb:∀t,t<=T->(run n F s0 t).bar=none):∀t,t<=T->∀i w,ah (run n F s0 t) i=some w->w.tie=false->∃f,F w.b=some f
 | 0,_,i,w,h,ht=>by
  obtain ⟨j,_,hj⟩:=g0.top i w h;obtain ⟨u,hu,_⟩:=g0.at_ _ _ hj;have:=pB hj hu;have hk:w.key=(false,w.a,w.b):=by unfold ao.key;rw [ht]
  rw [hk,w0] at this;cases this
 | t+1,hT,i,w,h,ht=>by
  have ih:=O_ hF g0 w0 hl hb t (by exact bx hT);have gd:=wV hF g0 t
  by_cases hi:i<(run n F s0 t).rows.length
  ·exact ih i w (tJ (vv n F t (run n F s0 t)).1 hi h) ht
  ·rcases step n F s0 (hl t (by exact hT)) with ⟨p,hp,_,_,e⟩ | ⟨p,hp,_,_,e⟩ | ⟨_,_,e⟩
   ·have bQ:=hb (t+1) hT;rw [e] at bQ h;exact ((I0 hF gd hp rfl rfl bQ i w (by exact lU hi) h).2 ht).2
   ·rw [e] at h;exact XC i w (by exact lU hi) h ht
   ·rw [e] at h;exact absurd (nI h) (by omega)
theorem WY (hp:ah s at_=some p):Add (fun w=>w.tie=true->w.a=p.a) s (fX n F at_ p.a s):=by
 unfold fX;dsimp only;have A1:Add (fun w:ao=>w.tie=true->w.a=p.a) s (aP (dH F) .sure at_ s):=wK hp fun w e ht=>by
  unfold dH at e;split at e
  ·cases z:F p.b with
   | none=>rw [z] at e;cases e
   | some f=>rw [z] at e;cases e;rfl
  ·cases e
 have i1:Imp s (aP (dH F) .sure at_ s):=gs _ _ _ _;generalize aP (dH F) .sure at_ s=s1 at*;have A2:Add (fun w:ao=>w.tie=true->w.a=p.a) s1 (aP (d7 F) .a8 at_ s1):=tD fun w e ht=>by
  cases q:ah s1 at_ with
  | none=>rw [q] at e;cases e
  | some p=>
   rw [q] at e;have e:d7 F p=some w:=e;unfold d7 at e;split at e
   ·cases z:F p.a with
    | none=>rw [z] at e;cases e
    | some o=>
     rw [z] at e;have e:(F p.b).map (fun f=>(⟨false,o.1,p.b,min p.v f.2.2-o.2.1⟩:ao))=some w:=e
     cases z2:F p.b with
     | none=>rw [z2] at e;cases e
     | some f=>rw [z2] at e;cases e;cases ht
   ·cases e
 have i2:Imp s1 (aP (d7 F) .a8 at_ s1):=gs _ _ _ _;generalize aP (d7 F) .a8 at_ s1=s2 at*;have A3:Add (fun w:ao=>w.tie=true->w.a=p.a) s2 ((dI n s2 p.a).foldl (fun st j=>ar (bq F) .back at_ j st) s2):=wY (f:=fun st j=>ar (bq F) .back at_ j st) (fun _ _=>cY ..) _ s2 s2 (Imp.refl _) fun j _ sx _=>tD fun w e ht=>by
  cases q1:ah sx at_ with
  | none=>rw [q1] at e;cases e
  | some p=>
   rw [q1] at e;have e:(ah sx j).bind (fun q=>bq F p q)=some w:=e
   cases q2:ah sx j with
   | none=>rw [q2] at e;cases e
   | some q=>
    rw [q2] at e;have e:bq F p q=some w:=e;unfold bq at e;split at e
    ·cases z:F p.b with
     | none=>rw [z] at e;cases e
     | some f=>rw [z] at e;cases e;cases ht
    ·cases e
 have i3:Imp s2 ((dI n s2 p.a).foldl (fun st j=>ar (bq F) .back at_ j st) s2):=dR (fun _ _=>cY ..) _ _;exact (A1.trans i2.1 A2).trans i3.1 A3
theorem Vt {l mo:Nat} (h8:n<=8) (hF:jE n F (mo:Int)) (g0:cy n s0) (told:∀i,0<i->i<n->(∃v,v<=(l:Int)/\val s0 (true,0,i)=some v)/\∃v,v<=0/\val s0 (true,i,0)=some v) (w0:∀a b,val s0 (false,a,b)=none)
 {T:Nat} (hl:∀t,t<T->t<(run n F s0 t).rows.length) (hb:∀t,t<=T->(run n F s0 t).bar=none):
 MH.Bd n (l:Int) (mo:Int) T (fun t=>(run n F s0 t).rows.length) (fun t a b=>val (run n F s0 t) (true,a,b)) (fun t a b=>val (run n F s0 t) (false,a,b)) (pt n F s0) (pw n F s0):=by
 have gd:=wV hF g0;have il:∀t a b,pt n F s0 t a b->∃w,ah (run n F s0 t) t=some w/\w.tie=true/\w.a=a/\w.b=b/\val (run n F s0 t) (true,a,b)=some w.v/\run n F s0 (t+1)=eV n F t a b (run n F s0 t):=fun t a b ⟨w,h1,h2,h3,h4,h5⟩=>⟨w,h1,h2,h3,h4,pB h5 h1,DQ h1 h2 h3 h4 h5⟩;have kf:∀t a b,pw n F s0 t a b->∃w,ah (run n F s0 t) t=some w/\w.tie=false/\w.a=a/\w.b=b/\val (run n F s0 t) (false,a,b)=some w.v/\(run n F s0 t).best (false,a,b)=some t:=fun t a b ⟨w,h1,h2,h3,h4,h5⟩=>⟨w,h1,h2,h3,h4,pB h5 h1,h5⟩;have ends:=O_ hF g0 w0 hl hb;have wm:∀t a b v,t<T->val (run n F s0 t) (false,a,b)=some v->∃v',v<=v'/\val (run n F s0 (t+1)) (false,a,b)=some v':=fun t a b v ht h=>by
  have dJ:=(rY (gd t) (hb t (by exact bx ht)) h).1;obtain ⟨u',h1,h2⟩:=(vv n F t (run n F s0 t)).2 (false,a,b) v dJ h;refine ⟨u',?_,h1⟩;unfold eA at h2;simp at h2;exact h2
 have ZQ:∀t a b v,val (run n F s0 t) (false,a,b)=some v->∀d,t+d<=T->∃v',v<=v'/\val (run n F s0 (t+d)) (false,a,b)=some v':=fun t a b v h d=>by
  induction d with
  | zero=>exact fun _=>⟨v,Int.le_refl _,h⟩
  | succ d ih=>
   intro hd;obtain ⟨v1,h1,e1⟩:=ih (by exact bx hd);obtain ⟨v2,h2,e2⟩:=wm (t+d) a b v1 (by exact hd) e1;exact ⟨v2,by lia,e2⟩
 have once:∀(k:Key) (t t':Nat) (x x':ao),t<t'->ah (run n F s0 t) t=some x->ah (run n F s0 t') t'=some x'->x'.key=k->(run n F s0 t).best k=some t->(run n F s0 t).rows.length<=t':=fun k t t' x x' lP hx kF hk dG=>by
  refine g8 fun c=>?_;have h1:=tJ (tI (n:=n) (F:=F) (s:=s0) (bx lP)).1 (by lia) kF;obtain ⟨j,hj,rb⟩:=(gd t).top t' x' h1;rw [hk,dG] at rb;cases rb;lia
 exact
 { n8:=h8
   L0:=Int.natCast_nonneg _
   Bm:=Int.natCast_nonneg _
   go:=hl
   xJ:=fun t _=>(vv n F t (run n F s0 t)).1.len
   lt:=fun t a b v ht h=>by
    obtain ⟨x1,x2,x3⟩:=rY (gd t) (hb t ht) h;exact ⟨x2,x3,x1⟩
   known:=fun t a b _ h=>by
    obtain ⟨w,_,_,_,_,h5,_⟩:=il t a b h;exact ⟨w.v,h5⟩
   iW:=fun t a b ht h=>by
    obtain ⟨w,_,_,_,_,h5,_⟩:=kf t a b h;obtain ⟨x1,x2,x3⟩:=rY (gd t) (hb t (by exact bx ht)) h5;exact ⟨x2,x3,x1,w.v,h5⟩
   mono:=fun t a b v ht h=>by
    have dJ:=(rY (gd t) (hb t (by exact bx ht)) h).1;obtain ⟨u',h1,h2⟩:=(vv n F t (run n F s0 t)).2 (true,a,b) v dJ h;refine ⟨u',?_,h1⟩;unfold eA at h2;simp at h2;exact h2
   AU:=wm
   told:=told
   vB:=w0
   sum:=fun t a b c v u ht h hv hu wa=>by
    obtain ⟨w,h1,h2,h3,h4,h5,h6⟩:=il t a b h;have hv:val (run n F s0 t) (true,a,b)=some v:=hv;rw [hv] at h5;cases h5;have yr:=rY (gd t) (hb t (by exact bx ht)) hu;obtain ⟨x,hx,ex⟩:=(OE hF (gd t) h1 h2 h3 h4 hu yr.1 yr.2.2).1 wa;refine ⟨x,hx,?_⟩;show val (run n F s0 (t+1)) _=_;rw [h6];exact ex
   bar:=fun t a b v u ht h hv hu=>by
    obtain ⟨w,h1,h2,h3,h4,h5,h6⟩:=il t a b h;have hv:val (run n F s0 t) (true,a,b)=some v:=hv;rw [hv] at h5;cases h5;have yr:=rY (gd t) (hb t (by exact bx ht)) hu;refine g8 fun hc=>?_;have:=(OE hF (gd t) h1 h2 h3 h4 hu yr.1 yr.2.2).2 rfl (by lia);rw [<-h6] at this;exact this (hb (t+1) ht)
   one:=fun t a b a' b' _ h h'=>by
    obtain ⟨w,h1,_,h3,h4,_⟩:=il t a b h;obtain ⟨w',lR,_,rh,mS,_⟩:=il t a' b' h';rw [h1] at lR;cases lR;exact ⟨h3.symm.trans rh,h4.symm.trans mS⟩
   J_:=fun t a b a' b' _ h h'=>by
    obtain ⟨w,h1,_,h3,h4,_⟩:=kf t a b h;obtain ⟨w',lR,_,rh,mS,_⟩:=kf t a' b' h';rw [h1] at lR;cases lR;exact ⟨h3.symm.trans rh,h4.symm.trans mS⟩
   apart:=fun t a b a' b' _ h h'=>by
    obtain ⟨w,h1,h2,_⟩:=il t a b h;obtain ⟨w',lR,rj,_⟩:=kf t a' b' h';rw [h1] at lR;cases lR;rw [h2] at rj;cases rj
   cause:=fun t a b ht h=>by
    have h:val (run n F s0 (t+1)) (true,a,b)≠val (run n F s0 t) (true,a,b):=h;obtain ⟨j,w,hj,hw,hk,hv⟩:=HS (gd t) (gd (t+1)) (vv n F t (run n F s0 t)).1 (k:=(true,a,b)) h;obtain ⟨kt,ka,kb⟩:=iD hk;have hv:val (run n F s0 (t+1)) (true,a,b)=some w.v:=hv;have bQ:=hb (t+1) ht;rcases step n F s0 (hl t ht) with ⟨p,hp,mi,jH,e⟩ | ⟨p,hp,mi,zH,e⟩ | ⟨_,_,e⟩
    ·have hw:ah (run n F s0 (t+1)) j=some w:=hw;rw [e] at hw bQ;rcases (I0 hF (gd t) hp rfl rfl bQ j w hj hw).1 kt with ⟨h1,h2,q,hq,hwv⟩ | ⟨h1,h2⟩
     ·rw [ka] at h1;rw [kb] at h2 hq;subst h1;obtain ⟨w',k1,_,_,_,k5,_⟩:=il t _ _ jH;rw [hp] at k1;cases k1;exact .inl ⟨p.b,p.v,q,w.v,jH,bp h2,k5,hq,hv,by lia⟩
     ·rw [kb] at h1;rw [ka] at h2;subst h1;exact .inr (.inl ⟨p.a,jH,bp h2⟩)
    ·
     have hw:ah (run n F s0 (t+1)) j=some w:=hw;have g':cy n (fX n F t p.a (run n F s0 t)):=by rw [<-e];exact gd (t+1)
     have rf:=bQ;rw [e] at hw rf;obtain ⟨B,FI,hB⟩:∃B:Int,0<=B/\∀x v,val (fX n F t p.a (run n F s0 t)) (true,x,p.a)=some v->-B<=v:=by
      have:∀k,∃B:Int,0<=B/\∀x v,x<k->val (fX n F t p.a (run n F s0 t)) (true,x,p.a)=some v->-B<=v:=by
       intro k
       induction k with
       | zero=>exact ⟨0,Int.le_refl _,fun x v hx=>absurd hx (sQ _)⟩
       | succ k ih=>
        obtain ⟨B,h0,h1⟩:=ih
        cases q:val (fX n F t p.a (run n F s0 t)) (true,k,p.a) with
        | none=>
         refine ⟨B,h0,fun x v hx hv=>?_⟩
         by_cases e:x=k
         ·rw [e,q] at hv;cases hv
         ·exact h1 x v (by lia) hv
        | some u=>
         refine ⟨max B (-u),by lia,fun x v hx hv=>?_⟩
         by_cases e:x=k
         ·rw [e,q] at hv;cases hv;lia
         ·have:=h1 x v (by lia) hv;lia
      obtain ⟨B,h0,h1⟩:=this n;exact ⟨B,h0,fun x v hv=>h1 x v (rY g' rf hv).2.1 hv⟩
     have uF:=(Pn hF (gd t) hp mi rfl hB FI rf j w hj hw).1 kt;have own:w.a=p.a:=by
      have:=WY (F:=F) (n:=n) hp j w hj hw kt;exact this
     rw [ka] at own;subst own;exact .inr (.inr ⟨p.b,w.v,zH,hv,uF⟩)
    ·have hw:ah (run n F s0 (t+1)) j=some w:=hw;rw [e] at hw;exact absurd (nI hw) (by exact Nat.not_lt_of_le hj)
   aV:=fun t a b e v v' ht h hv KA heT zH gh=>by
    obtain ⟨w,h1,h2,h3,h4,h5,h6⟩:=il t a b h;have hv:val (run n F s0 t) (true,a,b)=some v:=hv;rw [hv] at h5;cases h5;obtain ⟨x,k1,k2,k3,k4,_⟩:=kf e a b zH;obtain ⟨f,hf⟩:=ends e (by exact bx heT) e x k1 k2;rw [k4] at hf;have dJ:=(rY (gd t) (hb t (by exact bx ht)) hv).1;have K_:=hF.num _ _ hf;have hd:aP (d8 F) .aV t (run n F s0 t)=take (run n F s0 t) ⟨false,a,b,f.2.2-w.v⟩ .aV [t]:=by
     unfold aP;rw [h1];show put _ (d8 F w) _ _=_;unfold d8;rw [if_pos ⟨h2,by rw [h3,h4];exact dJ⟩,h4,hf,h3];rfl
    obtain ⟨u,hu,nu⟩:=EF (st:=run n F s0 t) (word:=.aV) (used:=[t]) (w:=⟨false,a,b,f.2.2-w.v⟩) dJ;have iz:Imp (aP (d8 F) .aV t (run n F s0 t)) (eV n F t a b (run n F s0 t)):=by
     unfold eV;dsimp only;exact (((gs _ _ _ _).trans (dR (fun _ _=>cY ..) _ _)).trans (dR (fun _ _=>cY ..) _ _)).trans (dR (fun _ _=>cY ..) _ _)
    rw [hd] at iz;obtain ⟨u2,xS,RK⟩:=iz.2 (false,a,b) u dJ hu;rw [<-h6] at xS;have u7:t+1<=e\/t=e:=by lia
    rcases u7 with u7 | u7
    ·obtain ⟨u3,l3,e3⟩:=ZQ (t+1) a b u2 xS (e-(t+1)) (by lia);rw [show t+1+(e-(t+1))=e by lia] at e3;have gh:val (run n F s0 e) (false,a,b)=some v':=gh;rw [gh] at e3;cases e3;unfold eA at nu RK;simp at nu RK;lia
    ·subst u7;rw [h1] at k1;cases k1;rw [h2] at k2;cases k2
   ql:=fun t a b B ht FI hB h=>by
    have h:val (run n F s0 (t+1)) (false,a,b)≠val (run n F s0 t) (false,a,b):=h;obtain ⟨j,w,hj,hw,hk,hv⟩:=HS (gd t) (gd (t+1)) (vv n F t (run n F s0 t)).1 (k:=(false,a,b)) h;obtain ⟨kt,ka,kb⟩:=iD hk;have hv:val (run n F s0 (t+1)) (false,a,b)=some w.v:=hv;have hw:ah (run n F s0 (t+1)) j=some w:=hw;have bQ:=hb (t+1) ht;refine ⟨w.v,hv,?_⟩;rcases step n F s0 (hl t ht) with ⟨p,hp,mi,jH,e⟩ | ⟨p,hp,mi,zH,e⟩ | ⟨_,_,e⟩
    ·have hpv: -B<=p.v:=by
      obtain ⟨w',k1,_,_,_,k5,_⟩:=il t _ _ jH;rw [hp] at k1;cases k1;have dJ:=(rY (gd t) (hb t (by exact bx ht)) k5).1;obtain ⟨u',q1,q2⟩:=(vv n F t (run n F s0 t)).2 (true,p.a,p.b) p.v dJ k5;have:=hB p.a p.b u' q1;unfold eA at q2;simp at q2;lia
     rw [e] at hw bQ;have:=((I0 hF (gd t) hp rfl rfl bQ j w hj hw).2 kt).1;lia
    ·have hB':∀x v,val (fX n F t p.a (run n F s0 t)) (true,x,p.a)=some v->-B<=v:=fun x v hx=>by
      rw [<-e] at hx;exact hB x p.a v hx
     rw [e] at hw bQ;exact (Pn hF (gd t) hp mi rfl hB' FI bQ j w hj hw).2 kt
    ·rw [e] at hw;exact absurd (nI hw) (by exact Nat.not_lt_of_le hj)
   grow:=fun t ht=>by
    have gk:=hb (t+1) ht;rcases step n F s0 (hl t ht) with ⟨p,hp,mi,_,e⟩ | ⟨p,hp,_,_,e⟩ | ⟨_,_,e⟩
    ·have:=WV hF (gd t) hp mi (by rw [<-e];exact gk);show (run n F s0 (t+1)).rows.length<=(run n F s0 t).rows.length+20;rw [e];lia
    ·have:=P_ hF (gd t) hp (by rw [<-e];exact gk);show (run n F s0 (t+1)).rows.length<=(run n F s0 t).rows.length+20;rw [e];lia
    ·show (run n F s0 (t+1)).rows.length<=_;rw [e];exact Nat.le_add_right _ _
   we:=fun t ht yh=>by
    rcases step n F s0 (hl t ht) with ⟨p,hp,_,jH,_⟩ | ⟨p,hp,_,_,e⟩ | ⟨_,_,e⟩
    ·exact absurd jH (yh _ _)
    ·have:=P_ hF (gd t) hp (by rw [<-e];exact hb (t+1) ht);show (run n F s0 (t+1)).rows.length<=(run n F s0 t).rows.length+8;rw [e];lia
    ·show (run n F s0 (t+1)).rows.length<=_;rw [e];exact Nat.le_add_right _ _
   wg:=fun t ht yh hnw=>by
    rcases step n F s0 (hl t ht) with ⟨p,hp,_,jH,_⟩ | ⟨p,hp,_,zH,_⟩ | ⟨_,_,e⟩
    ·exact absurd jH (yh _ _)
    ·exact absurd zH (hnw _ _)
    ·show (run n F s0 (t+1)).rows.length=_;rw [e]
   gw:=fun t0 t a b v ht h0 h1 hv gh=>by
    have hv:val (run n F s0 t0) (true,a,b)=some v:=hv;have gh:val (run n F s0 t) (true,a,b)=some v:=gh;obtain ⟨j,w,hj,hw,hk,hwv⟩:=AB (gd t0) hv;obtain ⟨j',w',jZ,lO,mM,K0⟩:=AB (gd t) gh;have ejj:j=j':=g8 fun c=>Yk h1 (gd t0) (gd t) (hb t ht) hj jZ c (gh.trans hv.symm);subst ejj;obtain ⟨kt,ka,kb⟩:=iD hk;have Sv:=nI hw;have Lp:j<t:=by
     have h0:(run n F s0 t0).rows.length<=t:=h0;lia
    obtain ⟨p,hp⟩:∃p,ah (run n F s0 j) j=some p:=⟨_,by unfold ah;rw [iR (hl j (by lia))];rfl⟩;have gz:=c8 (tI (n:=n) (F:=F) (s:=s0) (bx Lp)).1 hp;rw [lO] at gz;cases gz;obtain ⟨kt',ka',kb'⟩:=iD mM;obtain ⟨i,hi,sF⟩:=(gd j).top j w' hp;rw [mM] at sF;have:=P0 (bx Lp) (gd j) sF jZ;have e:i=j:=by lia
    rw [e] at sF;exact ⟨j,Lp,⟨w',hp,kt',ka',kb',sF⟩,by show val (run n F s0 j) (true,a,b)=some v;rw [pB sF hp,K0]⟩
   drop:=fun t t' a b v v' lP hT h h' hv gh=>by
    obtain ⟨w,h1,h2,h3,h4,h5,_⟩:=il t a b h;obtain ⟨w',lR,rj,rh,mS,Cb,_⟩:=il t' a b h';have hv:val (run n F s0 t) (true,a,b)=some v:=hv;have gh:val (run n F s0 t') (true,a,b)=some v':=gh;rw [hv] at h5;rw [gh] at Cb;cases h5;cases Cb;have:=(gd t').drop (hb t' (by exact bx hT)) t t' w w' (c8 (tI (bx lP)).1 h1) lR (by unfold ao.key;rw [h2,h3,h4,rj,rh,mS]) lP;unfold eA at this;rw [h2] at this;simp at this;exact this
   vC:=fun t t' a b v v' lP hT h h' hv gh=>by
    obtain ⟨w,h1,h2,h3,h4,h5,_⟩:=kf t a b h;obtain ⟨w',lR,rj,rh,mS,Cb,_⟩:=kf t' a b h';have hv:val (run n F s0 t) (false,a,b)=some v:=hv;have gh:val (run n F s0 t') (false,a,b)=some v':=gh;rw [hv] at h5;rw [gh] at Cb;cases h5;cases Cb;have:=(gd t').drop (hb t' (by exact bx hT)) t t' w w' (c8 (tI (bx lP)).1 h1) lR (by unfold ao.key;rw [h2,h3,h4,rj,rh,mS]) lP;unfold eA at this;rw [h2] at this;simp at this;exact this
   once:=fun t t' a b lP hT h h'=>by
    obtain ⟨w,h1,h2,h3,h4,_,_⟩:=il t a b h;obtain ⟨w',lR,rj,rh,mS,_,_⟩:=il t' a b h';obtain ⟨_,_,_,_,_,h5⟩:=h;exact once (true,a,b) t t' w w' lP h1 lR (by unfold ao.key;rw [rj,rh,mS]) h5
   nK:=fun t t' a b lP hT h h'=>by
    obtain ⟨w,h1,h2,h3,h4,_,h5⟩:=kf t a b h;obtain ⟨w',lR,rj,rh,mS,_,_⟩:=kf t' a b h';exact once (false,a,b) t t' w w' lP h1 lR (by unfold ao.key;rw [rj,rh,mS]) h5 }
variable {n:Nat} {F:cv} {s0:St}
theorem Yo (h8:n<=8) (hF:jE n F ((60:Nat):Int)) (g0:cy n s0) (told:∀i,0<i->i<n->(∃v,v<=((60:Nat):Int)/\val s0 (true,0,i)=some v)/\∃v,v<=0/\val s0 (true,i,0)=some v) (w0:∀a b,val s0 (false,a,b)=none) (h0:s0.rows.length<=1000):
 ∃T,((run n F s0 T).rows.length<=T\/(run n F s0 T).bar≠none)/\(∀t,t<T->t<(run n F s0 t).rows.length/\(run n F s0 t).bar=none)/\∀t,t<=T->(run n F s0 t).rows.length<=16000000:=by
 have key:∀T,(∀t,t<T->t<(run n F s0 t).rows.length/\(run n F s0 t).bar=none)->(run n F s0 T).rows.length<=15900000+26:=fun T h=>by
  cases T with
  | zero=>exact dY h0 (by decide)
  | succ T=>
   have b:=(Vt (l:=60) (mo:=60) h8 hF g0 told w0 (T:=T) (fun t ht=>(h t (by exact Nat.le.step ht)).1) (fun t ht=>(h t (by lia)).2)).rows;have b:(run n F s0 T).rows.length<=(run n F s0 0).rows.length+1568*(7*(7*(60+1)+7*(60+1)+1))+20*(56*(2*60+1))+8*((56*(2*60+1)+56*(60+60+1))*56+(56*(60+2*60+1)+56)):=b;have e0:(run n F s0 0).rows.length=s0.rows.length:=rfl;have l:=Wu (n:=n) (F:=F) (at_:=T) (s:=run n F s0 T) h8;have l:(run n F s0 (T+1)).rows.length<=(run n F s0 T).rows.length+26:=l;rw [e0] at b;lia
 have hex:∃T,(run n F s0 T).rows.length<=T\/(run n F s0 T).bar≠none:=g8 fun hn=>by
  have all:∀t,t<(run n F s0 t).rows.length/\(run n F s0 t).bar=none:=fun t=>⟨g8 fun c=>hn ⟨t,.inl (by exact lU c)⟩,g8 fun c=>hn ⟨t,.inr c⟩⟩;have h1:=key 16000000 fun t _=>all t;have h2:=(all 16000000).1;lia
 have least:∀N,(∃T,T<=N/\((run n F s0 T).rows.length<=T\/(run n F s0 T).bar≠none)/\∀t,t<T->t<(run n F s0 t).rows.length/\(run n F s0 t).bar=none)\/∀t,t<=N->t<(run n F s0 t).rows.length/\(run n F s0 t).bar=none:=fun N=>by
  induction N with
  | zero=>
   by_cases c:(run n F s0 0).rows.length<=0\/(run n F s0 0).bar≠none
   ·exact .inl ⟨0,aF _,c,fun t ht=>absurd ht (sQ _)⟩
   ·refine .inr fun t ht=>?_;rw [show t=0 by lia];exact ⟨g8 fun z=>c (.inl (by exact lU z)),g8 fun z=>c (.inr z)⟩
  | succ N ih=>
   rcases ih with ⟨T,h1,h2,h3⟩ | h
   ·exact .inl ⟨T,by exact Nat.le.step h1,h2,h3⟩
   ·by_cases c:(run n F s0 (N+1)).rows.length<=N+1\/(run n F s0 (N+1)).bar≠none
    ·exact .inl ⟨N+1,aF _,c,fun t ht=>h t (by exact Nat.le_of_lt_succ ht)⟩
    ·refine .inr fun t ht=>?_
     by_cases e:t=N+1
     ·rw [e];exact ⟨g8 fun z=>c (.inl (by lia)),g8 fun z=>c (.inr z)⟩
     ·exact h t (by lia)
 obtain ⟨T0,F9⟩:=hex;rcases least T0 with ⟨T,_,h2,h3⟩ | h
 ·exact ⟨T,h2,h3,fun t ht=>dY (key t fun s hs=>h3 s (by lia)) (by lia)⟩
 ·have:=h T0 (aF _);rcases F9 with z | z
  ·omega
  ·exact absurd this.2 z
end MU
set_option maxRecDepth 100000
namespace L2
theorem M7 {c A B:Prop} [Decidable c] (hc:¬c) (h:A):if (!decide c)=true then A else B:=by
 rw [eP hc];exact iN h
end L2
namespace Y0
open PySem L2
noncomputable def me (tie:Bool):Str:=if tie=true then "tie" else "wait"
noncomputable def lG (x:MU.ao):List V:=[.str (me x.tie),.int (x.a:Int),.int (x.b:Int),.int x.v]
noncomputable def iC (H:Hp) (q:Addr) (x:MU.ao):Prop:=H q=some (.tup (lG x))
theorem iC.same (h:iC H q x) (s:aM H H'):iC H' q x:=s _ _ h
structure mf (H:Hp) (d:Addr) (F:MU.cv):Prop where
 at_:∃kvs:List (Key×V),H d=some (.dK kvs)/\(kvs.length<=100/\∀kv∈kvs,∃e:Nat,kv.1=Sum.inl (e:Int))/\(∀e:Nat,F e=none->eK kvs (.inl (e:Int))=none)/\∀(e:Nat) f,F e=some f->∃p,eK kvs (.inl (e:Int))=some (.ref p)/\H p=some (.tup [.int (f.1:Int),.int f.2.1,.int f.2.2])
theorem mf.same (h:mf H d F) (s:aM H H'):mf H' d F:=by
 obtain ⟨kvs,h1,h2,h3,h4⟩:=h.at_;refine ⟨kvs,s _ _ h1,h2,h3,fun e f hf=>?_⟩;obtain ⟨p,q1,q2⟩:=h4 e f hf;exact ⟨p,q1,s _ _ q2⟩
noncomputable def nA (H:Hp) (Q:VK) (o:Option MU.ao):Prop:=(o=none->∀H',aM H H'->Q .bf H')/\∀x,o=some x->∀r H',H r=none->aM H H'->iC H' r x->Q (.ref r) H'
theorem nA.no (h:nA H Q o) (e:o=none):Q .bf H:=h.1 e H (aM.refl _)
theorem nA.yes (h:nA H Q o) (e:o=some x) (hr:H r=none):Q (.ref r) (upd H r (.tup (lG x))):=h.2 x e r _ hr (bj hr) aq
theorem Hk:decide (V.int a=V.int b)=decide (a=b):=decide_eq_decide.mpr ⟨fun q=>V.int.inj q,fun q=>by rw [q]⟩
theorem p_ {a b:Nat}:decide (V.int (a:Int)=V.int (b:Int))=decide (a=b):=decide_eq_decide.mpr ⟨fun q=>Int.ofNat.inj (V.int.inj q),fun q=>by rw [q]⟩
structure JC (mg:Str->Option Value):Prop where
 min:mg "min"=none
noncomputable def MX:Sp:=fun vs H Q _=>∃d q F x,vs=[.ref d,.ref q]/\mf H d F/\iC H q x/\x.tie=true/\nA H Q (MU.d8 F x)
noncomputable def Nc:Sp:=fun vs H Q _=>∃d q F x,vs=[.ref d,.ref q]/\mf H d F/\iC H q x/\x.tie=true/\nA H Q (MU.dC F x)
noncomputable def MF:Sp:=fun vs H Q _=>∃p q x y,vs=[.ref p,.ref q]/\iC H p x/\iC H q y/\x.tie=true/\y.tie=true/\nA H Q (MU.aI x y)
noncomputable def Nf:Sp:=fun vs H Q _=>∃d q F x fa,vs=[.ref d,.ref q]/\mf H d F/\iC H q x/\x.tie=false/\F x.b=some fa/\nA H Q (MU.dH F x)
noncomputable def Nt:Sp:=fun vs H Q _=>∃d p q F x y fa,vs=[.ref d,.ref p,.ref q]/\mf H d F/\iC H p x/\iC H q y/\x.tie=false/\y.tie=true/\F x.b=some fa/\nA H Q (MU.bq F x y)
noncomputable def NV:Sp:=fun vs H Q _=>∃d q F x fa,vs=[.ref d,.ref q]/\mf H d F/\iC H q x/\x.tie=false/\F x.b=some fa/\nA H Q (MU.d7 F x)
noncomputable def Nu:Sp:=fun vs H Q _=>∃q x,vs=[.ref q]/\iC H q x/\Q (.bl (decide (MU.iL x))) H
theorem Ra:cF ["falls","tie","end"] ["falls","tie"] (aZ eE):=cT
theorem uh (F:Fn K mg "by_late" eE ["falls","tie"] f fd):aw P w K mg base ax 1 f fd ["falls","tie"] MX:=by
 refine F.F.ok Ra (fun _ _ _ _ h=>?_) fun _ A _ s H _ Q E hr h=>?_
 ·obtain ⟨_,_,_,_,rfl,_⟩:=h;rfl
 ·obtain ⟨d,q,Fa,x,rfl,FA,hw,ht,G⟩:=h;have hu:=jK hr;refine ⟨_,cC (cI 2 Ra.nd (aE (pv 1)))
   (cC (d0 (PW.pt (rQ (vi (AR hu (pv 2) (pv 0)) (by with_unfolding_all rfl)) (vj (cV fw (aE (pv 1)) (pv 2))))) (az (c7 j7)) d9)
   (az (c7 (eU (pD fh (aE (pv 1)) (pv 2) (cG iO (aE (kD hu (pv 0) (pv 2) (fun _ _=>rfl))) (aE (pv 1)))))))),?_⟩
  obtain ⟨kvs,hd,hl,f0,f1⟩:=FA.at_;refine ⟨_,rfl,a9 hw rfl ⟨_,rfl,_,rfl,d,_,rfl,eS.k (k:=Sum.inl (x.b:Int)) hd,_,rfl,?_⟩⟩
  cases hf:Fa x.b with
  | none=>
   rw [f0 _ hf];refine iN (G.no ?_);unfold MU.d8;rw [hf];split<;>rfl
  | some fa=>
   obtain ⟨p,e1,e2⟩:=f1 _ _ hf;rw [e1];refine dO ⟨_,rfl,a9 hw rfl ⟨_,rfl,rfl,_,rfl,?_⟩⟩;rw [p_]
   by_cases c:x.a=x.b
   ·refine gr c (G.no ?_);unfold MU.d8;rw [if_neg fun z=>z.2 c]
   ·refine ix c ?_;have hg:MU.d8 Fa x=some ⟨false,x.a,x.b,fa.2.2-x.v⟩:=by
     unfold MU.d8;rw [if_pos ⟨ht,c⟩,hf];rfl
    refine ⟨_,rfl,a9 hw rfl ⟨_,rfl,_,rfl,_,rfl,d,_,rfl,e1▸eS.k (k:=Sum.inl (x.b:Int)) hd,?_⟩⟩;refine a9 e2 rfl ⟨_,rfl,a9 hw rfl ⟨_,_,rfl,rfl,eW rfl,fun r bo=>G.yes hg bo⟩⟩
theorem MK:cF ["falls","tie","end"] ["falls","tie"] (aZ eD):=cT
theorem ub (F:Fn K mg "by_soon" eD ["falls","tie"] f fd):aw P w K mg base ax 1 f fd ["falls","tie"] Nc:=by
 refine F.F.ok MK (fun _ _ _ _ h=>?_) fun _ A _ s H _ Q E hr h=>?_
 ·obtain ⟨_,_,_,_,rfl,_⟩:=h;rfl
 ·obtain ⟨d,q,Fa,x,rfl,FA,hw,ht,G⟩:=h;have hu:=jK hr;refine ⟨_,cC (cI 2 MK.nd (aE (pv 1)))
   (cC (d0 (PW.pt (rQ (vi (AR hu (pv 2) (pv 0)) (by with_unfolding_all rfl)) (rQ (cV fw (aE (pv 1)) (pv 2)) (vj (cV Ho (aE (pv 1)) aH))))) (az (c7 j7)) d9)
   (az (c7 (eU (pD fh (aE (kD hu (pv 0) (pv 2) (fun _ _=>rfl))) (aE (pv 1)) (cG iE (aE (kD hu (pv 0) (pv 2) (fun _ _=>rfl))) (aE (pv 1)))))))),?_⟩
  obtain ⟨kvs,hd,hl,f0,f1⟩:=FA.at_;refine ⟨_,rfl,a9 hw rfl ⟨_,rfl,_,rfl,d,_,rfl,eS.k (k:=Sum.inl (x.a:Int)) hd,_,rfl,?_⟩⟩
  cases hf:Fa x.a with
  | none=>
   rw [f0 _ hf];refine iN (G.no ?_);unfold MU.dC;rw [hf];split<;>rfl
  | some fa=>
   obtain ⟨p,e1,e2⟩:=f1 _ _ hf;rw [e1];refine dO ⟨_,rfl,a9 hw rfl ⟨_,rfl,rfl,_,rfl,?_⟩⟩;rw [p_]
   by_cases c:x.b=x.a
   ·refine gr c (G.no ?_);unfold MU.dC;rw [if_neg fun z=>z.2.1 c.symm]
   ·refine ix c ⟨_,rfl,a9 hw rfl ⟨_,_,rfl,rfl,_,rfl,?_⟩⟩
    by_cases c2:x.v<0
    ·refine ix (by exact Int.not_le.mpr c2) ?_;have hg:MU.dC Fa x=some ⟨true,fa.1,x.b,fa.2.1+x.v⟩:=by
      unfold MU.dC;rw [if_pos ⟨ht,fun z=>c z.symm,c2⟩,hf];rfl
     refine ⟨_,rfl,_,rfl,d,_,rfl,e1▸eS.k (k:=Sum.inl (x.a:Int)) hd,?_⟩;refine a9 e2 rfl ⟨_,rfl,a9 hw rfl ⟨_,rfl,_,rfl,d,_,rfl,e1▸eS.k (k:=Sum.inl (x.a:Int)) hd,?_⟩⟩;refine a9 e2 rfl ⟨_,rfl,a9 hw rfl ⟨_,_,rfl,rfl,eW rfl,fun r bo=>G.yes hg bo⟩⟩
    ·refine gr (by lia) (G.no ?_);unfold MU.dC;rw [if_neg fun z=>c2 z.2.2]
theorem Vw:cF ["first","second"] ["first","second"] (aZ f9):=cT
theorem x9 (F:Fn K mg "by_sum" f9 ["first","second"] f fd):aw P w K mg base ax 1 f fd ["first","second"] MF:=by
 refine F.F.ok Vw (fun _ _ _ _ h=>?_) fun _ A _ s H _ Q E hr h=>?_
 ·obtain ⟨_,_,_,_,rfl,_⟩:=h;rfl
 ·obtain ⟨p,q,x,y,rfl,hx,hy,tx,ty,G⟩:=h;refine ⟨_,cC (d0 (cV De (aE (pv 0)) (aE (pv 1))) (az (c7 j7)) d9)
   (az (c7 (eU (pD fh (aE (pv 0)) (aE (pv 1)) (cG iE (aE (pv 0)) (aE (pv 1))))))),?_⟩
  refine ⟨_,rfl,a9 hx rfl ⟨_,rfl,a9 hy rfl ⟨rfl,_,rfl,?_⟩⟩⟩;rw [p_]
  by_cases c:x.b=y.a
  ·refine uZ c ?_;have hg:MU.aI x y=some ⟨true,x.a,y.b,x.v+y.v⟩:=if_pos ⟨tx,ty,c⟩;exact ⟨_,rfl,a9 hx rfl ⟨_,rfl,a9 hy rfl ⟨_,rfl,a9 hx rfl ⟨_,rfl,a9 hy rfl ⟨_,_,rfl,rfl,eW rfl,fun r bo=>G.yes hg bo⟩⟩⟩⟩⟩
  ·exact M7 c (G.no (if_neg fun z=>c z.2.2))
theorem Hw {a b:Int}:(if b<a then b else a)=min a b:=by
 rw [Int.min_def]
 by_cases c:b<a
 ·rw [if_pos c,if_neg (by exact Int.not_le.mpr c)]
 ·rw [if_neg c,if_pos (by lia)]
theorem NS:cF ["falls","wait","fall"] ["falls","wait"] (aZ eC):=cT
theorem t_ (F:Fn K mg "by_sure" eC ["falls","wait"] f fd) (T:JC mg):aw P w K mg base ax 1 f fd ["falls","wait"] Nf:=by
 refine F.F.ok NS (fun _ _ _ _ h=>?_) fun _ A _ s H _ Q E hr h=>?_
 ·obtain ⟨_,_,_,_,_,rfl,_⟩:=h;rfl
 ·obtain ⟨d,q,Fa,x,fa,rfl,FA,hw,ht,hf,G⟩:=h;have hu:=jK hr;refine ⟨_,cC (cI 2 NS.nd (kD hu (pv 0) (aE (pv 1)) (fun _ _=>rfl)))
   (az (c7 (eU (pD fh (aE (pv 1)) (aE (pv 2)) (yX zc (kE (zk rfl) (by rfl) T.min (by decide+kernel) (cf (aE (pv 1)) (aE (pv 2))))))))),?_⟩
  obtain ⟨kvs,hd,hl,f0,f1⟩:=FA.at_;obtain ⟨p,e1,e2⟩:=f1 _ _ hf;have hg:MU.dH Fa x=some ⟨true,x.a,fa.1,-min x.v fa.2.1⟩:=by
   unfold MU.dH;rw [if_pos ht,hf];rfl
  refine ⟨_,rfl,_,rfl,a9 hw rfl ⟨d,_,rfl,e1▸eS.k (k:=Sum.inl (x.b:Int)) hd,?_⟩⟩;refine ⟨_,rfl,a9 hw rfl ⟨_,rfl,a9 e2 rfl ⟨_,rfl,a9 hw rfl ⟨_,rfl,a9 e2 rfl ⟨_,_,rfl,_,rfl,eW rfl,fun r bo=>?_⟩⟩⟩⟩⟩;have:=G.yes hg bo;rw [Hw];exact this
theorem NR:cF ["falls","wait","tie","end"] ["falls","wait","tie"] (aZ eF):=cT
theorem ur (F:Fn K mg "by_back" eF ["falls","wait","tie"] f fd) (T:JC mg):aw P w K mg base ax 1 f fd ["falls","wait","tie"] Nt:=by
 refine F.F.ok NR (fun _ _ _ _ h=>?_) fun _ A _ s H _ Q E hr h=>?_
 ·obtain ⟨_,_,_,_,_,_,_,rfl,_⟩:=h;rfl
 ·obtain ⟨d,p,q,Fa,x,y,fa,rfl,FA,hx,hy,tx,ty,hf,G⟩:=h;have hu:=jK hr;refine ⟨_,cC (cI 3 NR.nd (aE (pv 1)))
   (cC (d0 (PW.pt (rQ (cV De (aE (pv 2)) (aE (pv 1))) (vj (cV fw (aE (pv 2)) (pv 3))))) (az (c7 j7)) d9)
   (az (c7 (eU (pD fh (aE (pv 2)) (pv 3) (cG iO (kE (zk rfl) (by rfl) T.min (by decide+kernel) (cf (aE (pv 1)) (aE (kD hu (pv 0) (pv 3) (fun _ _=>rfl))))) (aE (pv 2)))))))),?_⟩
  obtain ⟨kvs,hd,hl,f0,f1⟩:=FA.at_;obtain ⟨pp,e1,e2⟩:=f1 _ _ hf;refine ⟨_,rfl,a9 hx rfl ⟨_,rfl,a9 hy rfl ⟨_,rfl,a9 hx rfl ⟨rfl,_,rfl,?_⟩⟩⟩⟩;rw [p_]
  by_cases c:y.b=x.a
  ·refine uZ c ⟨_,rfl,a9 hy rfl ⟨_,rfl,rfl,_,rfl,?_⟩⟩;rw [p_]
   by_cases c2:y.a=x.b
   ·exact gr c2 (G.no (if_neg fun z=>z.2.2.2 c2))
   ·refine ix c2 ?_;have hg:MU.bq Fa x y=some ⟨false,y.a,x.b,min x.v fa.2.2-y.v⟩:=by
     unfold MU.bq;rw [if_pos ⟨tx,ty,c,c2⟩,hf];rfl
    refine ⟨_,rfl,a9 hy rfl ⟨_,rfl,_,rfl,a9 hx rfl ⟨_,rfl,_,rfl,d,_,rfl,e1▸eS.k (k:=Sum.inl (x.b:Int)) hd,?_⟩⟩⟩;refine a9 e2 rfl ⟨_,_,rfl,_,rfl,a9 hy rfl ⟨_,_,rfl,rfl,eW rfl,fun r bo=>?_⟩⟩;have:=G.yes hg bo;rw [Hw];exact this
  ·exact M7 c (G.no (if_neg fun z=>c z.2.2.1))
theorem IC:cF ["falls","wait","end","other"] ["falls","wait"] (aZ dD):=cT
theorem qE (F:Fn K mg "by_cross" dD ["falls","wait"] f fd) (T:JC mg):aw P w K mg base ax 1 f fd ["falls","wait"] NV:=by
 refine F.F.ok IC (fun _ _ _ _ h=>?_) fun _ A _ s H _ Q E hr h=>?_
 ·obtain ⟨_,_,_,_,_,rfl,_⟩:=h;rfl
 ·obtain ⟨d,q,Fa,x,fa,rfl,FA,hw,ht,hf,G⟩:=h;have hu:=jK hr;refine ⟨_,cC (cI 2 IC.nd (aE (pv 1)))
   (cC (d0 (PW.pt (rQ (vi (AR hu (aE (pv 1)) (pv 0)) (by with_unfolding_all rfl)) (rQ (cV fw (aE (pv 1)) (pv 2)) (vj (cV ko (aE (pv 1)) aH))))) (az (c7 j7)) d9)
   (cC (cI 3 IC.nd (kD hu (pv 0) (aE (pv 1)) (fun _ _=>rfl)))
   (az (c7 (eU (pD fh (aE (pv 3)) (pv 2) (cG iO (kE (zk rfl) (by rfl) T.min (by decide+kernel) (cf (aE (pv 1)) (aE (kD hu (pv 0) (pv 2) (fun _ _=>rfl))))) (aE (pv 3))))))))),?_⟩
  obtain ⟨kvs,hd,hl,f0,f1⟩:=FA.at_;obtain ⟨pp,e1,e2⟩:=f1 _ _ hf;refine ⟨_,rfl,a9 hw rfl ⟨_,rfl,a9 hw rfl ⟨_,rfl,d,_,rfl,eS.k (k:=Sum.inl (x.a:Int)) hd,_,rfl,?_⟩⟩⟩
  cases ho:Fa x.a with
  | none=>
   rw [f0 _ ho];refine iN (G.no ?_);unfold MU.d7;rw [ho];split<;>rfl
  | some oa=>
   obtain ⟨po,o1,o2⟩:=f1 _ _ ho;rw [o1];refine dO ⟨_,rfl,a9 hw rfl ⟨_,rfl,rfl,_,rfl,?_⟩⟩;rw [p_]
   by_cases c:x.a=x.b
   ·refine gr c (G.no ?_);unfold MU.d7;rw [if_neg fun z=>z.2.1 c]
   ·refine ix c ⟨_,rfl,a9 hw rfl ⟨_,_,rfl,rfl,_,rfl,?_⟩⟩
    by_cases c2:0<x.v
    ·refine ix (by exact Int.not_le.mpr c2) ?_;have hg:MU.d7 Fa x=some ⟨false,oa.1,x.b,min x.v fa.2.2-oa.2.1⟩:=by
      unfold MU.d7;rw [if_pos ⟨ht,c,c2⟩,ho,hf];rfl
     refine ⟨_,rfl,_,rfl,a9 hw rfl ⟨d,_,rfl,o1▸eS.k (k:=Sum.inl (x.a:Int)) hd,?_⟩⟩;refine ⟨_,rfl,a9 o2 rfl ⟨_,rfl,_,rfl,a9 hw rfl ⟨_,rfl,_,rfl,d,_,rfl,e1▸eS.k (k:=Sum.inl (x.b:Int)) hd,?_⟩⟩⟩;refine a9 e2 rfl ⟨_,_,rfl,_,rfl,a9 o2 rfl ⟨_,_,rfl,rfl,eW rfl,fun r bo=>?_⟩⟩;have:=G.yes hg bo;rw [Hw];exact this
    ·refine gr (by lia) (G.no ?_);unfold MU.d7;rw [if_neg fun z=>c2 z.2.2]
theorem Vv:cF ["what"] ["what"] (aZ br):=cT
theorem DP:decide (V.str (me t)=V.str "tie")=t:=by
 cases t
 ·exact eP fun q=>absurd (V.str.inj q) (by decide+kernel)
 ·exact eQ rfl
theorem uq (F:Fn K mg "bars_every_hand" br ["what"] f fd):aw P w K mg base ax 1 f fd ["what"] Nu:=by
 refine F.F.ok Vv (fun _ _ _ _ h=>?_) fun _ A _ s H _ Q E hr h=>?_
 ·obtain ⟨_,_,rfl,_⟩:=h;rfl
 ·obtain ⟨q,x,rfl,hw,k⟩:=h;refine ⟨_,az (c7 (vg (kL fw (aE (pv 0)) fh) (vg (kL fw (aE (pv 0)) (aE (pv 0))) (vh (kL sZ (aE (pv 0)) aH))))),?_⟩;have eb:∀b:Bool,b=decide (MU.iL x)->Q (.bl b) H:=fun b e=>by rw [e];exact k
  refine ⟨_,rfl,a9 hw rfl ⟨rfl,_,rfl,?_⟩⟩;rw [DP]
  cases ht:x.tie with
  | false=>exact dO (eb _ (eP fun z=>by have:=z.1;rw [ht] at this;cases this).symm)
  | true=>
   refine iN ⟨_,rfl,a9 hw rfl ⟨_,rfl,a9 hw rfl ⟨rfl,_,rfl,?_⟩⟩⟩;rw [p_]
   by_cases c:x.a=x.b
   ·refine gr c ⟨_,rfl,a9 hw rfl ⟨_,_,rfl,rfl,eb _ ?_⟩⟩;exact decide_eq_decide.mpr ⟨fun z=>⟨ht,c,z⟩,fun z=>z.2.2⟩
   ·exact ix c (eb _ (eP fun z=>c z.2.1).symm)
noncomputable def Nl:List Int->Option (Nat×Int×Int)
 | [a,_,l,m]=>some (a.toNat,l,m)
 | _=>none
noncomputable def bR (F:List (List Int)):MU.cv:=fun e=>(F.find? fun r=>decide (r[1]?=some (e:Int))).bind Nl
theorem IU {F:List (List Int)} {e:Nat} (h:∀r∈F,r[1]?≠some (e:Int)):bR F e=none:=by
 unfold bR;have:(F.find? fun r=>decide (r[1]?=some (e:Int)))=none:=List.find?_eq_none.mpr fun r hr=>by simpa using h r hr
 rw [this];rfl
theorem di.find {n la:Int} {T F:List (List Int)} (h:di n la T F) {e:Nat} {f:Nat×Int×Int} (hf:bR F e=some f):∃a l m:Int,[a,(e:Int),l,m]∈F/\f=(a.toNat,l,m)/\0<=a/\a<n/\0<(e:Int)/\(e:Int)<n/\a≠(e:Int)/\1<=l/\l<=m/\m<=60:=by
 unfold bR at hf
 cases q:F.find? fun r=>decide (r[1]?=some (e:Int)) with
 | none=>rw [q] at hf;cases hf
 | some r=>
  rw [q] at hf;have hf:Nl r=some f:=hf;have hm:=List.mem_of_find?_eq_some q;have hp:=List.find?_some q;obtain ⟨a,b,l,m,rfl,x1,x2,x3,x4,x5,x6,x7,x8⟩:=h.f r hm;have hb:some b=some (e:Int):=of_decide_eq_true hp;cases hb;cases hf;exact ⟨a,l,m,hm,rfl,x1,x2,x3,x4,x5,x6,x7,x8⟩
theorem di.eO {n la:Int} {T F:List (List Int)} (h:di n la T F) {a l m:Int} {e:Nat} (hm:[a,(e:Int),l,m]∈F):bR F e=some (a.toNat,l,m):=by
 obtain ⟨i,hi⟩:=uS.mp hm;unfold bR
 cases q:F.find? fun r=>decide (r[1]?=some (e:Int)) with
 | none=>
  have:=List.find?_eq_none.mp q _ hm;simp at this
 | some r=>
  have Fq:=List.mem_of_find?_eq_some q;obtain ⟨j,hj⟩:=uS.mp Fq;have hp:r[1]?=some (e:Int):=of_decide_eq_true (List.find?_some (p:=fun r=>decide (r[1]?=some (e:Int))) q);have ij:=h.one i j _ _ hi hj (by rw [hp];rfl);subst ij;rw [hi] at hj;cases hj;rfl
theorem di.pO {n:Nat} {la:Int} {T F:List (List Int)} (h:di (n:Int) la T F):MU.jE n (bR F) ((60:Nat):Int):=by
 refine ⟨fun e f hf=>?_,fun e f hf=>?_,fun e f hf=>?_⟩
 ·obtain ⟨a,l,m,hm,rfl,x1,x2,x3,x4,_⟩:=h.find hf;exact ⟨by show a.toNat<n;lia,by lia⟩
 ·obtain ⟨a,l,m,hm,rfl,x1,x2,x3,x4,_⟩:=h.find hf;refine IU fun r hr=>?_;have:=h.own _ hm r hr;show r[1]?≠some ((a.toNat:Nat):Int);rw [show ((a.toNat:Nat):Int)=a by lia];exact fun z=>this z.symm
 ·obtain ⟨a,l,m,hm,rfl,x1,x2,x3,x4,x5,x6,x7,x8⟩:=h.find hf;exact ⟨x6,x7,x8⟩
theorem Wx {kvs:List (Key×V)} {k:Key} {v:V} {kv:Key×V} (h:kv∈eT kvs k v):kv.1=k\/∃qM∈kvs,kv.1=qM.1:=by
 unfold eT at h;split at h
 ·obtain ⟨qM,h0,rfl⟩:=gF.mp h;refine .inr ⟨qM,h0,?_⟩;split<;>rfl
 ·rcases kJ.mp h with h | h
  ·exact .inr ⟨kv,h,rfl⟩
  ·rw [jw.mp h];exact .inl rfl
noncomputable def HY (C:Addr):Sp:=fun vs H Q _=>∃p n la T F,vs=[.ref p]/\kM C H p n la T F/\di n la T F/\∀d H',H d=none->aM H H'->mf H' d (bR F)->Q (.ref d) H'
noncomputable abbrev nBe:List Str:=["web","found","one","other","least","most"]
theorem yO:cF nBe ["web"] (aZ bJ):=cT
theorem qG {f C fF:Addr} {fd zP:FuncData} (F:Fn K mg "falls_by_end" bJ ["web"] f fd) (TC:o_ K mg C) (mF:gq K C "falls" fF) (bF:dP K zP ["self"] []) (GF:aw P w K mg base ax 1 fF zP ["self"] (Ap C fun _ F=>F)):
 aw P w K mg base ax 2 f fd ["web"] (HY C):=by
 refine F.F.ok yO (fun _ _ _ _ h=>?_) fun _ A _ s H _ Q E hr h=>?_
 ·obtain ⟨_,_,_,_,_,rfl,_⟩:=h;rfl
 ·obtain ⟨p,n,la,rT,rF,rfl,W0,ae,k⟩:=h;have hu:=jK hr;refine ⟨_,aY (cI 1 yO.nd Px)
   (aY (iP PassesOwn.never rfl (gA (vw (pv 0) TC.cl mF GF hr bF .nil ee))
    (yZ rfl (eL (cj 2 yO.nd) (eL (cj 3 yO.nd) (eL (cj 4 yO.nd) (eL (cj 5 yO.nd) qg)))))
    (az (DA hu (pv 1) (pv 3) (eU (gD (pv 2) (pv 4) (pv 5))) rfl)))
   (az (c7 (pv 1)))),?_⟩
  refine fun N1 c1 d hd=>c1 _ _ ?_;have s1:=bj (o:=.dK []) hd;have e1:upd H d (.dK []) d=some (.dK []):=aq;generalize upd H d (.dK [])=H1 at*;obtain ⟨dx,ta,fa,ep,_,_⟩:=id W0;have nf:(o4 n la ta fa).lookup ("falls":Str)=none:=CU _ _ _ _ (by decide+kernel) (by decide+kernel) (by decide+kernel) (by decide+kernel);refine fun N2 c2=>⟨_,rfl,p,dx,_,rfl,s1 _ _ ep,nf,p,n,la,rT,rF,rfl,W0.same s1,fun l H2 hl s2 R2=>?_⟩;obtain ⟨qs,R⟩:=R2;have R:e_ H2 l qs rF:=R;refine ⟨l,rfl,⟨_,ay.of R.1⟩,?_⟩;have fl:=ae.fl;have sD:H2 d=some (.dK []):=s2 _ _ e1;have hdH:H d=none:=hd;refine kO (K:=K) (a:=l) (xs:=qs.map V.ref) (fun i aa H'=>∃v1 v2 v3 v4 kvs,aa=[some (.ref p),some (.ref d),v1,v2,v3,v4]/\H' d=some (.dK kvs)/\(kvs.length<=i/\∀kv∈kvs,∃e:Nat,kv.1=Sum.inl (e:Int))/\(∀e:Nat,(∀r∈rF.take i,r[1]?≠some (e:Int))->eK kvs (.inl (e:Int))=none)/\
   (∀a b le mo:Int,[a,b,le,mo]∈rF.take i->∃q,eK kvs (.inl b)=some (.ref q)/\H' q=some (.tup [.int a,.int le,.int mo]))/\∀b o,H2 b=some o->b≠d->H' b=some o)
   ⟨none,none,none,none,[],rfl,sD,⟨aF _,fun kv h=>nomatch h⟩,(fun e _=>rfl),(fun a b le mo h=>by simp at h),fun b o e _=>e⟩ ?_ ?_ ?_
  ·rintro i aa H3 _ ⟨v1,v2,v3,v4,kvs,rfl,_,_,_,_,kp⟩;exact ay.of (kp _ _ R.1 (aQ R.1 sD nofun))
  ·rintro i x aa H3 hx ⟨v1,v2,v3,v4,kvs,rfl,ed,⟨hlen,mJ⟩,h0,h1,kp⟩;obtain ⟨q,r,rfl,hq,bo,jq⟩:=R.get hx;obtain ⟨a',b',le,mo,rfl,x1,x2,x3,x4,_⟩:=ae.f r (dZ bo);have hi:i<rF.length:=(ff.mp bo).1;refine ⟨q,_,rfl,dz.of (kp _ _ jq (aQ jq sD nofun)),rfl,_,_,rfl,_,_,rfl,_,_,rfl,_,_,rfl,rfl,?_⟩;refine ⟨_,rfl,_,rfl,_,rfl,eW rfl,fun t ht=>?_⟩;have td:t≠d:=bp (aO ed ht);refine ⟨_,rfl,_,rfl,d,_,rfl,rL.k (k:=Sum.inl b') (by rw [au (bp td)];exact ed) (fi (by lia)),?_⟩;have tk:rF.take (i+1)=rF.take i++[[a',b',le,mo]]:=by rw [jC,bo];rfl
   refine ⟨_,_,_,_,_,rfl,aq,⟨dY (zw _ _ _) (by lia),fun kv ef=>?_⟩,fun e he=>?_,fun a b l2 m2 hm=>?_,fun b o e ne=>?_⟩
   ·rcases Wx ef with z | ⟨qM,z0,z⟩
    ·exact ⟨b'.toNat,by rw [z,ot (by exact gm x3)]⟩
    ·rw [z];exact mJ qM z0
   ·rw [tk] at he;have dJ:b'≠(e:Int):=fun z=>he [a',b',le,mo] (ng _ iu) (by rw [<-z];rfl);rw [AK,if_neg (fun z=>dJ (Sum.inl.inj z).symm)];exact h0 e fun r hr=>he r (lV _ hr)
   ·rw [tk] at hm;rcases kJ.mp hm with hm | hm
    ·have F7:b≠b':=fun z=>by
      obtain ⟨j,hj⟩:=uS.mp hm;have Sv:j<i:=by
       have:=(ff.mp hj).1;rw [iA] at this;lia
      have jZ:rF[j]?=some [a,b,l2,m2]:=by
       rw [List.getElem?_take] at hj;rw [if_pos Sv] at hj;exact hj
      have:=ae.one j i _ _ jZ bo (by rw [z];rfl);lia
     obtain ⟨q',Fm,qS⟩:=h1 a b l2 m2 hm;refine ⟨q',by rw [AK,if_neg (fun z=>F7 (Sum.inl.inj z))];exact Fm,?_⟩;rw [au (aQ qS ed nofun),au (aO qS ht)];exact qS
    ·have hm:=jw.mp hm;cases hm;refine ⟨t,by rw [AK,if_pos rfl],?_⟩;rw [au td,aq]
   ·rw [au ne,au (aO (kp _ _ e ne) ht)];exact kp _ _ e ne
  ·rintro aa H3 ⟨v1,v2,v3,v4,kvs,rfl,ed,hlen,h0,h1,kp⟩;have hle:rF.take (qs.map V.ref).length=rF:=by rw [a7,R.len];exact ir
   rw [hle] at h0 h1;rw [a7,R.len] at hlen;refine c2 _ _ ⟨_,rfl,k d H3 hd (fun b o e=>kp _ _ (s2 _ _ (s1 _ _ e)) (aO e hdH)) ⟨kvs,ed,by lia,fun e he=>h0 e fun r hr z=>?_,fun e f hf=>?_⟩⟩
   ·obtain ⟨a',b',le,mo,rfl,_⟩:=ae.f r hr;have z:some b'=some (e:Int):=z;cases z;rw [ae.eO hr] at he;cases he
   ·obtain ⟨a,l',m',hm,rfl,x1,_⟩:=ae.find hf;obtain ⟨q,Fm,qS⟩:=h1 _ _ _ _ hm;refine ⟨q,Fm,?_⟩;rw [qS];show some (HO.tup [.int a,.int l',.int m'])=some (HO.tup [.int ((a.toNat:Nat):Int),.int l',.int m']);rw [show ((a.toNat:Nat):Int)=a by lia]
end Y0
namespace L2
open PySem PySem.Spec PyProof.Rows
noncomputable def wH:List Value->List Str->Bool
 | [],[]=>true
 | .str x _::vs,s::ss=>decide (x=s) && wH vs ss
 | _,_=>false
theorem Q3:∀{vs:List Value} {ss:List Str},wH vs ss=true->bw (ss.map V.str) vs
 | [],[],_=>.nil
 | .str x t::vs,s::ss,h=>by
  have h:(decide (x=s) && wH vs ss)=true:=h;rw [Bool.and_eq_true,ju] at h;obtain ⟨e,h2⟩:=h;subst e;exact .cons ⟨t,rfl⟩ (Q3 h2)
 | [],_::_,h=>by cases h
 | .none::_,_,h=>nomatch (show false=true from h)
 | .bool _::_,_,h=>nomatch (show false=true from h)
 | .int _ _::_,_,h=>nomatch (show false=true from h)
 | .float _ _::_,_,h=>nomatch (show false=true from h)
 | .str _ _::_,[],h=>nomatch (show false=true from h)
 | .bytes _ _::_,_,h=>nomatch (show false=true from h)
 | .ref _::_,_,h=>nomatch (show false=true from h)
 | .builtin _::_,_,h=>nomatch (show false=true from h)
 | .type _::_,_,h=>nomatch (show false=true from h)
 | .ellipsis::_,_,h=>nomatch (show false=true from h)
 | .notImplemented::_,_,h=>nomatch (show false=true from h)
noncomputable def OG (K:aL) (ss:List Str):Value->Bool
 | .ref b=>match K.lookup b with
  | some o=>(o.cls==.type "tuple") && (match o.data with
   | .seq its _=>decide (its.size<=sizeLine) && wH its.toList ss
   | _=>false)
  | none=>false
 | _=>false
theorem Q6 {K:aL} {ss:List Str} {v:Value} (h:OG K ss v=true):∃b,v=.ref b/\∀H,dz K H b (ss.map V.str):=by
 cases v with
 | ref b=>
  refine ⟨b,rfl,fun H=>.inr ?_⟩
  have h:(match K.lookup b with
   | some o=>(o.cls==.type "tuple") && (match o.data with
    | .seq its _=>decide (its.size<=sizeLine) && wH its.toList ss
    | _=>false)
   | none=>false)=true:=h
  cases q:K.lookup b with
  | none=>rw [q] at h;cases h
  | some o=>
   rw [q] at h
   have h:((o.cls==.type "tuple") && (match o.data with
    | .seq its _=>decide (its.size<=sizeLine) && wH its.toList ss
    | _=>false))=true:=h
   rw [Bool.and_eq_true] at h;obtain ⟨h1,h2⟩:=h
   cases d:o.data with
   | seq its n=>
    rw [d] at h2;have h2:(decide (its.size<=sizeLine) && wH its.toList ss)=true:=h2;rw [Bool.and_eq_true,ju] at h2;exact ⟨o,its,n,rfl,beq_iff_eq.mp h1,d,h2.1,Q3 h2.2⟩
   | _=>rw [d] at h2;cases h2
 | _=>cases h
noncomputable abbrev JA (K:aL) (a:Addr) (D:List (Str×List Str)):Prop:=KTD.tabLook (fun d v=>OG K d v) (fun b=>List.lookup b K) a D=true
section
variable {prog:Program} {w:World} {A:Around} {E:Value->Shared->Prop} {s:Shared} {a:Addr} {δ:Type} {R:δ->Value->Prop} {D:List (Str×δ)} {k:Str} {tk:Tok}
theorem Yl (T:KTD.TabOf R s.heap a D) (h1:∀d v,KTD.datumAt k D=some d->R d v->Q (some v) { s with toks:=s.toks+1 }) (h2:KTD.datumAt k D=none->Q none { s with toks:=s.toks+1 }):
 wpAny (model prog w) A (dictGet a (.str k tk)) Q E s:=by
 obtain ⟨_,o,es,ep,ho,hc,hd,hr⟩:=T;unfold dictGet
 try with_reducible refine wpAny_holding ?_
 refine aj (wpAny_pyHash_str (aj (KTD.kt_dictFind_strs (s:={ s with toks:=s.toks+1 }) ho hd (by obtain ⟨l⟩:=es;simpa using hr.exact) ?_)));have hq:Q (findBy (fun k v=>v.isStr k) es k) { s with toks:=s.toks+1 }:=by
  have hf:findBy (fun k v=>v.isStr k) es k=(es.toList.find? fun e=>e.key.isStr k).map (·.val):=by
   obtain ⟨l⟩:=es;simp [findBy]
  rw [hf]
  cases gb:KTD.datumAt k D with
  | some d=>obtain ⟨v,hv,jt⟩:=hr.find_some gb;rw [hv];exact h1 d v gb jt
  | none=>rw [hr.find_none gb];exact h2 gb
 rw [findBy_of_findIdx?] at hq
 cases hi:es.findIdx? fun e=>e.key.isStr k with
 | none=>rw [hi] at hq;exact bz hq
 | some i=>rw [hi] at hq;exact aj (wpAny_dictEntries (s:={ s with toks:=s.toks+1 }) ho hd (bz hq))
theorem Yc:MeetsIn prog w (Builtin.«dict.get» ⟨[.ref a,.str k tk],[]⟩) (fun _ R' s=>KTD.TabOf R s.heap a D/\(∀d v,KTD.datumAt k D=some d->R d v->R' (.ok (.ret v)) { s with toks:=s.toks+1 })/\(KTD.datumAt k D=none->R' (.ok (.ret .none)) { s with toks:=s.toks+1 })):=
 .of_wp fun A R' s ⟨T,h1,h2⟩=>by
  show wpAny _ _ (dictGet a (.str k tk)>>=_) _ _ s;refine aj (Yl T (fun d v ha hv=>bz ⟨v,rfl,h1 d v ha hv⟩) fun hn=>?_);show wpAny _ _ (Builtin.Dict.missed a (.str k tk)>>=_) _ _ _;exact aj (wpAny_missed_other T.1 (bz ⟨.none,rfl,h2 hn⟩))
end
noncomputable def VY (K:aL) (D:List (Str×List Str)) (td ty:TE):TE:=fun σ H Q=>td σ H fun x H1=>∃a,x=.ref a/\JA K a D/\ty σ H1 fun y H2=>∃z,y=.str z/\(∀ss,KTD.datumAt z D=some ss->∀b,(∀H',dz K H' b (ss.map V.str))->Q (.ref b) H2)/\(KTD.datumAt z D=none->Q .bf H2)
theorem X5 (ho:PE X o td) (he:PE X e ty) (m:M1 X o "get" apos e g7):PE X (.Call (.Attribute o "get" apos) [e] [] g7) (VY X.K D td ty):=by
 intro pins s σ H Q I h;refine wpAny_Call_method m.base m.m_ m.line PySem.F.plainAttrs_dict PySem.F.slot_dict_get PySem.F.type_dict_get (aA (ho pins s σ H _ I h) fun u s1 zz=>?_);obtain ⟨x,H1,I1,rx,a,ex,d,q1⟩:=zz;subst ex;obtain rfl:u=Value.ref a:=rx;have T:KTD.TabOf (fun (ss:List Str) v=>∃b,v=Value.ref b/\∀H,dz X.K H b (ss.map V.str)) s1.heap a D:=KTD.tab_of_look (fun d v z=>Q6 z) I1.lN d;obtain ⟨hsm,ob,es,ep,Ss,hc,sD,cz⟩:=id T;refine ⟨⟨ob,Ss,hc.1⟩,fun b e=>?_,?_⟩
 ·injection e with e
  subst e;exact ⟨ob,Ss,hc.2.1⟩
 rw [m.trees];refine Calls.callWith_builtin rfl (Calls.evalArgs_plain (Calls.spliced_cons (aA (he pins s1 σ H1 _ I1 q1) fun iv s2 zz=>Calls.spliced_nil ?_)));obtain ⟨y,H2,I2,ry,z,ey,g1,g2⟩:=zz;subst ey;obtain ⟨t,rfl⟩:=ry;have T2:KTD.TabOf (fun (ss:List Str) v=>∃b,v=Value.ref b/\∀H,dz X.K H b (ss.map V.str)) s2.heap a D:=KTD.tab_of_look (fun d v z=>Q6 z) I2.lN d;refine call_meetsIn PySem.F.slot_dict_get (show s2.TypeIs (.ref a) "dict" from ?_) PySem.F.entry_dict_get (PySem.F.args_dict_get_2 _ _) (Yc (D:=D)) ⟨T2,fun ss v ha hv=>?_,fun hn=>?_⟩
 ·obtain ⟨_,ob2,_,_,KZ,SE,_⟩:=id T2;exact ⟨ob2,KZ,SE.1⟩
 ·obtain ⟨b,rfl,hb⟩:=hv;exact ⟨.ref b,H2,I2.tok _,rfl,g1 ss ha b hb⟩
 ·exact ⟨.bf,H2,I2.tok _,rfl,g2 hn⟩
section
variable {X:Cx} {K:aL}
end
section
variable {X:Cx} {K:aL}
end
noncomputable def yR (xs ys:List V):Bool:=((List.range (min xs.length ys.length)).all fun j=>pQ (xs.getD j .bf) (ys.getD j .bf)) && xs.length==ys.length
theorem WN:∀{x:V},jy x=true->pQ x x=true
 | .bf,_=>rfl
 | .bl b,_=>(rE b:(b==b)=true)
 | .int i,_=>(rE i:(i==i)=true)
 | .str s,_=>(rE s:(s==s)=true)
 | .oX _,h=>by cases h
 | .Cc _,h=>by cases h
 | .ref _,h=>by cases h
 | .ty _,h=>by cases h
theorem Qr (f:xs.all jy=true):yR xs xs=true:=by
 unfold yR;rw [rE,Bool.and_true,rD];intro j hj;have hj:=List.mem_range.mp hj;rw [Nat.min_self] at hj;have g:xs[j]?=some (xs.getD j .bf):=by rw [uQ,iR hj];rfl
 exact WN (DO f g)
section
variable {X:Cx}
end
noncomputable def y_:V->Bool
 | .int _=>true
 | .str _=>true
 | _=>false
theorem XQ:∀{xs:List V},xs.all y_=true->xs.all jy=true:=fun {xs} h=>rD.mpr fun x hx=>by
 have:=rD.mp h x hx;cases x<;>first | rfl | cases this
theorem VM (h:y_ x=true) (h':y_ y=true):pQ x y=true↔x=y:=by
 cases x with
 | int i=>cases y with
  | int j=>show (i==j)=true↔_;rw [beq_iff_eq,V.int.injEq]
  | str s=>exact ⟨nofun,nofun⟩
  | _=>cases h'
 | str s=>cases y with
  | int j=>exact ⟨nofun,nofun⟩
  | str s'=>show (s==s')=true↔_;rw [beq_iff_eq,V.str.injEq]
  | _=>cases h'
 | _=>cases h
theorem Xl (h:xs.all y_=true) (h':ys.all y_=true):yR xs ys=true↔xs=ys:=by
 refine ⟨fun e=>?_,fun e=>by rw [e];exact Qr (XQ h')⟩;unfold yR at e;rw [Bool.and_eq_true,rD,beq_iff_eq] at e;obtain ⟨e1,e2⟩:=e;refine List.ext_getElem e2 fun i h1 h2=>?_;have:=e1 i (List.mem_range.mpr (by lia));rw [uQ,uQ,iR h1,iR h2] at this;exact (VM (rD.mp h _ (zT h1)) (rD.mp h' _ (zT h2))).mp this
section
variable {X:Cx} {K:aL}
noncomputable def UL (K:aL):R2:=fun x y H Q=>∃p q xs ys,x=.ref p/\y=.ref q/\dz K H p xs/\dz K H q ys/\xs.all jy=true/\ys.all jy=true/\Q (.bl (!yR xs ys)) H
theorem V8 (hK:X.K=K) (hu:X.A.units+64<cLine):fg X (compareOp .NotEq) (UL K):=by
 subst hK;intro pins s σ H x y v u Q I rx ry h;obtain ⟨p,q,xs,ys,rfl,rfl,h1,h2,f1,f2,hq⟩:=h;cases rx;cases ry;obtain ⟨us,r1,p1,_⟩:=I.tuple h1;obtain ⟨vs,r2,p2,_⟩:=I.tuple h2;have l1:=r1.length;have l2:=r2.length;refine SeqAt.RcNeAt.tuples p1 p2 (by lia) (VL r1 r2 f1 f2) _ _ _ _ ⟨.bl _,H,I,rfl,?_⟩;rw [iw,iw,<-l1,<-l2];exact hq
end
open PySem
theorem DW:∀{ss:List Str},(ss.map V.str).all jy=true
 | []=>rfl
 | s::r=>by
  rw [fU,List.all_cons,DW (ss:=r)];rfl
end L2
namespace Y0
open PySem L2
seal L2.PE L2.PA L2.PT L2.PS L2.gS L2.PG L2.lX L2.PI L2.PO
noncomputable abbrev yT:List (Str×List Str):=[("sum",["tie","tie"]),("late",["tie"]),("soon",["tie"]),("sure",["wait"]),("back",["wait","tie"]),("cross",["wait"])]
structure yH (K:aL) (mg:Str->Option Value):Prop where
 at_:∃u,mg "USED_KINDS"=some (.ref u)/\JA K u yT
 tuple:mg "tuple"=none
noncomputable def kq (xs:List MU.ao):List Str:=xs.map fun x=>me x.tie
inductive pe (F:MU.cv):Str->List MU.ao->Option MU.ao->Prop
 | sum (x y:MU.ao) (hx:x.tie=true) (hy:y.tie=true):pe F "sum" [x,y] (MU.aI x y)
 | aV (x:MU.ao) (hx:x.tie=true):pe F "late" [x] (MU.d8 F x)
 | b5 (x:MU.ao) (hx:x.tie=true):pe F "soon" [x] (MU.dC F x)
 | sure (x:MU.ao) (fa:Nat×Int×Int) (hx:x.tie=false) (hf:F x.b=some fa):pe F "sure" [x] (MU.dH F x)
 | back (x y:MU.ao) (fa:Nat×Int×Int) (hx:x.tie=false) (hy:y.tie=true) (hf:F x.b=some fa):pe F "back" [x,y] (MU.bq F x y)
 | a8 (x:MU.ao) (fa:Nat×Int×Int) (hx:x.tie=false) (hf:F x.b=some fa):pe F "cross" [x] (MU.d7 F x)
theorem pe.kinds (h:pe F word xs o):PyProof.Rows.KTD.datumAt word yT=some (kq xs)/\xs.length<=2:=by
 cases h with
 | sum x y hx hy=>refine ⟨?_,aF _⟩;unfold kq;rw [fU,fU,List.map_nil,hx,hy];decide+kernel
 | aV x hx=>refine ⟨?_,pV 1⟩;unfold kq;rw [fU,List.map_nil,hx];decide+kernel
 | b5 x hx=>refine ⟨?_,pV 1⟩;unfold kq;rw [fU,List.map_nil,hx];decide+kernel
 | sure x fa hx hf=>refine ⟨?_,pV 1⟩;unfold kq;rw [fU,List.map_nil,hx];decide+kernel
 | back x y fa hx hy hf=>refine ⟨?_,aF _⟩;unfold kq;rw [fU,fU,List.map_nil,hx,hy];decide+kernel
 | a8 x fa hx hf=>refine ⟨?_,pV 1⟩;unfold kq;rw [fU,List.map_nil,hx];decide+kernel
noncomputable def Vs (H:Hp) (l:Addr) (ps:List Addr) (xs:List MU.ao):Prop:=H l=some (.lst (ps.map V.ref))/\Paired (iC H) ps xs
noncomputable def Mis (word:Str) (xs:List MU.ao):Prop:=xs.length<=2/\∃ks,PyProof.Rows.KTD.datumAt word yT=some ks/\ks≠kq xs
noncomputable def PK:Sp:=fun vs H Q _=>∃d word ul ps F xs o,vs=[.ref d,.str word,.ref ul]/\mf H d F/\Vs H ul ps xs/\(pe F word xs o\/o=none/\Mis word xs)/\nA H Q o
theorem Ph:∀{xs ys:List Str},xs.map V.str=ys.map V.str->xs=ys
 | [],[],_=>rfl
 | x::xs,y::ys,h=>by
  rw [fU,fU,List.cons.injEq,V.str.injEq] at h;rw [h.1,Ph h.2]
 | [],_::_,h=>by cases h
 | _::_,[],h=>by cases h
theorem Qv {ss:List Str}:(ss.map V.str).all y_=true:=by rw [List.all_map];exact rD.mpr fun _ _=>rfl
theorem nA.same (g:nA H Q o) (s:aM H H1):nA H1 Q o:=⟨fun e H' s'=>g.1 e H' (s.trans s'),fun x e r H' hr s' h=>g.2 x e r H' (s.free hr) (s.trans s') h⟩
theorem Zm:cF ["falls","word","used"] ["falls","word","used"] (aZ bC):=cT
theorem Zg:i7 (aZ bC) ["falls","word","used"] (kh [(".0",.local),("what",.local)]) ["what"] [none]:=kj
theorem YK:(["what"]:List Str).Nodup:=by decide+kernel
theorem my (F:Fn K mg "what_follows" bC ["falls","word","used"] f fd) (T:yH K mg)
 (F1:Fn K mg "by_sum" f9 ["first","second"] f1 d1) (G1:aw P w K mg base ax 1 f1 d1 ["first","second"] MF)
 (F2:Fn K mg "by_late" eE ["falls","tie"] f2 d2) (G2:aw P w K mg base ax 1 f2 d2 ["falls","tie"] MX)
 (F3:Fn K mg "by_soon" eD ["falls","tie"] f3 d3) (G3:aw P w K mg base ax 1 f3 d3 ["falls","tie"] Nc)
 (F4:Fn K mg "by_sure" eC ["falls","wait"] f4 d4) (G4:aw P w K mg base ax 1 f4 d4 ["falls","wait"] Nf)
 (F5:Fn K mg "by_back" eF ["falls","wait","tie"] f5 d5) (G5:aw P w K mg base ax 1 f5 d5 ["falls","wait","tie"] Nt)
 (F6:Fn K mg "by_cross" dD ["falls","wait"] f6 d6) (G6:aw P w K mg base ax 1 f6 d6 ["falls","wait"] NV):
 aw P w K mg base ax 2 f fd ["falls","word","used"] PK:=by
 obtain ⟨u,mU,JN⟩:=T.at_;refine F.F.ok Zm (fun _ _ _ _ h=>?_) fun _ A _ s H _ Q E hr h=>?_
 ·obtain ⟨_,_,_,_,_,_,_,rfl,_⟩:=h;rfl
 ·obtain ⟨d,word,ul,ps,Fa,xs,o,rfl,FA,⟨zF,KO⟩,ask,G⟩:=h;refine ⟨_,aY (d0 (cV (V8 (K:=K) rfl hr.units) (vo QJ (by rfl) T.tuple (by decide+kernel) (cw (o5 rfl (gA (pv 2)) Zg (fun cl ex s0 H0=>⟨cj 0 YK,vy,aE (pv 0)⟩))))
   (X5 (D:=yT) (zf (v:=.ref u) rfl mU rfl) (pv 1) ⟨rfl,rfl,rfl,rfl⟩)) (az (c7 j7)) d9)
   (aY (d0 (cV fw (pv 1) fh) (az (c7 (cO G1 hr F1 (cf (cW df (pv 2) aH (fun _ _=>rfl)) (cW df (pv 2) aH (fun _ _=>rfl)))))) d9)
   (aY (d0 (cV fw (pv 1) fh) (az (c7 (cO G2 hr F2 (cf (pv 0) (cW df (pv 2) aH (fun _ _=>rfl)))))) d9)
   (aY (d0 (cV fw (pv 1) fh) (az (c7 (cO G3 hr F3 (cf (pv 0) (cW df (pv 2) aH (fun _ _=>rfl)))))) d9)
   (aY (d0 (cV fw (pv 1) fh) (az (c7 (cO G4 hr F4 (cf (pv 0) (cW df (pv 2) aH (fun _ _=>rfl)))))) d9)
   (aY (d0 (cV fw (pv 1) fh) (az (c7 (cO G5 hr F5 (gD (pv 0) (cW df (pv 2) aH (fun _ _=>rfl)) (cW df (pv 2) aH (fun _ _=>rfl)))))) d9)
   (az (c7 (cO G6 hr F6 (cf (pv 0) (cW df (pv 2) aH (fun _ _=>rfl))))))))))),?_⟩
  obtain ⟨ks,hk,yi,ask⟩:∃ks,PyProof.Rows.KTD.datumAt word yT=some ks/\xs.length<=2/\(ks=kq xs/\pe Fa word xs o\/ks≠kq xs/\o=none):=by
   rcases ask with a | ⟨rfl,h1,ks,h2,h3⟩
   ·exact ⟨_,a.kinds.1,a.kinds.2,.inl ⟨rfl,a⟩⟩
   ·exact ⟨ks,h2,h1,.inr ⟨h3,rfl⟩⟩
  have hlen:ps.length=xs.length:=Paired.length KO;refine fun N1 c1=>⟨_,rfl,ul,rfl,⟨_,ay.of zF⟩,fun Da dh=>?_⟩;refine o7 (xs:=ps.map V.ref) (fun j aa H'=>∃v,aa=[v]/\H' Da=some (.lst ((kq (xs.take j)).map V.str))/\aM H H') ⟨none,rfl,aq,bj dh⟩ ?_ ?_ ?_
  ·rintro j aa H2 _ ⟨v,rfl,_,s2⟩;exact ay.of (s2 _ _ zF)
  ·rintro j x aa H2 hx ⟨v,rfl,e2,s2⟩;rw [dt] at hx
   cases q:ps[j]? with
   | none=>rw [q] at hx;cases hx
   | some p=>
    rw [q] at hx;cases hx;obtain ⟨x,vT,hw⟩:=av KO q;have hj:j<xs.length:=(ff.mp vT).1;refine ⟨_,rfl,a9 (s2 _ _ hw) rfl ⟨_,e2,?_,_,rfl,?_,fun b o e=>?_⟩⟩
    ·unfold kq;rw [a7,a7,iA];exact fi (by lia)
    ·unfold kq;rw [aq,jC,vT,eJ,eJ];rfl
    ·rw [au (aO e dh)];exact s2 _ _ e
  rintro aa H2 ⟨v,rfl,e2,s2⟩;have bP:xs.take (ps.map V.ref).length=xs:=by rw [a7,hlen];exact ir
  rw [bP] at e2;refine ⟨Da,_,rfl,.inl ⟨ay.of e2,fun t ht=>?_⟩⟩;have s3:=s2.trans (bj (o:=.tup ((kq xs).map V.str)) ht);have e3:upd H2 t (.tup ((kq xs).map V.str)) t=some (.tup ((kq xs).map V.str)):=aq;generalize upd H2 t (.tup ((kq xs).map V.str))=H3 at*;refine ⟨u,rfl,JN,_,rfl,word,rfl,fun ss Sk b hb=>?_,fun hn=>by rw [hk] at hn;cases hn⟩;rw [hk] at Sk;cases Sk;refine ⟨t,b,_,_,rfl,rfl,dz.of e3,hb H3,DW,DW,_,rfl,?_⟩;rcases ask with ⟨rfl,ask⟩ | ⟨ne,rfl⟩
  case inr=>
   refine pk ?_ ((G.same s3).1 rfl _ (aM.refl _));show (!yR ((kq xs).map V.str) (ks.map V.str))=true;rw [Bool.not_eq_true'];exact Bool.eq_false_iff.mpr fun z=>ne (Ph ((Xl Qv Qv).mp z)).symm
  refine g9 (by rw [Qr DW];rfl) (c1 _ _ ?_);clear c1 N1;have yJ:=FA.same s3;have Aa:=G.same s3;have lg:=s3 _ _ zF;have oS:Paired (iC H3) ps xs:=dN KO fun p x e=>e.same s3
  cases ask with
  | sum x y hx hy=>
   cases oS with
   | cons w1 r=>cases r with
    | cons w2 r=>cases r
                 refine fun N1 c1=>⟨_,rfl,rfl,_,rfl,pk (by decide+kernel) ?_⟩;exact ⟨_,rfl,lM lg (j8 (j:=0) rfl) ⟨_,rfl,lM lg (j8 (j:=1) rfl) ⟨_,_,x,y,rfl,w1,w2,hx,hy,Aa⟩⟩⟩
  | aV x hx=>
   cases oS with
   | cons w1 r=>cases r
                refine fun N1 c1=>⟨_,rfl,rfl,_,rfl,g9 (by decide+kernel) (c1 _ _ ?_)⟩;refine fun N1 c1=>⟨_,rfl,rfl,_,rfl,pk (by decide+kernel) ?_⟩;exact ⟨_,rfl,_,rfl,lM lg (j8 (j:=0) rfl) ⟨d,_,Fa,x,rfl,yJ,w1,hx,Aa⟩⟩
  | b5 x hx=>
   cases oS with
   | cons w1 r=>cases r
                refine fun N1 c1=>⟨_,rfl,rfl,_,rfl,g9 (by decide+kernel) (c1 _ _ ?_)⟩;refine fun N1 c1=>⟨_,rfl,rfl,_,rfl,g9 (by decide+kernel) (c1 _ _ ?_)⟩;refine fun N1 c1=>⟨_,rfl,rfl,_,rfl,pk (by decide+kernel) ?_⟩;exact ⟨_,rfl,_,rfl,lM lg (j8 (j:=0) rfl) ⟨d,_,Fa,x,rfl,yJ,w1,hx,Aa⟩⟩
  | sure x fa hx hf=>
   cases oS with
   | cons w1 r=>cases r
                refine fun N1 c1=>⟨_,rfl,rfl,_,rfl,g9 (by decide+kernel) (c1 _ _ ?_)⟩;refine fun N1 c1=>⟨_,rfl,rfl,_,rfl,g9 (by decide+kernel) (c1 _ _ ?_)⟩;refine fun N1 c1=>⟨_,rfl,rfl,_,rfl,g9 (by decide+kernel) (c1 _ _ ?_)⟩;refine fun N1 c1=>⟨_,rfl,rfl,_,rfl,pk (by decide+kernel) ?_⟩;exact ⟨_,rfl,_,rfl,lM lg (j8 (j:=0) rfl) ⟨d,_,Fa,x,fa,rfl,yJ,w1,hx,hf,Aa⟩⟩
  | back x y fa hx hy hf=>
   cases oS with
   | cons w1 r=>cases r with
    | cons w2 r=>cases r
                 refine fun N1 c1=>⟨_,rfl,rfl,_,rfl,g9 (by decide+kernel) (c1 _ _ ?_)⟩;refine fun N1 c1=>⟨_,rfl,rfl,_,rfl,g9 (by decide+kernel) (c1 _ _ ?_)⟩;refine fun N1 c1=>⟨_,rfl,rfl,_,rfl,g9 (by decide+kernel) (c1 _ _ ?_)⟩;refine fun N1 c1=>⟨_,rfl,rfl,_,rfl,g9 (by decide+kernel) (c1 _ _ ?_)⟩;refine fun N1 c1=>⟨_,rfl,rfl,_,rfl,pk (by decide+kernel) ?_⟩;exact ⟨_,rfl,_,rfl,lM lg (j8 (j:=0) rfl) ⟨_,rfl,lM lg (j8 (j:=1) rfl) ⟨d,_,_,Fa,x,y,fa,rfl,yJ,w1,w2,hx,hy,hf,Aa⟩⟩⟩
  | a8 x fa hx hf=>
   cases oS with
   | cons w1 r=>cases r
                refine fun N1 c1=>⟨_,rfl,rfl,_,rfl,g9 (by decide+kernel) (c1 _ _ ?_)⟩;refine fun N1 c1=>⟨_,rfl,rfl,_,rfl,g9 (by decide+kernel) (c1 _ _ ?_)⟩;refine fun N1 c1=>⟨_,rfl,rfl,_,rfl,g9 (by decide+kernel) (c1 _ _ ?_)⟩;refine fun N1 c1=>⟨_,rfl,rfl,_,rfl,g9 (by decide+kernel) (c1 _ _ ?_)⟩;refine fun N1 c1=>⟨_,rfl,rfl,_,rfl,g9 (by decide+kernel) (c1 _ _ ?_)⟩;exact ⟨_,rfl,_,rfl,lM lg (j8 (j:=0) rfl) ⟨d,_,Fa,x,fa,rfl,yJ,w1,hx,hf,Aa⟩⟩
end Y0
namespace L2
open PySem
theorem nJ (h:¬g=f):ak f v ((g,x)::r)=(g,x)::ak f v r:=if_neg h
theorem Xe:ak f v ((f,x)::r)=(f,v)::r:=if_pos rfl
end L2
namespace Y0
open PySem L2
seal L2.PE L2.PA L2.PT L2.PS L2.gS L2.PG L2.lX L2.PI L2.PO
structure ph (K:aL) (mg:Str->Option Value) (C:Addr):Prop where
 cl:oZ K C
 nM:jn K C "many"
 nB:jn K C "by_end"
 nR:jn K C "rows"
 nE:jn K C "best"
 nX:jn K C "bar"
 len:mg "len"=none
 range:mg "range"=none
noncomputable def iU (n:Nat) (be rl bd:Addr) (bar:V):List (Str×V):=[("many",.int (n:Int)),("by_end",.ref be),("rows",.ref rl),("best",.ref bd),("bar",bar)]
theorem cl1:(("by_end":Str)=="many")=false:=by decide+kernel
theorem cl2:(("rows":Str)=="many")=false:=by decide+kernel
theorem cl3:(("rows":Str)=="by_end")=false:=by decide+kernel
theorem cl4:(("best":Str)=="many")=false:=by decide+kernel
theorem cl5:(("best":Str)=="by_end")=false:=by decide+kernel
theorem cl6:(("best":Str)=="rows")=false:=by decide+kernel
theorem cl7:(("bar":Str)=="many")=false:=by decide+kernel
theorem cl8:(("bar":Str)=="by_end")=false:=by decide+kernel
theorem cl9:(("bar":Str)=="rows")=false:=by decide+kernel
theorem Y7:(("bar":Str)=="best")=false:=by decide+kernel
section
variable {n:Nat} {be rl bd:Addr} {bar:V}
theorem MO:(iU n be rl bd bar).lookup ("many":Str)=some (.int (n:Int)):=by unfold iU;rw [gI,rE]
theorem M4:(iU n be rl bd bar).lookup ("by_end":Str)=some (.ref be):=by unfold iU;rw [gI,cl1,gI,rE]
theorem s_:(iU n be rl bd bar).lookup ("rows":Str)=some (.ref rl):=by unfold iU;rw [gI,cl2,gI,cl3,gI,rE]
theorem rR:(iU n be rl bd bar).lookup ("best":Str)=some (.ref bd):=by unfold iU;rw [gI,cl4,gI,cl5,gI,cl6,gI,rE]
theorem CY:(iU n be rl bd bar).lookup ("bar":Str)=some bar:=by unfold iU;rw [gI,cl7,gI,cl8,gI,cl9,gI,Y7,gI,rE]
theorem oz {m:Str} (h1:(m=="many")=false) (h2:(m=="by_end")=false) (h3:(m=="rows")=false) (h4:(m=="best")=false) (h5:(m=="bar")=false):(iU n be rl bd bar).lookup m=none:=by
 unfold iU;rw [gI,h1,gI,h2,gI,h3,gI,h4,gI,h5];rfl
theorem Z9:ak "bar" v (iU n be rl bd bar)=iU n be rl bd v:=by
 unfold iU;rw [nJ (by decide+kernel),nJ (by decide+kernel),nJ (by decide+kernel),nJ (by decide+kernel),Xe]
end
noncomputable def JD:Option Nat->V
 | none=>.bf
 | some i=>.int (i:Int)
noncomputable def lI:MU.Wd->Str
 | .told=>"told"
 | .sum=>"sum"
 | .aV=>"late"
 | .b5=>"soon"
 | .sure=>"sure"
 | .back=>"back"
 | .a8=>"cross"
noncomputable def cH (k:MU.Key):List Key:=[.inr (me k.1),.inl (k.2.1:Int),.inl (k.2.2:Int)]
theorem P7 (h:me a=me b):a=b:=by
 revert h
 cases a<;>cases b<;>decide+kernel
theorem Pr (h:cH k=cH k'):k=k':=by
 obtain ⟨t,a,b⟩:=k;obtain ⟨t',a',b'⟩:=k';unfold cH at h
 injection h with h1 h
 injection h with h2 h
 injection h with h3 _
 have e1:=P7 (Sum.inr.inj h1);have e2:=Int.ofNat.inj (Sum.inl.inj h2);have e3:=Int.ofNat.inj (Sum.inl.inj h3);have e1:t=t':=e1;have e2:a=a':=e2;have e3:b=b':=e3;rw [e1,e2,e3]
noncomputable def qe (H:Hp) (q:Addr) (r:MU.Row):Prop:=∃pw pu,H q=some (.tup [.ref pw,.str (lI r.word),.ref pu])/\iC H pw r.cP/\H pu=some (.tup (r.used.map fun i:Nat=>V.int (i:Int)))
theorem qe.same (h:qe H q r) (s:aM H H'):qe H' q r:=by
 obtain ⟨pw,pu,h1,h2,h3⟩:=h;exact ⟨pw,pu,s _ _ h1,s _ _ h2,s _ _ h3⟩
structure gp (C:Addr) (H:Hp) (p be rl bd:Addr) (n:Nat) (F:MU.cv) (st:MU.St):Prop where
 ins:∃dx,H p=some (.ins C dx (iU n be rl bd (JD st.bar)))
 eO:mf H be F
 rows:∃qs,H rl=some (.lst (qs.map V.ref))/\Paired (qe H) qs st.rows
 best:∃kvs,H bd=some (.dT kvs)/\(kvs.length<=st.rows.length/\∀kv∈kvs,∃k:MU.Key,kv.1=cH k)/\∀k:MU.Key,eK kvs (cH k)=(st.best k).map fun i:Nat=>V.int (i:Int)
theorem gp.same (h:gp C H p be rl bd n F st) (s:aM H H'):gp C H' p be rl bd n F st:=by
 obtain ⟨⟨dx,h1⟩,h2,⟨qs,h3,h4⟩,⟨kvs,h5,h6,h7⟩⟩:=h;exact ⟨⟨dx,s _ _ h1⟩,h2.same s,⟨qs,s _ _ h3,dN h4 fun q r e=>e.same s⟩,⟨kvs,s _ _ h5,h6,h7⟩⟩
noncomputable def dQ (p rl bd:Addr) (H H':Hp):Prop:=∀b o,H b=some o->b≠p->b≠rl->b≠bd->H' b=some o
theorem dQ.of (s:aM H H'):dQ p rl bd H H':=fun b o e _ _ _=>s _ _ e
theorem dQ.trans (a:dQ p rl bd H H1) (b:dQ p rl bd H1 H2):dQ p rl bd H H2:=fun c o e h1 h2 h3=>b c o (a c o e h1 h2 h3) h1 h2 h3
open Classical in
noncomputable def M_ (C:Addr):Sp:=fun vs H Q _=>∃p be rl bd q n F st x,vs=[.ref p,.ref q]/\gp C H p be rl bd n F st/\MU.cy n st/\iC H q x/\∀H',aM H H'->Q (.bl (decide (MU.hV st x))) H'
theorem DD (h:Paired (qe H) qs rows) {i:Nat} (hx:(rows[i]?).map (·.cP)=some x):∃q r pw pu,qs[i]?=some q/\rows[i]?=some r/\r.cP=x/\H q=some (.tup [.ref pw,.str (lI r.word),.ref pu])/\iC H pw x/\H pu=some (.tup (r.used.map fun i:Nat=>V.int (i:Int))):=by
 cases hr:rows[i]? with
 | none=>rw [hr] at hx;cases hx
 | some r=>
  rw [hr] at hx;have hx:some r.cP=some x:=hx;cases hx;have hl:=Paired.length h;have hi:=(ff.mp hr).1;obtain ⟨q,hq⟩:∃q,qs[i]?=some q:=⟨_,iR (by lia)⟩;obtain ⟨r',bo,⟨pw,pu,e1,e2,e3⟩⟩:=av h hq;rw [hr] at bo;cases bo;exact ⟨q,r,pw,pu,hq,rfl,rfl,e1,e2,e3⟩
theorem JF:o3 (lG x) none (some 3)=(cH x.key).map kV:=by
 unfold o3 lG;rw [HT.i_,show (some (3:Int))=some ((3:Nat):Int) from rfl,HT.gL];rfl
theorem Hy:¬(HT.cE (lG x).length 0 none=0/\HT.cE (lG x).length (lG x).length (some 3)=(lG x).length):=fun z=>by
 have h:=z.2;rw [show (some (3:Int))=some ((3:Nat):Int) from rfl,HT.gL] at h;have e:(lG x).length=4:=rfl;rw [e] at h;cases h
theorem Hg:cF ["self","what","key","known"] ["self","what"] (aZ bu):=cT
theorem uf (F:gc K "is_news" "Closing.is_news" bu f fd) (T:ph K mg C):aw P w K mg base ax 1 f fd ["self","what"] (M_ C):=by
 refine F.ok Hg (fun _ _ _ _ h=>?_) fun _ A _ s H _ Q E hr h=>?_
 ·obtain ⟨_,_,_,_,_,_,_,_,_,rfl,_⟩:=h;rfl
 ·obtain ⟨p,be,rl,bd,q,n,Fa,st,x,rfl,c,g,hw,k⟩:=h;have hu:=jK hr;refine ⟨_,aY (d0 (PW.pt (rW (cV fw (aE (pv 1)) fh) (vm (cV fw (aE (pv 1)) (aE (pv 1))))))
   (az (c7 (kL sZ (aE (pv 1)) aH))) d9)
   (aY (cI 2 Hg.nd (AG Dl (pv 1) A8 (A9 aH)))
   (aY (d0 (vi (AR hu (pv 2) (cS (pv 0) rfl)) (by with_unfolding_all rfl)) (az (c7 rP)) d9)
   (aY (cI 3 Hg.nd (aE (cW df (cS (pv 0) rfl) (kD hu (cS (pv 0) rfl) (pv 2) (fun _ _=>rfl)) (fun _ _=>rfl))))
   (az (c7 (WH (cV fw (aE (pv 1)) fh) (kL sZ (aE (pv 1)) (aE (pv 3))) (kL yW (aE (pv 1)) (aE (pv 3))))))))),?_⟩
  obtain ⟨dx,hp⟩:=c.ins;obtain ⟨qs,gx,cz⟩:=c.rows;obtain ⟨kvs,f_,pK,ef⟩:=c.best;have kb:∀(H':Hp) (b:Bool),aM H H'->(b=true↔MU.hV st x)->Q (.bl b) H':=fun H' b s' e=>by
   have:=k H' s';have e2:b=decide (MU.hV st x):=by
    by_cases z:MU.hV st x
    ·rw [e.mpr z];simp [z]
    ·cases b with
     | true=>exact absurd (e.mp rfl) z
     | false=>simp [z]
   rw [e2];exact this
  refine fun N1 c1=>⟨_,rfl,a9 hw rfl ⟨rfl,_,rfl,?_⟩⟩;rw [DP];have rest:¬(x.tie=true/\x.a=x.b)->N1 (L2.i6 ["self","what","key","known"] [.ref p,.ref q]) H:=fun yh=>by
   refine c1 _ _ ?_;refine fun N2 c2=>⟨_,rfl,_,rfl,q,_,rfl,dz.of hw,Hy,fun kt mH=>c2 _ _ ?_⟩;rw [JF];have s1:=bj (o:=.tup ((cH x.key).map kV)) mH;have e1:upd H kt (.tup ((cH x.key).map kV)) kt=some (.tup ((cH x.key).map kV)):=aq;generalize upd H kt (.tup ((cH x.key).map kV))=H1 at*;have dg:=eS.t (k:=cH x.key) (s1 _ _ f_) e1;rw [ef] at dg;refine fun N3 c3=>⟨_,rfl,_,rfl,p,C,dx,_,_,rfl,s1 _ _ hp,T.cl,T.nE,rR,bd,_,rfl,dg,_,rfl,?_⟩;have nw:MU.hV st x↔∀u,MU.val st x.key=some u->MU.eA x.tie x.v u:=by
    unfold MU.hV;rw [if_neg yh]
   cases hb:st.best x.key with
   | none=>
    refine iN (kb H1 true s1 ⟨fun _=>nw.mpr fun u kG=>?_,fun _=>rfl⟩);unfold MU.val at kG;rw [hb] at kG;cases kG
   | some i=>
    rw [hb] at dg;refine dO (c3 _ _ ?_);obtain ⟨u,Si,xS⟩:=g.at_ _ _ hb;obtain ⟨q',r,pw,pu,g1,g2,g3,g4,g5,g6⟩:=DD cz Si;have gb:g_ (qs.map V.ref) (i:Int)=some (.ref q'):=j8 (by rw [dt,g1];rfl);refine fun N4 c4=>⟨_,rfl,p,C,dx,_,_,rfl,s1 _ _ hp,T.cl,T.nR,s_,_,rfl,p,C,dx,_,_,rfl,s1 _ _ hp,T.cl,T.nE,rR,_,rfl,bd,_,rfl,dg,?_⟩;refine ⟨rl,_,_,_,rfl,rfl,s1 _ _ gx,gb,a9 (s1 _ _ g4) rfl (c4 _ _ ?_)⟩;have hv:=MU.pB hb Si;refine ⟨_,rfl,a9 (s1 _ _ hw) rfl ⟨rfl,_,rfl,?_⟩⟩;rw [DP];have RJ:MU.hV st x↔MU.eA x.tie x.v u.v:=nw.trans ⟨fun z=>z _ hv,fun z u' kG=>by rw [hv] at kG;cases kG;exact z⟩
    cases ht:x.tie with
    | true=>
     refine iN ⟨_,rfl,a9 (s1 _ _ hw) rfl ⟨_,rfl,a9 (s1 _ _ g5) rfl ⟨_,_,rfl,rfl,kb _ _ s1 ?_⟩⟩⟩;rw [RJ,ht,ju];unfold MU.eA;rw [if_pos rfl]
    | false=>
     refine dO ⟨_,rfl,a9 (s1 _ _ hw) rfl ⟨_,rfl,a9 (s1 _ _ g5) rfl ⟨_,_,rfl,rfl,kb _ _ s1 ?_⟩⟩⟩;rw [RJ,ht,ju];unfold MU.eA;rw [if_neg (by decide)]
  cases ht:x.tie with
  | false=>exact dO (dO (rest fun z=>by rw [ht] at z;cases z.1))
  | true=>
   refine iN ⟨_,rfl,a9 hw rfl ⟨_,rfl,a9 hw rfl ⟨rfl,_,rfl,?_⟩⟩⟩;rw [p_]
   by_cases e:x.a=x.b
   ·refine gr e ⟨_,rfl,a9 hw rfl ⟨_,_,rfl,rfl,kb H _ (aM.refl _) ?_⟩⟩;rw [ju];unfold MU.hV;rw [if_pos ⟨ht,e⟩]
   ·exact ix e (rest fun z=>e z.2)
noncomputable def HN (C:Addr):Sp:=fun vs H Q _=>∃p be rl bd q pu n F st x wd us,vs=[.ref p,.ref q,.str (lI wd),.ref pu]/\gp C H p be rl bd n F st/\MU.cy n st/\iC H q x/\H pu=some (.tup (us.map fun i:Nat=>V.int (i:Int)))/\st.rows.length<=16500000/\
 ∀H',gp C H' p be rl bd n F (MU.take st x wd us)->dQ p rl bd H H'->Q .bf H'
theorem N0:decide (JD o=V.bf)=decide (o=none):=by
 cases o with
 | none=>rfl
 | some i=>exact (eP fun z=>nomatch z).trans (eP fun z=>nomatch z).symm
theorem WU (h:MU.hV st x):MU.take st x wd us={ rows:=st.rows++[⟨x,wd,us⟩],best:=fun k=>if k=x.key then some st.rows.length else st.best k,bar:=if st.bar=none/\MU.iL x then some st.rows.length else st.bar }:=by
 unfold MU.take;rw [if_pos h]
theorem Ww {kvs:List (List Key×V)} {k:List Key} {v:V} {kv:List Key×V} (h:kv∈eT kvs k v):kv.1=k\/∃qM∈kvs,kv.1=qM.1:=by
 unfold eT at h;split at h
 ·obtain ⟨qM,h0,rfl⟩:=gF.mp h;refine .inr ⟨qM,h0,?_⟩;split<;>rfl
 ·rcases kJ.mp h with h | h
  ·exact .inr ⟨kv,h,rfl⟩
  ·rw [jw.mp h];exact .inl rfl
theorem Ax (h:n<=16500000):n<sizeLine:=Nat.lt_of_le_of_lt h (by decide)
theorem Zj:cF ["self","what","word","used"] ["self","what","word","used"] (aZ c9):=cT
theorem tZ {f C fN fB:Addr} {fd pP sM:FuncData} (F:gc K "take" "Closing.take" c9 f fd) (T:ph K mg C)
 (mN:gq K C "is_news" fN) (bN:dP K pP ["self","what"] []) (GN:aw P w K mg base ax 1 fN pP ["self","what"] (M_ C))
 (FB:Fn K mg "bars_every_hand" br ["what"] fB sM) (GB:aw P w K mg base ax 1 fB sM ["what"] Nu):aw P w K mg base ax 2 f fd ["self","what","word","used"] (HN C):=by
 refine F.ok Zj (fun _ _ _ _ h=>?_) fun _ A _ s H _ Q E hr h=>?_
 ·obtain ⟨_,_,_,_,_,_,_,_,_,_,_,_,rfl,_⟩:=h;rfl
 ·obtain ⟨p,be,rl,bd,q,pu,n,Fa,st,x,wd,us,rfl,c,g,hw,B1,hlen,k⟩:=h;have hu:=jK hr;refine ⟨_,az (d0 (rV (gX (pv 0) T.cl mN GN hr bN .nil ee (cw (pv 1))))
   (aY (DA hu (cS (pv 0) rfl) (AG Dl (pv 1) A8 (A9 aH)) (kE zy (by rfl) T.len zU (cw (cS (pv 0) rfl))) rfl)
   (aY (zb (d0 (PW.pt (rW (cV Av (cS (pv 0) rfl) j7) (vm (rV (cO GB hr FB (cw (pv 1))))))) (az (lJ (pv 0) (kE zy (by rfl) T.len zU (cw (cS (pv 0) rfl))) rfl)) d9))
   (az (gB (px pU pT rG pC (cS (pv 0) rfl) (cw (eU (gD (pv 1) (pv 2) (pv 3))))))))) d9),?_⟩
  obtain ⟨dx,hp⟩:=c.ins;refine ⟨_,rfl,p,dx,_,rfl,hp,oz (by decide+kernel) (by decide+kernel) (by decide+kernel) (by decide+kernel) (by decide+kernel),_,rfl,p,be,rl,bd,q,n,Fa,st,x,rfl,c,g,hw,fun H1 s1=>⟨_,rfl,?_⟩⟩
  by_cases hn:MU.hV st x
  ·refine pk (by simp [hn]) ?_;have c1:=c.same s1;have nZ:=s1 _ _ hw;have xX:=s1 _ _ B1;obtain ⟨wq,fq⟩:=c1.ins;obtain ⟨qs,gx,cz⟩:=c1.rows;obtain ⟨kvs,f_,pK,ef⟩:=c1.best;have xW:qs.length=st.rows.length:=Paired.length cz;refine fun N2 c2=>⟨_,rfl,p,C,wq,_,_,rfl,fq,T.cl,T.nR,s_,rl,_,rfl,.inl (ay.of gx),_,rfl,p,C,wq,_,_,rfl,fq,T.cl,T.nE,rR,_,rfl,_,rfl,q,_,rfl,dz.of nZ,Hy,fun kt mH=>?_⟩;rw [JF,a7,xW];have s2:=bj (o:=.tup ((cH x.key).map kV)) mH;have e2:upd H1 kt (.tup ((cH x.key).map kV)) kt=some (.tup ((cH x.key).map kV)):=aq;generalize upd H1 kt (.tup ((cH x.key).map kV))=H2 at*;refine ⟨bd,_,rfl,rL.t (k:=cH x.key) (s2 _ _ f_) e2 (Ax (by have:=pK.1;lia)),c2 _ _ ?_⟩;have k3:∀b o,H1 b=some o->b≠bd->upd H2 bd (.dT (eT kvs (cH x.key) (.int (st.rows.length:Int)))) b=some o:=fun b o e ne=>by
    rw [au ne];exact s2 _ _ e
   have e3:upd H2 bd (.dT (eT kvs (cH x.key) (.int (st.rows.length:Int)))) bd=some (.dT (eT kvs (cH x.key) (.int (st.rows.length:Int)))):=aq;generalize upd H2 bd (.dT (eT kvs (cH x.key) (.int (st.rows.length:Int))))=H3 at*;clear c2 N2;have zB:p≠bd:=aQ fq f_ nofun;have Ry:rl≠bd:=aQ gx f_ nofun;have xu:p≠rl:=aQ fq gx nofun;have iG:=k3 _ _ fq zB;have u9:=k3 _ _ gx Ry;have K2:=k3 _ _ nZ (aQ nZ f_ nofun);refine fun N4 c4=>⟨fun aa H'=>aa=L2.i6 ["self","what","word","used"] [.ref p,.ref q,.str (lI wd),.ref pu]/\(∃Cs,H' p=some (.ins C Cs (iU n be rl bd (JD (if st.bar=none/\MU.iL x then some st.rows.length else st.bar)))))/\∀b o,H3 b=some o->b≠p->H' b=some o,?_,?_⟩
   ·refine ⟨_,rfl,p,C,wq,_,_,rfl,iG,T.cl,T.nX,CY,rfl,_,rfl,?_⟩;rw [N0]
    by_cases hb:st.bar=none
    ·refine gr hb ⟨_,rfl,q,x,rfl,K2,_,rfl,?_⟩
     by_cases hB:MU.iL x
     ·refine gr hB ?_;refine ⟨_,rfl,p,C,wq,_,_,rfl,iG,T.cl,T.nR,s_,rl,_,rfl,.inl (ay.of u9),_,rfl,p,C,wq,_,rfl,iG,T.cl,T.nX,by show 5<1000;decide,rfl,⟨wq,?_⟩,fun b o e ne=>?_⟩
      ·rw [aq,Z9,if_pos ⟨hb,hB⟩,a7,xW];rfl
      ·rw [au ne];exact e
     ·refine ix hB ⟨rfl,⟨wq,?_⟩,fun b o e _=>e⟩;rw [if_neg fun z=>hB z.2];exact iG
    ·refine ix hb (dO ⟨rfl,⟨wq,?_⟩,fun b o e _=>e⟩);rw [if_neg fun z=>hb z.1];exact iG
   ·rintro aa H4 ⟨rfl,⟨Ti,yd⟩,k4⟩;refine c4 _ _ ?_;have xV:=k4 _ _ u9 (bp xu);have hw4:=k4 _ _ K2 (aQ K2 iG nofun);have B0:=k3 _ _ xX (aQ xX f_ nofun);have hpu4:=k4 _ _ B0 (aQ B0 iG nofun);refine ⟨_,rfl,p,C,Ti,_,_,rfl,yd,T.cl,T.nR,s_,.inl ⟨rfl,_,ay.of xV⟩,_,rfl,_,rfl,_,rfl,eW rfl,fun rt KI=>?_⟩;have s5:=bj (o:=.tup [.ref q,.str (lI wd),.ref pu]) KI;have e5:upd H4 rt (.tup [.ref q,.str (lI wd),.ref pu]) rt=some (.tup [.ref q,.str (lI wd),.ref pu]):=aq;generalize upd H4 rt (.tup [.ref q,.str (lI wd),.ref pu])=H5 at*;refine ⟨rl,_,_,rfl,rfl,s5 _ _ xV,by rw [a7,xW];exact Ax (by omega),?_⟩;have k6:∀b o,H5 b=some o->b≠rl->upd H5 rl (.lst (qs.map V.ref++[.ref rt])) b=some o:=fun b o e ne=>by rw [au ne];exact e
    have e6:upd H5 rl (.lst (qs.map V.ref++[.ref rt])) rl=some (.lst ((qs++[rt]).map V.ref)):=by rw [aq,eJ];rfl
    generalize upd H5 rl (.lst (qs.map V.ref++[.ref rt]))=H6 at*;have all:∀b o,H1 b=some o->b≠p->b≠rl->b≠bd->H6 b=some o:=fun b o e n1 n2 n3=>k6 _ _ (s5 _ _ (k4 _ _ (k3 _ _ e n3) n1)) n2;have tup:∀b xs,H1 b=some (.tup xs)->H6 b=some (.tup xs):=fun b xs e=>all _ _ e (aQ e fq nofun) (aQ e gx nofun) (aQ e f_ nofun);refine k H6 ?_ fun b o e n1 n2 n3=>all _ _ (s1 _ _ e) n1 n2 n3;rw [WU hn];refine ⟨⟨Ti,k6 _ _ (s5 _ _ yd) xu⟩,?_,⟨qs++[rt],e6,?_⟩,⟨_,k6 _ _ (s5 _ _ (k4 _ _ e3 (bp zB))) (bp Ry),?_,fun kk=>?_⟩⟩
    ·obtain ⟨Ce,f1,f2,f3,f4⟩:=c1.eO.at_;refine ⟨Ce,all _ _ f1 (aQ f1 fq nofun) (aQ f1 gx nofun) (aQ f1 f_ nofun),f2,f3,fun e f hf=>?_⟩;obtain ⟨pp,q1,q2⟩:=f4 e f hf;exact ⟨pp,q1,tup _ _ q2⟩
    ·refine wZ (dN cz fun qq r e=>?_) (.cons ?_ .nil)
     ·obtain ⟨pw,EY,r1,r2,r3⟩:=e;exact ⟨pw,EY,tup _ _ r1,tup _ _ r2,tup _ _ r3⟩
     ·exact ⟨q,pu,k6 _ _ e5 (aQ e5 (s5 _ _ xV) nofun),tup _ _ nZ,tup _ _ xX⟩
    ·refine ⟨?_,fun kv Ln=>?_⟩
     ·show (eT kvs (cH x.key) _).length<=(st.rows++[_]).length;have:=zw kvs (cH x.key) (.int (st.rows.length:Int));have:=pK.1;rw [gR];show _<=st.rows.length+1;lia
     ·rcases Ww Ln with z | z
      ·exact ⟨x.key,z⟩
      ·obtain ⟨qM,h0,e0⟩:=z;obtain ⟨k0,e1⟩:=pK.2 qM h0;exact ⟨k0,e0.trans e1⟩
    ·show eK (eT kvs (cH x.key) _) (cH kk)=(if kk=x.key then some st.rows.length else st.best kk).map _;rw [AK]
     by_cases ek:kk=x.key
     ·rw [if_pos (by rw [ek]),if_pos ek];rfl
     ·rw [if_neg fun z=>ek (Pr z),if_neg ek];exact ef kk
  ·refine g9 (by simp [hn]) (k H1 ?_ (dQ.of s1));rw [MU.wW hn];exact c.same s1
end Y0
namespace L2
open PySem PySem.Spec PyProof.Rows
theorem OO {js:List (Option Nat)} {g:TG} {tc:TT} {te:TE} {σ:St} {H:Hp} {D:Addr} {Q:VK} {K:aL} {a:Addr} {xs:List V} (Pv:Nat->St->Hp->Prop) (h0:Pv 0 (rX js σ) (upd H D (.lst []))) (hl:∀i aa H',i<=xs.length->Pv i aa H'->dz K H' a xs)
 (hs:∀i x aa H',xs[i]?=some x->Pv i aa H'->g x aa H' fun eY H3=>tc eY H3 fun ok H4=>if ok=true then te eY H4 fun y H5=>∃ys,H5 D=some (.lst ys)/\ys.length<sizeLine/\Pv (i+1) eY (upd H5 D (.lst (ys++[y]))) else Pv (i+1) eY H4)
 (hd:∀aa H',Pv xs.length aa H'->Q (.ref D) H'):
 zd js g tc te σ Q (zY K a) H D:=by
 refine ⟨fun i m σ H=>m=xs.length-i/\i<=xs.length/\Pv i σ H,⟨xs.length,by simp,dM _,h0⟩,?_⟩;rintro i m aa H' ⟨rfl,hi,p⟩
 by_cases aW:i<xs.length
 ·refine .inr ⟨⟨xs,_,hl i aa H' hi p,iR aW⟩,Pv (i+1),fun gW H2 p'=>⟨xs.length-(i+1),by omega,rfl,aW,p'⟩,fun x H2 y=>?_⟩;obtain ⟨e,y⟩:=y;subst e;exact hs i x aa _ (y xs (hl i aa _ hi p)) p
 ·have e:i=xs.length:=by lia
  subst e;exact .inl ⟨⟨xs,hl _ aa H' hi p,aF _⟩,hd aa H' p⟩
theorem t8 {Y:Cx} {K:aL} {e:Expr} {f:Str} {pos:Pos} {ta:TE} (hK:Y.K=K) (he:PE Y e ta) (hb:attributeBase e f Y.env (eval e Y.env)=eval e Y.env):PE Y (.Attribute e f pos) (Rg K ta f):=by
 subst hK;exact cS he hb
end L2
namespace Y0
open PySem L2
seal L2.PE L2.PA L2.PT L2.PS L2.gS L2.PG L2.lX L2.PI L2.PO
noncomputable def Dm (C:Addr):Sp:=fun vs H Q _=>∃p be rl bd pu n F st wd us xs o,vs=[.ref p,.str (lI wd),.ref pu]/\gp C H p be rl bd n F st/\MU.cy n st/\H pu=some (.tup (us.map fun i:Nat=>V.int (i:Int)))/\Paired (fun i x=>MU.ah st i=some x) us xs/\pe F (lI wd) xs o/\st.rows.length<=16500000/\
 ∀H',gp C H' p be rl bd n F (MU.put st o wd us)->dQ p rl bd H H'->Q .bf H'
theorem QW:cF ["self","word","used","what"] ["self","word","used"] (aZ bM):=cT
theorem Y_:i7 (aZ bM) ["self","word","used","what"] (kh [(".0",.local),("number",.local),("self",.free)]) ["number","self"] [none,some 0]:=kj
theorem YM:(["number","self"]:List Str).Nodup:=by decide+kernel
theorem um {f C fT fW:Addr} {fd kI wk:FuncData} (F:gc K "draw" "Closing.draw" bM f fd) (T:ph K mg C)
 (mT:gq K C "take" fT) (bT:dP K kI ["self","what","word","used"] []) (GT:aw P w K mg base ax 2 fT kI ["self","what","word","used"] (HN C))
 (FW:Fn K mg "what_follows" bC ["falls","word","used"] fW wk) (GW:aw P w K mg base ax 2 fW wk ["falls","word","used"] PK):aw P w K mg base ax 3 f fd ["self","word","used"] (Dm C):=by
 refine F.ok QW (fun _ _ _ _ h=>?_) fun _ A _ s H _ Q E hr h=>?_
 ·obtain ⟨_,_,_,_,_,_,_,_,_,_,_,_,rfl,_⟩:=h;rfl
 ·obtain ⟨p,be,rl,bd,pu,n,Fa,st,wd,us,xs,o,rfl,c,g,B1,Sh,ask,hlen,k⟩:=h;refine ⟨_,aY (cI 3 QW.nd (cO GW hr FW (gD (cS (pv 0) rfl) (pv 1) (o5 rfl (HC (pv 2)) Y_ (fun cl ex s0 H0=>⟨cj 0 YM,vy,aE (cW df (t8 (K:=K) rfl (pv 1) rfl) (pv 0) (fun _ _=>rfl))⟩)))))
   (az (d0 (cV wQ (pv 3) j7) (az (gB (gX (pv 0) T.cl mT GT hr bT .nil ee (gD (pv 3) (pv 1) (pv 2))))) d9)),?_⟩
  obtain ⟨dx,hp⟩:=c.ins;obtain ⟨qs,gx,cz⟩:=c.rows;obtain ⟨hk,xQ⟩:=ask.kinds;have zF:us.length=xs.length:=Paired.length Sh;refine fun N1 c1=>⟨_,rfl,p,C,dx,_,_,rfl,hp,T.cl,T.nB,M4,_,rfl,_,rfl,pu,rfl,⟨_,dz.of B1⟩,fun Da dh=>?_⟩;refine OO (xs:=us.map fun i:Nat=>V.int (i:Int)) (fun j aa H'=>∃v ps,aa=[v,some (.ref p)]/\H' Da=some (.lst (ps.map V.ref))/\Paired (iC H') ps (xs.take j)/\aM H H') ⟨none,[],rfl,aq,.nil,bj dh⟩ ?_ ?_ ?_
  ·rintro j aa H2 _ ⟨v,ps,rfl,_,_,s2⟩;exact dz.of (s2 _ _ B1)
  ·rintro j x aa H2 hx ⟨v,ps,rfl,e2,jr,s2⟩;rw [dt] at hx
   cases q:us[j]? with
   | none=>rw [q] at hx;cases hx
   | some i=>
    rw [q] at hx;cases hx;obtain ⟨y,sk,hy⟩:=av Sh q;obtain ⟨q',r,pw,EY,g1,g2,g3,g4,g5,g6⟩:=DD cz hy;have gb:g_ (qs.map V.ref) (i:Int)=some (.ref q'):=j8 (by rw [dt,g1];rfl);have hj:j<xs.length:=(ff.mp sk).1;have gy:ps.length=min j xs.length:=by rw [Paired.length jr,iA]
    refine ⟨_,rfl,p,C,dx,_,_,rfl,s2 _ _ hp,T.cl,T.nR,s_,pd rfl (s2 _ _ gx) gb (a9 (s2 _ _ g4) rfl ⟨_,e2,?_,_,ps++[pw],rfl,?_,?_,fun b o e=>?_⟩)⟩
    ·rw [a7,gy];exact fi (by lia)
    ·rw [aq,eJ];rfl
    ·have et:xs.take (j+1)=xs.take j++[y]:=by rw [jC,sk];rfl
     rw [et];have keep:∀b x,iC H2 b x->iC (upd H2 Da (.lst (ps.map V.ref++[.ref pw]))) b x:=fun b x e=>by
      unfold iC;rw [au (aQ e e2 nofun)];exact e
     exact wZ (dN jr fun b x e=>keep b x e) (.cons (keep _ _ (s2 _ _ g5)) .nil)
    ·rw [au (aO e dh)];exact s2 _ _ e
  rintro aa H2 ⟨v,ps,rfl,e2,jr,s2⟩;have bP:xs.take (us.map fun i:Nat=>V.int (i:Int)).length=xs:=by rw [a7,zF];exact ir
  rw [bP] at jr;have c2:=c.same s2;refine ⟨be,_,Da,ps,Fa,xs,o,rfl,c2.eO,⟨e2,jr⟩,.inl ask,fun ho H3 s3=>c1 _ _ ?_,fun x ho r H3 bo s3 hw=>c1 _ _ ?_⟩
  ·refine ⟨_,rfl,rfl,_,rfl,g9 rfl ?_⟩;refine k H3 ?_ (dQ.of (s2.trans s3));rw [ho];exact c2.same s3
  ·refine ⟨_,rfl,rfl,_,rfl,pk rfl ?_⟩;have c3:=c2.same s3;have kU:=s2.trans s3;refine ⟨_,rfl,p,dx,_,rfl,kU _ _ hp,oz (by decide+kernel) (by decide+kernel) (by decide+kernel) (by decide+kernel) (by decide+kernel),_,rfl,_,rfl,_,rfl,p,be,rl,bd,r,pu,n,Fa,st,x,wd,us,rfl,c3,g,hw,kU _ _ B1,hlen,fun H4 c4 k4=>?_⟩;refine k H4 ?_ ((dQ.of kU).trans k4);rw [ho];exact c4
noncomputable def fV (l:List Nat):List V:=l.map fun i:Nat=>V.int (i:Int)
noncomputable def NZ (C:Addr):Sp:=fun vs H Q _=>∃(p be rl bd:Addr) (n:Nat) (F:MU.cv) (st:MU.St) (t:Bool) (a:Nat),vs=[.ref p,.str (me t),.int (a:Int)]/\gp C H p be rl bd n F st/\n<=8/\∀l H',H l=none->aM H H'->H' l=some (.lst (fV (MU.cZ n st t a)))->Q (.ref l) H'
noncomputable def Hi (C:Addr):Sp:=fun vs H Q _=>∃(p be rl bd:Addr) (n:Nat) (F:MU.cv) (st:MU.St) (b:Nat),vs=[.ref p,.int (b:Int)]/\gp C H p be rl bd n F st/\n<=8/\∀l H',H l=none->aM H H'->H' l=some (.lst (fV (MU.dI n st b)))->Q (.ref l) H'
theorem EK:(List.range (n+1)).filterMap f=(List.range n).filterMap f++(f n).toList:=by
 rw [List.range_succ,List.filterMap_append]
 cases h:f n with
 | none=>simp [h]
 | some x=>simp [h]
theorem Z6:cF ["self","kind","a"] ["self","kind","a"] (aZ aN):=cT
theorem Zb:i7 (aZ aN) ["self","kind","a"] (kh [(".0",.local),("b",.local),("a",.free),("kind",.free),("self",.free)]) ["b","a","kind","self"] [none,some 2,some 1,some 0]:=kj
theorem YO:(["b","a","kind","self"]:List Str).Nodup:=by decide+kernel
theorem qB {f C:Addr} {fd:FuncData} (F:gc K "known_of" "Closing.known_of" aN f fd) (T:ph K mg C):aw P w K mg base ax 1 f fd ["self","kind","a"] (NZ C):=by
 refine F.ok Z6 (fun _ _ _ _ h=>?_) fun _ A _ s H _ Q E hr h=>?_
 ·obtain ⟨_,_,_,_,_,_,_,_,_,rfl,_⟩:=h;rfl
 ·obtain ⟨p,be,rl,bd,n,Fa,st,t,a,rfl,c,h8,k⟩:=h;have hu:=jK hr;refine ⟨_,az (c7 (o5 rfl (vp rfl T.range (cw (cS (pv 0) rfl))) Zb (fun cl ex s0 H0=>⟨cj 0 YO,pA (vi (HM hu (eU (gD (pv 2) (pv 1) (pv 0))) (t8 (K:=K) rfl (pv 3) rfl)) (by with_unfolding_all rfl)),kD hu (t8 (K:=K) rfl (pv 3) rfl) (eU (gD (pv 2) (pv 1) (pv 0))) (fun _ _=>rfl)⟩))),?_⟩;obtain ⟨dx,hp⟩:=c.ins;obtain ⟨kvs,f_,pK,ef⟩:=c.best;refine ⟨_,rfl,p,C,dx,_,_,rfl,hp,T.cl,T.nM,MO,_,rfl,by exact Int.NonNeg.mk (n+Nat.succ 4611686018427387903),by lia,fun Da dh=>?_⟩;refine D_ (n:=((n:Int)).toNat) (fun i aa H'=>∃v,aa=[v,some (.int (a:Int)),some (.str (me t)),some (.ref p)]/\H' Da=some (.lst (fV ((List.range i).filterMap fun b=>st.best (t,a,b))))/\aM H H') ⟨none,rfl,aq,bj dh⟩ ?_ ?_
  ·rintro i aa H2 hi ⟨v,rfl,e2,s2⟩;have j_:i<n:=by exact hi
   have ei:((0:Int)+(i:Int))=(i:Int):=by lia
   refine ⟨_,rfl,_,rfl,_,rfl,eW rfl,fun kt mH=>?_⟩;rw [ei];have s3:=bj (o:=.tup ((cH (t,a,i)).map kV)) mH;have e3:upd H2 kt (.tup ((cH (t,a,i)).map kV)) kt=some (.tup ((cH (t,a,i)).map kV)):=aq;have ek:(HO.tup [V.str (me t),V.int (a:Int),V.int (i:Int)])=.tup ((cH (t,a,i)).map kV):=rfl;rw [ek];generalize upd H2 kt (.tup ((cH (t,a,i)).map kV))=H3 at*;have kU:=s2.trans s3;have dg:=eS.t (k:=cH (t,a,i)) (kU _ _ f_) e3;rw [ef] at dg;refine ⟨_,rfl,p,C,dx,_,_,rfl,kU _ _ hp,T.cl,T.nE,rR,bd,_,rfl,dg,_,rfl,?_⟩;have fl:((List.range i).filterMap fun b=>st.best (t,a,b)).length<=i:=by
    have:=List.length_filterMap_le (fun b=>st.best (t,a,b)) (List.range i);rw [List.length_range] at this;exact this
   cases hb:st.best (t,a,i) with
   | none=>
    refine dO ⟨_,rfl,?_,kU⟩;rw [EK,hb];show H3 Da=some (.lst (fV (_++[])));rw [List.append_nil];exact s3 _ _ e2
   | some j=>
    rw [hb] at dg;refine iN ?_;refine ⟨_,rfl,p,C,dx,_,_,rfl,kU _ _ hp,T.cl,T.nE,rR,_,rfl,_,rfl,_,rfl,eW rfl,fun xK yj=>?_⟩;have s4:=bj (o:=.tup ((cH (t,a,i)).map kV)) yj;have e4:upd H3 xK (.tup ((cH (t,a,i)).map kV)) xK=some (.tup ((cH (t,a,i)).map kV)):=aq;rw [ek];generalize upd H3 xK (.tup ((cH (t,a,i)).map kV))=H4 at*;have Be:=kU.trans s4;have Cu:=eS.t (k:=cH (t,a,i)) (Be _ _ f_) e4;rw [ef,hb] at Cu;refine ⟨bd,_,rfl,Cu,_,s4 _ _ (s3 _ _ e2),?_,_,rfl,?_,fun b o e=>?_⟩
    ·unfold fV;rw [a7];exact fi (by lia)
    ·rw [aq,EK,hb];unfold fV;rw [eJ];rfl
    ·rw [au (aO e dh)];exact Be _ _ e
  ·rintro aa H2 ⟨v,rfl,e2,s2⟩;exact k Da H2 dh s2 e2
theorem Zl:cF ["self","b"] ["self","b"] (aZ aT):=cT
theorem Zf:i7 (aZ aT) ["self","b"] (kh [(".0",.local),("a",.local),("b",.free),("self",.free)]) ["a","b","self"] [none,some 1,some 0]:=kj
theorem YS:(["a","b","self"]:List Str).Nodup:=by decide+kernel
theorem oF {f C:Addr} {fd:FuncData} (F:gc K "ties_to" "Closing.ties_to" aT f fd) (T:ph K mg C):aw P w K mg base ax 1 f fd ["self","b"] (Hi C):=by
 refine F.ok Zl (fun _ _ _ _ h=>?_) fun _ A _ s H _ Q E hr h=>?_
 ·obtain ⟨_,_,_,_,_,_,_,_,rfl,_⟩:=h;rfl
 ·obtain ⟨p,be,rl,bd,n,Fa,st,b0,rfl,c,h8,k⟩:=h;have hu:=jK hr;refine ⟨_,az (c7 (o5 rfl (vp rfl T.range (cw (cS (pv 0) rfl))) Zf (fun cl ex s0 H0=>⟨cj 0 YS,pA (vi (HM hu (eU (gD fh (pv 0) (pv 1))) (t8 (K:=K) rfl (pv 2) rfl)) (by with_unfolding_all rfl)),kD hu (t8 (K:=K) rfl (pv 2) rfl) (eU (gD fh (pv 0) (pv 1))) (fun _ _=>rfl)⟩))),?_⟩;obtain ⟨dx,hp⟩:=c.ins;obtain ⟨kvs,f_,pK,ef⟩:=c.best;refine ⟨_,rfl,p,C,dx,_,_,rfl,hp,T.cl,T.nM,MO,_,rfl,by exact Int.NonNeg.mk (n+Nat.succ 4611686018427387903),by lia,fun Da dh=>?_⟩;refine D_ (n:=((n:Int)).toNat) (fun i aa H'=>∃v,aa=[v,some (.int (b0:Int)),some (.ref p)]/\H' Da=some (.lst (fV ((List.range i).filterMap fun a=>st.best (true,a,b0))))/\aM H H') ⟨none,rfl,aq,bj dh⟩ ?_ ?_
  ·rintro i aa H2 hi ⟨v,rfl,e2,s2⟩;have j_:i<n:=by exact hi
   have ei:((0:Int)+(i:Int))=(i:Int):=by lia
   refine ⟨_,rfl,_,rfl,eW rfl,fun kt mH=>?_⟩;rw [ei];have s3:=bj (o:=.tup ((cH (true,i,b0)).map kV)) mH;have e3:upd H2 kt (.tup ((cH (true,i,b0)).map kV)) kt=some (.tup ((cH (true,i,b0)).map kV)):=aq;have ek:(HO.tup [V.str "tie",V.int (i:Int),V.int (b0:Int)])=.tup ((cH (true,i,b0)).map kV):=rfl;rw [ek];generalize upd H2 kt (.tup ((cH (true,i,b0)).map kV))=H3 at*;have kU:=s2.trans s3;have dg:=eS.t (k:=cH (true,i,b0)) (kU _ _ f_) e3;rw [ef] at dg;refine ⟨_,rfl,p,C,dx,_,_,rfl,kU _ _ hp,T.cl,T.nE,rR,bd,_,rfl,dg,_,rfl,?_⟩;have fl:((List.range i).filterMap fun a=>st.best (true,a,b0)).length<=i:=by
    have:=List.length_filterMap_le (fun a=>st.best (true,a,b0)) (List.range i);rw [List.length_range] at this;exact this
   cases hb:st.best (true,i,b0) with
   | none=>
    refine dO ⟨_,rfl,?_,kU⟩;rw [EK,hb];show H3 Da=some (.lst (fV (_++[])));rw [List.append_nil];exact s3 _ _ e2
   | some j=>
    rw [hb] at dg;refine iN ?_;refine ⟨_,rfl,p,C,dx,_,_,rfl,kU _ _ hp,T.cl,T.nE,rR,_,rfl,_,rfl,eW rfl,fun xK yj=>?_⟩;have s4:=bj (o:=.tup ((cH (true,i,b0)).map kV)) yj;have e4:upd H3 xK (.tup ((cH (true,i,b0)).map kV)) xK=some (.tup ((cH (true,i,b0)).map kV)):=aq;rw [ek];generalize upd H3 xK (.tup ((cH (true,i,b0)).map kV))=H4 at*;have Be:=kU.trans s4;have Cu:=eS.t (k:=cH (true,i,b0)) (Be _ _ f_) e4;rw [ef,hb] at Cu;refine ⟨bd,_,rfl,Cu,_,s4 _ _ (s3 _ _ e2),?_,_,rfl,?_,fun b o e=>?_⟩
    ·unfold fV;rw [a7];exact fi (by lia)
    ·rw [aq,EK,hb];unfold fV;rw [eJ];rfl
    ·rw [au (aO e dh)];exact Be _ _ e
  ·rintro aa H2 ⟨v,rfl,e2,s2⟩;exact k Da H2 dh s2 e2
end Y0
namespace MU
noncomputable def Vd (F:cv) (st:St):Prop:=∀i w,ah st i=some w->w.tie=false->∃f,F w.b=some f
structure jx (n:Nat) (F:cv) (st:St):Prop where
 good:cy n st
 ends:Vd F st
noncomputable def wz (n:Nat) (F:cv) (w:ao):Prop:=sR n w/\(w.tie=false->∃f,F w.b=some f)
variable {n:Nat} {F:cv} {most:Int} {st:St}
theorem jx.put (h:jx n F st) (ho:∀w,o=some w->wz n F w):jx n F (put st o wd us):=by
 refine ⟨Iy h.good fun w e=>(ho w e).1,fun i w hw ht=>?_⟩
 by_cases hi:i<st.rows.length
 ·exact h.ends i w (tJ (tE _ _ _ _) hi hw) ht
 ·exact (tD (C:=fun w=>w.tie=false->∃f,F w.b=some f) (fun w e=>(ho w e).2) i w (by exact lU hi) hw) ht
theorem Nj {p q w:ao} (h1:p.a<n) (h2:q.b<n) (h:aI p q=some w):wz n F w:=by
 unfold aI at h;split at h
 ·cases h;exact ⟨⟨h1,h2,fun z=>nomatch z⟩,fun z=>nomatch z⟩
 ·cases h
theorem V0 {p w:ao} (h1:p.a<n) (h2:p.b<n) (h:d8 F p=some w):wz n F w:=by
 refine ⟨AF p w h1 h2 h,fun _=>?_⟩;unfold d8 at h;split at h
 ·cases q:F p.b with
  | none=>rw [q] at h;cases h
  | some f=>rw [q] at h;cases h;exact ⟨f,q⟩
 ·cases h
theorem Wm (hF:jE n F most) {p w:ao} (h1:p.a<n) (h2:p.b<n) (h:dC F p=some w):wz n F w:=by
 refine ⟨AI hF p w h1 h2 h,fun ht=>?_⟩;unfold dC at h;split at h
 ·cases q:F p.a with
  | none=>rw [q] at h;cases h
  | some f=>rw [q] at h;cases h;cases ht
 ·cases h
theorem VT (hF:jE n F most) {p w:ao} (h1:p.a<n) (h2:p.b<n) (h:dH F p=some w):wz n F w:=by
 refine ⟨DH hF p w h1 h2 h,fun ht=>?_⟩;unfold dH at h;split at h
 ·cases q:F p.b with
  | none=>rw [q] at h;cases h
  | some f=>rw [q] at h;cases h;cases ht
 ·cases h
theorem Nz {p q w:ao} (h1:p.a<n) (h2:p.b<n) (h3:q.a<n) (h4:q.b<n) (h:bq F p q=some w):wz n F w:=by
 refine ⟨Io p q w h1 h2 h3 h4 h,fun _=>?_⟩;unfold bq at h;split at h
 ·cases e:F p.b with
  | none=>rw [e] at h;cases h
  | some f=>rw [e] at h;cases h;exact ⟨f,e⟩
 ·cases h
theorem Wo (hF:jE n F most) {p w:ao} (h1:p.a<n) (h2:p.b<n) (h:d7 F p=some w):wz n F w:=by
 refine ⟨DU hF p w h1 h2 h,fun _=>?_⟩;unfold d7 at h;split at h
 ·cases e:F p.a with
  | none=>rw [e] at h;cases h
  | some o=>
   rw [e] at h;have h:(F p.b).map (fun f=>(⟨false,o.1,p.b,min p.v f.2.2-o.2.1⟩:ao))=some w:=h
   cases e2:F p.b with
   | none=>rw [e2] at h;cases h
   | some f=>rw [e2] at h;cases h;exact ⟨f,e2⟩
 ·cases h
theorem CZ (h:ah st i=some x):aP f wd i st=put st (f x) wd [i]:=by
 unfold aP;rw [h];rfl
theorem Dd (h:ah st i=some x) (h':ah st j=some y):ar f wd i j st=put st (f x y) wd [i,j]:=by
 unfold ar;rw [h];show put st ((ah st j).bind fun q=>f x q) wd [i,j]=_;rw [h'];rfl
theorem EC {l:List Nat} {i j:Nat} (h:l[i]?=some j):(l.take (i+1)).foldl f st=f ((l.take i).foldl f st) j:=by
 rw [jC,h,List.foldl_append];rfl
end MU
namespace Y0
open PySem L2
seal L2.PE L2.PA L2.PT L2.PS L2.gS L2.PG L2.lX L2.PI L2.PO
section
variable {C p be rl bd:Addr} {n:Nat} {F:MU.cv} {st:MU.St} {σ:L2.St} {H:Hp} {Q:VK} {E:XK}
theorem CS {at_:Nat} {i:Nat} (h1:σ[i]?=some (some (.int (at_:Int)))) (k:∀t,H t=none->R [.ref t] (upd H t (.tup ([at_].map fun i:Nat=>V.int (i:Int))))):kN (Hj (kN (wC i) rO)) rO σ H R:=
 ⟨_,h1,eW rfl,fun t ht=>k t ht⟩
theorem CT {a b:Nat} {i j:Nat} (h1:σ[i]?=some (some (.int (a:Int)))) (h2:σ[j]?=some (some (.int (b:Int)))) (k:∀t,H t=none->R [.ref t] (upd H t (.tup ([a,b].map fun i:Nat=>V.int (i:Int))))):kN (Hj (kN (wC i) (kN (wC j) rO))) rO σ H R:=
 ⟨_,h1,_,h2,eW rfl,fun t ht=>k t ht⟩
theorem vn (hw:word=lI wd) (h0:σ[0]?=some (some (.ref p))) (c:gp C H p be rl bd n F st) (g:MU.cy n st)
 (hu:∀R:List V->Hp->Prop,(∀t,H t=none->R [.ref t] (upd H t (.tup (us.map fun i:Nat=>V.int (i:Int)))))->tu σ H R) (hx:Paired (fun i x=>MU.ah st i=some x) us xs) (ask:pe F (lI wd) xs o) (hlen:st.rows.length<=16500000)
 (k:∀H',gp C H' p be rl bd n F (MU.put st o wd us)->dQ p rl bd H H'->Q .bf H'):Hs C "draw" (Dm C) [] E (wC 0) (kN (tC (.str word)) tu) σ H Q:=by
 subst hw;obtain ⟨dx,hp⟩:=c.ins;refine ⟨_,h0,p,dx,_,rfl,hp,oz (by decide+kernel) (by decide+kernel) (by decide+kernel) (by decide+kernel) (by decide+kernel),?_⟩;refine hu _ fun t ht=>?_;have s1:=bj (o:=.tup (us.map fun i:Nat=>V.int (i:Int))) ht;exact ⟨p,be,rl,bd,t,n,F,st,wd,us,xs,o,rfl,c.same s1,g,aq,hx,ask,hlen,fun H' c' k'=>k H' c' ((dQ.of s1).trans k')⟩
end
theorem gp.apart (c:gp C H p be rl bd n F st) (h:H la=none):la≠p/\la≠rl/\la≠bd:=by
 obtain ⟨dx,hp⟩:=c.ins;obtain ⟨qs,gx,_⟩:=c.rows;obtain ⟨kvs,f_,_⟩:=c.best;exact ⟨bp (aO hp h),bp (aO gx h),bp (aO f_ h)⟩
noncomputable def PL (C:Addr):Sp:=fun vs H Q _=>∃(p be rl bd:Addr) (n:Nat) (F:MU.cv) (st:MU.St) (at_:Nat) (x:MU.ao),vs=[.ref p,.int (at_:Int),.int (x.a:Int),.int (x.b:Int)]/\gp C H p be rl bd n F st/\MU.jx n F st/\MU.jE n F ((60:Nat):Int)/\MU.ah st at_=some x/\x.tie=true/\n<=8/\st.rows.length<=16000000/\
 ∀H',gp C H' p be rl bd n F (MU.eV n F at_ x.a x.b st)->MU.jx n F (MU.eV n F at_ x.a x.b st)->dQ p rl bd H H'->Q .bf H'
noncomputable def Qz (C:Addr):Sp:=fun vs H Q _=>∃(p be rl bd:Addr) (n:Nat) (F:MU.cv) (st:MU.St) (at_:Nat) (x:MU.ao),vs=[.ref p,.int (at_:Int),.int (x.a:Int)]/\gp C H p be rl bd n F st/\MU.jx n F st/\MU.jE n F ((60:Nat):Int)/\MU.ah st at_=some x/\x.tie=false/\n<=8/\st.rows.length<=16000000/\
 ∀H',gp C H' p be rl bd n F (MU.fX n F at_ x.a st)->MU.jx n F (MU.fX n F at_ x.a st)->dQ p rl bd H H'->Q .bf H'
noncomputable abbrev nFt:List Str:=["self","at","a","b","number"]
theorem CO:cF nFt ["self","at","a","b"] (aZ aK):=cT
noncomputable abbrev nFw:List Str:=["self","at","a","number"]
theorem QX:cF nFw ["self","at","a"] (aZ aB):=cT
theorem kY (F:gc K "draw_from_wait" "Closing.draw_from_wait" aB f fd) (T:ph K mg C)
 (mD:gq K C "draw" fD) (bD:dP K LY ["self","word","used"] []) (GD:aw P w K mg base ax 3 fD LY ["self","word","used"] (Dm C))
 (mZ:gq K C "ties_to" fZ) (bZ:dP K LV ["self","b"] []) (GZ:aw P w K mg base ax 1 fZ LV ["self","b"] (Hi C)):aw P w K mg base ax 4 f fd ["self","at","a"] (Qz C):=by
 refine F.ok QX (fun _ _ _ _ h=>?_) fun _ A _ s H _ Q E hr h=>?_
 ·obtain ⟨_,_,_,_,_,_,_,_,_,rfl,_⟩:=h;rfl
 ·obtain ⟨p,be,rl,bd,n,Fa,st,at_,x,rfl,c,S,hF,hx,ht,h8,hlen,k⟩:=h;have gE:dn 1 _:=hr.mono (by decide);refine ⟨_,aY (gB (gX (pv 0) T.cl mD GD hr bD .nil ee (cf fh (eU (cw (pv 1))))))
   (aY (gB (gX (pv 0) T.cl mD GD hr bD .nil ee (cf fh (eU (cw (pv 1))))))
   (az (iP PassesOwn.never rfl (gA (gX (pv 0) T.cl mZ GZ gE bZ .nil ee (cw (pv 2)))) (cj 3 QX.nd)
    (az (gB (gX (pv 0) T.cl mD GD hr bD .nil ee (cf fh (eU (cf (pv 1) (pv 3)))))))))),?_⟩
  obtain ⟨xa,xb⟩:=S.good.lt _ _ hx;obtain ⟨fa,pL⟩:=S.ends _ _ hx ht;have d1:MU.aP (MU.dH Fa) .sure at_ st=MU.put st (MU.dH Fa x) .sure [at_]:=MU.CZ hx;have S1:MU.jx n Fa (MU.put st (MU.dH Fa x) .sure [at_]):=S.put fun w e=>MU.VT hF xa xb e;have u6:MU.ah (MU.put st (MU.dH Fa x) .sure [at_]) at_=some x:=MU.c8 (MU.tE _ _ _ _) hx;have l1:=MU.h_ st (MU.dH Fa x) .sure [at_];have goal:MU.fX n Fa at_ x.a st=(MU.dI n (MU.aP (MU.d7 Fa) .a8 at_ (MU.aP (MU.dH Fa) .sure at_ st)) x.a).foldl (fun st j=>MU.ar (MU.bq Fa) .back at_ j st) (MU.aP (MU.d7 Fa) .a8 at_ (MU.aP (MU.dH Fa) .sure at_ st)):=rfl;rw [d1] at goal;refine fun N1 c1=>vn (wd:=.sure) rfl rfl c S.good (fun R z=>CS rfl z) (.cons hx .nil) (.sure x fa ht pL) (by lia) fun H1 C1 k1=>c1 _ _ ?_;generalize MU.put st (MU.dH Fa x) .sure [at_]=gC at*;clear c1 N1;have d2:MU.aP (MU.d7 Fa) .a8 at_ gC=MU.put gC (MU.d7 Fa x) .a8 [at_]:=MU.CZ u6;have S2:MU.jx n Fa (MU.put gC (MU.d7 Fa x) .a8 [at_]):=S1.put fun w e=>MU.Wo hF xa xb e;have xQ:MU.ah (MU.put gC (MU.d7 Fa x) .a8 [at_]) at_=some x:=MU.c8 (MU.tE _ _ _ _) u6;have l2:=MU.h_ gC (MU.d7 Fa x) .a8 [at_];rw [d2] at goal;refine fun N2 c2=>vn (wd:=.a8) rfl rfl C1 S1.good (fun R z=>CS rfl z) (.cons u6 .nil) (.a8 x fa ht pL) (by lia) fun H2 C2 k2=>c2 _ _ ?_;generalize MU.put gC (MU.d7 Fa x) .a8 [at_]=ba at*;clear c2 N2;have k02:=k1.trans k2;obtain ⟨dx,hp⟩:=C2.ins;refine ⟨_,rfl,p,dx,_,rfl,hp,oz (by decide+kernel) (by decide+kernel) (by decide+kernel) (by decide+kernel) (by decide+kernel),_,rfl,p,be,rl,bd,n,Fa,ba,x.a,rfl,C2,h8,fun la H3 su s3 e3=>?_⟩;obtain ⟨n1,n2,n3⟩:=C2.apart su;have C3:=C2.same s3;refine ⟨la,rfl,⟨_,ay.of e3⟩,?_⟩;have eX:∀j∈MU.dI n ba x.a,∃y,MU.ah ba j=some y/\y.tie=true/\y.a<n/\y.b<n:=fun j hj=>by
   obtain ⟨cc,_,hb⟩:=MU.EI hj;obtain ⟨y,hy,hk⟩:=S2.good.at_ _ _ hb;obtain ⟨q1,q2,q3⟩:=MU.iD hk;exact ⟨y,hy,q1,S2.good.lt _ _ hy⟩
  have tl:=MU.EH (n:=n) (st:=ba) (b:=x.a);generalize MU.dI n ba x.a=L at*;refine kO (K:=K) (a:=la) (xs:=fV L) (fun i aa H'=>∃v,aa=[some (.ref p),some (.int (at_:Int)),some (.int (x.a:Int)),v]/\gp C H' p be rl bd n Fa ((L.take i).foldl (fun st j=>MU.ar (MU.bq Fa) .back at_ j st) ba)/\MU.jx n Fa ((L.take i).foldl (fun st j=>MU.ar (MU.bq Fa) .back at_ j st) ba)/\MU.Ext ba ((L.take i).foldl (fun st j=>MU.ar (MU.bq Fa) .back at_ j st) ba)/\dQ p rl bd H3 H') ⟨none,rfl,C3,S2,MU.Ext.refl _,dQ.of (aM.refl _)⟩ ?_ ?_ ?_
  ·rintro i aa H4 _ ⟨v,rfl,_,_,_,k4⟩;exact ay.of (k4 _ _ e3 n1 n2 n3)
  ·rintro i y aa H4 hy ⟨v,rfl,C4,S4,x4,k4⟩;unfold fV at hy;rw [dt] at hy
   cases q:L[i]? with
   | none=>rw [q] at hy;cases hy
   | some j=>
    rw [q] at hy;cases hy;obtain ⟨y,sk,yt,ya,yb⟩:=eX j (dZ q);have fl:=MU.qh (f:=fun st j=>MU.ar (MU.bq Fa) .back at_ j st) (fun _ _=>MU.h_ _ _ _ _) (L.take i) ba;rw [iA] at fl;rw [MU.EC q];have qP:=MU.c8 x4 xQ;have pH:=MU.c8 x4 sk;have e4:MU.ar (MU.bq Fa) .back at_ j ((L.take i).foldl (fun st j=>MU.ar (MU.bq Fa) .back at_ j st) ba)=MU.put ((L.take i).foldl (fun st j=>MU.ar (MU.bq Fa) .back at_ j st) ba) (MU.bq Fa x y) .back [at_,j]:=MU.Dd qP pH;rw [e4];generalize (L.take i).foldl (fun st j=>MU.ar (MU.bq Fa) .back at_ j st) ba=cJ at*;refine vn (wd:=.back) rfl rfl C4 S4.good (fun R z=>CT rfl rfl z) (.cons qP (.cons pH .nil)) (.back x y fa ht yt pL) (by lia) fun H5 C5 k5=>⟨_,rfl,C5,S4.put fun w e=>MU.Nz xa xb ya yb e,x4.trans (MU.tE _ _ _ _),k4.trans k5⟩
  ·rintro aa H4 ⟨v,rfl,C4,S4,x4,k4⟩;have bP:L.take (fV L).length=L:=by unfold fV;rw [a7];exact ir
   rw [bP,<-goal] at C4 S4;exact k H4 C4 S4 ((k02.trans (dQ.of s3)).trans k4)
theorem mx (F:gc K "draw_from_tie" "Closing.draw_from_tie" aK f fd) (T:ph K mg C)
 (mD:gq K C "draw" fD) (bD:dP K LY ["self","word","used"] []) (GD:aw P w K mg base ax 3 fD LY ["self","word","used"] (Dm C))
 (mZ:gq K C "ties_to" fZ) (bZ:dP K LV ["self","b"] []) (GZ:aw P w K mg base ax 1 fZ LV ["self","b"] (Hi C))
 (mK:gq K C "known_of" fK) (bK:dP K Cj ["self","kind","a"] []) (GK:aw P w K mg base ax 1 fK Cj ["self","kind","a"] (NZ C)):aw P w K mg base ax 4 f fd ["self","at","a","b"] (PL C):=by
 refine F.ok CO (fun _ _ _ _ h=>?_) fun _ A _ s H _ Q E hr h=>?_
 ·obtain ⟨_,_,_,_,_,_,_,_,_,rfl,_⟩:=h;rfl
 ·obtain ⟨p,be,rl,bd,n,Fa,st,at_,x,rfl,c,S,hF,hx,ht,h8,hlen,k⟩:=h;have gE:dn 1 _:=hr.mono (by decide);refine ⟨_,aY (gB (gX (pv 0) T.cl mD GD hr bD .nil ee (cf fh (eU (cw (pv 1))))))
   (aY (gB (gX (pv 0) T.cl mD GD hr bD .nil ee (cf fh (eU (cw (pv 1))))))
   (aY (iP PassesOwn.never rfl (gA (gX (pv 0) T.cl mK GK gE bK .nil ee (cf fh (pv 3)))) (cj 4 CO.nd)
    (az (gB (gX (pv 0) T.cl mD GD hr bD .nil ee (cf fh (eU (cf (pv 1) (pv 4))))))))
   (aY (iP PassesOwn.never rfl (gA (gX (pv 0) T.cl mZ GZ gE bZ .nil ee (cw (pv 2)))) (cj 4 CO.nd)
    (az (gB (gX (pv 0) T.cl mD GD hr bD .nil ee (cf fh (eU (cf (pv 4) (pv 1))))))))
   (az (iP PassesOwn.never rfl (gA (gX (pv 0) T.cl mK GK gE bK .nil ee (cf fh (pv 3)))) (cj 4 CO.nd)
    (az (gB (gX (pv 0) T.cl mD GD hr bD .nil ee (cf fh (eU (cf (pv 4) (pv 1)))))))))))),?_⟩
  obtain ⟨xa,xb⟩:=S.good.lt _ _ hx;have d1:MU.aP (MU.d8 Fa) .aV at_ st=MU.put st (MU.d8 Fa x) .aV [at_]:=MU.CZ hx;have S1:MU.jx n Fa (MU.put st (MU.d8 Fa x) .aV [at_]):=S.put fun w e=>MU.V0 xa xb e;have u6:MU.ah (MU.put st (MU.d8 Fa x) .aV [at_]) at_=some x:=MU.c8 (MU.tE _ _ _ _) hx;have l1:=MU.h_ st (MU.d8 Fa x) .aV [at_];generalize lu:MU.eV n Fa at_ x.a x.b st=fin at*;unfold MU.eV at lu;dsimp only at lu;rw [d1] at lu;refine fun N1 c1=>vn (wd:=.aV) rfl rfl c S.good (fun R z=>CS rfl z) (.cons hx .nil) (.aV x ht) (by lia) fun H1 C1 k1=>c1 _ _ ?_;generalize MU.put st (MU.d8 Fa x) .aV [at_]=gC at*;clear c1 N1;have d2:MU.aP (MU.dC Fa) .b5 at_ gC=MU.put gC (MU.dC Fa x) .b5 [at_]:=MU.CZ u6;have S2:MU.jx n Fa (MU.put gC (MU.dC Fa x) .b5 [at_]):=S1.put fun w e=>MU.Wm hF xa xb e;have xQ:MU.ah (MU.put gC (MU.dC Fa x) .b5 [at_]) at_=some x:=MU.c8 (MU.tE _ _ _ _) u6;have l2:=MU.h_ gC (MU.dC Fa x) .b5 [at_];rw [d2] at lu;refine fun N2 c2=>vn (wd:=.b5) rfl rfl C1 S1.good (fun R z=>CS rfl z) (.cons u6 .nil) (.b5 x ht) (by lia) fun H2 C2 k2=>c2 _ _ ?_;generalize MU.put gC (MU.dC Fa x) .b5 [at_]=ba at*;clear c2 N2;have kA:=k1.trans k2;clear k1 k2;have v4:∃v:Option V,(none:Option V)=v:=⟨_,rfl⟩;obtain ⟨v4,hv4⟩:=v4;have lenA:ba.rows.length<=st.rows.length+2:=by lia
  refine fun N3 c3=>?_;obtain ⟨dx,hp⟩:=C2.ins;refine ⟨_,rfl,p,dx,_,rfl,hp,oz (by decide+kernel) (by decide+kernel) (by decide+kernel) (by decide+kernel) (by decide+kernel),_,rfl,p,be,rl,bd,n,Fa,ba,true,x.b,rfl,C2,h8,fun la H3 su s3 e3=>?_⟩;obtain ⟨n1,n2,n3⟩:=C2.apart su;have C3:=C2.same s3;refine ⟨la,rfl,⟨_,ay.of e3⟩,?_⟩;have eX:∀j∈MU.cZ n ba true x.b,∃y,MU.ah ba j=some y/\y.tie=true/\y.a<n/\y.b<n:=fun j hj=>by
   obtain ⟨cc,_,hb⟩:=MU.IJ hj;obtain ⟨y,hy,hk⟩:=S2.good.at_ _ _ hb;obtain ⟨q1,q2,q3⟩:=MU.iD hk;exact ⟨y,hy,q1,S2.good.lt _ _ hy⟩
  have tl:(MU.cZ n ba true x.b).length<=n:=MU.DX;generalize MU.cZ n ba true x.b=L at*;refine kO (K:=K) (a:=la) (xs:=fV L) (fun i aa H'=>∃v,aa=[some (.ref p),some (.int (at_:Int)),some (.int (x.a:Int)),some (.int (x.b:Int)),v]/\gp C H' p be rl bd n Fa ((L.take i).foldl (fun st j=>MU.ar MU.aI .sum at_ j st) ba)/\MU.jx n Fa ((L.take i).foldl (fun st j=>MU.ar MU.aI .sum at_ j st) ba)/\MU.Ext ba ((L.take i).foldl (fun st j=>MU.ar MU.aI .sum at_ j st) ba)/\dQ p rl bd H3 H') ⟨_,rfl,C3,S2,MU.Ext.refl _,dQ.of (aM.refl _)⟩ ?_ ?_ ?_
  ·rintro i aa H4 _ ⟨v,rfl,_,_,_,k4⟩;exact ay.of (k4 _ _ e3 n1 n2 n3)
  ·rintro i y aa H4 hy ⟨v,rfl,C4,S4,x4,k4⟩;unfold fV at hy;rw [dt] at hy
   cases q:L[i]? with
   | none=>rw [q] at hy;cases hy
   | some j=>
    rw [q] at hy;cases hy;obtain ⟨y,sk,yt,ya,yb⟩:=eX j (dZ q);have fl:=MU.qh (f:=fun st j=>MU.ar MU.aI .sum at_ j st) (fun _ _=>MU.h_ _ _ _ _) (L.take i) ba;rw [iA] at fl;rw [MU.EC q];have qP:=MU.c8 x4 xQ;have pH:=MU.c8 x4 sk;have e4:MU.ar MU.aI .sum at_ j ((L.take i).foldl (fun st j=>MU.ar MU.aI .sum at_ j st) ba)=MU.put ((L.take i).foldl (fun st j=>MU.ar MU.aI .sum at_ j st) ba) (MU.aI x y) .sum [at_,j]:=MU.Dd qP pH;rw [e4];generalize (L.take i).foldl (fun st j=>MU.ar MU.aI .sum at_ j st) ba=cJ at*;refine vn (wd:=.sum) rfl rfl C4 S4.good (fun R z=>CT rfl rfl z) (.cons qP (.cons pH .nil)) (.sum x y ht yt) (by lia) fun H5 C5 k5=>⟨_,rfl,C5,S4.put fun w e=>MU.Nj xa yb e,x4.trans (MU.tE _ _ _ _),k4.trans k5⟩
  rintro aa H4 ⟨v1,rfl,C5,S5,x1,k4⟩;have bP:L.take (fV L).length=L:=by unfold fV;rw [a7];exact ir
  rw [bP] at C5 S5 x1;refine c3 _ _ ?_;have kB:=(kA.trans (dQ.of s3)).trans k4;have Sg:=MU.c8 x1 xQ;have lenB:(L.foldl (fun st j=>MU.ar MU.aI .sum at_ j st) ba).rows.length<=st.rows.length+(2+1*n):=by
   have:=MU.qh (f:=fun st j=>MU.ar MU.aI .sum at_ j st) (fun _ _=>MU.h_ _ _ _ _) L ba;lia
  generalize L.foldl (fun st j=>MU.ar MU.aI .sum at_ j st) ba=cD at*;clear eX tl e3 n1 n2 n3 C3 su s3 k4 bP x1 hp c3 N3;refine fun N4 c4=>?_;obtain ⟨dx,hp⟩:=C5.ins;refine ⟨_,rfl,p,dx,_,rfl,hp,oz (by decide+kernel) (by decide+kernel) (by decide+kernel) (by decide+kernel) (by decide+kernel),_,rfl,p,be,rl,bd,n,Fa,cD,x.a,rfl,C5,h8,fun la H3 su s3 e3=>?_⟩;obtain ⟨n1,n2,n3⟩:=C5.apart su;have C3:=C5.same s3;refine ⟨la,rfl,⟨_,ay.of e3⟩,?_⟩;have eX:∀j∈MU.dI n cD x.a,∃y,MU.ah cD j=some y/\y.tie=true/\y.a<n/\y.b<n:=fun j hj=>by
   obtain ⟨cc,_,hb⟩:=MU.EI hj;obtain ⟨y,hy,hk⟩:=S5.good.at_ _ _ hb;obtain ⟨q1,q2,q3⟩:=MU.iD hk;exact ⟨y,hy,q1,S5.good.lt _ _ hy⟩
  have tl:(MU.dI n cD x.a).length<=n:=MU.EH;generalize MU.dI n cD x.a=L at*;refine kO (K:=K) (a:=la) (xs:=fV L) (fun i aa H'=>∃v,aa=[some (.ref p),some (.int (at_:Int)),some (.int (x.a:Int)),some (.int (x.b:Int)),v]/\gp C H' p be rl bd n Fa ((L.take i).foldl (fun st j=>MU.ar MU.aI .sum j at_ st) cD)/\MU.jx n Fa ((L.take i).foldl (fun st j=>MU.ar MU.aI .sum j at_ st) cD)/\MU.Ext cD ((L.take i).foldl (fun st j=>MU.ar MU.aI .sum j at_ st) cD)/\dQ p rl bd H3 H') ⟨_,rfl,C3,S5,MU.Ext.refl _,dQ.of (aM.refl _)⟩ ?_ ?_ ?_
  ·rintro i aa H4 _ ⟨v,rfl,_,_,_,k4⟩;exact ay.of (k4 _ _ e3 n1 n2 n3)
  ·rintro i y aa H4 hy ⟨v,rfl,C4,S4,x4,k4⟩;unfold fV at hy;rw [dt] at hy
   cases q:L[i]? with
   | none=>rw [q] at hy;cases hy
   | some j=>
    rw [q] at hy;cases hy;obtain ⟨y,sk,yt,ya,yb⟩:=eX j (dZ q);have fl:=MU.qh (f:=fun st j=>MU.ar MU.aI .sum j at_ st) (fun _ _=>MU.h_ _ _ _ _) (L.take i) cD;rw [iA] at fl;rw [MU.EC q];have qP:=MU.c8 x4 Sg;have pH:=MU.c8 x4 sk;have e4:MU.ar MU.aI .sum j at_ ((L.take i).foldl (fun st j=>MU.ar MU.aI .sum j at_ st) cD)=MU.put ((L.take i).foldl (fun st j=>MU.ar MU.aI .sum j at_ st) cD) (MU.aI y x) .sum [j,at_]:=MU.Dd pH qP;rw [e4];generalize (L.take i).foldl (fun st j=>MU.ar MU.aI .sum j at_ st) cD=cJ at*;refine vn (wd:=.sum) rfl rfl C4 S4.good (fun R z=>CT rfl rfl z) (.cons pH (.cons qP .nil)) (.sum y x yt ht) (by lia) fun H5 C5 k5=>⟨_,rfl,C5,S4.put fun w e=>MU.Nj ya xb e,x4.trans (MU.tE _ _ _ _),k4.trans k5⟩
  rintro aa H4 ⟨v2,rfl,C6,S6,x2,k4⟩;have bP:L.take (fV L).length=L:=by unfold fV;rw [a7];exact ir
  rw [bP] at C6 S6 x2;refine c4 _ _ ?_;have kC:=(kB.trans (dQ.of s3)).trans k4;have Kz:=MU.c8 x2 Sg;have lenC:(L.foldl (fun st j=>MU.ar MU.aI .sum j at_ st) cD).rows.length<=st.rows.length+(2+2*n):=by
   have:=MU.qh (f:=fun st j=>MU.ar MU.aI .sum j at_ st) (fun _ _=>MU.h_ _ _ _ _) L cD;lia
  generalize L.foldl (fun st j=>MU.ar MU.aI .sum j at_ st) cD=ie at*;clear eX tl e3 n1 n2 n3 C3 su s3 k4 bP x2 hp c4 N4;obtain ⟨dx,hp⟩:=C6.ins;refine ⟨_,rfl,p,dx,_,rfl,hp,oz (by decide+kernel) (by decide+kernel) (by decide+kernel) (by decide+kernel) (by decide+kernel),_,rfl,p,be,rl,bd,n,Fa,ie,false,x.b,rfl,C6,h8,fun la H3 su s3 e3=>?_⟩;obtain ⟨n1,n2,n3⟩:=C6.apart su;have C3:=C6.same s3;refine ⟨la,rfl,⟨_,ay.of e3⟩,?_⟩;have eX:∀j∈MU.cZ n ie false x.b,∃y,MU.ah ie j=some y/\y.tie=false/\y.a<n/\y.b<n:=fun j hj=>by
   obtain ⟨cc,_,hb⟩:=MU.IJ hj;obtain ⟨y,hy,hk⟩:=S6.good.at_ _ _ hb;obtain ⟨q1,q2,q3⟩:=MU.iD hk;exact ⟨y,hy,q1,S6.good.lt _ _ hy⟩
  have tl:(MU.cZ n ie false x.b).length<=n:=MU.DX;generalize MU.cZ n ie false x.b=L at*;refine kO (K:=K) (a:=la) (xs:=fV L) (fun i aa H'=>∃v,aa=[some (.ref p),some (.int (at_:Int)),some (.int (x.a:Int)),some (.int (x.b:Int)),v]/\gp C H' p be rl bd n Fa ((L.take i).foldl (fun st j=>MU.ar (MU.bq Fa) .back j at_ st) ie)/\MU.jx n Fa ((L.take i).foldl (fun st j=>MU.ar (MU.bq Fa) .back j at_ st) ie)/\MU.Ext ie ((L.take i).foldl (fun st j=>MU.ar (MU.bq Fa) .back j at_ st) ie)/\dQ p rl bd H3 H') ⟨_,rfl,C3,S6,MU.Ext.refl _,dQ.of (aM.refl _)⟩ ?_ ?_ ?_
  ·rintro i aa H4 _ ⟨v,rfl,_,_,_,k4⟩;exact ay.of (k4 _ _ e3 n1 n2 n3)
  ·rintro i y aa H4 hy ⟨v,rfl,C4,S4,x4,k4⟩;unfold fV at hy;rw [dt] at hy
   cases q:L[i]? with
   | none=>rw [q] at hy;cases hy
   | some j=>
    rw [q] at hy;cases hy;obtain ⟨y,sk,yt,ya,yb⟩:=eX j (dZ q);have fl:=MU.qh (f:=fun st j=>MU.ar (MU.bq Fa) .back j at_ st) (fun _ _=>MU.h_ _ _ _ _) (L.take i) ie;rw [iA] at fl;rw [MU.EC q];have qP:=MU.c8 x4 Kz;have pH:=MU.c8 x4 sk;have e4:MU.ar (MU.bq Fa) .back j at_ ((L.take i).foldl (fun st j=>MU.ar (MU.bq Fa) .back j at_ st) ie)=MU.put ((L.take i).foldl (fun st j=>MU.ar (MU.bq Fa) .back j at_ st) ie) ((MU.bq Fa) y x) .back [j,at_]:=MU.Dd pH qP;rw [e4];obtain ⟨yf,hyf⟩:=S4.ends _ _ pH yt;generalize (L.take i).foldl (fun st j=>MU.ar (MU.bq Fa) .back j at_ st) ie=cJ at*;refine vn (wd:=.back) rfl rfl C4 S4.good (fun R z=>CT rfl rfl z) (.cons pH (.cons qP .nil)) (.back y x yf yt ht hyf) (by lia) fun H5 C5 k5=>⟨_,rfl,C5,S4.put fun w e=>MU.Nz ya yb xa xb e,x4.trans (MU.tE _ _ _ _),k4.trans k5⟩
  ·rintro aa H4 ⟨v,rfl,C4,S4,x4,k4⟩;have bP:L.take (fV L).length=L:=by unfold fV;rw [a7];exact ir
   rw [bP,lu] at C4 S4;exact k H4 C4 S4 ((kC.trans (dQ.of s3)).trans k4)
structure Ak (n:Nat) (F:MU.cv) (s0:MU.St) (T:Nat):Prop where
 end_:(MU.run n F s0 T).rows.length<=T\/(MU.run n F s0 T).bar≠none
 first:∀t,t<T->t<(MU.run n F s0 t).rows.length/\(MU.run n F s0 t).bar=none
 m_:∀t,t<=T->(MU.run n F s0 t).rows.length<=16000000
noncomputable def ML (C:Addr):Sp:=fun vs H Q _=>∃(p be rl bd:Addr) (n:Nat) (F:MU.cv) (s0:MU.St) (T:Nat),vs=[.ref p]/\gp C H p be rl bd n F s0/\MU.jx n F s0/\MU.jE n F ((60:Nat):Int)/\n<=8/\Ak n F s0 T/\
 ∀H',gp C H' p be rl bd n F (MU.run n F s0 T)->MU.jx n F (MU.run n F s0 T)->dQ p rl bd H H'->Q .bf H'
theorem CM:cF ["self","at","what"] ["self"] (aZ bh):=cT
theorem mz (F:gc K "draw_all" "Closing.draw_all" bh f fd) (T:ph K mg C)
 (mT:gq K C "draw_from_tie" fT) (bT:dP K kI ["self","at","a","b"] []) (GT:aw P w K mg base ax 4 fT kI ["self","at","a","b"] (PL C))
 (mW:gq K C "draw_from_wait" fW) (bW:dP K wk ["self","at","a"] []) (GW:aw P w K mg base ax 4 fW wk ["self","at","a"] (Qz C)):aw P w K mg base ax 5 f fd ["self"] (ML C):=by
 refine F.ok CM (fun _ _ _ _ h=>?_) fun _ A _ s H _ Q E hr h=>?_
 ·obtain ⟨_,_,_,_,_,_,_,_,rfl,_⟩:=h;rfl
 ·obtain ⟨p,be,rl,bd,n,Fa,s0,Te,rfl,c,S,hF,h8,hE,k⟩:=h;have hu:=jK hr;refine ⟨_,aY (cI 1 CM.nd aH)
   (az (Py PassesOwn.never (PW.pt (rW (cV sZ (pv 1) (kE zy (by rfl) T.len zU (cw (cS (pv 0) rfl)))) (vm (cV Av (cS (pv 0) rfl) j7))))
    (aY (cI 2 CM.nd (aE (cW df (cS (pv 0) rfl) (pv 1) (fun _ _=>rfl))))
    (aY (zb (d0 (cV fw (kD hu (cS (pv 0) rfl) (AG Dl (pv 2) A8 (A9 aH)) (fun _ _=>rfl)) (pv 1))
     (az (d0 (cV fw (aE (pv 2)) fh)
      (az (gB (gX (pv 0) T.cl mT GT hr bT .nil ee (gD (pv 1) (aE (pv 2)) (aE (pv 2))))))
      (az (gB (gX (pv 0) T.cl mW GW hr bW .nil ee (cf (pv 1) (aE (pv 2)))))))) d9))
    (az (HF (i:=1) CM.nd rfl (Or.inl rfl) aH Hv)))))),?_⟩
  refine fun N1 c1=>c1 _ _ ?_;refine ⟨fun m aa H'=>∃t v,t+m=Te/\aa=[some (.ref p),some (.int (t:Int)),v]/\gp C H' p be rl bd n Fa (MU.run n Fa s0 t)/\MU.jx n Fa (MU.run n Fa s0 t)/\dQ p rl bd H H',⟨Te,0,none,by lia,rfl,c,S,dQ.of (aM.refl _)⟩,?_⟩;rintro m aa H1 ⟨t,v,htm,rfl,C1,S1,k1⟩;obtain ⟨dx,hp⟩:=C1.ins;obtain ⟨qs,gx,cz⟩:=C1.rows;obtain ⟨kvs,f_,pK,ef⟩:=C1.best;have xW:qs.length=(MU.run n Fa s0 t).rows.length:=Paired.length cz;refine ⟨_,rfl,_,rfl,p,C,dx,_,_,rfl,hp,T.cl,T.nR,s_,rl,_,rfl,.inl (ay.of gx),_,_,rfl,rfl,_,rfl,?_⟩;rw [a7,xW];have rA:∀b,(MU.run n Fa s0 t).rows.length<=t\/(MU.run n Fa s0 t).bar≠none->b=false->if b=true then (∃N:L2.St->Hp->Prop,(∀aa H',N aa H'->∃m',m'<m/\∃t v,t+m'=Te/\aa=[some (.ref p),some (.int (t:Int)),v]/\gp C H' p be rl bd n Fa (MU.run n Fa s0 t)/\MU.jx n Fa (MU.run n Fa s0 t)/\dQ p rl bd H H')/\False) else Q .bf H1:=fun b oQ hb=>by
   have e:t=Te:=g8 fun z=>by
    have:=hE.first t (by lia);rcases oQ with y | y
    ·lia
    ·exact y this.2
   rw [if_neg (by rw [hb];decide)];rw [e] at C1 S1;exact k H1 C1 S1 k1
  by_cases aW:t<(MU.run n Fa s0 t).rows.length
  ·refine gr (by lia) ⟨_,rfl,p,C,dx,_,_,rfl,hp,T.cl,T.nX,CY,rfl,_,rfl,?_⟩;rw [N0]
   by_cases hb:(MU.run n Fa s0 t).bar=none
   ·refine gr hb ?_;have htT:t<Te:=g8 fun z=>by
     have e:t=Te:=by lia
     rcases hE.end_ with y | y
     ·rw [<-e] at y;lia
     ·rw [<-e] at y;exact y hb
    refine ⟨fun aa H'=>∃m',m'<m/\∃t v,t+m'=Te/\aa=[some (.ref p),some (.int (t:Int)),v]/\gp C H' p be rl bd n Fa (MU.run n Fa s0 t)/\MU.jx n Fa (MU.run n Fa s0 t)/\dQ p rl bd H H',fun aa H' z=>z,?_⟩;obtain ⟨x,hx⟩:∃x,MU.ah (MU.run n Fa s0 t) t=some x:=⟨_,by unfold MU.ah;rw [iR aW];rfl⟩;obtain ⟨q',r,pw,pu,g1,g2,g3,g4,g5,g6⟩:=DD cz hx;have gb:g_ (qs.map V.ref) (t:Int)=some (.ref q'):=j8 (by rw [dt,g1];rfl);refine fun N2 c2=>⟨_,rfl,p,C,dx,_,_,rfl,hp,T.cl,T.nR,s_,pd rfl gx gb (a9 g4 rfl (c2 _ _ ?_))⟩;clear c2 N2;refine fun N3 c3=>⟨fun aa H'=>aa=[some (.ref p),some (.int (t:Int)),some (.ref pw)]/\gp C H' p be rl bd n Fa (MU.run n Fa s0 (t+1))/\MU.jx n Fa (MU.run n Fa s0 (t+1))/\dQ p rl bd H1 H',?_,?_⟩
    ·refine ⟨_,rfl,p,C,dx,_,_,rfl,hp,T.cl,T.nE,rR,_,rfl,_,rfl,pw,_,rfl,dz.of g5,Hy,fun kt mH=>?_⟩;rw [JF];have s3:=bj (o:=.tup ((cH x.key).map kV)) mH;have e3:upd H1 kt (.tup ((cH x.key).map kV)) kt=some (.tup ((cH x.key).map kV)):=aq;generalize upd H1 kt (.tup ((cH x.key).map kV))=H3 at*;obtain ⟨j,hj,rb⟩:=S1.good.top t x hx;have dg:=eS.t (k:=cH x.key) (s3 _ _ f_) e3;rw [ef,rb] at dg;have C3:=C1.same s3;have m_:=hE.m_ t (by exact bx htT);have hl:MU.run n Fa s0 (t+1)=MU.look n Fa t (MU.run n Fa s0 t):=rfl;refine ⟨bd,_,rfl,dg,_,rfl,rfl,_,rfl,?_⟩;rw [p_]
     by_cases e:j=t
     ·rw [e] at rb;refine gr e ⟨_,rfl,a9 (s3 _ _ g5) rfl ⟨rfl,_,rfl,?_⟩⟩;rw [DP]
      cases ht:x.tie with
      | true=>
       have el:=MU.DQ (n:=n) (F:=Fa) hx ht rfl rfl (by rw [<-rb];unfold MU.ao.key;rw [ht]);rw [hl,el];refine iN ⟨_,rfl,p,dx,_,rfl,s3 _ _ hp,oz (by decide+kernel) (by decide+kernel) (by decide+kernel) (by decide+kernel) (by decide+kernel),_,rfl,_,rfl,a9 (s3 _ _ g5) rfl ⟨_,rfl,a9 (s3 _ _ g5) rfl ?_⟩⟩;exact ⟨p,be,rl,bd,n,Fa,_,t,x,rfl,C3,S1,hF,hx,ht,h8,m_,fun H4 C4 S4 k4=>⟨rfl,C4,S4,(dQ.of s3).trans k4⟩⟩
      | false=>
       have el:=MU.IK (n:=n) (F:=Fa) hx ht rb;rw [hl,el];refine dO ⟨_,rfl,p,dx,_,rfl,s3 _ _ hp,oz (by decide+kernel) (by decide+kernel) (by decide+kernel) (by decide+kernel) (by decide+kernel),_,rfl,_,rfl,a9 (s3 _ _ g5) rfl ?_⟩;exact ⟨p,be,rl,bd,n,Fa,_,t,x,rfl,C3,S1,hF,hx,ht,h8,m_,fun H4 C4 S4 k4=>⟨rfl,C4,S4,(dQ.of s3).trans k4⟩⟩
     ·have el:=MU.P8 (n:=n) (F:=Fa) hx (by rw [rb];exact fun z=>e (gn z));rw [hl,el];exact ix e ⟨rfl,C3,S1,dQ.of s3⟩
    ·rintro aa H4 ⟨rfl,C4,S4,k4⟩;refine c3 _ _ ⟨_,rfl,_,_,rfl,rfl,m-1,by lia,t+1,some (.ref pw),by lia,?_,C4,S4,k1.trans k4⟩;show [some (V.ref p),some (V.int ((t:Int)+1)),some (V.ref pw)]=[some (V.ref p),some (V.int ((t+1:Nat):Int)),some (V.ref pw)];rfl
   ·have:=rA false (.inr hb) rfl;exact ix hb this
  ·have:=rA false (.inl (by lia)) rfl;exact ix (by lia) (dO this)
end Y0
namespace MU
noncomputable def empty:St:=⟨[],fun _=>none,none⟩
noncomputable def ma (rows:List ao) (st:St):St:=rows.foldl (fun st w=>take st w .told []) st
variable {n:Nat} {F:cv} {st:St}
theorem IP:cy n empty:=by
 have nw:∀i w,ah empty i≠some w:=fun i w h=>by
  unfold ah empty at h;simp at h
 exact ⟨fun k i h=>(nomatch h),fun i w h=>absurd h (nw i w),fun i w h=>absurd h (nw i w),fun _ i w h=>absurd h (nw i w),fun _ i j w w' h=>absurd h (nw i w)⟩
noncomputable def JB (n:Nat) (w:ao):Prop:=w.a<n/\w.b<n/\w.tie=true
theorem EG:∀(rows:List ao) (st:St),cy n st->(∀w∈rows,JB n w)->cy n (ma rows st)
 | [],_,g,_=>g
 | w::r,st,g,h=>EG r _ (Qh g (h w iu).1 (h w iu).2.1 fun z=>by rw [(h w iu).2.2] at z;cases z) fun w' lO=>h w' (jl _ lO)
theorem Qj:∀(rows:List ao) (st:St),Imp st (ma rows st)
 | [],st=>Imp.refl st
 | w::r,st=>(Pk st w _ _).trans (Qj r _)
theorem IM:∀(rows:List ao) (st:St),(ma rows st).rows.length<=st.rows.length+rows.length
 | [],st=>aF _
 | w::r,st=>by
  have h1:=IM r (take st w .told []);have h2:=h_ st (some w) .told [];have h2:(take st w .told []).rows.length<=st.rows.length+1:=h2;rw [lT];show (ma r (take st w .told [])).rows.length<=_;lia
theorem IS:∀(rows:List ao) (st:St),(∀i w,ah st i=some w->w.tie=true)->(∀w∈rows,JB n w)->∀i w,ah (ma rows st) i=some w->w.tie=true
 | [],_,h,_=>h
 | w::r,st,h,hw=>IS r _ (fun i u hu=>by
  by_cases hi:i<st.rows.length
  ·exact h i u (tJ (AJ _ _ _ _) hi hu)
  ·exact Pj (C:=fun u=>u.tie=true) (hw w iu).2.2 i u (by exact lU hi) hu) fun w' lO=>hw w' (jl _ lO)
theorem EJ:∀(rows:List ao) (st:St) (w:ao),w∈rows->w.a≠w.b->∃u,val (ma rows st) w.key=some u/\¬eA w.tie w.v u
 | [],_,w,h,_=>nomatch h
 | x::r,st,w,h,dJ=>by
  rcases iJ.mp h with e | h
  ·subst e;obtain ⟨u,hu,nu⟩:=EF (st:=st) (w:=w) (word:=.told) (used:=[]) dJ;obtain ⟨u',kG,Ka⟩:=(Qj r (take st w .told [])).2 w.key u dJ hu;exact ⟨u',kG,IW nu Ka⟩
  ·exact EJ r _ w h dJ
theorem Qq:∀i w,ah empty i=some w->w.tie=true:=fun i w h=>by
 unfold ah empty at h;simp at h
theorem V6 (g:cy n st) (h:∀i w,ah st i=some w->w.tie=true) (a b:Nat):val st (false,a,b)=none:=by
 unfold val
 cases q:st.best (false,a,b) with
 | none=>rfl
 | some i=>
  obtain ⟨w,hw,hk⟩:=g.at_ _ _ q;have:=h i w hw;have e:=(iD hk).1;rw [this] at e;cases e
end MU
namespace Y0
open PySem L2
seal L2.PE L2.PA L2.PT L2.PS L2.gS L2.PG L2.lX L2.PI L2.PO
noncomputable def iT:List Int->MU.ao
 | [a,b,v]=>⟨true,a.toNat,b.toNat,v⟩
 | _=>⟨true,0,0,0⟩
noncomputable def CK (n:Int) (rows:List (List Int)):Prop:=∀r∈rows,∃a b v:Int,r=[a,b,v]/\0<=a/\a<n/\0<=b/\b<n/\a≠b
theorem PH:∀{k:Nat} {n:Int},(k:Int)+1<=n->CK n (jL la k)
 | 0,_,_=>fun r hr=>nomatch hr
 | k+1,n,h=>fun r hr=>by
  unfold jL at hr;rcases kJ.mp hr with hr | hr
  ·exact PH (k:=k) (by exact gm h) r hr
  ·rcases iJ.mp hr with rfl | hr
   ·exact ⟨0,(k:Int)+1,la,rfl,by exact Int.NonNeg.mk (0+0),by lia,by exact Int.NonNeg.mk (k+1+0),by exact h,by lia⟩
   ·rw [jw.mp hr];exact ⟨(k:Int)+1,0,0,rfl,by exact Int.NonNeg.mk (k+1+0),by exact h,by exact Int.NonNeg.mk (0+0),by lia,by lia⟩
theorem Qd (h:∀r∈rows,∃a b l m:Int,r=[a,b,l,m]/\0<=a/\a<n/\0<=b/\b<n/\a≠b):CK n (jM rows):=fun r hr=>by
 unfold jM at hr;obtain ⟨x,hx,KH⟩:=List.mem_flatten.mp hr;obtain ⟨y,hy,rfl⟩:=gF.mp hx;obtain ⟨a,b,l,m,rfl,h1,h2,h3,h4,h5⟩:=h y hy;rcases iJ.mp KH with rfl | KH
 ·exact ⟨a,b,m,rfl,h1,h2,h3,h4,h5⟩
 ·rw [jw.mp KH];exact ⟨b,a,-l,rfl,h3,h4,h1,h2,bp h5⟩
theorem di.jV (h:di n la T F):CK n (iM n la T F):=fun r hr=>by
 unfold iM at hr;have n1:=h.n1;rcases kJ.mp hr with hr | hr
 ·rcases kJ.mp hr with hr | hr
  ·exact PH (by omega) r hr
  ·exact Qd (fun r hr=>by obtain ⟨a,b,l,m,e,x1,x2,x3,x4,x5,_⟩:=h.t r hr;exact ⟨a,b,l,m,e,x1,x2,x3,x4,x5⟩) r hr
 ·exact Qd (fun r hr=>by obtain ⟨a,b,l,m,e,x1,x2,x3,x4,x5,_⟩:=h.f r hr;exact ⟨a,b,l,m,e,x1,x2,by exact gm x3,x4,x5⟩) r hr
theorem Qm (h:di n la T F):(iM n la T F).length<=100:=by
 unfold iM;rw [gR,gR,vq,tK h.om,tK h.l7];have:=h.tl;have:=h.fl;have:=h.n2;lia
noncomputable def nz (n la:Int) (T F:List (List Int)):MU.St:=MU.ma ((iM n la T F).map iT) MU.empty
theorem yS {n:Nat} {rows:List (List Int)} (h:CK (n:Int) rows):∀w∈rows.map iT,MU.JB n w:=fun w hw=>by
 obtain ⟨r,hr,rfl⟩:=gF.mp hw;obtain ⟨a,b,v,rfl,h1,h2,h3,h4,_⟩:=h r hr;exact ⟨by show a.toNat<n;lia,by show b.toNat<n;lia,rfl⟩
theorem DT {n:Nat} {la:Int} {T F:List (List Int)} (h:di (n:Int) la T F):MU.jx n (bR F) (nz n la T F):=by
 have g:=MU.EG ((iM (n:Int) la T F).map iT) MU.empty MU.IP (yS h.jV);refine ⟨g,fun i w hw ht=>?_⟩;have:=MU.IS (n:=n) _ _ MU.Qq (yS h.jV) i w hw;rw [ht] at this;cases this
theorem IA:∀{k:Nat},i<k->[0,(i:Int)+1,la]∈jL la k/\[(i:Int)+1,0,0]∈jL la k
 | 0,h=>absurd h (sQ _)
 | k+1,h=>by
  unfold jL
  by_cases e:i=k
  ·subst e;exact ⟨ng _ iu,ng _ (jl _ iu)⟩
  ·obtain ⟨h1,h2⟩:=IA (la:=la) (i:=i) (k:=k) (by lia);exact ⟨lV _ h1,lV _ h2⟩
theorem XF {n:Nat} {la:Int} {T F:List (List Int)} (h:di (n:Int) la T F) (su:la<=60):∃Te,Ak n (bR F) (nz n la T F) Te:=by
 have g:=MU.EG ((iM (n:Int) la T F).map iT) MU.empty MU.IP (yS h.jV);have tN:=MU.IS (n:=n) _ _ MU.Qq (yS h.jV);have n1:=h.n1;have n2:=h.n2;have hl:=MU.IM ((iM (n:Int) la T F).map iT) MU.empty;have hs:=Qm h;rw [a7] at hl;have hl:(nz n la T F).rows.length<=0+(iM (n:Int) la T F).length:=hl;have told:∀i,0<i->i<n->(∃v,v<=((60:Nat):Int)/\MU.val (nz n la T F) (true,0,i)=some v)/\∃v,v<=0/\MU.val (nz n la T F) (true,i,0)=some v:=fun i h1 h2=>by
  have hk:i-1<((n:Int)-1).toNat:=by lia
  obtain ⟨m1,m2⟩:=IA (la:=la) hk;have ei:((i-1:Nat):Int)+1=(i:Int):=by lia
  rw [ei] at m1 m2;have in1:(⟨true,0,i,la⟩:MU.ao)∈(iM (n:Int) la T F).map iT:=gF.mpr ⟨_,lV _ (lV _ m1),rfl⟩;have in2:(⟨true,i,0,0⟩:MU.ao)∈(iM (n:Int) la T F).map iT:=gF.mpr ⟨_,lV _ (lV _ m2),rfl⟩;obtain ⟨u1,v1,w1⟩:=MU.EJ _ MU.empty _ in1 (by show 0≠i;lia);obtain ⟨u2,v2,w2⟩:=MU.EJ _ MU.empty _ in2 (by show i≠0;exact Nat.ne_of_gt h1);unfold MU.eA at w1 w2;simp at w1 w2;exact ⟨⟨u1,by lia,v1⟩,⟨u2,w2,v2⟩⟩
 obtain ⟨Te,e1,e2,e3⟩:=MU.Yo (n:=n) (F:=bR F) (s0:=nz n la T F) (by lia) h.pO g told (MU.V6 g tN) (by lia);exact ⟨Te,e1,e2,e3⟩
noncomputable def NU (C CW:Addr):Sp:=fun vs H Q _=>∃(p wb dx:Addr) (n:Nat) (la:Int) (T F:List (List Int)),vs=[.ref p,.ref wb]/\H p=some (.ins C dx [])/\kM CW H wb (n:Int) la T F/\di (n:Int) la T F/\
 ∀H' be rl bd,gp C H' p be rl bd n (bR F) (nz n la T F)->H be=none->H rl=none->H bd=none->cB p H H'->Q .bf H'
noncomputable abbrev nCi:List Str:=["self","web","a","b","most"]
theorem CN:cF nCi ["self","web"] (aZ cA):=cT
theorem km1:¬(("many":Str)="by_end"):=by decide+kernel
theorem km2:¬(("many":Str)="rows"):=by decide+kernel
theorem km3:¬(("by_end":Str)="rows"):=by decide+kernel
theorem km4:¬(("many":Str)="best"):=by decide+kernel
theorem km5:¬(("by_end":Str)="best"):=by decide+kernel
theorem km6:¬(("rows":Str)="best"):=by decide+kernel
theorem km7:¬(("many":Str)="bar"):=by decide+kernel
theorem km8:¬(("by_end":Str)="bar"):=by decide+kernel
theorem km9:¬(("rows":Str)="bar"):=by decide+kernel
theorem km0:¬(("best":Str)="bar"):=by decide+kernel
theorem Z8 {n:Nat}:ak "bar" v (ak "best" (.ref bd) (ak "rows" (.ref rl) (ak "by_end" (.ref be) (ak "many" (.int (n:Int)) []))))=iU n be rl bd v:=by
 have s1:ak "by_end" (V.ref be) [(("many":Str),V.int (n:Int))]=[(("many":Str),V.int (n:Int)),("by_end",.ref be)]:=by rw [nJ km1];rfl
 have s2:ak "rows" (V.ref rl) [(("many":Str),V.int (n:Int)),("by_end",.ref be)]=[(("many":Str),V.int (n:Int)),("by_end",.ref be),("rows",.ref rl)]:=by rw [nJ km2,nJ km3];rfl
 have s3:ak "best" (V.ref bd) [(("many":Str),V.int (n:Int)),("by_end",.ref be),("rows",.ref rl)]=[(("many":Str),V.int (n:Int)),("by_end",.ref be),("rows",.ref rl),("best",.ref bd)]:=by rw [nJ km4,nJ km5,nJ km6];rfl
 have s4:ak "bar" v [(("many":Str),V.int (n:Int)),("by_end",.ref be),("rows",.ref rl),("best",.ref bd)]=iU n be rl bd v:=by rw [nJ km7,nJ km8,nJ km9,nJ km0];rfl
 show ak "bar" v (ak "best" (.ref bd) (ak "rows" (.ref rl) (ak "by_end" (.ref be) [(("many":Str),V.int (n:Int))])))=_;rw [s1,s2,s3,s4]
theorem qF (F:gc K "__init__" "Closing.__init__" cA f fd) (T:ph K mg C) (TC:o_ K mg CW)
 (mT:gq K C "take" fT) (bT:dP K kI ["self","what","word","used"] []) (GT:aw P w K mg base ax 2 fT kI ["self","what","word","used"] (HN C))
 (FE:Fn K mg "falls_by_end" bJ ["web"] fE zQ) (GE:aw P w K mg base ax 2 fE zQ ["web"] (HY CW))
 (FB:Fn K mg "told_bounds" cK ["web"] fB sM) (GB:aw P w K mg base ax 3 fB sM ["web"] (Nh CW)):aw P w K mg base ax 4 f fd ["self","web"] (NU C CW):=by
 refine F.ok CN (fun _ _ _ _ h=>?_) fun _ A _ s H _ Q E hr h=>?_
 ·obtain ⟨_,_,_,_,_,_,_,rfl,_⟩:=h;rfl
 ·obtain ⟨p,wb,dx,n,la,rT,rF,rfl,hp,W0,ae,k⟩:=h;have i9:dn 2 _:=hr.mono (by decide);have KJ:dn 3 _:=hr;refine ⟨_,aY (lJ (pv 0) (cS (pv 1) rfl) rfl)
   (aY (lJ (pv 0) (cO GE i9 FE (cw (pv 1))) rfl)
   (aY (lJ (pv 0) (jN nH) rfl)
   (aY (lJ (pv 0) WG rfl)
   (aY (lJ (pv 0) j7 rfl)
   (az (iP PassesOwn.never rfl (gA (cO GB KJ FB (cw (pv 1))))
    (yZ rfl (eL (cj 2 CN.nd) (eL (cj 3 CN.nd) (eL (cj 4 CN.nd) qg))))
    (az (gB (gX (pv 0) T.cl mT GT i9 bT .nil ee (gD (eU (pD fh (pv 2) (pv 3) (pv 4))) fh (eU nH))))))))))),?_⟩
  obtain ⟨JI,Ri,Rn,Fi,Rk,Rj⟩:=id W0;have pw:p≠wb:=fun z=>by
   rw [z,Fi] at hp;have:=HO.ins.inj (gn hp);exact absurd this.2.2 (fun z=>by unfold o4 ak at z;cases z)
  refine fun N1 c1=>⟨_,rfl,wb,CW,JI,_,_,rfl,Fi,TC.cl,TC.nM,Dn _ _ _ _,_,rfl,p,C,dx,_,rfl,hp,T.cl,T.nM,by show 0<1000;decide,c1 _ _ ?_⟩;have kp:∀{Hx:Hp} {fs:List (Str×V)} {o:HO},Hx p=some (.ins C dx fs)->cB p Hx (upd Hx p o):=fun {Hx fs o} e b o' e' ne=>by rw [au ne];exact e'
  have k1:cB p H (upd H p (.ins C dx (ak "many" (.int (n:Int)) []))):=kp hp;have p1:upd H p (.ins C dx (ak "many" (.int (n:Int)) [])) p=some (.ins C dx (ak "many" (.int (n:Int)) [])):=aq;generalize upd H p (.ins C dx (ak "many" (.int (n:Int)) []))=H1 at*;clear c1 N1;have W1:kM CW H1 wb (n:Int) la rT rF:=⟨JI,Ri,Rn,k1 _ _ Fi (bp pw),by
   obtain ⟨ps,R⟩:=Rk;exact ⟨ps,k1 _ _ R.1 (aQ R.1 hp nofun),dN R.2 fun _ _ e=>k1 _ _ e (aQ e hp nofun)⟩,by
   obtain ⟨ps,R⟩:=Rj;exact ⟨ps,k1 _ _ R.1 (aQ R.1 hp nofun),dN R.2 fun _ _ e=>k1 _ _ e (aQ e hp nofun)⟩⟩
  refine fun N2 c2=>⟨_,rfl,wb,(n:Int),la,rT,rF,rfl,W1,ae,fun be H2 gY s2 FA2=>⟨_,rfl,p,C,dx,_,rfl,s2 _ _ p1,T.cl,T.nB,by show 1<1000;decide,c2 _ _ ?_⟩⟩;have k2:cB p H2 (upd H2 p (.ins C dx (ak "by_end" (.ref be) (ak "many" (.int (n:Int)) [])))):=kp (s2 _ _ p1);have p2:upd H2 p (.ins C dx (ak "by_end" (.ref be) (ak "many" (.int (n:Int)) []))) p=some (.ins C dx (ak "by_end" (.ref be) (ak "many" (.int (n:Int)) []))):=aq;have RE:=s2 _ _ p1;have yJ:mf (upd H2 p (.ins C dx (ak "by_end" (.ref be) (ak "many" (.int (n:Int)) [])))) be (bR rF):=by
   obtain ⟨Ce,f1,f2,f3,f4⟩:=FA2.at_;refine ⟨Ce,k2 _ _ f1 (aQ f1 RE nofun),f2,f3,fun e f hf=>?_⟩;obtain ⟨pp,q1,q2⟩:=f4 e f hf;exact ⟨pp,q1,k2 _ _ q2 (aQ q2 RE nofun)⟩
  generalize upd H2 p (.ins C dx (ak "by_end" (.ref be) (ak "many" (.int (n:Int)) [])))=H3 at*;clear c2 N2;have K3:cB p H H3:=fun b o e ne=>k2 _ _ (s2 _ _ (k1 _ _ e ne)) ne;have free:∀{Hx:Hp} {b:Addr},cB p H Hx->Hx b=none->b≠p->H b=none:=fun {Hx b} kk e ne=>by
   cases q:H b with
   | none=>rfl
   | some o=>rw [kk _ _ q ne] at e;cases e
  have beH:H be=none:=free k1 gY (bp (aO p1 gY));refine fun N3 c3=>⟨dM _,fun rl gx=>⟨_,rfl,p,C,dx,_,rfl,bj gx _ _ p2,T.cl,T.nR,by show 2<1000;decide,c3 _ _ ?_⟩⟩;have s4:=bj (o:=.lst []) gx;have r4:upd H3 rl (.lst []) rl=some (.lst []):=aq;have FA4:=yJ.same s4;have p4:=s4 _ _ p2;generalize upd H3 rl (.lst [])=H4 at*;have xu:p≠rl:=aO p2 gx;have EW:H rl=none:=free K3 gx (bp xu);have k5:cB p H4 (upd H4 p (.ins C dx (ak "rows" (.ref rl) (ak "by_end" (.ref be) (ak "many" (.int (n:Int)) []))))):=kp p4;have p5:upd H4 p (.ins C dx (ak "rows" (.ref rl) (ak "by_end" (.ref be) (ak "many" (.int (n:Int)) [])))) p=some (.ins C dx (ak "rows" (.ref rl) (ak "by_end" (.ref be) (ak "many" (.int (n:Int)) [])))):=aq;have r5:=k5 _ _ r4 (bp xu);generalize upd H4 p (.ins C dx (ak "rows" (.ref rl) (ak "by_end" (.ref be) (ak "many" (.int (n:Int)) []))))=H5 at*;clear c3 N3;have K5:cB p H H5:=fun b o e ne=>k5 _ _ (s4 _ _ (K3 _ _ e ne)) ne;refine fun N4 c4 bd f_=>⟨_,rfl,p,C,dx,_,rfl,bj f_ _ _ p5,T.cl,T.nE,by show 3<1000;decide,c4 _ _ ?_⟩;have s6:=bj (o:=.dT []) f_;have b6:upd H5 bd (.dT []) bd=some (.dT []):=aq;have p6:=s6 _ _ p5;have r6:=s6 _ _ r5;generalize upd H5 bd (.dT [])=H6 at*;have zB:p≠bd:=aO p5 f_;have GC:H bd=none:=free K5 f_ (bp zB);have k7:cB p H6 (upd H6 p (.ins C dx (ak "best" (.ref bd) (ak "rows" (.ref rl) (ak "by_end" (.ref be) (ak "many" (.int (n:Int)) [])))))):=kp p6;have p7:upd H6 p (.ins C dx (ak "best" (.ref bd) (ak "rows" (.ref rl) (ak "by_end" (.ref be) (ak "many" (.int (n:Int)) []))))) p=some (.ins C dx (ak "best" (.ref bd) (ak "rows" (.ref rl) (ak "by_end" (.ref be) (ak "many" (.int (n:Int)) []))))):=aq;have r7:=k7 _ _ r6 (bp xu);have b7:=k7 _ _ b6 (bp zB);generalize upd H6 p (.ins C dx (ak "best" (.ref bd) (ak "rows" (.ref rl) (ak "by_end" (.ref be) (ak "many" (.int (n:Int)) [])))))=H7 at*;clear c4 N4;refine fun N5 c5=>⟨_,rfl,p,C,dx,_,rfl,p7,T.cl,T.nX,by show 4<1000;decide,c5 _ _ ?_⟩;rw [Z8];have k8:cB p H7 (upd H7 p (.ins C dx (iU n be rl bd .bf))):=kp p7;have p8:upd H7 p (.ins C dx (iU n be rl bd .bf)) p=some (.ins C dx (iU n be rl bd .bf)):=aq;have r8:=k8 _ _ r7 (bp xu);have b8:=k8 _ _ b7 (bp zB);generalize upd H7 p (.ins C dx (iU n be rl bd .bf))=H8 at*;clear c5 N5;have Kp:cB p H4 H8:=fun b o e ne=>k8 _ _ (k7 _ _ (s6 _ _ (k5 _ _ e ne)) ne) ne;have K8:cB p H H8:=fun b o e ne=>Kp _ _ (s4 _ _ (K3 _ _ e ne)) ne;have FA8:mf H8 be (bR rF):=by
   obtain ⟨Ce,f1,f2,f3,f4⟩:=FA4.at_;refine ⟨Ce,Kp _ _ f1 (aQ f1 p4 nofun),f2,f3,fun e f hf=>?_⟩;obtain ⟨pp,q1,q2⟩:=f4 e f hf;exact ⟨pp,q1,Kp _ _ q2 (aQ q2 p4 nofun)⟩
  have C8:gp C H8 p be rl bd n (bR rF) MU.empty:=⟨⟨dx,p8⟩,FA8,⟨[],r8,.nil⟩,⟨[],b8,⟨aF _,fun _ z=>nomatch z⟩,fun k=>rfl⟩⟩;have W8:kM CW H8 wb (n:Int) la rT rF:=⟨JI,Ri,Rn,K8 _ _ Fi (bp pw),by
   obtain ⟨ps,R⟩:=Rk;exact ⟨ps,K8 _ _ R.1 (aQ R.1 hp nofun),dN R.2 fun _ _ e=>K8 _ _ e (aQ e hp nofun)⟩,by
   obtain ⟨ps,R⟩:=Rj;exact ⟨ps,K8 _ _ R.1 (aQ R.1 hp nofun),dN R.2 fun _ _ e=>K8 _ _ e (aQ e hp nofun)⟩⟩
  refine ⟨_,rfl,wb,(n:Int),la,rT,rF,rfl,W8,ae,fun l H9 hl s9 R9=>?_⟩;obtain ⟨qs,R⟩:=R9;have C9:=C8.same s9;obtain ⟨n1,n2,n3⟩:=C8.apart hl;have idx:=ae.jV;have sh:=Qm ae;refine ⟨l,rfl,⟨_,ay.of R.1⟩,?_⟩;have stays:∀{H':Hp},dQ p rl bd H9 H'->H' l=some (.lst (qs.map V.ref)):=fun kk=>kk _ _ R.1 n1 n2 n3;obtain ⟨F_,p9⟩:=C9.ins;obtain ⟨q9,r9,_⟩:=C9.rows;obtain ⟨kv9,b9,_⟩:=C9.best;have iX:∀{H':Hp} {b:Addr} {xs:List V},dQ p rl bd H9 H'->H9 b=some (.tup xs)->H' b=some (.tup xs):=fun kk e=>kk _ _ e (aQ e p9 nofun) (aQ e r9 nofun) (aQ e b9 nofun);generalize hB:iM (n:Int) la rT rF=B at*;refine kO (K:=K) (a:=l) (xs:=qs.map V.ref) (fun i aa H'=>∃v2 v3 v4,aa=[some (.ref p),some (.ref wb),v2,v3,v4]/\gp C H' p be rl bd n (bR rF) (MU.ma ((B.take i).map iT) MU.empty)/\dQ p rl bd H9 H') ⟨none,none,none,rfl,C9,dQ.of (aM.refl _)⟩ ?_ ?_ ?_
  ·rintro i aa H' _ ⟨v2,v3,v4,rfl,_,kk⟩;exact ay.of (stays kk)
  ·rintro i y aa nh hy ⟨v2,v3,v4,rfl,CG,kk⟩;obtain ⟨q,r,rfl,hq,bo,jq⟩:=R.get hy;obtain ⟨a,b,v,rfl,x1,x2,x3,x4,x5⟩:=idx r (dZ bo);have hi:i<B.length:=(ff.mp bo).1;refine ⟨q,_,rfl,dz.of (iX kk jq),rfl,_,_,rfl,_,_,rfl,_,_,rfl,rfl,?_⟩;obtain ⟨Me,p10⟩:=CG.ins;have gi:=MU.EG ((B.take i).map iT) MU.empty (MU.IP (n:=n)) (yS fun r hr=>idx r (List.mem_of_mem_take hr));have li:=MU.IM ((B.take i).map iT) MU.empty;rw [a7,iA] at li;have li:(MU.ma ((B.take i).map iT) MU.empty).rows.length<=0+min i B.length:=li;have et:MU.ma ((B.take (i+1)).map iT) MU.empty=MU.take (MU.ma ((B.take i).map iT) MU.empty) (iT [a,b,v]) .told []:=by
    unfold MU.ma;rw [jC,bo,eJ,List.foldl_append];rfl
   rw [et];generalize MU.ma ((B.take i).map iT) MU.empty=sti at*;refine ⟨_,rfl,p,Me,_,rfl,p10,oz (by decide+kernel) (by decide+kernel) (by decide+kernel) (by decide+kernel) (by decide+kernel),_,rfl,_,rfl,_,rfl,eW rfl,fun t ht=>⟨dM _,fun u kG=>?_⟩⟩;have tR:=bj (o:=.tup [V.str "tie",V.int a,V.int b,V.int v]) ht;have ZR:iC (upd nh t (.tup [V.str "tie",V.int a,V.int b,V.int v])) t (iT [a,b,v]):=by
    unfold iC;rw [aq];show some (HO.tup [V.str "tie",V.int a,V.int b,V.int v])=some (HO.tup [V.str "tie",V.int ((a.toNat:Nat):Int),V.int ((b.toNat:Nat):Int),V.int v]);rw [show ((a.toNat:Nat):Int)=a by lia,show ((b.toNat:Nat):Int)=b by lia]
   generalize upd nh t (.tup [V.str "tie",V.int a,V.int b,V.int v])=rK at*;have sf:=bj (o:=.tup []) kG;refine ⟨p,be,rl,bd,t,u,n,_,_,iT [a,b,v],.told,[],rfl,(CG.same tR).same sf,gi,ZR.same sf,aq,by lia,fun z_ C13 k13=>⟨_,_,_,rfl,C13,?_⟩⟩;exact (kk.trans (dQ.of (tR.trans sf))).trans k13
  ·rintro aa nh ⟨v2,v3,v4,rfl,CG,kk⟩;have bP:B.take (qs.map V.ref).length=B:=by rw [a7,R.len];exact ir
   rw [bP] at CG;refine k nh be rl bd ?_ beH EW GC fun b o e ne=>kk _ _ (s9 _ _ (K8 _ _ e ne)) ne (aO e EW) (aO e GC);unfold nz;rw [hB];exact CG
end Y0
namespace L2
open PySem PySem.Spec PyProof.Rows
section
variable {prog:Program} {w:World} {A:Around} {E:Value->Shared->Prop} {s:Shared}
theorem OY (hd:(d==sysModules)=false) (ho:s.heap.get? d=some o) (hc:o.ExactDict) (BO:o.data=.dict es ep)
 (hQ:Q (.ref s.heap.objs.size) { s with heap:=s.heap.push { cls:=.type "dict_keyiterator",data:=.fields #[.ref d,.int 0 0,.int es.size 0,.int ep 0] } }):
 wpAny (model prog w) A (pyIter (.ref d)) Q E s:=by
 have hT:s.TypeIs (.ref d) "dict":=⟨o,ho,hc.1⟩;refine wpAny_pyIter_slot hT F.slot_dict_iter (wpAny_call_entry F.slot_dict_iter hT F.entry_dict_iter ?_ (F.args_dict_iter_1 _));unfold Builtin.«dict.__iter__» Builtin.Dict.dictSlotNone;refine aj (aj (wpAny_notOrdered_dict hT (show wpAny _ _ (pure (Value.ref d)) _ _ s from bz ?_)));refine (show wpAny _ _ (Builtin.Dict.showsAll d>>=_) _ _ s from ?_);unfold Builtin.Dict.showsAll;rw [if_neg (by rw [hd];exact eR)];refine aj (bz (aj (wpAny_dictEntries ho BO (aj (wpAny_dictEpoch ho BO (aj (wpAny_newObj_type (bz ⟨_,rfl,"dict_keyiterator",_,⟨_,jI _ rfl,rfl⟩,F.slot_dict_keyiterator_next.lookup,?_⟩))))))));simpa [rawInt] using hQ
theorem OZ (hit:s.heap.IsKeyIter it d i es.size ep) (B6:s.heap.get? d=some od) (sD:od.data=.dict es ep) (hx:es[i]?=some e)
 (hQ:∀h',h'.IsKeyIter it d (i+1) es.size ep->Heap.SameBut it s.heap h'->Q (some e.key) { s with heap:=h' }):wpAny (model prog w) A (pyNext (.ref it)) Q E s:=by
 obtain ⟨o,ho,hc,hd⟩:=id hit;unfold pyNext;refine aj (wpAny_attempt (wpAny_callSpecial?_slot (name:=Str.ofString "__next__") hit.typeIs F.slot_dict_keyiterator_next (wpAny_call_entry F.slot_dict_keyiterator_next hit.typeIs F.entry_dict_keyiterator_next ?_ (F.args_dict_keyiterator_next_1 _))));refine aj (bz (aj (aj ?_)))
 first | refine aj (wpAny_typeNameOfWhole_keyiter hit.typeIs (bz (aj (wpAny_fieldsOf ho hd ?_)))) | refine aj (wpAny_typeNameOf_keyiter hit.typeIs (bz (aj (wpAny_fieldsOf ho hd ?_))))
 rw [show Builtin.Dict_items.ownsTuple "dict_keyiterator"=false by decide,if_neg eR];refine (show wpAny _ _ (if (Value.ref d==Value.none)=true then _ else _) _ _ s from ?_);rw [if_neg (show ¬((Value.ref d==Value.none)=true) from eR)];refine aj (bz (aj (wpAny_dictEntries B6 sD ?_)));rw [if_neg (by simp)];refine aj (bz (aj (wpAny_dictEpoch B6 sD ?_)));rw [if_neg (by simp)];refine bz ?_;dsimp only;rw [if_neg (show ¬((i:Int)<0) from Int.not_lt.mpr (Int.natCast_nonneg i)),lS,hx];dsimp only;refine aj ?_
 first | refine aj (wpAny_typeNameOfWhole_keyiter hit.typeIs (bz (aj (wpAny_isOneOf_keyiter hit.typeIs ?_)))) | refine aj (wpAny_typeNameOf_keyiter hit.typeIs (bz (aj (wpAny_isOneOf_keyiter hit.typeIs ?_))))
 refine (show wpAny _ _ (setField (.ref it) 1 (rawInt ((i:Int)+1))>>=_) _ _ s from aj (wpAny_setField ho hd (by simp) ?_));have BK:(s.heap.update it (Obj.mapFields (·.setIfInBounds 1 (rawInt ((i:Int)+1))))).IsKeyIter it d (i+1) es.size ep:=
  ⟨_,Heap.get?_update_self _ ho (Obj.isFreed_of_fields (Obj.data_mapFields hd _)),(Obj.cls_mapFields ..).trans hc,by rw [Obj.data_mapFields hd];simp [rawInt]⟩
 refine aj (wpAny_holding (aj (wpAny_isOneOf_keyiter (s:={ s with heap:=s.heap.update it (Obj.mapFields (·.setIfInBounds 1 (rawInt ((i:Int)+1)))) }) BK.typeIs (show wpAny _ _ (pure e.key) _ _ _ from bz (bz ⟨_,rfl,bz (hQ _ BK (Heap.SameBut.update ..))⟩)))))
theorem NO (q:Hd A s.heap) (hit:s.heap.IsKeyIter it d i es.size ep) (B6:s.heap.get? d=some od) (sD:od.data=.dict es ep) (hx:es.size<=i)
 (hQ:∀h',Heap.ExtBut it s.heap h'->Q none { s with heap:=h' }):wpAny (model prog w) A (pyNext (.ref it)) Q E s:=by
 obtain ⟨o,ho,hc,hd⟩:=id hit;unfold pyNext;refine aj (wpAny_attempt (wpAny_callSpecial?_slot (name:=Str.ofString "__next__") hit.typeIs F.slot_dict_keyiterator_next (wpAny_call_entry F.slot_dict_keyiterator_next hit.typeIs F.entry_dict_keyiterator_next ?_ (F.args_dict_keyiterator_next_1 _))));refine aj (bz (aj (aj ?_)))
 first | refine aj (wpAny_typeNameOfWhole_keyiter hit.typeIs (bz (aj (wpAny_fieldsOf ho hd ?_)))) | refine aj (wpAny_typeNameOf_keyiter hit.typeIs (bz (aj (wpAny_fieldsOf ho hd ?_))))
 rw [show Builtin.Dict_items.ownsTuple "dict_keyiterator"=false by decide,if_neg eR];refine (show wpAny _ _ (if (Value.ref d==Value.none)=true then _ else _) _ _ s from ?_);rw [if_neg (show ¬((Value.ref d==Value.none)=true) from eR)];refine aj (bz (aj (wpAny_dictEntries B6 sD ?_)));rw [if_neg (by simp)];refine aj (bz (aj (wpAny_dictEpoch B6 sD ?_)));rw [if_neg (by simp)];refine bz ?_;dsimp only;rw [if_neg (show ¬((i:Int)<0) from Int.not_lt.mpr (Int.natCast_nonneg i)),lS,Array.getElem?_eq_none hx];dsimp only;refine aj ?_
 first | refine aj (wpAny_typeNameOfWhole_keyiter hit.typeIs (bz ?_)) | refine aj (wpAny_typeNameOf_keyiter hit.typeIs (bz ?_))
 refine (show wpAny _ _ (setField (.ref it) 0 .none>>=_) _ _ s from aj (wpAny_setField ho hd (by simp) ?_));have other:∀b o,b≠it->s.heap.get? b=some o->(s.heap.update it (Obj.mapFields (·.setIfInBounds 0 Value.none))).get? b=some o:=fun b o hb e=>(Heap.get?_update_other _ _ (bp hb)).trans e;refine DB (A:=A.in1) (s:={ s with heap:=s.heap.update it (Obj.mapFields (·.setIfInBounds 0 Value.none)) }) (Hd.keep (A:=A.in1) q fun b C dx t tb e=>other b _ (fun z=>?_) e) fun e h' kk te=>?_
 ·rw [z,ho] at e;cases e;cases hc
 ·refine aj (wpAny_mono (Dx (s0:=s) (fun b o hb z=>kk b o (other b o hb z)) te hQ) (fun b s' z=>?_) fun _ _ z=>z);obtain ⟨rfl,z⟩:=z;exact bz z
end
section
variable {X:Cx} {pins:List (Addr×Obj)} {σ:St} {H:Hp} {s:Shared} {a:Addr} {o:Obj} {u:HO}
theorem Inv.freeze (I:Inv X pins σ H s) (hu:H a=some u) (mu:zW (some u)) (ho:s.heap.get? a=some o):Inv X pins σ (upd H a (.dB o u)) s:=by
 have xD:∀b xs,H b=some (.tup xs)->b≠a:=fun b xs r z=>by subst z;rw [hu] at r;cases r;exact mu
 have uu:∀b y,H b=some (.own y)->b≠a:=fun b y r z=>by subst z;rw [hu] at r;cases r;exact mu
 exact I.write (h':=s.heap) (t':=s.toks) (x:=a) (e:=a) (by rw [hu];exact mu) (.inl rfl) (fun b v _ e=>e) ⟨o,ho⟩
  ⟨ho,(I.ae a u hu).gw (fun b v _ e=>e) (fun b e=>by rw [au (uu b a e)];exact e) fun b xs e=>by rw [au (xD b xs e)];exact e⟩
theorem Inv.JM (I:Inv X pins σ H s) (hu:H a=some (.dB o u)) (h0:∀o u,X.iK a≠some (.dB o u)):Inv X pins σ (upd H a u) s:=by
 have ne:∀{b:Addr} {x:Option HO},H b=x->(∀o u,x≠some (.dB o u))->b≠a:=fun {b x} e hx z=>by subst z;rw [hu] at e;exact hx _ _ e.symm
 have st:∀b v,fv X.prog X.w H s.heap b v->fv X.prog X.w (upd H a u) s.heap b v:=fun b v x=>
  x.gw (fun c v _ e=>e) (fun c e=>by rw [au (ne e fun _ _ z=>nomatch z)];exact e) fun c xs e=>by rw [au (ne e fun _ _ z=>nomatch z)];exact e
 refine ⟨I.ok,I.os,I.bare,⟨I.base.keep,I.base.slot,fun b v q n hx=>?_,I.base.there,fun b xs q=>?_,fun b ob v q=>?_,fun b ps q=>?_⟩,I.loc,I.cell,?_,fun x c e=>?_,fun p hp=>?_,fun b v q=>?_,I.len⟩
 ·have e:=I.base.free b v q n hx;rw [au (ne e fun _ _ z=>nomatch z)];exact e
 ·have e:=I.base.iX b xs q;rw [au (ne e fun _ _ z=>nomatch z)];exact e
 ·have e:=I.base.iI b ob v q;rw [au (fun z=>by subst z;exact h0 ob v q)];exact e
 ·obtain ⟨more,e⟩:=I.base.jQ b ps q;exact ⟨more,by rw [au (ne e fun _ _ z=>nomatch z)];exact e⟩
 ·rw [au (ne I.free fun _ _ z=>nomatch z)];exact I.free
 ·rw [au (ne (I.eN x c e) fun _ _ z=>nomatch z)];exact I.eN x c e
 ·obtain ⟨p1,p2,p3⟩:=I.pin p hp;exact ⟨p1,by rw [au (ne p2 fun _ _ z=>nomatch z)];exact p2,p3⟩
 ·by_cases hb:b=a
  ·subst hb;rw [aq] at q;cases q;exact st b u (I.ae b _ hu).2
  ·rw [au hb] at q;exact st b v (I.ae b v q)
end
noncomputable def UD (iK:Hp) (t:TE):TE:=fun σ H Q=>t σ H fun x H1=>∃a o u,H1 a=some (.dB o u)/\(∀o u,iK a≠some (.dB o u))/\Q x (upd H1 a u)
theorem OC (he:PE X e t):PE X e (UD X.iK t):=by
 intro pins s σ H Q I h;refine aA (he pins s σ H _ I h) fun v s1 zz=>?_;obtain ⟨x,H1,I1,r1,q1⟩:=zz;obtain ⟨a,o,u,e1,e2,q⟩:=q1;exact ⟨x,_,I1.JM e1 e2,r1,q⟩
noncomputable def Mq (a:Addr) (o:Obj) (kvs:List (List Key×V)):It:=
 ⟨fun i H=>H a=some (.dB o (.dT kvs))/\i<kvs.length,fun i H x H'=>H'=H/\∃q k v,x=.ref q/\kvs[i]?=some (k,v)/\H q=some (.tup (k.map kV)),fun i H=>H a=some (.dB o (.dT kvs))/\kvs.length<=i⟩
theorem IL {α β:Type} {F:α->β->Prop} {l:List α} {m:List β} (h:Paired F l m) {i:Nat} {x:α} (hx:l[i]?=some x):∃y,m[i]?=some y/\F x y:=by
 induction h generalizing i with
 | nil=>simp at hx
 | cons r _ ih=>
  cases i with
  | zero=>simp at hx;subst hx;exact ⟨_,rfl,r⟩
  | succ i=>simpa using ih (by simpa using hx)
theorem IV:∀{l:List (α×β)} {m:List (α×γ)},Paired F l m->(∀p q,F p q->p.1=q.1)->l.map (·.1)=m.map (·.1)
 | _,_,.nil,_=>rfl
 | _,_,.cons r t,h=>by rw [fU,fU,IV t h,h _ _ r]
theorem OU {X:Cx} {pins:List (Addr×Obj)} {σ:St} {H:Hp} {s:Shared} {a:Addr} {o:Obj} {kvs:List (List Key×V)} {es:Array DictEntry} {ep:Nat} (I:Inv X pins σ H s) (h:H a=some (.dB o (.dT kvs))) (hd:o.data=.dict es ep):
 s.heap.get? a=some o/\es.size=kvs.length/\∀(i:Nat) (k:List Key) (v:V),kvs[i]?=some (k,v)->∃(e:DictEntry) (q:Addr),es[i]?=some e/\e.key=Value.ref q/\H q=some (.tup (k.map kV)):=by
 obtain ⟨ho,_,_,xs,hp,o',Cm,Cn,jY,hc,uI,he,hn⟩:=(show fv X.prog X.w H s.heap a (.dB o (.dT kvs)) from I.ae a _ h);rw [ho] at jY;cases jY;rw [hd] at uI;cases uI;refine ⟨ho,?_,fun i k v hx=>?_⟩
 ·rw [<-rH,he,a7,Paired.length hp]
 ·obtain ⟨x,kF,r1,r2,r3⟩:=IL hp hx;refine ⟨_,x.2.1,by rw [<-Array.getElem?_toList,he,dt,kF];rfl,rfl,?_⟩;exact r2
theorem X7 {P:Program} {w:World} {K:aL} {tg:Expr} (a it:Addr) (o:Obj) (kvs:List (List Key×V)) {es:Array DictEntry} {ep:Nat} (hd:o.data=.dict es ep):
 uV P w K tg (Mq a o kvs) [it] it (fun i h=>h.IsKeyIter it a i es.size ep) where
 mem:=by simp
 obj:=fun i h st b hb=>by
  have e:b=it:=by simpa using hb
  subst e;obtain ⟨o,e,c,d⟩:=st;exact ⟨o,e,fun v z=>by rw [d] at z;cases z⟩
 keep:=fun i h h' st k=>st.at fun o e=>k it (by simp) o e
 item:=by
  intro X hP hw hK hc i pins s σ H E I hf st hg;subst hP hw hK;obtain ⟨lQ,hi⟩:=hg;obtain ⟨ho,hsz,gb⟩:=OU I lQ hd;obtain ⟨⟨k,v⟩,hx⟩:∃p,kvs[i]?=some p:=⟨kvs[i],by simp [hi]⟩;obtain ⟨e,q,he,hk,hq⟩:=gb i k v hx;obtain ⟨f0,f1,f2,f3,f4,f5⟩:=hf it (by simp);refine OZ st ho hd he fun h' af sb=>?_;have I1:Inv X pins σ H { s with heap:=h' }:=I.turned (t':=s.toks) (fun b o hb e=>(sb.2 b hb).trans e) f0 f1 f3 f4 f5;rw [hk];exact ⟨_,rfl,letGo_keyiter (s':={ s with heap:=h' }) af ⟨.ref q,H,I1,rfl,⟨rfl,q,k,v,rfl,hx,hq⟩,af,fun b hb=>(hf b hb).1⟩⟩
 done:=by
  intro X hP hw hK hc i pins s σ H E I hf st hg;subst hP hw hK;obtain ⟨lQ,hi⟩:=hg;obtain ⟨ho,hsz,_⟩:=OU I lQ hd;obtain ⟨f0,f1,f2,f3,f4,f5⟩:=hf it (by simp);exact NO (wJ hc I) st ho hd (by lia) fun h' eb=>⟨rfl,I.turned (t':=s.toks) (fun b o hb e=>eb b o hb e) f0 f1 f3 f4 f5⟩
 self:=fun _ _ _ _ _ st h=>wpAny_pyIter_keyiter st h
section
variable {X:Cx} {tg:Expr}
noncomputable def ZM (td:TE):TI:=fun σ H R=>td σ H fun x H1=>∃a kvs,x=.ref a/\H1 a=some (.dT kvs)/\((kvs.map (·.1)).Nodup->∀o,R (Mq a o kvs) (upd H1 a (.dB o (.dT kvs))))
theorem VF {d:Expr} {td:TE} (hl:PE X d td):PI X tg d (ZM td):=by
 intro pins s σ H R I h;refine aA (hl pins s σ H _ I h) fun v s1 zz=>?_;obtain ⟨x,H1,I1,r1,q1⟩:=zz;obtain ⟨a,kvs,e,hq,q⟩:=q1;subst e;cases r1;obtain ⟨_,hs,xs,hp,o,es,ep,ho,hc,hd,he,hn⟩:=(show fv X.prog X.w H1 s1.heap a (.dT kvs) from I1.ae a _ hq);have mC:(kvs.map (·.1)).Nodup:=by rw [IV hp fun _ _ z=>z.1];exact hn
 refine OY hs ho hc hd ?_;have I2:=I1.freeze hq trivial ho;refine ⟨s1.heap.objs.size,[s1.heap.objs.size],_,_,_,rfl,I2.kept (t':=s1.toks) fun b o e=>eI _ e,X7 a _ o kvs hd,⟨_,jI _ rfl,rfl,rfl⟩,fun b hb=>?_,q mC o⟩;have e:b=s1.heap.objs.size:=by simpa using hb
 subst e;exact I2.oU (aF _) (I2.ae.fresh (aF _))
end
theorem Xw (Pv:Nat->St->Hp->Prop) (h0:Pv 0 (rX js σ) (upd H D (.lst [])))
 (hl:∀i aa H',i<=kvs.length->Pv i aa H'->H' a=some (.dB o (.dT kvs)))
 (hs:∀i k v q aa H',kvs[i]?=some (k,v)->H' q=some (.tup (k.map kV))->Pv i aa H'->g (.ref q) aa H' fun eY H3=>tc eY H3 fun ok H4=>if ok=true then te eY H4 fun y H5=>∃ys,H5 D=some (.lst ys)/\ys.length<sizeLine/\Pv (i+1) eY (upd H5 D (.lst (ys++[y]))) else Pv (i+1) eY H4)
 (hd:∀aa H',Pv kvs.length aa H'->Q (.ref D) H'):
 zd js g tc te σ Q (Mq a o kvs) H D:=by
 refine ⟨fun i m σ H=>m=kvs.length-i/\i<=kvs.length/\Pv i σ H,⟨kvs.length,by simp,dM _,h0⟩,?_⟩;rintro i m aa H' ⟨rfl,hi,p⟩
 by_cases aW:i<kvs.length
 ·refine .inr ⟨⟨hl i aa H' hi p,aW⟩,Pv (i+1),fun gW H2 p'=>⟨kvs.length-(i+1),by omega,rfl,aW,p'⟩,fun x H2 y=>?_⟩;obtain ⟨e,q,k,v,rfl,hx,hq⟩:=y;subst e;exact hs i k v q aa _ hx hq p
 ·have e:i=kvs.length:=by lia
  subst e;exact .inl ⟨⟨hl _ aa H' hi p,aF _⟩,hd aa H' p⟩
end L2
namespace TS
open PySem PyProof PyProof.Rows
noncomputable def y8:Bool->Keyed->Array Keyed->Nat->Nat->Nat->StateT SortSt Sem (Option Nat):=sortPriv% PySem.Builtin.gallop
class SK where
 num:Keyed->Int
 ok:Keyed->Prop
 kind:SortKind
noncomputable def N [SK] (p:Keyed):Int:=SK.num p
noncomputable def fY [SK] (p:Keyed):Prop:=SK.ok p
noncomputable def Kk [SK] (xs:Array Keyed) (i:Nat):Int:=match xs[i]? with
 | some p=>N p
 | none=>0
class gU [SK] (prog:Program) (w:World) (A:Around) (E:Value->Shared->Prop) (s:Shared):Prop where
 lt:∀{st:SortSt} {p q:Keyed} {Q:Option Bool->SortSt->Prop},kindOf st=SK.kind->fY p->fY q->Q (some (decide (N p<N q))) st->wpS (model prog w) A E s (lt' p q) Q st
section
variable [SK]
theorem wM (h:xs[i]?=ys[j]?):Kk xs i=Kk ys j:=by unfold Kk;rw [h]
theorem Wn (hs:src<xs.size) (hd:d<=src) (k:Nat):
 Kk (bubble xs src d) k=if k=src-d then Kk xs src else if src-d<k/\k<=src then Kk xs (k-1) else Kk xs k:=by
 have e:=getElem?_bubble hs d hd k
 by_cases h1:k=src-d
 ·rw [if_pos h1] at*;exact wM e
 rw [if_neg h1] at*
 by_cases h2:src-d<k/\k<=src
 ·rw [if_pos h2] at*;exact wM e
 ·rw [if_neg h2] at*;exact wM e
theorem DE (hj:j<=xs.size) (k:Nat):Kk (mirror xs i j ((j-i) / 2)) k=if i<=k/\k<j then Kk xs (i+j-1-k) else Kk xs k:=by
 have e:=getElem?_mirror_all (i:=i) hj k
 by_cases h1:i<=k/\k<j
 ·rw [if_pos h1] at*;exact wM e
 ·rw [if_neg h1] at*;exact wM e
theorem IX (hj:j<=xs.size) (he:∀k,i<=k->k<j->Kk xs k=Kk xs (j-1)) (k:Nat):Kk (mirror xs i j ((j-i) / 2)) k=Kk xs k:=by
 rw [DE hj];split
 ·rename_i h;rw [he k h.1 h.2,he (i+j-1-k) (by omega) (by omega)]
 ·rfl
end
noncomputable def eh (left:Bool) (kv x:Int):Bool:=if left then decide (x<kv) else !decide (kv<x)
theorem AD (h:x<=y) (hy:eh l kv y=true):eh l kv x=true:=by
 unfold eh at*;cases l<;>simp_all<;>lia
theorem N7 (h:x<=y) (hy:eh l kv x=false):eh l kv y=false:=by
 cases e:eh l kv y with
 | false=>rfl
 | true=>rw [AD h e] at hy;exact hy
section
variable [SK] {prog:Program} {w:World} {A:Around} {E:Value->Shared->Prop} {s:Shared} [gU prog w A E s] {st:SortSt}
theorem iV (he:a[i]?=some p) (h:Q p st):
 wpS (model prog w) A E s (elem' a i) Q st:=by
 rw [elem'_eq,he];exact wpS_pure h
theorem Ar (hk:kindOf st=SK.kind) (hp:fY p) (hq:fY q)
 (h:Q (some (decide (N p<N q))) st):wpS (model prog w) A E s (lt' p q) Q st:=gU.lt hk hp hq h
theorem A0 (hk:kindOf st=SK.kind)
 (he:a[i]?=some p) (hp:fY p) (hq:fY key) (h:Q (some (eh l (N key) (N p))) st):
 wpS (model prog w) A E s (do
  let x <-elem' a i
  if l=true then lt' x key else do
   let r <-lt' key x
   pure (Option.map (fun x=> !x) r)) Q st:=by
 refine wpS_bind (iV he ?_);cases l
 ·exact wpS_bind (Ar hk hq hp (wpS_pure h))
 ·exact Ar hk hp hq h
theorem jJ (hI:∀p,p∈a.toList->fY p) (hi:i<a.size):∃p,a[i]?=some p/\fY p/\Kk a i=N p:=
 ⟨a[i],getElem?_pos _ i hi,hI _ (by simp),by unfold Kk;rw [getElem?_pos a i hi]⟩
noncomputable abbrev Hb:=Option (Option Nat)×Nat×Nat
theorem QD {P:Nat->Bool} {n lo hi:Nat} {f:Nat->Hb->StateT SortSt Sem (ForInStep Hb)}
 (hP:∀i j,i<=j->j<n->P j=true->P i=true)
 (hf:∀x lo hi,hi<=n->∀Q:ForInStep Hb->SortSt->Prop,(hi<=lo->Q (.done (none,lo,hi)) st)->
  (lo<hi->P (lo+(hi-lo) / 2)=true->Q (.yield (none,lo+(hi-lo) / 2+1,hi)) st)->
  (lo<hi->P (lo+(hi-lo) / 2)=false->Q (.yield (none,lo,lo+(hi-lo) / 2)) st)->
  wpS (model prog w) A E s (f x (none,lo,hi)) Q st)
 (uF:lo<=hi) (hhi:hi<=n) (h1:∀i,i<lo->P i=true) (h2:∀i,hi<=i->i<n->P i=false):
 wpS (model prog w) A E s (forIn [:n] ((none,lo,hi):Hb) f)
  (fun c af=>af=st/\∃k,c=(none,k,k)/\k<=n/\(∀i,i<k->P i=true)/\(∀i,k<=i->i<n->P i=false)) st:=by
 refine wpS_forRange
  (I:=fun x c af=>af=st/\∃lo hi,c=(none,lo,hi)/\lo<=hi/\hi<=n/\hi-lo<=n-x/\
   (∀i,i<lo->P i=true)/\(∀i,hi<=i->i<n->P i=false))
  ?_ ?_ ⟨rfl,lo,hi,rfl,uF,hhi,by lia,h1,h2⟩
 ·rintro x c af _ hx ⟨rfl,lo,hi,rfl,a1,a2,a3,a4,a5⟩;refine hf x lo hi a2 _ (fun kH=>?_) (fun aW hm=>?_) (fun aW hm=>?_)
  ·obtain rfl:lo=hi:=by lia
   exact ⟨rfl,lo,rfl,a2,a4,a5⟩
  ·exact ⟨rfl,_,hi,rfl,by lia,a2,by omega,fun i mP=>hP i _ (by lia) (by lia) hm,a5⟩
  ·refine ⟨rfl,lo,_,rfl,by lia,by lia,by omega,a4,fun i mP j_=>?_⟩
   cases e:P i with
   | false=>rfl
   | true=>rw [hP _ i mP j_ e] at hm;exact hm
 ·rintro c af ⟨rfl,lo,hi,rfl,a1,a2,a3,a4,a5⟩;obtain rfl:lo=hi:=by simp at a3;lia
  exact ⟨rfl,lo,rfl,a2,a4,a5⟩
theorem Dp (hk:kindOf st=SK.kind)
 (hI:∀p,p∈a.toList->fY p) (hq:fY key) (hn:b+n<=a.size) (hs:∀i j,i<=j->j<n->Kk a (b+i)<=Kk a (b+j)) (hh:hint<n)
 (h:∀k,k<=n->(∀i,i<k->eh l (N key) (Kk a (b+i))=true)->(∀i,k<=i->i<n->eh l (N key) (Kk a (b+i))=false)->Q (some k) st):
 wpS (model prog w) A E s (y8 l key a b n hint) Q st:=by
 refine wpS_bind ?_;obtain ⟨p,e1,e2,e3⟩:=jJ hI (i:=b+hint) (by lia);refine A0 hk e1 e2 hq ?_;rw [<-e3]
 cases e:eh l (N key) (Kk a (b+hint)) with
 | true=>
  dsimp only;rw [if_pos rfl];refine wpS_bind (wpS_mono (wpS_forRange
   (I:=fun x c af=>af=st/\∃lo dU,c=(none,lo,dU)/\lo<dU/\x<dU/\hint+lo<n/\eh l (N key) (Kk a (b+(hint+lo)))=true)
   (Q:=fun c af=>af=st/\∃lo dU,c=(none,lo,dU)/\lo<dU/\hint+lo<n/\eh l (N key) (Kk a (b+(hint+lo)))=true/\
    (hint+dU<n->eh l (N key) (Kk a (b+(hint+dU)))=false))
   ?_ ?_ ⟨rfl,0,1,rfl,by exact Nat.le.refl,by exact Nat.le.refl,by omega,e⟩) ?_)
  ·rintro x c af _ hx ⟨rfl,lo,dU,rfl,a1,a2,a3,a4⟩;dsimp only
   by_cases kH:dU>=n-hint
   ·rw [if_pos kH];exact wpS_pure ⟨rfl,lo,dU,rfl,a1,a3,a4,fun h=>absurd h (by lia)⟩
   ·rw [if_neg kH];obtain ⟨p,e1,e2,e3⟩:=jJ hI (i:=b+(hint+dU)) (by lia);refine wpS_bind (A0 hk e1 e2 hq ?_);rw [<-e3]
    cases e':eh l (N key) (Kk a (b+(hint+dU))) with
    | true=>exact wpS_pure ⟨rfl,dU,2*dU+1,rfl,by lia,by lia,by lia,e'⟩
    | false=>exact wpS_pure ⟨rfl,lo,dU,rfl,a1,a3,a4,fun _=>e'⟩
  ·rintro c af ⟨rfl,lo,dU,rfl,a1,a2,a3,a4⟩;exact ⟨rfl,lo,dU,rfl,a1,a3,a4,fun h=>absurd h (by simp at a2;lia)⟩
  ·rintro c af ⟨rfl,lo,dU,rfl,a1,a3,a4,a5⟩;dsimp only;refine wpS_bind (wpS_mono (QD (P:=fun i=>eh l (N key) (Kk a (b+i))) (fun i j gj hj e=>AD (hs i j gj hj) e)
    ?_ (by omega) (by omega) (fun i hi=>?_) (fun i hi j_=>?_)) ?_)
   ·intro x lo hi hhn Q' c1 c2 c3;dsimp only
    by_cases kH:lo>=hi
    ·rw [if_pos kH];exact wpS_pure (c1 kH)
    ·rw [if_neg kH];obtain ⟨p,e1,e2,e3⟩:=jJ hI (i:=b+(lo+(hi-lo) / 2)) (by lia);refine wpS_bind (A0 hk e1 e2 hq ?_);rw [<-e3]
     cases e':eh l (N key) (Kk a (b+(lo+(hi-lo) / 2))) with
     | true=>exact wpS_pure (c2 (by lia) e')
     | false=>exact wpS_pure (c3 (by lia) e')
   ·exact AD (hs i (hint+lo) (by lia) (by omega)) a4
   ·exact N7 (hs (hint+dU) i (by omega) (by omega)) (a5 (by lia))
   ·rintro c af ⟨rfl,k,rfl,b1,b2,b3⟩;exact wpS_pure (h k b1 b2 b3)
 | false=>
  dsimp only;rw [if_neg (by decide)];refine wpS_bind (wpS_mono (wpS_forRange
   (I:=fun x c af=>af=st/\∃lo dU,c=(none,lo,dU)/\lo<dU/\x<dU/\lo<=hint/\eh l (N key) (Kk a (b+(hint-lo)))=false)
   (Q:=fun c af=>af=st/\∃lo dU,c=(none,lo,dU)/\lo<dU/\lo<=hint/\eh l (N key) (Kk a (b+(hint-lo)))=false/\
    (dU<=hint->eh l (N key) (Kk a (b+(hint-dU)))=true))
   ?_ ?_ ⟨rfl,0,1,rfl,by exact Nat.le.refl,by exact Nat.le.refl,by lia,e⟩) ?_)
  ·rintro x c af _ hx ⟨rfl,lo,dU,rfl,a1,a2,a3,a4⟩;dsimp only
   by_cases kH:dU>=hint+1
   ·rw [if_pos kH];exact wpS_pure ⟨rfl,lo,dU,rfl,a1,a3,a4,fun h=>absurd h (by exact Nat.not_le_of_lt kH)⟩
   ·rw [if_neg kH];obtain ⟨p,e1,e2,e3⟩:=jJ hI (i:=b+(hint-dU)) (by lia);refine wpS_bind (A0 hk e1 e2 hq ?_);rw [<-e3]
    cases e':eh l (N key) (Kk a (b+(hint-dU))) with
    | true=>exact wpS_pure ⟨rfl,lo,dU,rfl,a1,a3,a4,fun _=>e'⟩
    | false=>exact wpS_pure ⟨rfl,dU,2*dU+1,rfl,by lia,by lia,by lia,e'⟩
  ·rintro c af ⟨rfl,lo,dU,rfl,a1,a2,a3,a4⟩;exact ⟨rfl,lo,dU,rfl,a1,a3,a4,fun h=>absurd h (by simp at a2;lia)⟩
  ·rintro c af ⟨rfl,lo,dU,rfl,a1,a3,a4,a5⟩;dsimp only;refine wpS_bind (wpS_mono (QD (P:=fun i=>eh l (N key) (Kk a (b+i))) (fun i j gj hj e=>AD (hs i j gj hj) e)
    ?_ (by omega) (by lia) (fun i hi=>?_) (fun i hi j_=>?_)) ?_)
   ·intro x lo hi hhn Q' c1 c2 c3;dsimp only
    by_cases kH:lo>=hi
    ·rw [if_pos kH];exact wpS_pure (c1 kH)
    ·rw [if_neg kH];obtain ⟨p,e1,e2,e3⟩:=jJ hI (i:=b+(lo+(hi-lo) / 2)) (by lia);refine wpS_bind (A0 hk e1 e2 hq ?_);rw [<-e3]
     cases e':eh l (N key) (Kk a (b+(lo+(hi-lo) / 2))) with
     | true=>exact wpS_pure (c2 (by lia) e')
     | false=>exact wpS_pure (c3 (by lia) e')
   ·exact AD (hs i (hint-dU) (by omega) (by lia)) (a5 (by omega))
   ·exact N7 (hs (hint-lo) i (by omega) (by omega)) a4
   ·rintro c af ⟨rfl,k,rfl,b1,b2,b3⟩;exact wpS_pure (h k b1 b2 b3)
end
structure Iv (r:Keyed->Keyed->Prop) (W O X Y:List Keyed):Prop where
 perm:(O++(X++Y)).Perm W
 JQ:O.Pairwise r
 sx:X.Pairwise r
 sy:Y.Pairwise r
 lx:∀p∈O,∀q∈X,r p q
 ly:∀p∈O,∀q∈Y,r p q
noncomputable def Out (r:Keyed->Keyed->Prop) (W R:List Keyed):Prop:=R.Perm W/\R.Pairwise r
theorem Iv.symm {r W O X Y} (h:Iv r W O X Y):Iv r W O Y X:=
 ⟨((List.perm_append_comm (l₁:=Y) (l₂:=X)).append_left O).trans h.perm,h.JQ,h.sy,h.sx,h.ly,h.lx⟩
theorem Iv.kR {r W O u v Y} (h:Iv r W O (u++v) Y) (hc:∀p∈u,∀q∈Y,r p q):Iv r W (O++u) v Y:=by
 have hp:=List.pairwise_append.mp h.sx;refine ⟨by simpa [List.append_assoc] using h.perm,?_,hp.2.1,h.sy,?_,?_⟩
 ·exact List.pairwise_append.mpr ⟨h.JQ,hp.1,fun p iH q hq=>h.lx p iH q (lV _ hq)⟩
 ·intro p iH q hq;rcases kJ.mp iH with h' | h'
  ·exact h.lx p h' q (ng _ hq)
  ·exact hp.2.2 p h' q hq
 ·intro p iH q hq;rcases kJ.mp iH with h' | h'
  ·exact h.ly p h' q hq
  ·exact hc p h' q hq
theorem Iv.nQ {r W O X u v} (h:Iv r W O X (u++v)) (hc:∀p∈u,∀q∈X,r p q):Iv r W (O++u) X v:=(h.symm.kR hc).symm
theorem Iv.fin {r W O X Y R} (h:Iv r W O X Y) (hp:R.Perm (X++Y)) (hs:R.Pairwise r):Out r W (O++R):=by
 refine ⟨(hp.append_left O).trans h.perm,List.pairwise_append.mpr ⟨h.JQ,hs,fun p iH q hq=>?_⟩⟩;rcases kJ.mp (hp.mem_iff.mp hq) with h' | h'
 ·exact h.lx p iH q h'
 ·exact h.ly p iH q h'
section
variable [SK]
noncomputable def le (p q:Keyed):Prop:=N p<=N q
noncomputable def ge (p q:Keyed):Prop:=N q<=N p
theorem zu {a:Array Keyed} {i k:Nat} (h:i+k<=a.size):a.toList.drop i=(a.extract i (i+k)).toList++a.toList.drop (i+k):=by
 rw [Array.toList_extract,List.extract_eq_take_drop,Nat.add_sub_cancel_left,<-List.drop_drop,List.take_append_drop]
theorem PQ {a:Array Keyed} {i:Nat} {p:Keyed} (h:a[i]?=some p):a.toList.drop i=[p]++a.toList.drop (i+1):=by
 obtain ⟨hi,rfl⟩:=Array.getElem?_eq_some_iff.mp h;rw [List.drop_eq_getElem_cons (by simpa using hi)];simp
theorem A6 (h:p∈(a.extract i j).toList):∃m,i<=m/\m<j/\m<a.size/\Kk a m=N p:=by
 obtain ⟨m,hm,e⟩:=GQ h;simp only [rH,Array.size_extract] at hm;refine ⟨i+m,by lia,by omega,by omega,?_⟩;have:a[i+m]?=some p:=by
  rw [getElem?_pos a (i+m) (by omega)];simp only [Array.getElem_toList,Array.getElem_extract] at e;rw [e]
 unfold Kk;rw [this]
theorem tq (h:a[i]?=some p):Kk a i=N p:=by unfold Kk;rw [h]
theorem nj (hs:a.toList.Pairwise le) (gj:i<=j) (hj:j<a.size):Kk a i<=Kk a j:=by
 rcases Nat.lt_or_eq_of_le gj with h | rfl
 ·have e1:=getElem?_pos a i (by lia);have e2:=getElem?_pos a j hj;rw [tq e1,tq e2];have:=C7.mp hs i j (by simp;omega) (by simp;omega) h;exact (by simpa using this:le a[i] a[j])
 ·exact Int.le_refl _
theorem tG (h:p∈a.toList.drop i):∃m,i<=m/\m<a.size/\Kk a m=N p:=by
 obtain ⟨m,hm,e⟩:=GQ h;simp only [Mh,rH] at hm;refine ⟨i+m,by lia,by omega,tq ?_⟩;rw [getElem?_pos a (i+m) (by omega)];simpa using e
theorem tH (h:p∈a.toList.take i):∃m,m<i/\m<a.size/\Kk a m=N p:=by
 obtain ⟨m,hm,e⟩:=GQ h;simp only [iA,rH] at hm;refine ⟨m,by lia,by lia,tq ?_⟩;rw [getElem?_pos a m (by lia)];simpa using e
section lo
variable {a b out:Array Keyed} {ia ib:Nat} {W:List Keyed}
noncomputable abbrev Fv (W:List Keyed) (a b out:Array Keyed) (ia ib:Nat):Prop:=Iv le W out.toList (a.toList.drop ia) (b.toList.drop ib)
theorem Fv.xq (h:Fv W a b out ia ib) {k:Nat} (hk:ia+k<=a.size) (hc:∀p∈(a.extract ia (ia+k)).toList,∀q∈b.toList.drop ib,le p q):
 Fv W a b (out++a.extract ia (ia+k)) (ia+k) ib:=by
 unfold Fv at*;rw [zu hk] at h;rw [pW];exact h.kR hc
theorem Fv.xp (h:Fv W a b out ia ib) {k:Nat} (hk:ib+k<=b.size) (hc:∀p∈(b.extract ib (ib+k)).toList,∀q∈a.toList.drop ia,le p q):
 Fv W a b (out++b.extract ib (ib+k)) ia (ib+k):=by
 unfold Fv at*;rw [zu hk] at h;rw [pW];exact h.nQ hc
theorem Fv.oE (h:Fv W a b out ia ib) {p:Keyed} (e:a[ia]?=some p) (hc:∀q∈b.toList.drop ib,le p q):Fv W a b (out.push p) (ia+1) ib:=by
 unfold Fv at*;rw [PQ e] at h;rw [Array.toList_push];exact h.kR (by simpa using hc)
theorem Fv.oC (h:Fv W a b out ia ib) {p:Keyed} (e:b[ib]?=some p) (hc:∀q∈a.toList.drop ia,le p q):Fv W a b (out.push p) ia (ib+1):=by
 unfold Fv at*;rw [PQ e] at h;rw [Array.toList_push];exact h.nQ (by simpa using hc)
theorem DC (a:Array Keyed) (i:Nat):(a.extract i a.size).toList=a.toList.drop i:=by
 rw [Array.toList_extract,List.extract_eq_take_drop];exact List.take_of_length_le (by simp)
theorem Fv.jh (h:Fv W a b out ia ib) (he:ia=a.size\/ib=b.size):Out le W (out++a.extract ia a.size++b.extract ib b.size).toList:=by
 rw [pW,pW,DC,DC,List.append_assoc];refine h.fin (List.Perm.refl _) ?_;rcases he with rfl | rfl
 ·rw [List.drop_of_length_le (by simp)];exact h.sy
 ·rw [show b.toList.drop b.size=[] from List.drop_of_length_le (by simp),List.append_nil];exact h.sx
theorem Fv.ki (h:Fv W a b out ia ib) (hc:∀p∈b.toList.drop ib,∀q∈a.toList.drop ia,le p q):Out le W (out++b.extract ib b.size++a.extract ia a.size).toList:=by
 rw [pW,pW,DC,DC,List.append_assoc];exact h.fin List.perm_append_comm (List.pairwise_append.mpr ⟨h.sy,h.sx,hc⟩)
end lo
section hi
variable {a b out:Array Keyed} {na nb:Nat} {W:List Keyed}
noncomputable abbrev Bv (W:List Keyed) (a b out:Array Keyed) (na nb:Nat):Prop:=Iv ge W out.toList (a.toList.take na).reverse (b.toList.take nb).reverse
theorem Q5 (h:i<=n):(a.toList.take n).reverse=(a.extract i n).reverse.toList++(a.toList.take i).reverse:=by
 rw [Array.toList_reverse,Array.toList_extract,List.extract_eq_take_drop,<-List.reverse_append];congr 1;rw [<-List.drop_take,]
 conv=>lhs;rw [<-List.take_append_drop i (a.toList.take n)]
 rw [List.take_take,Nat.min_eq_left h]
theorem Qg (h:a[i]?=some p):(a.toList.take (i+1)).reverse=[p]++(a.toList.take i).reverse:=by
 obtain ⟨hi,rfl⟩:=Array.getElem?_eq_some_iff.mp h;rw [List.take_succ_eq_append_getElem (by simpa using hi),List.reverse_append];simp
theorem Bv.xq (h:Bv W a b out na nb) (hi:i<=na) (hc:∀p∈(a.extract i na).toList,∀q∈b.toList.take nb,ge p q):
 Bv W a b (out++(a.extract i na).reverse) i nb:=by
 unfold Bv at*;rw [Q5 hi] at h;rw [pW];exact h.kR (by simpa using hc)
theorem Bv.xp (h:Bv W a b out na nb) (hi:i<=nb) (hc:∀p∈(b.extract i nb).toList,∀q∈a.toList.take na,ge p q):
 Bv W a b (out++(b.extract i nb).reverse) na i:=by
 unfold Bv at*;rw [Q5 hi] at h;rw [pW];exact h.nQ (by simpa using hc)
theorem Bv.oE (h:Bv W a b out (na+1) nb) (e:a[na]?=some p) (hc:∀q∈b.toList.take nb,ge p q):Bv W a b (out.push p) na nb:=by
 unfold Bv at*;rw [Qg e] at h;rw [Array.toList_push];exact h.kR (by simpa using hc)
theorem Bv.oC (h:Bv W a b out na (nb+1)) (e:b[nb]?=some p) (hc:∀q∈a.toList.take na,ge p q):Bv W a b (out.push p) na nb:=by
 unfold Bv at*;rw [Qg e] at h;rw [Array.toList_push];exact h.nQ (by simpa using hc)
theorem DN (a:Array Keyed) (i:Nat):(a.extract 0 i).toList=a.toList.take i:=by
 rw [Array.toList_extract,List.extract_eq_take_drop];simp
theorem Out.rev (h:Out ge W R):Out le W R.reverse:=⟨(List.reverse_perm R).trans h.1,List.pairwise_reverse.mpr h.2⟩
theorem Bv.jh (h:Bv W a b out na nb) (he:na=0\/nb=0):Out le W (a.extract 0 na++b.extract 0 nb++out.reverse).toList:=by
 have:(a.extract 0 na++b.extract 0 nb++out.reverse).toList=(out.toList++((b.toList.take nb).reverse++(a.toList.take na).reverse)).reverse:=by
  rw [pW,pW,DN,DN,Array.toList_reverse];simp
 rw [this];refine (h.fin List.perm_append_comm ?_).rev;rcases he with rfl | rfl
 ·simpa using h.sy
 ·simpa using h.sx
theorem Bv.ki (h:Bv W a b out na nb) (hc:∀p∈a.toList.take na,∀q∈b.toList.take nb,ge p q):Out le W (b.extract 0 nb++a.extract 0 na++out.reverse).toList:=by
 have:(b.extract 0 nb++a.extract 0 na++out.reverse).toList=(out.toList++((a.toList.take na).reverse++(b.toList.take nb).reverse)).reverse:=by
  rw [pW,pW,DN,DN,Array.toList_reverse];simp
 rw [this];exact (h.fin (List.Perm.refl _) (List.pairwise_append.mpr ⟨h.sx,h.sy,by simpa using hc⟩)).rev
end hi
end
noncomputable def mlo:Array Keyed->Array Keyed->StateT SortSt Sem (Array Keyed):=sortPriv% PySem.Builtin.mergeLo
noncomputable def mhi:Array Keyed->Array Keyed->StateT SortSt Sem (Array Keyed):=sortPriv% PySem.Builtin.mergeHi
structure Sm (st af:SortSt):Prop where
 kind:kindOf af=kindOf st
 arr:arrOf af=arrOf st
 pend:pendingOf af=pendingOf st
 fail:failedOf af=failedOf st
theorem Sm.refl (st:SortSt):Sm st st:=⟨rfl,rfl,rfl,rfl⟩
noncomputable def smg:Nat->StateT SortSt Sem Unit:=sortPriv% PySem.Builtin.setMinGallop
section
variable [SK] {prog:Program} {w:World} {A:Around} {E:Value->Shared->Prop} {s:Shared} [gU prog w A E s] {st qm:SortSt} {a b:Array Keyed}
theorem fe (hc:c) (h:wpS (model prog w) A E s m Q st):
 wpS (model prog w) A E s (@ite _ c inst m n) Q st:=by rw [if_pos hc];exact h
theorem fb (hc:¬c) (h:wpS (model prog w) A E s n Q st):
 wpS (model prog w) A E s (@ite _ c inst m n) Q st:=by rw [if_neg hc];exact h
theorem Dr (hm:Sm qm st) (h:∀af,Sm qm af->Q () af):wpS (model prog w) A E s (smg g) Q st:=
 wpS_modify (h _ ⟨hm.kind,hm.arr,hm.pend,hm.fail⟩)
theorem QR (hk:kindOf st=SK.kind)
 (hI:∀p,p∈a.toList->fY p) (hs:a.toList.Pairwise le) (hq:fY key) (hi:i<a.size)
 (h:∀k,i+k<=a.size->(∀m,i<=m->m<i+k->eh l (N key) (Kk a m)=true)->(∀m,i+k<=m->m<a.size->eh l (N key) (Kk a m)=false)->Q (some k) st):
 wpS (model prog w) A E s (y8 l key a i (a.size-i) 0) Q st:=by
 refine Dp hk hI hq (by lia) (fun x y pI hy=>nj hs (by lia) (by lia)) (by omega) fun k h1 h2 h3=>?_;refine h k (by lia) (fun m m1 m2=>?_) (fun m m1 m2=>?_)
 ·have:=h2 (m-i) (by lia);rwa [show i+(m-i)=m by lia] at this
 ·have:=h3 (m-i) (by lia) (by omega);rwa [show i+(m-i)=m by lia] at this
noncomputable def SQ {β:Type} (Q I:β->SortSt->Prop):ForInStep β->SortSt->Prop
 | .done c,st=>Q c st
 | .yield c,st=>I c st
theorem se (I:Nat->β->SortSt->Prop)
 (qQ:∀i c st,i<n->I i c st->wpS (model prog w) A E s (f i c) (SQ Q (I (i+1))) st)
 (ra:∀c st,I n c st->Q c st) (h:I 0 c st):wpS (model prog w) A E s (forIn [:n] c f) Q st:=
 wpS_forRange I (fun i c st _ hi hI=>wpS_mono (qQ i c st hi hI) fun r af h'=>by cases r<;>exact h')
  (fun c st h'=>ra c st (by rwa [Nat.max_eq_right (dM _)] at h')) h
theorem Vp (hW:W=a.toList++b.toList) (hk:kindOf st=SK.kind)
 (ha:∀p,p∈a.toList->fY p) (hb:∀p,p∈b.toList->fY p) (sa:a.toList.Pairwise le) (sb:b.toList.Pairwise le)
 (na:0<a.size) (nb:0<b.size) (h0:Kk b 0<=Kk a 0) (hl:Kk b (b.size-1)<=Kk a (a.size-1))
 (h:∀r af,Sm st af->Out le W r.toList->Q r af):wpS (model prog w) A E s (mlo a b) Q st:=by
 have jb:∀{i j:Nat},i+1=a.size->∀p∈b.toList.drop j,∀q∈a.toList.drop i,le p q:=by
  intro i j hi p hp q hq;obtain ⟨x,x1,x2,x3⟩:=tG hp;obtain ⟨y,y1,y2,y3⟩:=tG hq;unfold le;rw [<-x3,<-y3,show y=a.size-1 by lia];exact jD (nj sb (by lia) (by omega)) hl
 let J:Array Keyed->Nat->Nat->SortSt->Prop:=fun out ia ib af=>Fv W a b out ia ib/\ia+1<a.size/\ib<b.size/\Sm st af
 let F:Array Keyed->SortSt->Prop:=fun r af=>Out le W r.toList/\Sm st af
 refine wpS_bind (wpS_lift (wpAny_rule ⟨rfl,?_⟩));obtain ⟨y0,e0,i0,k0⟩:=jJ hb (i:=0) nb;refine wpS_bind (iV e0 ?_);have i6:Fv W a b #[y0] 0 1:=by
  have:Fv W a b #[] 0 0:=⟨by simp [hW],List.Pairwise.nil,sa,sb,by simp,by simp⟩;refine this.oC e0 fun q hq=>?_;obtain ⟨m,m1,m2,m3⟩:=tG hq;unfold le;rw [<-m3,<-k0];exact jD h0 (nj sa (dM _) m2)
 by_cases c1:1=b.size
 ·refine fe (c:=(1==b.size)=true) (by simpa using c1) ?_;exact wpS_pure (h _ _ (Sm.refl st) (i6.jh (.inr c1)))
 refine fb (c:=(1==b.size)=true) (by simpa using c1) ?_
 by_cases c2:0+1=a.size
 ·refine fe (c:=(0+1==a.size)=true) (by simpa using c2) ?_;exact wpS_pure (h _ _ (Sm.refl st) (i6.ki (jb c2)))
 refine fb (c:=(0+1==a.size)=true) (by simpa using c2) ?_;refine wpS_bind (wpS_get ?_);refine wpS_bind (wpS_mono (se
  (I:=fun x c af=>∃out ia ib mg,c=(none,out,ia,ib,mg)/\J out ia ib af/\x<=ia+ib)
  (Q:=fun c af=>∃r,c.1=some r/\F r af) ?outer ?xC ⟨_,_,_,_,rfl,⟨i6,by lia,by lia,Sm.refl st⟩,by exact Nat.le.step Nat.le.refl⟩) ?post)
 case post=>
  rintro ⟨c1,c2⟩ af ⟨r,rfl,hF⟩;exact wpS_pure (h r af hF.2 hF.1)
 case xC=>
  rintro c af ⟨out,ia,ib,mg,rfl,⟨_,j2,j3,_⟩,hx⟩;exfalso;lia
 case outer=>
  rintro x c af hx ⟨out,ia,ib,mg,rfl,hJ,Ky⟩;generalize ht0:ia+ib=t0 at Ky;refine wpS_bind (wpS_mono (se
   (I:=fun x c af=>∃out ia ib ac bc,c=(none,out,ia,ib,ac,bc)/\J out ia ib af/\t0+x<=ia+ib)
   (Q:=fun c af=>(∃r,c.1=some r/\F r af)\/∃out ia ib ac bc,c=(none,out,ia,ib,ac,bc)/\J out ia ib af/\t0+1<=ia+ib)
   ?one ?mn ⟨out,ia,ib,0,0,rfl,hJ,by lia⟩) ?two)
  case mn=>
   rintro c af ⟨out,ia,ib,ac,bc,rfl,j,kF⟩;exact .inr ⟨out,ia,ib,ac,bc,rfl,j,by omega⟩
  case one=>
   rintro x' c af _ ⟨out,ia,ib,ac,bc,rfl,⟨j1,j2,j3,j4⟩,kF⟩;obtain ⟨y,ey,iy,ky⟩:=jJ hb (i:=ib) j3;obtain ⟨z,ez,iz,kz⟩:=jJ ha (i:=ia) (by exact bx j2);refine wpS_bind (iV ey (wpS_bind (iV ez (wpS_bind (Ar (j4.kind.trans hk) iy iz ?_)))))
   by_cases aW:N y<N z
   ·rw [eQ aW];refine wpS_bind (iV ey ?_);have qO:=j1.oC ey (fun q hq=>by
     obtain ⟨m,m1,m2,m3⟩:=tG hq;unfold le;rw [<-m3];exact jD (gm aW) (kz▸nj sa m1 m2))
    by_cases c3:ib+1=b.size
    ·refine fe (c:=(ib+1==b.size)=true) (by simpa using c3) ?_;exact wpS_pure (.inl ⟨_,rfl,qO.jh (.inr c3),j4⟩)
    refine fb (c:=(ib+1==b.size)=true) (by simpa using c3) ?_;have jj:J (out.push y) ia (ib+1) af:=⟨qO,j2,by lia,j4⟩
    by_cases c4:bc+1>=mg
    ·refine fe c4 ?_;exact wpS_pure (.inr ⟨_,ia,ib+1,_,_,rfl,jj,by lia⟩)
    ·refine fb c4 ?_;exact wpS_pure ⟨_,ia,ib+1,_,_,rfl,jj,by lia⟩
   ·rw [eP aW];refine wpS_bind (iV ez ?_);have qO:=j1.oE ez (fun q hq=>by
     obtain ⟨m,m1,m2,m3⟩:=tG hq;unfold le;rw [<-m3];exact jD (Int.not_lt.mp aW) (ky▸nj sb m1 m2))
    by_cases c3:ia+1+1=a.size
    ·refine fe (c:=(ia+1+1==a.size)=true) (by simpa using c3) ?_;exact wpS_pure (.inl ⟨_,rfl,qO.ki (jb c3),j4⟩)
    refine fb (c:=(ia+1+1==a.size)=true) (by simpa using c3) ?_;have jj:J (out.push z) (ia+1) ib af:=⟨qO,by lia,j3,j4⟩
    by_cases c4:ac+1>=mg
    ·refine fe c4 ?_;exact wpS_pure (.inr ⟨_,ia+1,ib,_,_,rfl,jj,by lia⟩)
    ·refine fb c4 ?_;exact wpS_pure ⟨_,ia+1,ib,_,_,rfl,jj,by lia⟩
  case two=>
   rintro ⟨c1,c2⟩ ba (⟨r,rfl,hF⟩ | ⟨out,ia,ib,ac,bc,e,LK,ht⟩)
   ·exact wpS_pure ⟨r,rfl,hF⟩
   cases e;refine wpS_bind (wpS_lift (wpAny_rule ⟨rfl,?_⟩));refine wpS_bind (wpS_mono (se
    (I:=fun x c af=>∃out ia ib mg ac bc,c=(none,out,ia,ib,mg,ac,bc)/\J out ia ib af/\t0+1<=ia+ib)
    (Q:=fun c af=>(∃r,c.1=some r/\F r af)\/∃out ia ib mg ac bc,c=(none,out,ia,ib,mg,ac,bc)/\J out ia ib af/\t0+1<=ia+ib)
    ?y8 ?mY ⟨_,_,_,_,_,_,rfl,LK,ht⟩) ?three)
   case mY=>exact fun c af hh=>.inr hh
   case three=>
    rintro ⟨c1,c2⟩ cD (⟨r,rfl,hF⟩ | ⟨out,ia,ib,mg,ac,bc,e,⟨j1,j2,j3,j4⟩,ht⟩)
    ·exact wpS_pure ⟨r,rfl,hF⟩
    cases e;exact wpS_bind (Dr j4 fun cJ sj=>wpS_pure ⟨out,ia,ib,_,rfl,⟨j1,j2,j3,sj⟩,by lia⟩)
   case y8=>
    rintro x' c cD _ ⟨out,ia,ib,mg,ac,bc,rfl,⟨j1,j2,j3,j4⟩,ht⟩
    extract_lets-underBinder+onlyGivenNames s1 tV s2 ia1 s3 ib1 s4 mg1 s5 ac1 bc1 jp
    let R:ForInStep (Option (Array Keyed)×Array Keyed×Nat×Nat×Nat×Nat×Nat)->SortSt->Prop:=
     SQ (fun c af=>(∃r,c.1=some r/\F r af)\/∃out ia ib mg ac bc,c=(none,out,ia,ib,mg,ac,bc)/\J out ia ib af/\t0+1<=ia+ib)
      (fun c af=>∃out ia ib mg ac bc,c=(none,out,ia,ib,mg,ac,bc)/\J out ia ib af/\t0+1<=ia+ib)
    have oh:∀(u:Unit) (g:Nat),wpS (model prog w) A E s (jp u g) R cD:=by
     intro u g;refine wpS_bind (Dr j4 fun cJ sj=>?_);obtain ⟨y,ey,iy,ky⟩:=jJ hb (i:=ib) j3;refine wpS_bind (iV ey (wpS_bind (QR (sj.kind.trans hk) ha sa iy (i:=ia) (by exact bx j2) fun k g1 g2 g3=>?_)));dsimp-zeta only
     extract_lets-underBinder+onlyGivenNames ac2 xP
     have oR:=j1.xq g1 (fun p hp q hq=>by
      obtain ⟨m,m1,m2,m3,m4⟩:=A6 hp;obtain ⟨m',n1,n2,n3⟩:=tG hq;have:=g2 m m1 m2;unfold le;rw [<-m4,<-n3];exact jD (by simpa [eh] using this) (ky▸nj sb n1 n2))
     have jd:∀(u:Unit) (out:Array Keyed) (i:Nat),Fv W a b out i ib->i+1<a.size->ia<=i->(∀m,i<=m->m<a.size->N y<Kk a m)->
      wpS (model prog w) A E s (xP u out i) R cJ:=by
      intro u out i f1 f2 f3 f4;refine wpS_bind (iV ey ?_);have f5:=f1.oC ey (fun q hq=>by
       obtain ⟨m',n1,n2,n3⟩:=tG hq;unfold le;rw [<-n3];exact gm (f4 m' n1 n2))
      by_cases c3:ib+1=b.size
      ·refine fe (c:=(ib+1==b.size)=true) (by simpa using c3) ?_;exact wpS_pure (.inl ⟨_,rfl,f5.jh (.inr c3),sj⟩)
      refine fb (c:=(ib+1==b.size)=true) (by simpa using c3) ?_;obtain ⟨z,ez,iz,kz⟩:=jJ ha (i:=i) (by exact bx f2);refine wpS_bind (iV ez (wpS_bind (QR (sj.kind.trans hk) hb sb iz (i:=ib+1) (by lia) fun k' FV LS FU=>?_)));dsimp-zeta only
      extract_lets-underBinder+onlyGivenNames bc2 Kq
      have jG:=f5.xp FV (fun p hp q hq=>by
       obtain ⟨m,m1,m2,m3,m4⟩:=A6 hp;obtain ⟨m',n1,n2,n3⟩:=tG hq;have:=LS m m1 m2;unfold le;rw [<-m4,<-n3];exact jD (gm (by simpa [eh] using this)) (kz▸nj sa n1 n2))
      have q_:∀(u:Unit) (out:Array Keyed) (j:Nat),Fv W a b out i j->j<b.size->ib+1<=j->(∀m,j<=m->m<b.size->N z<=Kk b m)->
       wpS (model prog w) A E s (Kq u out j) R cJ:=by
       intro u out j d1 d2 d3 d4;refine wpS_bind (iV ez ?_);have d5:=d1.oE ez (fun q hq=>by
        obtain ⟨m',n1,n2,n3⟩:=tG hq;unfold le;rw [<-n3];exact d4 m' n1 n2)
       by_cases c4:i+1+1=a.size
       ·refine fe (c:=(i+1+1==a.size)=true) (by simpa using c4) ?_;exact wpS_pure (.inl ⟨_,rfl,d5.ki (jb c4),sj⟩)
       refine fb (c:=(i+1+1==a.size)=true) (by simpa using c4) ?_;have jj:J (out.push z) (i+1) j cJ:=⟨d5,by lia,d2,sj⟩
       by_cases c5:(decide (k<7) && decide (k'<7))=true
       ·refine fe c5 ?_;exact wpS_pure (.inr ⟨_,i+1,j,_,_,_,rfl,jj,by lia⟩)
       ·refine fb c5 ?_;exact wpS_pure ⟨_,i+1,j,_,_,_,rfl,jj,by lia⟩
      by_cases c4:k'>0
      ·refine fe c4 ?_
       by_cases c5:ib+1+k'=b.size
       ·refine fe (c:=(ib+1+k'==b.size)=true) (by simpa using c5) ?_;exact wpS_pure (.inl ⟨_,rfl,jG.jh (.inr c5),sj⟩)
       refine fb (c:=(ib+1+k'==b.size)=true) (by simpa using c5) ?_;exact q_ () _ (ib+1+k') jG (by lia) (by lia) fun m m1 m2=>by simpa [eh] using FU m m1 m2
      ·refine fb c4 ?_;obtain rfl:k'=0:=by lia
       exact q_ () _ (ib+1) f5 (by lia) (by exact Nat.le.refl) fun m m1 m2=>by simpa [eh] using FU m m1 m2
     by_cases c4:k>0
     ·refine fe c4 ?_
      by_cases c5:ia+k+1=a.size
      ·refine fe (c:=(ia+k+1==a.size)=true) (by simpa using c5) ?_;exact wpS_pure (.inl ⟨_,rfl,oR.ki (jb c5),sj⟩)
      refine fb (c:=(ia+k+1==a.size)=true) (by simpa using c5) ?_
      by_cases c6:ia+k=a.size
      ·refine fe (c:=(ia+k==a.size)=true) (by simpa using c6) ?_;exact wpS_pure (.inl ⟨_,rfl,oR.jh (.inl c6),sj⟩)
      refine fb (c:=(ia+k==a.size)=true) (by simpa using c6) ?_;exact jd () _ (ia+k) oR (by lia) (by lia) fun m m1 m2=>by simpa [eh] using g3 m m1 m2
     ·refine fb c4 ?_;obtain rfl:k=0:=by lia
      exact jd () _ ia j1 (by omega) (by exact Nat.le.refl) fun m m1 m2=>by simpa [eh] using g3 m m1 m2
    by_cases c5:mg>1
    ·refine fe c5 ?_;exact oh () (mg-1)
    ·refine fb c5 ?_;exact oh () mg
end
section
variable [SK] {prog:Program} {w:World} {A:Around} {E:Value->Shared->Prop} {s:Shared} [gU prog w A E s] {st qm:SortSt} {a b:Array Keyed}
theorem QS (hk:kindOf st=SK.kind)
 (hI:∀p,p∈a.toList->fY p) (hs:a.toList.Pairwise le) (hq:fY key) (hn:n<=a.size) (h0:0<n)
 (h:∀k,k<=n->(∀m,m<k->eh l (N key) (Kk a m)=true)->(∀m,k<=m->m<n->eh l (N key) (Kk a m)=false)->Q (some k) st):
 wpS (model prog w) A E s (y8 l key a 0 n (n-1)) Q st:=by
 refine Dp hk hI hq (by lia) (fun x y pI hy=>nj hs (by lia) (by lia)) (by omega) fun k h1 h2 h3=>?_;refine h k h1 (fun m m1=>?_) (fun m m1 m2=>?_)
 ·have:=h2 m m1;rwa [Nat.zero_add] at this
 ·have:=h3 m m1 m2;rwa [Nat.zero_add] at this
theorem Vo (hW:W=a.toList++b.toList) (hk:kindOf st=SK.kind)
 (ha:∀p,p∈a.toList->fY p) (hb:∀p,p∈b.toList->fY p) (sa:a.toList.Pairwise le) (sb:b.toList.Pairwise le)
 (pa:0<a.size) (pb:0<b.size) (h0:Kk b 0<=Kk a 0) (hl:Kk b (b.size-1)<=Kk a (a.size-1))
 (h:∀r af,Sm st af->Out le W r.toList->Q r af):wpS (model prog w) A E s (mhi a b) Q st:=by
 have ke:∀{i j:Nat},j=1->∀p∈a.toList.take i,∀q∈b.toList.take j,ge p q:=by
  intro i j hj p hp q hq;obtain ⟨x,x1,x2,x3⟩:=tH hp;obtain ⟨y,y1,y2,y3⟩:=tH hq;unfold ge;rw [<-x3,<-y3,show y=0 by lia];exact jD h0 (nj sa (by lia) (by omega))
 let J:Array Keyed->Nat->Nat->SortSt->Prop:=fun out na nb af=>Bv W a b out na nb/\0<na/\na<=a.size/\1<nb/\nb<=b.size/\Sm st af
 let F:Array Keyed->SortSt->Prop:=fun r af=>Out le W r.toList/\Sm st af
 refine wpS_bind (wpS_lift (wpAny_rule ⟨rfl,?_⟩));obtain ⟨y0,e0,i0,k0⟩:=jJ ha (i:=a.size-1) (by omega);refine wpS_bind (iV e0 ?_);have i6:Bv W a b #[y0] (a.size-1) b.size:=by
  have:Bv W a b #[] (a.size-1+1) b.size:=by
   rw [show a.size-1+1=a.size by lia];unfold Bv;rw [List.take_of_length_le (by simp),List.take_of_length_le (by simp)];refine ⟨?_,List.Pairwise.nil,List.pairwise_reverse.mpr sa,List.pairwise_reverse.mpr sb,by simp,by simp⟩;rw [hW];exact (List.reverse_perm _).append (List.reverse_perm _)
  refine this.oE e0 fun q hq=>?_;obtain ⟨m,m1,m2,m3⟩:=tH hq;unfold ge;rw [<-m3,<-k0];exact jD (nj sb (by lia) (by omega)) hl
 by_cases c1:a.size-1=0
 ·refine fe (c:=(a.size-1==0)=true) (by simpa using c1) ?_;exact wpS_pure (h _ _ (Sm.refl st) (i6.jh (.inl c1)))
 refine fb (c:=(a.size-1==0)=true) (by simpa using c1) ?_
 by_cases c2:b.size=1
 ·refine fe (c:=(b.size==1)=true) (by simpa using c2) ?_;exact wpS_pure (h _ _ (Sm.refl st) (i6.ki (ke c2)))
 refine fb (c:=(b.size==1)=true) (by simpa using c2) ?_;refine wpS_bind (wpS_get ?_);refine wpS_bind (wpS_mono (se
  (I:=fun x c af=>∃na nb out mg,c=(none,na,nb,out,mg)/\J out na nb af/\na+nb+x<=a.size+b.size)
  (Q:=fun c af=>∃r,c.1=some r/\F r af) ?outer ?xC ⟨a.size-1,b.size,_,_,rfl,⟨i6,by lia,by omega,by lia,by exact Nat.le.refl,Sm.refl st⟩,by lia⟩) ?post)
 case post=>
  rintro ⟨c1,c2⟩ af ⟨r,rfl,hF⟩;exact wpS_pure (h r af hF.2 hF.1)
 case xC=>
  rintro c af ⟨na,nb,out,mg,rfl,⟨_,j2,j3,j4,j5,_⟩,hx⟩;exfalso;lia
 case outer=>
  rintro x c af hx ⟨na,nb,out,mg,rfl,hJ,Ky⟩;obtain ⟨t0,ht0⟩:∃t0,na+nb=t0:=⟨_,rfl⟩;refine wpS_bind (wpS_mono (se
   (I:=fun x c af=>∃na nb out ac bc,c=(none,na,nb,out,ac,bc)/\J out na nb af/\na+nb+x<=t0)
   (Q:=fun c af=>(∃r,c.1=some r/\F r af)\/∃na nb out ac bc,c=(none,na,nb,out,ac,bc)/\J out na nb af/\na+nb+1<=t0)
   ?one ?mn ⟨na,nb,out,0,0,rfl,hJ,by lia⟩) ?two)
  case mn=>
   rintro c af ⟨na,nb,out,ac,bc,rfl,j,kF⟩;exact .inr ⟨na,nb,out,ac,bc,rfl,j,by lia⟩
  case one=>
   rintro x' c af _ ⟨na,nb,out,ac,bc,rfl,⟨j1,j2,j3,j4,j5,j6⟩,kF⟩;obtain ⟨y,ey,iy,ky⟩:=jJ hb (i:=nb-1) (by lia);obtain ⟨z,ez,iz,kz⟩:=jJ ha (i:=na-1) (by lia);refine wpS_bind (iV ey (wpS_bind (iV ez (wpS_bind (Ar (j6.kind.trans hk) iy iz ?_)))))
   by_cases aW:N y<N z
   ·rw [eQ aW];refine wpS_bind (iV ez ?_);have qO:Bv W a b (out.push z) (na-1) nb:=Bv.oE (by rwa [show na-1+1=na by lia]) ez (fun q hq=>by
     obtain ⟨m,m1,m2,m3⟩:=tH hq;unfold ge;rw [<-m3];exact jD (ky▸nj sb (by lia) (by lia)) (gm aW))
    by_cases c3:na-1=0
    ·refine fe (c:=(na-1==0)=true) (by simpa using c3) ?_;exact wpS_pure (.inl ⟨_,rfl,qO.jh (.inl c3),j6⟩)
    refine fb (c:=(na-1==0)=true) (by simpa using c3) ?_;have jj:J (out.push z) (na-1) nb af:=⟨qO,by lia,by lia,j4,j5,j6⟩
    by_cases c4:ac+1>=mg
    ·refine fe c4 ?_;exact wpS_pure (.inr ⟨na-1,nb,_,_,_,rfl,jj,by lia⟩)
    ·refine fb c4 ?_;exact wpS_pure ⟨na-1,nb,_,_,_,rfl,jj,by lia⟩
   ·rw [eP aW];refine wpS_bind (iV ey ?_);have qO:Bv W a b (out.push y) na (nb-1):=Bv.oC (by rwa [show nb-1+1=nb by lia]) ey (fun q hq=>by
     obtain ⟨m,m1,m2,m3⟩:=tH hq;unfold ge;rw [<-m3];exact jD (kz▸nj sa (by lia) (by lia)) (Int.not_lt.mp aW))
    by_cases c3:nb-1=1
    ·refine fe (c:=(nb-1==1)=true) (by simpa using c3) ?_;exact wpS_pure (.inl ⟨_,rfl,qO.ki (ke c3),j6⟩)
    refine fb (c:=(nb-1==1)=true) (by simpa using c3) ?_;have jj:J (out.push y) na (nb-1) af:=⟨qO,j2,j3,by lia,by lia,j6⟩
    by_cases c4:bc+1>=mg
    ·refine fe c4 ?_;exact wpS_pure (.inr ⟨na,nb-1,_,_,_,rfl,jj,by lia⟩)
    ·refine fb c4 ?_;exact wpS_pure ⟨na,nb-1,_,_,_,rfl,jj,by lia⟩
  case two=>
   rintro ⟨c1,c2⟩ ba (⟨r,rfl,hF⟩ | ⟨na,nb,out,ac,bc,e,LK,ht⟩)
   ·exact wpS_pure ⟨r,rfl,hF⟩
   cases e;refine wpS_bind (wpS_lift (wpAny_rule ⟨rfl,?_⟩));refine wpS_bind (wpS_mono (se
    (I:=fun x c af=>∃na nb out mg ac bc,c=(none,na,nb,out,mg,ac,bc)/\J out na nb af/\na+nb+1<=t0)
    (Q:=fun c af=>(∃r,c.1=some r/\F r af)\/∃na nb out mg ac bc,c=(none,na,nb,out,mg,ac,bc)/\J out na nb af/\na+nb+1<=t0)
    ?y8 ?mY ⟨_,_,_,_,_,_,rfl,LK,ht⟩) ?three)
   case mY=>exact fun c af hh=>.inr hh
   case three=>
    rintro ⟨c1,c2⟩ cD (⟨r,rfl,hF⟩ | ⟨na,nb,out,mg,ac,bc,e,⟨j1,j2,j3,j4,j5,j6⟩,ht⟩)
    ·exact wpS_pure ⟨r,rfl,hF⟩
    cases e;exact wpS_bind (Dr j6 fun cJ si=>wpS_pure ⟨na,nb,out,_,rfl,⟨j1,j2,j3,j4,j5,si⟩,by lia⟩)
   case y8=>
    rintro x' c cD _ ⟨na,nb,out,mg,ac,bc,rfl,⟨j1,j2,j3,j4,j5,j6⟩,ht⟩
    extract_lets-underBinder+onlyGivenNames s1 na1 s2 nb1 s3 tV s4 mg1 s5 ac1 bc1 jp
    let R:ForInStep (Option (Array Keyed)×Nat×Nat×Array Keyed×Nat×Nat×Nat)->SortSt->Prop:=
     SQ (fun c af=>(∃r,c.1=some r/\F r af)\/∃na nb out mg ac bc,c=(none,na,nb,out,mg,ac,bc)/\J out na nb af/\na+nb+1<=t0)
      (fun c af=>∃na nb out mg ac bc,c=(none,na,nb,out,mg,ac,bc)/\J out na nb af/\na+nb+1<=t0)
    have oh:∀(u:Unit) (g:Nat),wpS (model prog w) A E s (jp u g) R cD:=by
     intro u g;refine wpS_bind (Dr j6 fun cJ si=>?_);obtain ⟨y,ey,iy,ky⟩:=jJ hb (i:=nb-1) (by omega);refine wpS_bind (iV ey (wpS_bind (QS (si.kind.trans hk) ha sa iy (n:=na) j3 j2 fun k g1 g2 g3=>?_)));dsimp-zeta only
     extract_lets-underBinder+onlyGivenNames kk ac2 xP
     have oR:=j1.xq g1 (fun p hp q hq=>by
      obtain ⟨m,m1,m2,m3,m4⟩:=A6 hp;obtain ⟨m',n1,n2,n3⟩:=tH hq;have:=g3 m m1 m2;unfold ge;rw [<-m4,<-n3];exact jD (ky▸nj sb (i:=m') (j:=nb-1) (by omega) (by omega)) (gm (by simpa [eh] using this)))
     have jd:∀(u:Unit) (i:Nat) (out:Array Keyed),Bv W a b out i nb->0<i->i<=na->(∀m,m<i->Kk a m<=N y)->
      wpS (model prog w) A E s (xP u i out) R cJ:=by
      intro u i out f1 f2 f3 f4;refine wpS_bind (iV ey ?_);have f5:Bv W a b (out.push y) i (nb-1):=Bv.oC (by rwa [show nb-1+1=nb by omega]) ey (fun q hq=>by
       obtain ⟨m',n1,n2,n3⟩:=tH hq;unfold ge;rw [<-n3];exact f4 m' n1)
      by_cases c3:nb-1=1
      ·refine fe (c:=(nb-1==1)=true) (by simpa using c3) ?_;exact wpS_pure (.inl ⟨_,rfl,f5.ki (ke c3),si⟩)
      refine fb (c:=(nb-1==1)=true) (by simpa using c3) ?_;obtain ⟨z,ez,iz,kz⟩:=jJ ha (i:=i-1) (by omega);refine wpS_bind (iV ez (wpS_bind (QS (si.kind.trans hk) hb sb iz (n:=nb-1) (by omega) (by omega) fun k' FV LS FU=>?_)));dsimp-zeta only
      extract_lets-underBinder+onlyGivenNames kk2 bc2 Kq
      have jG:=f5.xp FV (fun p hp q hq=>by
       obtain ⟨m,m1,m2,m3,m4⟩:=A6 hp;obtain ⟨m',n1,n2,n3⟩:=tH hq;have:=FU m m1 m2;unfold ge;rw [<-m4,<-n3];exact jD (kz▸nj sa (i:=m') (j:=i-1) (by omega) (by omega)) (by simpa [eh] using this))
      have q_:∀(u:Unit) (j:Nat) (out:Array Keyed),Bv W a b out i j->1<j->j<=nb-1->(∀m,m<j->Kk b m<=N z)->
       wpS (model prog w) A E s (Kq u j out) R cJ:=by
       intro u j out d1 d2 d3 d4;refine wpS_bind (iV ez ?_);have d5:Bv W a b (out.push z) (i-1) j:=Bv.oE (by rwa [show i-1+1=i by omega]) ez (fun q hq=>by
        obtain ⟨m',n1,n2,n3⟩:=tH hq;unfold ge;rw [<-n3];exact d4 m' n1)
       by_cases c4:i-1=0
       ·refine fe (c:=(i-1==0)=true) (by simpa using c4) ?_;exact wpS_pure (.inl ⟨_,rfl,d5.jh (.inl c4),si⟩)
       refine fb (c:=(i-1==0)=true) (by simpa using c4) ?_;have jj:J (out.push z) (i-1) j cJ:=⟨d5,by lia,by omega,d2,by omega,si⟩
       by_cases c5:(decide (na-k<7) && decide (nb-1-k'<7))=true
       ·refine fe c5 ?_;exact wpS_pure (.inr ⟨i-1,j,_,_,_,_,rfl,jj,by omega⟩)
       ·refine fb c5 ?_;exact wpS_pure ⟨i-1,j,_,_,_,_,rfl,jj,by omega⟩
      have hz:∀m,m<k'->Kk b m<=N z:=fun m m1=>gm (by simpa [eh] using LS m m1)
      by_cases c4:nb-1-k'>0
      ·refine fe c4 ?_
       by_cases c5:k'=1
       ·refine fe (c:=(k'==1)=true) (by simpa using c5) ?_;exact wpS_pure (.inl ⟨_,rfl,jG.ki (ke c5),si⟩)
       refine fb (c:=(k'==1)=true) (by simpa using c5) ?_
       by_cases c6:k'=0
       ·refine fe (c:=(k'==0)=true) (by simpa using c6) ?_;exact wpS_pure (.inl ⟨_,rfl,jG.jh (.inr c6),si⟩)
       refine fb (c:=(k'==0)=true) (by simpa using c6) ?_;exact q_ () k' _ jG (by lia) (by omega) hz
      ·refine fb c4 ?_;obtain rfl:k'=nb-1:=by omega
       exact q_ () (nb-1) _ f5 (by omega) (by omega) hz
     have hy:∀m,m<k->Kk a m<=N y:=fun m m1=>by simpa [eh] using g2 m m1
     by_cases c4:na-k>0
     ·refine fe c4 ?_
      by_cases c5:k=0
      ·refine fe (c:=(k==0)=true) (by simpa using c5) ?_;exact wpS_pure (.inl ⟨_,rfl,oR.jh (.inl c5),si⟩)
      refine fb (c:=(k==0)=true) (by simpa using c5) ?_;exact jd () k _ oR (by lia) (by omega) hy
     ·refine fb c4 ?_;obtain rfl:k=na:=by omega
      exact jd () k _ j1 (by omega) (by omega) hy
    by_cases c5:mg>1
    ·refine fe c5 ?_;exact oh () (mg-1)
    ·refine fb c5 ?_;exact oh () mg
end
section
variable [SK]
noncomputable def fu (xs:Array Keyed) (a b:Nat):Prop:=∀i j,a<=i->i<=j->j<b->Kk xs i<=Kk xs j
theorem Qb (sa:Nat):∀(l:List Keyed) (n:Nat) (xs:Array Keyed),sa+n+l.length<=xs.size->
 ((l.zipIdx n).foldl (fun a (pj:Keyed×Nat)=>a.setIfInBounds (sa+pj.2) pj.1) xs).toList
   =xs.toList.take (sa+n)++(l++xs.toList.drop (sa+n+l.length))
 | [],n,xs,_=>by simp
 | p::t,n,xs,h=>by
  simp only [lT] at h;rw [List.zipIdx_cons,List.foldl_cons,Qb sa t (n+1) _ (by simp;lia)];simp only [Array.toList_setIfInBounds];rw [show sa+(n+1)=sa+n+1 by exact Eq.refl (sa+(n+1)),List.drop_set_of_lt (by lia),lT,
   show sa+n+1+t.length=sa+n+(t.length+1) by lia]
  have:(xs.toList.set (sa+n) p).take (sa+n+1)=xs.toList.take (sa+n)++[p]:=by
   rw [List.take_succ_eq_append_getElem (by simp;lia),List.take_set_of_le (aF _)];simp
  rw [this];simp
section seg
variable {xs ys:Array Keyed} {a b:Nat} {M:List Keyed}
theorem TQ (h:ys.toList=xs.toList.take a++(M++xs.toList.drop (a+M.length))) (hs:a+M.length<=xs.size):
 (∀m,m<a\/a+M.length<=m->Kk ys m=Kk xs m)/\∀m,(hm:m<M.length)->Kk ys (a+m)=N M[m]:=by
 have hl:(xs.toList.take a).length=a:=by simp;lia
 refine ⟨fun m hm=>?_,fun m hm=>?_⟩
 ·refine wM ?_;rw [<-Array.getElem?_toList,<-Array.getElem?_toList,h];rcases hm with hm | hm
  ·rw [pR (by lia),List.getElem?_take_of_lt hm]
  ·rw [oY (by lia),hl,oY (by lia),List.getElem?_drop];congr 1;lia
 ·refine tq ?_;rw [<-Array.getElem?_toList,h,oY (by lia),hl,Nat.add_sub_cancel_left,pR hm,iR hm]
theorem Xh (h:ys.toList=xs.toList.take a++(M++xs.toList.drop (a+M.length))) (hM:M.Perm (xs.extract a b).toList) (hb:b<=xs.size) (sG:a<=b):ys.Perm xs:=by
 have hl:M.length=b-a:=by rw [hM.length_eq];simp;lia
 refine Array.perm_iff_toList_perm.mpr ?_;rw [h];have e:xs.toList=xs.toList.take a++((xs.extract a b).toList++xs.toList.drop (a+M.length)):=by
  conv=>lhs;rw [<-List.take_append_drop a xs.toList]
  congr 1;have:=zu (a:=xs) (i:=a) (k:=b-a) (by lia);rw [show a+(b-a)=b by omega] at this;rw [this,show a+M.length=b by lia]
 conv=>rhs;rw [e]
 exact (hM.append_right _).append_left _
end seg
structure Bs (a₀:Array Keyed) (st:SortSt):Prop where
 perm:(arrOf st).Perm a₀
 kind:kindOf st=SK.kind
 fail:failedOf st=none
theorem Bs.size {a₀:Array Keyed} {st:SortSt} (h:Bs a₀ st):(arrOf st).size=a₀.size:=h.perm.size_eq
theorem Bs.nums {a₀:Array Keyed} {st:SortSt} (h:Bs a₀ st) (h0:∀p,p∈a₀.toList->fY p):∀p,p∈(arrOf st).toList->fY p:=
 fun p hp=>h0 p ((Array.perm_iff_toList_perm.mp h.perm).mem_iff.mp hp)
theorem Pw (hs:fu xs a b) (hb:b<=xs.size):(xs.extract a b).toList.Pairwise le:=by
 rw [C7];intro i j hi hj gj;simp only [rH,Array.size_extract] at hi hj;simp only [Array.getElem_toList,Array.getElem_extract];have:=hs (a+i) (a+j) (by lia) (by lia) (by lia);rw [tq (getElem?_pos xs (a+i) (by lia)),tq (getElem?_pos xs (a+j) (by lia))] at this;exact this
theorem CV (hm:a+m<b) (_hb:b<=xs.size):Kk (xs.extract a b) m=Kk xs (a+m):=by
 refine wM ?_;rw [Array.getElem?_extract,if_pos (by lia)]
end
section
variable [SK] {prog:Program} {w:World} {A:Around} {E:Value->Shared->Prop} {s:Shared} [gU prog w A E s] {st:SortSt} {a₀:Array Keyed}
theorem Wb (h:Q ⟨⟩ af):wpS (model prog w) A E s (set af:StateT SortSt Sem PUnit) Q st:=by
 unfold wpS;rw [StateT.run_set];exact bz ⟨rfl,h⟩
theorem Vn (h0:∀p,p∈a₀.toList->fY p) (hB:Bs a₀ st)
 (hp:pendingOf st=(L++(sa,na,p)::(sb,nb,p')::T).toArray) (hi:i=L.length) (hadj:sb=sa+na) (hna:1<=na) (hnb:1<=nb)
 (hsz:sb+nb<=a₀.size) (s1:fu (arrOf st) sa sb) (s2:fu (arrOf st) sb (sb+nb))
 (h:∀af,Bs a₀ af->pendingOf af=(L++(sa,na+nb,p)::T).toArray->fu (arrOf af) sa (sb+nb)->
  (∀m,m<sa\/sb+nb<=m->Kk (arrOf af) m=Kk (arrOf st) m)->Q true af):
 wpS (model prog w) A E s (mergeAt' i) Q st:=by
 subst hi;have hI:=hB.nums h0;have Bx:=hB.size;refine wpS_bind (wpS_get ?_);have g1:(pendingOf st)[L.length]?=some (sa,na,p):=by rw [hp];simp
 have g2:(pendingOf st)[L.length+1]?=some (sb,nb,p'):=by rw [hp];simp
 have g3:((pendingOf st).setIfInBounds L.length (sa,na+nb,p)).eraseIdxIfInBounds (L.length+1)=(L++(sa,na+nb,p)::T).toArray:=by
  rw [hp];apply Array.toList_inj.mp;simp [List.eraseIdx_append_of_length_le]
 refine (show ((pendingOf st)[L.length]?,(pendingOf st)[L.length+1]?)=(some (sa,na,p),some (sb,nb,p')) by rw [g1,g2]).symm▸?_;refine wpS_bind (Wb (g3.symm▸?_));refine (fun (H:∀gC:SortSt,gC=SortSt.mk' (kindOf st) (arrOf st) ((L++(sa,na+nb,p)::T).toArray) (gallopOf st) (failedOf st)->
  wpS (model prog w) A E s _ Q gC)=>H _ rfl) ?_
 intro gC e1;have b1:Bs a₀ gC:=by rw [e1];exact ⟨hB.perm,hB.kind,hB.fail⟩
 have x1:arrOf gC=arrOf st:=by rw [e1]
 have p1:pendingOf gC=(L++(sa,na+nb,p)::T).toArray:=by rw [e1]
 have keep:fu (arrOf st) sa (sb+nb)->Q true gC:=fun hs=>h gC b1 p1 (by rw [x1];exact hs) (fun m _=>by rw [x1]);clear e1;obtain ⟨y,ey,iy,ky⟩:=jJ hI (i:=sb) (by lia);refine wpS_bind (iV ey (wpS_bind (Dp (a:=arrOf st) b1.kind hI iy (n:=na) (by lia) (fun i j gj hj=>s1 _ _ (by lia) (by lia) (by lia)) (by exact hna)
  fun k k1 k2 k3=>?_)))
 have zD:∀m,sa<=m->m<sa+k->Kk (arrOf st) m<=Kk (arrOf st) sb:=fun m m1 m2=>by
  have:=k2 (m-sa) (by lia);rw [show sa+(m-sa)=m by lia] at this;rw [ky];simpa [eh] using this
 have RZ:∀m,sa+k<=m->m<sb->Kk (arrOf st) sb<Kk (arrOf st) m:=fun m m1 m2=>by
  have:=k3 (m-sa) (by lia) (by lia);rw [show sa+(m-sa)=m by lia] at this;rw [ky];simpa [eh] using this
 dsimp-zeta only
 by_cases c1:na-k=0
 ·refine fe (c:=(na-k==0)=true) (by simpa using c1) ?_;refine wpS_pure (keep fun i j h1 h2 h3=>?_)
  by_cases hj:j<sb
  ·exact s1 i j h1 h2 hj
  by_cases hi:sb<=i
  ·exact s2 i j hi h2 h3
  exact jD (zD i h1 (by lia)) (s2 sb j (aF _) (by lia) h3)
 refine fb (c:=(na-k==0)=true) (by simpa using c1) ?_;obtain ⟨z,ez,iz,kz⟩:=jJ hI (i:=sa+k+(na-k)-1) (by lia);have esb:sa+k+(na-k)-1=sb-1:=by lia
 refine wpS_bind (iV ez (wpS_bind (Dp (a:=arrOf st) b1.kind hI iz (b:=sb) (n:=nb) (by lia) (fun i j gj hj=>s2 _ _ (by lia) (by lia) (by lia)) (by omega)
  fun jo q1 q2 q3=>?_)))
 rw [esb] at kz;have RB:∀m,sb<=m->m<sb+jo->Kk (arrOf st) m<Kk (arrOf st) (sb-1):=fun m m1 m2=>by
  have:=q2 (m-sb) (by lia);rw [show sb+(m-sb)=m by lia] at this;rw [kz];simpa [eh] using this
 have Rz:∀m,sb+jo<=m->m<sb+nb->Kk (arrOf st) (sb-1)<=Kk (arrOf st) m:=fun m m1 m2=>by
  have:=q3 (m-sb) (by lia) (by lia);rw [show sb+(m-sb)=m by lia] at this;rw [kz];simpa [eh] using this
 dsimp-zeta only
 by_cases c2:jo=0
 ·refine fe (c:=(jo==0)=true) (by simpa using c2) ?_;refine wpS_pure (keep fun i j h1 h2 h3=>?_)
  by_cases hj:j<sb
  ·exact s1 i j h1 h2 hj
  by_cases hi:sb<=i
  ·exact s2 i j hi h2 h3
  exact jD (s1 i (sb-1) h1 (by lia) (by lia)) (Rz j (by lia) h3)
 refine fb (c:=(jo==0)=true) (by simpa using c2) ?_
 extract_lets-underBinder+onlyGivenNames x y' jp
 have szx:x.size=na-k:=by show ((arrOf st).extract (sa+k) sb).size=_;rw [Array.size_extract];lia
 have szy:y'.size=jo:=by show ((arrOf st).extract sb (sb+jo)).size=_;rw [Array.size_extract];lia
 have hx:∀q,q∈x.toList->fY q:=fun q hq=>hI q (by
  have:q∈((arrOf st).extract (sa+k) sb).toList:=hq;rw [Array.toList_extract,List.extract_eq_take_drop] at this;exact List.mem_of_mem_drop (List.mem_of_mem_take this))
 have hy:∀q,q∈y'.toList->fY q:=fun q hq=>hI q (by
  have:q∈((arrOf st).extract sb (sb+jo)).toList:=hq;rw [Array.toList_extract,List.extract_eq_take_drop] at this;exact List.mem_of_mem_drop (List.mem_of_mem_take this))
 have ox:x.toList.Pairwise le:=Pw (xs:=arrOf st) (fun i j h1 h2 h3=>s1 i j (by lia) h2 h3) (by lia);have oy:y'.toList.Pairwise le:=Pw (xs:=arrOf st) (fun i j h1 h2 h3=>s2 i j h1 h2 (by lia)) (by lia);have hf:Kk y' 0<=Kk x 0:=by
  show Kk ((arrOf st).extract sb (sb+jo)) 0<=Kk ((arrOf st).extract (sa+k) sb) 0;rw [CV (by lia) (by lia),CV (by lia) (by lia)];exact gm (RZ _ (by exact Nat.le.refl) (by lia))
 have hl:Kk y' (y'.size-1)<=Kk x (x.size-1):=by
  rw [szx,szy];show Kk ((arrOf st).extract sb (sb+jo)) _<=Kk ((arrOf st).extract (sa+k) sb) _;rw [CV (by lia) (by lia),CV (by lia) (by lia),show sa+k+(na-k-1)=sb-1 by lia];exact gm (RB _ (by lia) (by lia))
 have hW:x.toList++y'.toList=((arrOf st).extract (sa+k) (sb+jo)).toList:=by
  have e1:=zu (a:=(arrOf st)) (i:=sa+k) (k:=na-k) (by omega);have e2:=zu (a:=(arrOf st)) (i:=sb) (k:=jo) (by lia);have e3:=zu (a:=(arrOf st)) (i:=sa+k) (k:=na-k+jo) (by omega);rw [show sa+k+(na-k)=sb by omega] at e1;rw [show sa+k+(na-k+jo)=sb+jo by omega] at e3;rw [e2] at e1;rw [e3,<-List.append_assoc] at e1;exact (List.append_cancel_right e1).symm
 have oh:∀r ba,Sm gC ba->Out le (x.toList++y'.toList) r.toList->wpS (model prog w) A E s (jp r) Q ba:=by
  intro r ba hm hO;rw [hW] at hO;have rl:r.toList.length=na-k+jo:=by rw [hO.1.length_eq];simp;lia
  refine wpS_bind (wpS_modify (wpS_bind (wpS_get (wpS_pure ?_))));have hY:=Qb (sa+k) r.toList 0 (arrOf ba) (by rw [hm.arr,x1];omega);rw [hm.arr,x1,Nat.add_zero] at hY;have yx:=TQ hY (by omega);have hP:=Xh hY hO.1 (by lia) (by lia);have eX:∀m,sa+k<=m->m<sb+jo->∀v,v=Kk (List.foldl (fun a (pj:Keyed×Nat)=>a.setIfInBounds (sa+k+pj.2) pj.1) (arrOf st) (r.toList.zipIdx 0)) m->Kk (arrOf st) sb<=v/\v<=Kk (arrOf st) (sb-1):=by
   rintro m m1 m2 v rfl;have:=yx.2 (m-(sa+k)) (by omega);rw [show sa+k+(m-(sa+k))=m by lia] at this;rw [this];obtain ⟨m',n1,n2,n3,n4⟩:=A6 (hO.1.mem_iff.mp (zT (l:=r.toList) (n:=m-(sa+k)) (by lia)));rw [<-n4]
   by_cases hc:m'<sb
   ·exact ⟨gm (RZ m' n1 hc),s1 _ _ (by lia) (by lia) (by lia)⟩
   ·exact ⟨s2 _ _ (by exact Nat.le.refl) (by lia) (by lia),gm (RB m' (by lia) n2)⟩
  have BL:(failedOf ba).isNone=true:=by rw [hm.fail,b1.fail];rfl
  have vY:List.foldl (fun a x=>match x with | (p,j)=>a.setIfInBounds (sa+k+j) p) (arrOf ba) r.toList.zipIdx
   =List.foldl (fun a (pj:Keyed×Nat)=>a.setIfInBounds (sa+k+pj.2) pj.1) (arrOf st) (r.toList.zipIdx 0):=by rw [hm.arr,x1]
  generalize List.foldl (fun a (pj:Keyed×Nat)=>a.setIfInBounds (sa+k+pj.2) pj.1) (arrOf st) (r.toList.zipIdx 0)=Y at vY hY yx hP eX;refine (show Q (failedOf ba).isNone (SortSt.mk' (kindOf ba) (List.foldl (fun a x=>match x with | (p,j)=>a.setIfInBounds (sa+k+j) p) (arrOf ba) r.toList.zipIdx) (pendingOf ba) (gallopOf ba) (failedOf ba)) from ?_);rw [vY,BL];refine h _ ⟨hP.trans hB.perm,hm.kind.trans b1.kind,hm.fail.trans b1.fail⟩ (hm.pend.trans p1) ?_ ?_
  ·show fu Y sa (sb+nb);have tV:∀m,m<sa+k->Kk Y m=Kk (arrOf st) m:=fun m m1=>yx.1 m (.inl m1);have tU:∀m,sb+jo<=m->Kk Y m=Kk (arrOf st) m:=fun m m1=>yx.1 m (.inr (by omega));intro i j h1 h2 h3
   by_cases i1:i<sa+k
   ·rw [tV i i1]
    by_cases j1:j<sa+k
    ·rw [tV j j1];exact s1 i j h1 h2 (by lia)
    have:=zD i h1 i1
    by_cases j2:j<sb+jo
    ·exact jD this (eX j (by lia) j2 _ rfl).1
    ·rw [tU j (by lia)];exact jD this (s2 _ _ (aF _) (by lia) h3)
   by_cases i2:i<sb+jo
   ·by_cases j2:j<sb+jo
    ·rcases Nat.lt_or_eq_of_le h2 with gj | rfl
     ·have e1:=yx.2 (i-(sa+k)) (by omega);have e2:=yx.2 (j-(sa+k)) (by lia);rw [show sa+k+(i-(sa+k))=i by lia] at e1;rw [show sa+k+(j-(sa+k))=j by lia] at e2;rw [e1,e2];exact C7.mp hO.2 _ _ _ _ (by lia)
     ·exact Int.le_refl _
    ·rw [tU j (by lia)];exact jD (eX i (by lia) i2 _ rfl).2 (Rz j (by lia) h3)
   ·rw [tU i (by lia),tU j (by lia)];exact s2 i j (by lia) h2 h3
  ·intro m Fq;exact yx.1 m (by omega)
 by_cases c3:na-k<=jo
 ·refine fe c3 ?_;exact wpS_bind (Vp rfl b1.kind hx hy ox oy (by lia) (by lia) hf hl fun r ba hm hO=>oh r ba hm hO)
 ·refine fb c3 ?_;exact wpS_bind (Vo rfl b1.kind hx hy ox oy (by lia) (by lia) hf hl fun r ba hm hO=>oh r ba hm hO)
end
section
variable [SK]
noncomputable def Dec (xs:Array Keyed) (a b:Nat):Prop:=∀i j,a<=i->i<=j->j<b->Kk xs j<=Kk xs i
structure Go (a₀:Array Keyed) (lo:Nat) (st af:SortSt):Prop where
 base:Bs a₀ af
 pend:pendingOf af=pendingOf st
 low:∀m,m<lo->Kk (arrOf af) m=Kk (arrOf st) m
theorem Go.refl {a₀:Array Keyed} {lo:Nat} {st:SortSt} (h:Bs a₀ st):Go a₀ lo st st:=⟨h,rfl,fun _ _=>rfl⟩
theorem Go.put {a₀:Array Keyed} {lo:Nat} {st af:SortSt} (h:Go a₀ lo st af) {xs:Array Keyed} (hp:xs.Perm (arrOf af)) (hl:∀m,m<lo->Kk xs m=Kk (arrOf af) m):
 Go a₀ lo st (setArr af xs):=⟨⟨hp.trans h.base.perm,h.base.kind,h.base.fail⟩,h.pend,fun m hm=>(hl m hm).trans (h.low m hm)⟩
theorem fu.snoc (h:fu xs a b) (hl:a<b->Kk xs (b-1)<=Kk xs b):fu xs a (b+1):=by
 intro i j h1 h2 h3
 by_cases hj:j<b
 ·exact h i j h1 h2 hj
 obtain rfl:j=b:=by lia
 by_cases hi:i=j
 ·rw [hi];exact Int.le_refl _
 ·exact jD (h i (j-1) h1 (by lia) (by lia)) (hl (by lia))
theorem Dec.snoc (h:Dec xs a b) (hl:a<b->Kk xs b<=Kk xs (b-1)):Dec xs a (b+1):=by
 intro i j h1 h2 h3
 by_cases hj:j<b
 ·exact h i j h1 h2 hj
 obtain rfl:j=b:=by lia
 by_cases hi:i=j
 ·rw [hi];exact Int.le_refl _
 ·exact jD (hl (by lia)) (h i (j-1) h1 (by lia) (by lia))
theorem fu.one (xs:Array Keyed) (a:Nat):fu xs a (a+1):=fun i j h1 h2 h3=>by
 obtain rfl:i=j:=by lia
 exact Int.le_refl _
theorem Dec.rev (h:Dec xs a b) (hb:b<=xs.size):fu (mirror xs a b ((b-a) / 2)) a b:=by
 intro i j h1 h2 h3;rw [DE hb,DE hb,if_pos ⟨h1,by lia⟩,if_pos ⟨by lia,h3⟩];exact h _ _ (by omega) (by omega) (by omega)
end
section
variable [SK] {prog:Program} {w:World} {A:Around} {E:Value->Shared->Prop} {s:Shared} [gU prog w A E s] {st:SortSt} {a₀:Array Keyed}
theorem DJ (I:Nat->β->SortSt->Prop) (han:a<=n)
 (qQ:∀i c st,a<=i->i<n->I i c st->wpS (model prog w) A E s (f i c) (SQ Q (I (i+1))) st)
 (ra:∀c st,I n c st->Q c st) (h:I a c st):wpS (model prog w) A E s (forIn [a:n] c f) Q st:=
 wpS_forRange I (fun i c st hai hi hI=>wpS_mono (qQ i c st hai hi hI) fun r af h'=>by cases r<;>exact h')
  (fun c st h'=>ra c st (by rwa [Nat.max_eq_right han] at h')) h
theorem yU (h0:∀p,p∈a₀.toList->fY p) (hB:Bs a₀ st) (hi:i<a₀.size) (hj:j<a₀.size)
 (h:Q (some (decide (Kk (arrOf st) i<Kk (arrOf st) j))) st):wpS (model prog w) A E s (ltAt' i j) Q st:=by
 have hI:=hB.nums h0;obtain ⟨p,e1,i1,k1⟩:=jJ hI (i:=i) (by rw [hB.size];exact hi);obtain ⟨q,e2,i2,k2⟩:=jJ hI (i:=j) (by rw [hB.size];exact hj);rw [ltAt'_eq];refine wpS_bind (wpS_get (wpS_bind (iV e1 (wpS_bind (iV e2 (Ar hB.kind i1 i2 ?_))))))
 rwa [k1,k2] at h
theorem W_ {lo gM:Nat} {Q:Option Nat->SortSt->Prop} (h0:∀p,p∈a₀.toList->fY p) (hB:Bs a₀ st) (hn:lo+gM<=a₀.size) (h1:1<=gM)
 (h:∀m af,1<=m->m<=gM->Go a₀ lo st af->fu (arrOf af) lo (lo+m)->Q (some m) af):
 wpS (model prog w) A E s (countRun' lo gM) Q st:=by
 refine wpS_bind (wpS_mono (DJ
  (I:=fun x c af=>af=st/\c=(none,x)/\fu (arrOf st) lo (lo+x))
  (Q:=fun c af=>af=st/\∃n,c=(none,n)/\1<=n/\n<=gM/\fu (arrOf st) lo (lo+n)/\(n=gM\/Kk (arrOf st) (lo+n)<Kk (arrOf st) (lo+n-1)))
  h1 ?_ ?_ ⟨rfl,rfl,fu.one _ _⟩) ?_)
 ·rintro x c af u6 xQ ⟨rfl,rfl,hs⟩;refine wpS_bind (yU h0 hB (by show lo+x<_;lia) (by show lo+x-1<_;omega) ?_)
  by_cases aW:Kk (arrOf af) (lo+x)<Kk (arrOf af) (lo+x-1)
  ·rw [eQ aW];exact wpS_pure ⟨rfl,x,rfl,u6,by exact bx xQ,hs,.inr aW⟩
  ·rw [eP aW];exact wpS_pure ⟨rfl,rfl,hs.snoc fun _=>Int.not_lt.mp aW⟩
 ·rintro c af ⟨rfl,rfl,hs⟩;exact ⟨rfl,gM,rfl,h1,aF _,hs,.inl rfl⟩
 rintro c af ⟨rfl,n,rfl,n1,n2,hs,hor⟩;refine (fun (H:wpS (model prog w) A E s (ite ((n==gM)=true) _ _) Q af)=>H) ?_
 by_cases c1:n=gM
 ·rw [if_pos (by simpa using c1)];exact wpS_pure (h n _ n1 n2 (Go.refl hB) hs)
 rw [if_neg (by simpa using c1)];have aW:=hor.resolve_left c1
 extract_lets-underBinder+onlyGivenNames jp
 have oh:∀u ba,Go a₀ lo af ba->Dec (arrOf ba) lo (lo+(n+1))->wpS (model prog w) A E s (jp u) Q ba:=by
  intro u ba hg hd;refine wpS_bind (wpS_lift (wpAny_rule ⟨rfl,?_⟩));refine wpS_bind (wpS_mono (DJ
   (I:=fun x c cD=>∃jU,c=(none,x,jU)/\Go a₀ lo af cD/\Dec (arrOf cD) lo (lo+x)/\jU+1<=x/\∀i,lo+x-(jU+1)<=i->i<lo+x->Kk (arrOf cD) i=Kk (arrOf cD) (lo+x-1))
   (Q:=fun c cD=>∃x jU,c=(none,x,jU)/\n+1<=x/\x<=gM/\Go a₀ lo af cD/\Dec (arrOf cD) lo (lo+x)/\jU+1<=x/\∀i,lo+x-(jU+1)<=i->i<lo+x->Kk (arrOf cD) i=Kk (arrOf cD) (lo+x-1))
   (show n+1<=gM by lia) ?_ ?_ ⟨0,rfl,hg,hd,by exact Nat.le.step n1,fun i i1 i2=>by congr 1;lia⟩) ?_)
  ·rintro x c cD x1 x2 ⟨jU,rfl,hg,hd,hq,he⟩;have hsz:lo+x<=(arrOf cD).size:=by rw [hg.base.size];lia
   refine wpS_bind (yU h0 hg.base (by show lo+x<_;lia) (by show lo+x-1<_;omega) ?_)
   by_cases aW:Kk (arrOf cD) (lo+x)<Kk (arrOf cD) (lo+x-1)
   ·rw [eQ aW];dsimp only;rw [if_pos rfl]
    by_cases qW:jU>0
    ·rw [if_pos qW];have hK:=IX (i:=lo+x-(jU+1)) hsz he;refine wpS_bind (wpS_reverse (wpS_pure ⟨0,rfl,hg.put (mirror_perm _ _ _ _) (fun m _=>hK m),?_,by lia,fun i i1 i2=>by congr 1;lia⟩));intro i j i1 i2 i3;show Kk (mirror (arrOf cD) _ _ _) j<=Kk (mirror (arrOf cD) _ _ _) i;rw [hK,hK];exact (hd.snoc fun _=>gm aW) i j i1 i2 (by omega)
    ·rw [if_neg qW];exact wpS_pure ⟨0,rfl,hg,hd.snoc fun _=>gm aW,by lia,fun i i1 i2=>by congr 1;lia⟩
   ·rw [eP aW];dsimp only;rw [if_neg (by decide)];refine wpS_bind (yU h0 hg.base (by omega) (by lia) ?_)
    by_cases Sy:Kk (arrOf cD) (lo+x-1)<Kk (arrOf cD) (lo+x)
    ·rw [eQ Sy];exact wpS_pure ⟨x,jU,rfl,by omega,by exact bx x2,hg,hd,hq,he⟩
    ·rw [eP Sy];have heq:Kk (arrOf cD) (lo+x)=Kk (arrOf cD) (lo+x-1):=by lia
     refine wpS_pure ⟨jU+1,rfl,hg,hd.snoc fun _=>by lia,by lia,fun i i1 i2=>?_⟩;rw [show lo+(x+1)-1=lo+x by exact Eq.refl (lo+(x+1)-1)]
     by_cases hi:i=lo+x
     ·rw [hi]
     ·rw [heq];exact he i (by lia) (by lia)
  ·rintro c cD ⟨jU,rfl,hg,hd,hq,he⟩;exact ⟨gM,jU,rfl,by lia,aF _,hg,hd,hq,he⟩
  rintro c cD ⟨x,jU,rfl,x1,x2,hg,hd,hq,he⟩;have hsz:lo+x<=(arrOf cD).size:=by rw [hg.base.size];lia
  refine (fun (H:wpS (model prog w) A E s _ Q cD)=>H) ?_
  extract_lets-underBinder+onlyGivenNames r0 s0 xx nn
  dsimp-zeta only [r0]
  extract_lets-underBinder+onlyGivenNames xP
  have jd:∀u cJ,Go a₀ lo af cJ->Dec (arrOf cJ) lo (lo+x)->wpS (model prog w) A E s (xP u) Q cJ:=by
   intro u cJ hg hd;have hsz:lo+x<=(arrOf cJ).size:=by rw [hg.base.size];lia
   refine wpS_bind (wpS_reverse ?_);have Fw:Go a₀ lo af (setArr cJ (mirror (arrOf cJ) lo (lo+x) ((lo+x-lo) / 2))):=
    hg.put (mirror_perm _ _ _ _) (fun m hm=>by rw [DE hsz,if_neg (by lia)])
   have KG:fu (arrOf (setArr cJ (mirror (arrOf cJ) lo (lo+x) ((lo+x-lo) / 2)))) lo (lo+x):=hd.rev hsz;refine (fun (H:∀kS,Go a₀ lo af kS->fu (arrOf kS) lo (lo+x)->wpS (model prog w) A E s _ Q kS)=>H _ Fw KG) ?_;intro kS Fw KG;refine wpS_bind (wpS_mono (DJ
    (I:=fun y c vG=>vG=kS/\c=(none,y)/\fu (arrOf kS) lo (lo+y))
    (Q:=fun c vG=>vG=kS/\∃y,c=(none,y)/\1<=y/\y<=gM/\fu (arrOf kS) lo (lo+y)) x2 ?_ ?_ ⟨rfl,rfl,KG⟩) ?_)
   ·rintro y c vG y1 y2 ⟨rfl,rfl,hs⟩;refine wpS_bind (yU h0 Fw.base (by show lo+y<_;lia) (by show lo+y-1<_;omega) ?_)
    by_cases aW:Kk (arrOf vG) (lo+y)<Kk (arrOf vG) (lo+y-1)
    ·rw [eQ aW];exact wpS_pure ⟨rfl,y,rfl,by lia,by exact bx y2,hs⟩
    ·rw [eP aW];exact wpS_pure ⟨rfl,rfl,hs.snoc fun _=>Int.not_lt.mp aW⟩
   ·rintro c vG ⟨rfl,rfl,hs⟩;exact ⟨rfl,gM,rfl,h1,aF _,hs⟩
   ·rintro c vG ⟨rfl,y,rfl,y1,y2,hs⟩;exact wpS_pure (h y _ y1 y2 Fw hs)
  by_cases qW:jU>0
  ·refine fe (c:=jU>0) qW ?_;have hK:=IX (i:=lo+x-(jU+1)) hsz he;refine wpS_bind (wpS_reverse (jd () _ (hg.put (mirror_perm _ _ _ _) (fun m _=>hK m)) ?_));intro i j i1 i2 i3;show Kk (mirror (arrOf cD) _ _ _) j<=Kk (mirror (arrOf cD) _ _ _) i;rw [hK,hK];exact hd i j i1 i2 i3
  ·refine fb (c:=jU>0) qW ?_;exact jd () _ hg hd
 have hsz:lo+n<=(arrOf af).size:=by rw [hB.size];lia
 by_cases c2:n>1
 ·refine fe (c:=n>1) c2 ?_;refine wpS_bind (yU h0 hB (by lia) (by show lo+n-1<_;omega) ?_)
  by_cases hr:Kk (arrOf af) lo<Kk (arrOf af) (lo+n-1)
  ·rw [eQ hr];exact wpS_pure (h n _ n1 n2 (Go.refl hB) hs)
  ·rw [eP hr];have bP:∀k,lo<=k->k<lo+n->Kk (arrOf af) k=Kk (arrOf af) (lo+n-1):=fun k k1 k2=>by
    have a1:=hs lo k (aF _) k1 k2;have a2:=hs k (lo+n-1) k1 (by lia) (by omega);lia
   have hK:=IX hsz bP;refine wpS_bind (wpS_reverse (oh () _ ((Go.refl hB).put (mirror_perm _ _ _ _) (fun m _=>hK m)) ?_));have hd:Dec (arrOf af) lo (lo+n):=fun i j i1 i2 i3=>by rw [bP i i1 (by lia),bP j (by lia) i3];exact Int.le_refl _
   intro i j i1 i2 i3;show Kk (mirror (arrOf af) _ _ _) j<=Kk (mirror (arrOf af) _ _ _) i;rw [hK,hK];exact (hd.snoc fun _=>gm aW) i j i1 i2 (by omega)
 ·refine fb (c:=n>1) c2 ?_;obtain rfl:n=1:=by lia
  have hd:Dec (arrOf af) lo (lo+1):=fun i j i1 i2 i3=>by
   obtain rfl:i=j:=by lia
   exact Int.le_refl _
  exact oh () _ (Go.refl hB) (hd.snoc fun _=>gm aW)
end
section
variable [SK] {prog:Program} {w:World} {A:Around} {E:Value->Shared->Prop} {s:Shared} [gU prog w A E s] {st:SortSt} {a₀:Array Keyed}
theorem Wc {lo n ok:Nat} (h0:∀p,p∈a₀.toList->fY p) (hB:Bs a₀ st) (hn:lo+n<=a₀.size) (h1:1<=ok) (ae:ok<=n)
 (hs:fu (arrOf st) lo (lo+ok)) (h:∀af,Go a₀ lo st af->fu (arrOf af) lo (lo+n)->Q true af):
 wpS (model prog w) A E s (binarySort' lo n ok) Q st:=by
 refine wpS_bind (wpS_mono (DJ
  (I:=fun k c af=>c=(none,())/\Go a₀ lo st af/\fu (arrOf af) lo (lo+k))
  (Q:=fun c af=>c=(none,())/\Go a₀ lo st af/\fu (arrOf af) lo (lo+n)) (show max ok 1<=n by lia) ?_ ?_
  ⟨rfl,Go.refl hB,by rw [Nat.max_eq_left h1];exact hs⟩) ?_)
 ·rintro k c af k1 k2 ⟨rfl,hg,vU⟩;have hsz:lo+k<(arrOf af).size:=by rw [hg.base.size];lia
  refine wpS_bind (wpS_mono (se
   (I:=fun x c ba=>ba=af/\∃l r,c=(none,l,r)/\l<=r/\r<=k/\r-l<=k-x/\(∀i,i<l->Kk (arrOf af) (lo+i)<=Kk (arrOf af) (lo+k))/\
    ∀i,r<=i->i<k->Kk (arrOf af) (lo+k)<=Kk (arrOf af) (lo+i))
   (Q:=fun c ba=>ba=af/\∃l,c=(none,l,l)/\l<=k/\(∀i,i<l->Kk (arrOf af) (lo+i)<=Kk (arrOf af) (lo+k))/\
    ∀i,l<=i->i<k->Kk (arrOf af) (lo+k)<=Kk (arrOf af) (lo+i)) ?_ ?_ ⟨rfl,0,k,rfl,by lia,by exact Nat.le.refl,by exact Nat.le.refl,fun i hi=>by exact False.elim (sQ i hi),fun i i1 i2=>by lia⟩) ?_)
  ·rintro x c ba hx ⟨rfl,l,r,rfl,a1,a2,a3,a4,a5⟩;dsimp only
   by_cases kH:l>=r
   ·rw [if_pos kH];obtain rfl:l=r:=by lia
    exact wpS_pure ⟨rfl,l,rfl,a2,a4,a5⟩
   rw [if_neg kH];generalize hm:(l+r) / 2=m;refine wpS_bind (yU h0 hg.base (i:=lo+k) (j:=lo+m) (by lia) (by lia) ?_)
   by_cases aW:Kk (arrOf ba) (lo+k)<Kk (arrOf ba) (lo+m)
   ·rw [eQ aW];refine wpS_pure ⟨rfl,l,m,rfl,by lia,by lia,by omega,a4,fun i i1 i2=>?_⟩;exact jD (gm aW) (vU _ _ (by lia) (by lia) (by lia))
   ·rw [eP aW];refine wpS_pure ⟨rfl,m+1,r,rfl,by lia,by omega,by omega,fun i i1=>?_,a5⟩;exact jD (vU _ (lo+m) (by lia) (by lia) (by lia)) (Int.not_lt.mp aW)
  ·rintro c ba ⟨rfl,l,r,rfl,a1,a2,a3,a4,a5⟩;obtain rfl:l=r:=by lia
   exact ⟨rfl,l,rfl,a2,a4,a5⟩
  ·rintro c ba ⟨rfl,l,rfl,a2,a4,a5⟩;refine (fun (H:wpS (model prog w) A E s (do moveDown' (lo+k) (lo+l);pure (ForInStep.yield (none,()))) _ ba)=>H) ?_;rw [moveDown'_eq];have zM:=fun m=>Wn (d:=lo+k-(lo+l)) hsz (by omega) m;refine wpS_bind (wpS_modify (wpS_pure ⟨rfl,hg.put (bubble_perm _ _ _) (fun m hm=>?_),?_⟩))
   ·rw [zM,if_neg (by omega),if_neg (by omega)]
   ·intro i j i1 i2 i3;show Kk (bubble (arrOf ba) (lo+k) (lo+k-(lo+l))) i<=Kk (bubble (arrOf ba) (lo+k) (lo+k-(lo+l))) j;have low:∀m,lo<=m->m<lo+l->Kk (arrOf ba) m<=Kk (arrOf ba) (lo+k):=fun m m1 m2=>by
     have:=a4 (m-lo) (by lia);rwa [show lo+(m-lo)=m by lia] at this
    have high:∀m,lo+l<=m->m<lo+k->Kk (arrOf ba) (lo+k)<=Kk (arrOf ba) m:=fun m m1 m2=>by
     have:=a5 (m-lo) (by lia) (by lia);rwa [show lo+(m-lo)=m by lia] at this
    rw [zM,zM]
    repeat' split
    all_goals first
     | (exfalso;omega)
     | exact Int.le_refl _
     | exact low _ (by omega) (by omega)
     | exact high _ (by omega) (by lia)
     | exact vU _ _ (by omega) (by lia) (by lia)
 ·rintro c af ⟨hc,hg,vU⟩;exact ⟨hc,hg,vU⟩
 ·rintro c af ⟨rfl,hg,vU⟩;exact wpS_pure (h af hg vU)
end
noncomputable def Run [SK] (xs:Array Keyed):Nat->List (Nat×Nat×Nat)->Nat->Prop
 | s,[],e=>s=e
 | s,r::t,e=>r.1=s/\1<=r.2.1/\fu xs s (s+r.2.1)/\Run xs (s+r.2.1) t e
section run
variable [SK] {X Y:Array Keyed}
theorem Run.le:∀{rs s e},Run X s rs e->s+rs.length<=e
 | [],s,e,h=>by unfold Run at h;simp;lia
 | r::t,s,e,⟨_,h1,_,h2⟩=>by have:=h2.le;simp only [lT];lia
theorem Run.congr:∀{rs s e},Run X s rs e->(∀m,s<=m->m<e->Kk Y m=Kk X m)->Run Y s rs e
 | [],_,_,h,_=>h
 | r::t,s,e,⟨h0,h1,h2,h3⟩,hk=>by
  have:=h3.le;refine ⟨h0,h1,fun i j a1 a2 a3=>?_,h3.congr fun m m1 m2=>hk m (by lia) m2⟩;rw [hk i a1 (by lia),hk j (by lia) (by lia)];exact h2 i j a1 a2 a3
theorem Run.app:∀{l r s e},Run X s (l++r) e↔∃m,Run X s l m/\Run X m r e
 | [],r,s,e=>⟨fun h=>⟨s,rfl,h⟩,fun ⟨m,h1,h2⟩=>by unfold Run at h1;subst h1;exact h2⟩
 | a::l,r,s,e=>⟨fun ⟨h0,h1,h2,h3⟩=>by
  obtain ⟨m,a1,a2⟩:=Run.app.mp h3;exact ⟨m,⟨h0,h1,h2,a1⟩,a2⟩,fun ⟨m,⟨h0,h1,h2,h3⟩,h4⟩=>⟨h0,h1,h2,Run.app.mpr ⟨m,h3,h4⟩⟩⟩
theorem Run.same:∀{rs eM s e},Run X s rs e->rs.map (fun r=>(r.1,r.2.1))=eM.map (fun r=>(r.1,r.2.1))->Run X s eM e
 | [],[],_,_,h,_=>h
 | a::t,b::t',s,e,⟨h0,h1,h2,h3⟩,hm=>by
  simp only [fU,List.cons.injEq,Prod.mk.injEq] at hm;obtain ⟨⟨e1,e2⟩,e3⟩:=hm;refine ⟨e1▸h0,e2▸h1,e2▸h2,?_⟩;rw [<-e2];exact h3.same e3
 | [],_::_,_,_,_,hm=>by simp at hm
 | _::_,[],_,_,_,hm=>by simp at hm
end run
theorem Q9 {α β:Type} {f:α->α} {g:α->β} (h:∀x,g (f x)=g x):∀(l:List α) (i:Nat),(l.modify i f).map g=l.map g
 | [],i=>by simp
 | a::t,0=>by simp [h]
 | a::t,i+1=>by simp [Q9 h t i]
section
variable [SK] {prog:Program} {w:World} {A:Around} {E:Value->Shared->Prop} {s:Shared} [gU prog w A E s] {st:SortSt} {a₀:Array Keyed}
structure Pd (a₀:Array Keyed) (lo:Nat) (rs:List (Nat×Nat×Nat)) (st:SortSt):Prop where
 base:Bs a₀ st
 pend:pendingOf st=rs.toArray
 run:Run (arrOf st) 0 rs lo
 top:lo<=a₀.size
theorem OI {lo i:Nat} (h0:∀p,p∈a₀.toList->fY p) (hP:Pd a₀ lo rs st) (hi:i+1<rs.length)
 (h:∀eM af,Pd a₀ lo eM af->eM.length+1=rs.length->(∀m,lo<=m->Kk (arrOf af) m=Kk (arrOf st) m)->Q true af):
 wpS (model prog w) A E s (mergeAt' i) Q st:=by
 obtain ⟨L,r1,r2,T,e,hL⟩:∃L r1 r2 T,rs=L++r1::r2::T/\i=L.length:=by
  refine ⟨rs.take i,rs[i],rs[i+1],rs.drop (i+2),?_,by simp;lia⟩;rw [<-List.drop_eq_getElem_cons,<-List.drop_eq_getElem_cons,List.take_append_drop]
 obtain ⟨sa,na,p⟩:=r1;obtain ⟨sb,nb,p'⟩:=r2;have hr:=hP.run;rw [e] at hr;obtain ⟨m,hl,rfl,b1,b2,rfl,c1,c2,ht⟩:=Run.app.mp hr;dsimp only at b1 b2 c1 c2 ht;have t1:=ht.le;have t2:=hP.top;refine Vn h0 hP.base (e▸hP.pend) hL rfl b1 c1 (by lia) b2 c2 fun af d1 d2 d3 d4=>?_;refine h _ af ⟨d1,d2,Run.app.mpr ⟨sa,hl.congr fun m _ m2=>d4 m (.inl m2),rfl,by show 1<=na+nb;lia,?_,?_⟩,t2⟩ (by rw [e];simp;exact Eq.refl (L.length+(T.length+1)+1))
  (fun m m1=>d4 m (.inr (by lia)))
 ·show fu _ sa (sa+(na+nb));rw [<-Nat.add_assoc];exact d3
 ·show Run _ (sa+(na+nb)) T lo;rw [<-Nat.add_assoc];exact ht.congr fun m m1 _=>d4 m (.inr m1)
theorem We {Q:Unit->SortSt->Prop} (h0:∀p,p∈a₀.toList->fY p) (hB:Bs a₀ st) (hp:pendingOf st= #[]) (h2:2<=a₀.size)
 (h:∀af,(arrOf af).Perm a₀->failedOf af=none->fu (arrOf af) 0 a₀.size->Q () af):wpS (model prog w) A E s sortRuns' Q st:=by
 refine wpS_bind (wpS_get ?_);have Bx:=hB.size;refine wpS_bind (wpS_mono (se
  (I:=fun x c af=>∃lo rs,c=(none,lo)/\Pd a₀ lo rs af/\(x<=lo\/lo=a₀.size))
  (Q:=fun c af=>∃rs,c=(none,a₀.size)/\Pd a₀ a₀.size rs af) ?big ?yG ⟨0,[],rfl,⟨hB,hp,rfl,dM _⟩,.inl (aF _)⟩) ?after)
 case yG=>
  rintro c af ⟨lo,rs,rfl,hP,hx⟩;have:=hP.top
  change (arrOf st).size<=lo\/lo=a₀.size at hx
  obtain rfl:lo=a₀.size:=by lia
  exact ⟨rs,rfl,hP⟩
 case big=>
  rintro x c af hx ⟨lo,rs,rfl,hP,Ky⟩;refine (fun (H:wpS (model prog w) A E s (ite (lo>=(arrOf st).size) _ _) _ af)=>H) ?_
  by_cases c1:lo>=(arrOf st).size
  ·rw [if_pos c1];have:=hP.top;obtain rfl:lo=a₀.size:=by lia
   exact wpS_pure ⟨rs,rfl,hP⟩
  rw [if_neg c1];refine wpS_bind (W_ h0 hP.base (by show lo+((arrOf st).size-lo)<=_;lia) (by show 1<=(arrOf st).size-lo;lia) fun m ba m1 m2 hg hs=>?_)
  change m<=(arrOf st).size-lo at m2
  change Go a₀ lo af ba at hg
  change fu (arrOf ba) lo (lo+m) at hs
  have FC:Pd a₀ lo rs ba:=⟨hg.base,hg.pend.trans hP.pend,hP.run.congr fun m _ m2=>hg.low m m2,hP.top⟩;refine (fun (H:wpS (model prog w) A E s _ _ ba)=>H) ?_;dsimp-zeta only
  extract_lets-underBinder+onlyGivenNames n0 jp
  have oh:∀(u:Unit) n cD,1<=n->lo+n<=a₀.size->Pd a₀ lo rs cD->fu (arrOf cD) lo (lo+n)->
   wpS (model prog w) A E s (jp u n) (SQ (fun c af=>∃rs,c=(none,a₀.size)/\Pd a₀ a₀.size rs af)
    (fun c af=>∃lo rs,c=(none,lo)/\Pd a₀ lo rs af/\(x+1<=lo\/lo=a₀.size))) cD:=by
   intro u n cD n1 n2 SN qR;refine wpS_bind (wpS_get ?_)
   extract_lets-underBinder+onlyGivenNames xP
   have jd:∀(u:Unit) cJ eM,Pd a₀ lo eM cJ->fu (arrOf cJ) lo (lo+n)->
    wpS (model prog w) A E s (xP u) (SQ (fun c af=>∃rs,c=(none,a₀.size)/\Pd a₀ a₀.size rs af)
     (fun c af=>∃lo rs,c=(none,lo)/\Pd a₀ lo rs af/\(x+1<=lo\/lo=a₀.size))) cJ:=by
    intro u cJ eM gZ so;refine wpS_bind (wpS_modify (wpS_pure ⟨lo+n,eM++[(lo,n,0)],rfl,⟨⟨gZ.base.perm,gZ.base.kind,gZ.base.fail⟩,?_,?_,n2⟩,by lia⟩))
    ·show (pendingOf cJ).push (lo,n,0)=_;rw [gZ.pend];simp
    ·exact Run.app.mpr ⟨lo,gZ.run,rfl,n1,so,rfl⟩
   cases hb:(pendingOf cD).back? with
   | none=>
    exact jd () cD rs SN qR
   | some r=>
    obtain ⟨s1,l1,p1⟩:=r;refine wpS_bind (wpS_mono (se
     (I:=fun x c cJ=>c=(none,())/\∃eM,Pd a₀ lo eM cJ/\fu (arrOf cJ) lo (lo+n))
     (Q:=fun c cJ=>c=(none,())/\∃eM,Pd a₀ lo eM cJ/\fu (arrOf cJ) lo (lo+n)) ?_ (fun c cJ hh=>hh) ⟨rfl,rs,SN,qR⟩) ?_)
    ·rintro x' c cJ _ ⟨rfl,eM,gZ,so⟩;refine wpS_bind (wpS_get ?_);have hsz:(pendingOf cJ).size=eM.length:=by rw [gZ.pend];simp
     dsimp only
     by_cases c2:(pendingOf cJ).size>1
     ·rw [if_pos c2]
      cases hq:(pendingOf cJ)[(pendingOf cJ).size-2]? with
      | none=>exact wpS_pure ⟨rfl,eM,gZ,so⟩
      | some r=>
       obtain ⟨x1,x2,RH⟩:=r;dsimp only;split
       ·exact wpS_pure ⟨rfl,eM,gZ,so⟩
       ·refine wpS_bind (OI h0 gZ (by show (pendingOf cJ).size-2+1<_;lia) fun JS kS LI _ hk=>?_);refine wpS_pure ⟨rfl,JS,LI,fun i j i1 i2 i3=>?_⟩;rw [hk i i1,hk j (by lia)];exact so i j i1 i2 i3
     ·rw [if_neg c2];exact wpS_pure ⟨rfl,eM,gZ,so⟩
    ·rintro c cJ ⟨rfl,eM,gZ,so⟩;refine wpS_bind (wpS_modify (jd () _ (eM.modify (eM.length-1) fun r=>(r.1,r.2.1,power' (arrOf st).size (2*s1+l1) (2*s1+l1+l1+n) (arrOf st).size)) ⟨⟨gZ.base.perm,gZ.base.kind,gZ.base.fail⟩,?_,?_,gZ.top⟩ so))
     ·refine (fun (H:(pendingOf cJ).modify ((pendingOf cJ).size-1) (fun r=>(r.1,r.2.1,power' (arrOf st).size (2*s1+l1) (2*s1+l1+l1+n) (arrOf st).size))=_)=>H) ?_;rw [gZ.pend];apply Array.toList_inj.mp;simp
     ·exact gZ.run.same (Q9 (f:=fun r=>(r.1,r.2.1,power' (arrOf st).size (2*s1+l1) (2*s1+l1+l1+n) (arrOf st).size)) (fun _=>rfl) _ _).symm
  by_cases c2:m<minRun' (arrOf st).size (arrOf st).size 0
  ·refine fe (c:=m<minRun' (arrOf st).size (arrOf st).size 0) c2 ?_;refine wpS_bind (wpS_lift (wpAny_rule ⟨rfl,?_⟩));refine wpS_bind (Wc h0 hg.base (n:=min ((arrOf st).size-lo) (minRun' (arrOf st).size (arrOf st).size 0)) (by lia) m1 (by omega) hs fun cD Lw qR=>?_);exact oh () (min ((arrOf st).size-lo) (minRun' (arrOf st).size (arrOf st).size 0)) cD (by omega) (by lia) ⟨Lw.base,Lw.pend.trans FC.pend,FC.run.congr fun m _ m2=>Lw.low m m2,FC.top⟩ qR
  ·refine fb (c:=m<minRun' (arrOf st).size (arrOf st).size 0) c2 ?_;exact oh () m ba m1 (by lia) FC hs
 case after=>
  rintro c af ⟨rs,rfl,hP⟩;refine (fun (H:wpS (model prog w) A E s _ Q af)=>H) ?_;dsimp only;have hlen:=hP.run.le;refine wpS_bind (wpS_mono (se
   (I:=fun x c cJ=>c=(none,())/\∃eM,Pd a₀ a₀.size eM cJ/\(eM.length+x<=a₀.size\/eM.length<=1))
   (Q:=fun c cJ=>c=(none,())/\∃eM,Pd a₀ a₀.size eM cJ/\eM.length<=1) ?_ ?_ ⟨rfl,rs,hP,.inl (by lia)⟩) ?_)
  ·rintro x' c cJ _ ⟨rfl,eM,gZ,BF⟩;refine wpS_bind (wpS_get ?_);have hsz:(pendingOf cJ).size=eM.length:=by rw [gZ.pend];simp
   by_cases c2:(pendingOf cJ).size<=1
   ·rw [if_pos c2];exact wpS_pure ⟨rfl,eM,gZ,by lia⟩
   rw [if_neg c2];refine wpS_bind (OI h0 gZ ?_ fun JS kS LI Lk _=>wpS_pure ⟨rfl,JS,LI,by lia⟩);have key:∀j,j<=(pendingOf cJ).size-2->j+1<eM.length:=by lia
   refine key _ ?_
   repeat' split
   all_goals first
    | exact aF _
    | exact Nat.sub_le _ _
  ·rintro c cJ ⟨rfl,eM,gZ,BF⟩
   change eM.length+(arrOf st).size<=a₀.size\/eM.length<=1 at BF
   exact ⟨rfl,eM,gZ,by lia⟩
  ·rintro c cJ ⟨rfl,eM,gZ,BF⟩;refine wpS_pure (h cJ gZ.base.perm gZ.base.fail ?_);have hr:=gZ.run
   match eM,BF,hr with
   | [],_,hr=>unfold Run at hr;lia
   | [r],_,⟨_,_,e1,e2⟩=>
    unfold Run at e2;intro i j i0 i1 i2;exact e1 i j i0 i1 (by lia)
end
section
variable {prog:Program} {w:World} {k:Type} [DecidableEq k] {knd:KeyKind prog w k} {A:Around} {E:Value->Shared->Prop} {s:Shared}
theorem Ys (hh:A.handled=none) (hd:(d==sysModules)=false) (hm:s.heap.DictAt knd d kvs ep) (hn:kvs.length<=sizeLine)
 (hQ:∀s' acc,(∀b o,s.heap.get? b=some o->s'.heap.get? b=some o)->s'.gens=s.gens->s'.drawn=s.drawn->s'.os=s.os->s.toks<=s'.toks->
  ItemsOf (fun i v=>∃key x,kvs[i]?=some (key,x)/\knd.is key v=true) acc kvs.length->Q acc.toList s'):wpAny (model prog w) A (collect (.ref d)) Q E s:=by
 let L:Obj:={ cls:=.type "list",data:=.seq ([]:List Value).toArray }
 have BM:=hm.lt_size;have LH:s.heap.objs.size≠d:=Nat.ne_of_gt BM;unfold collect;refine aj (wpAny_runValue (codeAny_builtin F.entry_proto_collect ?_));rw [Around.under_plainId F.plain_proto_collect _];refine (show wpAny _ A.in1 (newList []>>=fun l=>again (.builtin "list.__iadd__" ⟨[l,.ref d],[]⟩)) _ _ s from aj (wpAny_newObj_type (bz ⟨plainId_quiet F.plain_list_iadd _,codeAny_builtin F.entry_list_iadd ?_⟩)));rw [Around.under_plainId F.plain_list_iadd _];have Fp:(s.heap.push L).DictAt knd d kvs ep:=hm.push _;have hT:({ s with heap:=s.heap.push L }:Shared).TypeIs (.ref d) "dict":=Fp.dictOf.typeIs (s:={ s with heap:=s.heap.push L });have hS:(s.heap.push L).get? s.heap.objs.size=some L:=jI _ rfl;refine (show wpAny _ A.in1 (Builtin.List.listExtendWith (.ref s.heap.objs.size) (.ref d) (.ref s.heap.objs.size)) _ _ { s with heap:=s.heap.push L } from ?_);unfold Builtin.List.listExtendWith;refine aj (wpAny_typeOf hT ?_);rw [if_neg (by rw [show Builtin.List.listSameRef (.ref s.heap.objs.size) (.ref d)=false by simp [Builtin.List.listSameRef,LH]];decide)];refine aj (wpAny_pyIter_dict hd Fp (aj (wpAny_holding ?_)));unfold Builtin.List.listLengthHint
 let I:Addr:=(s.heap.push L).objs.size
 let h2:Heap:=(s.heap.push L).push { cls:=.type "dict_keyiterator",data:=.fields #[.ref d,.int 0 0,.int kvs.length 0,.int ep 0] }
 have Lc:h2.DictAt knd d kvs ep:=Fp.push _;have LG:({ s with heap:=h2 }:Shared).TypeIs (.ref d) "dict":=Lc.dictOf.typeIs (s:={ s with heap:=h2 });refine aj (wpAny_specialOf (name:=Str.ofString "__len__") LG F.slot_dict_len.lookup ?_);generalize Lr:("dict.__len__":String)=Sa
 (fail_if_success (clear Lr Sa))
 wp_delta
 rw [show splitId Sa=some ("dict","__len__") from by subst Lr;decide+kernel];subst Lr;refine aj (wpAny_isInstance (b:=true) LG (by rw [isSubtype_type];kernel_rfl) ?_);rw [if_neg (by decide)];refine (fun (H:wpAny (model prog w) A.in1 (ite _ _ _) _ _ _)=>H) ?_;rw [if_pos (by decide+kernel)];refine aj (wpAny_typeOf LG (bz ?_));rw [if_pos (by decide+kernel)]
 let S:Addr:=s.heap.objs.size
 have SI:S≠I:=gG (show s.heap.objs.size<(s.heap.push L).objs.size by rw [size_push'];exact Nat.lt_succ_self _);have hdI:d≠I:=gG (show d<(s.heap.push L).objs.size by rw [size_push'];exact Nat.lt_succ_of_lt BM);have SM:h2.get? S=some L:=eI _ hS;have SJ:=Heap.get?_update_self (Obj.mapSeq (·.push Value.none)) SM rfl;have hS4:=Heap.get?_update_self (Obj.mapSeq (·.pop)) SJ rfl;have J':∀b o,b≠S->h2.get? b=some o->((h2.update S (Obj.mapSeq (·.push Value.none))).update S (Obj.mapSeq (·.pop))).get? b=some o:=
  fun b o hb e=>(Heap.get?_update_other _ _ (bp hb)).trans ((Heap.get?_update_other _ _ (bp hb)).trans e)
 have W:=(Walks.dictKeys (knd:=knd) (prog:=prog) (w:=w) (A:=A.in1) hh I d hdI kvs ep).toS;have Lq:h2.IsKeyIter I d 0 kvs.length ep:=⟨_,jI _ rfl,rfl,rfl⟩;refine aj (wpAny_rule (aj (show wpAny _ A.in1 (updateSeq S (·.push .none)>>=fun _=>updateSeq S (·.pop)) _ _ { s with heap:=h2 } from aj (wpAny_updateSeq (s:={ s with heap:=h2 }) SM rfl (wpAny_updateSeq (s:={ s with heap:=h2.update S (Obj.mapSeq (·.push Value.none)) }) SJ rfl ?_)))));refine bz ⟨plainId_quiet F.plain_extend_loop _,codeAny_extend_loopS W hn S (fun z=>(iJ.mp z).elim SI fun z=>LH (jw.mp z)) _ kvs.length 0 _ _ _ rfl (dM _)
  ⟨Lq.at fun o e=>J' _ _ (bp SI) e,Lc.at' fun o e=>J' _ _ (bp LH) e⟩ hS4 (ItemsOf.nil _) fun s' acc c BA hS' LF=>?_⟩
 refine (show wpAny _ A (load S>>=_) _ _ s' from aj (wpAny_load hS' (bz (hQ s' acc (fun b o e=>?_) BA.gens BA.drawn BA.os BA.toks LF))));have hb:b<s.heap.objs.size:=eg e;refine BA.heap b o (fun z=>?_) (J' b o (gG hb) (eI _ (eI _ e)));rcases iJ.mp z with z | z
 ·exact gG hb z
 ·have z:=jw.mp z;have e2:I=s.heap.objs.size+1:=size_push' _ _;exact pS _ (jv hb (by rw [z,e2];exact pV _))
end
theorem Pp (vs:List Value):(vs.toArray.zip vs.toArray).toList=vs.map fun v=>(v,v):=by
 rw [Array.toList_zip];show vs.zip vs=_
 induction vs with
 | nil=>rfl
 | cons v r ih=>simp [ih]
section
variable [SK] {prog:Program} {w:World} {A:Around} {E:Value->Shared->Prop} {s:Shared}
theorem HL (hp:X.Perm (vs.toArray.zip vs.toArray)) (hs:fu X 0 (vs.toArray.zip vs.toArray).size):
 (X.map (·.2)).toList.Perm vs/\(X.map (·.2)).toList.Pairwise fun u v=>N (u,u)<=N (v,v):=by
 have gy:=Array.perm_iff_toList_perm.mp hp;rw [Pp] at gy;have hsz:X.size=(vs.toArray.zip vs.toArray).size:=hp.size_eq;have v_:∀p∈X.toList,p=(p.2,p.2):=fun p hm=>by
  obtain ⟨v,_,rfl⟩:=gF.mp (gy.mem_iff.mp hm);rfl
 rw [Array.toList_map];refine ⟨by simpa [List.map_map,Function.comp_def] using gy.map (·.2),?_⟩;rw [List.pairwise_map,C7];intro i j hi hj gj;have mP:i<X.size:=by simpa using hi
 have jZ:j<X.size:=by simpa using hj
 have:=hs i j (dM _) (bx gj) (hsz▸jZ);rw [tq (getElem?_pos X i mP),tq (getElem?_pos X j jZ)] at this;rw [<-v_ _ (zT hi),<-v_ _ (zT hj)];exact this
theorem Yx {P:PySem.Fin->Shared->Prop} (ho:s.heap.get? a=some (seqObj "list" vs.toArray n)) (hz:vs.length<=sizeLine)
 (jc:2<=vs.length->∀(h':Heap) (Q:SortKind->Shared->Prop),(∀b o,b≠a->s.heap.get? b=some o->h'.get? b=some o)->Q SK.kind { s with heap:=h' }->
  wpAny (model prog w) A (keyKind' vs.toArray) Q E { s with heap:=h' })
 (aW:∀h':Heap,(∀b o,b≠a->s.heap.get? b=some o->h'.get? b=some o)->gU prog w A E { s with heap:=h' })
 (ae:∀v∈vs,fY (v,v))
 (h:∀out:Array Value,out.toList.Perm vs->(out.toList.Pairwise fun u v=>N (u,u)<=N (v,v))->P (.done (.ret .none)) { s with heap:=sortedHeap s.heap a vs out }):
 wpAny (model prog w) A (Builtin.«list.sort» ⟨[.ref a],[]⟩) P E s:=by
 rw [list_sort_plain];have ha:a<s.heap.objs.size:=eg ho;obtain ⟨e1,B8⟩:∃e1,(s.heap.update a (Obj.mapSeq fun _=> #[])).get? a=some (seqObj "list" #[] e1):=⟨_,get?_update_seq ho (fun _=> #[])⟩
 let h3:Heap:=((s.heap.update a (Obj.mapSeq fun _=> #[])).push (seqObj "tuple" vs.toArray 0)).push (seqObj "list" #[] 0)
 have keep:∀b o,b≠a->s.heap.get? b=some o->h3.get? b=some o:=fun b o hb e=>
  eI _ (eI _ ((Heap.get?_update_other _ _ (bp hb)).trans e))
 have Fo:h3.get? a=some (seqObj "list" #[] e1):=eI _ (eI _ B8);have hsz:vs.toArray.size=vs.length:=by simp
 refine aj (listItems_at ho rfl (aj (listUpdate_at ho rfl (aj (seqEpoch_at B8 rfl (aj (wpAny_newTuple (aj (wpAny_newList (wpAny_holding ?_) (dM _))) hz)))) (by rw [hsz];exact hz) (dM _))));have fin:∀af:SortSt,(arrOf af).Perm (vs.toArray.zip vs.toArray)->failedOf af=none->fu (arrOf af) 0 (vs.toArray.zip vs.toArray).size->
  wpAny (model prog w) A (do
   let touched:=(<-seqEpoch a) !=e1
   Builtin.List.listUpdate (.ref a) fun _=>(arrOf af).map (·.2)
   if let some e:=failedOf af then rule "list.sort.comparison-raised";throw e
   if touched then rule "list.sort.modified";raiseError "ValueError" "list modified during sort"
   ret .none) P E { s with heap:=h3 }:=by
  intro af hp hf hs;obtain ⟨o1,o2⟩:=HL hp hs;refine aj (seqEpoch_at Fo rfl (aj (listUpdate_at Fo rfl ?_ (dM _) ?_)))
  ·rw [hf];simp only [bne_self_eq_false,Bool.false_eq_true,if_false];exact bz (h _ o1 o2)
  ·have:=o1.length_eq;rw [rH] at this;exact Nat.le_succ_of_le (this▸hz)
 refine (show wpAny (model prog w) A _ P E { s with heap:=h3 } from ?_)
 by_cases h2:vs.toArray.size<2
 ·dsimp only;rw [if_pos h2,if_pos h2];refine aj (bz ?_);rw [StateT.run_pure];refine aj (bz (fin (SortSt.mk' general' (vs.toArray.zip vs.toArray) #[] 7 none) (Array.Perm.refl _) rfl ?_));intro i j _ gj hj;obtain rfl:i=j:=by simp at hj;lia
  exact Int.le_refl _
 ·dsimp only;rw [if_neg h2,if_neg h2];refine aj (jc (by lia) h3 _ keep ?_);have:=aW h3 keep;refine aj (wpAny_mono (We (s:={ s with heap:=h3 }) (a₀:=vs.toArray.zip vs.toArray) (st:=SortSt.mk' SK.kind (vs.toArray.zip vs.toArray) #[] 7 none)
   (Q:=fun _ af=>(arrOf af).Perm (vs.toArray.zip vs.toArray)/\failedOf af=none/\fu (arrOf af) 0 (vs.toArray.zip vs.toArray).size)
   (fun p hp=>?_) ⟨Array.Perm.refl _,rfl,rfl⟩ rfl (by simp;lia) fun af a1 a2 a3=>⟨a1,a2,a3⟩) ?_ fun _ _ e=>e)
  ·rw [Pp] at hp;obtain ⟨v,hv,rfl⟩:=gF.mp hp;exact ae v hv
  ·rintro ⟨⟨⟩,af⟩ s' ⟨rfl,hp,hf,hs⟩;exact fin af hp hf hs
end
section
variable {prog:Program} {w:World} {A:Around} {E:Value->Shared->Prop} {s:Shared}
theorem Qy {x:Value} {Q:Value->Shared->Prop} {R:Shared->List Value->Prop}
 (hc:wpAny (model prog w) A.in1 (collect x) (fun vs s1=>R s1 vs) E s)
 (h:∀s1 vs,R s1 vs->wpAny (model prog w) A.in1 (newList vs>>=fun l=>holding [l] (call (.builtin "list.sort") [l])>>=fun _=>ret l) (fun fin s'=>∃r,fin=.done (.ret r)/\Q r s') E s1):
 wpAny (model prog w) A (call (.builtin "sorted") [x]) Q E s:=by
 refine Calls.call_function_entry kind_sorted plain_sorted entry_sorted (args_sorted1 _) ?_;unfold Builtin.«sorted»;refine aj (m:=checkCount "sorted" 1 1 _) (bz ?_);refine aj (wpAny_mono hc (fun vs s1 hr=>h s1 vs hr) fun _ _ e=>e)
end
@[reducible] noncomputable def Bb:SK:=⟨fun p=>numOf p.1,fun p=>∃n t,p.1=.int n t,oneType'⟩
theorem ltI {w:World}: @gU Bb prog w A E s:=by
 refine @gU.mk Bb prog w A E s ?_;rintro st p q Q hk ⟨n,t,hp⟩ ⟨n',t',hq⟩ h;have e1: @N Bb p=n:=by show numOf p.1=n;rw [hp];rfl
 have e2: @N Bb q=n':=by show numOf q.1=n';rw [hq];rfl
 rw [e1,e2] at h;rw [lt'_eq,hp,hq];refine wpS_bind (wpS_get ?_);rw [show kindOf st=oneType' from hk,keyLt'_oneType];exact wpS_bind (wpS_lift (wpAny_attempt (oneLt_int ⟨rfl,wpS_pure h⟩)))
theorem UG {w:World} (hI:IntsAre vs ns) (h2:2<=vs.length) (h:Q oneType' s):wpAny (model prog w) A (keyKind' vs.toArray) Q E s:=by
 match vs,h2,hI with
 | ZT::ZS::r,_,hI=>rw [keyKind_ints hI];exact bz h
section
variable [SK] {prog:Program} {w:World} {A:Around} {E:Value->Shared->Prop} {s:Shared}
theorem Pb {vs:List Value} {Q:Value->Shared->Prop} (hz:vs.length<=sizeLine)
 (jc:2<=vs.length->∀(A:Around) (E:Value->Shared->Prop) (h':Heap) (Q:SortKind->Shared->Prop),(∀b o,s.heap.get? b=some o->h'.get? b=some o)->Q SK.kind { s with heap:=h' }->
  wpAny (model prog w) A (keyKind' vs.toArray) Q E { s with heap:=h' })
 (aW:∀(A:Around) (E:Value->Shared->Prop) (h':Heap),(∀b o,s.heap.get? b=some o->h'.get? b=some o)->gU prog w A E { s with heap:=h' })
 (ae:∀v∈vs,fY (v,v))
 (h:∀(out:Array Value) (h':Heap),out.toList.Perm vs->(out.toList.Pairwise fun u v=>N (u,u)<=N (v,v))->(∀b o,s.heap.get? b=some o->h'.get? b=some o)->
  (∃e,h'.get? s.heap.objs.size=some (seqObj "list" out e))->Q (.ref s.heap.objs.size) { s with heap:=h' }):
 wpAny (model prog w) A (newList vs>>=fun l=>holding [l] (call (.builtin "list.sort") [l])>>=fun _=>ret l) (fun fin s'=>∃r,fin=.done (.ret r)/\Q r s') E s:=by
 let h1:Heap:=s.heap.push (seqObj "list" vs.toArray 0)
 have B7:h1.get? s.heap.objs.size=some (seqObj "list" vs.toArray 0):=jI _ rfl;have up:∀(h':Heap),(∀b o,b≠s.heap.objs.size->h1.get? b=some o->h'.get? b=some o)->∀b o,s.heap.get? b=some o->h'.get? b=some o:=fun h' hk b o e=>
  hk b o (gG (eg e)) (eI _ e)
 refine aj (wpAny_newList ?_ hz);refine aj (wpAny_holding (wpAny_call_entry (s:={ s with heap:=h1 }) slot_list_sort ⟨_,B7,rfl⟩ entry_list_sort (Yx B7 hz (fun h2 h' Q hk hq=>jc h2 _ _ h' Q (up h' hk) hq) (fun h' hk=>aW _ _ h' (up h' hk)) ae fun out o1 o2=>⟨_,rfl,?_⟩) (args_list_sort _)));refine bz ⟨_,rfl,h out _ o1 o2 (fun b o e=>?_) (sortedHeap_at B7)⟩;have hb:b<s.heap.objs.size:=eg e;rw [sortedHeap_old (gG hb) (show b<h1.objs.size by show b<(s.heap.push _).objs.size;rw [size_push'];exact Nat.lt_succ_of_lt hb)];exact eI _ e
end
end TS
namespace L2
open PySem PySem.Spec PyProof.Rows TS
theorem OV:∀{us:List Value} {ns:List Int},us.length=ns.length->(∀(j:Nat) v i,us[j]?=some v->ns[j]?=some i->∃t,v=.int i t)->IntsAre us ns
 | [],[],_,_=>.nil
 | u::us,n::ns,hl,h=>by
  obtain ⟨t,rfl⟩:=h 0 u n rfl rfl;exact .cons _ _ (OV (by simpa using hl) fun j v i e1 e2=>h (j+1) v i (by simpa using e1) (by simpa using e2))
 | [],_::_,hl,_=>by simp at hl
 | _::_,[],hl,_=>by simp at hl
theorem AN:∀{us:List Value} {ns:List Int},IntsAre us ns->us.map numOf=ns/\∀u∈us,∃n t,u=.int n t
 | _,_,.nil=>⟨rfl,fun _ h=>nomatch h⟩
 | _,_,.cons n t h=>by
  obtain ⟨a,b⟩:=AN h;refine ⟨by rw [fU,a];rfl,fun u hu=>?_⟩;rcases iJ.mp hu with rfl | hu
  ·exact ⟨n,t,rfl⟩
  ·exact b u hu
theorem PZ:∀{us:List Value},(∀u∈us,∃n t,u=.int n t)->bw ((us.map numOf).map V.int) us
 | [],_=>.nil
 | u::us,h=>by
  obtain ⟨n,t,rfl⟩:=h u iu;exact .cons ⟨t,rfl⟩ (PZ fun v hv=>h v (jl _ hv))
theorem Inv.at_ (I:Inv X pins σ H s) (k:∀b o,s.heap.get? b=some o->s1.heap.get? b=some o) (hg:s1.gens=s.gens) (hd:s1.drawn=s.drawn) (ho:s1.os=s.os):Inv X pins σ H s1:=by
 have e:s1={ s with heap:=s1.heap,toks:=s1.toks }:=by
  obtain ⟨h1,g1,d1,t1,o1⟩:=s1;cases hg;cases hd;cases ho;rfl
 rw [e];exact I.kept (t':=s1.toks) k
section
variable {X:Cx}
theorem Yj (hc:X.calm=true):qd X (.builtin "sorted") (fun xs H Q=>∃(p:Addr) (kvs:List (Key×V)) (ns:List Int),xs=[.ref p]/\H p=some (.dK kvs)/\kvs.map (·.1)=ns.map Sum.inl/\
 ∀(l:Addr) (pE:List Int),H l=none->pE.Perm ns->pE.Pairwise (·<=·)->Q (.ref l) (upd H l (.lst (pE.map V.int)))):=by
 intro pins s σ H xs us Q I r h;obtain ⟨p,kvs,ns,rfl,hp,qV,q⟩:=h;obtain ⟨u,rfl,ru⟩:=vc r;cases ru;obtain ⟨hz,hs,vs,hv,hD⟩:=(show fv X.prog X.w H s.heap p (.dK kvs) from I.ae p _ hp);obtain ⟨ep,gb⟩:=hD.dictAt;have hlv:kvs.length=vs.length:=Paired.length hv;have hln:kvs.length=ns.length:=by have:=congrArg List.length qV;simpa using this
 refine Qy (R:=fun s1 us=>Inv X pins σ H s1/\(∀b o,s.heap.get? b=some o->s1.heap.get? b=some o)/\IntsAre us ns) (Ys (I.ok.hd hc) hs gb (by lia) fun s1 acc k hg hd ho ht hi=>?_) ?_
 ·refine ⟨I.at_ k hg hd ho,k,OV (by rw [rH,hi.1];lia) fun j v i e1 e2=>?_⟩;obtain ⟨key,x,g1,g2⟩:=hi.2 j v (by simpa using e1);have hk:(kvs.map (·.1))[j]?=some (Sum.inl i):=by rw [qV,dt,e2];rfl
  rw [dt] at hk
  cases ef:kvs[j]? with
  | none=>rw [ef] at hk;cases hk
  | some kv=>
   rw [ef] at hk;obtain ⟨y,hy,ey,_⟩:=IL hv ef;rw [g1] at hy;cases hy;have e:kv.1=Sum.inl i:=gn hk;rw [e] at ey;subst ey;rcases qk (show va (Sum.inl i) v=true from g2) with ⟨i',t,e3,rfl⟩ | ⟨x',t,e3,rfl⟩
   ·cases e3;exact ⟨t,rfl⟩
   ·cases e3
 ·rintro s1 us ⟨I1,k1,hI⟩;have zF:us.length=ns.length:=by rw [<-(AN hI).1];simp
  refine @Pb Bb X.prog X.w _ _ s1 us _ (by lia) (fun h2 A E h' Q hk hq=>UG (s:={ s1 with heap:=h' }) hI h2 hq) (fun A E h' hk=>ltI) (fun v hv=>?_) fun out h' o1 o2 k2 he=>?_
  ·obtain ⟨n,t,e⟩:=(AN hI).2 v hv;exact ⟨n,t,e⟩
  ·obtain ⟨e,he⟩:=he;have bP:∀u∈out.toList,∃n t,u=Value.int n t:=fun u hu=>(AN hI).2 u (o1.mem_iff.mp hu);have fr:H s1.heap.objs.size=none:=I1.ae.fresh (aF _);have qT:(out.toList.map numOf).Perm ns:=by rw [<-(AN hI).1];exact o1.map numOf
   refine ⟨.ref s1.heap.objs.size,_,I1.laid (t':=s1.toks) k2 (aF _) (show fv X.prog X.w _ h' _ (.lst ((out.toList.map numOf).map V.int)) from ⟨?_,out.toList,e,PZ bP,by rw [he]⟩),rfl,q _ _ fr qT ?_⟩
   ·rw [a7,qT.length_eq];lia
   ·rw [List.pairwise_map];exact o2
end
noncomputable def vE (a b m:Int):HO:=.tup [.int a,.int b,.int m]
noncomputable def zS (H:Hp):Value->Int
 | .ref q=>match H q with
  | some (.tup [.int a,.int b,_])=>a*64+b
  | _=>0
 | _=>0
@[reducible] noncomputable def vI (H:Hp) (g:Int->Int->Int):SK:=
 ⟨fun p=>zS H p.1,fun p=>∃q a b,p.1=.ref q/\H q=some (vE a b (g a b))/\0<=a/\a<64/\0<=b/\b<64,tuples' true⟩
theorem Dw (h:H q=some (vE a b m)):zS H (.ref q)=a*64+b:=by
 show (match H q with | some (.tup [.int a,.int b,_])=>a*64+b | _=>0)=_;rw [h];rfl
section
variable {prog:Program} {w:World} {A:Around} {E:Value->Shared->Prop} {s:Shared} {H:Hp} {g:Int->Int->Int}
noncomputable def w9 (H:Hp) (h:Heap):Prop:=∀q a b m,H q=some (vE a b m)->∃t1 t2 t3 o n,h.get? q=some o/\o.cls=.type "tuple"/\o.data=.seq #[.int a t1,.int b t2,.int m t3] n
theorem w9.keep (x:w9 H h) (k:∀b o,h.get? b=some o->h'.get? b=some o):w9 H h':=fun q a b m e=>
 let ⟨t1,t2,t3,o,n,e1,e2⟩:=x q a b m e;⟨t1,t2,t3,o,n,k _ _ e1,e2⟩
theorem V' {P:Program} {w:World} (ok:d_ P w H h):w9 H h:=fun q a b m e=>by
 obtain ⟨_,its,hv,o,e1,e2,n,e3⟩:=(show fv P w H h q (vE a b m) from ok q _ e);rcases hv with _ | ⟨⟨t1,rfl⟩,hv⟩;rcases hv with _ | ⟨⟨t2,rfl⟩,hv⟩;rcases hv with _ | ⟨⟨t3,rfl⟩,hv⟩;cases hv;exact ⟨t1,t2,t3,o,n,e1,e2,e3⟩
theorem ltT (ht:w9 H s.heap): @gU (vI H g) prog w A E s:=by
 refine @gU.mk (vI H g) prog w A E s ?_;rintro st p q Q hk ⟨x,a,b,hp,hx,a0,a1,b0,b1⟩ ⟨y,a',b',hq,hy,a0',a1',b0',b1'⟩ h;have e1: @N (vI H g) p=a*64+b:=by show zS H p.1=_;rw [hp,Dw hx]
 have e2: @N (vI H g) q=a'*64+b':=by show zS H q.1=_;rw [hq,Dw hy]
 rw [e1,e2] at h;obtain ⟨t1,t2,t3,ox,n,ox1,_,ox2⟩:=ht x _ _ _ hx;obtain ⟨u1,u2,u3,oy,n',oy1,_,oy2⟩:=ht y _ _ _ hy;rw [lt'_eq,hp,hq];refine wpS_bind (wpS_get ?_);rw [show kindOf st=tuples' true from hk];refine wpS_bind (wpS_lift (wpAny_attempt (PySem.W.kat_lt ox1 ox2 oy1 oy2 ?_)));show PySem.W.KatLex prog w A true (decide (3<3)) _ [(.int a t1,.int a' u1),(.int b t2,.int b' u2),(.int (g a b) t3,.int (g a' b') u3)] 0 s;refine PySem.W.kat_cons (wpAny_eqBool_int (PySem.W.kat_go (fun e=>PySem.W.kat_yes ?_) fun e=>PySem.W.kat_no ?_))
 ·have ea:a=a':=by simpa using e
  subst ea;refine PySem.W.kat_cons (wpAny_eqBool_int (PySem.W.kat_go (fun e=>PySem.W.kat_yes ?_) fun e=>PySem.W.kat_no ?_))
  ·have eb:b=b':=by simpa using e
   subst eb;refine PySem.W.kat_cons (wpAny_eqBool_int (PySem.W.kat_go (fun e=>PySem.W.kat_yes (PySem.W.kat_nil ⟨rfl,wpS_pure ?_⟩)) fun e=>absurd e (by simp)));have:decide (a*64+b<a*64+b)=decide (3<3):=by simp
   rw [<-this];exact h
  ·have:decide (a*64+b<a*64+b')=decide (b<b'):=by
    by_cases hb:b<b'
    ·rw [eQ hb,eQ (by lia)]
    ·rw [eP hb,eP (by lia)]
   rw [this] at h;exact PySem.W.kat_one _ _ (lt_int (show _ from ⟨rfl,wpS_pure h⟩))
 ·have ea:a≠a':=by simpa using e
  have:decide (a*64+b<a'*64+b')=decide (a<a'):=by
   by_cases hb:a<a'
   ·rw [eQ hb,eQ (by lia)]
   ·rw [eP hb,eP (by lia)]
  rw [this] at h;exact oneLt_int ⟨rfl,wpS_pure h⟩
theorem UH (ht:w9 H s.heap) {vs:List Value} {Q:SortKind->Shared->Prop} (hv:∀v∈vs,@fY (vI H g) (v,v)) (h2:2<=vs.length) (h:Q (tuples' true) s):wpAny (model prog w) A (keyKind' vs.toArray) Q E s:=by
 have key:∀l:List Value,(∀v∈l,@fY (vI H g) (v,v))->∃fs,PySem.W.KatTups s.heap l fs/\fs.length=l.length/\∀f∈fs,∃n t,f=Value.int n t:=by
  intro l
  induction l with
  | nil=>exact fun _=>⟨[],PySem.W.KatTups.nil,rfl,fun _ h=>nomatch h⟩
  | cons v r ih=>
   intro hl;obtain ⟨fs,k1,k2,k3⟩:=ih fun v hv=>hl v (jl _ hv);obtain ⟨q,a,b,e,hq,_⟩:=hl v iu;obtain rfl:v=.ref q:=e;obtain ⟨t1,t2,t3,o,n,e1,e2,e3⟩:=ht q _ _ _ hq;refine ⟨.int a t1::fs,PySem.W.KatTups.cons e1 e2 e3 rfl k1,by simp [k2],fun f hf=>?_⟩;rcases iJ.mp hf with rfl | hf
   ·exact ⟨a,t1,rfl⟩
   ·exact k3 f hf
 obtain ⟨fs,k1,k2,k3⟩:=key vs hv;exact PySem.W.kat_kind (T:=.type "int") k1 (by lia) (fun v hv=>by obtain ⟨n,t,rfl⟩:=k3 v hv;exact PySem.W.Looks.of_pure rfl) (by decide) h
end
section
variable {X:Cx}
theorem NP:∀{ps:List Addr} {us:List Value},bw (ps.map V.ref) us->us=ps.map Value.ref
 | [],_,.nil=>rfl
 | p::ps,_,.cons r t=>by
  have e:=NP t;cases r;rw [fU,e]
theorem P':∀(ps:List Addr),bw (ps.map V.ref) (ps.map Value.ref)
 | []=>.nil
 | p::ps=>.cons rfl (P' ps)
theorem Yr:qd X (.builtin "sorted") (fun xs H Q=>∃(p:Addr) (ps:List Addr) (g:Int->Int->Int),xs=[.ref p]/\H p=some (.lst (ps.map V.ref))/\
 (∀q∈ps,∃a b,H q=some (vE a b (g a b))/\0<=a/\a<64/\0<=b/\b<64)/\
 ∀(l:Addr) (dA:List Addr),H l=none->dA.Perm ps->(dA.Pairwise fun x y=>zS H (.ref x)<=zS H (.ref y))->Q (.ref l) (upd H l (.lst (dA.map V.ref)))):=by
 intro pins s σ H xs us Q I r h;obtain ⟨p,ps,g,rfl,hp,jr,q⟩:=h;obtain ⟨u,rfl,ru⟩:=vc r;cases ru;obtain ⟨hz,its,n,rv,e0⟩:=(show fv X.prog X.w H s.heap p (.lst (ps.map V.ref)) from I.ae p _ hp);rw [a7] at hz;obtain rfl:=NP rv;refine Qy (R:=fun s1 us=>Inv X pins σ H s1/\us=ps.map Value.ref) (collect_list (vs:=ps.map Value.ref) ⟨_,e0,rfl,n,rfl⟩ ⟨I.at_ (s1:={ s with heap:=_ }) (fun b o e=>?_) rfl rfl rfl,rfl⟩ (by simpa using hz)) ?_
 ·have hb:b<s.heap.objs.size:=eg e;rw [Heap.get?_update_ne _ _ _ _ (gG hb)];exact eI _ e
 ·rintro s1 us ⟨I1,rfl⟩;have ht:w9 H s1.heap:=V' I1.ae;have ae:∀v∈ps.map Value.ref,@fY (vI H g) (v,v):=fun v hv=>by
   obtain ⟨x,hx,rfl⟩:=gF.mp hv;obtain ⟨a,b,h1,h2⟩:=jr x hx;exact ⟨x,a,b,rfl,h1,h2⟩
  refine @Pb (vI H g) X.prog X.w _ _ s1 _ _ (by simpa using hz) (fun h2 A E h' Q hk hq=>UH (s:={ s1 with heap:=h' }) (ht.keep hk) ae h2 hq) (fun A E h' hk=>ltT (s:={ s1 with heap:=h' }) (ht.keep hk)) ae fun out h' o1 o2 k2 he=>?_;obtain ⟨e,he⟩:=he;obtain ⟨dA,lr⟩:∃dA:List Addr,out.toList=dA.map Value.ref:=by
   have:∀l:List Value,(∀v∈l,v∈ps.map Value.ref)->∃dA:List Addr,l=dA.map Value.ref:=by
    intro l
    induction l with
    | nil=>exact fun _=>⟨[],rfl⟩
    | cons v r ih=>
     intro hl;obtain ⟨dA,e⟩:=ih fun v hv=>hl v (jl _ hv);obtain ⟨x,_,e1⟩:=gF.mp (hl v iu);exact ⟨x::dA,by rw [fU,e,e1]⟩
   exact this _ fun v hv=>o1.mem_iff.mp hv
  rw [lr] at o1 o2;have hinj:Function.Injective Value.ref:=fun a b e=>by cases e;rfl
  have qT:dA.Perm ps:=by
   have:=o1.map (fun v:Value=>match v with | .ref a=>a | _=>0);simpa [List.map_map,Function.comp_def] using this
  have fr:H s1.heap.objs.size=none:=I1.ae.fresh (aF _);refine ⟨.ref s1.heap.objs.size,_,I1.laid (t':=s1.toks) k2 (aF _) (show fv X.prog X.w _ h' _ (.lst (dA.map V.ref)) from ⟨?_,out.toList,e,by rw [lr];exact P' dA,by rw [he]⟩),rfl,q _ _ fr qT ?_⟩
  ·rw [a7,qT.length_eq];exact hz
  ·rw [List.pairwise_map] at o2;exact o2
end
open PySem PySem.Spec PyProof.Rows
noncomputable def TM:V->Option Int->Option Int->Hp->VK->Prop:=fun x lo hi H Q=>∃a xs,x=.ref a/\H a=some (.tup xs)/\
 ¬(HT.cE xs.length 0 lo=0/\HT.cE xs.length xs.length hi=xs.length)/\∀p,H p=none->Q (.ref p) (upd H p (.tup (o3 xs lo hi)))
theorem Wl:GV X TM:=by
 intro pins s σ H x v vl vu lo hi sl Q I rx hs pl pu h;obtain ⟨a,xs,e,h1,h2,q⟩:=h;exact Dl pins s σ H x v vl vu lo hi sl Q I rx hs pl pu ⟨a,xs,e,dz.of h1,h2,q⟩
end L2
namespace Y0
open PySem L2
seal L2.PE L2.PA L2.PT L2.PS L2.gS L2.PG L2.lX L2.PI L2.PO
noncomputable abbrev lW:=Nat×Nat×Int
noncomputable def iB (H:Hp) (q:Addr) (x:lW):Prop:=H q=some (vE x.1 x.2.1 x.2.2)
theorem iB.same (h:iB H q x) (s:aM H H'):iB H' q x:=s _ _ h
noncomputable def uW (H:Hp) (q:Addr):lW:=match H q with
 | some (.tup [.int a,.int b,.int v])=>(a.toNat,b.toNat,v)
 | _=>(0,0,0)
theorem NK (h:iB H q x):uW H q=x:=by
 unfold uW;rw [h];obtain ⟨a,b,v⟩:=x;rfl
theorem Pl:∀{ps:List Addr} {L:List lW},Paired (iB H) ps L->L=ps.map (uW H)
 | _,_,.nil=>rfl
 | _,_,.cons r t=>by rw [fU,<-Pl t,NK r]
theorem OF:∀{ps:List Addr},(∀q∈ps,iB H q (uW H q))->Paired (iB H) ps (ps.map (uW H))
 | [],_=>.nil
 | q::ps,h=>.cons (h q iu) (OF fun r hr=>h r (jl _ hr))
theorem Qu:∀{l:List α} {m:List β},Paired F l m->∀x∈l,∃y∈m,F x y
 | _,_,.nil,_,h=>nomatch h
 | _,_,.cons r t,x,h=>by
  rcases iJ.mp h with rfl | h
  ·exact ⟨_,iu,r⟩
  ·obtain ⟨y,hy,ry⟩:=Qu t x h;exact ⟨y,jl _ hy,ry⟩
noncomputable def wA (st:MU.St) (t:Bool) (k:MU.Key):Option lW:=if k.1=t then (MU.val st k).map fun v=>(k.2.1,k.2.2,v) else none
structure ni (st:MU.St) (t:Bool) (L:List lW):Prop where
 up:L.Pairwise fun x y=>((x.1:Int)*64+x.2.1)<=((y.1:Int)*64+y.2.1)
 has:∀a b v,(a,b,v)∈L↔MU.val st (t,a,b)=some v
 once:(L.map fun x=>(x.1,x.2.1)).Nodup
noncomputable def Nv (C:Addr):Sp:=fun vs H Q _=>∃(p be rl bd:Addr) (n:Nat) (F:MU.cv) (st:MU.St) (t:Bool),vs=[.ref p,.str (me t)]/\gp C H p be rl bd n F st/\MU.cy n st/\n<=8/\st.rows.length<=16500000/\
 ∀l H' ps L,H l=none->aM H H'->H' l=some (.lst (ps.map V.ref))->Paired (iB H') ps L->ni st t L->Q (.ref l) H'
theorem Vz {kvs:List (List Key×V)} (h:∀kv∈kvs,∃k:MU.Key,kv.1=cH k):∃ks:List MU.Key,kvs.map (·.1)=ks.map cH:=by
 induction kvs with
 | nil=>exact ⟨[],rfl⟩
 | cons kv r ih=>
  obtain ⟨ks,e⟩:=ih fun kv ef=>h kv (jl _ ef);obtain ⟨k,e1⟩:=h kv iu;exact ⟨k::ks,by rw [fU,fU,e,e1]⟩
theorem Zh:o3 (lG x) (some 1) none=[V.int (x.a:Int),V.int (x.b:Int),V.int x.v]:=by
 unfold o3 lG;rw [HT.i_,show (some (1:Int))=some ((1:Nat):Int) from rfl,HT.gL];rfl
theorem UY:¬(HT.cE (lG x).length 0 (some 1)=0/\HT.cE (lG x).length (lG x).length none=(lG x).length):=fun z=>by
 have h:=z.1;rw [show (some (1:Int))=some ((1:Nat):Int) from rfl,HT.gL] at h;have e:(lG x).length=4:=rfl;rw [e] at h;cases h
theorem QF:∀{l:List α},(l.map f).Nodup->l.Nodup
 | [],_=>List.nodup_nil
 | a::l,h=>by
  rw [fU,List.nodup_cons] at h;exact List.nodup_cons.mpr ⟨fun z=>h.1 (List.mem_map_of_mem z),QF h.2⟩
theorem UE:decide (V.str (me a)=V.str (me b))=decide (a=b):=decide_eq_decide.mpr ⟨fun q=>P7 (V.str.inj q),fun q=>by rw [q]⟩
theorem Zz:cF ["self","kind"] ["self","kind"] (aZ aG):=cT
theorem Y':i7 (aZ aG) ["self","kind"] (kh [(".0",.local),("key",.local),("kind",.free),("self",.free)]) ["key","kind","self"] [none,some 1,some 0]:=kj
theorem YL:(["key","kind","self"]:List Str).Nodup:=by decide+kernel
theorem uo {f C:Addr} {fd:FuncData} (F:gc K "best_drawn" "Closing.best_drawn" aG f fd) (T:ph K mg C) (hS:mg "sorted"=none):aw P w K mg base ax 1 f fd ["self","kind"] (Nv C):=by
 refine F.ok Zz (fun _ _ _ _ h=>?_) fun _ A _ s H _ Q E hr h=>?_
 ·obtain ⟨_,_,_,_,_,_,_,_,rfl,_⟩:=h;rfl
 ·obtain ⟨p,be,rl,bd,n,Fa,st,t,rfl,c,g,h8,hlen,k⟩:=h;have hu:=jK hr;refine ⟨_,az (c7 (kE Yr (by rfl) hS PyProof.Rows.boot_sorted (cw (OC (o5 rfl (VF (cS (pv 0) rfl)) Y' (fun cl ex s0 H0=>⟨cj 0 YL,pA (cV fw (aE (pv 0)) (pv 1)),AG Wl (aE (cW df (t8 (K:=K) rfl (pv 2) rfl) (kD hu (t8 (K:=K) rfl (pv 2) rfl) (pv 0) (fun _ _=>rfl)) (fun _ _=>rfl))) (A9 aH) A8⟩)))))),?_⟩;obtain ⟨dx,hp⟩:=c.ins;obtain ⟨qs,gx,cz⟩:=c.rows;obtain ⟨kvs,f_,pK,ef⟩:=c.best;obtain ⟨ks,BH⟩:=Vz pK.2;have hkn:kvs.length=ks.length:=by have:=congrArg List.length BH;simpa using this
  refine ⟨_,rfl,p,C,dx,_,_,rfl,hp,T.cl,T.nE,rR,bd,kvs,rfl,f_,fun mC o Da dh=>?_⟩;rw [BH] at mC;have knd:ks.Nodup:=QF mC;have known:∀kk∈ks,∃j x,st.best kk=some j/\MU.ah st j=some x/\x.key=kk:=fun kk hk=>by
   have:(eK kvs (cH kk)).isSome=true:=by
    rw [<-wX];have hm:cH kk∈kvs.map (·.1):=by rw [BH];exact List.mem_map_of_mem hk
    obtain ⟨kv,h1,h2⟩:=gF.mp hm;exact List.any_eq_true.mpr ⟨kv,h1,by simpa using h2⟩
   rw [ef] at this
   cases hb:st.best kk with
   | none=>rw [hb] at this;cases this
   | some j=>
    obtain ⟨x,h1,h2⟩:=g.at_ _ _ hb;exact ⟨j,x,rfl,h1,h2⟩
  have Tq:bd≠p:=aQ f_ hp nofun;have bdr:bd≠rl:=aQ f_ gx nofun;have TF:Da≠bd:=fun z=>by rw [z,aq] at dh;cases dh
  have SU:H Da=none:=by rwa [au TF] at dh
  refine Xw (a:=bd) (o:=o) (kvs:=kvs) (fun i aa H'=>∃v ps L,aa=[v,some (.str (me t)),some (.ref p)]/\H' Da=some (.lst (ps.map V.ref))/\Paired (iB H') ps L/\L=(ks.take i).filterMap (wA st t)/\ps.length<=i/\H' bd=some (.dB o (.dT kvs))/\∀b x,H b=some x->b≠bd->H' b=some x)
   ⟨none,[],[],rfl,aq,.nil,rfl,dM _,by rw [au (bp TF),aq],fun b x e ne=>by rw [au (aO e SU),au ne];exact e⟩ ?_ ?_ ?_
  ·rintro i aa H2 _ ⟨v,ps,L,rfl,_,_,_,_,e,_⟩;exact e
  ·rintro i kx vx q aa H2 hi hq ⟨v,ps,L,rfl,e2,jr,hL,gy,eb,kp⟩;obtain ⟨kk,Lo,rfl⟩:∃kk,ks[i]?=some kk/\kx=cH kk:=by
    have:=congrArg (fun l=>l[i]?) BH;simp only [dt,hi] at this
    cases hk:ks[i]? with
    | none=>rw [hk] at this;cases this
    | some kk=>rw [hk] at this;exact ⟨kk,rfl,gn this⟩
   have hil:i<ks.length:=(ff.mp Lo).1;have et:ks.take (i+1)=ks.take i++[kk]:=by rw [jC,Lo];rfl
   obtain ⟨tt,a,b⟩:=kk;obtain ⟨j,x,rb,hx,hxk⟩:=known _ (dZ Lo);have K7:MU.val st (tt,a,b)=some x.v:=by unfold MU.val;rw [rb];show (MU.ah st j).map _=_;rw [hx];rfl
   refine ⟨_,rfl,a9 hq rfl ⟨_,rfl,rfl,_,rfl,?_⟩⟩;refine (show if decide (V.str (me tt)=V.str (me t))=true then _ else _ from ?_);rw [UE]
   by_cases ht:tt=t
   ·refine gr ht ?_;obtain ⟨q',r,pw,pu,g1,g2,g3,g4,g5,g6⟩:=DD cz hx;have gb:g_ (qs.map V.ref) (j:Int)=some (.ref q'):=j8 (by rw [dt,g1];rfl);have dg:eS H2 bd (.ref q) (some (.int (j:Int))):=.inr ⟨kvs,_,q,.inr ⟨o,eb⟩,rfl,hq,by rw [ef,rb];rfl⟩;have AW:∀{b:Addr} {xs:List V},H b=some (.tup xs)->H2 b=some (.tup xs):=fun e=>kp _ _ e (aQ e f_ nofun);refine ⟨_,rfl,p,C,dx,_,_,rfl,kp _ _ hp (bp Tq),T.cl,T.nR,s_,_,rfl,p,C,dx,_,_,rfl,kp _ _ hp (bp Tq),T.cl,T.nE,rR,_,rfl,bd,_,rfl,dg,rl,_,_,_,rfl,rfl,kp _ _ gx (bp bdr),gb,a9 (AW g4) rfl ⟨_,rfl,pw,_,rfl,AW g5,UY,fun kt mH=>?_⟩⟩;rw [Zh];have Su:=MU.iD hxk;have e3:upd H2 kt (.tup [V.int (x.a:Int),V.int (x.b:Int),V.int x.v]) kt=some (.tup [V.int (x.a:Int),V.int (x.b:Int),V.int x.v]):=aq;have s3:=bj (o:=.tup [V.int (x.a:Int),V.int (x.b:Int),V.int x.v]) mH;generalize upd H2 kt (.tup [V.int (x.a:Int),V.int (x.b:Int),V.int x.v])=H3 at*;have rB:=s3 _ _ e2;have nD:∀{b:Addr} {o:HO},H3 b=some o->o≠.lst (ps.map V.ref)->upd H3 Da (.lst (ps.map V.ref++[.ref kt])) b=some o:=fun {b o} e ne=>by rw [au (aQ e rB ne)];exact e
    have keep:∀b y,iB H2 b y->iB (upd H3 Da (.lst (ps.map V.ref++[.ref kt]))) b y:=fun b y e=>nD (s3 _ _ e) nofun;refine ⟨_,rB,?_,_,ps++[kt],L++[(a,b,x.v)],rfl,?_,?_,?_,?_,?_,fun b' y e ne=>?_⟩
    ·rw [a7];have:=pK.1;exact Nat.lt_of_le_of_lt (show ps.length<=16500000 by lia) (by decide)
    ·rw [aq,eJ];rfl
    ·refine wZ (dN jr keep) (.cons ?_ .nil);have:iB H3 kt (a,b,x.v):=by
      unfold iB vE;rw [e3,Su.2.1,Su.2.2]
     exact nD this nofun
    ·rw [et,List.filterMap_append,hL];have:wA st t (tt,a,b)=some (a,b,x.v):=by
      unfold wA;rw [if_pos ht,K7];rfl
     simp [this]
    ·rw [gR];show ps.length+1<=i+1;lia
    ·exact nD (s3 _ _ eb) nofun
    ·rw [au (aO e SU)];exact s3 _ _ (kp _ _ e ne)
   ·refine ix ht ⟨_,ps,L,rfl,e2,jr,?_,by exact Nat.le.step gy,eb,kp⟩;rw [et,List.filterMap_append,hL];have:wA st t (tt,a,b)=none:=if_neg ht;simp [this]
  ·rintro aa H2 ⟨v,ps,L,rfl,e2,jr,hL,gy,eb,kp⟩;refine ⟨bd,o,_,eb,fun o u z=>?_,?_⟩
   ·have z:H bd=some (.dB o u):=z;rw [f_] at z;cases z
   have s3:aM H (upd H2 bd (.dT kvs)):=fun b x e=>by
    by_cases hb:b=bd
    ·subst hb;rw [f_] at e;cases e;exact aq
    ·rw [au hb];exact kp _ _ e hb
   have nb:∀{b:Addr} {x:HO},H2 b=some x->x≠.dB o (.dT kvs)->upd H2 bd (.dT kvs) b=some x:=fun {b x} e ne=>by rw [au (aQ e eb ne)];exact e
   have e3:=nb e2 nofun;have B2:Paired (iB (upd H2 bd (.dT kvs))) ps L:=dN jr fun b y e=>nb e nofun;generalize upd H2 bd (.dT kvs)=H3 at*;have bP:ks.take kvs.length=ks:=by rw [hkn];exact ir
   rw [bP] at hL;have Ks:∀a b v,(a,b,v)∈L↔MU.val st (t,a,b)=some v:=fun a b v=>by
    rw [hL,List.mem_filterMap]
    constructor
    ·rintro ⟨kk,hk,e⟩;unfold wA at e
     by_cases mH:kk.1=t
     ·rw [if_pos mH] at e
      cases hv:MU.val st kk with
      | none=>rw [hv] at e;cases e
      | some v'=>
       rw [hv] at e;cases e;obtain ⟨t',a',b'⟩:=kk;cases mH;exact hv
     ·rw [if_neg mH] at e;cases e
    ·intro hv;have hb:∃j,st.best (t,a,b)=some j:=by
      unfold MU.val at hv
      cases hq:st.best (t,a,b) with
      | none=>rw [hq] at hv;cases hv
      | some j=>exact ⟨j,rfl⟩
     obtain ⟨j,hj⟩:=hb;have:(eK kvs (cH (t,a,b))).isSome=true:=by rw [ef,hj];rfl
     rw [<-wX] at this;obtain ⟨kv,h1,h2⟩:=List.any_eq_true.mp this;have hm:cH (t,a,b)∈ks.map cH:=by rw [<-BH];exact gF.mpr ⟨kv,h1,by simpa using h2⟩
     obtain ⟨kk,h3,h4⟩:=gF.mp hm;refine ⟨(t,a,b),Pr h4▸h3,?_⟩;unfold wA;rw [if_pos rfl,hv];rfl
   have small:∀q∈ps,∃x∈L,iB H3 q x/\x.1<8/\x.2.1<8:=fun q hq=>by
    obtain ⟨x,hx,iF⟩:=Qu B2 q hq;refine ⟨x,hx,iF,?_⟩;obtain ⟨a,b,v⟩:=x;have hv:=(Ks a b v).mp hx;unfold MU.val at hv
    cases hq:st.best (t,a,b) with
    | none=>rw [hq] at hv;cases hv
    | some j=>
     obtain ⟨w',h1,h2⟩:=g.at_ _ _ hq;have h3:=g.lt _ _ h1;have h4:=MU.iD h2;exact ⟨by show a<8;have:=h4.2.1;lia,by show b<8;have:=h4.2.2;lia⟩
   refine ⟨Da,ps,fun a b=>(MU.val st (t,a.toNat,b.toNat)).getD 0,rfl,e3,fun q hq=>?_,fun l dA hl qT K9=>?_⟩
   ·obtain ⟨⟨a,b,v⟩,hx,iF,ha,hb⟩:=small q hq;have ha:a<8:=ha;have hb:b<8:=hb;refine ⟨a,b,?_,by exact Int.NonNeg.mk (a+0),by lia,by exact Int.NonNeg.mk (b+0),by lia⟩;show H3 q=some (vE a b ((MU.val st (t,((a:Int)).toNat,((b:Int)).toNat)).getD 0));rw [lS,lS,(Ks a b v).mp hx];exact iF
   ·have Lj:H l=none:=by
     cases q:H l with
     | none=>rfl
     | some x=>rw [s3 _ _ q] at hl;cases hl
    have s4:=bj (o:=.lst (dA.map V.ref)) hl;have yn:∀q∈dA,iB H3 q (uW H3 q):=fun q hq=>by
     obtain ⟨x,_,iF,_⟩:=small q (qT.mem_iff.mp hq);rw [NK iF];exact iF
    have SR:(dA.map (uW H3)).Perm L:=by rw [Pl B2];exact qT.map _
    refine k l _ dA (dA.map (uW H3)) Lj (s3.trans s4) aq (dN (OF yn) fun q x e=>e.same s4) ⟨?_,fun a b v=>?_,?_⟩
    ·rw [List.pairwise_map];refine List.Pairwise.imp_of_mem (fun {x y} hx hy e=>?_) K9;rw [Dw (yn x hx),Dw (yn y hy)] at e;exact e
    ·rw [SR.mem_iff];exact Ks a b v
    ·refine ((SR.map _).nodup_iff).mpr ?_;rw [hL];unfold List.Nodup;rw [List.pairwise_map];refine List.Pairwise.filterMap _ (fun a a' dJ b hb b' gk e=>dJ ?_) knd;unfold wA at hb gk
     by_cases h1:a.1=t
     ·by_cases h2:a'.1=t
      ·rw [if_pos h1] at hb;rw [if_pos h2] at gk
       cases hv:MU.val st a with
       | none=>rw [hv] at hb;cases hb
       | some v1=>
        cases gh:MU.val st a' with
        | none=>rw [gh] at gk;cases gk
        | some v2=>
         rw [hv] at hb;rw [gh] at gk;cases hb;cases gk;have e:(a.2.1,a.2.2)=(a'.2.1,a'.2.2):=e;exact Prod.ext (h1.trans h2.symm) e
      ·rw [if_neg h2] at gk;cases gk
     ·rw [if_neg h1] at hb;cases hb
end Y0
namespace L2
open PySem PySem.Spec PyProof.Rows
theorem N9:∀{bs:List Bool} {us:List Value} {i:Nat} {v:Value},bw (bs.map V.bl) us->us[i]?=some v->∃b,bs[i]?=some b/\v=.bool b
 | [],_,i,v,h,e=>by cases h;simp at e
 | b::r,_,0,v,h,e=>by
  cases h with
  | cons q tl=>simp at e;subst e;exact ⟨b,rfl,q⟩
 | b::r,_,i+1,v,h,e=>by
  cases h with
  | cons q tl=>simp at e;simpa using N9 tl e
section
variable {X:Cx}
theorem P4 (hc:X.calm=true):qd X (.builtin "all") (fun xs H Q=>∃(p:Addr) (bs:List Bool),xs=[.ref p]/\H p=some (.lst (bs.map V.bl))/\Q (.bl (bs.all id)) H):=by
 intro pins s σ H xs us Q I r h;obtain ⟨p,bs,rfl,hp,q⟩:=h;obtain ⟨u,rfl,ru⟩:=vc r;obtain rfl:u=Value.ref p:=ru;obtain ⟨hz,its,n,rv,e⟩:=I.ae p _ hp;have hl:s.heap.IsList p its.toArray:=⟨_,e,rfl,n,rfl⟩;have aW:p<s.heap.objs.size:=eg e;have hh:=I.ok.hd hc;have hlen:its.length=bs.length:=by rw [<-rv.length,a7]
 refine call_all_walk (wpAny_pyIter_list hl ?_);refine ⟨s.heap.objs.size,[s.heap.objs.size,p],[s.heap.objs.size],its.toArray.size,_,_,fun i=>(bs[i]?).getD true,rfl,Walks.list (A:=X.A.in1) hh _ p (gG aW) its.toArray,
  ⟨⟨_,jI _ rfl,rfl,rfl⟩,hl.push _⟩,fun i v s' Q' E' hP hQ=>?_,fun h' tk hk=>?_⟩
 ·obtain ⟨b,e,rfl⟩:=N9 rv (by simpa using hP);simp only [e,Option.getD_some] at hQ;exact wpAny_truthy_bool hQ
 ·have e:((List.range its.toArray.size).all fun i=>(bs[i]?).getD true)=bs.all id:=by
   rw [iw,hlen];exact PyProof.Rows.LSm.range_all bs
  rw [e];exact ⟨.bl (bs.all id),H,I.kept (PyProof.Rows.LSm.kept_iter hk),rfl,q⟩
end
end L2
namespace Y0
open PySem L2
noncomputable def sV (N:Nat) (F:List (List Int)):List Int:=((List.range N).filter fun (i:Nat)=>decide (¬(i:Int)∈F.map pY)).map fun (i:Nat)=>(i:Int)
noncomputable def MN (C:Addr):Sp:=fun vs H Q _=>∃(p:Addr) (N:Nat) (la:Int) (T F:List (List Int)),vs=[.ref p]/\kM C H p (N:Int) la T F/\di (N:Int) la T F/\∀l H',H l=none->aM H H'->H' l=some (.lst ((sV N F).map V.int))->Q (.ref l) H'
theorem Rb:cF ["self","ends"] ["self"] (aZ cQ):=cT
theorem ZG:i7 (aZ cQ) ["self","ends"] (kh [(".0",.local),("fall",.local)]) ["fall"] [none]:=kj
theorem ZH:i7 (aZ cQ) ["self","ends"] (kh [(".0",.local),("moment",.local),("ends",.free)]) ["moment","ends"] [none,some 1]:=kj
theorem YQ:(["moment","ends"]:List Str).Nodup:=by decide+kernel
theorem WC:sV (j+1) F=sV j F++(if (j:Int)∈F.map pY then [] else [(j:Int)]):=by
 unfold sV;rw [List.range_succ,List.filter_append,eJ]
 by_cases e:(j:Int)∈F.map pY
 ·rw [if_pos e,List.filter_cons_of_neg (by simpa using e)];rfl
 ·rw [if_neg e,List.filter_cons_of_pos (by simpa using e)];rfl
theorem VA:(sV j F).length<=j:=by
 unfold sV;rw [a7];exact dY (List.length_filter_le _ _) (Nat.le_of_eq List.length_range)
theorem xA (F:gc K "own" "Web.own" cQ f fd) (range:mg "range"=none) (TC:o_ K mg C):aw P w K mg base ax 1 f fd ["self"] (MN C):=by
 refine F.ok Rb (fun _ _ _ _ h=>?_) fun _ A _ s H _ Q E hr h=>?_
 ·obtain ⟨p,_,_,_,_,rfl,_⟩:=h;rfl
 ·obtain ⟨p,N,la,rT,rF,rfl,⟨dx,ta,fa,hp,_,⟨qs,R⟩⟩,ae,k⟩:=h;have n8:=ae.n2;refine ⟨_,cC (tj (i:=1) Rb.nd rfl (Or.inr rfl) (o5 rfl (gA (cS (pv 0) rfl)) ZG (fun cl ex s0 H0=>⟨cj 0 RN,vy,cW (Vy (K:=K) rfl) (pv 0) aH (fun _ _=>rfl)⟩)))
   (az (c7 (o5 rfl (vp rfl range (cw (cS (pv 0) rfl))) ZH (fun cl ex s0 H0=>⟨cj 0 YQ,pA (zg (X4 (K:=K) rfl) (pv 0) (pv 1) (by with_unfolding_all rfl)),pv 0⟩)))),?_⟩
  refine ⟨_,rfl,p,C,dx,_,_,rfl,hp,TC.cl,TC.nF,OH _ _ _ _,fa,rfl,⟨_,ay.of R.1⟩,fun Da dh=>?_⟩;refine o7 (xs:=qs.map V.ref) (fun j aa H'=>∃v,aa=[v]/\H' Da=some (.lst (((rF.take j).map pY).map V.int))/\aM H H') ⟨none,rfl,aq,bj dh⟩ ?_ ?_ ?_
  ·rintro j aa H1 _ ⟨v,rfl,_,s1⟩;exact ay.of (s1 _ _ R.1)
  ·rintro j x aa H1 hx ⟨v,rfl,e1,s1⟩;obtain ⟨q,r,rfl,hq,bo,jq⟩:=R.get hx;obtain ⟨a',b',l,m,rfl,_⟩:=ae.f r (dZ bo);refine ⟨_,rfl,_,_,_,_,rfl,rfl,dz.of (s1 _ _ jq),rfl,_,e1,?_,_,rfl,?_,fun b o e=>?_⟩
   ·rw [a7,a7,iA];have:=ae.fl;exact fi (by lia)
   ·rw [aq,jC,bo,eJ,eJ];rfl
   ·rw [au (aO e dh)];exact s1 _ _ e
  ·rintro aa H1 ⟨v,rfl,e1,s1⟩;have hl:rF.take (qs.map V.ref).length=rF:=by
    rw [a7,R.len];exact ir
   rw [hl] at e1;refine ⟨_,rfl,p,C,dx,_,_,rfl,s1 _ _ hp,TC.cl,TC.nM,Dn _ _ _ _,(N:Int),rfl,by exact Int.NonNeg.mk (N+Nat.succ 4611686018427387903),by lia,fun Db sH=>?_⟩;refine D_ (n:=((N:Nat):Int).toNat) (fun j aa H'=>∃v,aa=[v,some (.ref Da)]/\H' Db=some (.lst ((sV j rF).map V.int))/\aM H1 H') ⟨none,rfl,aq,bj sH⟩ ?_ ?_
   ·rintro j aa H2 hj ⟨v,rfl,e2,s2⟩;rw [lS] at hj;have z0:(0:Int)+(j:Int)=(j:Int):=by lia
    rw [z0];refine ⟨_,rfl,_,rfl,Da,_,rfl,.inl (ay.of (s2 _ _ e1)),rfl,DV,_,rfl,?_⟩;show if (!pG (V.int (j:Int)) ((rF.map pY).map V.int))=true then _ else _;rw [AE,WC];refine kK (fun hc=>?_) (fun hc=>?_)
    ·have pM:¬(j:Int)∈rF.map pY:=by simpa using hc
     refine ⟨_,rfl,_,e2,?_,_,rfl,?_,fun b o e=>?_⟩
     ·rw [a7];exact fi (by have:=VA (j:=j) (F:=rF);lia)
     ·rw [aq,if_neg pM,eJ];rfl
     ·rw [au (aO e sH)];exact s2 _ _ e
    ·have pM:(j:Int)∈rF.map pY:=by simpa using hc
     refine ⟨_,rfl,?_,s2⟩;rw [if_pos pM,List.append_nil];exact e2
   ·rintro aa H2 ⟨v,rfl,e2,s2⟩;rw [lS] at e2;exact k Db _ (s1.free sH) (s1.trans s2) e2
end Y0
namespace HD
noncomputable abbrev Tr:=Nat×Nat×Int
noncomputable def cm (c:List (Option Int)) (i:Nat):Option Int:=(c[i]?).getD none
noncomputable def jP (c:List (Option Int)) (now:Int) (co:List Nat) (b:Nat) (v:Int):Bool:=match cm c b with
 | some t=>decide (t<=now+v)
 | none=>decide (0<v) || (decide (v=0) && decide (b∈co))
noncomputable def i8 (c:List (Option Int)) (now:Int) (F:MU.cv) (e:Nat) (v:Int):Bool:=(cm c e).isSome || match F e with
 | some f=>match cm c f.1 with
  | some t=>decide (v<=now-t)
  | none=>false
 | none=>false
noncomputable def lets (T M:List Tr) (F:MU.cv) (c:List (Option Int)) (now:Int) (m:Nat) (co:List Nat):Bool:=
 (T.filter fun x=>decide (x.1=m)).all (fun x=>jP c now co x.2.1 x.2.2) && (M.filter fun x=>decide (x.1=m)).all fun x=>i8 c now F x.2.1 x.2.2
noncomputable def step (T M:List Tr) (F:MU.cv) (c:List (Option Int)) (now:Int) (l:List Nat):List Nat:=l.filter fun m=>lets T M F c now m l
noncomputable def iter (f:List Nat->List Nat):Nat->List Nat->List Nat
 | 0,l=>l
 | k+1,l=>iter f k (f l)
theorem dq (f:List Nat->List Nat):∀(k:Nat) (l:List Nat),iter f (k+1) l=f (iter f k l)
 | 0,_=>rfl
 | k+1,l=>dq f k (f l)
section
variable {T M:List Tr} {F:MU.cv} {c:List (Option Int)} {now:Int}
theorem kQ (l:List Nat):(step T M F c now l).length<=l.length:=List.length_filter_le _ _
theorem step_same (h:(step T M F c now l).length=l.length):step T M F c now l=l:=List.filter_sublist.eq_of_length h
theorem gN:∀(k:Nat) (l:List Nat),∀m∈iter (step T M F c now) k l,m∈l
 | 0,_,_,h=>h
 | k+1,l,m,h=>(List.mem_filter.mp (gN k _ m h)).1
end
noncomputable def ag (l:List Nat) (t:Int) (c:List (Option Int)):List (Option Int):=l.foldl (fun c e=>c.set e (some t)) c
theorem bg (t:Int):∀(l:List Nat) (c:List (Option Int)),(ag l t c).length=c.length
 | [],_=>rfl
 | e::l,c=>by
  show (ag l t (c.set e (some t))).length=_;rw [bg t l,List.length_set]
theorem jB:ag (l++m) t c=ag m t (ag l t c):=List.foldl_append
theorem UN (h:e<c.length):cm (c.set e o) i=if i=e then o else cm c i:=by
 unfold cm
 by_cases c1:i=e
 ·subst c1;rw [if_pos rfl,List.getElem?_set_self h];rfl
 ·rw [if_neg c1,List.getElem?_set_ne (fun z=>c1 z.symm)]
theorem fQ:∀{l:List Nat} {c:List (Option Int)},(∀e∈l,e<c.length)->cm (ag l t c) i=if i∈l then some t else cm c i
 | [],_,_=>by rw [if_neg nofun];rfl
 | e::l,c,h=>by
  show cm (ag l t (c.set e (some t))) i=_;rw [fQ fun x hx=>by rw [List.length_set];exact h x (jl _ hx),UN (h e iu)]
  by_cases c1:i∈l
  ·rw [if_pos c1,if_pos (jl _ c1)]
  ·rw [if_neg c1]
   by_cases c2:i=e
   ·rw [if_pos c2,if_pos (by rw [c2];exact iu)]
   ·rw [if_neg c2,if_neg fun z=>by rcases iJ.mp z with y | y;exact c2 y;exact c1 y]
end HD
namespace L2
open PySem PySem.Spec PyProof.Rows
noncomputable def Itm (a:Addr) (o:Obj) (kvs:List (Key×V)):It:=
 ⟨fun i H=>H a=some (.dB o (.dK kvs))/\i<kvs.length,fun i H x H'=>H'=H/\∃k v,x=kV k/\kvs[i]?=some (k,v),fun i H=>H a=some (.dB o (.dK kvs))/\kvs.length<=i⟩
theorem WD {P:Program} {w:World} (h:Pairs (lK P w) es vs):∀{i:Nat} {x:Key×Value},vs[i]?=some x->∃e,es[i]?=some e/\va x.1 e.key=true:=by
 induction h with
 | nil=>intro i x hx;simp at hx
 | cons h1 h2 _ ih=>
  intro i x hx
  cases i with
  | zero=>simp at hx;subst hx;exact ⟨_,rfl,h1⟩
  | succ i=>simpa using ih (by simpa using hx)
theorem PV (I:Inv X pins σ H s) (h:H a=some (.dB o (.dK kvs))) (hd:o.data=.dict es ep):
 s.heap.get? a=some o/\es.size=kvs.length/\∀(i:Nat) (k:Key) (v:V),kvs[i]?=some (k,v)->∃(e:DictEntry),es[i]?=some e/\cx (kV k) e.key:=by
 obtain ⟨ho,_,_,vs,hp,o',Cm,Cn,jY,hc,uI,he,KR,hn⟩:=(show fv X.prog X.w H s.heap a (.dB o (.dK kvs)) from I.ae a _ h);rw [ho] at jY;cases jY;rw [hd] at uI;cases uI;refine ⟨ho,?_,fun i k v hx=>?_⟩
 ·rw [<-rH,KR.length,<-Paired.length hp]
 ·obtain ⟨x,kF,r1,r2⟩:=IL hp hx;obtain ⟨e,he,hk⟩:=WD KR kF;refine ⟨e,by rw [<-Array.getElem?_toList];exact he,?_⟩;have r1:k=x.1:=r1;rw [<-r1] at hk;rcases qk hk with ⟨i,t,rfl,e⟩ | ⟨y,t,rfl,e⟩
  ·exact ⟨t,e⟩
  ·exact ⟨t,e⟩
theorem XS {P:Program} {w:World} {K:aL} {tg:Expr} (a it:Addr) (o:Obj) (kvs:List (Key×V)) {es:Array DictEntry} {ep:Nat} (hd:o.data=.dict es ep):
 uV P w K tg (Itm a o kvs) [it] it (fun i h=>h.IsKeyIter it a i es.size ep) where
 mem:=by simp
 obj:=fun i h st b hb=>by
  have e:b=it:=by simpa using hb
  subst e;obtain ⟨o,e,c,d⟩:=st;exact ⟨o,e,fun v z=>by rw [d] at z;cases z⟩
 keep:=fun i h h' st k=>st.at fun o e=>k it (by simp) o e
 item:=by
  intro X hP hw hK hc i pins s σ H E I hf st hg;subst hP hw hK;obtain ⟨lQ,hi⟩:=hg;obtain ⟨ho,hsz,gb⟩:=PV I lQ hd;obtain ⟨⟨k,v⟩,hx⟩:∃p,kvs[i]?=some p:=⟨kvs[i],by simp [hi]⟩;obtain ⟨e,he,hk⟩:=gb i k v hx;obtain ⟨f0,f1,f2,f3,f4,f5⟩:=hf it (by simp);refine OZ st ho hd he fun h' af sb=>?_;have I1:Inv X pins σ H { s with heap:=h' }:=I.turned (t':=s.toks) (fun b o hb e=>(sb.2 b hb).trans e) f0 f1 f3 f4 f5;exact ⟨_,rfl,letGo_keyiter (s':={ s with heap:=h' }) af ⟨kV k,H,I1,hk,⟨rfl,k,v,rfl,hx⟩,af,fun b hb=>(hf b hb).1⟩⟩
 done:=by
  intro X hP hw hK hc i pins s σ H E I hf st hg;subst hP hw hK;obtain ⟨lQ,hi⟩:=hg;obtain ⟨ho,hsz,_⟩:=PV I lQ hd;obtain ⟨f0,f1,f2,f3,f4,f5⟩:=hf it (by simp);exact NO (wJ hc I) st ho hd (by lia) fun h' eb=>⟨rfl,I.turned (t':=s.toks) (fun b o hb e=>eb b o hb e) f0 f1 f3 f4 f5⟩
 self:=fun _ _ _ _ _ st h=>wpAny_pyIter_keyiter st h
section
variable {X:Cx} {tg:Expr}
noncomputable def UQ (td:TE):TI:=fun σ H R=>td σ H fun x H1=>∃a kvs,x=.ref a/\H1 a=some (.dK kvs)/\((kvs.map (·.1)).Nodup->∀o,R (Itm a o kvs) (upd H1 a (.dB o (.dK kvs))))
theorem WI {d:Expr} {td:TE} (hl:PE X d td):PI X tg d (UQ td):=by
 intro pins s σ H R I h;refine aA (hl pins s σ H _ I h) fun v s1 zz=>?_;obtain ⟨x,H1,I1,r1,q1⟩:=zz;obtain ⟨a,kvs,e,hq,q⟩:=q1;subst e;cases r1;obtain ⟨_,hs,vs,hp,o,es,ep,ho,hc,hd,he,KR,hn⟩:=(show fv X.prog X.w H1 s1.heap a (.dK kvs) from I1.ae a _ hq);have mC:(kvs.map (·.1)).Nodup:=by rw [IV hp fun _ _ z=>z.1];exact hn
 refine OY hs ho hc hd ?_;have I2:=I1.freeze hq trivial ho;refine ⟨s1.heap.objs.size,[s1.heap.objs.size],_,_,_,rfl,I2.kept (t':=s1.toks) fun b o e=>eI _ e,XS a _ o kvs hd,⟨_,jI _ rfl,rfl,rfl⟩,fun b hb=>?_,q mC o⟩;have e:b=s1.heap.objs.size:=by simpa using hb
 subst e;exact I2.oU (aF _) (I2.ae.fresh (aF _))
end
theorem Xm {a:Addr} {o:Obj} {kvs:List (Key×V)} {g:TG} {tb:TS} {D:sS} {σ:St} {H:Hp} (Pv:Nat->St->Hp->Prop) (h0:Pv 0 σ H) (hl:∀i σ H,i<=kvs.length->Pv i σ H->H a=some (.dB o (.dK kvs)))
 (hs:∀i k v σ H,kvs[i]?=some (k,v)->Pv i σ H->g (kV k) σ H fun gW H2=>tb { D with nx:=Pv (i+1),ct:=Pv (i+1),bk:=D.nx } gW H2) (hd:∀σ H,Pv kvs.length σ H->D.nx σ H):
 ∃W:Nat->Nat->St->Hp->Prop,(∃m,W 0 m σ H)/\∀i m σ H,W i m σ H->
  ((Itm a o kvs).stop i H/\D.nx σ H)\/((Itm a o kvs).go i H/\∃N:St->Hp->Prop,(∀aa H',N aa H'->∃m',m'<m/\W (i+1) m' aa H')/\∀x H',(Itm a o kvs).vA i H x H'->g x σ H' fun gW H2=>tb { D with nx:=N,ct:=N,bk:=D.nx } gW H2):=by
 refine ⟨fun i m σ H=>m=kvs.length-i/\i<=kvs.length/\Pv i σ H,⟨kvs.length,by simp,dM _,h0⟩,?_⟩;rintro i m σ H ⟨rfl,hi,p⟩;have q:=hl i σ H hi p
 by_cases aW:i<kvs.length
 ·refine .inr ⟨⟨q,aW⟩,Pv (i+1),fun aa H' p'=>⟨kvs.length-(i+1),by omega,rfl,aW,p'⟩,fun x H' y=>?_⟩;obtain ⟨e,k,v,rfl,hx⟩:=y;subst e;exact hs i k v σ _ hx p
 ·have e:i=kvs.length:=by lia
  subst e;exact .inl ⟨⟨q,aF _⟩,hd σ H p⟩
noncomputable def CB (hi:Int) (n:Nat):It:=⟨fun i _=>i<n,fun i H x H'=>H'=H/\x=.int (hi-i),fun i _=>n<=i⟩
theorem Yy {w:World} {lo:Int} {i n:Nat} (hi:i<n) (st:IsRangeIter s.heap it (lo-(i:Nat)) ((n:Int)-(i:Nat)) (-1))
 (hQ:∀(t:Tok) h' tk,IsRangeIter h' it (lo-((i+1:Nat):Int)) ((n:Int)-((i+1:Nat):Int)) (-1)->(∀b o,b∉[it]->s.heap.get? b=some o->h'.get? b=some o)->Q (some (.int (lo-(i:Nat)) t)) { s with heap:=h',toks:=tk }):
 wpAny (model prog w) A (pyNext (.ref it)) Q E s:=by
 refine wpAny_pyNext_range_item st (by lia) fun h' af sb=>?_;refine hQ _ h' _ ?_ fun b o hb e=>sb.extBut b o (fun z=>hb (by simp [z])) e;have e1:lo-((i+1:Nat):Int)=lo-(i:Int)+ -1:=by lia
 have e2:(n:Int)-((i+1:Nat):Int)=(n:Int)-(i:Int)-1:=by lia
 rw [e1,e2];exact af
theorem X6 {P:Program} {w:World} {K:aL} {tg:Expr} (it:Addr) (lo:Int) (n:Nat):uV P w K tg (CB lo n) [it] it (fun i h=>IsRangeIter h it (lo-(i:Nat)) ((n:Int)-(i:Nat)) (-1)) where
 mem:=by simp
 obj:=fun i h st b hb=>by
  have e:b=it:=by simpa using hb
  subst e;exact ⟨_,st,fun v z=>by
   have z':Data.fields _=Data.cell v:=z;cases z'⟩
 keep:=fun i h h' st k=>k it (by simp) _ st
 item:=by
  intro X hP hw hK hc i pins s σ H E I hf st hg;subst hP hw hK;obtain ⟨f0,f1,f2,f3,f4,f5⟩:=hf it (by simp);refine Yy hg st fun t h' tk af kk=>?_;have I1:Inv X pins σ H { s with heap:=h',toks:=tk }:=I.turned (fun b o hb e=>kk b o (by simpa using hb) e) f0 f1 f3 f4 f5;exact ⟨_,rfl,Dg (s:={ s with heap:=h',toks:=tk }) (n:="range_iterator") af rfl rfl (by decide) ⟨.int (lo-i),H,I1,⟨t,rfl⟩,⟨rfl,rfl⟩,af,fun b hb=>(hf b hb).1⟩⟩
 done:=by
  intro X hP hw hK hc i pins s σ H E I hf st hg;subst hP hw hK;obtain ⟨f0,f1,f2,f3,f4,f5⟩:=hf it (by simp);exact QH (wJ hc I) st (by have:n<=i:=hg;lia) fun h' eb=>⟨rfl,I.turned (t':=s.toks) (fun b o hb e=>eb b o hb e) f0 f1 f3 f4 f5⟩
 self:=fun _ _ _ _ _ st h=>wpAny_pyIter_rangeiter st h
theorem WR {lo:Int} {n:Nat} {g:TG} {tb:TS} {D:sS} {σ:St} {H:Hp} (Pv:Nat->St->Hp->Prop) (h0:Pv 0 σ H)
 (hs:∀i σ H,i<n->Pv i σ H->g (.int (lo-i)) σ H fun gW H2=>tb { D with nx:=Pv (i+1),ct:=Pv (i+1),bk:=D.nx } gW H2) (hd:∀σ H,Pv n σ H->D.nx σ H):
 ∃W:Nat->Nat->St->Hp->Prop,(∃m,W 0 m σ H)/\∀i m σ H,W i m σ H->
  ((CB lo n).stop i H/\D.nx σ H)\/((CB lo n).go i H/\∃N:St->Hp->Prop,(∀aa H',N aa H'->∃m',m'<m/\W (i+1) m' aa H')/\∀x H',(CB lo n).vA i H x H'->g x σ H' fun gW H2=>tb { D with nx:=N,ct:=N,bk:=D.nx } gW H2):=by
 refine ⟨fun i m σ H=>m=n-i/\i<=n/\Pv i σ H,⟨n,by simp,dM _,h0⟩,?_⟩;rintro i m σ H ⟨rfl,hi,p⟩
 by_cases aW:i<n
 ·refine .inr ⟨aW,Pv (i+1),fun aa H' p'=>⟨n-(i+1),by omega,rfl,aW,p'⟩,fun x H' y=>?_⟩;obtain ⟨e,y⟩:=y;subst e y;exact hs i σ _ aW p
 ·have e:i=n:=by lia
  subst e;exact .inl ⟨aF _,hd σ H p⟩
theorem NT (n:Nat):Builtin.Range.rangeSize ((n:Int)-1) (-1) (-1)=(n:Int):=by
 unfold Builtin.Range.rangeSize;rw [if_neg (by decide)]
 by_cases h:0<n
 ·rw [if_pos (by lia)];show ((n:Int)-1- -1-1) / 1+1=n;rw [Int.ediv_one];lia
 ·rw [if_neg (by lia)];lia
theorem Xi {n:Nat} (h:n<=20000000):Builtin.Range.small ((n:Int)-1) (-1) (-1)=true:=by
 unfold Builtin.Range.small;rw [NT];simp [Builtin.Range.rangeFitsLong];lia
section
variable {X:Cx} {tg:Expr}
noncomputable def iDn (ta:TA):TI:=fun σ H R=>ta σ H fun vs H1=>∃n:Nat,vs=[.int ((n:Int)-1),.int (-1),.int (-1)]/\n<=20000000/\R (CB ((n:Int)-1) n) H1
theorem Xz (hg:Gl X "range") (hm:X.mg "range"=none) (ha:PA X [a,b,c] ta) (hs:starEach [a,b,c] X.env=[(false,eval a X.env),(false,eval b X.env),(false,eval c X.env)]:=by rfl) (lh:starEach [b,c] X.env=[(false,eval b X.env),(false,eval c X.env)]:=by rfl):
 PI X tg (.Call (.Name "range" p) [a,b,c] [] pos) (iDn ta):=by
 intro pins s σ H R I h;refine Call_ (Au I hg hm boot_range (PyProof.Rows.callWith_type1 (aA (ha pos pins s σ H _ I h) fun us s1 zz=>?_) (by rw [hs,lh]) (by rw [lh];rfl)));obtain ⟨vs,H1,I1,r1,q1⟩:=zz;obtain ⟨n,e,hn,q⟩:=q1;subst e
 cases r1 with
 | cons r rr=>
  cases rr with
  | cons r' rr=>
   cases rr with
   | cons Bf rr=>
    cases rr;obtain ⟨t,rfl⟩:=r;obtain ⟨t',rfl⟩:=r';obtain ⟨ES,rfl⟩:=Bf;refine call_range_3 (by decide) ?_ (Or.inl (PyProof.noPylong_small (by lia)));refine wpAny_pyIter_range (IsRange.new ..) (Xi hn) ?_;have I2:Inv X pins σ H1 { s1 with heap:=s1.heap.push { cls:=.type "range",data:=.fields #[.int ((n:Int)-1) t,.int (-1) t',.int (-1) ES] },toks:=s1.toks }:=I1.kept fun b o e=>eI _ e;refine ⟨(s1.heap.push { cls:=.type "range",data:=.fields #[.int ((n:Int)-1) t,.int (-1) t',.int (-1) ES] }).objs.size,[(s1.heap.push { cls:=.type "range",data:=.fields #[.int ((n:Int)-1) t,.int (-1) t',.int (-1) ES] }).objs.size],_,_,H1,rfl,
     I2.kept (t':=s1.toks) fun b o e=>eI _ e,X6 _ ((n:Int)-1) n,?_,fun b hb=>?_,q⟩
    ·show IsRangeIter _ _ (((n:Int)-1)-((0:Nat):Int)) ((n:Int)-((0:Nat):Int)) (-1);rw [show ((n:Int)-1)-((0:Nat):Int)=(n:Int)-1 by lia,show (n:Int)-((0:Nat):Int)=Builtin.Range.rangeSize ((n:Int)-1) (-1) (-1) by rw [NT];lia];exact jI _ rfl
    ·have e:b=(s1.heap.push { cls:=.type "range",data:=.fields #[.int ((n:Int)-1) t,.int (-1) t',.int (-1) ES] }).objs.size:=by simpa using hb
     subst e;exact I2.oU (aF _) (I2.ae.fresh (aF _))
end
section
variable {prog:Program} {w:World} {A:Around} {E:Value->Shared->Prop} {s:Shared}
end
section
variable {X:Cx} {tg:Expr}
theorem QE:∀{ns:List Int} {us:List Value},bw (ns.map V.int) us->IntsAre us ns
 | [],us,h=>by cases h;exact .nil
 | n::r,us,h=>by
  cases h with
  | cons q tl=>
   obtain ⟨tk,rfl⟩:=q;exact .cons _ _ (QE tl)
end
theorem Wy:Tz X "list.count" (fun x vs H Q=>∃(p:Addr) (ns:List Int) (k:Int),x=.ref p/\vs=[.int k]/\H p=some (.lst (ns.map V.int))/\Q (.int (ns.count k:Nat)) H):=by
 intro pins s σ H x vs v us Q I rx rv h;obtain ⟨p,ns,k,rfl,rfl,hp,q⟩:=h;cases rx;obtain ⟨u,rfl,t,rfl⟩:=rv.one;obtain ⟨its,r,pl,_⟩:=I.list (ay.of hp);exact count_list_ints pl.isList (QE r) ⟨.int _,H,I.tok _,⟨_,rfl⟩,q⟩
end L2
namespace Y0
open PySem L2
seal L2.PE L2.PA L2.PT L2.PS L2.gS L2.PG L2.lX L2.PI L2.PO
structure ou (K:aL) (mg:Str->Option Value) (C:Addr):Prop where
 cl:oZ K C
 nT:jn K C "rule_ties"
 nW:jn K C "rule_waits"
 nB:jn K C "by_end"
 nO:jn K C "own_moments"
 nC:jn K C "came"
 nN:jn K C "now"
noncomputable def md (lt lw be ow ca:Addr) (now:Int):List (Str×V):=[("rule_ties",.ref lt),("rule_waits",.ref lw),("by_end",.ref be),("own_moments",.ref ow),("came",.ref ca),("now",.int now)]
section
variable {lt lw be ow ca:Addr} {now:Int}
theorem h_t:(md lt lw be ow ca now).lookup ("rule_ties":Str)=some (.ref lt):=by with_unfolding_all rfl
theorem h_w:(md lt lw be ow ca now).lookup ("rule_waits":Str)=some (.ref lw):=by with_unfolding_all rfl
theorem zK:(md lt lw be ow ca now).lookup ("by_end":Str)=some (.ref be):=by with_unfolding_all rfl
theorem h_o:(md lt lw be ow ca now).lookup ("own_moments":Str)=some (.ref ow):=by with_unfolding_all rfl
theorem pN:(md lt lw be ow ca now).lookup ("came":Str)=some (.ref ca):=by with_unfolding_all rfl
theorem yw:(md lt lw be ow ca now).lookup ("now":Str)=some (.int now):=by with_unfolding_all rfl
theorem ZL:ak "now" (.int v) (md lt lw be ow ca now)=md lt lw be ow ca v:=by with_unfolding_all rfl
end
noncomputable def Dj (H:Hp) (d:Addr) (F:MU.cv):Prop:=∃kvs:List (Key×V),Rd H d (.dK kvs)/\(kvs.length<=100/\∀kv∈kvs,∃e:Nat,kv.1=Sum.inl (e:Int))/\(∀e:Nat,F e=none->eK kvs (.inl (e:Int))=none)/\∀(e:Nat) f,F e=some f->∃p,eK kvs (.inl (e:Int))=some (.ref p)/\H p=some (.tup [.int (f.1:Int),.int f.2.1,.int f.2.2])
theorem Rd.same (h:Rd H a u) (s:aM H H'):Rd H' a u:=by
 rcases h with h | ⟨o,h⟩
 ·exact .inl (s _ _ h)
 ·exact .inr ⟨o,s _ _ h⟩
theorem Dj.same (h:Dj H d F) (s:aM H H'):Dj H' d F:=by
 obtain ⟨kvs,h1,h2,h3,h4⟩:=h;refine ⟨kvs,Rd.same h1 s,h2,h3,fun e f hf=>?_⟩;obtain ⟨p,q1,q2⟩:=h4 e f hf;exact ⟨p,q1,s _ _ q2⟩
noncomputable def ov:Option Int->V
 | none=>.bf
 | some t=>.int t
structure jF (C:Addr) (H:Hp) (p lt lw be ow ca:Addr) (F:MU.cv) (T M:List lW) (own:List Nat) (c:List (Option Int)) (now:Int):Prop where
 ins:∃dx,H p=some (.ins C dx (md lt lw be ow ca now))
 tN:∃ps,H lt=some (.lst (ps.map V.ref))/\Paired (iB H) ps T
 vD:∃ps,H lw=some (.lst (ps.map V.ref))/\Paired (iB H) ps M
 eO:Dj H be F
 own:H ow=some (.lst (own.map fun i:Nat=>V.int (i:Int)))
 dX:H ca=some (.lst (c.map ov))
theorem jF.same {own:List Nat} {now:Int} (h:jF C H p lt lw be ow ca F T M own c now) (s:aM H H'):jF C H' p lt lw be ow ca F T M own c now:=by
 obtain ⟨⟨dx,h1⟩,⟨ps,h2,h3⟩,⟨qs,h4,h5⟩,h6,h7,h8⟩:=h;exact ⟨⟨dx,s _ _ h1⟩,⟨ps,s _ _ h2,dN h3 fun q r e=>e.same s⟩,⟨qs,s _ _ h4,dN h5 fun q r e=>e.same s⟩,h6.same s,s _ _ h7,s _ _ h8⟩
theorem rZ {i:Nat} (h:i<c.length):g_ (c.map ov) (i:Int)=some (ov (HD.cm c i)):=by
 refine j8 ?_;rw [dt,iR h];unfold HD.cm;rw [iR h];rfl
theorem vf:decide (ov o=V.bf)=o.isNone:=by
 cases o with
 | none=>rfl
 | some t=>exact eP fun z=>nomatch z
structure hX where
 p:Addr
 lt:Addr
 lw:Addr
 be:Addr
 ow:Addr
 ca:Addr
 F:MU.cv
 T:List lW
 M:List lW
 own:List Nat
 c:List (Option Int)
 now:Int
noncomputable def hX.At (C:Addr) (H:Hp) (a:hX):Prop:=jF C H a.p a.lt a.lw a.be a.ow a.ca a.F a.T a.M a.own a.c a.now
theorem hX.At.same {C:Addr} {H H':Hp} {a:hX} (h:a.At C H) (s:aM H H'):a.At C H':=jF.same h s
noncomputable def HZ (C:Addr):Sp:=fun vs H Q _=>∃a:hX,vs=[.ref a.p]/\a.At C H/\∀l H',H l=none->aM H H'->H' l=some (.lst (a.c.map ov))->Q (.ref l) H'
noncomputable def IE (C:Addr):Sp:=fun vs H Q _=>∃(a:hX) (e:Nat) (f:Nat×Int×Int),vs=[.ref a.p,.int (e:Int)]/\a.At C H/\a.F e=some f/\e<a.c.length/\f.1<a.c.length/\Q (.bl ((HD.cm a.c e).isNone && (HD.cm a.c f.1).isSome)) H
noncomputable def PN (C:Addr):Sp:=fun vs H Q _=>∃(a:hX) (e:Nat) (f:Nat×Int×Int) (t:Int),vs=[.ref a.p,.int (e:Int)]/\a.At C H/\a.F e=some f/\e<a.c.length/\f.1<a.c.length/\HD.cm a.c e=none/\HD.cm a.c f.1=some t/\f.2.1<=a.now-t/\a.now-t<=f.2.2/\Q .bf H
noncomputable def Qc (C:Addr):Sp:=fun vs H Q _=>∃(a:hX) (b:Nat) (v:Int) (cl:Addr) (co:List Nat),vs=[.ref a.p,.int (b:Int),.int v,.ref cl]/\a.At C H/\b<a.c.length/\H cl=some (.lst (co.map fun i:Nat=>V.int (i:Int)))/\Q (.bl (HD.jP a.c a.now co b v)) H
noncomputable def Q0 (C:Addr):Sp:=fun vs H Q _=>∃(a:hX) (e:Nat) (v:Int) (f:Nat×Int×Int),vs=[.ref a.p,.int (e:Int),.int v]/\a.At C H/\a.F e=some f/\e<a.c.length/\f.1<a.c.length/\Q (.bl (HD.i8 a.c a.now a.F e v)) H
theorem Z5:cF ["self"] ["self"] (aZ cU):=cT
theorem Z3:cF ["self","end"] ["self","end"] (aZ bt):=cT
theorem He:cF ["self","end","now","fall"] ["self","end"] (aZ aU):=cT
theorem Z4:cF ["self","b","most","coming"] ["self","b","most","coming"] (aZ cp):=cT
theorem QZ:cF ["self","end","least","begun"] ["self","end","least"] (aZ bX):=cT
theorem qx (F:gc K "times" "Hand.times" cU f fd) (T:ou K mg C) (BD:mg "list"=none):aw P w K mg base ax 1 f fd ["self"] (HZ C):=by
 refine F.ok Z5 (fun _ _ _ _ h=>?_) fun _ A _ s H _ Q E hr h=>?_
 ·obtain ⟨_,rfl,_⟩:=h;rfl
 ·obtain ⟨a,rfl,hA,k⟩:=h;refine ⟨_,az (c7 (vo AS (by rfl) BD (by decide+kernel) (cw (cS (pv 0) rfl)))),?_⟩;obtain ⟨dx,hp⟩:=hA.ins;exact ⟨_,rfl,a.p,C,dx,_,_,rfl,hp,T.cl,T.nC,pN,a.ca,_,rfl,.inl (ay.of hA.dX),fun l hl=>k l _ hl (bj hl) aq⟩
theorem oM (F:gc K "is_in_fall" "Hand.is_in_fall" bt f fd) (T:ou K mg C):aw P w K mg base ax 1 f fd ["self","end"] (IE C):=by
 refine F.ok Z3 (fun _ _ _ _ h=>?_) fun _ A _ s H _ Q E hr h=>?_
 ·obtain ⟨_,_,_,rfl,_⟩:=h;rfl
 ·obtain ⟨a,e,fa,rfl,hA,hf,he,hb,k⟩:=h;have hu:=jK hr;refine ⟨_,az (c7 (vg (kL Av (cW df (cS (pv 0) rfl) (pv 1) (fun _ _=>rfl)) j7)
   (vh (kL wQ (cW df (cS (pv 0) rfl) (aE (kD hu (cS (pv 0) rfl) (pv 1) (fun _ _=>rfl))) (fun _ _=>rfl)) j7)))),?_⟩
  obtain ⟨dx,hp⟩:=hA.ins;obtain ⟨kvs,r1,r2,r3,r4⟩:=hA.eO;obtain ⟨q,q1,q2⟩:=r4 e fa hf;have dg:eS H a.be (.int (e:Int)) (some (.ref q)):=.inl ⟨kvs,.inl (e:Int),r1,rfl,q1.symm⟩;refine ⟨_,rfl,a.p,C,dx,_,_,rfl,hp,T.cl,T.nC,pN,_,rfl,a.ca,_,_,_,rfl,rfl,hA.dX,rZ he,rfl,_,rfl,?_⟩;rw [vf]
  cases hc:HD.cm a.c e with
  | some t=>exact dO (qc k (by rw [hc];rfl))
  | none=>
   refine iN ⟨_,rfl,a.p,C,dx,_,_,rfl,hp,T.cl,T.nC,pN,_,rfl,a.p,C,dx,_,_,rfl,hp,T.cl,T.nB,zK,_,rfl,a.be,_,rfl,dg,a9 q2 rfl ⟨a.ca,_,_,_,rfl,rfl,hA.dX,rZ hb,rfl,?_⟩⟩;rw [vf];refine qc k ?_;rw [hc];cases HD.cm a.c fa.1<;>rfl
theorem mv (F:gc K "look_over_end" "Hand.look_over_end" aU f fd) (T:ou K mg C)
 (mI:gq K C "is_in_fall" fI) (bI:dP K wo ["self","end"] []) (GI:aw P w K mg base ax 1 fI wo ["self","end"] (IE C)):aw P w K mg base ax 2 f fd ["self","end"] (PN C):=by
 refine F.ok He (fun _ _ _ _ h=>?_) fun _ A _ s H _ Q E hr h=>?_
 ·obtain ⟨_,_,_,_,rfl,_⟩:=h;rfl
 ·obtain ⟨a,e,fa,t,rfl,hA,hf,he,hb,h1,h2,h3,h4,k⟩:=h;have hu:=jK hr;refine ⟨_,cC (cI 2 He.nd (cS (pv 0) rfl))
   (cC (d0 (vi (AR hu (pv 1) (cS (pv 0) rfl)) (by with_unfolding_all rfl)) o8 d9)
   (cC (d0 (rS (rV (gX (pv 0) T.cl mI GI hr bI .nil ee (cw (pv 1))))) o8 d9)
   (cC (cI 3 He.nd (kD hu (cS (pv 0) rfl) (pv 1) (fun _ _=>rfl)))
   (az (d0 (rS (DF ko ko (aE (pv 3)) (cG iO (pv 2) (cW df (cS (pv 0) rfl) (aE (pv 3)) (fun _ _=>rfl))) (aE (pv 3)))) o8 d9))))),?_⟩
  obtain ⟨dx,hp⟩:=hA.ins;obtain ⟨kvs,r1,r2,r3,r4⟩:=hA.eO;obtain ⟨q,q1,q2⟩:=r4 e fa hf;have dg:eS H a.be (.int (e:Int)) (some (.ref q)):=.inl ⟨kvs,.inl (e:Int),r1,rfl,q1.symm⟩;refine ⟨_,rfl,a.p,C,dx,_,_,rfl,hp,T.cl,T.nN,yw,?_⟩;refine ⟨_,rfl,_,rfl,a.p,C,dx,_,_,rfl,hp,T.cl,T.nB,zK,a.be,_,rfl,dg,_,rfl,dO ?_⟩;refine ⟨_,rfl,a.p,dx,_,rfl,hp,by with_unfolding_all rfl,_,rfl,a,e,fa,rfl,hA,hf,he,hb,?_⟩;rw [h1,h2];refine ⟨_,rfl,dO ?_⟩;refine ⟨_,rfl,a.p,C,dx,_,_,rfl,hp,T.cl,T.nB,zK,_,rfl,a.be,_,rfl,dg,?_⟩;have gb:=rZ hb;rw [h2] at gb;refine ⟨_,rfl,a9 q2 rfl ⟨_,rfl,_,rfl,a.p,C,dx,_,_,rfl,hp,T.cl,T.nC,pN,_,rfl,a9 q2 rfl ⟨a.ca,_,_,_,rfl,rfl,hA.dX,gb,_,_,rfl,rfl,_,_,rfl,rfl,_,rfl,gr h3 ⟨_,rfl,a9 q2 rfl ⟨_,_,rfl,rfl,_,rfl,g9 ?_ k⟩⟩⟩⟩⟩;show (!decide (a.now-t<=fa.2.2))=false;rw [eQ h4];rfl
theorem DS {co:List Nat}:(co.map fun i:Nat=>V.int (i:Int))=(co.map fun i:Nat=>(i:Int)).map V.int:=by rw [List.map_map];rfl
theorem NB {b:Nat} {co:List Nat}:pG (V.int (b:Int)) (co.map fun i:Nat=>V.int (i:Int))=decide (b∈co):=by
 rw [DS,AE];refine decide_eq_decide.mpr ⟨fun h=>?_,fun h=>List.mem_map_of_mem h⟩;obtain ⟨x,hx,e⟩:=gF.mp h;have e:x=b:=by lia
 exact e▸hx
theorem PR {co:List Nat}:(co.map fun i:Nat=>V.int (i:Int)).all jy=true:=by rw [List.all_map];exact rD.mpr fun _ _=>rfl
theorem mq (F:gc K "tie_lets" "Hand.tie_lets" cp f fd) (T:ou K mg C):aw P w K mg base ax 1 f fd ["self","b","most","coming"] (Qc C):=by
 refine F.ok Z4 (fun _ _ _ _ h=>?_) fun _ A _ s H _ Q E hr h=>?_
 ·obtain ⟨_,_,_,_,_,rfl,_⟩:=h;rfl
 ·obtain ⟨a,b,v,cl,co,rfl,hA,hb,mQ,k⟩:=h;refine ⟨_,aY (d0 (cV wQ (cW df (cS (pv 0) rfl) (pv 1) (fun _ _=>rfl)) j7) (az (c7 (kL ko (cW df (cS (pv 0) rfl) (pv 1) (fun _ _=>rfl)) (cG iE (cS (pv 0) rfl) (pv 2))))) d9)
   (az (c7 (M9 (kL yW (pv 2) aH) (vh (vg (kL fw (pv 2) aH) (vh (OB DZ (pv 1) (pv 3) (by with_unfolding_all rfl)))))))),?_⟩
  obtain ⟨dx,hp⟩:=hA.ins;have gb:=rZ hb;unfold HD.jP at k;refine fun N1 c1=>⟨_,rfl,a.p,C,dx,_,_,rfl,hp,T.cl,T.nC,pN,_,rfl,a.ca,_,_,_,rfl,rfl,hA.dX,gb,rfl,_,rfl,?_⟩;rw [vf]
  cases hc:HD.cm a.c b with
  | some t=>
   rw [hc] at gb k;exact iN ⟨_,rfl,a.p,C,dx,_,_,rfl,hp,T.cl,T.nC,pN,_,rfl,a.ca,_,_,_,rfl,rfl,hA.dX,gb,_,rfl,a.p,C,dx,_,_,rfl,hp,T.cl,T.nN,yw,_,rfl,_,_,rfl,rfl,_,_,rfl,rfl,k⟩
  | none=>
   rw [hc] at k;refine dO (c1 _ _ ?_);refine ⟨_,rfl,_,_,rfl,rfl,_,rfl,?_⟩
   by_cases h0:0<v
   ·exact gr h0 (qc k (by rw [eQ h0];rfl))
   ·refine ix h0 ⟨_,rfl,rfl,_,rfl,?_⟩;rw [Hk]
    by_cases h1:v=0
    ·refine gr h1 ⟨_,rfl,_,rfl,cl,_,rfl,.inl (ay.of mQ),rfl,PR,?_⟩;refine qc k ?_;rw [eP h0,eQ h1,NB];rfl
    ·exact ix h1 (qc k (by rw [eP h0,eP h1];rfl))
theorem kW (F:gc K "wait_lets" "Hand.wait_lets" bX f fd) (T:ou K mg C):aw P w K mg base ax 1 f fd ["self","end","least"] (Q0 C):=by
 refine F.ok QZ (fun _ _ _ _ h=>?_) fun _ A _ s H _ Q E hr h=>?_
 ·obtain ⟨_,_,_,_,rfl,_⟩:=h;rfl
 ·obtain ⟨a,e,v,fa,rfl,hA,hf,he,hb,k⟩:=h;have hu:=jK hr;refine ⟨_,cC (cI 3 QZ.nd (cW df (cS (pv 0) rfl) (aE (kD hu (cS (pv 0) rfl) (pv 1) (fun _ _=>rfl))) (fun _ _=>rfl)))
   (az (c7 (M9 (kL wQ (cW df (cS (pv 0) rfl) (pv 1) (fun _ _=>rfl)) j7) (vh (vg (kL wQ (pv 3) j7) (vh (kL Ho (cG iO (cS (pv 0) rfl) (pv 3)) (pv 2)))))))),?_⟩
  obtain ⟨dx,hp⟩:=hA.ins;obtain ⟨kvs,r1,r2,r3,r4⟩:=hA.eO;obtain ⟨q,q1,q2⟩:=r4 e fa hf;have dg:eS H a.be (.int (e:Int)) (some (.ref q)):=.inl ⟨kvs,.inl (e:Int),r1,rfl,q1.symm⟩;unfold HD.i8 at k;rw [hf] at k;have k:Q (.bl ((HD.cm a.c e).isSome || match HD.cm a.c fa.1 with | some t=>decide (v<=a.now-t) | none=>false)) H:=k;refine ⟨_,rfl,a.p,C,dx,_,_,rfl,hp,T.cl,T.nC,pN,_,rfl,a.p,C,dx,_,_,rfl,hp,T.cl,T.nB,zK,_,rfl,a.be,_,rfl,dg,a9 q2 rfl ⟨a.ca,_,_,_,rfl,rfl,hA.dX,rZ hb,?_⟩⟩;refine ⟨_,rfl,a.p,C,dx,_,_,rfl,hp,T.cl,T.nC,pN,_,rfl,a.ca,_,_,_,rfl,rfl,hA.dX,rZ he,rfl,_,rfl,?_⟩;rw [vf]
  cases hc:HD.cm a.c e with
  | some t=>rw [hc] at k;exact iN (qc k rfl)
  | none=>
   rw [hc] at k;refine dO ⟨_,rfl,rfl,_,rfl,?_⟩;rw [vf]
   cases hd:HD.cm a.c fa.1 with
   | none=>rw [hd] at k;exact dO (qc k rfl)
   | some t=>
    rw [hd] at k;exact iN ⟨_,rfl,a.p,C,dx,_,_,rfl,hp,T.cl,T.nN,yw,_,rfl,_,_,rfl,rfl,_,rfl,_,_,rfl,rfl,k⟩
structure d_ (a:hX):Prop where
 t:∀x∈a.T,x.2.1<a.c.length
 m:∀x∈a.M,∃f,a.F x.2.1=some f/\x.2.1<a.c.length/\f.1<a.c.length
 tl:a.T.length<=100
 ml:a.M.length<=100
 own:∀m∈a.own,m<a.c.length
 ol:a.own.length<=100
noncomputable def MY (C:Addr):Sp:=fun vs H Q _=>∃(a:hX) (m:Nat) (cl:Addr) (co:List Nat),vs=[.ref a.p,.int (m:Int),.ref cl]/\a.At C H/\d_ a/\H cl=some (.lst (co.map fun i:Nat=>V.int (i:Int)))/\∀H',aM H H'->Q (.bl (HD.lets a.T a.M a.F a.c a.now m co)) H'
noncomputable abbrev Kf:List Str:=["self","moment","coming","ties","waits"]
theorem Hc:cF Kf ["self","moment","coming"] (aZ cq):=cT
theorem ZD:i7 (aZ cq) Kf (kh [(".0",.local),("a",.local),("b",.local),("most",.local),("coming",.free),("moment",.free),("self",.free)]) ["a","b","most","coming","moment","self"] [none,none,none,some 2,some 1,some 0]:=kj
theorem ZE:i7 (aZ cq) Kf (kh [(".0",.local),("a",.local),("end",.local),("least",.local),("moment",.free),("self",.free)]) ["a","end","least","moment","self"] [none,none,none,some 1,some 0]:=kj
theorem Hm:(["a","b","most","coming","moment","self"]:List Str).Nodup:=by decide+kernel
theorem Hn:(["a","end","least","moment","self"]:List Str).Nodup:=by decide+kernel
theorem ug (F:gc K "lets" "Hand.lets" cq f fd) (T:ou K mg C) (bP:mg "all"=none)
 (mT:gq K C "tie_lets" fT) (bT:dP K kI ["self","b","most","coming"] []) (GT:aw P w K mg base ax 1 fT kI ["self","b","most","coming"] (Qc C))
 (mW:gq K C "wait_lets" fW) (bW:dP K wk ["self","end","least"] []) (GW:aw P w K mg base ax 1 fW wk ["self","end","least"] (Q0 C)):aw P w K mg base ax 2 f fd ["self","moment","coming"] (MY C):=by
 refine F.ok Hc (fun _ _ _ _ h=>?_) fun _ A _ s H _ Q E hr h=>?_
 ·obtain ⟨_,_,_,_,rfl,_⟩:=h;rfl
 ·obtain ⟨a,m,cl,co,rfl,hA,ae,mQ,k⟩:=h;refine ⟨_,aY (wR (i:=3) Hc.nd rfl rfl rfl (gA (cS (pv 0) rfl)) ZD (fun cl ex s0 H0=>⟨A7 (K:=K) (n:=3) rfl rfl (eL (cj 0 Hm) (eL (cj 1 Hm) (eL (cj 2 Hm) qg))),pA (cV fw (pv 0) (pv 4)),gX (pv 5) T.cl mT GT hr bT .nil ee (gD (pv 1) (pv 2) (pv 3))⟩))
   (aY (wR (i:=4) Hc.nd rfl rfl rfl (gA (cS (pv 0) rfl)) ZE (fun cl ex s0 H0=>⟨A7 (K:=K) (n:=3) rfl rfl (eL (cj 0 Hn) (eL (cj 1 Hn) (eL (cj 2 Hn) qg))),pA (cV fw (pv 0) (pv 3)),gX (pv 4) T.cl mW GW hr bW .nil ee (cf (pv 1) (pv 2))⟩))
   (az (c7 (vg (kE (P4 rfl) (by rfl) bP (by decide+kernel) (cw (pv 3))) (vh (kE (P4 rfl) (by rfl) bP (by decide+kernel) (cw (pv 4)))))))),?_⟩
  obtain ⟨dx,hp⟩:=hA.ins;obtain ⟨ps,Sj,Bw⟩:=hA.tN;obtain ⟨qs,nZ,xR⟩:=hA.vD;refine fun N1 c1=>⟨_,rfl,a.p,C,dx,_,_,rfl,hp,T.cl,T.nT,h_t,a.lt,rfl,⟨_,ay.of Sj⟩,fun Da dh=>?_⟩;refine o7 (K:=K) (a:=a.lt) (xs:=ps.map V.ref) (fun j aa H'=>∃v0 v1 v2,aa=[v0,v1,v2,some (.ref cl),some (.int (m:Int)),some (.ref a.p)]/\H' Da=some (.lst ((((a.T.take j).filter fun x=>decide (x.1=m)).map fun x=>HD.jP a.c a.now co x.2.1 x.2.2).map V.bl))/\aM H H') ⟨none,none,none,rfl,aq,bj dh⟩ ?_ ?_ ?_
  ·rintro j aa H1 _ ⟨v0,v1,v2,rfl,_,s1⟩;exact ay.of (s1 _ _ Sj)
  ·rintro j y aa H1 hy ⟨v0,v1,v2,rfl,e1,s1⟩;rw [dt] at hy
   cases hq:ps[j]? with
   | none=>rw [hq] at hy;cases hy
   | some q=>
    rw [hq] at hy;cases hy;obtain ⟨x,hx,iF⟩:=av Bw hq;have iF:H1 q=some (.tup [.int (x.1:Int),.int (x.2.1:Int),.int x.2.2]):=s1 _ _ iF;have et:a.T.take (j+1)=a.T.take j++[x]:=by rw [jC,hx];rfl
    refine ⟨q,_,rfl,dz.of iF,rfl,_,_,rfl,_,_,rfl,_,_,rfl,rfl,_,rfl,_,rfl,rfl,_,rfl,?_⟩;rw [p_]
    by_cases c:x.1=m
    ·refine gr c ⟨_,rfl,a.p,dx,_,rfl,s1 _ _ hp,by with_unfolding_all rfl,_,rfl,_,rfl,_,rfl,a,x.2.1,x.2.2,cl,co,rfl,hA.same s1,ae.t x (dZ hx),s1 _ _ mQ,_,e1,?_,_,_,_,rfl,?_,fun b o e=>?_⟩
     ·rw [a7,a7];have:=List.length_filter_le (fun x:lW=>decide (x.1=m)) (a.T.take j);rw [iA] at this;have:=ae.tl;exact fi (by lia)
     ·rw [aq,et,List.filter_append,List.filter_cons_of_pos (by exact eQ c),List.filter_nil,eJ,eJ];rfl
     ·rw [au (aO e dh)];exact s1 _ _ e
    ·refine ix c ⟨_,_,_,rfl,?_,s1⟩;rw [et,List.filter_append,List.filter_cons_of_neg (by rw [ju];exact c),List.filter_nil,List.append_nil];exact e1
  rintro aa H1 ⟨v0,v1,v2,rfl,e1,s1⟩;rw [a7,Paired.length Bw,ir] at e1;refine c1 _ _ ?_;clear c1 N1;refine fun N1 c1=>⟨_,rfl,a.p,C,dx,_,_,rfl,s1 _ _ hp,T.cl,T.nW,h_w,a.lw,rfl,⟨_,ay.of (s1 _ _ nZ)⟩,fun Db sH=>?_⟩;refine o7 (K:=K) (a:=a.lw) (xs:=qs.map V.ref) (fun j aa H'=>∃v0 v1 v2,aa=[v0,v1,v2,some (.int (m:Int)),some (.ref a.p)]/\H' Db=some (.lst ((((a.M.take j).filter fun x=>decide (x.1=m)).map fun x=>HD.i8 a.c a.now a.F x.2.1 x.2.2).map V.bl))/\aM H1 H') ⟨none,none,none,rfl,aq,bj sH⟩ ?_ ?_ ?_
  ·rintro j aa H2 _ ⟨v0,v1,v2,rfl,_,s2⟩;exact ay.of (s2 _ _ (s1 _ _ nZ))
  ·rintro j y aa H2 hy ⟨v0,v1,v2,rfl,e2,s2⟩;rw [dt] at hy
   cases hq:qs[j]? with
   | none=>rw [hq] at hy;cases hy
   | some q=>
    rw [hq] at hy;cases hy;obtain ⟨x,hx,iF⟩:=av xR hq;have sf:=s1.trans s2;have iF:H2 q=some (.tup [.int (x.1:Int),.int (x.2.1:Int),.int x.2.2]):=sf _ _ iF;have et:a.M.take (j+1)=a.M.take j++[x]:=by rw [jC,hx];rfl
    obtain ⟨fx,f1,f2,f3⟩:=ae.m x (dZ hx);refine ⟨q,_,rfl,dz.of iF,rfl,_,_,rfl,_,_,rfl,_,_,rfl,rfl,_,rfl,_,rfl,rfl,_,rfl,?_⟩;rw [p_]
    by_cases c:x.1=m
    ·refine gr c ⟨_,rfl,a.p,dx,_,rfl,sf _ _ hp,by with_unfolding_all rfl,_,rfl,_,rfl,a,x.2.1,x.2.2,fx,rfl,hA.same sf,f1,f2,f3,_,e2,?_,_,_,_,rfl,?_,fun b o e=>?_⟩
     ·rw [a7,a7];have:=List.length_filter_le (fun x:lW=>decide (x.1=m)) (a.M.take j);rw [iA] at this;have:=ae.ml;exact fi (by lia)
     ·rw [aq,et,List.filter_append,List.filter_cons_of_pos (by exact eQ c),List.filter_nil,eJ,eJ];rfl
     ·rw [au (aO e sH)];exact s2 _ _ e
    ·refine ix c ⟨_,_,_,rfl,?_,s2⟩;rw [et,List.filter_append,List.filter_cons_of_neg (by rw [ju];exact c),List.filter_nil,List.append_nil];exact e2
  rintro aa H2 ⟨v0,v1,v2,rfl,e2,s2⟩;rw [a7,Paired.length xR,ir] at e2;refine c1 _ _ ?_;clear c1 N1;have k:=k H2 (s1.trans s2);unfold HD.lets at k;refine ⟨_,rfl,Da,_,rfl,s2 _ _ e1,_,rfl,?_⟩;rw [List.all_map]
  cases hc:((a.T.filter fun x=>decide (x.1=m)).all fun x=>HD.jP a.c a.now co x.2.1 x.2.2) with
  | false=>
   rw [hc] at k;exact g9 hc (qc k rfl)
  | true=>
   rw [hc] at k;refine pk hc ⟨_,rfl,Db,_,rfl,e2,?_⟩;rw [List.all_map];exact qc k (Bool.true_and _)
noncomputable abbrev hX.S (a:hX):List Nat->List Nat:=HD.step a.T a.M a.F a.c a.now
noncomputable def hX.l0 (a:hX):List Nat:=a.own.filter fun m=>(HD.cm a.c m).isNone
noncomputable def Pc (C:Addr):Sp:=fun vs H Q _=>∃a:hX,vs=[.ref a.p]/\a.At C H/\d_ a/\∀l H' r j,H l=none->aM H H'->H' l=some (.lst (r.map fun i:Nat=>V.int (i:Int)))->r=HD.iter a.S j a.l0->a.S r=r->Q (.ref l) H'
theorem zo {l:List Nat} {j:Nat} {m:Nat} (h:l[j]?=some m):(l.take (j+1)).filter p=(l.take j).filter p++if p m=true then [m] else []:=by
 rw [jC,h,List.filter_append];show _++[m].filter p=_
 by_cases c:p m=true
 ·rw [if_pos c,List.filter_cons_of_pos c];rfl
 ·rw [if_neg c,List.filter_cons_of_neg c];rfl
theorem OW (h:d_ a) (j:Nat):(HD.iter a.S j a.l0).length<=100:=by
 have h1:a.l0.length<=100:=dY (List.length_filter_le _ _) h.ol
 induction j with
 | zero=>exact h1
 | succ j ih=>rw [HD.dq];exact dY (HD.kQ _) ih
noncomputable abbrev Ke:List Str:=["self","coming","left"]
theorem Ah:cF Ke ["self"] (aZ a_):=cT
theorem ZF:i7 (aZ a_) Ke (kh [(".0",.local),("moment",.local),("self",.free)]) ["moment","self"] [none,some 0]:=kj
theorem M5:i7 (aZ a_) Ke (kh [(".0",.local),("moment",.local),("coming",.free),("self",.free)]) ["moment","coming","self"] [none,some 1,some 0]:=kj
theorem UJ:(["moment","self"]:List Str).Nodup:=by decide+kernel
theorem M8:(["moment","coming","self"]:List Str).Nodup:=by decide+kernel
theorem oO (F:gc K "all_let" "Hand.all_let" a_ f fd) (T:ou K mg C)
 (mL:gq K C "lets" fL) (bL:dP K Ci ["self","moment","coming"] []) (GL:aw P w K mg base ax 2 fL Ci ["self","moment","coming"] (MY C)):aw P w K mg base ax 3 f fd ["self"] (Pc C):=by
 refine F.ok Ah (fun _ _ _ _ h=>?_) fun _ A _ s H _ Q E hr h=>?_
 ·obtain ⟨_,rfl,_⟩:=h;rfl
 ·obtain ⟨a,rfl,hA,ae,k⟩:=h;refine ⟨_,aY (tj (i:=1) Ah.nd rfl (Or.inr rfl) (o5 rfl (gA (cS (pv 0) rfl)) ZF (fun cl ex s0 H0=>⟨cj 0 UJ,pA (cV Av (cW df (t8 (K:=K) rfl (pv 1) rfl) (pv 0) (fun _ _=>rfl)) j7),pv 0⟩)))
   (aY (wR (i:=2) Ah.nd rfl rfl rfl (gA (pv 1)) M5 (fun cl ex s0 H0=>⟨cj 0 M8,pA (rV (gX (pv 2) T.cl mL GL hr bL .nil ee (cf (pv 0) (pv 1)))),pv 0⟩))
   (aY (Py PassesOwn.never (cV (U_ hr.units) (pv 2) (pv 1))
    (aY (tj (i:=1) Ah.nd rfl (Or.inr rfl) (pv 2))
    (az (wR (i:=2) Ah.nd rfl rfl rfl (gA (pv 1)) M5 (fun cl ex s0 H0=>⟨cj 0 M8,pA (rV (gX (pv 2) T.cl mL GL hr bL .nil ee (cf (pv 0) (pv 1)))),pv 0⟩)))))
   (az (c7 (pv 2))))),?_⟩
  obtain ⟨dx,hp⟩:=hA.ins;refine fun N1 c1=>⟨_,rfl,a.p,C,dx,_,_,rfl,hp,T.cl,T.nO,h_o,a.ow,rfl,⟨_,ay.of hA.own⟩,fun Da dh=>?_⟩;refine o7 (K:=K) (a:=a.ow) (xs:=a.own.map fun i:Nat=>V.int (i:Int)) (fun j aa H'=>∃v,aa=[v,some (.ref a.p)]/\H' Da=some (.lst (((a.own.take j).filter fun m=>(HD.cm a.c m).isNone).map fun i:Nat=>V.int (i:Int)))/\aM H H') ⟨none,rfl,aq,bj dh⟩ ?_ ?_ ?_
  ·rintro j aa H1 _ ⟨v,rfl,_,s1⟩;exact ay.of (s1 _ _ hA.own)
  ·rintro j y aa H1 hy ⟨v,rfl,e1,s1⟩;rw [dt] at hy
   cases hq:a.own[j]? with
   | none=>rw [hq] at hy;cases hy
   | some m=>
    rw [hq] at hy;cases hy;have hj:=(ff.mp hq).1;have hm:=ae.own m (dZ hq);have ye:=ae.ol;refine ⟨_,rfl,a.p,C,dx,_,_,rfl,s1 _ _ hp,T.cl,T.nC,pN,_,rfl,a.ca,_,_,_,rfl,rfl,s1 _ _ hA.dX,rZ hm,rfl,_,rfl,?_⟩;rw [vf]
    cases hc:(HD.cm a.c m).isNone with
    | true=>
     refine iN ⟨_,rfl,_,e1,?_,_,rfl,?_,fun b o e=>?_⟩
     ·rw [a7];have:=List.length_filter_le (fun m=>(HD.cm a.c m).isNone) (a.own.take j);rw [iA] at this;exact fi (by lia)
     ·rw [aq,zo hq,if_pos hc,eJ];rfl
     ·rw [au (aO e dh)];exact s1 _ _ e
    | false=>
     refine dO ⟨_,rfl,?_,s1⟩;rw [zo hq,if_neg (by rw [hc];exact eR),List.append_nil];exact e1
  rintro aa H1 ⟨v,rfl,e1,s1⟩;rw [a7,ir] at e1;have e1:H1 Da=some (.lst (a.l0.map fun i:Nat=>V.int (i:Int))):=e1;have rg:=dh;refine c1 _ _ ?_;clear c1 N1;have ll0:a.l0.length<=100:=OW ae 0;refine fun N1 c1=>⟨_,rfl,Da,rfl,⟨_,ay.of e1⟩,fun Db sH=>?_⟩;refine o7 (K:=K) (a:=Da) (xs:=a.l0.map fun i:Nat=>V.int (i:Int)) (fun j aa H'=>∃v,aa=[v,some (.ref Da),some (.ref a.p)]/\H' Db=some (.lst (((a.l0.take j).filter fun m=>HD.lets a.T a.M a.F a.c a.now m a.l0).map fun i:Nat=>V.int (i:Int)))/\aM H1 H') ⟨none,rfl,aq,bj sH⟩ ?_ ?_ ?_
  ·rintro j aa H2 _ ⟨v,rfl,_,s2⟩;exact ay.of (s2 _ _ e1)
  ·rintro j y aa H2 hy ⟨v,rfl,e2,s2⟩;rw [dt] at hy
   cases hq:a.l0[j]? with
   | none=>rw [hq] at hy;cases hy
   | some m=>
    rw [hq] at hy;cases hy;have hj:=(ff.mp hq).1;have sg:=s1.trans s2;refine ⟨_,rfl,a.p,dx,_,rfl,sg _ _ hp,by with_unfolding_all rfl,_,rfl,_,rfl,a,m,Da,a.l0,rfl,hA.same sg,ae,s2 _ _ e1,fun H3 s3=>⟨_,rfl,?_⟩⟩;have e3:=s3 _ _ e2
    cases hc:HD.lets a.T a.M a.F a.c a.now m a.l0 with
    | true=>
     refine iN ⟨_,rfl,_,e3,?_,_,rfl,?_,fun b o e=>?_⟩
     ·rw [a7];have:=List.length_filter_le (fun m=>HD.lets a.T a.M a.F a.c a.now m a.l0) (a.l0.take j);rw [iA] at this;exact fi (by lia)
     ·rw [aq,zo hq,if_pos hc,eJ];rfl
     ·rw [au (aO e sH)];exact s3 _ _ (s2 _ _ e)
    | false=>
     refine dO ⟨_,rfl,?_,s2.trans s3⟩;rw [zo hq,if_neg (by rw [hc];exact eR),List.append_nil];exact e3
  rintro aa H2 ⟨v,rfl,e2,s2⟩;rw [a7,ir] at e2;have e2:H2 Db=some (.lst ((a.S a.l0).map fun i:Nat=>V.int (i:Int))):=e2;refine c1 _ _ ?_;clear c1 N1;refine fun N1 c1=>⟨fun n aa H'=>∃j cl ll,n=(HD.iter a.S j a.l0).length/\aa=[some (.ref a.p),some (.ref cl),some (.ref ll)]/\H' cl=some (.lst ((HD.iter a.S j a.l0).map fun i:Nat=>V.int (i:Int)))/\H' ll=some (.lst ((HD.iter a.S (j+1) a.l0).map fun i:Nat=>V.int (i:Int)))/\H ll=none/\aM H H',
   ⟨_,0,Da,Db,rfl,rfl,s2 _ _ e1,e2,s1.free sH,s1.trans s2⟩,?_⟩
  rintro n aa H3 ⟨j,cl,ll,rfl,rfl,e3,e4,qY,s3⟩;rw [DS] at e3 e4;refine ⟨_,rfl,_,rfl,ll,cl,_,_,rfl,rfl,ay.of e4,ay.of e3,_,rfl,?_⟩;rw [<-DS] at e3 e4
  by_cases hs:HD.iter a.S (j+1) a.l0=HD.iter a.S j a.l0
  ·refine g9 (show (!decide _)=false by rw [hs,eQ rfl];rfl) (c1 _ _ ⟨_,rfl,k ll H3 _ (j+1) qY s3 e4 rfl ?_⟩);rw [hs];exact (HD.dq a.S j a.l0).symm.trans hs
  ·have aW:(HD.iter a.S (j+1) a.l0).length<(HD.iter a.S j a.l0).length:=g8 fun z=>hs (by
    rw [HD.dq] at z ⊢;exact HD.step_same (Nat.le_antisymm (HD.kQ _) (lU z)))
   refine pk (show (!decide _)=true by
    rw [eP fun z=>hs ?_];rfl;have z:=congrArg (List.map Int.toNat) z;rw [List.map_map,List.map_map,show (Int.toNat ∘ fun i:Nat=>(i:Int))=id from funext fun i=>lS i,List.map_id,List.map_id] at z;exact z) ⟨fun aa H'=>∃n',n'<(HD.iter a.S j a.l0).length/\∃j cl ll,n'=(HD.iter a.S j a.l0).length/\aa=[some (.ref a.p),some (.ref cl),some (.ref ll)]/\H' cl=some (.lst ((HD.iter a.S j a.l0).map fun i:Nat=>V.int (i:Int)))/\H' ll=some (.lst ((HD.iter a.S (j+1) a.l0).map fun i:Nat=>V.int (i:Int)))/\H ll=none/\aM H H',fun aa H' z=>z,?_⟩
   have lj:=OW ae (j+1);refine fun N2 c2=>⟨_,rfl,c2 _ _ ?_⟩;clear c2 N2;refine ⟨_,rfl,ll,rfl,⟨_,ay.of e4⟩,fun Dc LO=>?_⟩;refine o7 (K:=K) (a:=ll) (xs:=(HD.iter a.S (j+1) a.l0).map fun i:Nat=>V.int (i:Int)) (fun i aa H'=>∃v,aa=[v,some (.ref ll),some (.ref a.p)]/\H' Dc=some (.lst ((((HD.iter a.S (j+1) a.l0).take i).filter fun m=>HD.lets a.T a.M a.F a.c a.now m (HD.iter a.S (j+1) a.l0)).map fun i:Nat=>V.int (i:Int)))/\aM H3 H') ⟨none,rfl,aq,bj LO⟩ ?_ ?_ ?_
   ·rintro i aa H2 _ ⟨v,rfl,_,s2⟩;exact ay.of (s2 _ _ e4)
   ·rintro i y aa H2 hy ⟨v,rfl,e2,s2⟩;rw [dt] at hy
    cases hq:(HD.iter a.S (j+1) a.l0)[i]? with
    | none=>rw [hq] at hy;cases hy
    | some m=>
     rw [hq] at hy;cases hy;have hj:=(ff.mp hq).1;have sg:=s3.trans s2;refine ⟨_,rfl,a.p,dx,_,rfl,sg _ _ hp,by with_unfolding_all rfl,_,rfl,_,rfl,a,m,ll,(HD.iter a.S (j+1) a.l0),rfl,hA.same sg,ae,s2 _ _ e4,fun H3 s3=>⟨_,rfl,?_⟩⟩;have e3:=s3 _ _ e2
     cases hc:HD.lets a.T a.M a.F a.c a.now m (HD.iter a.S (j+1) a.l0) with
     | true=>
      refine iN ⟨_,rfl,_,e3,?_,_,rfl,?_,fun b o e=>?_⟩
      ·rw [a7];have:=List.length_filter_le (fun m=>HD.lets a.T a.M a.F a.c a.now m (HD.iter a.S (j+1) a.l0)) ((HD.iter a.S (j+1) a.l0).take i);rw [iA] at this;exact fi (by lia)
      ·rw [aq,zo hq,if_pos hc,eJ];rfl
      ·rw [au (aO e LO)];exact s3 _ _ (s2 _ _ e)
     | false=>
      refine dO ⟨_,rfl,?_,s2.trans s3⟩;rw [zo hq,if_neg (by rw [hc];exact eR),List.append_nil];exact e3
   rintro aa H4 ⟨v,rfl,e5,s4⟩;rw [a7,ir] at e5;refine ⟨_,aW,j+1,ll,Dc,rfl,rfl,s4 _ _ e4,?_,s3.free LO,s3.trans s4⟩;rw [HD.dq a.S (j+1)];exact e5
theorem XA {kvs:List (Key×V)} {k:Key} {v:V} {i:Nat} (h:kvs[i]?=some (k,v)):eK kvs k≠none:=fun z=>by
 unfold eK at z;rw [Option.map_eq_none_iff,List.find?_eq_none] at z;exact z (k,v) (dZ h) (eQ rfl)
theorem jF.dB {own:List Nat} {now:Int} (h:jF C H p lt lw be ow ca F T M own c now) (hb:H be=some (.dK kvs)) (hr:Rd H' be (.dK kvs)) (k:∀b u,H b=some u->b≠be->H' b=some u):jF C H' p lt lw be ow ca F T M own c now:=by
 obtain ⟨⟨dx,h1⟩,⟨ps,h2,h3⟩,⟨qs,h4,h5⟩,⟨gO,r1,r2,r3,r4⟩,h7,h8⟩:=h;have tup:∀{q xs},H q=some (.tup xs)->H' q=some (.tup xs):=fun e=>k _ _ e (aQ e hb nofun);have e:gO=kvs:=by
  rcases r1 with r1 | ⟨o,r1⟩
  ·rw [hb] at r1;cases r1;rfl
  ·rw [hb] at r1;cases r1
 subst e;refine ⟨⟨dx,k _ _ h1 (aQ h1 hb nofun)⟩,⟨ps,k _ _ h2 (aQ h2 hb nofun),dN h3 fun q r e=>tup e⟩,⟨qs,k _ _ h4 (aQ h4 hb nofun),dN h5 fun q r e=>tup e⟩,⟨gO,hr,r2,r3,fun e f hf=>?_⟩,k _ _ h7 (aQ h7 hb nofun),k _ _ h8 (aQ h8 hb nofun)⟩;obtain ⟨q,q1,q2⟩:=r4 e f hf;exact ⟨q,q1,tup q2⟩
structure Du (a:hX) (fs:List Nat):Prop where
 nd:fs.Nodup
 ok:∀e∈fs,∃f t,a.F e=some f/\HD.cm a.c e=none/\HD.cm a.c f.1=some t/\f.2.1<=a.now-t/\a.now-t<=f.2.2
 all:∀e f t,a.F e=some f->HD.cm a.c e=none->HD.cm a.c f.1=some t->f.2.2<=a.now-t->e∈fs
 lt:∀e f,a.F e=some f->e<a.c.length/\f.1<a.c.length
noncomputable def MZ (C:Addr):Sp:=fun vs H Q _=>∃(a:hX) (fl:Addr) (fs:List Nat),vs=[.ref a.p,.ref fl]/\a.At C H/\H fl=some (.lst (fs.map fun i:Nat=>V.int (i:Int)))/\Du a fs/\(∃kvs,H a.be=some (.dK kvs))/\
 ∀o kvs H',H a.be=some (.dK kvs)->H' a.be=some (.dB o (.dK kvs))->(∀b u,H b=some u->b≠a.be->H' b=some u)->Q .bf H'
noncomputable abbrev nHo:List Str:=["self","fallen","now","end","fall"]
theorem Ai:cF nHo ["self","fallen"] (aZ bY):=cT
theorem kX {f C fE fI:Addr} {fd zQ wo:FuncData} (F:gc K "look_over" "Hand.look_over" bY f fd) (T:ou K mg C)
 (mE:gq K C "look_over_end" fE) (bE:dP K zQ ["self","end"] []) (GE:aw P w K mg base ax 2 fE zQ ["self","end"] (PN C))
 (mI:gq K C "is_in_fall" fI) (bI:dP K wo ["self","end"] []) (GI:aw P w K mg base ax 1 fI wo ["self","end"] (IE C)):aw P w K mg base ax 3 f fd ["self","fallen"] (MZ C):=by
 refine F.ok Ai (fun _ _ _ _ h=>?_) fun _ A _ s H _ Q E hr h=>?_
 ·obtain ⟨_,_,_,rfl,_⟩:=h;rfl
 ·obtain ⟨a,fl,fs,rfl,hA,jt,hF,⟨kvs,gY⟩,k⟩:=h;have hu:=jK hr;have gE:dn 1 _:=hr.mono (by decide);refine ⟨_,aY (cI 2 Ai.nd (cS (pv 0) rfl))
   (aY (iP PassesOwn.never rfl (gA (pv 1)) (cj 3 Ai.nd)
    (cC (gB (gX (pv 0) T.cl mE GE hr bE .nil ee (cw (pv 3))))
    (az (d0 (cV yW (px pU PySem.F.slot_list_count PySem.F.type_list_count Wy (pv 1) (cw (pv 3))) aH) o8 d9))))
   (az (iP PassesOwn.never rfl (WI (cS (pv 0) rfl)) (cj 3 Ai.nd)
    (aY (cI 4 Ai.nd (kD hu (cS (pv 0) rfl) (pv 3) (fun _ _=>rfl)))
    (az (d0 (PW.pt (rW (rV (gX (pv 0) T.cl mI GI gE bI .nil ee (cw (pv 3)))) (rW (cV Ho (cG iO (pv 2) (cW df (cS (pv 0) rfl) (aE (pv 4)) (fun _ _=>rfl))) (aE (pv 4))) (vm (zg QG (pv 3) (pv 1) (by with_unfolding_all rfl)))))) o8 d9)))))),?_⟩
  obtain ⟨dx,hp⟩:=hA.ins;refine fun N1 c1=>⟨_,rfl,a.p,C,dx,_,_,rfl,hp,T.cl,T.nN,yw,c1 _ _ ?_⟩;clear c1 N1;refine fun N1 c1=>⟨_,rfl,fl,rfl,⟨_,ay.of jt⟩,?_⟩;refine kO (K:=K) (a:=fl) (xs:=fs.map fun i:Nat=>V.int (i:Int)) (fun i aa H'=>∃v3,aa=[some (.ref a.p),some (.ref fl),some (.int a.now),v3,none]/\H'=H) ⟨none,rfl,rfl⟩ ?_ ?_ ?_
  ·rintro i aa H1 _ ⟨v3,rfl,rfl⟩;exact ay.of jt
  ·rintro i y aa H1 hy ⟨v3,rfl,rfl⟩;rw [dt] at hy
   cases hq:fs[i]? with
   | none=>rw [hq] at hy;cases hy
   | some e=>
    rw [hq] at hy;cases hy;have he:=dZ hq;obtain ⟨fa,t,f1,f2,f3,f4,f5⟩:=hF.ok e he;obtain ⟨l1,l2⟩:=hF.lt e fa f1;refine ⟨_,rfl,a.p,dx,_,rfl,hp,by with_unfolding_all rfl,_,rfl,a,e,fa,t,rfl,hA,f1,l1,l2,f2,f3,f4,f5,?_⟩;rw [DS] at jt;refine ⟨_,rfl,.inl ⟨rfl,_,ay.of jt⟩,_,rfl,fl,_,_,rfl,rfl,jt,_,_,rfl,rfl,_,rfl,ix ?_ ⟨_,rfl,rfl⟩⟩;have h1:(fs.map fun i:Nat=>(i:Int)).Nodup:=by
     unfold List.Nodup;rw [List.pairwise_map];exact hF.nd.imp fun h z=>h (by lia)
    have:=List.nodup_iff_count.mp h1 (e:Int);lia
  rintro aa H1 ⟨v3,rfl,rfl⟩;refine c1 _ _ ?_;clear c1 N1;refine ⟨_,rfl,a.p,C,dx,_,_,rfl,hp,T.cl,T.nB,zK,a.be,kvs,rfl,gY,fun _ o=>?_⟩;have lQ:upd H1 a.be (.dB o (.dK kvs)) a.be=some (.dB o (.dK kvs)):=aq;have kp:∀b u,H1 b=some u->b≠a.be->upd H1 a.be (.dB o (.dK kvs)) b=some u:=fun b u e n=>by rw [au n];exact e
  have FJ:a.At C (upd H1 a.be (.dB o (.dK kvs))):=jF.dB hA gY (.inr ⟨o,lQ⟩) kp;have kk:=k o kvs _ gY lQ kp;have L3:=kp _ _ jt (aQ jt gY nofun);generalize upd H1 a.be (.dB o (.dK kvs))=H2 at*;obtain ⟨Cr,gz⟩:=FJ.ins;obtain ⟨gO,r1,r2,r3,r4⟩:=FJ.eO;have ek:gO=kvs:=by
   rcases r1 with r1 | ⟨o',r1⟩
   ·rw [lQ] at r1;cases r1
   ·rw [lQ] at r1;cases r1;rfl
  subst ek;refine Xm (a:=a.be) (o:=o) (kvs:=gO) (fun i aa H'=>∃v3 v4,aa=[some (.ref a.p),some (.ref fl),some (.int a.now),v3,v4]/\H'=H2) ⟨_,_,rfl,rfl⟩ ?_ ?_ ?_
  ·rintro i aa H3 _ ⟨v3,v4,rfl,rfl⟩;exact lQ
  ·rintro i key v aa H3 ef ⟨v3,v4,rfl,rfl⟩;obtain ⟨e,he⟩:=r2.2 _ (dZ ef);have he:key=Sum.inl (e:Int):=he;subst he;obtain ⟨fa,hf⟩:∃fa,a.F e=some fa:=by
    cases h:a.F e with
    | none=>exact absurd (r3 e h) (XA ef)
    | some fa=>exact ⟨fa,rfl⟩
   obtain ⟨l1,l2⟩:=hF.lt e fa hf;obtain ⟨q,q1,q2⟩:=r4 e fa hf;have dg:eS H3 a.be (.int (e:Int)) (some (.ref q)):=.inl ⟨gO,.inl (e:Int),r1,rfl,q1.symm⟩;refine fun N2 c2=>⟨_,rfl,a.p,C,Cr,_,_,rfl,gz,T.cl,T.nB,zK,_,rfl,a.be,_,rfl,dg,c2 _ _ ?_⟩;clear c2 N2;refine ⟨_,rfl,a.p,Cr,_,rfl,gz,by with_unfolding_all rfl,_,rfl,a,e,fa,rfl,FJ,hf,l1,l2,_,rfl,?_⟩
   cases h1:HD.cm a.c e with
   | some t=>exact dO (dO ⟨_,_,rfl,rfl⟩)
   | none=>
    cases h2:HD.cm a.c fa.1 with
    | none=>exact dO (dO ⟨_,_,rfl,rfl⟩)
    | some t=>
     have gb:=rZ l2;rw [h2] at gb;refine iN ⟨_,rfl,_,rfl,a.p,C,Cr,_,_,rfl,gz,T.cl,T.nC,pN,_,rfl,a9 q2 rfl ⟨a.ca,_,_,_,rfl,rfl,FJ.dX,gb,_,_,rfl,rfl,_,rfl,a9 q2 rfl ⟨_,_,rfl,rfl,_,rfl,?_⟩⟩⟩
     by_cases h3:fa.2.2<=a.now-t
     case neg=>exact ix h3 (dO ⟨_,_,rfl,rfl⟩)
     refine gr h3 ⟨_,rfl,_,rfl,fl,_,rfl,.inl (ay.of L3),rfl,PR,_,rfl,g9 ?_ ⟨_,_,rfl,rfl⟩⟩;show (!pG (V.int (e:Int)) _)=false;rw [NB,eQ (hF.all e fa t hf h1 h2 h3)];rfl
  ·rintro aa H3 ⟨v3,v4,rfl,rfl⟩;exact kk
end Y0
namespace MU
noncomputable def iS (st:St):Prop:=(∀(i:Nat) (r:Row),st.rows[i]?=some r->r.used.length<=2/\∀j∈r.used,j<i)/\∀b,st.bar=some b->∃r,st.rows[b]?=some r/\iL r.cP
theorem Qi {w:ao} (h:iS st) (hu:us.length<=2/\∀j∈us,j<st.rows.length):iS (take st w word us):=by
 unfold take;split
 ·refine ⟨fun i r hr=>?_,fun b hb=>?_⟩
  ·have hr:(st.rows++[⟨w,word,us⟩])[i]?=some r:=hr
   by_cases hi:i<st.rows.length
   ·rw [pR hi] at hr;exact h.1 i r hr
   ·rw [oY (by exact lU hi)] at hr
    cases hk:i-st.rows.length with
    | zero=>
     rw [hk] at hr;cases hr;exact ⟨hu.1,fun j hj=>by have:=hu.2 j hj;lia⟩
    | succ k=>rw [hk] at hr;cases hr
  ·have hb:(if st.bar=none/\iL w then some st.rows.length else st.bar)=some b:=hb;show ∃r,(st.rows++[(⟨w,word,us⟩:Row)])[b]?=some r/\iL r.cP
   by_cases hc:st.bar=none/\iL w
   ·rw [if_pos hc] at hb;cases hb;exact ⟨_,by rw [oY (aF _),Nat.sub_self];rfl,hc.2⟩
   ·rw [if_neg hc] at hb;obtain ⟨r,hr,hB⟩:=h.2 b hb;exact ⟨r,by rw [pR (ff.mp hr).1];exact hr,hB⟩
 ·exact h
theorem Pz (h:iS st) (hu:∀x,o=some x->us.length<=2/\∀j∈us,j<st.rows.length):iS (put st o word us):=by
 cases o with
 | none=>exact h
 | some x=>exact Qi h (hu x rfl)
theorem EA (h:iS st):iS (aP f word i st):=by
 refine Pz h fun x hx=>⟨by show 1<=2;exact Nat.le.step Nat.le.refl,fun j hj=>?_⟩
 cases hw:ah st i with
 | none=>rw [hw] at hx;cases hx
 | some y=>rw [jw.mp hj];exact nI hw
theorem EB (h:iS st):iS (ar f word i j st):=by
 refine Pz h fun x hx=>⟨aF 2,fun k hk=>?_⟩
 cases hw:ah st i with
 | none=>rw [hw] at hx;cases hx
 | some y=>
  rw [hw] at hx
  cases lO:ah st j with
  | none=>rw [show ((some y).bind fun p=>(ah st j).bind fun q=>f p q)=(ah st j).bind fun q=>f y q from rfl,lO] at hx;cases hx
  | some z=>
   rcases iJ.mp hk with rfl | hk
   ·exact nI hw
   ·rw [jw.mp hk];exact nI lO
theorem zp {α:Type} {g:St->α->St} (hg:∀st a,iS st->iS (g st a)):∀(l:List α) (st:St),iS st->iS (l.foldl g st)
 | [],_,h=>h
 | a::l,st,h=>zp hg l _ (hg st a h)
theorem XR (rows:List ao) (st:St) (h:iS st):iS (ma rows st):=zp (fun st w h=>Qi h ⟨dM _,fun j hj=>absurd hj (by simp)⟩) rows st h
theorem XH:iS empty:=⟨fun i r h=>by simp [empty] at h,fun b h=>by simp [empty] at h⟩
theorem Yt {n:Nat} {F:cv} {at_ a b:Nat} {st:St} (h:iS st):iS (eV n F at_ a b st):=
 zp (fun _ _ h=>EB h) _ _ (zp (fun _ _ h=>EB h) _ _ (zp (fun _ _ h=>EB h) _ _ (EA (EA h))))
theorem Yw {n:Nat} {F:cv} {at_ a:Nat} {st:St} (h:iS st):iS (fX n F at_ a st):=
 zp (fun _ _ h=>EB h) _ _ (EA (EA h))
theorem Pa (h:iS st):∀t,iS (run n F st t)
 | 0=>h
 | t+1=>by
  have ih:=Pa (n:=n) (F:=F) h t;show iS (look n F t (run n F st t));unfold look;split
  ·split
   ·split
    ·exact Yt ih
    ·exact Yw ih
   ·exact ih
  ·exact ih
end MU
namespace Y0
open PySem L2
seal L2.PE L2.PA L2.PT L2.PS L2.gS L2.PG L2.lX L2.PI L2.PO
noncomputable def Mz (rows:List MU.Row):Prop:=∀(i:Nat) (r:MU.Row),rows[i]?=some r->r.used.length<=2/\∀j∈r.used,j<i
structure I_ (rows:List MU.Row) (last:Nat) (ns:List Nat):Prop where
 up:ns.Pairwise (·<·)
 le:∀i∈ns,i<=last
 has:last∈ns
 uses:∀i∈ns,∀r,rows[i]?=some r->∀j∈r.used,j∈ns
 why:∀i∈ns,i=last\/∃k∈ns,∃r,rows[k]?=some r/\i∈r.used
structure NI (rows:List MU.Row) (last:Nat) (P:Nat->Prop) (ks:List Nat):Prop where
 once:ks.Nodup
 le:∀k∈ks,k<=last
 has:last∈ks
 why:∀i∈ks,i=last\/∃k∈ks,∃r,rows[k]?=some r/\i∈r.used
 fin:∀k∈ks,P k->∀r,rows[k]?=some r->∀j∈r.used,j∈ks
noncomputable def wB (ks:List Nat) (j:Nat):List Nat:=if j∈ks then ks else ks++[j]
theorem sd:k∈wB ks j↔k∈ks\/k=j:=by
 unfold wB;split
 ·exact ⟨.inl,fun h=>h.elim id fun e=>e▸‹j∈ks›⟩
 ·simp
theorem NI.add {P:Nat->Prop} (h:NI rows last P ks) (hm:m∈ks) (hr:rows[m]?=some r) (hj:j∈r.used) (zI:j<=m) (hP:¬P j):NI rows last P (wB ks j):=by
 refine ⟨?_,fun k hk=>?_,sd.mpr (.inl h.has),fun i hi=>?_,fun k hk hp r' bo j' jZ=>?_⟩
 ·unfold wB;split
  ·exact h.once
  ·rename_i hn
   exact List.nodup_append.mpr ⟨h.once,List.nodup_cons.mpr ⟨nofun,List.nodup_nil⟩,fun a ha b hb e=>hn (by rw [jw.mp hb] at e;rw [<-e];exact ha)⟩
 ·rcases sd.mp hk with hk | rfl
  ·exact h.le k hk
  ·have:=h.le m hm;lia
 ·rcases sd.mp hi with hi | rfl
  ·rcases h.why i hi with e | ⟨k,hk,r',h1,h2⟩
   ·exact .inl e
   ·exact .inr ⟨k,sd.mpr (.inl hk),r',h1,h2⟩
  ·exact .inr ⟨m,sd.mpr (.inl hm),r,hr,hj⟩
 ·rcases sd.mp hk with hk | rfl
  ·exact sd.mpr (.inl (h.fin k hk hp r' bo j' jZ))
  ·exact absurd hp hP
noncomputable def sU (ks:List Nat):List Key:=ks.map fun i:Nat=>Sum.inl (i:Int)
theorem Ir {ks:List Nat} {j:Nat}:(Sum.inl (j:Int):Key)∈sU ks↔j∈ks:=by
 unfold sU;rw [gF]
 constructor
 ·rintro ⟨k,hk,e⟩;have:=Int.ofNat.inj (Sum.inl.inj e);exact this▸hk
 ·exact fun h=>⟨j,h,rfl⟩
theorem Ws {ks:List Nat} {j:Nat} (h:kvs.map (·.1)=sU ks):(eT kvs (Sum.inl (j:Int)) v).map (·.1)=sU (wB ks j):=by
 have hm:(kvs.any fun kv=>decide (kv.1=Sum.inl (j:Int)))=true↔j∈ks:=by
  rw [List.any_eq_true,<-Ir,<-h,gF]
  constructor
  ·rintro ⟨kv,h1,h2⟩;exact ⟨kv,h1,by simpa using h2⟩
  ·rintro ⟨kv,h1,h2⟩;exact ⟨kv,h1,by simpa using h2⟩
 unfold eT wB
 by_cases hj:j∈ks
 ·rw [if_pos (hm.mpr hj),if_pos hj,<-h,List.map_map];refine List.map_congr_left fun kv _=>?_;show (if kv.1=Sum.inl (j:Int) then (kv.1,v) else kv).1=kv.1;split<;>rfl
 ·rw [if_neg (fun z=>hj (hm.mp z)),if_neg hj,eJ,h];unfold sU;rw [eJ];rfl
theorem XW {ks:List Nat} {j:Nat} (h:kvs.map (·.1)=sU ks):(eK kvs (Sum.inl (j:Int))).isSome=decide (j∈ks):=by
 rw [<-wX]
 by_cases hj:j∈ks
 ·rw [eQ hj];have:(Sum.inl (j:Int):Key)∈kvs.map (·.1):=by rw [h];exact Ir.mpr hj
  obtain ⟨kv,h1,h2⟩:=gF.mp this;exact List.any_eq_true.mpr ⟨kv,h1,by simpa using h2⟩
 ·rw [eP hj];refine List.any_eq_false.mpr fun kv h1=>?_;intro z;have:(Sum.inl (j:Int):Key)∈kvs.map (·.1):=gF.mpr ⟨kv,h1,by simpa using z⟩;rw [h] at this;exact hj (Ir.mp this)
noncomputable def M':Sp:=fun vs H Q _=>∃(rl:Addr) (qs:List Addr) (rows:List MU.Row) (last:Nat),vs=[.ref rl,.int (last:Int)]/\H rl=some (.lst (qs.map V.ref))/\Paired (qe H) qs rows/\Mz rows/\last<rows.length/\rows.length<=16500000/\
 ∀l H' ns,H l=none->aM H H'->H' l=some (.lst (fV ns))->I_ rows last ns->Q (.ref l) H'
noncomputable abbrev nNn:List Str:=["rows","last","needed","at","number"]
theorem CQ:cF nNn ["rows","last"] (aZ bS):=cT
theorem oH (F:Fn K mg "numbers_needed" bS ["rows","last"] f fd) (hR:mg "range"=none) (hS:mg "sorted"=none):aw P w K mg base ax 1 f fd ["rows","last"] M':=by
 refine F.F.ok CQ (fun _ _ _ _ h=>?_) fun _ A _ s H _ Q E hr h=>?_
 ·obtain ⟨_,_,_,_,rfl,_⟩:=h;rfl
 ·obtain ⟨rl,qs,rows,last,rfl,gx,cz,hU,jb,hlen,k⟩:=h;have hu:=jK hr;refine ⟨_,aY (cI 2 CQ.nd (VD (WK (pv 1) rP VG) rfl rfl (by simp) (by simp)))
   (aY (iP PassesOwn.never rfl (Xz rfl hR (gD (pv 1) (yX zc aH) (yX zc aH))) (cj 3 CQ.nd)
    (az (d0 (vi (HM hu (pv 3) (pv 2)) (by with_unfolding_all rfl))
     (az (iP PassesOwn.never rfl (HC (aE (cW df (pv 0) (pv 3) (fun _ _=>rfl)))) (cj 4 CQ.nd)
      (az (DA hu (pv 2) (pv 4) rP rfl)))) d9)))
   (az (c7 (kE (Yj rfl) (by rfl) hS PyProof.Rows.boot_sorted (cw (pv 2)))))),?_⟩
  refine fun N1 c1 d hd=>⟨_,rfl,aq,[(Sum.inl (last:Int),.bl true)],rfl,by simp,c1 _ _ ?_⟩;rw [H_];have xW:qs.length=rows.length:=Paired.length cz;have e1:upd H d (.dK (ve [] [(Sum.inl (last:Int),.bl true)])) d=some (.dK [(Sum.inl (last:Int),.bl true)]):=aq;have s1:=bj (o:=.dK (ve [] [(Sum.inl (last:Int),.bl true)])) hd;generalize upd H d (.dK (ve [] [(Sum.inl (last:Int),.bl true)]))=H1 at*;clear c1 N1;have ev:[V.int (last:Int),V.int (-1),V.int (-1)]=[V.int (((last+1:Nat):Int)-1),V.int (-1),V.int (-1)]:=by rw [show ((last+1:Nat):Int)-1=(last:Int) by lia]
  have dr:d≠rl:=bp (aO gx hd);refine fun N2 c2=>⟨_,rfl,_,rfl,_,rfl,last+1,ev,by lia,?_⟩;refine WR (fun i aa H'=>∃v3 v4 kvs ks,aa=[some (.ref rl),some (.int (last:Int)),some (.ref d),v3,v4]/\H' d=some (.dK kvs)/\kvs.map (·.1)=sU ks/\NI rows last (fun k=>last<k+i) ks/\∀b o,H b=some o->H' b=some o)
   ⟨none,none,_,[last],rfl,e1,rfl,⟨List.nodup_cons.mpr ⟨nofun,List.nodup_nil⟩,fun k hk=>by rw [jw.mp hk];exact aF _,jw.mpr rfl,fun k hk=>.inl (jw.mp hk),fun k hk hp=>by have:=jw.mp hk;lia⟩,fun b o e=>s1 _ _ e⟩ ?_ ?_
  ·rintro i aa H2 hi ⟨v3,v4,kvs,ks,rfl,ed,ef,hN,kp⟩;obtain ⟨at_,gb⟩:∃at_,at_+i=last:=⟨last-i,by lia⟩;have ex:V.int ((((last+1:Nat):Int)-1)-(i:Int))=V.int (at_:Int):=by rw [show (((last+1:Nat):Int)-1)-(i:Int)=(at_:Int) by lia]
   rw [ex];have dg:eS H2 d (.int (at_:Int)) (eK kvs (Sum.inl (at_:Int))):=eS.k (k:=Sum.inl (at_:Int)) ed;refine ⟨_,rfl,_,rfl,d,_,rfl,dg,_,rfl,?_⟩;rw [XW ef]
   by_cases j_:at_∈ks
   ·refine gr j_ ?_;obtain ⟨q,hq⟩:∃q,qs[at_]?=some q:=⟨_,iR (by lia)⟩;obtain ⟨r,bo,pw,pu,g4,g5,g6⟩:=av cz hq;have LD:g_ (qs.map V.ref) (at_:Int)=some (.ref q):=j8 (by rw [dt,hq];rfl);refine ⟨_,rfl,pd rfl (kp _ _ gx) LD (a9 (kp _ _ g4) rfl ⟨pu,rfl,⟨_,dz.of (kp _ _ g6)⟩,?_⟩)⟩;refine VN (K:=K) (a:=pu) (xs:=r.used.map fun i:Nat=>V.int (i:Int)) (fun m aa H'=>∃v4 kvs ks,aa=[some (.ref rl),some (.int (last:Int)),some (.ref d),some (.int (at_:Int)),v4]/\H' d=some (.dK kvs)/\kvs.map (·.1)=sU ks/\NI rows last (fun k=>last<k+i) ks/\at_∈ks/\(∀j∈r.used.take m,j∈ks)/\∀b o,H b=some o->H' b=some o)
     ⟨v4,kvs,ks,rfl,ed,ef,hN,j_,fun j hj=>by simp at hj,kp⟩ ?_ ?_ ?_
    ·rintro m aa H3 _ ⟨_,_,_,rfl,_,_,_,_,_,Bo⟩;exact dz.of (Bo _ _ g6)
    ·rintro m x aa H3 hx ⟨v4,kvs,ks,rfl,ed,ef,hN,j_,hm,Bo⟩;rw [dt] at hx
     cases hj:r.used[m]? with
     | none=>rw [hj] at hx;cases hx
     | some j=>
      rw [hj] at hx;cases hx;have zI:=dZ hj;have hja:=(hU at_ r bo).2 j zI;have hl:kvs.length<=last+1:=by
       have h1:=congrArg List.length ef;unfold sU at h1;rw [a7,a7] at h1;have:=MH.zev (last+1) ks hN.once fun z hz=>by have:=hN.le z hz;lia
       lia
      refine ⟨_,rfl,_,rfl,d,_,rfl,rL.k (k:=Sum.inl (j:Int)) ed (Ax (by lia)),?_⟩;refine ⟨_,_,wB ks j,rfl,aq,Ws ef,hN.add j_ bo zI (bx hja) (by lia),sd.mpr (.inl j_),fun j' jZ=>?_,fun b o e=>?_⟩
      ·rw [jC,hj] at jZ;rcases kJ.mp jZ with jZ | jZ
       ·exact sd.mpr (.inl (hm j' jZ))
       ·exact sd.mpr (.inr (by simpa using jZ))
      ·rw [au (aO e hd)];exact Bo _ _ e
    ·rintro aa H3 ⟨v4,kvs,ks,rfl,ed,ef,hN,j_,hm,Bo⟩;have bP:r.used.take (r.used.map fun i:Nat=>V.int (i:Int)).length=r.used:=by rw [a7];exact ir
     rw [bP] at hm;refine ⟨_,_,kvs,ks,rfl,ed,ef,⟨hN.once,hN.le,hN.has,hN.why,fun k hk hp r' i9 j hj=>?_⟩,Bo⟩
     by_cases e:k=at_
     ·subst e;rw [bo] at i9;cases i9;exact hm j hj
     ·exact hN.fin k hk (by lia) r' i9 j hj
   ·refine ix j_ ⟨_,_,kvs,ks,rfl,ed,ef,⟨hN.once,hN.le,hN.has,hN.why,fun k hk hp r' i9 j hj=>?_⟩,kp⟩;exact hN.fin k hk (by have:k≠at_:=fun e=>j_ (e▸hk);lia) r' i9 j hj
  ·rintro aa H2 ⟨v3,v4,kvs,ks,rfl,ed,ef,hN,kp⟩;refine c2 _ _ ⟨_,rfl,d,kvs,ks.map fun i:Nat=>(i:Int),rfl,ed,by rw [ef,List.map_map];rfl,fun l pE hl qT K9=>?_⟩;have Lj:H l=none:=by
    cases q:H l with
    | none=>rfl
    | some x=>rw [kp _ _ q] at hl;cases hl
   have BX:∀{l:List Int},(∀z∈l,0<=z)->(l.map Int.toNat).map (fun i:Nat=>(i:Int))=l:=fun {l} h=>by
    rw [List.map_map]
    conv=>rhs;rw [<-List.map_id l]
    exact List.map_congr_left fun z hz=>ot (h z hz)
   have hnn:∀z∈pE,0<=z:=fun z hz=>by
    obtain ⟨k,_,rfl⟩:=gF.mp (qT.mem_iff.mp hz);exact Int.NonNeg.mk (k+0)
   have xY:(pE.map Int.toNat).Perm ks:=by
    have:=qT.map Int.toNat;rw [List.map_map] at this;have e:ks.map (Int.toNat ∘ fun i:Nat=>(i:Int))=ks:=by
     conv=>rhs;rw [<-List.map_id ks]
     exact List.map_congr_left fun z _=>lS z
    rw [e] at this;exact this
   have s3:aM H (upd H2 l (.lst (pE.map V.int))):=fun b o e=>by rw [au (aO (kp _ _ e) hl)];exact kp _ _ e
   refine k l _ (pE.map Int.toNat) Lj s3 ?_ ⟨?_,fun i hi=>hN.le i (xY.mem_iff.mp hi),xY.mem_iff.mpr hN.has,fun i hi r' bo j hj=>?_,fun i hi=>?_⟩
   ·rw [aq];unfold fV;have e:pE.map V.int=(pE.map Int.toNat).map fun i:Nat=>V.int (i:Int):=by
     conv=>lhs;rw [<-BX hnn]
     rw [List.map_map];rfl
    rw [e]
   ·have mC:(pE.map Int.toNat).Nodup:=xY.nodup_iff.mpr hN.once;have h1:(pE.map Int.toNat).Pairwise (·<=·):=by
     rw [List.pairwise_map];exact K9.imp fun h=>Int.toNat_le_toNat h
    exact h1.imp₂ (fun a b h h'=>Nat.lt_of_le_of_ne h h') mC
   ·have mP:=xY.mem_iff.mp hi;have:=hN.le i mP;exact xY.mem_iff.mpr (hN.fin i mP (by lia) r' bo j hj)
   ·rcases hN.why i (xY.mem_iff.mp hi) with e | ⟨k',mM,r',h1,h2⟩
    ·exact .inl e
    ·exact .inr ⟨k',xY.mem_iff.mpr mM,r',h1,h2⟩
noncomputable def zh (rows:List MU.Row) (ns:List Nat) (i:Nat):Option MU.Row:=(rows[i]?).map fun r=>⟨r.cP,r.word,r.used.map fun j=>ns.idxOf j⟩
noncomputable def OA (rows:List MU.Row) (ns:List Nat):List MU.Row:=ns.filterMap (zh rows ns)
theorem UR {ns:List Nat} {m x:Nat} (hn:ns.Nodup) (h:ns[m]?=some x):ns.idxOf x=m:=by
 obtain ⟨hm,rfl⟩:=ff.mp h;exact List.Nodup.idxOf_getElem hn m hm
theorem WW {ns:List Nat} (h:ns.Pairwise (·<·)):ns.Nodup:=h.imp fun h=>gG h
theorem V_ {ns:List Nat} (h:ns.Pairwise (·<·)) {m x j:Nat} (hx:ns[m]?=some x) (hj:j∈ns) (aW:j<x):j∈ns.take m:=by
 obtain ⟨i,hi,e⟩:=GQ hj;obtain ⟨hm,e'⟩:=ff.mp hx;have him:i<m:=g8 fun z=>by
  rcases Nat.lt_or_eq_of_le (lU z) with z | z
  ·have:=C7.mp h m i hm hi z;lia
  ·subst z;lia
 rw [<-e];exact List.mem_take_iff_getElem.mpr ⟨i,by lia,rfl⟩
noncomputable def OJ:Sp:=fun vs H Q _=>∃(rl:Addr) (qs:List Addr) (rows:List MU.Row) (last:Nat),vs=[.ref rl,.int (last:Int)]/\H rl=some (.lst (qs.map V.ref))/\Paired (qe H) qs rows/\Mz rows/\last<rows.length/\rows.length<=16500000/\
 ∀l H' ns ps,H l=none->aM H H'->I_ rows last ns->H' l=some (.lst (ps.map V.ref))->Paired (qe H') ps (OA rows ns)->Q (.ref l) H'
noncomputable abbrev RV:List Str:=["rows","last","places","paper","number","row"]
theorem Aj:cF RV ["rows","last"] (aZ ck):=cT
theorem Ze:i7 (aZ ck) RV (kh [(".0",.local),("used",.local),("places",.free)]) ["used","places"] [none,some 2]:=kj
theorem YR:(["used","places"]:List Str).Nodup:=by decide+kernel
theorem mr (F:Fn K mg "paper_up_to" ck ["rows","last"] f fd) (hL:mg "len"=none) (hT:mg "tuple"=none)
 (FN:Fn K mg "numbers_needed" bS ["rows","last"] fN pP) (GN:aw P w K mg base ax 1 fN pP ["rows","last"] M'):aw P w K mg base ax 2 f fd ["rows","last"] OJ:=by
 refine F.F.ok Aj (fun _ _ _ _ h=>?_) fun _ A _ s H _ Q E hr h=>?_
 ·obtain ⟨_,_,_,_,rfl,_⟩:=h;rfl
 ·obtain ⟨rl,qs,rows,last,rfl,gx,cz,hU,jb,hlen,k⟩:=h;have hu:=jK hr;refine ⟨_,aY (tj (i:=2) Aj.nd rfl (Or.inr rfl) Px)
   (aY (cI 3 Aj.nd (jN nH))
   (aY (iP PassesOwn.never rfl (gA (cO GN hr FN (cf (pv 0) (pv 1)))) (cj 4 Aj.nd)
    (aY (cI 5 Aj.nd (cW df (pv 0) (pv 4) (fun _ _=>rfl)))
    (aY (DA hu (pv 2) (pv 4) (kE zy (by rfl) hL zU (cw (pv 3))) rfl)
    (az (gB (px pU pT rG pC (pv 3) (cw (eU (gD (aE (pv 5)) (aE (pv 5)) (vo QJ (by rfl) hT (by decide+kernel) (cw (o5 rfl (HC (aE (pv 5))) Ze (fun cl ex s0 H0=>⟨cj 0 YR,vy,kD hu (pv 1) (pv 0) (fun _ _=>rfl)⟩)))))))))))))
   (az (c7 (pv 3))))),?_⟩
  refine fun N1 c1 d hd=>c1 _ _ ?_;have s1:=bj (o:=.dK []) hd;have e1:upd H d (.dK []) d=some (.dK []):=aq;generalize upd H d (.dK [])=H1 at*;clear c1 N1;refine fun N2 c2=>⟨dM _,fun pl gy=>c2 _ _ ?_⟩;have s2:=bj (o:=.lst []) gy;have e2:upd H1 pl (.lst []) pl=some (.lst []):=aq;have RC:H pl=none:=by
   cases q:H pl with
   | none=>rfl
   | some x=>rw [s1 _ _ q] at gy;cases gy
  have Tj:d≠pl:=aO e1 gy;generalize upd H1 pl (.lst [])=H2 at*;clear c2 N2;have sg:=s1.trans s2;have xW:qs.length=rows.length:=Paired.length cz;refine fun N3 c3=>⟨_,rfl,_,rfl,rl,qs,rows,last,rfl,sg _ _ gx,dN cz fun q r e=>e.same sg,hU,jb,hlen,fun l H3 ns hl s3 el hN=>?_⟩;have mC:=WW hN.up;have hnl:ns.length<=last+1:=MH.zev (last+1) ns mC fun z hz=>by have:=hN.le z hz;lia
  have kU:=sg.trans s3;have ed3:=s3 _ _ (s2 _ _ e1);have ep3:=s3 _ _ e2;have lH:H l=none:=by
   cases q:H l with
   | none=>rfl
   | some x=>rw [sg _ _ q] at hl;cases hl
  have ld:l≠d:=bp (aO (s2 _ _ e1) hl);have lp:l≠pl:=bp (aO e2 hl);refine ⟨l,rfl,⟨_,ay.of el⟩,?_⟩;refine kO (K:=K) (a:=l) (xs:=fV ns) (fun m aa H'=>∃v4 v5 kvs ps,aa=[some (.ref rl),some (.int (last:Int)),some (.ref d),some (.ref pl),v4,v5]/\H' d=some (.dK kvs)/\kvs.length<=m/\
   (∀j:Nat,j∈ns.take m->eK kvs (Sum.inl (j:Int))=some (.int (ns.idxOf j:Int)))/\H' pl=some (.lst (ps.map V.ref))/\ps.length=m/\Paired (qe H') ps ((ns.take m).filterMap (zh rows ns))/\H' l=some (.lst (fV ns))/\aM H H')
   ⟨none,none,[],[],rfl,ed3,aF _,fun j hj=>by simp at hj,ep3,rfl,.nil,el,kU⟩ ?_ ?_ ?_
  ·rintro m aa H4 _ ⟨_,_,_,_,rfl,_,_,_,_,_,_,e,_⟩;exact ay.of e
  ·rintro m x aa H4 hx ⟨v4,v5,kvs,ps,rfl,ed,pK,ef,ep,uC,jr,Tf,s4⟩;unfold fV at hx;rw [dt] at hx
   cases hj:ns[m]? with
   | none=>rw [hj] at hx;cases hx
   | some num=>
    rw [hj] at hx;cases hx;have hmn:m<ns.length:=(ff.mp hj).1;have K_:=hN.le num (dZ hj);obtain ⟨q,hq⟩:∃q,qs[num]?=some q:=⟨_,iR (by lia)⟩;obtain ⟨r,bo,pw,pu,g4,g5,g6⟩:=av cz hq;have gb:g_ (qs.map V.ref) (num:Int)=some (.ref q):=j8 (by rw [dt,hq];rfl);refine fun N5 c5=>⟨_,rfl,pd rfl (s4 _ _ gx) gb (c5 _ _ ?_)⟩;clear c5 N5;refine fun N6 c6=>⟨_,rfl,pl,_,rfl,.inl (ay.of ep),_,rfl,_,rfl,d,_,rfl,rL.k (k:=Sum.inl (num:Int)) ed (Ax (by lia)),c6 _ _ ?_⟩;rw [a7,uC];clear c6 N6;have kd:∀{b:Addr} {o:HO},H4 b=some o->b≠d->upd H4 d (.dK (eT kvs (Sum.inl (num:Int)) (.int (m:Int)))) b=some o:=fun e ne=>by rw [au ne];exact e
    have Th:upd H4 d (.dK (eT kvs (Sum.inl (num:Int)) (.int (m:Int)))) d=some (.dK (eT kvs (Sum.inl (num:Int)) (.int (m:Int)))):=aq;have s5:aM H (upd H4 d (.dK (eT kvs (Sum.inl (num:Int)) (.int (m:Int))))):=fun b o e=>kd (s4 _ _ e) (aO e hd);have Tb:=kd ep (bp Tj);have ft:=kd Tf ld;have KQ:Paired (qe (upd H4 d (.dK (eT kvs (Sum.inl (num:Int)) (.int (m:Int)))))) ps ((ns.take m).filterMap (zh rows ns)):=dN jr fun q r ⟨pw,pu,h1,h2,h3⟩=>
     ⟨pw,pu,kd h1 (aQ h1 ed nofun),kd h2 (aQ h2 ed nofun),kd h3 (aQ h3 ed nofun)⟩
    generalize upd H4 d (.dK (eT kvs (Sum.inl (num:Int)) (.int (m:Int))))=H5 at*;have et:ns.take (m+1)=ns.take m++[num]:=by rw [jC,hj];rfl
    have BG:∀j:Nat,j∈ns.take (m+1)->eK (eT kvs (Sum.inl (num:Int)) (.int (m:Int))) (Sum.inl (j:Int))=some (.int (ns.idxOf j:Int)):=fun j jZ=>by
     rw [AK]
     by_cases e:j=num
     ·subst e;rw [if_pos rfl,UR mC hj]
     ·rw [if_neg (show ¬((Sum.inl (j:Int):Key)=Sum.inl (num:Int)) from fun z=>e (Int.ofNat.inj (Sum.inl.inj z)))];rw [et] at jZ;rcases kJ.mp jZ with h | h
      ·exact ef j h
      ·exact absurd (jw.mp h) e
    have xS:=hU num r bo;refine ⟨_,rfl,.inl ⟨rfl,_,ay.of Tb⟩,_,rfl,a9 (s5 _ _ g4) rfl ⟨_,rfl,a9 (s5 _ _ g4) rfl ⟨_,rfl,a9 (s5 _ _ g4) rfl ⟨pu,rfl,⟨_,dz.of (s5 _ _ g6)⟩,fun Da dh=>?_⟩⟩⟩⟩;refine OO (xs:=r.used.map fun i:Nat=>V.int (i:Int)) (fun a aa H'=>∃v,aa=[v,some (.ref d)]/\H' Da=some (.lst (((r.used.take a).map fun j=>ns.idxOf j).map fun i:Nat=>V.int (i:Int)))/\aM H5 H') ⟨none,rfl,aq,bj dh⟩ ?_ ?_ ?_
    ·rintro a aa H6 _ ⟨v,rfl,_,s6⟩;exact dz.of (s6 _ _ (s5 _ _ g6))
    ·rintro a x aa H6 hx ⟨v,rfl,e6,s6⟩;rw [dt] at hx
     cases sv:r.used[a]? with
     | none=>rw [sv] at hx;cases hx
     | some j=>
      rw [sv] at hx;cases hx;have zI:=dZ sv;have hjn:=hN.uses num (dZ hj) r bo j zI;have j_:j∈ns.take (m+1):=by rw [et];exact lV _ (V_ hN.up hj hjn (xS.2 j zI))
      have dg:eS H6 d (.int (j:Int)) (some (.int (ns.idxOf j:Int))):=by
       have:=eS.k (k:=Sum.inl (j:Int)) (s6 _ _ Th);rw [BG j j_] at this;exact this
      refine ⟨_,rfl,_,rfl,d,_,rfl,dg,_,e6,?_,_,rfl,?_,fun b o e=>?_⟩
      ·rw [a7,a7,iA];exact fi (by lia)
      ·rw [aq,jC,sv,eJ,eJ];rfl
      ·rw [au (aO e dh)];exact s6 _ _ e
    ·rintro aa H6 ⟨v,rfl,e6,s6⟩;have bP:r.used.take (r.used.map fun i:Nat=>V.int (i:Int)).length=r.used:=by rw [a7];exact ir
     rw [bP] at e6;refine ⟨Da,_,rfl,.inl ⟨ay.of e6,fun tu htu=>⟨eW rfl,fun rt KI=>?_⟩⟩⟩;have s7:=bj (o:=.tup ((r.used.map fun j=>ns.idxOf j).map fun i:Nat=>V.int (i:Int))) htu;have e7:upd H6 tu (.tup ((r.used.map fun j=>ns.idxOf j).map fun i:Nat=>V.int (i:Int))) tu=some (.tup ((r.used.map fun j=>ns.idxOf j).map fun i:Nat=>V.int (i:Int))):=aq;generalize upd H6 tu (.tup ((r.used.map fun j=>ns.idxOf j).map fun i:Nat=>V.int (i:Int)))=H7 at*;have s8:=bj (o:=.tup [.ref pw,.str (lI r.word),.ref tu]) KI;have e8:upd H7 rt (.tup [.ref pw,.str (lI r.word),.ref tu]) rt=some (.tup [.ref pw,.str (lI r.word),.ref tu]):=aq;generalize upd H7 rt (.tup [.ref pw,.str (lI r.word),.ref tu])=H8 at*;have vK:=(s6.trans s7).trans s8;have Ta:=vK _ _ Tb;refine ⟨pl,_,_,rfl,rfl,Ta,by rw [a7,uC];exact Ax (by lia),?_⟩;have kp:∀{b:Addr} {o:HO},H8 b=some o->b≠pl->upd H8 pl (.lst (ps.map V.ref++[.ref rt])) b=some o:=fun e ne=>by rw [au ne];exact e
     have tup:∀{b:Addr} {xs:List V},H8 b=some (.tup xs)->upd H8 pl (.lst (ps.map V.ref++[.ref rt])) b=some (.tup xs):=fun e=>kp e (aQ e Ta nofun);refine ⟨_,_,_,ps++[rt],rfl,kp (vK _ _ Th) Tj,dY (zw _ _ _) (by lia),BG,?_,by rw [gR,uC];rfl,?_,kp (vK _ _ ft) lp,fun b o e=>kp (vK _ _ (s5 _ _ e)) (aO e RC)⟩
     ·rw [aq,eJ];rfl
     ·rw [et,List.filterMap_append];refine wZ (dN KQ fun q r' ⟨pw',EY,h1,h2,h3⟩=>⟨pw',EY,tup (vK _ _ h1),tup (vK _ _ h2),tup (vK _ _ h3)⟩) ?_;have er:zh rows ns num=some ⟨r.cP,r.word,r.used.map fun j=>ns.idxOf j⟩:=by unfold zh;rw [bo];rfl
      rw [show [num].filterMap (zh rows ns)=[⟨r.cP,r.word,r.used.map fun j=>ns.idxOf j⟩] by simp [er]];exact .cons ⟨pw,tu,tup e8,tup (vK _ _ (s5 _ _ g5)),tup (s8 _ _ e7)⟩ .nil
  ·rintro aa H4 ⟨v4,v5,kvs,ps,rfl,ed,pK,ef,ep,uC,jr,Tf,s4⟩;have bP:ns.take (fV ns).length=ns:=by unfold fV;rw [a7];exact ir
   rw [bP] at jr;exact c3 _ _ ⟨_,rfl,k pl H4 ns ps RC s4 hN ep jr⟩
noncomputable def gu (F:MU.cv) (x:lW):Bool:=match F x.2.1 with
 | some f=>decide (f.2.1<x.2.2) && decide (x.2.2<=f.2.2)
 | none=>false
noncomputable def OK:Sp:=fun vs H Q _=>∃(d q:Addr) (F:MU.cv) (x:lW) (f:Nat×Int×Int),vs=[.ref d,.ref q]/\mf H d F/\iB H q x/\F x.2.1=some f/\Q (.bl (gu F x)) H
theorem Q_:cF ["by_end","wait","fall"] ["by_end","wait"] (aZ eB):=cT
theorem oK (F:Fn K mg "is_told" eB ["by_end","wait"] f fd):aw P w K mg base ax 1 f fd ["by_end","wait"] OK:=by
 refine F.F.ok Q_ (fun _ _ _ _ h=>?_) fun _ A _ s H _ Q E hr h=>?_
 ·obtain ⟨_,_,_,_,_,rfl,_⟩:=h;rfl
 ·obtain ⟨d,q,Fa,x,fa,rfl,FA,hw,hf,k⟩:=h;have hu:=jK hr;refine ⟨_,cC (cI 2 Q_.nd (kD hu (pv 0) (aE (pv 1)) (fun _ _=>rfl)))
   (az (c7 (Iw sZ ko (aE (pv 2)) (aE (pv 1)) (aE (pv 2))))),?_⟩
  obtain ⟨kvs,hd,hl,f0,f1⟩:=FA.at_;obtain ⟨p,e1,e2⟩:=f1 _ _ hf;have ev:gu Fa x=(decide (fa.2.1<x.2.2) && decide (x.2.2<=fa.2.2)):=by unfold gu;rw [hf]
  rw [ev] at k;refine ⟨_,rfl,_,rfl,a9 hw rfl ⟨d,_,rfl,e1▸eS.k (k:=Sum.inl (x.2.1:Int)) hd,?_⟩⟩;refine ⟨_,rfl,a9 e2 rfl ⟨_,rfl,a9 hw rfl ⟨_,_,rfl,rfl,_,rfl,?_⟩⟩⟩
  by_cases c:fa.2.1<x.2.2
  ·rw [eQ c] at k;refine gr c ⟨_,rfl,a9 e2 rfl ⟨_,_,rfl,rfl,?_⟩⟩;exact k
  ·rw [eP c] at k;exact ix c k
noncomputable def Vf (H:Hp) (r:Addr) (st:MU.St) (F:MU.cv):Prop:=∃lt lw ps qs L M,H r=some (.tup [.str "rule",.ref lt,.ref lw])/\H lt=some (.lst (ps.map V.ref))/\Paired (iB H) ps L/\ni st true L/\
 H lw=some (.lst (qs.map V.ref))/\Paired (iB H) qs (M.filter (gu F))/\ni st false M
noncomputable def Vq (H:Hp) (r:Addr) (st:MU.St) (b:Nat):Prop:=∃l ns ps,H r=some (.tup [.str "paper",.ref l])/\H l=some (.lst (ps.map V.ref))/\Paired (qe H) ps (OA st.rows ns)/\I_ st.rows b ns
noncomputable def jz (n:Nat) (la:Int) (T F:List (List Int)) (Te:Nat):MU.St:=MU.run n (bR F) (nz n la T F) Te
noncomputable def HI (CW:Addr):Sp:=fun vs H Q _=>∃(wb:Addr) (n:Nat) (la:Int) (T F:List (List Int)) (Te:Nat),vs=[.ref wb]/\kM CW H wb (n:Int) la T F/\di (n:Int) la T F/\Ak n (bR F) (nz n la T F) Te/\
 ∀r H',H r=none->aM H H'->(∀b,(jz n la T F Te).bar=some b->Vq H' r (jz n la T F Te) b->Q (.ref r) H')/\((jz n la T F Te).bar=none->Vf H' r (jz n la T F Te) (bR F)->Q (.ref r) H')
theorem Hf:cF ["web","closing","waits"] ["web"] (aZ f7):=cT
theorem Za:i7 (aZ f7) ["web","closing","waits"] (kh [(".0",.local),("wait",.local),("is_told",.globalImplicit),("closing",.free)]) ["wait","closing"] [none,some 1]:=kj
theorem YN:(["wait","closing"]:List Str).Nodup:=by decide+kernel
theorem ui (F:Fn K mg "kept" f7 ["web"] f fd) (T:ph K mg C) (M:Mk K C fI) (hC:mg "Closing"=some (.ref C))
 (bI:dP K wo ["self","web"] []) (GI:aw P w K mg base ax 4 fI wo ["self","web"] (NU C CW))
 (mA:gq K C "draw_all" fA) (bA:dP K LZ ["self"] []) (GA:aw P w K mg base ax 5 fA LZ ["self"] (ML C))
 (mB:gq K C "best_drawn" fB) (bB:dP K sM ["self","kind"] []) (GB:aw P w K mg base ax 1 fB sM ["self","kind"] (Nv C))
 (FP:Fn K mg "paper_up_to" ck ["rows","last"] fP LX) (GP:aw P w K mg base ax 2 fP LX ["rows","last"] OJ)
 (FT:Fn K mg "is_told" eB ["by_end","wait"] fT kI) (GT:aw P w K mg base ax 1 fT kI ["by_end","wait"] OK):aw P w K mg base ax 6 f fd ["web"] (HI CW):=by
 refine F.F.ok Hf (fun _ _ _ _ h=>?_) fun _ A _ s H _ Q E hr h=>?_
 ·obtain ⟨_,_,_,_,_,_,rfl,_⟩:=h;rfl
 ·obtain ⟨wb,n,la,rT,rF,Te,rfl,W0,ae,hE,k⟩:=h;have gE:dn 1 _:=hr.mono (by decide);have i9:dn 2 _:=hr.mono (by decide);refine ⟨_,aY (tj (i:=1) Hf.nd rfl (Or.inr rfl) (HV M GI hr rfl hC bI .nil ee (cw (pv 0))))
   (aY (gB (vw (pv 1) T.cl mA GA hr bA .nil ee))
   (aY (d0 (cV wQ (cS (pv 1) rfl) j7) (az (c7 (eU (cf fh (cO GP i9 FP (cf (cS (pv 1) rfl) (cS (pv 1) rfl))))))) d9)
   (aY (wR (i:=2) Hf.nd rfl rfl rfl (gA (gX (pv 1) T.cl mB GB gE bB .nil ee (cw fh))) Za (fun cl ex s0 H0=>⟨cj 0 YN,pA (rV (cO GT gE FT (cf (t8 (K:=K) rfl (pv 1) rfl) (pv 0)))),pv 0⟩))
   (az (c7 (eU (gD fh (gX (pv 1) T.cl mB GB gE bB .nil ee (cw fh)) (pv 2)))))))),?_⟩
  have n1:=ae.n1;have n2:=ae.n2;refine fun N1 c1=>⟨_,rfl,fun p dx hp S9 dJ=>?_⟩;have W1:kM CW (upd (upd H dx (.own p)) p (.ins C dx [])) wb (n:Int) la rT rF:=W0.same fun b o e=>by rw [au (aO e hp),au (aO e S9)];exact e
  have vR:∀b o,H b=some o->upd (upd H dx (.own p)) p (.ins C dx []) b=some o:=fun b o e=>by rw [au (aO e hp),au (aO e S9)];exact e
  refine ⟨p,wb,dx,n,la,rT,rF,rfl,aq,W1,ae,fun H2 be rl bd c2 gY gx f_ k2=>⟨rfl,c1 _ _ ?_⟩⟩;have s2:aM H H2:=fun b o e=>k2 _ _ (vR _ _ e) (aO e hp);have vP:∀{b:Addr},upd (upd H dx (.own p)) p (.ins C dx []) b=none->H b=none:=fun {b} e=>by
   cases q:H b with
   | none=>rfl
   | some x=>rw [vR _ _ q] at e;cases e
  have EW:=vP gx;have GC:=vP f_;clear c1 N1;obtain ⟨Cr,gz⟩:=c2.ins;refine fun N2 Tp=>⟨_,rfl,p,Cr,_,rfl,gz,oz (by decide+kernel) (by decide+kernel) (by decide+kernel) (by decide+kernel) (by decide+kernel),p,be,rl,bd,n,_,_,Te,rfl,c2,DT ae,ae.pO,by lia,hE,fun H3 c3 S3 k3=>Tp _ _ ?_⟩;clear Tp;have mQ:MU.run n (bR rF) (nz n la rT rF) Te=jz n la rT rF Te:=rfl;rw [mQ] at c3 S3;have s3:aM H H3:=fun b o e=>k3 _ _ (s2 _ _ e) (aO e hp) (aO e EW) (aO e GC);have hU:MU.iS (jz n la rT rF Te):=MU.Pa (MU.XR _ _ MU.XH) Te;have m_:(jz n la rT rF Te).rows.length<=16000000:=hE.m_ Te (aF _);generalize jz n la rT rF Te=st at*;obtain ⟨uP,iG⟩:=c3.ins;obtain ⟨qs,u9,cz⟩:=c3.rows;refine fun N3 To=>⟨_,rfl,p,C,uP,_,_,rfl,iG,T.cl,T.nX,CY,rfl,_,rfl,?_⟩;have vQ:∀{H':Hp} {b:Addr},aM H H'->H' b=none->H b=none:=fun {H' b} ss e=>by
   cases q:H b with
   | none=>rfl
   | some x=>rw [ss _ _ q] at e;cases e
  cases bQ:st.bar with
  | some b=>
   obtain ⟨r0,hr0,_⟩:=hU.2 b bQ;have hb:=(ff.mp hr0).1;refine pk rfl ⟨_,rfl,p,C,uP,_,_,rfl,iG,T.cl,T.nR,s_,_,rfl,p,C,uP,_,_,rfl,iG,T.cl,T.nX,CY,rl,qs,st.rows,b,by rw [bQ];rfl,u9,cz,hU.1,hb,by lia,fun l H4 ns ps hl s4 hN el jr=>⟨eW rfl,fun r bo=>?_⟩⟩;have s5:=bj (o:=.tup [.str "paper",.ref l]) bo;have EU:=(s3.trans s4).trans s5;exact (k r _ (vQ (s3.trans s4) bo) EU).1 b bQ ⟨l,ns,ps,aq,s5 _ _ el,dN jr fun q r e=>e.same s5,hN⟩
  | none=>
   refine g9 rfl (To _ _ ?_);clear To N3;have inB:∀{tt:Bool} {L:List lW},ni st tt L->L.length<=64/\∀x∈L,∃w',w'.tie=tt/\w'.b=x.2.1/\∃j,MU.ah st j=some w':=fun {tt L} hB=>by
    have mem:∀x∈L,∃w',w'.tie=tt/\w'.a=x.1/\w'.b=x.2.1/\∃j,MU.ah st j=some w':=fun x hx=>by
     obtain ⟨a,b,v⟩:=x;have hv:=(hB.has a b v).mp hx;unfold MU.val at hv
     cases hq:st.best (tt,a,b) with
     | none=>rw [hq] at hv;cases hv
     | some j=>
      obtain ⟨w',h1,h2⟩:=S3.good.at_ _ _ hq;have h4:=MU.iD h2;exact ⟨w',h4.1,h4.2.1,h4.2.2,j,h1⟩
    refine ⟨?_,fun x hx=>?_⟩
    ·have mC:(L.map fun x=>x.1*8+x.2.1).Nodup:=by
      have h0:=hB.once;unfold List.Nodup at h0 ⊢;rw [List.pairwise_map] at h0 ⊢;refine List.Pairwise.imp_of_mem (fun {x y} hx hy e z=>e ?_) h0;obtain ⟨w1,_,a1,b1,j1,e1⟩:=mem x hx;obtain ⟨w2,_,a2,b2,j2,e2⟩:=mem y hy;have l1:=S3.good.lt _ _ e1;have l2:=S3.good.lt _ _ e2;exact Prod.ext (by show x.1=y.1;lia) (by show x.2.1=y.2.1;lia)
     have:=MH.zev 64 _ mC fun z hz=>by
      obtain ⟨x,hx,rfl⟩:=gF.mp hz;obtain ⟨w1,_,a1,b1,j1,e1⟩:=mem x hx;have l1:=S3.good.lt _ _ e1;show x.1*8+x.2.1<64;lia
     rwa [a7] at this
    ·obtain ⟨w1,h1,_,h2,h3⟩:=mem x hx;exact ⟨w1,h1,h2,h3⟩
   refine fun N4 c4=>⟨_,rfl,p,uP,_,rfl,iG,oz (by decide+kernel) (by decide+kernel) (by decide+kernel) (by decide+kernel) (by decide+kernel),p,be,rl,bd,n,_,st,false,rfl,c3,S3.good,by lia,by lia,fun l H4 ps M hl s4 el jr hM=>⟨l,rfl,⟨_,ay.of el⟩,fun Da dh=>?_⟩⟩;obtain ⟨hM64,hMw⟩:=inB hM;have gy:ps.length=M.length:=Paired.length jr;have Tn:=c3.same s4;refine o7 (K:=K) (a:=l) (xs:=ps.map V.ref) (fun i aa H'=>∃v dA,aa=[v,some (.ref p)]/\H' Da=some (.lst (dA.map V.ref))/\Paired (iB H') dA ((M.take i).filter (gu (bR rF)))/\dA.length<=i/\aM H4 H') ⟨none,[],rfl,aq,.nil,aF _,bj dh⟩ ?_ ?_ ?_
   ·rintro i aa H5 _ ⟨v,dA,rfl,_,_,_,s5⟩;exact ay.of (s5 _ _ el)
   ·rintro i y aa H5 hy ⟨v,dA,rfl,e5,lr,Ft,s5⟩;rw [dt] at hy
    cases hq:ps[i]? with
    | none=>rw [hq] at hy;cases hy
    | some q=>
     rw [hq] at hy;cases hy;obtain ⟨x,hx,iF⟩:=av jr hq;have hi:i<M.length:=(ff.mp hx).1;obtain ⟨w1,t1,b1,j1,g1⟩:=hMw x (dZ hx);obtain ⟨fa,pL⟩:=S3.ends j1 w1 g1 t1;rw [b1] at pL;have c5:=Tn.same s5;obtain ⟨sN,qU⟩:=c5.ins;have et:M.take (i+1)=M.take i++[x]:=by rw [jC,hx];rfl
     refine ⟨_,rfl,p,C,sN,_,_,rfl,qU,T.cl,T.nB,M4,_,rfl,be,q,_,x,fa,rfl,c5.eO,iF.same s5,pL,_,rfl,?_⟩
     cases ht:gu (bR rF) x with
     | true=>
      refine iN ⟨_,rfl,_,e5,?_,_,dA++[q],rfl,?_,?_,?_,fun b o e=>?_⟩
      ·rw [a7];exact fi (by lia)
      ·rw [aq,eJ];rfl
      ·rw [et,List.filter_append];have kp:∀b y,iB H5 b y->iB (upd H5 Da (.lst (dA.map V.ref++[.ref q]))) b y:=fun b y e=>by
        unfold iB;rw [au (aQ e e5 nofun)];exact e
       refine wZ (dN lr kp) ?_;rw [show [x].filter (gu (bR rF))=[x] by simp [ht]];exact .cons (kp _ _ (iF.same s5)) .nil
      ·rw [gR];show dA.length+1<=i+1;lia
      ·rw [au (aO e dh)];exact s5 _ _ e
     | false=>
      refine dO ⟨_,dA,rfl,e5,?_,by exact Nat.le.step Ft,s5⟩;rw [et,List.filter_append];rw [show [x].filter (gu (bR rF))=[] by simp [ht],List.append_nil];exact lr
   ·rintro aa H5 ⟨v,dA,rfl,e5,lr,Ft,s5⟩;have bP:M.take (ps.map V.ref).length=M:=by rw [a7,gy];exact ir
    rw [bP] at lr;refine c4 _ _ ?_;have c5:=Tn.same s5;obtain ⟨sN,qU⟩:=c5.ins;have EU:=(s3.trans s4).trans s5;refine ⟨_,rfl,p,sN,_,rfl,qU,oz (by decide+kernel) (by decide+kernel) (by decide+kernel) (by decide+kernel) (by decide+kernel),p,be,rl,bd,n,_,st,true,rfl,c5,S3.good,by lia,by lia,fun l6 H6 ps6 L Fs s6 el6 KP hL=>⟨_,rfl,eW rfl,fun r bo=>?_⟩⟩;have s7:=bj (o:=.tup [.str "rule",.ref l6,.ref Da]) bo;have JR:=s6.trans s7;exact (k r _ (vQ (EU.trans s6) bo) (EU.trans JR)).2 bQ ⟨l6,Da,ps6,dA,L,M,aq,s7 _ _ el6,dN KP fun q x e=>e.same s7,hL,JR _ _ e5,dN lr fun q x e=>e.same JR,hM⟩
theorem NC (h:i<n):uy n (i:Int)=some i:=by
 unfold uy;rw [if_pos (by exact Int.NonNeg.mk (i+0))]
 first
 | rw [if_pos (by lia)];simp
 | simp [h]
noncomputable def hX.with (a:hX) (c:List (Option Int)) (now:Int):hX:={ a with c:=c,now:=now }
noncomputable def Am (p ca:Addr) (H H':Hp):Prop:=∀b u,H b=some u->b≠p->b≠ca->H' b=some u
noncomputable def MV (C:Addr):Sp:=fun vs H Q _=>∃(a:hX) (fl:Addr) (fs:List Nat),vs=[.ref a.p,.ref fl]/\a.At C H/\d_ a/\H fl=some (.lst (fs.map fun i:Nat=>V.int (i:Int)))/\fl≠a.ca/\Du a fs/\(∃kvs,H a.be=some (.dK kvs))/\a.lt≠a.ca/\a.lw≠a.ca/\a.ow≠a.ca/\
 ∀l H' r j,H l=none->Am a.p a.ca H H'->H' l=some (.lst (r.map fun i:Nat=>V.int (i:Int)))->r=HD.iter (a.with (HD.ag fs a.now a.c) a.now).S j (a.with (HD.ag fs a.now a.c) a.now).l0->(a.with (HD.ag fs a.now a.c) a.now).S r=r->
  (a.with (HD.ag r a.now (HD.ag fs a.now a.c)) (a.now+1)).At C H'->Q (.ref l) H'
theorem d_.with (h:d_ a) (e:c.length=a.c.length):d_ (a.with c now):=
 ⟨fun x hx=>e▸h.t x hx,fun x hx=>by obtain ⟨f,h1,h2,h3⟩:=h.m x hx;exact ⟨f,h1,e▸h2,e▸h3⟩,h.tl,h.ml,fun m hm=>e▸h.own m hm,h.ol⟩
theorem jF.l9 {own:List Nat} {now:Int} (h:jF C H p lt lw be ow ca F T M own c now) (hb:∃kvs,H be=some (.dK kvs)) (n1:lt≠ca) (n2:lw≠ca) (n3:ow≠ca):jF C (upd H ca (.lst (c'.map ov))) p lt lw be ow ca F T M own c' now:=by
 obtain ⟨⟨dx,h1⟩,⟨ps,h2,h3⟩,⟨qs,h4,h5⟩,⟨gO,r1,r2,r3,r4⟩,h7,h8⟩:=h;obtain ⟨kvs,hb⟩:=hb;have kp:∀b u,H b=some u->b≠ca->upd H ca (.lst (c'.map ov)) b=some u:=fun b u e n=>by rw [au n];exact e
 have tup:∀{q xs},H q=some (.tup xs)->upd H ca (.lst (c'.map ov)) q=some (.tup xs):=fun e=>kp _ _ e (aQ e h8 nofun);refine ⟨⟨dx,kp _ _ h1 (aQ h1 h8 nofun)⟩,⟨ps,kp _ _ h2 n1,dN h3 fun q r e=>tup e⟩,⟨qs,kp _ _ h4 n2,dN h5 fun q r e=>tup e⟩,⟨gO,?_,r2,r3,fun e f hf=>?_⟩,kp _ _ h7 n3,aq⟩
 ·rcases r1 with r1 | ⟨o,r1⟩
  ·exact .inl (kp _ _ r1 (aQ r1 h8 nofun))
  ·exact .inr ⟨o,kp _ _ r1 (aQ r1 h8 nofun)⟩
 ·obtain ⟨q,q1,q2⟩:=r4 e f hf;exact ⟨q,q1,tup q2⟩
theorem jF.uv {own:List Nat} {now v:Int} (h:jF C H p lt lw be ow ca F T M own c now) (hp:∃fs,H p=some (.ins C dx fs)):jF C (upd H p (.ins C dx (md lt lw be ow ca v))) p lt lw be ow ca F T M own c v:=by
 obtain ⟨_,⟨ps,h2,h3⟩,⟨qs,h4,h5⟩,⟨gO,r1,r2,r3,r4⟩,h7,h8⟩:=h;obtain ⟨fs,hp⟩:=hp;have kp:∀b u,H b=some u->b≠p->upd H p (.ins C dx (md lt lw be ow ca v)) b=some u:=fun b u e n=>by rw [au n];exact e
 have tup:∀{q xs},H q=some (.tup xs)->upd H p (.ins C dx (md lt lw be ow ca v)) q=some (.tup xs):=fun e=>kp _ _ e (aQ e hp nofun);refine ⟨⟨dx,aq⟩,⟨ps,kp _ _ h2 (aQ h2 hp nofun),dN h3 fun q r e=>tup e⟩,⟨qs,kp _ _ h4 (aQ h4 hp nofun),dN h5 fun q r e=>tup e⟩,⟨gO,?_,r2,r3,fun e f hf=>?_⟩,kp _ _ h7 (aQ h7 hp nofun),kp _ _ h8 (aQ h8 hp nofun)⟩
 ·rcases r1 with r1 | ⟨o,r1⟩
  ·exact .inl (kp _ _ r1 (aQ r1 hp nofun))
  ·exact .inr ⟨o,kp _ _ r1 (aQ r1 hp nofun)⟩
 ·obtain ⟨q,q1,q2⟩:=r4 e f hf;exact ⟨q,q1,tup q2⟩
noncomputable abbrev nHg:List Str:=["self","fallen","end","coming","moment"]
theorem CP:cF nHg ["self","fallen"] (aZ dm):=cT
theorem uk (F:gc K "goes" "Hand.goes" dm f fd) (T:ou K mg C)
 (mL:gq K C "look_over" fL) (bL:dP K Ci ["self","fallen"] []) (GL:aw P w K mg base ax 3 fL Ci ["self","fallen"] (MZ C))
 (mA:gq K C "all_let" fA) (bA:dP K LZ ["self"] []) (GA:aw P w K mg base ax 3 fA LZ ["self"] (Pc C)):aw P w K mg base ax 4 f fd ["self","fallen"] (MV C):=by
 refine F.ok CP (fun _ _ _ _ h=>?_) fun _ A _ s H _ Q E hr h=>?_
 ·obtain ⟨_,_,_,rfl,_⟩:=h;rfl
 ·obtain ⟨a,fl,fs,rfl,hA,ae,jt,y9,hF,⟨kvs,gY⟩,n1,n2,n3,k⟩:=h;refine ⟨_,aY (gB (OC (gX (pv 0) T.cl mL GL hr bL .nil ee (cw (pv 1)))))
   (aY (iP PassesOwn.never rfl (gA (pv 1)) (cj 2 CP.nd)
    (az (HE (cS (pv 0) rfl) (HB (cS (pv 0) rfl) (pv 2) ID))))
   (aY (cI 3 CP.nd (vw (pv 0) T.cl mA GA hr bA .nil ee))
   (aY (iP PassesOwn.never rfl (gA (pv 3)) (cj 4 CP.nd)
    (az (HE (cS (pv 0) rfl) (HB (cS (pv 0) rfl) (pv 4) ID))))
   (aY (X1 (pv 0) aH US)
   (az (c7 (pv 3))))))),?_⟩
  obtain ⟨dx,hp⟩:=hA.ins;refine fun N1 c1=>⟨_,rfl,a.p,dx,_,rfl,hp,by with_unfolding_all rfl,_,rfl,a,fl,fs,rfl,hA,jt,hF,⟨kvs,gY⟩,fun o kvs2 H1 e1 e2 kp=>⟨a.be,o,_,e2,fun o u z=>?_,c1 _ _ ?_⟩⟩
  ·have z:H a.be=some (.dB o u):=z;rw [gY] at z;cases z
  clear c1 N1;rw [gY] at e1;cases e1;have s1:aM H (upd H1 a.be (.dK kvs)):=fun b u e=>by
   by_cases c:b=a.be
   ·subst c;rw [gY] at e;cases e;exact aq
   ·rw [au c];exact kp _ _ e c
  generalize upd H1 a.be (.dK kvs)=H2 at*;clear kp e2;have lt_:∀e∈fs,e<a.c.length:=fun e he=>by
   obtain ⟨f,t,h1,_⟩:=hF.ok e he;exact (hF.lt e f h1).1
  have step:∀{l:List Nat} {c:List (Option Int)} {i e:Nat},l[i]?=some e->(HD.ag (l.take i) a.now c).set e (some a.now)=HD.ag (l.take (i+1)) a.now c:=fun {l c i e} h=>by
   rw [jC,h,HD.jB];rfl
  refine fun N1 c1=>⟨_,rfl,fl,rfl,⟨_,ay.of (s1 _ _ jt)⟩,?_⟩;refine kO (K:=K) (a:=fl) (xs:=fs.map fun i:Nat=>V.int (i:Int)) (fun i aa H'=>∃v2,aa=[some (.ref a.p),some (.ref fl),v2,none,none]/\(a.with (HD.ag (fs.take i) a.now a.c) a.now).At C H'/\∀b u,H b=some u->b≠a.ca->H' b=some u) ⟨none,rfl,hX.At.same hA s1,fun b u e _=>s1 _ _ e⟩ ?_ ?_ ?_
  ·rintro i aa H3 _ ⟨v2,rfl,sL,k3⟩;exact ay.of (k3 _ _ jt y9)
  ·rintro i y aa H3 hy ⟨v2,rfl,sL,k3⟩;rw [dt] at hy
   cases hq:fs[i]? with
   | none=>rw [hq] at hy;cases hy
   | some e=>
    rw [hq] at hy;cases hy;have he:=lt_ e (dZ hq);obtain ⟨uP,iG⟩:=sL.ins;have pJ:(((a.with (HD.ag (fs.take i) a.now a.c) a.now).c).map ov).length=a.c.length:=by rw [a7];exact HD.bg _ _ _
    refine ⟨_,rfl,a.p,C,uP,_,_,rfl,iG,T.cl,T.nN,yw,_,rfl,a.p,C,uP,_,_,rfl,iG,T.cl,T.nC,pN,_,rfl,a.ca,_,_,e,rfl,rfl,sL.dX,by rw [pJ];exact NC he,?_⟩;have ec:(((a.with (HD.ag (fs.take i) a.now a.c) a.now).c).map ov).set e (.int (a.with (HD.ag (fs.take i) a.now a.c) a.now).now)=(HD.ag (fs.take (i+1)) a.now a.c).map ov:=by
     rw [<-step hq,List.map_set];rfl
    rw [ec];exact ⟨_,rfl,jF.l9 sL ⟨kvs,k3 _ _ gY (aQ gY hA.dX nofun)⟩ n1 n2 n3,fun b u e n=>by rw [au n];exact k3 _ _ e n⟩
  rintro aa H3 ⟨v2,rfl,sL,k3⟩;rw [a7,ir] at sL;refine c1 _ _ ?_;clear c1 N1;obtain ⟨uP,iG⟩:=sL.ins;have B5:d_ (a.with (HD.ag fs a.now a.c) a.now):=ae.with (HD.bg _ _ _);refine fun N1 c1=>⟨_,rfl,a.p,uP,_,rfl,iG,by with_unfolding_all rfl,a.with (HD.ag fs a.now a.c) a.now,rfl,sL,B5,fun l H4 r j hl s4 el er es=>c1 _ _ ?_⟩;clear c1 N1;have LA:=sL.dX;have RY:l≠a.ca:=(aO LA hl).symm;have lH:H l=none:=by
   cases h:H l with
   | none=>rfl
   | some u=>have:=k3 _ _ h RY;rw [hl] at this;cases this
  have hA4:=sL.same s4;have k4:∀b u,H b=some u->b≠a.ca->H4 b=some u:=fun b u e n=>s4 _ _ (k3 b u e n);have Fc:∀m∈r,m<a.c.length:=fun m hm=>by
   rw [er] at hm;have:=B5.own m (List.mem_filter.mp (HD.gN _ _ m hm)).1;have e:(a.with (HD.ag fs a.now a.c) a.now).c.length=a.c.length:=HD.bg _ _ _;lia
  refine fun N1 c1=>⟨_,rfl,l,rfl,⟨_,ay.of el⟩,?_⟩;refine kO (K:=K) (a:=l) (xs:=r.map fun i:Nat=>V.int (i:Int)) (fun i aa H'=>∃v4,aa=[some (.ref a.p),some (.ref fl),v2,some (.ref l),v4]/\(a.with (HD.ag (r.take i) a.now (HD.ag fs a.now a.c)) a.now).At C H'/\H' l=some (.lst (r.map fun i:Nat=>V.int (i:Int)))/\∀b u,H b=some u->b≠a.ca->H' b=some u) ⟨none,rfl,hA4,el,k4⟩ ?_ ?_ ?_
  ·rintro i aa H5 _ ⟨v4,rfl,_,e5,_⟩;exact ay.of e5
  ·rintro i y aa H5 hy ⟨v4,rfl,yy,e5,k5⟩;rw [dt] at hy
   cases hq:r[i]? with
   | none=>rw [hq] at hy;cases hy
   | some e=>
    rw [hq] at hy;cases hy;have he:=Fc e (dZ hq);obtain ⟨sN,qU⟩:=yy.ins;have Lk:(((a.with (HD.ag (r.take i) a.now (HD.ag fs a.now a.c)) a.now).c).map ov).length=a.c.length:=by rw [a7];exact (HD.bg _ _ _).trans (HD.bg _ _ _)
    refine ⟨_,rfl,a.p,C,sN,_,_,rfl,qU,T.cl,T.nN,yw,_,rfl,a.p,C,sN,_,_,rfl,qU,T.cl,T.nC,pN,_,rfl,a.ca,_,_,e,rfl,rfl,yy.dX,by rw [Lk];exact NC he,?_⟩;have ec:(((a.with (HD.ag (r.take i) a.now (HD.ag fs a.now a.c)) a.now).c).map ov).set e (.int (a.with (HD.ag (r.take i) a.now (HD.ag fs a.now a.c)) a.now).now)=(HD.ag (r.take (i+1)) a.now (HD.ag fs a.now a.c)).map ov:=by
     rw [<-step hq,List.map_set];rfl
    rw [ec];exact ⟨_,rfl,jF.l9 yy ⟨kvs,k5 _ _ gY (aQ gY hA.dX nofun)⟩ n1 n2 n3,by rw [au RY];exact e5,fun b u e n=>by rw [au n];exact k5 _ _ e n⟩
  rintro aa H5 ⟨v4,rfl,yy,e5,k5⟩;rw [a7,ir] at yy;refine c1 _ _ ?_;clear c1 N1;obtain ⟨sN,qU⟩:=yy.ins;refine fun N1 c1=>⟨_,rfl,a.p,C,sN,_,_,rfl,qU,T.cl,T.nN,yw,_,_,rfl,rfl,sN,_,qU,by show 6<1000;decide,c1 _ _ ⟨_,rfl,?_⟩⟩;have ep:ak "now" (.int (a.now+1)) (md a.lt a.lw a.be a.ow a.ca a.now)=md a.lt a.lw a.be a.ow a.ca (a.now+1):=ZL;have SV:jF C (upd H5 a.p (.ins C sN (md a.lt a.lw a.be a.ow a.ca (a.now+1)))) a.p a.lt a.lw a.be a.ow a.ca a.F a.T a.M a.own (HD.ag r a.now (HD.ag fs a.now a.c)) (a.now+1):=jF.uv yy ⟨_,qU⟩;rw [<-ep] at SV;refine k l _ r j lH (fun b u e n1 n2=>?_) ?_ er es SV
  ·rw [au n1];exact k5 _ _ e n2
  ·have lp:l≠a.p:=aQ e5 qU nofun;rw [au lp];exact e5
noncomputable def rN (N:Nat) (F:List (List Int)):List Nat:=(List.range N).filter fun (i:Nat)=>decide (¬(i:Int)∈F.map pY)
theorem VB:(sV N F).map V.int=(rN N F).map fun i:Nat=>V.int (i:Int):=by
 unfold sV rN;rw [List.map_map];rfl
theorem Wg:(List.replicate ((n:Nat):Int).toNat [V.bf]).flatten=(List.replicate n (none:Option Int)).map ov:=by
 rw [lS,List.map_replicate]
 induction n with
 | zero=>rfl
 | succ n ih=>rw [List.replicate_succ,List.flatten_cons,ih,List.replicate_succ];rfl
noncomputable def NY (C CW:Addr):Sp:=fun vs H Q _=>∃(p wb dx:Addr) (n:Nat) (la:Int) (T F:List (List Int)) (Te:Nat),vs=[.ref p,.ref wb]/\H p=some (.ins C dx [])/\kM CW H wb (n:Int) la T F/\di (n:Int) la T F/\Ak n (bR F) (nz n la T F) Te/\(jz n la T F Te).bar=none/\
 ∀H' lt lw be ow ca L M,jF C H' p lt lw be ow ca (bR F) L (M.filter (gu (bR F))) (rN n F) (List.replicate n none) 0->ni (jz n la T F Te) true L->ni (jz n la T F Te) false M->H ca=none->(∃kvs,H' be=some (.dK kvs))->lt≠ca->lw≠ca->ow≠ca->cB p H H'->Q .bf H'
noncomputable abbrev nHi:List Str:=["self","web","answer"]
theorem QY:cF nHi ["self","web"] (aZ dk):=cT
theorem qC (F:gc K "__init__" "Hand.__init__" dk f fd) (T:ou K mg C) (TC:o_ K mg CW)
 (FK:Fn K mg "kept" f7 ["web"] fK Cj) (GK:aw P w K mg base ax 6 fK Cj ["web"] (HI CW))
 (FE:Fn K mg "falls_by_end" bJ ["web"] fE zQ) (GE:aw P w K mg base ax 2 fE zQ ["web"] (HY CW))
 (mO:gq K CW "own" fO) (bO:dP K fdO ["self"] []) (GO:aw P w K mg base ax 1 fO fdO ["self"] (MN CW)):aw P w K mg base ax 7 f fd ["self","web"] (NY C CW):=by
 refine F.ok QY (fun _ _ _ _ h=>?_) fun _ A _ s H _ Q E hr h=>?_
 ·obtain ⟨_,_,_,_,_,_,_,_,rfl,_⟩:=h;rfl
 ·obtain ⟨p,wb,dx,n,la,rT,rF,Te,rfl,hp,W0,ae,hE,bQ,k⟩:=h;have gE:dn 1 _:=hr.mono (by decide);have i9:dn 2 _:=hr.mono (by decide);refine ⟨_,aY (cI 2 QY.nd (cO GK hr FK (cw (pv 1))))
   (aY (d0 (cV fw (aE (pv 2)) fh) o8 d9)
   (aY (lJ (pv 0) (aE (pv 2)) rfl)
   (aY (lJ (pv 0) (aE (pv 2)) rfl)
   (aY (lJ (pv 0) (cO GE i9 FE (cw (pv 1))) rfl)
   (aY (lJ (pv 0) (vw (pv 1) TC.cl mO GO gE bO .nil ee) rfl)
   (aY (lJ (pv 0) (cG Va (jN (cw j7)) (cS (pv 1) rfl)) rfl)
   (az (lJ (pv 0) aH rfl)))))))),?_⟩
  refine fun N1 c1=>⟨_,rfl,wb,n,la,rT,rF,Te,rfl,W0,ae,hE,fun r H1 gE s1=>⟨fun b hb _=>?_,fun _ hR=>c1 _ _ ?_⟩⟩
  ·rw [bQ] at hb;cases hb
  clear c1 N1;obtain ⟨lt,lw,ps,qs,L,MM,g1,g2,g3,hL,g4,g5,hM⟩:=hR;have n8:=ae.n2;refine fun N1 c1=>⟨_,rfl,a9 g1 rfl ⟨rfl,_,rfl,g9 (by decide+kernel) (c1 _ _ ?_)⟩⟩;clear c1 N1;have fq:=s1 _ _ hp;refine fun N1 c1=>⟨_,rfl,a9 g1 rfl ⟨_,rfl,p,C,dx,_,rfl,fq,T.cl,T.nT,by show 0<1000;decide,c1 _ _ ?_⟩⟩;clear c1 N1;have k2:cB p H1 (upd H1 p (.ins C dx (ak "rule_ties" (.ref lt) []))):=fun b o e ne=>by rw [au ne];exact e
  have gz:upd H1 p (.ins C dx (ak "rule_ties" (.ref lt) [])) p=some (.ins C dx (ak "rule_ties" (.ref lt) [])):=aq;generalize upd H1 p (.ins C dx (ak "rule_ties" (.ref lt) []))=H2 at*;have pt:∀{q xs},H1 q=some (.tup xs)->q≠p:=fun e=>aQ e fq nofun;have pl:∀{q xs},H1 q=some (.lst xs)->q≠p:=fun e=>aQ e fq nofun;refine fun N1 c1=>⟨_,rfl,a9 (k2 _ _ g1 (pt g1)) rfl ⟨_,rfl,p,C,dx,_,rfl,gz,T.cl,T.nW,by show 1<1000;decide,c1 _ _ ?_⟩⟩;clear c1 N1;have k3:cB p H1 (upd H2 p (.ins C dx (ak "rule_waits" (.ref lw) (ak "rule_ties" (.ref lt) [])))):=fun b o e ne=>by rw [au ne];exact k2 _ _ e ne
  have iG:upd H2 p (.ins C dx (ak "rule_waits" (.ref lw) (ak "rule_ties" (.ref lt) []))) p=some (.ins C dx (ak "rule_waits" (.ref lw) (ak "rule_ties" (.ref lt) []))):=aq;generalize upd H2 p (.ins C dx (ak "rule_waits" (.ref lw) (ak "rule_ties" (.ref lt) [])))=H3 at*;have EL:∀{H':Hp},cB p H1 H'->kM CW H' wb (n:Int) la rT rF:=fun {H'} kk=>by
   obtain ⟨dw,ta,fa,w1,⟨ts,w2,w3⟩,⟨fs,w4,w5⟩⟩:=W0.same s1;have wp:wb≠p:=fun e=>by subst e;rw [fq] at w1;cases w1
   exact ⟨dw,ta,fa,kk _ _ w1 wp,⟨ts,kk _ _ w2 (pl w2),dN w3 fun q r e=>kk _ _ e (pt e)⟩,⟨fs,kk _ _ w4 (pl w4),dN w5 fun q r e=>kk _ _ e (pt e)⟩⟩
  refine fun N1 c1=>⟨_,rfl,wb,_,la,rT,rF,rfl,EL k3,ae,fun be H4 gY s4 FA=>⟨_,rfl,p,C,dx,_,rfl,s4 _ _ iG,T.cl,T.nB,by show 2<1000;decide,c1 _ _ ?_⟩⟩;clear c1 N1;have k4:cB p H1 (upd H4 p (.ins C dx (ak "by_end" (.ref be) (ak "rule_waits" (.ref lw) (ak "rule_ties" (.ref lt) []))))):=fun b o e ne=>by rw [au ne];exact s4 _ _ (k3 _ _ e ne)
  have yd:upd H4 p (.ins C dx (ak "by_end" (.ref be) (ak "rule_waits" (.ref lw) (ak "rule_ties" (.ref lt) [])))) p=some (.ins C dx (ak "by_end" (.ref be) (ak "rule_waits" (.ref lw) (ak "rule_ties" (.ref lt) [])))):=aq;have FR:mf (upd H4 p (.ins C dx (ak "by_end" (.ref be) (ak "rule_waits" (.ref lw) (ak "rule_ties" (.ref lt) []))))) be (bR rF):=by
   have hq:=s4 _ _ iG;obtain ⟨kvs,f1,f2,f3,f4⟩:=FA.at_;refine ⟨kvs,by rw [au (aQ f1 hq nofun)];exact f1,f2,f3,fun e f hf=>?_⟩;obtain ⟨q,q1,q2⟩:=f4 e f hf;exact ⟨q,q1,by rw [au (aQ q2 hq nofun)];exact q2⟩
  generalize upd H4 p (.ins C dx (ak "by_end" (.ref be) (ak "rule_waits" (.ref lw) (ak "rule_ties" (.ref lt) []))))=H5 at*;obtain ⟨dw,ta,fa,w1,_,_⟩:=id (EL k4);refine fun N1 c1=>⟨_,rfl,wb,dw,_,rfl,w1,CU _ _ _ _ (by decide+kernel) (by decide+kernel) (by decide+kernel) (by decide+kernel),wb,n,la,rT,rF,rfl,EL k4,ae,fun ow H6 how s6 hO=>⟨_,rfl,p,C,dx,_,rfl,s6 _ _ yd,T.cl,T.nO,by show 3<1000;decide,c1 _ _ ?_⟩⟩;clear c1 N1;rw [VB] at hO;have KS:=s6 _ _ yd;have k6:cB p H1 (upd H6 p (.ins C dx (ak "own_moments" (.ref ow) (ak "by_end" (.ref be) (ak "rule_waits" (.ref lw) (ak "rule_ties" (.ref lt) [])))))):=fun b o e ne=>by rw [au ne];exact s6 _ _ (k4 _ _ e ne)
  have JJ:∀{b u},H6 b=some u->b≠p->upd H6 p (.ins C dx (ak "own_moments" (.ref ow) (ak "by_end" (.ref be) (ak "rule_waits" (.ref lw) (ak "rule_ties" (.ref lt) []))))) b=some u:=fun e ne=>by rw [au ne];exact e
  have LJ:=JJ hO (aQ hO KS nofun);obtain ⟨kvs,f1,f2,f3,f4⟩:=(FR.same s6).at_;have FY:=JJ f1 (aQ f1 KS nofun);have f47:∀(e:Nat) f,bR rF e=some f->∃p',eK kvs (.inl (e:Int))=some (.ref p')/\upd H6 p (.ins C dx (ak "own_moments" (.ref ow) (ak "by_end" (.ref be) (ak "rule_waits" (.ref lw) (ak "rule_ties" (.ref lt) []))))) p'=some (.tup [.int (f.1:Int),.int f.2.1,.int f.2.2]):=fun e f hf=>by
   obtain ⟨q,q1,q2⟩:=f4 e f hf;exact ⟨q,q1,JJ q2 (aQ q2 KS nofun)⟩
  have yc:upd H6 p (.ins C dx (ak "own_moments" (.ref ow) (ak "by_end" (.ref be) (ak "rule_waits" (.ref lw) (ak "rule_ties" (.ref lt) []))))) p=some (.ins C dx (ak "own_moments" (.ref ow) (ak "by_end" (.ref be) (ak "rule_waits" (.ref lw) (ak "rule_ties" (.ref lt) []))))):=aq;generalize upd H6 p (.ins C dx (ak "own_moments" (.ref ow) (ak "by_end" (.ref be) (ak "rule_waits" (.ref lw) (ak "rule_ties" (.ref lt) [])))))=H7 at*;obtain ⟨dw,ta,fa,w1,_,_⟩:=id (EL k6);refine fun N1 c1=>⟨eW rfl,fun l0 vW=>?_⟩;have s8:=bj (o:=.lst [.bf]) vW;refine ⟨_,rfl,wb,CW,dw,_,_,rfl,s8 _ _ w1,TC.cl,TC.nM,Dn _ _ _ _,l0,_,_,rfl,rfl,aq,by exact Int.NonNeg.mk (n+Nat.succ 9223372036854775807),by lia,?_,fun ca yp=>⟨_,rfl,p,C,dx,_,rfl,bj yp _ _ (s8 _ _ yc),T.cl,T.nC,by show 4<1000;decide,c1 _ _ ?_⟩⟩
  ·show 1*((n:Nat):Int).toNat<=sizeLine;exact bx (fi (by lia))
  clear c1 N1;have eca:=Wg (n:=n);rw [eca] at*;have s9:=s8.trans (bj (o:=.lst ((List.replicate n (none:Option Int)).map ov)) yp);have BR:upd (upd H7 l0 (.lst [.bf])) ca (.lst ((List.replicate n (none:Option Int)).map ov)) ca=some (.lst ((List.replicate n (none:Option Int)).map ov)):=aq;have LB:H ca=none:=by
   cases h:H ca with
   | none=>rfl
   | some u=>
    have h1:=s1 _ _ h
    by_cases e:ca=p
    ·subst e;have:=s8 _ _ yc;rw [yp] at this;cases this
    ·have:=s8 _ _ (k6 _ _ h1 e);rw [yp] at this;cases this
  generalize upd (upd H7 l0 (.lst [.bf])) ca (.lst ((List.replicate n (none:Option Int)).map ov))=H9 at*;have hp9:=s9 _ _ yc;refine ⟨_,rfl,p,C,dx,_,rfl,aq,T.cl,T.nN,by show 5<1000;decide,?_⟩;rw [H_];have k_:∀{b u},H7 b=some u->b≠p->upd H9 p (.ins C dx (ak "now" (.int 0) (ak "came" (.ref ca) (ak "own_moments" (.ref ow) (ak "by_end" (.ref be) (ak "rule_waits" (.ref lw) (ak "rule_ties" (.ref lt) []))))))) b=some u:=fun e ne=>by rw [au ne];exact s9 _ _ e
  have first:∀{b u},H1 b=some u->b≠p->upd H9 p (.ins C dx (ak "now" (.int 0) (ak "came" (.ref ca) (ak "own_moments" (.ref ow) (ak "by_end" (.ref be) (ak "rule_waits" (.ref lw) (ak "rule_ties" (.ref lt) []))))))) b=some u:=fun e ne=>k_ (k6 _ _ e ne) ne
  have Kd:∀{b u},H7 b=some u->b≠ca:=fun {b u} e=>aO (s8 _ _ e) yp;refine k _ lt lw be ow ca L MM ⟨⟨dx,?_⟩,⟨ps,first g2 (pl g2),dN g3 fun q x e=>first e (pt e)⟩,⟨qs,first g4 (pl g4),dN g5 fun q x e=>first e (pt e)⟩,⟨kvs,.inl (k_ FY (aQ FY yc nofun)),f2,f3,fun e f hf=>?_⟩,k_ LJ (aQ LJ yc nofun),?_⟩ hL hM LB ⟨kvs,k_ FY (aQ FY yc nofun)⟩ (Kd (k6 _ _ g2 (pl g2))) (Kd (k6 _ _ g4 (pl g4))) (Kd LJ) (fun b u e ne=>first (s1 _ _ e) ne)
  ·rw [aq]
   with_unfolding_all rfl
  ·obtain ⟨q,q1,q2⟩:=f47 e f hf;exact ⟨q,q1,k_ q2 (aQ q2 yc nofun)⟩
  ·rw [au (aQ BR hp9 nofun)];exact BR
end Y0
namespace L2
open PySem PySem.Spec PyProof.Rows
noncomputable def pF (n:Nat) (t:Nat->Int):List V:=(List.range n).map fun i=>V.int (t i)
theorem V2:(pF n t).length=n:=by unfold pF;rw [a7,List.length_range]
theorem NG (h:i<n):(pF n t)[i]?=some (.int (t i)):=by
 unfold pF;rw [dt,List.getElem?_range h];rfl
theorem vd (h:i<n):g_ (pF n t) (i:Int)=some (.int (t i)):=j8 (NG h)
end L2
namespace Y0
open PySem L2
noncomputable def vb:List Int->MB.B3
 | [a,b,m]=>(a.toNat,b.toNat,m)
 | _=>(0,0,0)
noncomputable def Idx (N:Nat) (rows:List (List Int)):Prop:=∀r∈rows,∃(a b:Nat) (m:Int),r=[(a:Int),(b:Int),m]/\a<N/\b<N
end Y0
namespace L2
open PySem
theorem e_.two (r1 r2:List Int) (R:e_ H1 l ps rows) (fq:H1 p1=none) (gz:upd H1 p1 (.tup (r1.map V.int)) p2=none) (hq:upd (upd H1 p1 (.tup (r1.map V.int))) p2 (.tup (r2.map V.int)) q=none):
 upd (upd (upd H1 p1 (.tup (r1.map V.int))) p2 (.tup (r2.map V.int))) q (.lst [V.ref p1,V.ref p2]) l=some (.lst (ps.map V.ref))/\aM H1 (upd (upd (upd H1 p1 (.tup (r1.map V.int))) p2 (.tup (r2.map V.int))) q (.lst [V.ref p1,V.ref p2]))/\
 ∀p,upd (upd (upd H1 p1 (.tup (r1.map V.int))) p2 (.tup (r2.map V.int))) q (.lst [V.ref p1,V.ref p2]) p=none->e_ (upd (upd (upd (upd H1 p1 (.tup (r1.map V.int))) p2 (.tup (r2.map V.int))) q (.lst [V.ref p1,V.ref p2])) p (.lst (ps.map V.ref++[V.ref p1,V.ref p2]))) p (ps++[p1,p2]) (rows++[r1,r2]):=by
 have sA:=bj (o:=.tup (r1.map V.int)) fq;have sB:=bj (o:=.tup (r2.map V.int)) gz;have sC:=bj (o:=.lst [V.ref p1,V.ref p2]) hq;have e1:=sC _ _ (sB _ _ (aq (H:=H1) (a:=p1) (o:=.tup (r1.map V.int))));have e2:=sC _ _ (aq (H:=upd H1 p1 (.tup (r1.map V.int))) (a:=p2) (o:=.tup (r2.map V.int)));have R':=((R.same sA).same sB).same sC;have R2:e_ (upd (upd (upd H1 p1 (.tup (r1.map V.int))) p2 (.tup (r2.map V.int))) q (.lst [V.ref p1,V.ref p2])) q [p1,p2] [r1,r2]:=⟨aq,.cons e1 (.cons e2 .nil)⟩;exact ⟨R'.1,(sA.trans sB).trans sC,fun p hp=>R'.cat R2 hp⟩
end L2
namespace Y0
open PySem L2
structure tF (H:Hp) (wp ta fa:Addr) (n la:Int) (T F:List (List Int)):Prop where
 tup:H wp=some (.tup [.int n,.int la,.ref ta,.ref fa])
 t:fz H ta T
 f:fz H fa F
theorem tF.same (h:tF H wp ta fa n la T F) (k:aM H H'):tF H' wp ta fa n la T F:=⟨k _ _ h.tup,h.t.same k,h.f.same k⟩
noncomputable def PM:Sp:=fun vs H Q _=>∃wp ta fa n la T F,vs=[.ref wp]/\tF H wp ta fa n la T F/\di n la T F/\∀l H',H l=none->aM H H'->fz H' l (iM n la T F)->Q (.ref l) H'
noncomputable def Pf:Sp:=fun vs H Q _=>∃(wp ta fa tl:Addr) (N:Nat) (la:Int) (T F:List (List Int)) (t:Nat->Int),vs=[.ref wp,.ref tl]/\tF H wp ta fa (N:Int) la T F/\di (N:Int) la T F/\H tl=some (.lst (pF N t))/\
 ∀(b:Bool) H',aM H H'->(b=true↔(t 0=0/\∀x∈(iM (N:Int) la T F).map vb,t x.2.1-t x.1<=x.2.2))->Q (.bl b) H'
theorem QI (a b:List (List Int)):jM (a++b)=jM a++jM b:=by unfold jM;rw [eJ,List.flatten_append]
noncomputable abbrev nLb:List Str:=["_law_w","_law_bounds_here","_law_moment","_law_one","_law_other","_law_least","_law_most"]
theorem sY:cF nLb ["_law_w"] (aZ fJ):=cT
theorem mw (F:Fn K mg "_law_bounds" fJ ["_law_w"] f fd) (jW:mg "range"=none):Al P w K mg base ax 1 f fd ["_law_w"] PM:=by
 refine F.F.okH sY (fun vs H Q E h=>?_) (fun dc A outer s H vs Q E hr hh h=>?_)
 ·obtain ⟨wp,_,_,_,_,_,_,rfl,_⟩:=h;rfl
 ·obtain ⟨wp,ta,fa,n,la,rT,rF,rfl,D0,ae,k⟩:=h;refine ⟨_,cC (cI 1 sY.nd (jN nH))
   (cC (HW PassesOwn.never (.inr hh) (PB rfl jW (cf aH (aE (pv 0)))) (cj 2 sY.nd)
    (az (cI 1 sY.nd (cG yY (pv 1) (jN (cf (eU (gD aH (pv 2) (aE (pv 0)))) (eU (gD (pv 2) aH aH))))))))
   (cC (HW PassesOwn.never (.inr hh) (gA (cG yY (aE (pv 0)) (aE (pv 0))))
    (VE (K:=K) (n:=4) rfl (.inr hh) (eL (cj 3 sY.nd) (eL (cj 4 sY.nd) (eL (cj 5 sY.nd) (eL (cj 6 sY.nd) qg)))))
    (az (cI 1 sY.nd (cG yY (pv 1) (jN (cf (eU (gD (pv 3) (pv 4) (pv 6))) (eU (gD (pv 4) (pv 3) (cG iO aH (pv 5))))))))))
   (az (c7 (pv 1))))),?_⟩
  have n1:=ae.n1;have n2:=ae.n2;refine ⟨dM _,fun l0 vW=>?_⟩;have s0:=bj (o:=.lst []) vW;refine ⟨_,rfl,a9 (s0 _ _ D0.tup) rfl ⟨1,n,rfl,⟨by decide,by decide,by lia,by lia⟩,?_⟩⟩;refine zq (n:=(n-1).toNat) (fun i aa H'=>∃v l ps,aa=[some (.ref wp),some (.ref l),v,none,none,none,none]/\e_ H' l ps (jL la i)/\aM H H'/\H l=none) ⟨none,l0,[],rfl,⟨aq,.nil⟩,s0,vW⟩ ?_ ?_
  ·rintro i aa H1 hi ⟨v,l,ps,rfl,R1,s1,hl⟩;have e:jL la (i+1)=jL la i++[[0,1+(i:Int),la],[1+(i:Int),0,0]]:=by
    rw [Int.add_comm 1 (i:Int)];rfl
   rw [e];refine ⟨_,rfl,_,rfl,_,rfl,a9 (s1 _ _ D0.tup) rfl ⟨eW rfl,fun p1 fq=>?_⟩⟩;refine ⟨_,rfl,eW rfl,fun p2 gz=>?_⟩;refine ⟨eW rfl,fun q hq=>?_⟩;obtain ⟨f1,f2,f3⟩:=R1.two [0,1+(i:Int),la] [1+(i:Int),0,0] fq gz hq;refine ⟨l,q,_,_,rfl,rfl,f1,aq,?_,fun p hp=>?_⟩
   ·rw [a7,R1.len,vq];exact bx (fi (by show 2*i+2<=1000;lia))
   ·have s2:=s1.trans f2;exact ⟨_,p,_,rfl,f3 p hp,s2.trans (bj hp),s2.free hp⟩
  ·rintro aa H1 ⟨v,l,ps,rfl,R1,s1,hl⟩;have D1:=D0.same s1;obtain ⟨pt,Rt⟩:=D1.t;obtain ⟨pf,Rf⟩:=D1.f;have tl:=ae.tl;have fl:=ae.fl;refine ⟨_,rfl,a9 D1.tup rfl ⟨_,rfl,a9 D1.tup rfl ⟨ta,fa,_,_,rfl,rfl,Rt.1,Rf.1,?_,fun sl Sl=>⟨sl,rfl,⟨_,ay.of aq⟩,?_⟩⟩⟩⟩
   ·rw [a7,a7,Rt.len,Rf.len];exact bx (fi (by lia))
   have RS:=Rt.cat Rf Sl;have s2:=bj (o:=.lst (pt.map V.ref++pf.map V.ref)) Sl;have R2:=R1.same s2;have sf:=s1.trans s2;generalize upd H1 sl (.lst (pt.map V.ref++pf.map V.ref))=H2 at*;have four:uT (rT++rF):=fun r hr=>(kJ.mp hr).elim (ae.om r) (ae.l7 r);refine kO (K:=K) (a:=sl) (xs:=(pt++pf).map V.ref) (fun i aa H'=>∃v3 v4 v5 v6 l ps,aa=[some (.ref wp),some (.ref l),v,v3,v4,v5,v6]/\e_ H' l ps (jL la (n-1).toNat++jM ((rT++rF).take i))/\aM H2 H'/\H l=none)
    ⟨none,none,none,none,l,ps,rfl,by rw [List.take_zero];show e_ _ _ _ (_++[]);rw [List.append_nil];exact R2,aM.refl _,hl⟩ ?_ ?_ ?_
   ·rintro i aa H3 _ ⟨v3,v4,v5,v6,l,ps,rfl,_,s3,_⟩;exact ay.of (s3 _ _ RS.1)
   ·rintro i x aa H3 hx ⟨v3,v4,v5,v6,l,ps,rfl,R3,s3,pJ⟩;obtain ⟨q,r,rfl,hq,bo,jq⟩:=RS.get hx;obtain ⟨a',b',le,mo,e4⟩:=four r (dZ bo);subst e4;have hi:i<(rT++rF).length:=(ff.mp bo).1;have mS:uT ((rT++rF).take i):=fun r hr=>four r (List.mem_of_mem_take hr);have e:jL la (n-1).toNat++jM ((rT++rF).take (i+1))=jL la (n-1).toNat++jM ((rT++rF).take i)++[[a',b',mo],[b',a',0-le]]:=by
     rw [jC,bo,QI,List.append_assoc,Int.zero_sub];rfl
    rw [e];refine ⟨q,_,rfl,dz.of (s3 _ _ jq),rfl,_,_,rfl,_,_,rfl,_,_,rfl,_,_,rfl,rfl,?_⟩;refine ⟨_,rfl,_,rfl,_,rfl,_,rfl,eW rfl,fun p1 fq=>?_⟩;refine ⟨_,rfl,_,rfl,_,rfl,_,_,rfl,rfl,eW rfl,fun p2 gz=>?_⟩;refine ⟨eW rfl,fun q' jX=>?_⟩;obtain ⟨f1,f2,f3⟩:=R3.two [a',b',mo] [b',a',0-le] fq gz jX;refine ⟨l,q',_,_,rfl,rfl,f1,aq,?_,fun p hp=>?_⟩
    ·rw [a7,R3.len,gR,vq,tK mS,iA];refine bx (fi ?_);rw [gR] at*;show 2*(n-1).toNat+2*min i (rT.length+rF.length)+2<=1000;omega
    ·have s4:=s3.trans f2;exact ⟨_,_,_,_,p,_,rfl,f3 p hp,s4.trans (bj hp),sf.free (s4.free hp)⟩
   ·rintro aa H3 ⟨v3,v4,v5,v6,l,ps,rfl,R3,s3,pJ⟩;have hle:(rT++rF).take ((pt++pf).map V.ref).length=rT++rF:=by
     rw [a7,RS.len];exact ir
    rw [hle,QI,<-List.append_assoc] at R3;exact ⟨_,rfl,k l _ pJ (sf.trans s3) ⟨ps,R3⟩⟩
theorem XZ (ae:di n la T F) (h:bR F e=some f):∃t,(F.filter fun r=>decide (r[1]?=some (e:Int)))=[(f.1:Int),(e:Int),f.2.1,f.2.2]::t:=by
 unfold bR at h
 cases q:F.find? fun r=>decide (r[1]?=some (e:Int)) with
 | none=>rw [q] at h;cases h
 | some r=>
  rw [q] at h;have hm:=List.mem_of_find?_eq_some q;have hp:=List.find?_some q;obtain ⟨a,b,l,m,rfl,h0,_⟩:=ae.f r hm;have hp:decide ((some b:Option Int)=some (e:Int))=true:=hp;rw [ju,Option.some.injEq] at hp;subst hp;have h:some (a.toNat,l,m)=some f:=h;cases h;rw [<-List.head?_filter] at q
  cases hf:F.filter fun r=>decide (r[1]?=some (e:Int)) with
  | nil=>rw [hf] at q;cases q
  | cons x t=>
   rw [hf] at q;have q:some x=some [a,(e:Int),l,m]:=q;cases q;refine ⟨t,?_⟩;show _=[((a.toNat:Nat):Int),(e:Int),l,m]::t;rw [ot h0]
theorem Pt:HD.lets T M F c now m co=true↔(∀x∈T,x.1=m->HD.jP c now co x.2.1 x.2.2=true)/\∀x∈M,x.1=m->HD.i8 c now F x.2.1 x.2.2=true:=by
 unfold HD.lets;rw [Bool.and_eq_true,rD,rD];refine ⟨fun h=>⟨fun x hx e=>h.1 x (List.mem_filter.mpr ⟨hx,eQ e⟩),fun x hx e=>h.2 x (List.mem_filter.mpr ⟨hx,eQ e⟩)⟩,fun h=>⟨fun x hx=>?_,fun x hx=>?_⟩⟩
 ·have hx:=List.mem_filter.mp hx;exact h.1 x hx.1 (of_decide_eq_true hx.2)
 ·have hx:=List.mem_filter.mp hx;exact h.2 x hx.1 (of_decide_eq_true hx.2)
noncomputable def Mf (n:Nat) (F:List (List Int)) (c:List (Option Int)):List Nat:=(rN n F).filter fun m=>(HD.cm c m).isNone
noncomputable def n9 (c:List (Option Int)) (now:Int) (outs:List Int) (F:List (List Int)) (k:Nat):Bool:=match F[k]? with
 | some [b,e,_,_]=>(HD.cm c e.toNat).isNone && match HD.cm c b.toNat with
  | some t=>decide (now=t+outs.getD k 0)
  | none=>false
 | _=>false
noncomputable def Ae (F:List (List Int)) (k:Nat):Nat:=(((F[k]?).getD []).getD 1 0).toNat
noncomputable def gQ (c:List (Option Int)) (now:Int) (outs:List Int) (F:List (List Int)) (k:Nat):List Nat:=((List.range k).filter (n9 c now outs F)).map (Ae F)
section
variable {c:List (Option Int)} {now:Int} {outs:List Int} {n:Nat} {la:Int} {T F:List (List Int)}
theorem Iq:gQ c now outs F (k+1)=gQ c now outs F k++if n9 c now outs F k=true then [Ae F k] else []:=by
 unfold gQ;rw [List.range_succ,List.filter_append,eJ]
 by_cases h:n9 c now outs F k=true
 ·rw [if_pos h,List.filter_cons_of_pos h];rfl
 ·rw [if_neg h,List.filter_cons_of_neg h];rfl
theorem ze:e∈gQ c now outs F k↔∃j,j<k/\n9 c now outs F j=true/\Ae F j=e:=by
 unfold gQ;rw [gF];refine ⟨fun ⟨j,h,e⟩=>?_,fun ⟨j,h1,h2,h3⟩=>⟨j,List.mem_filter.mpr ⟨List.mem_range.mpr h1,h2⟩,h3⟩⟩;have h:=List.mem_filter.mp h;exact ⟨j,List.mem_range.mp h.1,h.2,e⟩
theorem AM (ae:di (n:Int) la T F) (h:n9 c now outs F k=true):∃b e l m,F[k]?=some [b,e,l,m]/\HD.cm c e.toNat=none/\∃t,HD.cm c b.toNat=some t/\now=t+outs.getD k 0:=by
 unfold n9 at h
 cases hk:F[k]? with
 | none=>rw [hk] at h;cases h
 | some r=>
  obtain ⟨b,e,l,m,rfl,_⟩:=ae.f r (dZ hk);rw [hk] at h;obtain ⟨h1,h2⟩:=Bool.and_eq_true_iff.mp h;refine ⟨b,e,l,m,rfl,Option.isNone_iff_eq_none.mp h1,?_⟩
  cases ht:HD.cm c b.toNat with
  | none=>rw [ht] at h2;cases h2
  | some t=>rw [ht] at h2;exact ⟨t,rfl,of_decide_eq_true h2⟩
theorem OT (h:F[k]?=some [b,e,l,m]) (h1:HD.cm c e.toNat=none) (h2:HD.cm c b.toNat=some t) (h3:now=t+outs.getD k 0):n9 c now outs F k=true:=by
 unfold n9;rw [h];show ((HD.cm c e.toNat).isNone && match HD.cm c b.toNat with | some t=>decide (now=t+outs.getD k 0) | none=>false)=true;rw [h1,h2];exact eQ h3
theorem vt (h:F[k]?=some [b,e,l,m]):Ae F k=e.toNat:=by unfold Ae;rw [h];rfl
theorem vk (ae:di (n:Int) la T F) {k:Nat} {r:List Int} (h:F[k]?=some r):∃b e l m,r=[b,e,l,m]/\0<=b/\b<n/\0<e/\e<n/\1<=l:=by
 obtain ⟨b,e,l,m,rfl,h1,h2,h3,h4,h5,h6,_⟩:=ae.f r (dZ h);exact ⟨b,e,l,m,rfl,h1,h2,by omega,h4,by omega⟩
theorem Nm (ae:di (n:Int) la T F) {k e:Nat} (h:e∈gQ c now outs F k):e<n:=by
 obtain ⟨j,_,h2,rfl⟩:=ze.mp h;obtain ⟨b,e,l,m,hj,_⟩:=AM ae h2;obtain ⟨_,_,_,_,er,_,_,h5,h6,_⟩:=vk ae hj;cases er;rw [vt hj];omega
theorem VP (ae:di (n:Int) la T F) {k i:Nat} {b e l m:Int} (h:F[i]?=some [b,e,l,m]):b.toNat∉gQ c now outs F k:=fun z=>by
 obtain ⟨j,_,h2,h3⟩:=ze.mp z;obtain ⟨b',e',l',m',hj,_⟩:=AM ae h2;obtain ⟨_,_,_,_,er,h4,_,h5,_⟩:=vk ae hj;cases er;obtain ⟨_,_,_,_,er,h6,_,h7,_⟩:=vk ae h;cases er;rw [vt hj] at h3;have e1:b=e':=by lia
 exact ae.own _ (dZ h) _ (dZ hj) (by rw [e1];rfl)
theorem Wh (ae:di (n:Int) la T F) {i j:Nat} {b e l m b' e' l' m':Int} (h:F[i]?=some [b,e,l,m]) (h':F[j]?=some [b',e',l',m']) (he:e.toNat=e'.toNat):i=j:=by
 obtain ⟨_,_,_,_,er,_,_,h5,_⟩:=vk ae h;cases er;obtain ⟨_,_,_,_,er,_,_,h6,_⟩:=vk ae h';cases er;exact ae.one i j _ _ h h' (by show some e=some e';rw [show e=e' by lia])
theorem VO (ae:di (n:Int) la T F) {k:Nat} {b e l m:Int} (h:F[k]?=some [b,e,l,m]):e.toNat∉gQ c now outs F k:=fun z=>by
 obtain ⟨j,h1,h2,h3⟩:=ze.mp z;obtain ⟨b',e',l',m',hj,_⟩:=AM ae h2;rw [vt hj] at h3;have:=Wh ae hj h h3;lia
theorem PX (ae:di (n:Int) la T F):∀k,k<=F.length->(gQ c now outs F k).Nodup
 | 0,_=>List.nodup_nil
 | k+1,hk=>by
  rw [Iq];have ih:=PX ae k (by exact bx hk)
  by_cases h:n9 c now outs F k=true
  ·rw [if_pos h];obtain ⟨b,e,l,m,hj,_⟩:=AM ae h;refine List.nodup_append.mpr ⟨ih,List.nodup_cons.mpr ⟨nofun,List.nodup_nil⟩,fun x hx y hy z=>?_⟩;rw [jw.mp hy,vt hj] at z;exact VO ae hj (z▸hx)
  ·rw [if_neg h,List.append_nil];exact ih
structure Dk (F:List (List Int)) (outs:List Int):Prop where
 len:outs.length=F.length
 at_:∀k b e l m,F[k]?=some [b,e,l,m]->l<=outs.getD k 0/\outs.getD k 0<=m
noncomputable def Jt (F:List (List Int)) (outs:List Int) (c:List (Option Int)) (now:Int):Prop:=∀k b e l m t,F[k]?=some [b,e,l,m]->HD.cm c e.toNat=none->HD.cm c b.toNat=some t->now<=t+outs.getD k 0
theorem Ip (ae:di (n:Int) la T F) (h:bR F e=some f):∃(k:Nat) (b:Int),F[k]?=some [b,(e:Int),f.2.1,f.2.2]/\f.1=b.toNat/\e<n/\f.1<n:=by
 obtain ⟨a,l,m,hm,rfl,h1,h2,h3,h4,_⟩:=ae.find h;obtain ⟨k,hk⟩:=uS.mp hm;exact ⟨k,a,hk,rfl,by lia,by show a.toNat<n;lia⟩
theorem WO (ae:di (n:Int) la T F) (ho:Dk F outs) (hJ:Jt F outs c now) (a:hX) (e1:a.F=bR F) (e2:a.c=c) (e3:a.now=now) (e4:c.length=n):Du a (gQ c now outs F F.length):=by
 refine ⟨PX ae _ (aF _),fun e he=>?_,fun e f t h1 h2 h3 h4=>?_,fun e f h=>?_⟩
 ·obtain ⟨j,h1,h2,h3⟩:=ze.mp he;obtain ⟨b,e',l,m,hj,g1,t,g2,g3⟩:=AM ae h2;obtain ⟨_,_,_,_,er,_,_,h5,_⟩:=vk ae hj;cases er;rw [vt hj] at h3;have hf:=ae.eO (dZ (show F[j]?=some [b,((e:Nat):Int),l,m] by rw [hj,show e'=(e:Int) by lia]));have ob:=ho.at_ j _ _ _ _ hj;rw [e1,e2,e3];refine ⟨_,t,hf,by rw [<-h3];exact g1,g2,?_,?_⟩
  ·show l<=now-t;lia
  ·show now-t<=m;lia
 ·rw [e1] at h1;rw [e2] at h2 h3;rw [e3] at h4;obtain ⟨k,b,hk,hb,_⟩:=Ip ae h1;have ob:=ho.at_ k _ _ _ _ hk;rw [hb] at h3;have:=hJ k _ _ _ _ t hk h2 h3;refine ze.mpr ⟨k,(ff.mp hk).1,OT hk h2 h3 (by lia),by rw [vt hk];rfl⟩
 ·rw [e1] at h;rw [e2,e4];obtain ⟨k,b,hk,hb,h1,h2⟩:=Ip ae h;exact ⟨h1,h2⟩
theorem Jt.next (ae:di (n:Int) la T F) (ho:Dk F outs) (hJ:Jt F outs c now) {r:List Nat} (hr:∀m∈r,m<c.length) (hc:c.length=n):Jt F outs (HD.ag r now (HD.ag (gQ c now outs F F.length) now c)) (now+1):=by
 intro k b e l m t hk h1 h2;have Fd:∀x∈gQ c now outs F F.length,x<c.length:=fun x hx=>by rw [hc];exact Nm ae hx
 have oP:∀x∈r,x<(HD.ag (gQ c now outs F F.length) now c).length:=fun x hx=>by rw [HD.bg];exact hr x hx
 rw [HD.fQ oP,HD.fQ Fd] at h1 h2;have ob:=ho.at_ k _ _ _ _ hk;obtain ⟨_,_,_,_,er,_,_,_,_,hl⟩:=vk ae hk;cases er
 by_cases c1:b.toNat∈r
 ·rw [if_pos c1] at h2;cases h2;lia
 rw [if_neg c1] at h2
 by_cases c2:b.toNat∈gQ c now outs F F.length
 ·exact absurd c2 (VP ae hk)
 rw [if_neg c2] at h2
 by_cases c3:e.toNat∈r
 ·rw [if_pos c3] at h1;cases h1
 rw [if_neg c3] at h1
 by_cases c4:e.toNat∈gQ c now outs F F.length
 ·rw [if_pos c4] at h1;cases h1
 rw [if_neg c4] at h1;have:=hJ k _ _ _ _ t hk h1 h2;have ne:now≠t+outs.getD k 0:=fun z=>c4 (ze.mpr ⟨k,(ff.mp hk).1,OT hk h1 h2 z,vt hk⟩);lia
end
end Y0
namespace MU
noncomputable def Kn (st:St) (w:ao):Prop:=(w.a≠w.b->∃u,val st w.key=some u/\¬eA w.tie w.v u)/\(iL w->st.bar≠none)
theorem Kn.imp {w:ao} (h:Kn s w) (i:Imp s s'):Kn s' w:=by
 refine ⟨fun dJ=>?_,fun hb=>i.1.bar (h.2 hb)⟩;obtain ⟨u,hu,nu⟩:=h.1 dJ;obtain ⟨u',kG,Ka⟩:=i.2 w.key u dJ hu;exact ⟨u',kG,IW nu Ka⟩
theorem OL (s:St) (w:ao) (word:Wd) (us:List Nat):Kn (take s w word us) w:=⟨fun h=>EF h,fun h=>Qf h⟩
theorem C_ {p w:ao} (hp:ah s i=some p) (hf:f p=some w):Kn (aP f word i s) w:=by
 unfold aP;rw [hp];show Kn (put s (f p) word [i]) w;rw [hf];exact OL _ _ _ _
theorem Df {p q w:ao} (hp:ah s i=some p) (hq:ah s j=some q) (hf:f p q=some w):Kn (ar f word i j s) w:=by
 unfold ar;rw [hp];show Kn (put s ((ah s j).bind fun q=>f p q) word [i,j]) w;rw [hq];show Kn (put s (f p q) word [i,j]) w;rw [hf];exact OL _ _ _ _
theorem Dy (hf:∀s j,Imp s (f s j)) {l:List Nat} {j:Nat} {w:ao} (hj:j∈l) (h:∀s1,Imp s s1->Kn (f s1 j) w):Kn (l.foldl f s) w:=by
 obtain ⟨s1,i1,i2⟩:=IH hf l s j hj;exact (h s1 i1).imp i2
theorem AL (e:Ext s s') (h:s'.best k=some j) (hj:j<s.rows.length):s.best k=some j:=by
 rcases e.best k with h' | ⟨i,h',hi⟩
 ·rw [<-h'];exact h
 ·rw [h] at h';cases h';lia
variable {n:Nat} {F:cv} {s fs:St} {at_ a b:Nat} {p:ao}
section
variable (hp:ah s at_=some p) (hZ:Imp (eV n F at_ a b s) fs)
theorem XJ {w:ao} (hp:ah s at_=some p) (h:d8 F p=some w):Kn (eV n F at_ a b s) w:=
 (C_ hp h).imp ((gs _ _ _ _).trans ((dR (fun _ _=>cY ..) _ _).trans ((dR (fun _ _=>cY ..) _ _).trans (dR (fun _ _=>cY ..) _ _))))
theorem XM {w:ao} (hp:ah s at_=some p) (h:dC F p=some w):Kn (eV n F at_ a b s) w:=
 (C_ (c8 (gs _ _ _ _).1 hp) h).imp ((dR (fun _ _=>cY ..) _ _).trans ((dR (fun _ _=>cY ..) _ _).trans (dR (fun _ _=>cY ..) _ _)))
theorem XN {w q:ao} {c j:Nat} (hp:ah s at_=some p) (hZ:Imp (eV n F at_ a b s) fs) (hc:c<n) (hb:fs.best (true,b,c)=some j) (hj:j<s.rows.length) (hq:ah fs j=some q) (h:aI p q=some w):Kn (eV n F at_ a b s) w:=by
 have i2:Imp s (aP (dC F) .b5 at_ (aP (d8 F) .aV at_ s)):=(gs _ _ _ _).trans (gs _ _ _ _);unfold eV at hZ ⊢;dsimp only at hZ ⊢;generalize aP (dC F) .b5 at_ (aP (d8 F) .aV at_ s)=s2 at*;have r3:=(dR (f:=fun st j=>ar aI .sum j at_ st) (fun _ _=>cY ..) (dI n ((cZ n s2 true b).foldl (fun st j=>ar aI .sum at_ j st) s2) a) ((cZ n s2 true b).foldl (fun st j=>ar aI .sum at_ j st) s2)).trans (dR (f:=fun st j=>ar (bq F) .back j at_ st) (fun _ _=>cY ..) (cZ n ((dI n ((cZ n s2 true b).foldl (fun st j=>ar aI .sum at_ j st) s2) a).foldl (fun st j=>ar aI .sum j at_ st) ((cZ n s2 true b).foldl (fun st j=>ar aI .sum at_ j st) s2)) false b) _);have e3:Imp s2 fs:=((dR (f:=fun st j=>ar aI .sum at_ j st) (fun _ _=>cY ..) (cZ n s2 true b) s2).trans r3).trans hZ;have sv:j<s2.rows.length:=jv hj i2.1.len;refine Kn.imp (Dy (fun _ _=>cY ..) (j:=j) (List.mem_filterMap.mpr ⟨c,List.mem_range.mpr hc,AL e3.1 hb sv⟩) fun s1 i1=>?_) r3;exact Df (c8 (i2.1.trans i1.1) hp) (c8 i1.1 (tJ e3.1 sv hq)) h
theorem XO {w q:ao} {c j:Nat} (hp:ah s at_=some p) (hZ:Imp (eV n F at_ a b s) fs) (hc:c<n) (hb:fs.best (true,c,a)=some j) (hj:j<s.rows.length) (hq:ah fs j=some q) (h:aI q p=some w):Kn (eV n F at_ a b s) w:=by
 have i2:Imp s (aP (dC F) .b5 at_ (aP (d8 F) .aV at_ s)):=(gs _ _ _ _).trans (gs _ _ _ _);unfold eV at hZ ⊢;dsimp only at hZ ⊢;generalize aP (dC F) .b5 at_ (aP (d8 F) .aV at_ s)=s2 at*;have i3:=i2.trans (dR (f:=fun st j=>ar aI .sum at_ j st) (fun _ _=>cY ..) (cZ n s2 true b) s2);generalize (cZ n s2 true b).foldl (fun st j=>ar aI .sum at_ j st) s2=s3 at*;have r4:=dR (f:=fun st j=>ar (bq F) .back j at_ st) (fun _ _=>cY ..) (cZ n ((dI n s3 a).foldl (fun st j=>ar aI .sum j at_ st) s3) false b) ((dI n s3 a).foldl (fun st j=>ar aI .sum j at_ st) s3);have e3:Imp s3 fs:=((dR (f:=fun st j=>ar aI .sum j at_ st) (fun _ _=>cY ..) (dI n s3 a) s3).trans r4).trans hZ;have Sx:j<s3.rows.length:=jv hj i3.1.len;refine Kn.imp (Dy (fun _ _=>cY ..) (j:=j) (List.mem_filterMap.mpr ⟨c,List.mem_range.mpr hc,AL e3.1 hb Sx⟩) fun s1 i1=>?_) r4;exact Df (c8 i1.1 (tJ e3.1 Sx hq)) (c8 (i3.1.trans i1.1) hp) h
theorem XI {w q:ao} {e j:Nat} (hp:ah s at_=some p) (hZ:Imp (eV n F at_ a b s) fs) (hc:e<n) (hb:fs.best (false,b,e)=some j) (hj:j<s.rows.length) (hq:ah fs j=some q) (h:bq F q p=some w):Kn (eV n F at_ a b s) w:=by
 have i2:Imp s (aP (dC F) .b5 at_ (aP (d8 F) .aV at_ s)):=(gs _ _ _ _).trans (gs _ _ _ _);unfold eV at hZ ⊢;dsimp only at hZ ⊢;generalize aP (dC F) .b5 at_ (aP (d8 F) .aV at_ s)=s2 at*;have i3:=i2.trans (dR (f:=fun st j=>ar aI .sum at_ j st) (fun _ _=>cY ..) (cZ n s2 true b) s2);generalize (cZ n s2 true b).foldl (fun st j=>ar aI .sum at_ j st) s2=s3 at*;have i4:=i3.trans (dR (f:=fun st j=>ar aI .sum j at_ st) (fun _ _=>cY ..) (dI n s3 a) s3);generalize (dI n s3 a).foldl (fun st j=>ar aI .sum j at_ st) s3=s4 at*;have e4:Imp s4 fs:=(dR (f:=fun st j=>ar (bq F) .back j at_ st) (fun _ _=>cY ..) (cZ n s4 false b) s4).trans hZ;have Sw:j<s4.rows.length:=jv hj i4.1.len;refine Dy (fun _ _=>cY ..) (j:=j) (List.mem_filterMap.mpr ⟨e,List.mem_range.mpr hc,AL e4.1 hb Sw⟩) fun s1 i1=>?_;exact Df (c8 i1.1 (tJ e4.1 Sw hq)) (c8 (i4.1.trans i1.1) hp) h
theorem XY {w:ao} (hp:ah s at_=some p) (h:dH F p=some w):Kn (fX n F at_ a s) w:=
 (C_ hp h).imp ((gs _ _ _ _).trans (dR (fun _ _=>cY ..) _ _))
theorem Yh {w:ao} (hp:ah s at_=some p) (h:d7 F p=some w):Kn (fX n F at_ a s) w:=
 (C_ (c8 (gs _ _ _ _).1 hp) h).imp (dR (fun _ _=>cY ..) _ _)
theorem XX {w q:ao} {c j:Nat} (hp:ah s at_=some p) (hZ:Imp (fX n F at_ a s) fs) (hc:c<n) (hb:fs.best (true,c,a)=some j) (hj:j<s.rows.length) (hq:ah fs j=some q) (h:bq F p q=some w):Kn (fX n F at_ a s) w:=by
 have i2:Imp s (aP (d7 F) .a8 at_ (aP (dH F) .sure at_ s)):=(gs _ _ _ _).trans (gs _ _ _ _);unfold fX at hZ ⊢;dsimp only at hZ ⊢;generalize aP (d7 F) .a8 at_ (aP (dH F) .sure at_ s)=s2 at*;have e2:Imp s2 fs:=(dR (f:=fun st j=>ar (bq F) .back at_ j st) (fun _ _=>cY ..) (dI n s2 a) s2).trans hZ;have sv:j<s2.rows.length:=jv hj i2.1.len;refine Dy (fun _ _=>cY ..) (j:=j) (List.mem_filterMap.mpr ⟨c,List.mem_range.mpr hc,AL e2.1 hb sv⟩) fun s1 i1=>?_;exact Df (c8 (i2.1.trans i1.1) hp) (c8 i1.1 (tJ e2.1 sv hq)) h
end
structure Fin (n:Nat) (F:cv) (most:Int) (s0:St) (T:Nat):Prop where
 pO:jE n F most
 good:cy n s0
 first:∀t,t<T->t<(run n F s0 t).rows.length
 stop:(run n F s0 T).rows.length<=T
variable {n:Nat} {F:cv} {most:Int} {s0:St} {T:Nat}
theorem Fin.ev (h:Fin n F most s0 T) (hb:(run n F s0 T).best k=some i) (hp:ah (run n F s0 T) i=some p):
 i<(run n F s0 i).rows.length/\ah (run n F s0 i) i=some p/\(run n F s0 i).best k=some i/\Imp (run n F s0 (i+1)) (run n F s0 T):=by
 have hi:=nI hp;have Ls:i<T:=jv hi h.stop;have h1:=h.first i Ls;have e:=tI (n:=n) (F:=F) (s:=s0) (bx Ls);exact ⟨h1,tJ e.1 h1 hp,AL e.1 hb h1,tI Ls⟩
theorem Fin.row (h:Fin n F most s0 T) (hv:val (run n F s0 T) (t,a,b)=some v):∃i p,(run n F s0 T).best (t,a,b)=some i/\ah (run n F s0 T) i=some p/\p.tie=t/\p.a=a/\p.b=b/\p.v=v/\a<n/\b<n:=by
 have g:=wV h.pO h.good T;obtain ⟨i,p,h1,h2,h3,h4⟩:=AB g hv;obtain ⟨k1,k2,k3⟩:=iD h3;have l:=g.lt _ _ h2;exact ⟨i,p,h1,h2,k1,k2,k3,h4,by lia,by lia⟩
theorem Fin.tie (h:Fin n F most s0 T) (hb:(run n F s0 T).best (true,a,b)=some i) (hp:ah (run n F s0 T) i=some p) (pt:p.tie=true) (pa:p.a=a) (pb:p.b=b):
 Imp (eV n F i a b (run n F s0 i)) (run n F s0 T):=by
 obtain ⟨_,e2,e3,e4⟩:=h.ev hb hp;have:run n F s0 (i+1)=eV n F i a b (run n F s0 i):=DQ e2 pt pa pb e3;rw [<-this];exact e4
theorem Fin.aV (h:Fin n F most s0 T) (hv:val (run n F s0 T) (true,a,b)=some v) (sG:a≠b) (hf:F b=some f):Kn (run n F s0 T) ⟨false,a,b,f.2.2-v⟩:=by
 obtain ⟨i,p,h1,h2,pt,pa,pb,pv,_⟩:=h.row hv;obtain ⟨_,e2,_⟩:=h.ev h1 h2;refine (XJ e2 ?_).imp (h.tie h1 h2 pt pa pb);unfold d8;rw [if_pos ⟨pt,by rw [pa,pb];exact sG⟩,pb,hf,pa,pv];rfl
theorem Fin.b5 (h:Fin n F most s0 T) (hv:val (run n F s0 T) (true,a,b)=some v) (sG:a≠b) (aW:v<0) (hf:F a=some f):Kn (run n F s0 T) ⟨true,f.1,b,f.2.1+v⟩:=by
 obtain ⟨i,p,h1,h2,pt,pa,pb,pv,_⟩:=h.row hv;obtain ⟨_,e2,_⟩:=h.ev h1 h2;refine (XM e2 ?_).imp (h.tie h1 h2 pt pa pb);unfold dC;rw [if_pos ⟨pt,by rw [pa,pb];exact sG,by rw [pv];exact aW⟩,pa,hf,pb,pv];rfl
theorem Fin.sum (h:Fin n F most s0 T) (hv:val (run n F s0 T) (true,a,b)=some v) (hu:val (run n F s0 T) (true,b,c)=some u):Kn (run n F s0 T) ⟨true,a,c,v+u⟩:=by
 obtain ⟨i,p,h1,h2,pt,pa,pb,pv,an,bn⟩:=h.row hv;obtain ⟨j,q,j1,j2,qt,qa,qb,qv,_,cn⟩:=h.row hu;have hs:aI p q=some ⟨true,a,c,v+u⟩:=by
  unfold aI;rw [if_pos ⟨pt,qt,by rw [pb,qa]⟩,pa,qb,pv,qv]
 obtain ⟨i1,e2,_⟩:=h.ev h1 h2;obtain ⟨Kt,rB,_⟩:=h.ev j1 j2
 by_cases gj:j<=i
 ·have hZ:=h.tie h1 h2 pt pa pb;exact (XN e2 hZ cn j1 (Nat.lt_of_le_of_lt gj i1) j2 hs).imp hZ
 ·have hZ:=h.tie j1 j2 qt qa qb;exact (XO rB hZ an h1 (Nat.lt_of_le_of_lt (by lia) Kt) h2 hs).imp hZ
theorem Fin.wait (h:Fin n F most s0 T) (hb:(run n F s0 T).best (false,a,b)=some i) (hp:ah (run n F s0 T) i=some p) (pt:p.tie=false) (pa:p.a=a) (pb:p.b=b):
 Imp (fX n F i a (run n F s0 i)) (run n F s0 T):=by
 obtain ⟨_,e2,e3,e4⟩:=h.ev hb hp;have:run n F s0 (i+1)=fX n F i a (run n F s0 i):=by
  rw [<-pa];exact IK e2 pt (by unfold ao.key;rw [pt,pa,pb];exact e3)
 rw [<-this];exact e4
theorem Fin.sure (h:Fin n F most s0 T) (hv:val (run n F s0 T) (false,a,b)=some v) (hf:F b=some f):Kn (run n F s0 T) ⟨true,a,f.1,-min v f.2.1⟩:=by
 obtain ⟨i,p,h1,h2,pt,pa,pb,pv,_⟩:=h.row hv;obtain ⟨_,e2,_⟩:=h.ev h1 h2;refine (XY e2 ?_).imp (h.wait h1 h2 pt pa pb);unfold dH;rw [if_pos pt,pb,hf,pa,pv];rfl
theorem Fin.a8 (h:Fin n F most s0 T) (hv:val (run n F s0 T) (false,a,b)=some v) (sG:a≠b) (h0:0<v) (ho:F a=some o) (hf:F b=some f):Kn (run n F s0 T) ⟨false,o.1,b,min v f.2.2-o.2.1⟩:=by
 obtain ⟨i,p,h1,h2,pt,pa,pb,pv,_⟩:=h.row hv;obtain ⟨_,e2,_⟩:=h.ev h1 h2;refine (Yh e2 ?_).imp (h.wait h1 h2 pt pa pb);unfold d7;rw [if_pos ⟨pt,by rw [pa,pb];exact sG,by rw [pv];exact h0⟩,pa,ho,pb,hf,pv];rfl
theorem Fin.back (h:Fin n F most s0 T) (hv:val (run n F s0 T) (false,a,b)=some v) (hu:val (run n F s0 T) (true,c,a)=some u) (L8:c≠b) (hf:F b=some f):Kn (run n F s0 T) ⟨false,c,b,min v f.2.2-u⟩:=by
 obtain ⟨i,p,h1,h2,pt,pa,pb,pv,an,bn⟩:=h.row hv;obtain ⟨j,q,j1,j2,qt,qa,qb,qv,cn,_⟩:=h.row hu;have hs:bq F p q=some ⟨false,c,b,min v f.2.2-u⟩:=by
  unfold bq;rw [if_pos ⟨pt,qt,by rw [qb,pa],by rw [qa,pb];exact L8⟩,pb,hf,qa,pv,qv];rfl
 obtain ⟨i1,e2,_⟩:=h.ev h1 h2;obtain ⟨Kt,rB,_⟩:=h.ev j1 j2
 by_cases gj:j<=i
 ·have hZ:=h.wait h1 h2 pt pa pb;exact (XX e2 hZ cn j1 (Nat.lt_of_le_of_lt gj i1) j2 hs).imp hZ
 ·have hZ:=h.tie j1 j2 qt qa qb;exact (XI rB hZ bn h1 (Nat.lt_of_le_of_lt (by lia) Kt) h2 hs).imp hZ
noncomputable def uU (F:cv) (D:ao->Prop) (st:St) (r:Row):Prop:=
 (r.word=.told/\r.used=[]/\D r.cP)\/
 (r.word=.aV/\∃i p,r.used=[i]/\ah st i=some p/\d8 F p=some r.cP)\/
 (r.word=.b5/\∃i p,r.used=[i]/\ah st i=some p/\dC F p=some r.cP)\/
 (r.word=.sure/\∃i p,r.used=[i]/\ah st i=some p/\dH F p=some r.cP)\/
 (r.word=.a8/\∃i p,r.used=[i]/\ah st i=some p/\d7 F p=some r.cP)\/
 (r.word=.sum/\∃i j p q,r.used=[i,j]/\ah st i=some p/\ah st j=some q/\aI p q=some r.cP)\/
 (r.word=.back/\∃i j p q,r.used=[i,j]/\ah st i=some p/\ah st j=some q/\bq F p q=some r.cP)
variable {F:cv} {D:ao->Prop} {n:Nat}
theorem uU.ext (h:uU F D s r) (e:Ext s s'):uU F D s' r:=by
 have o:∀{f:ao->Option ao},(∃i p,r.used=[i]/\ah s i=some p/\f p=some r.cP)->∃i p,r.used=[i]/\ah s' i=some p/\f p=some r.cP:=fun ⟨i,p,h1,h2,h3⟩=>⟨i,p,h1,c8 e h2,h3⟩;have t:∀{f:ao->ao->Option ao},(∃i j p q,r.used=[i,j]/\ah s i=some p/\ah s j=some q/\f p q=some r.cP)->∃i j p q,r.used=[i,j]/\ah s' i=some p/\ah s' j=some q/\f p q=some r.cP:=fun ⟨i,j,p,q,h1,h2,h3,h4⟩=>⟨i,j,p,q,h1,c8 e h2,c8 e h3,h4⟩;rcases h with h | ⟨w,h⟩ | ⟨w,h⟩ | ⟨w,h⟩ | ⟨w,h⟩ | ⟨w,h⟩ | ⟨w,h⟩
 ·exact .inl h
 ·exact .inr (.inl ⟨w,o h⟩)
 ·exact .inr (.inr (.inl ⟨w,o h⟩))
 ·exact .inr (.inr (.inr (.inl ⟨w,o h⟩)))
 ·exact .inr (.inr (.inr (.inr (.inl ⟨w,o h⟩))))
 ·exact .inr (.inr (.inr (.inr (.inr (.inl ⟨w,t h⟩)))))
 ·exact .inr (.inr (.inr (.inr (.inr (.inr ⟨w,t h⟩)))))
noncomputable def Drawn (F:cv) (D:ao->Prop) (st:St):Prop:=∀(i:Nat) (r:Row),st.rows[i]?=some r->uU F D st r
theorem Q4 {w:ao} (h:Drawn F D st) (hr:uU F D st ⟨w,word,us⟩):Drawn F D (take st w word us):=fun i r hi=>by
 have e:=AJ st w word us;unfold take at hi;split at hi
 ·have hi:(st.rows++[(⟨w,word,us⟩:Row)])[i]?=some r:=hi
  by_cases hl:i<st.rows.length
  ·rw [pR hl] at hi;exact (h i r hi).ext e
  ·rw [oY (by exact lU hl)] at hi
   cases hk:i-st.rows.length with
   | zero=>rw [hk] at hi;cases hi;exact hr.ext e
   | succ k=>rw [hk] at hi;cases hi
 ·exact (h i r hi).ext e
theorem PF (h:Drawn F D st) (hr:∀w,o=some w->uU F D st ⟨w,word,us⟩):Drawn F D (put st o word us):=by
 cases o with
 | none=>exact h
 | some w=>exact Q4 h (hr w rfl)
theorem DL (h:Drawn F D st) (hr:∀w,(∃i' p,[i]=[i']/\ah st i'=some p/\f p=some w)->uU F D st ⟨w,word,[i]⟩):Drawn F D (aP f word i st):=PF h fun w e=>by
 cases hp:ah st i with
 | none=>rw [hp] at e;cases e
 | some p=>rw [hp] at e;exact hr w ⟨i,p,rfl,hp,e⟩
theorem OQ (h:Drawn F D st) (hr:∀w,(∃i' j' p q,[i,j]=[i',j']/\ah st i'=some p/\ah st j'=some q/\f p q=some w)->uU F D st ⟨w,word,[i,j]⟩):Drawn F D (ar f word i j st):=PF h fun w e=>by
 cases hp:ah st i with
 | none=>rw [hp] at e;cases e
 | some p=>
  rw [hp] at e;have e:((ah st j).bind fun q=>f p q)=some w:=e
  cases hq:ah st j with
  | none=>rw [hq] at e;cases e
  | some q=>rw [hq] at e;exact hr w ⟨i,j,p,q,rfl,hp,hq,e⟩
theorem AO (hg:∀s j,Drawn F D s->Drawn F D (g s j)):∀(l:List Nat) (s:St),Drawn F D s->Drawn F D (l.foldl g s)
 | [],_,h=>h
 | a::l,s,h=>AO hg l _ (hg s a h)
theorem PJ (h:Drawn F D s):∀t,Drawn F D (run n F s t)
 | 0=>h
 | t+1=>by
  have ih:=PJ h t;show Drawn F D (look n F t (run n F s t));unfold look;have sum:∀i j s,Drawn F D s->Drawn F D (ar aI .sum i j s):=fun i j s h=>OQ h fun w e=>.inr (.inr (.inr (.inr (.inr (.inl ⟨rfl,e⟩)))));have back:∀i j s,Drawn F D s->Drawn F D (ar (bq F) .back i j s):=fun i j s h=>OQ h fun w e=>.inr (.inr (.inr (.inr (.inr (.inr ⟨rfl,e⟩)))));split
  ·split
   ·split
    ·exact AO (fun s j h=>back j t s h) _ _ (AO (fun s j h=>sum j t s h) _ _ (AO (fun s j h=>sum t j s h) _ _ (DL (DL ih fun w e=>.inr (.inl ⟨rfl,e⟩)) fun w e=>.inr (.inr (.inl ⟨rfl,e⟩)))))
    ·exact AO (fun s j h=>back t j s h) _ _ (DL (DL ih fun w e=>.inr (.inr (.inr (.inl ⟨rfl,e⟩)))) fun w e=>.inr (.inr (.inr (.inr (.inl ⟨rfl,e⟩)))))
   ·exact ih
  ·exact ih
theorem QA:∀(rows:List ao) (s:St),Drawn F D s->(∀w∈rows,D w)->Drawn F D (ma rows s)
 | [],_,h,_=>h
 | w::r,s,h,hw=>QA r _ (Q4 h (.inl ⟨rfl,rfl,hw w iu⟩)) fun w' lO=>hw w' (jl _ lO)
theorem Yn:Drawn F D empty:=fun i r h=>by simp [empty] at h
end MU
namespace HK
noncomputable abbrev cv:=Nat->Option (Nat×Int×Int)
structure Cl (F:cv) (u w:Nat->Nat->Option Int):Prop where
 irr:∀a,u a a=none
 loop:∀{a b v v'},u a b=some v->u b a=some v'->0<=v+v'
 sum:∀{a b c v v'},u a b=some v->u b c=some v'->a≠c->∃z,u a c=some z/\z<=v+v'
 aV:∀{a e v f},u a e=some v->F e=some f->∃z,w a e=some z/\f.2.2-v<=z
 b5:∀{e b v f},u e b=some v->v<0->F e=some f->(b=f.1/\0<=f.2.1+v)\/∃z,u f.1 b=some z/\z<=f.2.1+v
 sure:∀{a e x f},w a e=some x->F e=some f->(a=f.1/\min x f.2.1<=0)\/∃z,u a f.1=some z/\z<=-min x f.2.1
 back:∀{x e a k v f},w x e=some k->u a x=some v->F e=some f->a≠e->∃z,w a e=some z/\min k f.2.2-v<=z
 a8:∀{e' e k g f},w e' e=some k->0<k->F e'=some g->F e=some f->∃z,w g.1 e=some z/\min k f.2.2-g.2.1<=z
 long:∀{x e k f},w x e=some k->F e=some f->f.2.2<k->(∃v,u x e=some v/\v<0)\/∃y k0 v v' k1,u x y=some v'/\v'<=v/\w y e=some k1/\k0<=k1/\k=min k0 f.2.2-v
 jg:∀{e f},F e=some f->1<=f.2.1/\f.2.1<=f.2.2/\F f.1=none
structure Inv (F:cv) (u w:Nat->Nat->Option Int) (c:Nat->Option Int) (i:Int):Prop where
 past:∀{x s},c x=some s->s<i
 K:∀{x y s t v},c x=some s->c y=some t->u x y=some v->t<=s+v
 dl:∀{x y s v},c x=some s->c y=none->u x y=some v->i<=s+v
 W:∀{x e s k f},c x=some s->w x e=some k->F e=some f->f.2.1<k->(∃t,c e=some t/\t<=s)\/∃t,c f.1=some t/\t+k<=s
 fel:∀{e f t},F e=some f->c e=some t->∃s,c f.1=some s/\s+f.2.1<=t/\t<=s+f.2.2
 due:∀{e f s},F e=some f->c e=none->c f.1=some s->i<=s+f.2.2
noncomputable def QN (F:cv) (u w:Nat->Nat->Option Int) (c:Nat->Option Int) (i:Int) (R:Nat->Prop) (y:Nat):Prop:=
 (∀z v,u y z=some v->(∀t,c z=some t->t<=i+v)/\(c z=none->0<v\/(v=0/\R z)))/\
 ∀e k f,w y e=some k->F e=some f->f.2.1<k->k<=f.2.2->(∃t,c e=some t)\/∃t,c f.1=some t/\t+k<=i
structure Out (F:cv) (c:Nat->Option Int) (i:Int) (S:Nat->Prop):Prop where
 ok:∀{e},S e->∃f s,F e=some f/\c e=none/\c f.1=some s/\s+f.2.1<=i/\i<=s+f.2.2
 all:∀{e f s},F e=some f->c e=none->c f.1=some s->s+f.2.2<=i->S e
open Classical in
noncomputable def put (c:Nat->Option Int) (i:Int) (S:Nat->Prop):Nat->Option Int:=fun x=>if S x then some i else c x
theorem ik (h:S x):put c i S x=some i:=if_pos h
theorem b_ (h:¬S x):put c i S x=c x:=if_neg h
theorem jO (h:put c i S x=some t):(S x/\t=i)\/(¬S x/\c x=some t):=by
 by_cases e:S x
 ·rw [ik e] at h;cases h;exact .inl ⟨e,rfl⟩
 ·rw [b_ e] at h;exact .inr ⟨e,h⟩
theorem AH (h:put c i S x=none):¬S x/\c x=none:=by
 by_cases e:S x
 ·rw [ik e] at h;cases h
 ·rw [b_ e] at h;exact ⟨e,h⟩
section
variable {F:cv} {u w:Nat->Nat->Option Int} {c:Nat->Option Int} {i:Int} {S:Nat->Prop}
theorem dX (I:Inv F u w c i) (hx:c x=some s) (h:u x y=some v) (hl:s+v<i):∃t,c y=some t/\t<=s+v:=by
 cases hy:c y with
 | none=>have:=I.dl hx hy h;lia
 | some t=>exact ⟨t,rfl,I.K hx hy h⟩
theorem UK (C:Cl F u w) (I:Inv F u w c i) (O:Out F c i S) (he:S e) (h:u e z=some v):(∀t,put c i S z=some t->t<=i+v)/\(put c i S z=none->0<=v):=by
 obtain ⟨f,s,h1,h2,h3,h4,h5⟩:=O.ok he
 by_cases hv:0<=v
 ·refine ⟨fun t ht=>?_,fun _=>hv⟩;rcases jO ht with ⟨_,rfl⟩ | ⟨_,ht⟩
  ·lia
  ·have:=I.past ht;lia
 ·rcases C.b5 h (by lia) h1 with ⟨rfl,h6⟩ | ⟨y,h6,h7⟩
  ·refine ⟨fun t ht=>?_,fun ht=>?_⟩
   ·rcases jO ht with ⟨hs,_⟩ | ⟨_,ht⟩
    ·obtain ⟨f',s',g1,_⟩:=O.ok hs;rw [(C.jg h1).2.2] at g1;cases g1
    ·rw [h3] at ht;cases ht;lia
   ·rw [(AH ht).2] at h3;cases h3
  ·have hl:=C.jg h1;obtain ⟨t,h8,h9⟩:=dX I h3 h6 (by lia);have hn:¬S z:=fun hs=>by
    obtain ⟨f',s',_,g2,_⟩:=O.ok hs;rw [g2] at h8;cases h8
   rw [b_ hn,h8];exact ⟨fun t' e=>by cases e;lia,fun e=>nomatch e⟩
variable {n:Nat} {r:Nat->Prop}
structure jm (F:cv) (u w:Nat->Nat->Option Int) (n:Nat) (c1:Nat->Option Int) (i:Int) (r:Nat->Prop):Prop where
 own:∀{y},r y->F y=none/\c1 y=none
 lt:∀{y},r y->y<n
 lets:∀{y},r y->QN F u w c1 i r y
 most:∀R:Nat->Prop,(∀y,R y->F y=none/\c1 y=none/\y<n)->(∀y,R y->QN F u w c1 i R y)->∀y,R y->r y
theorem HU (O:Out F c i S) (h:F x=none):¬S x:=fun hs=>by
 obtain ⟨f,s,h1,_⟩:=O.ok hs;rw [h] at h1;cases h1
theorem up1 (O:Out F c i S) (h:c x=some t):put c i S x=some t:=by
 refine (b_ fun hs=>?_).trans h;obtain ⟨f,s,_,h2,_⟩:=O.ok hs;rw [h] at h2;cases h2
theorem KK (C:Cl F u w) (I:Inv F u w c i) (O:Out F c i S) (R:jm F u w n (put c i S) i r) (hx:put (put c i S) i r x=some s) (h:u x z=some v):(∀t,put c i S z=some t->t<=s+v)/\(put c i S z=none->i<=s+v):=by
 rcases jO hx with ⟨hr,es⟩ | ⟨_,hx⟩
 ·obtain ⟨h1,h2⟩:=(R.lets hr).1 z v h;rw [es];refine ⟨h1,fun hz=>?_⟩;rcases h2 hz with h3 | h3<;>lia
 ·rcases jO hx with ⟨hs,es⟩ | ⟨_,hx⟩
  ·obtain ⟨h1,h2⟩:=UK C I O hs h;rw [es];exact ⟨h1,fun hz=>by have:=h2 hz;lia⟩
  ·refine ⟨fun t ht=>?_,fun hz=>I.dl hx (AH hz).2 h⟩;rcases jO ht with ⟨hs,et⟩ | ⟨_,ht⟩
   ·obtain ⟨f,s',_,g2,_⟩:=O.ok hs;rw [et];exact I.dl hx g2 h
   ·exact I.K hx ht h
theorem QC (C:Cl F u w) (I:Inv F u w c i) (O:Out F c i S) (R:jm F u w n (put c i S) i r) (hx:put (put c i S) i r x=some s) (h:w x e=some k) (hf:F e=some f) (hk:k<=f.2.1) (hs:s-k<i):∃t,c f.1=some t/\t<=s-k:=by
 have hm:min k f.2.1=k:=by lia
 have ho:=HU O (C.jg hf).2.2;rcases C.sure h hf with ⟨e1,h1⟩ | ⟨z,h1,h2⟩
 ·rw [hm] at h1;rw [e1] at hx;rcases jO hx with ⟨hr,rfl⟩ | ⟨_,hx⟩
  ·lia
  ·rw [b_ ho] at hx;exact ⟨s,hx,by lia⟩
 ·rw [hm] at h2;obtain ⟨g1,g2⟩:=KK C I O R hx h1
  cases hb:c f.1 with
  | none=>
   have:=g2 (by rw [b_ ho];exact hb);lia
  | some t=>exact ⟨t,rfl,by have:=g1 t (by rw [b_ ho];exact hb);lia⟩
theorem Qa (C:Cl F u w) (I:Inv F u w c i) (O:Out F c i S) (R:jm F u w n (put c i S) i r) (hx:put (put c i S) i r x=some s) (h:w x e=some k) (hf:F e=some f) (hk:f.2.1<k):(∃t,put c i S e=some t/\t<=s)\/∃t,c f.1=some t/\t+k<=s:=by
 have hl:=C.jg hf;have ho:=HU O hl.2.2;have over:∀{t},c f.1=some t->t+f.2.2<=i->∃t',put c i S e=some t'/\t'<=i:=fun {t} ht hm=>by
  cases he:c e with
  | some t'=>exact ⟨t',up1 O he,by have:=I.past he;exact gm this⟩
  | none=>exact ⟨i,ik (O.all hf he ht hm),Int.le_refl _⟩
 have old:∀{y sy ky},c y=some sy->w y e=some ky->sy-ky<i->(∃t,put c i S e=some t/\t<=sy)\/∃t,c f.1=some t/\t<=sy-ky:=fun {y sy ky} hy hw aW=>by
  by_cases mM:f.2.1<ky
  ·rcases I.W hy hw hf mM with ⟨t,h1,h2⟩ | ⟨t,h1,h2⟩
   ·exact .inl ⟨t,up1 O h1,h2⟩
   ·exact .inr ⟨t,h1,by lia⟩
  ·refine .inr ?_;have hy2:put (put c i S) i r y=some sy:=by
    refine (b_ fun hr=>?_).trans (up1 O hy);have:=(R.own hr).2;rw [up1 O hy] at this;cases this
   exact QC C I O R hy2 hw hf (by lia) aW
 rcases jO hx with ⟨hr,es⟩ | ⟨_,hx⟩
 ·
  rw [es]
  by_cases hm:k<=f.2.2
  ·rcases (R.lets hr).2 e k f h hf hk hm with ⟨t,h1⟩ | ⟨t,h1,h2⟩
   ·refine .inl ⟨t,h1,?_⟩;rcases jO h1 with ⟨_,et⟩ | ⟨_,h1⟩
    ·lia
    ·have:=I.past h1;exact gm this
   ·rw [b_ ho] at h1;exact .inr ⟨t,h1,h2⟩
  ·rcases C.long h hf (by lia) with ⟨v,h1,h2⟩ | ⟨y,k0,v,v',k1,h1,h2,h3,h4,h5⟩
   ·obtain ⟨g1,g2⟩:=(R.lets hr).1 e v h1
    cases he:put c i S e with
    | none=>have:=g2 he;omega
    | some t=>exact .inl ⟨t,rfl,by have:=g1 t he;lia⟩
   ·obtain ⟨g1,g2⟩:=(R.lets hr).1 y v' h1;have hv:v<0:=by omega
    cases hy:put c i S y with
    | none=>have:=g2 hy;omega
    | some sy=>
     have hsy:=g1 sy hy;have hyc:c y=some sy:=by
      rcases jO hy with ⟨_,et⟩ | ⟨_,hy⟩
      ·lia
      ·exact hy
     by_cases hp:sy-k1<i
     ·rcases old hyc h3 hp with ⟨t,a1,a2⟩ | ⟨t,a1,a2⟩
      ·exact .inl ⟨t,a1,by lia⟩
      ·exact .inr ⟨t,a1,by lia⟩
     ·omega
 ·rcases jO hx with ⟨hs,es⟩ | ⟨_,hx⟩
  ·
   rw [es];obtain ⟨g,sb,h1,h2,h3,h4,h5⟩:=O.ok hs;have hg:=C.jg h1;obtain ⟨z,h6,h7⟩:=C.a8 h (by lia) h1 hf
   by_cases hp:sb-z<i
   ·rcases old h3 h6 hp with ⟨t,a1,a2⟩ | ⟨t,a1,a2⟩
    ·exact .inl ⟨t,a1,by lia⟩
    ·by_cases hm:k<=f.2.2
     ·exact .inr ⟨t,a1,by lia⟩
     ·exact .inl (over a1 (by lia))
   ·omega
  ·rcases I.W hx h hf hk with ⟨t,a1,a2⟩ | ⟨t,a1,a2⟩
   ·exact .inl ⟨t,up1 O a1,a2⟩
   ·exact .inr ⟨t,a1,a2⟩
theorem Po (C:Cl F u w) (I:Inv F u w c i) (O:Out F c i S) (R:jm F u w n (put c i S) i r) (hx:put (put c i S) i r x=some s) (h:w x e=some k) (hf:F e=some f) (hs:s-k<i):(∃t,put c i S e=some t/\t<=s)\/∃t,c f.1=some t/\t<=s-k:=by
 by_cases hk:f.2.1<k
 ·rcases Qa C I O R hx h hf hk with h | ⟨t,h1,h2⟩
  ·exact .inl h
  ·exact .inr ⟨t,h1,by lia⟩
 ·exact .inr (QC C I O R hx h hf (by lia) hs)
theorem OS (C:Cl F u w) (I:Inv F u w c i) (O:Out F c i S) (R:jm F u w n (put c i S) i r) (hx:put (put c i S) i r x=some s) (h:u x z=some v) (hf:F z=some f) (hd:s+v<=i):∃t,put c i S z=some t:=by
 obtain ⟨k,h1,h2⟩:=C.aV h hf;have hl:=C.jg hf;rcases Po C I O R hx h1 hf (by lia) with ⟨t,h3,_⟩ | ⟨t,h3,h4⟩
 ·exact ⟨t,h3⟩
 ·cases hz:c z with
  | some t'=>exact ⟨t',up1 O hz⟩
  | none=>exact ⟨i,ik (O.all hf hz h3 (by lia))⟩
theorem W9 (C:Cl F u w) (I:Inv F u w c i) (O:Out F c i S) (R:jm F u w n (put c i S) i r) (lt:∀{a b v},u a b=some v->b<n) (hx:put (put c i S) i r x=some s) (h:u x y=some v) (hf:F y=none) (hy:put c i S y=none) (hd:s+v<=i):r y:=by
 refine R.most (fun y=>r y\/(F y=none/\put c i S y=none/\∃x s v,put (put c i S) i r x=some s/\u x y=some v/\s+v<=i)) ?_ ?_ y (.inr ⟨hf,hy,x,s,v,hx,h,hd⟩)
 ·rintro y (h | ⟨h1,h2,x,s,v,_,h3,_⟩)
  ·obtain ⟨h1,h2⟩:=R.own h;exact ⟨h1,h2,R.lt h⟩
  ·exact ⟨h1,h2,lt h3⟩
 ·rintro y (hr | ⟨h1,h2,x,s,v,hx,h3,hd⟩)
  ·obtain ⟨g1,g2⟩:=R.lets hr;refine ⟨fun z v hz=>⟨(g1 z v hz).1,fun hn=>?_⟩,g2⟩;rcases (g1 z v hz).2 hn with h | ⟨h,h'⟩
   ·exact .inl h
   ·exact .inr ⟨h,.inl h'⟩
  ·refine ⟨fun z v' hz=>?_,fun e k f hw hf hk hm=>?_⟩
   ·by_cases e:x=z
    ·subst e;have hl:=C.loop h3 hz;refine ⟨fun t ht=>?_,fun hn=>?_⟩
     ·rcases jO hx with ⟨hr,rfl⟩ | ⟨_,hx⟩
      ·rw [(R.own hr).2] at ht;cases ht
      ·rw [hx] at ht;cases ht;lia
     ·rcases jO hx with ⟨hr,rfl⟩ | ⟨_,hx⟩
      ·by_cases h0:v'=0
       ·exact .inr ⟨h0,.inl hr⟩
       ·exact .inl (by lia)
      ·rw [hx] at hn;cases hn
    ·obtain ⟨z0,h4,h5⟩:=C.sum h3 hz e;obtain ⟨g1,g2⟩:=KK C I O R hx h4;refine ⟨fun t ht=>by have:=g1 t ht;lia,fun hn=>?_⟩;have:=g2 hn
     by_cases h0:v'=0
     ·cases lQ:F z with
      | some f=>
       obtain ⟨t,ht⟩:=OS C I O R hx h4 lQ (by lia);rw [hn] at ht;cases ht
      | none=>exact .inr ⟨h0,.inr ⟨lQ,hn,x,s,z0,hx,h4,by lia⟩⟩
     ·exact .inl (by lia)
   ·by_cases e':x=e
    ·subst e';rcases jO hx with ⟨hr,_⟩ | ⟨_,hx⟩
     ·rw [(R.own hr).1] at hf;cases hf
     ·exact .inl ⟨s,hx⟩
    ·obtain ⟨k1,h4,h5⟩:=C.back hw h3 hf e';have hl:=C.jg hf;rcases Po C I O R hx h4 hf (by lia) with ⟨t,a1,_⟩ | ⟨t,a1,a2⟩
     ·exact .inl ⟨t,a1⟩
     ·exact .inr ⟨t,up1 O a1,by lia⟩
theorem Inv.next (C:Cl F u w) (I:Inv F u w c i) (O:Out F c i S) (R:jm F u w n (put c i S) i r) (lt:∀{a b v},u a b=some v->b<n):Inv F u w (put (put c i S) i r) (i+1):=by
 have old:∀{x t},put c i S x=some t->put (put c i S) i r x=some t:=fun {x t} h=>by
  refine (b_ fun hr=>?_).trans h;rw [(R.own hr).2] at h;cases h
 have le:∀{x s},put c i S x=some s->s<=i:=fun {x s} h=>by
  rcases jO h with ⟨_,rfl⟩ | ⟨_,h⟩
  ·exact Int.le_refl _
  ·have:=I.past h;exact gm this
 refine ⟨fun {x s} h=>?_,fun {x y s t v} hx hy h=>?_,fun {x y s v} hx hy h=>?_,fun {x e s k f} hx h hf hk=>?_,fun {e f t} hf he=>?_,fun {e f s} hf he hb=>?_⟩
 ·rcases jO h with ⟨_,rfl⟩ | ⟨_,h⟩
  ·lia
  ·have:=le h;lia
 ·obtain ⟨g1,g2⟩:=KK C I O R hx h;rcases jO hy with ⟨hr,rfl⟩ | ⟨_,hy⟩
  ·exact g2 (R.own hr).2
  ·exact g1 t hy
 ·obtain ⟨hn,hy⟩:=AH hy;have:=(KK C I O R hx h).2 hy
  by_cases hd:s+v<=i
  ·cases hf:F y with
   | some f=>
    obtain ⟨t,ht⟩:=OS C I O R hx h hf hd;rw [hy] at ht;cases ht
   | none=>exact absurd (W9 C I O R lt hx h hf hy hd) hn
  ·lia
 ·rcases Qa C I O R hx h hf hk with ⟨t,h1,h2⟩ | ⟨t,h1,h2⟩
  ·exact .inl ⟨t,old h1,h2⟩
  ·exact .inr ⟨t,old (up1 O h1),h2⟩
 ·rcases jO he with ⟨hr,_⟩ | ⟨_,he⟩
  ·rw [(R.own hr).1] at hf;cases hf
  ·rcases jO he with ⟨hs,rfl⟩ | ⟨_,he⟩
   ·obtain ⟨f',s,h1,h2,h3,h4,h5⟩:=O.ok hs;rw [hf] at h1;cases h1;exact ⟨s,old (up1 O h3),h4,h5⟩
   ·obtain ⟨s,h1,h2⟩:=I.fel hf he;exact ⟨s,old (up1 O h1),h2⟩
 ·obtain ⟨_,he⟩:=AH he;obtain ⟨hs,he⟩:=AH he;have hl:=C.jg hf;rcases jO hb with ⟨_,rfl⟩ | ⟨_,hb⟩
  ·lia
  ·rw [b_ (HU O hl.2.2)] at hb;have:=I.due hf he hb
   by_cases hd:s+f.2.2<=i
   ·exact absurd (O.all hf he hb hd) hs
   ·lia
end
end HK
namespace MU
variable {n:Nat} {F:cv} {most:Int} {s0:St} {T:Nat} {D:ao->Prop}
theorem IB (g:cy n st) (hb:st.bar=none) (hp:ah st i=some p):∃z,val st p.key=some z/\¬eA p.tie p.v z:=by
 obtain ⟨j,gj,hj⟩:=g.top i p hp;obtain ⟨w',h1,h2⟩:=g.at_ _ _ hj;refine ⟨w'.v,pB hj h1,?_⟩
 by_cases e:i=j
 ·subst e;rw [hp] at h1;cases h1;exact z6 _ _
 ·exact Qn (g.drop hb i j p w' hp h1 h2.symm (by lia))
theorem Ds (hb:st.bar=none) (h:Kn st ⟨true,a,b,v⟩):(a=b/\0<=v)\/∃z,val st (true,a,b)=some z/\z<=v:=by
 by_cases e:a=b
 ·refine .inl ⟨e,?_⟩
  by_cases hv:v<0
  ·exact absurd hb (h.2 ⟨rfl,e,hv⟩)
  ·lia
 ·obtain ⟨z,h1,h2⟩:=h.1 e;refine .inr ⟨z,h1,?_⟩;unfold eA at h2;rw [if_pos rfl] at h2;have h2:¬v<z:=h2;lia
theorem HQ (e:a≠b) (h:Kn st ⟨false,a,b,v⟩):∃z,val st (false,a,b)=some z/\v<=z:=by
 obtain ⟨z,h1,h2⟩:=h.1 e;refine ⟨z,h1,?_⟩;unfold eA at h2;rw [if_neg eR] at h2;have h2:¬z<v:=h2;lia
theorem Fin.cl (h:Fin n F most s0 T) (hb:(run n F s0 T).bar=none) (hD:Drawn F D (run n F s0 T)) (hT:∀x,D x->x.tie=true):HK.Cl F (fun a b=>val (run n F s0 T) (true,a,b)) (fun a b=>val (run n F s0 T) (false,a,b)):=by
 have g:=wV h.pO h.good T;have ne:∀{t a b v},val (run n F s0 T) (t,a,b)=some v->a≠b:=fun {t a b v} hv=>by
  obtain ⟨i,p,_,h2,_,pa,pb,_⟩:=h.row hv;have:=g.ne hb i p h2;rw [pa,pb] at this;exact this
 refine ⟨fun a=>?_,fun {a b v v'} h1 h2=>?_,fun {a b c v v'} h1 h2 wa=>?_,fun {a e v f} h1 hf=>?_,fun {e b v f} h1 hv hf=>?_,fun {a e x f} h1 hf=>?_,fun {x e a k v f} h1 h2 hf SF=>?_,fun {e' e k g' f} h1 hk hg hf=>?_,fun {x en k f} h1 hf hk=>?_,fun {e f} hf=>?_⟩
 ·cases hv:val (run n F s0 T) (true,a,a) with
  | none=>rfl
  | some v=>exact absurd rfl (ne hv)
 ·rcases Ds hb (h.sum h1 h2) with ⟨_,h3⟩ | ⟨z,h3,_⟩
  ·exact h3
  ·exact absurd rfl (ne h3)
 ·rcases Ds hb (h.sum h1 h2) with ⟨e,_⟩ | h3
  ·exact absurd e wa
  ·exact h3
 ·exact HQ (ne h1) (h.aV h1 (ne h1) hf)
 ·rcases Ds hb (h.b5 h1 (ne h1) hv hf) with ⟨e1,e2⟩ | h3
  ·exact .inl ⟨e1.symm,e2⟩
  ·exact .inr h3
 ·rcases Ds hb (h.sure h1 hf) with ⟨e1,e2⟩ | h3
  ·exact .inl ⟨e1,by lia⟩
  ·exact .inr h3
 ·exact HQ SF (h.back h1 h2 SF hf)
 ·refine HQ ?_ (h.a8 h1 (ne h1) hk hg hf);intro e1;have:=h.pO.own _ _ hg;rw [e1,hf] at this;cases this
 ·obtain ⟨i,p,_,h2,pt,pa,pb,pv,_⟩:=h.row h1;have rj:=h2;unfold ah at h2
  cases hr:(run n F s0 T).rows[i]? with
  | none=>rw [hr] at h2;cases h2
  | some r=>
   rw [hr] at h2;have h2:r.cP=p:=gn h2;have nt:∀{x y z},r.cP=(⟨true,x,y,z⟩:ao)->False:=fun {x y z} e=>by rw [<-h2,e] at pt;cases pt
   rcases hD i r hr with ⟨_,_,d⟩ | ⟨_,i',q,_,hq,e⟩ | ⟨_,i',q,_,_,e⟩ | ⟨_,i',q,_,_,e⟩ | ⟨_,i',q,_,_,e⟩ | ⟨_,i',j',q,q',_,_,_,e⟩ | ⟨_,i',j',q,q',_,hq,jX,e⟩
   ·have:=hT _ d;rw [h2,pt] at this;cases this
   ·unfold d8 at e;split at e
    ·rename_i c
     cases uG:F q.b with
     | none=>rw [uG] at e;cases e
     | some f'=>
      rw [uG] at e;have e:=(gn e).symm;rw [h2] at e;have qa:q.a=x:=by rw [<-pa,e]
      have qb:q.b=en:=by rw [<-pb,e]
      rw [qb,hf] at uG;cases uG;have kv:k=f.2.2-q.v:=by rw [<-pv,e]
      obtain ⟨z,z1,z2⟩:=IB g hb hq;have mJ:q.key=(true,x,en):=by unfold ao.key;rw [c.1,qa,qb]
      rw [mJ] at z1;unfold eA at z2;rw [if_pos c.1] at z2;exact .inl ⟨z,z1,by lia⟩
    ·cases e
   ·unfold dC at e;split at e
    ·cases hf:F q.a with
     | none=>rw [hf] at e;cases e
     | some f=>rw [hf] at e;exact (nt (gn e).symm).elim
    ·cases e
   ·unfold dH at e;split at e
    ·cases hf:F q.b with
     | none=>rw [hf] at e;cases e
     | some f=>rw [hf] at e;exact (nt (gn e).symm).elim
    ·cases e
   ·unfold d7 at e;split at e
    ·cases ho:F q.a with
     | none=>rw [ho] at e;cases e
     | some o=>
      rw [ho] at e
      cases Fx:F q.b with
      | none=>rw [Fx] at e;cases e
      | some f'=>
       rw [Fx] at e;have e:=(gn e).symm;rw [h2] at e;have qb:q.b=en:=by rw [<-pb,e]
       rw [qb,hf] at Fx;cases Fx;have kv:k=min q.v f.2.2-o.2.1:=by rw [<-pv,e]
       have:=h.pO.num _ _ ho;omega
    ·cases e
   ·unfold aI at e;split at e
    ·exact (nt (gn e).symm).elim
    ·cases e
   ·unfold bq at e;split at e
    ·rename_i c
     cases uG:F q.b with
     | none=>rw [uG] at e;cases e
     | some f'=>
      rw [uG] at e;have e:=(gn e).symm;rw [h2] at e;have qa:q'.a=x:=by rw [<-pa,e]
      have qb:q.b=en:=by rw [<-pb,e]
      rw [qb,hf] at uG;cases uG;have kv:k=min q.v f.2.2-q'.v:=by rw [<-pv,e]
      obtain ⟨z,z1,z2⟩:=IB g hb jX;obtain ⟨y,y1,y2⟩:=IB g hb hq;have mJ:q'.key=(true,x,q.a):=by unfold ao.key;rw [c.2.1,qa,c.2.2.1]
      have BI:q.key=(false,q.a,en):=by unfold ao.key;rw [c.1,qb]
      rw [mJ] at z1;rw [BI] at y1;unfold eA at z2 y2;rw [if_pos c.2.1] at z2;rw [if_neg (by rw [c.1];exact eR)] at y2;exact .inr ⟨q.a,q.v,q'.v,z,y,z1,by omega,y1,by lia,kv⟩
    ·cases e
 ·have:=h.pO.num _ _ hf;exact ⟨this.1,this.2.1,h.pO.own _ _ hf⟩
end MU
namespace Y0
open PySem L2
theorem HG (h:∀e∈l,e<c.length):HK.put (HD.cm c) i (fun x=>x∈l)=HD.cm (HD.ag l i c):=by
 funext x
 rw [HD.fQ h]
 by_cases e:x∈l
 ·rw [HK.ik e,if_pos e]
 ·rw [HK.b_ e,if_neg e]
theorem HL (h:Du a fs):HK.Out a.F (HD.cm a.c) a.now (fun x=>x∈fs):=by
 refine ⟨fun {e} he=>?_,fun {e f s} h1 h2 h3 h4=>h.all e f s h1 h2 h3 (by lia)⟩;obtain ⟨f,t,h1,h2,h3,h4,h5⟩:=h.ok e he;exact ⟨f,t,h1,h2,h3,by lia,by lia⟩
theorem WB {n:Nat} {la:Int} {T F:List (List Int)} (ae:di (n:Int) la T F) {y:Nat} (h:y∈rN n F):bR F y=none:=by
 refine IU fun r hr z=>?_;have h2:=(List.mem_filter.mp h).2;have h2:¬(y:Int)∈F.map pY:=of_decide_eq_true h2;obtain ⟨a,b,l,m,rfl,_⟩:=ae.f r hr;have z:some b=some (y:Int):=z;cases z;exact h2 (gF.mpr ⟨_,hr,rfl⟩)
theorem V9 {n:Nat} {la:Int} {T F:List (List Int)} (ae:di (n:Int) la T F) {y:Nat} (hy:y<n) (h:bR F y=none):y∈rN n F:=by
 refine List.mem_filter.mpr ⟨List.mem_range.mpr hy,eQ fun z=>?_⟩;obtain ⟨r,hr,e⟩:=gF.mp z;obtain ⟨a,b,l,m,rfl,_⟩:=ae.f r hr;have e:b=(y:Int):=e;subst e;rw [ae.eO hr] at h;cases h
section
variable {n:Nat} {la:Int} {T F:List (List Int)} {st:MU.St} {L M:List lW} {c:List (Option Int)} {i:Int}
theorem V4 (ae:di (n:Int) la T F) (hL:ni st true L) (hM:ni st false M) {r:List Nat} {j:Nat}
 (er:r=HD.iter (HD.step L (M.filter (gu (bR F))) (bR F) c i) j (Mf n F c)) (es:HD.step L (M.filter (gu (bR F))) (bR F) c i r=r):
 HK.jm (bR F) (fun a b=>MU.val st (true,a,b)) (fun a b=>MU.val st (false,a,b)) n (HD.cm c) i (fun x=>x∈r):=by
 have R_:∀{y},y∈r->y∈Mf n F c:=fun {y} h=>HD.gN j _ y (er▸h);have tie:∀{y z v},MU.val st (true,y,z)=some v->(y,z,v)∈L:=fun h=>(hL.has _ _ _).mpr h;refine ⟨fun {y} h=>?_,fun {y} h=>?_,fun {y} h=>?_,fun R h1 h2 y hy=>?_⟩
 ·have h0:=List.mem_filter.mp (R_ h);exact ⟨WB ae h0.1,Option.isNone_iff_eq_none.mp h0.2⟩
 ·exact List.mem_range.mp (List.mem_filter.mp (List.mem_filter.mp (R_ h)).1).1
 ·have hl:HD.lets L (M.filter (gu (bR F))) (bR F) c i y r=true:=by
   rw [<-es] at h;exact (List.mem_filter.mp h).2
  obtain ⟨g1,g2⟩:=Pt.mp hl;refine ⟨fun z v hz=>?_,fun e k f hw hf hk hm=>?_⟩
  ·have:=g1 (y,z,v) (tie hz) rfl;have this:HD.jP c i r z v=true:=this;unfold HD.jP at this;refine ⟨fun t ht=>?_,fun ht=>?_⟩
   ·rw [ht] at this;exact of_decide_eq_true this
   ·rw [ht] at this;have this:(decide (0<v) || (decide (v=0) && decide (z∈r)))=true:=this;rw [Bool.or_eq_true,Bool.and_eq_true,ju,ju,ju] at this;exact this
  ·have Fq:(y,e,k)∈M.filter (gu (bR F)):=List.mem_filter.mpr ⟨(hM.has _ _ _).mpr hw,by
    unfold gu;show (match bR F e with | some f=>decide (f.2.1<k) && decide (k<=f.2.2) | none=>false)=true;rw [hf];show (decide (f.2.1<k) && decide (k<=f.2.2))=true;rw [eQ hk,eQ hm];rfl⟩
   have:=g2 (y,e,k) Fq rfl;have this:HD.i8 c i (bR F) e k=true:=this;unfold HD.i8 at this;rw [hf,Bool.or_eq_true] at this;rcases this with h | h
   ·exact .inl (Option.isSome_iff_exists.mp h)
   ·have h:(match HD.cm c f.1 with | some t=>decide (k<=i-t) | none=>false)=true:=h
    cases ht:HD.cm c f.1 with
    | none=>rw [ht] at h;cases h
    | some t=>
     rw [ht] at h;have:=of_decide_eq_true h;exact .inr ⟨t,rfl,by lia⟩
 ·
  have all:∀k,∀y,R y->y∈HD.iter (HD.step L (M.filter (gu (bR F))) (bR F) c i) k (Mf n F c):=by
   intro k
   induction k with
   | zero=>
    intro y hy;obtain ⟨a1,a2,a3⟩:=h1 y hy;exact List.mem_filter.mpr ⟨V9 ae a3 a1,by rw [a2];rfl⟩
   | succ k ih=>
    intro y hy;rw [HD.dq];refine List.mem_filter.mpr ⟨ih y hy,Pt.mpr ⟨fun x hx e=>?_,fun x hx e=>?_⟩⟩
    ·obtain ⟨g1,g2⟩:=(h2 y hy).1 x.2.1 x.2.2 (by rw [<-e];exact (hL.has _ _ _).mp hx);unfold HD.jP
     cases ht:HD.cm c x.2.1 with
     | some t=>exact eQ (g1 t ht)
     | none=>
      show (decide (0<x.2.2) || (decide (x.2.2=0) && decide _))=true;rw [Bool.or_eq_true,Bool.and_eq_true,ju,ju,ju];rcases g2 ht with h | ⟨h,h'⟩
      ·exact .inl h
      ·exact .inr ⟨h,ih _ h'⟩
    ·have hx:=List.mem_filter.mp hx;have zE:=hx.1;have u5:=hx.2;unfold gu at u5
     cases hf:bR F x.2.1 with
     | none=>rw [hf] at u5;cases u5
     | some f=>
      rw [hf] at u5;have u5:(decide (f.2.1<x.2.2) && decide (x.2.2<=f.2.2))=true:=u5;rw [Bool.and_eq_true,ju,ju] at u5;unfold HD.i8;rw [hf,Bool.or_eq_true];rcases (h2 y hy).2 x.2.1 x.2.2 f (by rw [<-e];exact (hM.has _ _ _).mp zE) hf u5.1 u5.2 with ⟨t,h⟩ | ⟨t,h,h'⟩
      ·exact .inl (by rw [h];rfl)
      ·refine .inr ?_;show (match HD.cm c f.1 with | some t=>decide (x.2.2<=i-t) | none=>false)=true;rw [h];exact eQ (by lia)
  show y∈r;rw [er];exact all j y hy
end
end Y0
namespace HK
variable {F:cv} {u w:Nat->Nat->Option Int} {c:Nat->Option Int} {n:Nat} {r S:Nat->Prop}
structure Zero (F:cv) (u:Nat->Nat->Option Int) (n:Nat) (la:Int):Prop where
 own:F 0=none
 pos:0<n
 lt:∀{a b v},u a b=some v->a<n/\b<n
 Rq:∀{y},y<n->y≠0->∃v,u y 0=some v/\v<=0
 of0:∀{y},y<n->y≠0->∃v,u 0 y=some v/\v<=la
theorem Zero.nonneg (Z:Zero F u n la) (C:Cl F u w) (h:u 0 y=some v):0<=v:=by
 have hy:y≠0:=fun e=>by rw [e,C.irr] at h;cases h
 obtain ⟨v',h1,h2⟩:=Z.Rq (Z.lt h).2 hy;have:=C.loop h h1;lia
theorem Zero.m5 (Z:Zero F u n la) (C:Cl F u w) (h:w 0 e=some k) (hf:F e=some f) (hk:0<k):False:=by
 have hl:=C.jg hf;rcases C.sure h hf with ⟨_,h2⟩ | ⟨z,h1,h2⟩
 ·lia
 ·have:=Z.nonneg C h1;lia
theorem Zero.Bi (Z:Zero F u n la) (C:Cl F u w) (h:u 0 e=some v) (hv:v<=0):F e=none:=by
 cases hf:F e with
 | none=>rfl
 | some f=>
  obtain ⟨k,h1,h2⟩:=C.aV h hf;have hl:=C.jg hf;exact (Z.m5 C h1 hf (by lia)).elim
theorem XD (Z:Zero F u n la) (C:Cl F u w) (hc:∀x,c x=none) (R:jm F u w n c 0 r):r 0:=by
 refine R.most (fun y=>y=0\/∃v,u 0 y=some v/\v<=0) ?_ ?_ 0 (.inl rfl)
 ·rintro y (rfl | ⟨v,h1,h2⟩)
  ·exact ⟨Z.own,hc _,Z.pos⟩
  ·exact ⟨Z.Bi C h1 h2,hc _,(Z.lt h1).2⟩
 ·intro y hy;refine ⟨fun z v' hz=>⟨fun t ht=>(by rw [hc] at ht;cases ht),fun _=>?_⟩,fun e k f hw hf hk hm=>?_⟩
  ·rcases hy with rfl | ⟨v,h1,h2⟩
   ·have:=Z.nonneg C hz
    by_cases h0:v'=0
    ·exact .inr ⟨h0,.inr ⟨v',hz,by lia⟩⟩
    ·exact .inl (by lia)
   ·by_cases e:0=z
    ·subst e;have:=C.loop h1 hz
     by_cases h0:v'=0
     ·exact .inr ⟨h0,.inl rfl⟩
     ·exact .inl (by lia)
    ·obtain ⟨z0,h3,h4⟩:=C.sum h1 hz e;have:=Z.nonneg C h3
     by_cases h0:v'=0
     ·exact .inr ⟨h0,.inr ⟨z0,h3,by lia⟩⟩
     ·exact .inl (by lia)
  ·have hl:=C.jg hf;refine (?_:False).elim;rcases hy with rfl | ⟨v,h1,h2⟩
   ·exact Z.m5 C hw hf (by lia)
   ·have he:0≠e:=fun e'=>by rw [<-e',Z.own] at hf;cases hf
    obtain ⟨k1,h3,h4⟩:=C.back hw h1 hf he;exact Z.m5 C h3 hf (by lia)
theorem Kr (hc:∀x,c x=none) (i:Int):Inv F u w c i:=by
 refine ⟨?_,?_,?_,?_,?_,?_⟩
 ·intro x s h;rw [hc] at h;cases h
 ·intro x y s t v h;rw [hc] at h;cases h
 ·intro x y s v h;rw [hc] at h;cases h
 ·intro x e s k f h;rw [hc] at h;cases h
 ·intro e f t _ h;rw [hc] at h;cases h
 ·intro e f s _ _ h;rw [hc] at h;cases h
structure At (F:cv) (u w:Nat->Nat->Option Int) (c:Nat->Option Int) (i:Int):Prop where
 inv:Inv F u w c i
 zero:0<i->c 0=some 0
 fresh:i=0->∀x,c x=none
theorem At.next (Z:Zero F u n la) (C:Cl F u w) (hi:0<=i) (A:At F u w c i) (O:Out F c i S) (R:jm F u w n (put c i S) i r):At F u w (put (put c i S) i r) (i+1):=by
 refine ⟨A.inv.next C O R (fun h=>(Z.lt h).2),fun _=>?_,fun h=>by lia⟩
 by_cases h0:i=0
 ·have hc:=A.fresh h0;have hS:∀x,put c i S x=none:=fun x=>by
   refine (b_ fun hs=>?_).trans (hc x);obtain ⟨f,s,_,_,h3,_⟩:=O.ok hs;rw [hc] at h3;cases h3
  subst h0;exact ik (XD Z C hS R)
 ·have h:=up1 O (A.zero (by lia));refine (b_ fun hr=>?_).trans h;rw [(R.own hr).2] at h;cases h
theorem At.done (Z:Zero F u n la) (C:Cl F u w) (h0:0<=la) (A:At F u w c (la+1)) (hy:y<n):∃t,c y=some t/\0<=t/\t<=la:=by
 have hz:=A.zero (by lia)
 by_cases e:y=0
 ·exact ⟨0,e▸hz,by exact Int.NonNeg.mk (0+0),h0⟩
 ·obtain ⟨v,h1,h2⟩:=Z.of0 hy e;obtain ⟨v',h3,h4⟩:=Z.Rq hy e
  cases hc:c y with
  | none=>have:=A.inv.dl hz hc h1;lia
  | some t=>exact ⟨t,rfl,by have:=A.inv.K hc hz h3;lia,by have:=A.inv.K hz hc h1;lia⟩
end HK
namespace Y0
open PySem L2
seal L2.PE L2.PA L2.PT L2.PS L2.gS L2.PG L2.lX L2.PI L2.PO
theorem xm {K:aL} (o:Af H) (h:ay K H a (ns.map V.int)):qf K H a ns:=by
 rcases h with (h | h) | h
 ·rcases o a with z | ⟨ob,xs,z⟩
  ·rw [z] at h;cases h
  ·rw [z] at h;cases h
 ·exact .inl h
 ·exact .inr h
theorem ni.lt (h:ni st t L) (g:MU.cy n st):∀x∈L,x.1<n/\x.2.1<n:=fun x hx=>by
 obtain ⟨a,b,v⟩:=x;have hv:=(h.has a b v).mp hx;unfold MU.val at hv
 cases hq:st.best (t,a,b) with
 | none=>rw [hq] at hv;cases hv
 | some j=>
  obtain ⟨w',h1,h2⟩:=g.at_ _ _ hq;have h4:=MU.iD h2;have h5:=g.lt _ _ h1;have e1:=h4.2.1;have e2:=h4.2.2;show a<n/\b<n;lia
theorem ni.len (h:ni st t L) (g:MU.cy n st) (h8:n<=8):L.length<=64:=by
 have hl:=h.lt g;have mC:(L.map fun x=>x.1*8+x.2.1).Nodup:=by
  have h0:=h.once;unfold List.Nodup at h0 ⊢;rw [List.pairwise_map] at h0 ⊢;refine List.Pairwise.imp_of_mem (fun {x y} hx hy e z=>e ?_) h0;have l1:=hl x hx;have l2:=hl y hy;exact Prod.ext (by show x.1=y.1;lia) (by show x.2.1=y.2.1;lia)
 have:=MH.zev 64 _ mC fun z hz=>by
  obtain ⟨x,hx,rfl⟩:=gF.mp hz;have l1:=hl x hx;show x.1*8+x.2.1<64;lia
 rwa [a7] at this
theorem Qk {n:Nat} {la:Int} {T F:List (List Int)} (ae:di (n:Int) la T F) (h:gu (bR F) x=true):∃f,bR F x.2.1=some f/\x.2.1<n/\f.1<n:=by
 unfold gu at h
 cases hf:bR F x.2.1 with
 | none=>rw [hf] at h;cases h
 | some f=>
  obtain ⟨k,b,_,_,h1,h2⟩:=Ip ae hf;exact ⟨f,rfl,h1,h2⟩
theorem HX {K:aL} {sa d a:Addr} {H:Hp} {qs:List Addr} (D:eZ K sa H d) (h:H a=some (.lst (qs.map V.ref))):a≠d:=fun e=>by
 obtain ⟨p,hd⟩:=D.at_;subst e;rw [h] at hd
 match qs,hd with
 | [],hd=>cases hd
 | [_],hd=>cases hd
 | _::_::_,hd=>cases hd
noncomputable abbrev pZ (y lt lw be ow ca:Addr) (N:Nat) (rF:List (List Int)) (L M:List lW) (c:List (Option Int)) (now:Int):hX:=⟨y,lt,lw,be,ow,ca,bR rF,L,M,rN N rF,c,now⟩
theorem Nr:∀m∈rN N F,m<N:=fun m hm=>List.mem_range.mp (List.mem_filter.mp hm).1
theorem WA:(rN N F).length<=N:=dY (List.length_filter_le _ _) (Nat.le_of_eq List.length_range)
theorem WT {tl CH:Addr} {H H':Hp} {a:hX} {xs:List V} (h:a.At CH H) (ht:H tl=some (.lst xs)) (k:∀b u,H b=some u->b≠tl->H' b=some u) (n1:a.lt≠tl) (n2:a.lw≠tl) (n3:a.ow≠tl) (n4:a.ca≠tl):a.At CH H':=by
 obtain ⟨⟨dx,h1⟩,⟨ps,h2,h3⟩,⟨qs,h4,h5⟩,⟨gO,r1,r2,r3,r4⟩,h7,h8⟩:=h;have tup:∀{q xs},H q=some (.tup xs)->H' q=some (.tup xs):=fun e=>k _ _ e (aQ e ht nofun);refine ⟨⟨dx,k _ _ h1 (aQ h1 ht nofun)⟩,⟨ps,k _ _ h2 n1,dN h3 fun q r e=>tup e⟩,⟨qs,k _ _ h4 n2,dN h5 fun q r e=>tup e⟩,⟨gO,?_,r2,r3,fun e f hf=>?_⟩,k _ _ h7 n3,k _ _ h8 n4⟩
 ·rcases r1 with r1 | ⟨o,r1⟩
  ·exact .inl (k _ _ r1 (aQ r1 ht nofun))
  ·exact .inr ⟨o,k _ _ r1 (aQ r1 ht nofun)⟩
 ·obtain ⟨q,q1,q2⟩:=r4 e f hf;exact ⟨q,q1,tup q2⟩
theorem Xn {K:aL} {sa d CH:Addr} {H H':Hp} {a:hX} (h:a.At CH H) (D:eZ K sa H d) (k:cB d H H'):a.At CH H':=by
 obtain ⟨⟨dx,h1⟩,⟨ps,h2,h3⟩,⟨qs,h4,h5⟩,⟨gO,r1,r2,r3,r4⟩,h7,h8⟩:=h;obtain ⟨pp,hd⟩:=id D.at_;have tup:∀{q xs},H q=some (.tup xs)->H' q=some (.tup xs):=fun e=>k _ _ e (aQ e hd nofun);refine ⟨⟨dx,k _ _ h1 (aQ h1 hd nofun)⟩,⟨ps,k _ _ h2 (HX D h2),dN h3 fun q r e=>tup e⟩,⟨qs,k _ _ h4 (HX D h4),dN h5 fun q r e=>tup e⟩,⟨gO,?_,r2,r3,fun e f hf=>?_⟩,k _ _ h7 fun e=>?_,k _ _ h8 fun e=>?_⟩
 ·rcases r1 with r1 | ⟨o,r1⟩
  ·exact .inl (k _ _ r1 (aQ r1 hd nofun))
  ·exact .inr ⟨o,k _ _ r1 (aQ r1 hd nofun)⟩
 ·obtain ⟨q,q1,q2⟩:=r4 e f hf;exact ⟨q,q1,tup q2⟩
 ·rw [e,hd] at h7
  cases ho:a.own with
  | nil=>rw [ho] at h7;cases h7
  | cons x t=>rw [ho] at h7;cases h7
 ·rw [e,hd] at h8
  cases ho:a.c with
  | nil=>rw [ho] at h8;cases h8
  | cons x t=>
   rw [ho] at h8
   cases x with
   | none=>cases h8
   | some v=>cases h8
noncomputable abbrev sX (st:MU.St) (a b:Nat):Option Int:=MU.val st (true,a,b)
noncomputable abbrev Aq (st:MU.St) (a b:Nat):Option Int:=MU.val st (false,a,b)
noncomputable def Pg (CH:Addr):Sp:=fun vs H Q _=>∃(y lt lw be ow ca wp ta fa Do:Addr) (N:Nat) (la:Int) (T F:List (List Int)) (outs:List Int) (st:MU.St) (L M:List lW),vs=[.ref y,.ref wp,.ref Do]/\
 tF H wp ta fa (N:Int) la T F/\di (N:Int) la T F/\H Do=some (.lst (outs.map V.int))/\Dk F outs/\MU.cy N st/\ni st true L/\ni st false M/\HK.Cl (bR F) (sX st) (Aq st)/\HK.Zero (bR F) (sX st) N la/\
 (pZ y lt lw be ow ca N F L (M.filter (gu (bR F))) (List.replicate N none) 0).At CH H/\(∃kvs,H be=some (.dK kvs))/\lt≠ca/\lw≠ca/\ow≠ca/\fa≠ca/\Do≠ca/\
 ∀l c H',(pZ y lt lw be ow ca N F L (M.filter (gu (bR F))) c (la+1)).At CH H'->Am y ca H H'->c.length=N->HK.At (bR F) (sX st) (Aq st) (HD.cm c) (la+1)->Q l H'
noncomputable abbrev nPl:List Str:=["_law_hand","_law_w","_law_out","_law_deeds","_law_now","_law_times","_law_fallen","_law_k","_law_began"]
theorem wF:cF nPl ["_law_hand","_law_w","_law_out"] (aZ fC):=cT
theorem oG (F0:Fn K mg "_law_played" fC ["_law_hand","_law_w","_law_out"] f fd) (jW:mg "range"=none) (hlen:mg "len"=none) (TH:ou K mg CH)
 (mT:gq K CH "times" fT) (bT:dP K kI ["self"] []) (GT:aw P w K mg base ax 1 fT kI ["self"] (HZ CH))
 (mG:gq K CH "goes" fG) (bG:dP K fdG ["self","fallen"] []) (GG:aw P w K mg base ax 4 fG fdG ["self","fallen"] (MV CH)):
 aw P w K mg base ax 5 f fd ["_law_hand","_law_w","_law_out"] (Pg CH):=by
 refine F0.F.ok wF (fun _ _ _ _ h=>?_) fun _ A _ s H _ Q E hr h=>?_
 ·obtain ⟨_,_,_,_,_,_,_,_,_,_,_,_,_,_,_,_,_,_,rfl,_⟩:=h;rfl
 ·obtain ⟨y,oP,qJ,be,ow,ca,wp,ta,fa,Do,N,la,rT,rF,outs,st,L2,M2,rfl,Mv,ae,e8,ho,good,BY,FD,FH,hZ,sJ,⟨kvs,uK⟩,n1,Kg,n3,yA,yK,k⟩:=h;have gE:dn 1 _:=hr.mono (by decide);refine ⟨_,aY (cI 3 wF.nd (jN nH))
   (aY (iP PassesOwn.never rfl (vp (by rfl) jW (cw (cG iE (aE (pv 1)) aH))) (cj 4 wF.nd)
    (aY (cI 5 wF.nd (vw (pv 0) TH.cl mT GT gE bT .nil ee))
    (aY (cI 6 wF.nd (jN nH))
    (aY (iP PassesOwn.never rfl (vp (by rfl) jW (cw (kE zy (by rfl) hlen zU (cw (aE (pv 1)))))) (cj 7 wF.nd)
     (aY (cI 8 wF.nd (cW df (pv 5) (aE (cW df (aE (pv 1)) (pv 7) (fun _ _=>rfl))) (fun _ _=>rfl)))
     (az (d0 (PW.pt (rW (cV wQ (pv 8) j7) (rW (cV Av (cW df (pv 5) (aE (cW df (aE (pv 1)) (pv 7) (fun _ _=>rfl))) (fun _ _=>rfl)) j7) (vm (cV fw (pv 4) (cG iE (pv 8) (cW df (pv 2) (pv 7) (fun _ _=>rfl))))))))
      (az (gB (px pU pT rG pC (pv 6) (cw (aE (cW df (aE (pv 1)) (pv 7) (fun _ _=>rfl))))))) d9))))
    (az (gB (px pU pT rG pC (pv 3) (cw (gX (pv 0) TH.cl mG GG hr bG .nil ee (cw (pv 6)))))))))))
   (az (c7 (pv 3)))),?_⟩
  have n8:=ae.n2;have l1:=ae.l1;have l2:=ae.l2;refine fun N1 c1=>⟨dM _,fun dl vZ=>c1 _ _ ?_⟩;clear c1 N1;have s0:=bj (o:=.lst []) vZ;have ed0:upd H dl (.lst []) dl=some (.lst []):=aq;obtain ⟨dxy,Se⟩:=sJ.ins;have Mg:=sJ.dX;have dly:dl≠y:=(aO Se vZ).symm;have Ct:dl≠ca:=(aO Mg vZ).symm;obtain ⟨_,z1,_⟩:=sJ.tN;obtain ⟨_,z2,_⟩:=sJ.vD;have z3:=sJ.own;have sJ:=sJ.same s0;generalize upd H dl (.lst [])=H1 at*;obtain ⟨fs,pL⟩:=Mv.f;have kt:∀{b u},H b=some u->(∀dx xs,u≠.ins CH dx xs)->b≠ca->H1 b=some u/\b≠y/\b≠ca/\b≠dl:=fun {b u} e hn hc=>⟨s0 _ _ e,fun z=>by rw [z,Se] at e;cases e;exact hn _ _ rfl,hc,aO e vZ⟩;have cat:∀{b xs},H b=some (.tup xs)->b≠ca:=fun {b xs} e=>aQ e Mg nofun;have JH:=kt Mv.tup (fun _ _ z=>nomatch z) (cat Mv.tup);have S':=kt pL.1 (fun _ _ z=>nomatch z) yA;have Do8:=kt e8 (fun _ _ z=>nomatch z) yK;have be8:=kt uK (fun _ _ z=>nomatch z) (aQ uK Mg nofun);have Mp:L2.length<=100:=dY (BY.len good (by lia)) (by decide);have Mn:(M2.filter (gu (bR rF))).length<=100:=dY (List.length_filter_le _ _) (dY (FD.len good (by lia)) (by decide));have KU:∀{c:List (Option Int)} {now:Int},c.length=N->d_ (pZ y oP qJ be ow ca N rF L2 (M2.filter (gu (bR rF))) c now):=fun {c now} hc=>
   ⟨fun x hx=>by show _<c.length;rw [hc];exact (BY.lt good x hx).2,fun x hx=>by show ∃f,_/\_<c.length/\_<c.length;rw [hc];exact Qk ae (List.mem_filter.mp hx).2,Mp,Mn,fun m hm=>by show m<c.length;rw [hc];exact Nr m hm,by show (rN N rF).length<=100;have:=WA (N:=N) (F:=rF);lia⟩
  have rep:∀x,HD.cm (List.replicate N (none:Option Int)) x=none:=fun x=>by
   unfold HD.cm;rw [List.getElem?_replicate];split<;>rfl
  have rows:∀{k:Nat} {row:List Int},rF[k]?=some row->∃q,fs[k]?=some q/\H1 q=some (.tup (row.map V.int))/\q≠y/\q≠ca/\q≠dl:=fun {k row} h=>by
   have hk:=(ff.mp h).1;have mM:k<fs.length:=by rw [Paired.length pL.2];exact hk
   obtain ⟨row',h',hq⟩:=av pL.2 (iR mM);rw [h] at h';cases h';exact ⟨_,iR mM,kt hq (fun _ _ z=>nomatch z) (cat hq)⟩
  refine fun N1 c1=>⟨_,rfl,a9 JH.1 rfl ⟨_,_,rfl,rfl,_,rfl,by lia,by lia,?_⟩⟩;refine zq (n:=(la+1).toNat) (fun i aa H'=>∃(c:List (Option Int)) (ds:List V) (v4 v5 v6 v7 v8:Option V),aa=[some (.ref y),some (.ref wp),some (.ref Do),some (.ref dl),v4,v5,v6,v7,v8]/\(pZ y oP qJ be ow ca N rF L2 (M2.filter (gu (bR rF))) c (i:Int)).At CH H'/\(∀b u,H1 b=some u->b≠y->b≠ca->b≠dl->H' b=some u)/\H' dl=some (.lst ds)/\ds.length=i/\Jt rF outs c (i:Int)/\c.length=N/\HK.At (bR rF) (sX st) (Aq st) (HD.cm c) (i:Int))
   ⟨_,[],none,none,none,none,none,rfl,sJ,fun b u e _ _ _=>e,ed0,rfl,fun k b e l m t _ _ ht=>?_,GJ,HK.Kr rep _,fun z=>absurd z (by show ¬(0:Int)<0;decide),fun _=>rep⟩ ?_ ?_
  ·exfalso;rw [rep] at ht;cases ht
  ·rintro i aa H9 hi ⟨c,ds,v4,v5,v6,v7,v8,rfl,sI,k9,Mb,ym,hJ,hc,uM⟩;have z0:(0:Int)+(i:Int)=(i:Int):=by lia
   rw [z0];obtain ⟨F_,Kw⟩:=sI.ins;refine fun N2 c2=>⟨_,rfl,y,F_,_,rfl,Kw,by with_unfolding_all rfl,pZ y oP qJ be ow ca N rF L2 (M2.filter (gu (bR rF))) c (i:Int),rfl,sI,fun tl nh xT z8 rq=>c2 _ _ ?_⟩;clear c2 N2;refine fun N2 c2=>⟨dM _,fun fl jt=>c2 _ _ ?_⟩;clear c2 N2;have tR:=bj (o:=.lst []) jt;have efl:upd nh fl (.lst []) fl=some (.lst []):=aq;have uN:H9 fl=none:=z8.free jt;have Bc:=z8.trans tR;have JK:tl≠fl:=aO (show nh tl=some _ from rq) jt;have rq:=tR _ _ rq;generalize upd nh fl (.lst [])=rK at*;have ca9:=sI.dX;have y9:fl≠ca:=(aO ca9 uN).symm;have fldl:dl≠fl:=aO Mb uN;have up:∀{H':Hp},(∀b u,rK b=some u->b≠fl->H' b=some u)->∀{b u},H1 b=some u/\b≠y/\b≠ca/\b≠dl->H' b=some u:=by
    intro H' kk b u e;have e9:=k9 _ _ e.1 e.2.1 e.2.2.1 e.2.2.2;exact kk _ _ (Bc _ _ e9) (aO e9 uN)
   refine fun N2 c2=>⟨_,rfl,a9 (up (fun b u e _=>e) JH) rfl ⟨fa,_,rfl,.inl (ay.of (up (fun b u e _=>e) S')),_,rfl,by rw [a7];exact Int.NonNeg.mk (fs.length+Nat.succ 4611686018427387903),by rw [a7,Paired.length pL.2];have:=ae.fl;lia,?_⟩⟩;have L1:fs.length=rF.length:=Paired.length pL.2;refine zq (n:=(((fs.map V.ref).length:Nat):Int).toNat) (fun k aa H'=>∃v7 v8:Option V,aa=[some (.ref y),some (.ref wp),some (.ref Do),some (.ref dl),some (.int (i:Int)),some (.ref tl),some (.ref fl),v7,v8]/\
    H' fl=some (.lst ((gQ c (i:Int) outs rF k).map fun i:Nat=>V.int (i:Int)))/\∀b u,rK b=some u->b≠fl->H' b=some u) ⟨_,_,rfl,efl,fun b u e _=>e⟩ ?_ ?_
   ·rintro kk aa CC hk ⟨v7,v8,rfl,l8,lb⟩;rw [lS,a7] at hk;have z1:(0:Int)+(kk:Int)=(kk:Int):=by lia
    rw [z1];obtain ⟨row,lq⟩:∃row,rF[kk]?=some row:=⟨_,iR (by lia)⟩;obtain ⟨b1,e1,Ff,m1,er,hb0,hb1,S8,he1,_⟩:=vk ae lq;subst er;obtain ⟨q,hq,Bz⟩:=rows lq;have w_:=up lb JH;have yB:=up lb S';have JX:=up lb Bz;have Ms:=up lb Do8;have Ck:=lb _ _ rq JK;have yu:g_ (fs.map V.ref) (kk:Int)=some (.ref q):=j8 (by rw [dt,hq];rfl);have atb:g_ (c.map ov) b1=some (ov (HD.cm c b1.toNat)):=by
     have:=rZ (c:=c) (i:=b1.toNat) (by lia)
     rwa [ot hb0] at this
    have ate:g_ (c.map ov) e1=some (ov (HD.cm c e1.toNat)):=by
     have:=rZ (c:=c) (i:=e1.toNat) (by lia)
     rwa [ot (by exact gm S8)] at this
    have ye:=ho.len;have ato:g_ (outs.map V.int) (kk:Int)=some (.int (outs.getD kk 0)):=j8 (by
     rw [dt,uQ,iR (show kk<outs.length by lia)];rfl)
    have gw:n9 c (i:Int) outs rF kk=false->gQ c (i:Int) outs rF (kk+1)=gQ c (i:Int) outs rF kk:=fun h=>by rw [Iq,if_neg (by rw [h];exact eR),List.append_nil]
    have fc:n9 c (i:Int) outs rF kk=((HD.cm c e1.toNat).isNone && match HD.cm c b1.toNat with | some t=>decide ((i:Int)=t+outs.getD kk 0) | none=>false):=by
     unfold n9;rw [lq]
     try rfl
    refine fun N3 c3=>⟨_,rfl,_,rfl,a9 w_ rfl ⟨_,rfl,fa,_,_,_,rfl,rfl,yB,yu,a9 JX rfl ⟨tl,_,_,_,rfl,rfl,Ck,atb,c3 _ _ ?_⟩⟩⟩;clear c3 N3;refine ⟨_,rfl,rfl,_,rfl,?_⟩;rw [vf]
    cases Fl:HD.cm c b1.toNat with
    | none=>
     rw [Fl] at fc;have fc:n9 c (i:Int) outs rF kk=false:=by rw [fc];exact Bool.and_false _
     refine dO (dO ⟨_,_,rfl,?_,lb⟩);rw [gw fc];exact l8
    | some t=>
     rw [Fl] at fc;refine iN ⟨_,rfl,_,rfl,a9 w_ rfl ⟨_,rfl,fa,_,_,_,rfl,rfl,yB,yu,a9 JX rfl ⟨tl,_,_,_,rfl,rfl,Ck,ate,rfl,_,rfl,?_⟩⟩⟩;rw [vf]
     cases KA:HD.cm c e1.toNat with
     | some t'=>
      rw [KA] at fc;refine dO (dO ⟨_,_,rfl,?_,lb⟩);rw [gw fc];exact l8
     | none=>
      rw [KA] at fc;have fc:n9 c (i:Int) outs rF kk=decide ((i:Int)=t+outs.getD kk 0):=fc;refine iN ⟨_,rfl,_,rfl,_,rfl,_,rfl,Do,_,_,_,rfl,rfl,Ms,ato,_,_,rfl,rfl,rfl,_,rfl,?_⟩;rw [Hk]
      by_cases uE:(i:Int)=t+outs.getD kk 0
      ·rw [eQ uE] at fc;have hs:gQ c (i:Int) outs rF (kk+1)=gQ c (i:Int) outs rF kk++[e1.toNat]:=by rw [Iq,if_pos fc,vt lq]
       have e1n:((e1.toNat:Nat):Int)=e1:=ot (by exact gm S8);have flen:(gQ c (i:Int) outs rF kk).length<=kk:=by
        unfold gQ;rw [a7];exact dY (List.length_filter_le _ _) (Nat.le_of_eq List.length_range)
       have:=ae.fl;refine gr uE ?_;refine ⟨_,rfl,.inl ⟨rfl,_,ay.of l8⟩,_,rfl,a9 w_ rfl ⟨_,rfl,fa,_,_,_,rfl,rfl,yB,yu,a9 JX rfl ⟨fl,_,_,rfl,rfl,l8,by rw [a7];exact fi (by lia),?_⟩⟩⟩;refine ⟨_,_,rfl,?_,fun b u e n=>?_⟩
       ·rw [aq,hs,eJ,<-e1n];rfl
       ·rw [au n];exact lb _ _ e n
      ·rw [eP uE] at fc;refine ix uE ⟨_,_,rfl,?_,lb⟩;rw [gw fc];exact l8
   rintro aa CC ⟨v7',v8',rfl,l8,lb⟩;rw [lS,a7,L1] at l8;refine c2 _ _ ?_;clear c2 N2;have xn:aM H9 CC:=fun b u e=>lb _ _ (Bc _ _ e) (aO e uN);have Ca:=sI.same xn;obtain ⟨Md,Kx⟩:=Ca.ins;have Cq:=xn _ _ Mb;have FO:=WO ae ho hJ (pZ y oP qJ be ow ca N rF L2 (M2.filter (gu (bR rF))) c (i:Int)) rfl rfl rfl hc;refine ⟨_,rfl,.inl ⟨rfl,_,ay.of Cq⟩,_,rfl,y,Md,_,rfl,Kx,by with_unfolding_all rfl,_,rfl,pZ y oP qJ be ow ca N rF L2 (M2.filter (gu (bR rF))) c (i:Int),fl,gQ c (i:Int) outs rF rF.length,rfl,Ca,KU hc,l8,y9,FO,⟨kvs,up lb be8⟩,n1,Kg,n3,fun l3 G' r2 j yi Bp el2 er es B_=>?_⟩;have Fc:∀m∈r2,m<c.length:=fun m hm=>by
    rw [er] at hm;have h0:=HD.gN _ _ m hm;have h0:=Nr m (List.mem_filter.mp h0).1;lia
   have Cp:=Bp _ _ Cq dly Ct;refine ⟨dl,_,_,rfl,rfl,Cp,fi (by lia),?_⟩;have ei:((i+1:Nat):Int)=(i:Int)+1:=by lia
   have Fd:∀x∈gQ c (i:Int) outs rF rF.length,x<c.length:=fun x hx=>by rw [hc];exact Nm ae hx
   have Ki:∀x∈r2,x<(HD.ag (gQ c (i:Int) outs rF rF.length) (i:Int) c).length:=fun x hx=>by rw [HD.bg];exact Fc x hx
   have O:HK.Out (bR rF) (HD.cm c) (i:Int) (fun x=>x∈gQ c (i:Int) outs rF rF.length):=HL FO;have R:HK.jm (bR rF) (sX st) (Aq st) N (HD.cm (HD.ag (gQ c (i:Int) outs rF rF.length) (i:Int) c)) (i:Int) (fun x=>x∈r2):=V4 ae BY FD er es;rw [<-HG Fd] at R;have nx:=uM.next hZ FH (Int.natCast_nonneg i) O R;rw [HG Fd,HG Ki] at nx;refine ⟨HD.ag r2 (i:Int) (HD.ag (gQ c (i:Int) outs rF rF.length) (i:Int) c),_,_,_,_,_,_,rfl,?_,fun b u e RI RQ RO=>?_,aq,by rw [gR,ym];rfl,?_,?_,?_⟩
   ·rw [ei];exact WT (a:=pZ y oP qJ be ow ca N rF L2 (M2.filter (gu (bR rF))) (HD.ag r2 (i:Int) (HD.ag (gQ c (i:Int) outs rF rF.length) (i:Int) c)) ((i:Int)+1)) B_ Cp (fun b u e n=>by rw [au n];exact e) (aO z1 vZ) (aO z2 vZ) (aO z3 vZ) Ct.symm
   ·rw [au RO];have e9:=k9 _ _ e RI RQ RO;exact Bp _ _ (xn _ _ e9) RI RQ
   ·rw [ei];exact Jt.next ae ho hJ Fc hc
   ·rw [HD.bg,HD.bg];exact hc
   ·rw [ei];exact nx
  ·rintro aa H9 ⟨c,ds,v4,v5,v6,v7,v8,rfl,sI,k9,Mb,ym,hJ,hc,uM⟩;have ea:(((la+1).toNat:Nat):Int)=la+1:=by lia
   rw [ea] at sI uM;refine c1 _ _ ⟨_,rfl,?_⟩;exact k _ c H9 sI (fun b u e n1 n2=>k9 _ _ (s0 _ _ e) n1 n2 (aO e vZ)) hc uM
section
variable {n:Nat} {la:Int} {T F:List (List Int)} {Te:Nat}
theorem ZA (ae:di (n:Int) la T F) (hE:Ak n (bR F) (nz n la T F) Te) (bQ:(jz n la T F Te).bar=none):HK.Cl (bR F) (sX (jz n la T F Te)) (Aq (jz n la T F Te)):=
 MU.Fin.cl (D:=fun x=>x∈(iM (n:Int) la T F).map iT) ⟨ae.pO,(DT ae).good,fun t ht=>(hE.first t ht).1,hE.end_.elim id fun z=>absurd bQ z⟩ bQ (MU.PJ (MU.QA _ _ MU.Yn fun _ h=>h) Te) fun x hx=>(yS ae.jV x hx).2.2
theorem IT (ae:di (n:Int) la T F) (h:r∈iM (n:Int) la T F):∃z,sX (jz n la T F Te) (iT r).a (iT r).b=some z/\z<=(iT r).v:=by
 obtain ⟨a,b,v,rfl,h1,h2,h3,h4,h5⟩:=ae.jV r h;have dJ:a.toNat≠b.toNat:=by lia
 obtain ⟨u,e1,e2⟩:=MU.EJ _ MU.empty _ (gF.mpr ⟨_,h,rfl⟩) (show (iT [a,b,v]).a≠(iT [a,b,v]).b from dJ);obtain ⟨u',e3,e4⟩:=(MU.tI (n:=n) (F:=bR F) (s:=nz n la T F) (dM Te)).2 (true,a.toNat,b.toNat) u dJ e1;refine ⟨u',e3,?_⟩;unfold MU.eA at e2 e4;have e2:¬if true=true then v<u else u<v:=e2;have e4:¬if true=true then u<u' else u'<u:=e4;rw [if_pos rfl] at e2 e4;show u'<=v;lia
theorem Wf (ae:di (n:Int) la T F) (bQ:(jz n la T F Te).bar=none):HK.Zero (bR F) (sX (jz n la T F Te)) n la:=by
 have n1:=ae.n1;have good:MU.cy n (jz n la T F Te):=MU.wV ae.pO (DT ae).good Te;have room:∀{y:Nat},y<n->y≠0->[0,(y:Int),la]∈iM (n:Int) la T F/\[(y:Int),0,0]∈iM (n:Int) la T F:=fun {y} h1 h2=>by
  obtain ⟨m1,m2⟩:=IA (la:=la) (i:=y-1) (k:=((n:Int)-1).toNat) (by omega);rw [show ((y-1:Nat):Int)+1=(y:Int) by lia] at m1 m2;exact ⟨lV _ (lV _ m1),lV _ (lV _ m2)⟩
 refine ⟨IU fun r hr z=>?_,by lia,fun {a b v} h=>(MU.rY good bQ h).2,fun {y} h1 h2=>?_,fun {y} h1 h2=>?_⟩
 ·obtain ⟨a,b,l,m,rfl,_,_,h3,_⟩:=ae.f r hr;have z:some b=some ((0:Nat):Int):=z;cases z;exact absurd h3 (by exact Int.not_lt.mpr (Int.le_refl ↑0))
 ·obtain ⟨z,e1,e2⟩:=IT (Te:=Te) ae (room h1 h2).2;exact ⟨z,e1,e2⟩
 ·obtain ⟨z,e1,e2⟩:=IT (Te:=Te) ae (room h1 h2).1;exact ⟨z,e1,e2⟩
end
theorem di.idx {N:Nat} {la:Int} {T F:List (List Int)} (h:di (N:Int) la T F):Idx N (iM (N:Int) la T F):=fun r hr=>by
 obtain ⟨a,b,v,rfl,h1,h2,h3,h4,_⟩:=h.jV r hr;exact ⟨a.toNat,b.toNat,v,by rw [ot h1,ot h3],by lia,by lia⟩
theorem VR {N:Nat} {rows:List (List Int)} (h:Idx N rows) {i:Nat} {r:List Int} (e:rows[i]?=some r):∃(a b:Nat) (m:Int),r=[(a:Int),(b:Int),m]/\a<N/\b<N/\(rows.map vb)[i]?=some (a,b,m):=by
 obtain ⟨a,b,m,rfl,ha,hb⟩:=h r (dZ e);refine ⟨a,b,m,rfl,ha,hb,?_⟩;rw [dt,e];show some ((a:Int).toNat,(b:Int).toNat,m)=_;rw [lS,lS]
noncomputable abbrev RX:List Str:=["_law_one","_law_other","_law_most","_law_times"]
theorem Z7:cF ["_law_w","_law_times"] ["_law_w","_law_times"] (aZ fk):=cT
theorem Zd:i7 (aZ fk) ["_law_w","_law_times"] (kh [(".0",.local),("_law_one",.local),("_law_other",.local),("_law_most",.local),("_law_times",.free)]) RX [none,none,none,some 1]:=kj
theorem Hl:RX.Nodup:=by decide+kernel
theorem oI (F:Fn K mg "_law_keeps" fk ["_law_w","_law_times"] f fd) (FB:Fn K mg "_law_bounds" fJ ["_law_w"] fB sM) (GB:aw P w K mg base ax 1 fB sM ["_law_w"] PM):
 aw P w K mg base ax 2 f fd ["_law_w","_law_times"] Pf:=by
 refine F.F.ok Z7 (fun _ _ _ _ h=>?_) fun _ A _ s H _ Q E hr h=>?_
 ·obtain ⟨wp,_,_,tl,_,_,_,_,_,rfl,_⟩:=h;rfl
 ·obtain ⟨wp,ta,fa,tl,N,la,rT,rF,t,rfl,D0,ae,ht,k⟩:=h;have n1:=ae.n1;refine ⟨_,cC (d0 (cV De (cW df (pv 1) aH (fun _ _=>rfl)) aH) (az (c7 rP)) d9)
   (az (c7 (kL (UZ hr.units) (o5 rfl (gA (cO GB hr FB (cw (pv 0)))) Zd
    (fun cl ex s0 H0=>⟨A7 (K:=K) (n:=3) rfl rfl (eL (cj 0 Hl) (eL (cj 1 Hl) (eL (cj 2 Hl) qg))),
     pA (cV yW (cG iO (cW df (pv 3) (pv 1) (fun _ _=>rfl)) (cW df (pv 3) (pv 0) (fun _ _=>rfl))) (pv 2)),aH⟩)) (jN nH)))),?_⟩
  have C0:g_ (pF N t) 0=some (.int (t 0)):=vd (i:=0) (by lia);refine ⟨_,rfl,lM ht C0 ⟨rfl,_,rfl,?_⟩⟩;refine kK (fun hc=>?_) (fun hc=>?_)
  ·refine k false H (aM.refl _) ⟨nofun,fun z=>?_⟩;have:¬t 0=0:=by simpa using hc
   exact absurd z.1 this
  ·have t0:t 0=0:=by simpa using hc
   refine ⟨_,rfl,wp,ta,fa,_,la,rT,rF,rfl,D0,ae,fun bl H1 hbl s1 R1=>⟨bl,rfl,?_,fun Da dh=>?_⟩⟩
   ·obtain ⟨ps,R⟩:=R1;exact ⟨_,ay.of R.1⟩
   obtain ⟨ps,R⟩:=R1;have hlen:(iM (N:Int) la rT rF).length<=100:=by
    unfold iM;rw [gR,gR,vq,tK ae.om,tK ae.l7];have:=ae.tl;have:=ae.fl;have:=ae.n2;lia
   have hix:=ae.idx;generalize iM (N:Int) la rT rF=rows at*;refine o7 (xs:=ps.map V.ref) (fun j aa H'=>∃v0 v1 v2 c,aa=[v0,v1,v2,some (.ref tl)]/\H' Da=some (.lst ((List.replicate c (1:Int)).map V.int))/\c<=j/\(c=0↔∀x∈(rows.map vb).take j,t x.2.1-t x.1<=x.2.2)/\aM H1 H') ?_ ?_ ?_ ?_
   ·exact ⟨none,none,none,0,rfl,aq,aF _,⟨fun _ x hx=>(nomatch hx),fun _=>rfl⟩,bj dh⟩
   ·rintro j aa H2 _ ⟨v0,v1,v2,c,rfl,_,_,_,s2⟩;exact ay.of (s2 _ _ R.1)
   ·rintro j x aa H2 hx ⟨v0,v1,v2,c,rfl,e2,hcj,oT,s2⟩;obtain ⟨q,r,rfl,hq,bo,jq⟩:=R.get hx;obtain ⟨a',b',m,e4,F8,gk,hBj⟩:=VR hix bo;subst e4;have hj:j<rows.length:=(ff.mp bo).1;have Bw:=s2 _ _ (s1 _ _ ht);refine ⟨q,_,rfl,dz.of (s2 _ _ jq),rfl,_,_,rfl,_,_,rfl,_,_,rfl,rfl,?_⟩;refine ⟨_,rfl,pd rfl Bw (vd gk) ⟨_,rfl,pd rfl Bw (vd F8) ⟨_,_,rfl,rfl,_,rfl,_,_,rfl,rfl,_,rfl,?_⟩⟩⟩;have tk:(rows.map vb).take (j+1)=(rows.map vb).take j++[(a',b',m)]:=by rw [jC,hBj];rfl
    rw [tk];refine kK (fun hc=>?_) (fun hc=>?_)
    ·have pM:m<t b'-t a':=by simpa using hc
     refine ⟨_,e2,?_,_,_,_,c+1,rfl,?_,by lia,⟨fun z=>by lia,fun z=>?_⟩,fun b o e=>?_⟩
     ·rw [a7,GJ];exact fi (by lia)
     ·rw [aq,List.replicate_succ',eJ];rfl
     ·have:=z (a',b',m) (ng _ iu);have h2:t b'-t a'<=m:=this;lia
     ·rw [au (aO e dh)];exact s2 _ _ e
    ·have pM:¬m<t b'-t a':=by simpa using hc
     refine ⟨_,_,_,c,rfl,e2,by exact Nat.le.step hcj,⟨fun z x hx=>?_,fun z=>oT.mpr fun x hx=>z x (lV _ hx)⟩,s2⟩;rcases kJ.mp hx with y | y
     ·exact oT.mp z x y
     ·rw [jw.mp y];show t b'-t a'<=m;lia
   ·rintro aa H2 ⟨v0,v1,v2,c,rfl,e2,_,oT,s2⟩;have hBl:(rows.map vb).take (ps.map V.ref).length=rows.map vb:=by
     rw [a7,R.len,<-a7 (f:=vb)];exact ir
    rw [hBl] at oT;refine ⟨dM _,fun q hq=>⟨Da,q,List.replicate c 1,[],rfl,rfl,ay.of ?_,ay.of aq,?_⟩⟩
    ·exact bj hq _ _ e2
    ·refine k _ _ ((s1.trans s2).trans (bj hq)) ?_;show decide (List.replicate c (1:Int)=[])=true↔_;rw [ju,List.replicate_eq_nil_iff];exact ⟨fun z=>⟨t0,oT.mp z⟩,fun z=>oT.mpr z.2⟩
end Y0
namespace L2
open PySem PySem.Spec PyProof.Rows
section
variable {X:Cx}
noncomputable def Vc:R2:=fun x y H Q=>∃(p q:Addr) (xs:List V),x=.ref p/\y=.ref q/\H p=some (.lst xs)/\H q=some (.lst [])/\Q (.bl xs.isEmpty) H
theorem W7 (hu:X.A.units+64<cLine):fg X (compareOp .Eq) Vc:=by
 intro pins s σ H x y v u Q I rx ry h;obtain ⟨p,q,xs,rfl,rfl,h1,h2,hq⟩:=h;cases rx;cases ry;obtain ⟨us,r1,p1,_⟩:=I.list (ay.of h1);obtain ⟨vs,r2,p2,_⟩:=I.list (ay.of h2);have l1:=r1.length;have l2:=r2.length;have v0:vs=[]:=Ts.mp l2.symm;subst v0
 cases xs with
 | nil=>
  have u0:us=[]:=Ts.mp l1.symm;subst u0;exact SeqAt.eq_listAt (e:=fun _=>true) p1.isList p2.isList rfl (by lia) (fun j h1 _=>absurd h1 (sQ _)) ⟨.bl _,H,I,rfl,hq⟩
 | cons a t=>
  refine SeqAt.eq_list_lengthsAt p1.isList p2.isList ?_ (by lia) ⟨.bl _,H,I,rfl,hq⟩;rw [iw,<-l1];rfl
end
end L2
namespace Y0
open PySem L2
seal L2.PE L2.PA L2.PT L2.PS L2.gS L2.PG L2.lX L2.PI L2.PO
noncomputable def vH (K:aL):Sp:=fun vs H Q _=>∃a ns,vs=[.ref a]/\qf K H a ns/\∀H',Q (.bl true) H'
theorem Xd (hc:c.length=N) (h:∀y,y<N->∃t,HD.cm c y=some t):c.map ov=pF N fun y=>(HD.cm c y).getD 0:=by
 apply List.ext_getElem?;intro i
 by_cases hi:i<N
 ·rw [NG hi,dt];obtain ⟨t,ht⟩:=h i hi;have h1:=iR (show i<c.length by lia);rw [ht];unfold HD.cm at ht;rw [h1] at ht ⊢;have ht:c[i]'(by lia)=some t:=ht;rw [ht];rfl
 ·rw [List.getElem?_eq_none (by rw [a7];lia),List.getElem?_eq_none (by rw [V2];exact lU hi)]
theorem V5:pG .bf (pF N t)=false:=by
 unfold pG pF;rw [List.any_map];exact List.any_eq_false.mpr fun x _=>eR
theorem WQ:(pF N t).all jy=true:=by
 unfold pF;rw [List.all_map];exact rD.mpr fun _ _=>rfl
noncomputable abbrev Kh:List Str:=["_law_script","_law_d","_law_w","_law_web_here","_law_found","_law_hand","_law_times","_law_one","_law_other","_law_most","_law_moment","_law_end","_law_long","_law_falls_here"]
theorem nk:cF Kh ["_law_script"] (aZ qu):=cT
theorem Y8:i7 (aZ qu) Kh (kh [(".0",.local),("_law_fall",.local),("_law_next",.globalImplicit),("_law_d",.free)]) ["_law_fall","_law_d"] [none,some 1]:=kj
theorem YJ:(["_law_fall","_law_d"]:List Str).Nodup:=by decide+kernel
theorem ZC:i7 (aZ qu) Kh (kh [(".0",.local),("_law_fall",.local),("_law_end",.free)]) ["_law_fall","_law_end"] [none,some 11]:=kj
theorem UI:(["_law_fall","_law_end"]:List Str).Nodup:=by decide+kernel
theorem xB (Fn0:Fn K mg "law" qu ["_law_script"] f fd) (hint:mg "int"=none) (Lb:mg "min"=none) (TC:o_ K mg C) (TH:ou K mg CH) (gH:mg "Hand"=some (.ref CH))
 (FW:Fn K mg "_law_web" qr ["_law_d","_law_most","_law_last","_law_wide"] fW wk) (GW:aw P w K mg base ax 3 fW wk ["_law_d","_law_most","_law_last","_law_wide"] (MG K))
 (M:Mk K C fI) (bI:dP K wo ["self","many","last","ties","falls"] []) (GI:aw P w K mg base ax 3 fI wo ["self","many","last","ties","falls"] (MW C))
 (FK:Fn K mg "kept" f7 ["web"] fK Cj) (GK:aw P w K mg base ax 6 fK Cj ["web"] (HI C))
 (MH:Mk K CH fH) (bH:dP K fdH ["self","web"] []) (GH:aw P w K mg base ax 7 fH fdH ["self","web"] (NY CH C))
 (FN:Fn K mg "_law_next" iY ["_law_dice","_law_many"] fN pP) (GN:aw P w K mg base ax 1 fN pP ["_law_dice","_law_many"] (Ay K))
 (mT:gq K CH "times" fT) (bT:dP K kI ["self"] []) (GT:aw P w K mg base ax 1 fT kI ["self"] (HZ CH))
 (FP:Fn K mg "_law_played" fC ["_law_hand","_law_w","_law_out"] fP LX) (GP:aw P w K mg base ax 5 fP LX ["_law_hand","_law_w","_law_out"] (Pg CH))
 (FL:Fn K mg "_law_keeps" fk ["_law_w","_law_times"] fL Ci) (GL:aw P w K mg base ax 2 fL Ci ["_law_w","_law_times"] Pf):
 aw P w K mg base ax 9 f fd ["_law_script"] (vH K):=by
 refine Fn0.F.ok nk (fun _ _ _ _ h=>?_) fun _ A _ s H _ Q E hr h=>?_
 ·obtain ⟨a,ns,rfl,_⟩:=h;rfl
 ·obtain ⟨a,ns,rfl,hS0,k⟩:=h;have gE:dn 1 _:=hr.mono (by decide);have i9:dn 2 _:=hr.mono (by decide);have KJ:dn 3 _:=hr.mono (by decide);have hr4:dn 4 _:=hr.mono (by decide);have So:dn 5 _:=hr.mono (by decide);have hr6:dn 6 _:=hr.mono (by decide);refine ⟨_,aY (tj (i:=1) nk.nd rfl (Or.inr rfl) (jN (cf (pv 0) aH)))
   (aY (cI 2 nk.nd (cO GW KJ FW (tw (pv 1) (tw aH (tw
    (cW df (jN (cf aH aH)) (vo Xc (by rfl) hint (by decide+kernel) (cw (kL fw (cO GN gE FN (cf (pv 1) aH)) aH))) (fun _ _=>rfl)) (cw aH))))))
   (aY (cI 3 nk.nd (HV M GI hr4 rfl TC.mgC bI .nil ee (pD (aE (pv 2)) (aE (pv 2)) (aE (pv 2)) (aE (pv 2)))))
   (aY (cI 4 nk.nd (cO GK hr6 FK (cw (pv 3))))
   (aY (d0 (cV fw (aE (pv 4)) fh) (az (c7 rP)) d9)
   (aY (cI 5 nk.nd (HV MH GH hr rfl gH bH .nil ee (cw (pv 3))))
   (aY (gB (cO GP So FP (gD (pv 5) (pv 2) (o5 rfl (gA (aE (pv 2))) Y8 (fun cl ex s0 H0=>⟨cj 0 YJ,vy,cG iE (aE (pv 0)) (cO GN gE FN (cf (pv 1) (cG iE (cG iO (aE (pv 0)) (aE (pv 0))) aH)))⟩)))))
   (aY (cI 6 nk.nd (vw (pv 5) TH.cl mT GT gE bT .nil ee))
   (aY (d0 (PW.pt (rQ (zg DZ j7 (pv 6) (by with_unfolding_all rfl)) (vj (rS (rV (cO GL i9 FL (cf (pv 2) (pv 6)))))))) (az (c7 rP)) d9)
   (aY (iP PassesOwn.never rfl (gA (aE (pv 4))) (A7 (K:=K) (n:=3) rfl rfl (eL (cj 7 nk.nd) (eL (cj 8 nk.nd) (eL (cj 9 nk.nd) qg))))
    (az (d0 (cV yW (cG iO (cW df (pv 6) (pv 8) (fun _ _=>rfl)) (cW df (pv 6) (pv 7) (fun _ _=>rfl))) (pv 9)) (az (c7 rP)) d9)))
   (aY (iP PassesOwn.never rfl (gA (aE (pv 4))) (A7 (K:=K) (n:=3) rfl rfl (eL (cj 10 nk.nd) (eL (OD (i:=11) nk.nd rfl (Or.inr rfl)) (eL (cj 12 nk.nd) qg))))
    (aY (wR (i:=13) nk.nd rfl rfl rfl (gA (aE (pv 2))) ZC (fun cl ex s0 H0=>⟨cj 0 UI,pA (cV fw (aE (pv 0)) (pv 1)),pv 0⟩))
    (aY (d0 (PW.pt (rQ (cV (W7 hr.units) (pv 13) (jN nH)) (vj (rS (DF sZ ko (aE (cW df (pv 13) aH (fun _ _=>rfl))) (pv 12) (aE (cW df (pv 13) aH (fun _ _=>rfl)))))))) (az (c7 rP)) d9)
    (az (d0 (cV sZ (cW df (pv 6) (pv 10) (fun _ _=>rfl)) (kE (zk rfl) (by rfl) Lb (by decide+kernel) (cf (cW df (pv 6) (pv 11) (fun _ _=>rfl)) (cG iE (cW df (pv 6) (aE (cW df (pv 13) aH (fun _ _=>rfl))) (fun _ _=>rfl)) (pv 12))))) (az (c7 rP)) d9)))))
   (az (c7 rP)))))))))))),?_⟩
  refine fun N1 c1=>⟨_,rfl,eW rfl,fun d hd=>c1 _ _ ?_⟩;have D0:eZ K a (upd H d (.lst [.ref a,.int 0])) d:=⟨⟨0,aq⟩,⟨ns,hS0.same (bj hd)⟩⟩;generalize upd H d (.lst [.ref a,.int 0])=H0' at*;clear c1 N1;refine fun N1 c1=>⟨_,rfl,eW rfl,fun ll qY=>?_⟩;have lld:ll≠d:=fun z=>by
   obtain ⟨o,q⟩:=D0.there;rw [<-z,qY] at q;cases q
  refine ⟨_,rfl,d,a,4,rfl,D0.new qY,by decide,fun r0 H1 _ _ D1 k1=>⟨rfl,.inr ⟨_,rfl,?_⟩⟩⟩;have e1:=k1 _ _ (aq (H:=H0') (a:=ll) (o:=.lst [.int 20,.int 60])) lld;obtain ⟨lz,Le,Ld,gb⟩:∃lz:Int,1<=lz/\lz<=60/\g_ [V.int 20,V.int 60] (if decide (V.int r0=V.int 3)=true then 1 else 0)=some (.int lz):=by
   by_cases e:r0=3
   ·exact ⟨60,by decide,by decide,by subst e;rfl⟩
   ·refine ⟨20,by decide,by decide,?_⟩;have:decide (V.int r0=V.int 3)=false:=eP fun z=>e (V.int.inj z);rw [this];rfl
  refine ⟨ll,_,_,_,rfl,rfl,e1,gb,?_⟩;refine ⟨d,a,8,lz,8,rfl,D1,by decide,by decide,Le,Ld,by decide,by decide,fun wp ta fa n la rT rF H2 rn RT RF ae n2 nm lm D2 k2 tad fad m_=>c1 _ _ ?_⟩;clear c1 N1;obtain ⟨N,rfl⟩:∃N:Nat,n=N:=⟨n.toNat,by lia⟩;refine fun N1 c1=>⟨_,rfl,a9 rn rfl ⟨_,rfl,a9 rn rfl ⟨_,rfl,a9 rn rfl ⟨_,rfl,a9 rn rfl fun x dx nx ndx nex=>?_⟩⟩⟩⟩;have s3:aM H2 (upd (upd H2 dx (.own x)) x (.ins C dx [])):=fun b o e=>by
   rw [au (aO e nx),au (aO e ndx)];exact e
  refine ⟨x,dx,_,la,ta,fa,rT,rF,rfl,aq,RT.same s3,RF.same s3,ae,fun H4 W4 k4=>⟨rfl,c1 _ _ ?_⟩⟩;clear c1 N1;have s4:aM H2 H4:=fun b o e=>k4 b o (s3 b o e) (aO e nx);have DA4:tF H4 wp ta fa (N:Int) la rT rF:=tF.same ⟨rn,RT,RF⟩ s4;have D4:=D2.same s4;obtain ⟨Te,hE⟩:=XF ae (by lia);have n8:=ae.n2;have l1:=ae.l1;have good:MU.cy N (jz N la rT rF Te):=MU.wV ae.pO (DT ae).good Te;refine fun N1 c1=>⟨_,rfl,x,N,la,rT,rF,Te,rfl,W4,ae,hE,fun r H5 So s5=>⟨fun b hb hP=>c1 _ _ ?_,fun bQ hRu=>c1 _ _ ?_⟩⟩
  ·clear c1 N1;obtain ⟨l,nn,ps,g1,_⟩:=hP;exact fun N2 c2=>⟨_,rfl,a9 g1 rfl ⟨rfl,_,rfl,pk (by decide+kernel) (k _)⟩⟩
  clear c1 N1;have D5:=D4.same s5;have W5:=W4.same s5;have G_:=DA4.same s5;obtain ⟨lt,lw,ps,qs,L,MM,g1,g2,g3,hL,g4,g5,hM⟩:=hRu;refine fun N1 c1=>⟨_,rfl,a9 g1 rfl ⟨rfl,_,rfl,g9 (by decide+kernel) (c1 _ _ ?_)⟩⟩;clear c1 N1;refine fun N1 c1=>⟨_,rfl,fun y dy ny ndy ney=>?_⟩;have s6:aM H5 (upd (upd H5 dy (.own y)) y (.ins CH dy [])):=fun b o e=>by
   rw [au (aO e ny),au (aO e ndy)];exact e
  refine ⟨y,x,dy,N,la,rT,rF,Te,rfl,aq,W5.same s6,ae,hE,bQ,fun H7 oP qJ be ow ca L2 M2 hA BY FD yp gY n1 Kg n3 kp=>⟨rfl,c1 _ _ ?_⟩⟩;clear c1 N1;have s7:aM H5 H7:=fun b o e=>kp b o (s6 b o e) (aO e ny);have yo:H5 ca=none:=s6.free yp;have D7:=D5.same s7;obtain ⟨fs,je⟩:=G_.f;have hy7:∃dx fs,H7 y=some (.ins CH dx fs):=by obtain ⟨dx,h⟩:=hA.ins;exact ⟨_,_,h⟩
  have yA:fa≠ca:=aO je.1 yo;refine fun N1 c1=>⟨_,rfl,_,rfl,_,rfl,a9 (s7 _ _ G_.tup) rfl ⟨fa,rfl,⟨_,ay.of (s7 _ _ je.1)⟩,fun Do BZ=>?_⟩⟩;obtain ⟨_,Fy⟩:=id D7.at_;have TB:Do≠d:=(aO Fy BZ).symm;refine o7 (K:=K) (a:=fa) (xs:=fs.map V.ref) (fun j aa H'=>∃v,∃outs:List Int,aa=[v,some (.ref d)]/\H' Do=some (.lst (outs.map V.int))/\outs.length=j/\(∀k b e l m,k<j->rF[k]?=some [b,e,l,m]->l<=outs.getD k 0/\outs.getD k 0<=m)/\eZ K a H' d/\cB d H7 H') ⟨none,[],rfl,aq,rfl,(fun k _ _ _ _ h=>absurd h (sQ _)),D7.new BZ,(bj BZ).keep⟩ ?_ ?_ ?_
  ·rintro j aa H8 _ ⟨v,outs,rfl,_,_,_,D8,k8⟩;exact ay.of (k8 _ _ (s7 _ _ je.1) fad)
  ·rintro j z aa H8 hz ⟨v,outs,rfl,e8,ye,uD,D8,k8⟩;rw [dt] at hz
   cases hq:fs[j]? with
   | none=>rw [hq] at hz;cases hz
   | some q=>
    rw [hq] at hz;cases hz;obtain ⟨row,lq,Sq⟩:=av je.2 hq;have hj:=(ff.mp lq).1;obtain ⟨b1,e1,l1,m1,er,_,_,_,_,_,qZ,hlm,_⟩:=ae.f row (dZ lq);subst er;have Bz:=k8 _ _ (s7 _ _ Sq) (aQ (s7 _ _ Sq) Fy nofun);refine ⟨_,rfl,a9 Bz rfl ⟨_,rfl,_,rfl,a9 Bz rfl ⟨_,rfl,a9 Bz rfl ⟨_,_,rfl,rfl,_,_,rfl,rfl,d,a,_,rfl,D8,by lia,fun e H9 e0 e1' D9 k9=>⟨_,_,rfl,rfl,?_⟩⟩⟩⟩⟩;have e9:=k9 _ _ e8 TB;have fl:=ae.fl;refine ⟨_,e9,?_,_,outs++[l1+e],rfl,?_,by rw [gR,ye];rfl,fun k b e' l m hk hr=>?_,D9.upd e9 TB,fun b o eb hb=>?_⟩
    ·rw [a7];exact fi (by lia)
    ·rw [aq,eJ];rfl
    ·by_cases c:k=j
     ·subst c;rw [lq] at hr;cases hr;have:(outs++[l1+e]).getD k 0=l1+e:=by
       rw [uQ,oY (by lia),ye,Nat.sub_self];rfl
      rw [this];lia
     ·have:(outs++[l1+e]).getD k 0=outs.getD k 0:=by
       rw [uQ,uQ,pR (by lia)]
      rw [this];exact uD k b e' l m (by lia) hr
    ·rw [au (aO eb BZ)];exact k9 _ _ (k8 _ _ eb hb) hb
  rintro aa H8 ⟨v,outs,rfl,e8,ye,uD,D8,k8⟩;rw [a7,Paired.length je.2] at ye uD;have ho:Dk rF outs:=⟨ye,fun k b e l m hr=>uD k b e l m (ff.mp hr).1 hr⟩;have sJ:(pZ y oP qJ be ow ca N rF L2 (M2.filter (gu (bR rF))) (List.replicate N none) 0).At CH H8:=Xn (a:=pZ y oP qJ be ow ca N rF L2 (M2.filter (gu (bR rF))) (List.replicate N none) 0) hA D7 k8;have kt:∀{b xs},H5 b=some (.tup xs)->H8 b=some (.tup xs)/\b≠y/\b≠ca:=fun e=>⟨k8 _ _ (s7 _ _ e) (aQ (s7 _ _ e) Fy nofun),aO e ny,aO e yo⟩;have kr:∀{b:Addr} {qs:List Addr},H5 b=some (.lst (qs.map V.ref))->H8 b=some (.lst (qs.map V.ref))/\b≠y/\b≠ca:=fun e=>⟨k8 _ _ (s7 _ _ e) (HX D7 (s7 _ _ e)),aO e ny,aO e yo⟩;obtain ⟨kvs,BV⟩:=gY;have uK:=k8 _ _ BV (aQ BV Fy nofun);have yK:Do≠ca:=(aO hA.dX BZ).symm;obtain ⟨ts,zG⟩:=G_.t;have yL:∀{H':Hp},Am y ca H8 H'->tF H' wp ta fa (N:Int) la rT rF:=fun {H'} kk=>
   have tp:∀{b xs},H5 b=some (.tup xs)->H' b=some (.tup xs):=fun e=>kk _ _ (kt e).1 (kt e).2.1 (kt e).2.2;have rp:∀{b:Addr} {qs:List Addr},H5 b=some (.lst (qs.map V.ref))->H' b=some (.lst (qs.map V.ref)):=fun e=>kk _ _ (kr e).1 (kr e).2.1 (kr e).2.2
   ⟨tp G_.tup,⟨ts,rp zG.1,dN zG.2 fun q r e=>tp e⟩,⟨fs,rp je.1,dN je.2 fun q r e=>tp e⟩⟩
  have FH:=ZA ae hE bQ;have hZ:=Wf ae bQ;refine ⟨y,oP,qJ,be,ow,ca,wp,ta,fa,Do,N,la,rT,rF,outs,jz N la rT rF Te,L2,M2,rfl,yL fun b u e _ _=>e,ae,e8,ho,good,BY,FD,FH,hZ,sJ,⟨kvs,uK⟩,n1,Kg,n3,yA,yK,fun l c H9 sI k9 hc uM=>c1 _ _ ?_⟩;clear c1 N1;obtain ⟨F_,Kw⟩:=sI.ins;refine fun N1 c1=>⟨_,rfl,y,F_,_,rfl,Kw,by with_unfolding_all rfl,pZ y oP qJ be ow ca N rF L2 (M2.filter (gu (bR rF))) c (la+1),rfl,sI,fun tl nh xT z8 rq=>c1 _ _ ?_⟩;clear c1 N1;have done:∀y,y<N->∃t,HD.cm c y=some t:=fun y hy=>by
   obtain ⟨t,h,_⟩:=uM.done hZ FH (by exact gm l1) hy;exact ⟨t,h⟩
  have rq:nh tl=some (.lst (c.map ov)):=rq;rw [Xd hc done] at rq;have tm:∀{y},y<N->HD.cm c y=some ((HD.cm c y).getD 0):=fun {y} hy=>by
   obtain ⟨t,h⟩:=done y hy;rw [h];rfl
  have t0:(HD.cm c 0).getD 0=0:=by rw [uM.zero (by lia)];rfl
  generalize hT:(fun y=>(HD.cm c y).getD 0)=t at*;have tm:∀{y},y<N->HD.cm c y=some (t y):=fun {y} hy=>by rw [<-hT];exact tm hy
  have t0:t 0=0:=by rw [<-hT];exact t0
  have Bq:Am y ca H8 nh:=fun b u e n1 n2=>z8 _ _ (k9 _ _ e n1 n2);have tie:∀{p q:Nat} {v:Int},sX (jz N la rT rF Te) p q=some v->t q<=t p+v:=fun {p q v} h=>by
   obtain ⟨h1,h2⟩:=hZ.lt h;exact uM.inv.K (tm h1) (tm h2) h
  refine fun N1 c1=>⟨_,rfl,tl,_,rfl,.inl (ay.of rq),rfl,WQ,_,rfl,g9 V5 ⟨_,rfl,_,rfl,wp,ta,fa,tl,N,la,rT,rF,t,rfl,yL Bq,ae,rq,fun b rK tR hb=>?_⟩⟩;have hb:b=true:=hb.mpr ⟨t0,fun x hx=>by
   obtain ⟨r,bo,rfl⟩:=gF.mp hx;obtain ⟨z,h1,h2⟩:=IT (Te:=Te) ae bo;obtain ⟨p,q,v,rfl,_⟩:=ae.jV r bo;have:=tie h1;show t q.toNat-t p.toNat<=v;have h2:z<=v:=h2;have this:t q.toNat<=t p.toNat+z:=this;lia⟩
  subst hb;refine ⟨_,rfl,dO (c1 _ _ ?_)⟩;clear c1 N1;have xM:Am y ca H8 rK:=fun b u e n1 n2=>tR _ _ (Bq _ _ e n1 n2);have xh:=tR _ _ rq;have Mw:=yL xM;have tp:∀{b xs},H5 b=some (.tup xs)->rK b=some (.tup xs):=fun e=>xM _ _ (kt e).1 (kt e).2.1 (kt e).2.2;have rp:∀{b:Addr} {qs:List Addr},H5 b=some (.lst (qs.map V.ref))->rK b=some (.lst (qs.map V.ref)):=fun e=>xM _ _ (kr e).1 (kr e).2.1 (kr e).2.2;refine fun N1 c1=>⟨_,rfl,a9 (tp g1) rfl ⟨lt,rfl,⟨_,ay.of (rp g2)⟩,?_⟩⟩;refine kO (K:=K) (a:=lt) (xs:=ps.map V.ref) (fun i aa H'=>∃v7 v8 v9,aa=[some (.ref a),some (.ref d),some (.ref wp),some (.ref x),some (.ref r),some (.ref y),some (.ref tl),v7,v8,v9,none,none,none,none]/\H'=rK) ⟨none,none,none,rfl,rfl⟩ ?_ ?_ ?_
  ·rintro i aa H' _ ⟨v7,v8,v9,rfl,rfl⟩;exact ay.of (rp g2)
  ·rintro i z aa H' hz ⟨v7,v8,v9,rfl,rfl⟩;rw [dt] at hz
   cases hq:ps[i]? with
   | none=>rw [hq] at hz;cases hz
   | some q=>
    rw [hq] at hz;cases hz;obtain ⟨x',hx,iF⟩:=av g3 hq;have iF:H5 q=some (.tup [.int (x'.1:Int),.int (x'.2.1:Int),.int x'.2.2]):=iF;have hl:=hL.lt good x' (dZ hx);have ht:=tie ((hL.has _ _ _).mp (dZ hx));refine ⟨q,_,rfl,dz.of (tp iF),rfl,_,_,rfl,_,_,rfl,_,_,rfl,rfl,?_⟩;refine ⟨_,rfl,pd rfl xh (vd hl.2) ⟨_,rfl,pd rfl xh (vd hl.1) ⟨_,_,rfl,rfl,_,rfl,_,_,rfl,rfl,_,rfl,?_⟩⟩⟩;refine kK (fun hc=>?_) (fun hc=>⟨_,_,_,rfl,rfl⟩);have pM:x'.2.2<t x'.2.1-t x'.1:=by simpa using hc
    lia
  rintro aa CC ⟨v7,v8,v9,rfl,rfl⟩;refine c1 _ _ ?_;clear c1 N1;refine fun N1 c1=>⟨_,rfl,a9 (tp g1) rfl ⟨lw,rfl,⟨_,ay.of (rp g4)⟩,?_⟩⟩;refine kO (K:=K) (a:=lw) (xs:=qs.map V.ref) (fun i aa H'=>∃v10 v11 EN EM,aa=[some (.ref a),some (.ref d),some (.ref wp),some (.ref x),some (.ref r),some (.ref y),some (.ref tl),v7,v8,v9,v10,v11,EN,EM]/\aM CC H') ⟨none,none,none,none,rfl,aM.refl _⟩ ?_ ?_ ?_
  ·rintro i aa H' _ ⟨v10,v11,EN,EM,rfl,oA⟩;exact ay.of (oA _ _ (rp g4))
  ·rintro i z aa z_ hz ⟨v10,v11,EN,EM,rfl,oA⟩;rw [dt] at hz
   cases hq:qs[i]? with
   | none=>rw [hq] at hz;cases hz
   | some q=>
    rw [hq] at hz;cases hz;obtain ⟨x',hx,iF⟩:=av g5 hq;have iF:H5 q=some (.tup [.int (x'.1:Int),.int (x'.2.1:Int),.int x'.2.2]):=iF;have zE:=List.mem_filter.mp (dZ hx);have hl:=hM.lt good x' zE.1;have hw:=(hM.has _ _ _).mp zE.1;obtain ⟨f0,hf,_,S7⟩:=Qk ae zE.2;have n_:(decide (f0.2.1<x'.2.2) && decide (x'.2.2<=f0.2.2))=true:=by
     have:=zE.2;unfold gu at this;rw [hf] at this;exact this
    rw [Bool.and_eq_true,ju,ju] at n_;have wt:min (t x'.2.1) (t f0.1+x'.2.2)<=t x'.1:=by
     rcases uM.inv.W (tm hl.1) hw hf n_.1 with ⟨t',h1,h2⟩ | ⟨t',h1,h2⟩
     ·rw [tm hl.2] at h1;cases h1;lia
     ·rw [tm S7] at h1;cases h1;lia
    refine ⟨q,_,rfl,dz.of (oA _ _ (tp iF)),rfl,_,_,rfl,_,_,rfl,_,_,rfl,rfl,?_⟩;refine fun N2 c2=>⟨_,rfl,a9 (oA _ _ Mw.tup) rfl ⟨fa,rfl,⟨_,ay.of (oA _ _ (rp je.1))⟩,fun Dq SS=>?_⟩⟩;refine o7 (K:=K) (a:=fa) (xs:=fs.map V.ref) (fun j aa H'=>∃v,∃dA:List Addr,aa=[v,some (.int (x'.2.1:Int))]/\H' Dq=some (.lst (dA.map V.ref))/\Paired (fun q r=>z_ q=some (.tup (r.map V.int))) dA ((rF.take j).filter fun r=>decide (r[1]?=some (x'.2.1:Int)))/\dA.length<=j/\aM z_ H') ⟨none,[],rfl,aq,.nil,dM _,bj SS⟩ ?_ ?_ ?_
    ·rintro j aa H' _ ⟨v,dA,rfl,_,_,_,tQ⟩;exact ay.of (tQ _ _ (oA _ _ (rp je.1)))
    ·rintro j z aa G' hz ⟨v,dA,rfl,zR,pr,gy,tQ⟩;rw [dt] at hz
     cases qS:fs[j]? with
     | none=>rw [qS] at hz;cases hz
     | some q2=>
      rw [qS] at hz;cases hz;obtain ⟨r2,i9,KL⟩:=av je.2 qS;have hj:j<rF.length:=(ff.mp i9).1;obtain ⟨a1,b1,Ff,m1,er,h0,h1,_⟩:=ae.f r2 (dZ i9);subst er;have By:=oA _ _ (tp KL);have et:rF.take (j+1)=rF.take j++[[a1,b1,Ff,m1]]:=by rw [jC,i9];rfl
      have jt:([[a1,b1,Ff,m1]]:List (List Int)).filter (fun r=>decide (r[1]?=some (x'.2.1:Int)))=if b1=(x'.2.1:Int) then [[a1,b1,Ff,m1]] else []:=by
       by_cases c:b1=(x'.2.1:Int)
       ·rw [if_pos c,List.filter_cons_of_pos (by show decide (some b1=some (x'.2.1:Int))=true;rw [c];exact eQ rfl)];rfl
       ·rw [if_neg c,List.filter_cons_of_neg (by show ¬decide (some b1=some (x'.2.1:Int))=true;rw [ju,Option.some.injEq];exact c)];rfl
      refine ⟨_,rfl,a9 (tQ _ _ By) rfl ⟨_,rfl,rfl,_,rfl,?_⟩⟩;rw [Hk];have:=ae.fl
      by_cases c3:b1=(x'.2.1:Int)
      ·refine gr c3 ⟨_,rfl,_,zR,by rw [a7];exact fi (by lia),_,dA++[q2],rfl,?_,?_,by rw [gR];show dA.length+1<=j+1;lia,fun b o e=>?_⟩
       ·rw [aq,eJ];rfl
       ·rw [et,List.filter_append,jt,if_pos c3];exact wZ pr (.cons By .nil)
       ·rw [au (aO e SS)];exact tQ _ _ e
      ·refine ix c3 ⟨_,dA,rfl,zR,?_,by exact Nat.le.step gy,tQ⟩;rw [et,List.filter_append,jt,if_neg c3,List.append_nil];exact pr
    rintro aa G' ⟨v,dA,rfl,zR,pr,_,tQ⟩;rw [a7,Paired.length je.2,ir] at pr;obtain ⟨t2,et⟩:=XZ ae hf;rw [et] at pr;refine c2 _ _ ?_;clear c2 N2
    cases dA with
    | nil=>cases pr
    | cons q0 z9=>
     have KN:z_ q0=some (.tup ((([((f0.1:Nat):Int),(x'.2.1:Int),f0.2.1,f0.2.2]:List Int)).map V.int)):=by
      cases pr with
      | cons h _=>exact h
     have KN:z_ q0=some (.tup [.int ((f0.1:Nat):Int),.int (x'.2.1:Int),.int f0.2.1,.int f0.2.2]):=KN;have zR:G' Dq=some (.lst (V.ref q0::z9.map V.ref)):=zR;have q14:=tQ _ _ KN;have JL:=tQ _ _ (oA _ _ xh);have C0:g_ (V.ref q0::z9.map V.ref) 0=some (.ref q0):=j8 (j:=0) rfl;refine fun N2 c2=>⟨_,rfl,dM _,fun nq hnq=>?_⟩;have EV:=bj (o:=.lst []) hnq;have F':=EV _ _ zR;have JW:=EV _ _ q14;have xg:=EV _ _ JL;refine ⟨Dq,nq,_,rfl,rfl,F',aq,_,rfl,g9 rfl ?_⟩;refine ⟨_,rfl,Dq,_,_,_,rfl,rfl,F',C0,a9 JW rfl ⟨_,rfl,_,_,rfl,rfl,_,rfl,gr n_.1 ⟨_,rfl,Dq,_,_,_,rfl,rfl,F',C0,a9 JW rfl ⟨_,_,rfl,rfl,_,rfl,g9 ?_ (c2 _ _ ?_)⟩⟩⟩⟩
     ·show (!decide (x'.2.2<=f0.2.2))=false;rw [eQ n_.2];rfl
     clear c2 N2;generalize upd G' nq (.lst [])=H15 at*;refine ⟨_,rfl,pd rfl xg (vd hl.1) ⟨_,rfl,pd rfl xg (vd hl.2) ⟨_,rfl,_,rfl,Dq,_,_,_,rfl,rfl,F',C0,a9 JW rfl ⟨tl,_,_,_,rfl,rfl,xg,vd S7,_,rfl,_,_,rfl,rfl,_,_,rfl,_,_,rfl,rfl,_,rfl,?_⟩⟩⟩⟩;refine ix ?_ ⟨_,_,_,_,rfl,fun b o e=>EV _ _ (tQ _ _ (oA _ _ e))⟩;split<;>lia
  rintro aa z_ ⟨v10,v11,EN,EM,rfl,_⟩;exact c1 _ _ (k _)
section
variable {K:aL} {mg:Str->Option Value} {h:Heap}
theorem aX {x:Str} {st:Stmt} {ps:List Str} {f:Addr} {oc:Value} {od an:Option Addr} {mj:Array (Option Value)} {kV doc pm dc ct:Value} (X:K.In h) (G:h.Ns mainGlobals mg) (a:PySem.W.nsIn K mainGlobals x=some (some (.ref f)))
 (l:K.lookup f=some ⟨oc,od,.func (PySem.W.fnOf x x (r_ st) (p0 st) (aZ st) .none kV doc pm an dc ct),mj⟩) (c:PySem.W.codeIn K dc x=true) (k:PySem.W.keepIn K (.ref f)=true)
 (hb:∀(kV doc pm:Value) (an:Option Addr) (dc ct:Value) (us:List Value),us.length=ps.length->bindArgs (PySem.W.fnOf x x (r_ st) (p0 st) (aZ st) .none kV doc pm an dc ct) ⟨us,[]⟩=pure (ps.zip us)):
 Fn K mg x st ps f (PySem.W.fnOf x x (r_ st) (p0 st) (aZ st) .none kV doc pm an dc ct):=
 have F:=Nn (st:=st) l c k
 ⟨F,F.binds hb,PySem.W.mg_of X G a⟩
structure de (K:aL) (C:Addr) (m q:Str) (st:Stmt) (ps:List Str) (f:Addr) (fd:FuncData):Prop where
 F:gc K m q st f fd
 b:dP K fd ps []
 a:PySem.W.findIn K (.ref C) m=some (some (.ref f))
 i:PySem.W.isFn K (.ref f)=true
theorem de.cR (h:de K C m q st ps f fd):gq K C m f:=⟨h.a,h.i,h.F.kp⟩
theorem cb {C:Addr} {x q:Str} {st:Stmt} {ps:List Str} {f:Addr} {oc:Value} {od an:Option Addr} {mj:Array (Option Value)} {kV doc pm dc ct:Value} (a:PySem.W.findIn K (.ref C) x=some (some (.ref f))) (i:PySem.W.isFn K (.ref f)=true)
 (l:K.lookup f=some ⟨oc,od,.func (PySem.W.fnOf x q (r_ st) (p0 st) (aZ st) .none kV doc pm an dc ct),mj⟩) (c:PySem.W.codeIn K dc q=true) (k:PySem.W.keepIn K (.ref f)=true)
 (hb:∀(kV doc pm:Value) (an:Option Addr) (dc ct:Value) (us:List Value),us.length=ps.length->bindArgs (PySem.W.fnOf x q (r_ st) (p0 st) (aZ st) .none kV doc pm an dc ct) ⟨us,[]⟩=pure (ps.zip us)):
 de K C x q st ps f (PySem.W.fnOf x q (r_ st) (p0 st) (aZ st) .none kV doc pm an dc ct):=
 have F:=Nn (st:=st) l c k
 ⟨F,F.binds hb,a,i⟩
structure CA (K:aL) (mg:Str->Option Value) (C:Addr):Prop where
 tc:o_ K mg C
 Bn:PySem.W.makesIn K C=true
 kc:PySem.W.keepIn K (.ref C)=true
theorem xc (X:K.In h) (G:h.Ns mainGlobals mg) (aC:PySem.W.nsIn K mainGlobals "Web"=some (some (.ref C))) (pg:PySem.W.plainGet K C Str.empty=true) (hd:PySem.W.hasDictIn K C=true) (po:PySem.W.plainOver K C=true)
 (sa:PySem.W.findIn K (.ref C) "__setattr__"=some (some (.builtin "object.__setattr__"))) (mk:PySem.W.makesIn K C=true) (kc:PySem.W.keepIn K (.ref C)=true)
 (n1:PySem.W.findIn K (.ref C) "many"=some none) (n2:PySem.W.findIn K (.ref C) "last"=some none) (n3:PySem.W.findIn K (.ref C) "told_ties"=some none) (n4:PySem.W.findIn K (.ref C) "told_falls"=some none):CA K mg C:=
 ⟨⟨⟨pg,hd,po,sa⟩,n1,n2,n3,n4,PySem.W.mg_of X G aC⟩,mk,kc⟩
theorem tL (X:K.In h) (G:h.Ns mainGlobals mg) (m1:PySem.W.nsIn K mainGlobals "MOST_MOMENTS"=some (some (.int 8 t1))) (m2:PySem.W.nsIn K mainGlobals "LATEST_LAST"=some (some (.int 60 t2)))
 (m3:PySem.W.nsIn K mainGlobals "WIDEST_SPAN"=some (some (.int 60 t3))) (m4:PySem.W.nsIn K mainGlobals "LONGEST_FALL"=some (some (.int 60 t4))) (z:PySem.W.nsIn K mainGlobals "list"=some none):lD mg:=
 ⟨⟨t1,PySem.W.mg_of X G m1⟩,⟨t2,PySem.W.mg_of X G m2⟩,⟨t3,PySem.W.mg_of X G m3⟩,⟨t4,PySem.W.mg_of X G m4⟩,uR X G z⟩
structure CF (K:aL) (mg:Str->Option Value) (C:Addr):Prop where
 tc:ph K mg C
 Bn:PySem.W.makesIn K C=true
 kc:PySem.W.keepIn K (.ref C)=true
 g:mg "Closing"=some (.ref C)
theorem yF (X:K.In h) (G:h.Ns mainGlobals mg) (aC:PySem.W.nsIn K mainGlobals "Closing"=some (some (.ref C))) (pg:PySem.W.plainGet K C Str.empty=true) (hd:PySem.W.hasDictIn K C=true) (po:PySem.W.plainOver K C=true)
 (sa:PySem.W.findIn K (.ref C) "__setattr__"=some (some (.builtin "object.__setattr__"))) (mk:PySem.W.makesIn K C=true) (kc:PySem.W.keepIn K (.ref C)=true)
 (n1:PySem.W.findIn K (.ref C) "many"=some none) (n2:PySem.W.findIn K (.ref C) "by_end"=some none) (n3:PySem.W.findIn K (.ref C) "rows"=some none) (n4:PySem.W.findIn K (.ref C) "best"=some none) (n5:PySem.W.findIn K (.ref C) "bar"=some none)
 (z1:PySem.W.nsIn K mainGlobals "len"=some none) (z2:PySem.W.nsIn K mainGlobals "range"=some none):CF K mg C:=
 ⟨⟨⟨pg,hd,po,sa⟩,n1,n2,n3,n4,n5,uR X G z1,uR X G z2⟩,mk,kc,PySem.W.mg_of X G aC⟩
structure wx (K:aL) (mg:Str->Option Value) (C:Addr):Prop where
 tc:ou K mg C
 Bn:PySem.W.makesIn K C=true
 kc:PySem.W.keepIn K (.ref C)=true
 g:mg "Hand"=some (.ref C)
theorem uL (X:K.In h) (G:h.Ns mainGlobals mg) (aC:PySem.W.nsIn K mainGlobals "Hand"=some (some (.ref C))) (pg:PySem.W.plainGet K C Str.empty=true) (hd:PySem.W.hasDictIn K C=true) (po:PySem.W.plainOver K C=true)
 (sa:PySem.W.findIn K (.ref C) "__setattr__"=some (some (.builtin "object.__setattr__"))) (mk:PySem.W.makesIn K C=true) (kc:PySem.W.keepIn K (.ref C)=true)
 (n1:PySem.W.findIn K (.ref C) "rule_ties"=some none) (n2:PySem.W.findIn K (.ref C) "rule_waits"=some none) (n3:PySem.W.findIn K (.ref C) "by_end"=some none) (n4:PySem.W.findIn K (.ref C) "own_moments"=some none) (n5:PySem.W.findIn K (.ref C) "came"=some none) (n6:PySem.W.findIn K (.ref C) "now"=some none):wx K mg C:=
 ⟨⟨⟨pg,hd,po,sa⟩,n1,n2,n3,n4,n5,n6⟩,mk,kc,PySem.W.mg_of X G aC⟩
theorem tM (X:K.In h) (G:h.Ns mainGlobals mg) (a:PySem.W.nsIn K mainGlobals "USED_KINDS"=some (some (.ref u))) (t:JA K u yT) (z:PySem.W.nsIn K mainGlobals "tuple"=some none):yH K mg:=
 ⟨⟨u,PySem.W.mg_of X G a,t⟩,uR X G z⟩
end
end Y0
namespace L2
theorem lZ:∀{us:List α},us.length=n+1->∃a t,us=a::t/\t.length=n
 | a::t,h=>⟨a,t,rfl,Nat.succ.inj h⟩
theorem YE (us:List α) (h:us.length=1):∃a,us=[a]:=by
 obtain ⟨a,t0,rfl,h0⟩:=lZ h;obtain rfl:=List.eq_nil_of_length_eq_zero h0;exact ⟨a,rfl⟩
theorem YF (us:List α) (h:us.length=2):∃a b,us=[a,b]:=by
 obtain ⟨a,t0,rfl,h0⟩:=lZ h;obtain ⟨b,t1,rfl,h1⟩:=lZ h0;obtain rfl:=List.eq_nil_of_length_eq_zero h1;exact ⟨a,b,rfl⟩
theorem YG (us:List α) (h:us.length=3):∃a b c,us=[a,b,c]:=by
 obtain ⟨a,t0,rfl,h0⟩:=lZ h;obtain ⟨b,t1,rfl,h1⟩:=lZ h0;obtain ⟨c,t2,rfl,h2⟩:=lZ h1;obtain rfl:=List.eq_nil_of_length_eq_zero h2;exact ⟨a,b,c,rfl⟩
theorem YH (us:List α) (h:us.length=4):∃a b c d,us=[a,b,c,d]:=by
 obtain ⟨a,t0,rfl,h0⟩:=lZ h;obtain ⟨b,t1,rfl,h1⟩:=lZ h0;obtain ⟨c,t2,rfl,h2⟩:=lZ h1;obtain ⟨d,t3,rfl,h3⟩:=lZ h2;obtain rfl:=List.eq_nil_of_length_eq_zero h3;exact ⟨a,b,c,d,rfl⟩
theorem YI (us:List α) (h:us.length=5):∃a b c d e,us=[a,b,c,d,e]:=by
 obtain ⟨a,t0,rfl,h0⟩:=lZ h;obtain ⟨b,t1,rfl,h1⟩:=lZ h0;obtain ⟨c,t2,rfl,h2⟩:=lZ h1;obtain ⟨d,t3,rfl,h3⟩:=lZ h2;obtain ⟨e,t4,rfl,h4⟩:=lZ h3;obtain rfl:=List.eq_nil_of_length_eq_zero h4;exact ⟨a,b,c,d,e,rfl⟩
theorem oo {A B C D E F V:Type} {p:A->B->C->D->E->F->List V->Prop} (h:∀a1 a2 a3 a4 a5 a6 a,p a1 a2 a3 a4 a5 a6 [a]):∀a1 a2 a3 a4 a5 a6 (us:List V),us.length=1->p a1 a2 a3 a4 a5 a6 us:=fun _ _ _ _ _ _ us hl=>by obtain ⟨a,rfl⟩:=YE us hl;exact h _ _ _ _ _ _ _
theorem jk {A B C D E F V:Type} {p:A->B->C->D->E->F->List V->Prop} (h:∀a1 a2 a3 a4 a5 a6 a b,p a1 a2 a3 a4 a5 a6 [a,b]):∀a1 a2 a3 a4 a5 a6 (us:List V),us.length=2->p a1 a2 a3 a4 a5 a6 us:=fun _ _ _ _ _ _ us hl=>by obtain ⟨a,b,rfl⟩:=YF us hl;exact h _ _ _ _ _ _ _ _
theorem rC {A B C D E F V:Type} {p:A->B->C->D->E->F->List V->Prop} (h:∀a1 a2 a3 a4 a5 a6 a b c,p a1 a2 a3 a4 a5 a6 [a,b,c]):∀a1 a2 a3 a4 a5 a6 (us:List V),us.length=3->p a1 a2 a3 a4 a5 a6 us:=fun _ _ _ _ _ _ us hl=>by obtain ⟨a,b,c,rfl⟩:=YG us hl;exact h _ _ _ _ _ _ _ _ _
theorem Cz {A B C D E F V:Type} {p:A->B->C->D->E->F->List V->Prop} (h:∀a1 a2 a3 a4 a5 a6 a b c d,p a1 a2 a3 a4 a5 a6 [a,b,c,d]):∀a1 a2 a3 a4 a5 a6 (us:List V),us.length=4->p a1 a2 a3 a4 a5 a6 us:=fun _ _ _ _ _ _ us hl=>by obtain ⟨a,b,c,d,rfl⟩:=YH us hl;exact h _ _ _ _ _ _ _ _ _ _
theorem bn5 {A B C D E F V:Type} {p:A->B->C->D->E->F->List V->Prop} (h:∀a1 a2 a3 a4 a5 a6 a b c d e,p a1 a2 a3 a4 a5 a6 [a,b,c,d,e]):∀a1 a2 a3 a4 a5 a6 (us:List V),us.length=5->p a1 a2 a3 a4 a5 a6 us:=fun _ _ _ _ _ _ us hl=>by obtain ⟨a,b,c,d,e,rfl⟩:=YI us hl;exact h _ _ _ _ _ _ _ _ _ _ _
end L2
noncomputable def PySem.W.Fast.tw41067607138690198:Unit:=()
noncomputable def PySem.W.Fast.tw10479060239265440975:Unit:=()
noncomputable def PySem.W.Fast.tw9521190434501549086:Unit:=()
noncomputable def PySem.W.Fast.tw14811044629454456647:Unit:=()
noncomputable def PySem.W.Fast.tw11977175351613336904:Unit:=()
noncomputable def PySem.W.Fast.tw13861838768704187739:Unit:=()
noncomputable def PySem.W.Fast.tw10499206990240334269:Unit:=()
noncomputable def PySem.W.Fast.tw16974309574444709311:Unit:=()
noncomputable def PySem.W.Fast.tw6182508227096375631:Unit:=()
noncomputable def PySem.W.Fast.tw10808252693040670106:Unit:=()
noncomputable def PySem.W.Fast.tw2105339762956738407:Unit:=()
noncomputable def PySem.W.Fast.tw445929142444620979:Unit:=()
noncomputable def PySem.W.Fast.tw6936614085556827536:Unit:=()
noncomputable def PySem.W.Fast.tw10561186959239759359:Unit:=()
noncomputable def PySem.W.Fast.tw18015316000519533415:Unit:=()
noncomputable def PySem.W.Fast.tw13995367882630769701:Unit:=()
noncomputable def PySem.W.Fast.tw9053796851900917908:Unit:=()
noncomputable def PySem.W.Fast.tw15849151733172902114:Unit:=()
noncomputable def PySem.W.Fast.tw7637782478098573309:Unit:=()
noncomputable def PySem.W.Fast.tw17887942772644092253:Unit:=()
noncomputable def PySem.W.Fast.tw5244575340688369792:Unit:=()
noncomputable def PySem.W.Fast.tw1672233577863694212:Unit:=()
noncomputable def PySem.W.Fast.tw8773359748498178424:Unit:=()
noncomputable def PySem.W.Fast.tw2090701068213839626:Unit:=()
noncomputable def PySem.W.Fast.tw2505770791515992677:Unit:=()
noncomputable def PySem.W.Fast.tw6069164855085431472:Unit:=()
noncomputable def PySem.W.Fast.tw15547723987990168292:Unit:=()
noncomputable def PySem.W.Fast.tw11656698310396239261:Unit:=()
noncomputable def PySem.W.Fast.tw1420557282145578644:Unit:=()
noncomputable def PySem.W.Fast.tw7124144219553581952:Unit:=()
noncomputable def PySem.W.Fast.tw14120608657869269232:Unit:=()
noncomputable def PySem.W.Fast.tw10929783746508435494:Unit:=()
noncomputable def PySem.W.Fast.tw1059300197004271339:Unit:=()
noncomputable def PySem.W.Fast.tw15833921701663458871:Unit:=()
noncomputable def PySem.W.Fast.tw2303427037997850117:Unit:=()
noncomputable def PySem.W.Fast.tw9822536112906173980:Unit:=()
noncomputable def PySem.W.Fast.tw6842230406780575327:Unit:=()
noncomputable def PySem.W.Fast.tw11982855540996445865:Unit:=()
noncomputable def PySem.W.Fast.tw17612165590075040431:Unit:=()
noncomputable def PySem.W.Fast.tw9211392233729121989:Unit:=()
noncomputable def PySem.W.Fast.tw14768971635169671153:Unit:=()
noncomputable def PySem.W.Fast.tw9926648941698565324:Unit:=()
noncomputable def PySem.W.Fast.tw13530428740993363806:Unit:=()
noncomputable def PySem.W.Fast.tw8259810980054074472:Unit:=()
noncomputable def PySem.W.Fast.tw7299620324819393141:Unit:=()
noncomputable def PySem.W.Fast.tw2282717513656174817:Unit:=()
noncomputable def PySem.W.Fast.tw3681025198654036066:Unit:=()
noncomputable def PySem.W.Fast.tw12001491414126592361:Unit:=()
noncomputable def PySem.W.Fast.tw9329784126221776697:Unit:=()
noncomputable def PySem.W.Fast.tw7910952304971061351:Unit:=()
noncomputable def PySem.W.Fast.tw16369042330829178082:Unit:=()
noncomputable def PySem.W.Fast.tw6262658337391494698:Unit:=()
noncomputable def PySem.W.Fast.tw10021887953339146966:Unit:=()
noncomputable def PySem.W.Fast.tw7803229472616629980:Unit:=()
noncomputable def PySem.W.Fast.tw3750157335822433484:Unit:=()
noncomputable def PySem.W.Fast.tw5368318138721985243:Unit:=()
noncomputable def PySem.W.Fast.tw1302234971165021696:Unit:=()
noncomputable def PySem.W.Fast.tw8396842425684960398:Unit:=()
noncomputable def PySem.W.Fast.tw15755207570250051964:Unit:=()
noncomputable def PySem.W.Fast.tw6493251798048598534:Unit:=()
noncomputable def PySem.W.Fast.tw12615780177149454800:Unit:=()
noncomputable def PySem.W.Fast.tw8719219095197455071:Unit:=()
noncomputable def PySem.W.Fast.tw3091559676023751429:Unit:=()
noncomputable def PySem.W.Fast.tw772428490114602412:Unit:=()
noncomputable def PySem.W.Fast.tw625962465329524492:Unit:=()
noncomputable def PySem.W.Fast.tw16725433418553267481:Unit:=()
noncomputable def PySem.W.Fast.tw7215051504484405562:Unit:=()
noncomputable def PySem.W.Fast.tw310853460658016865:Unit:=()
noncomputable def PySem.W.Fast.tw2014850762332496996:Unit:=()
noncomputable def PySem.W.Fast.tw15233652270606289382:Unit:=()
noncomputable def PySem.W.Fast.tw16092898205612978645:Unit:=()
noncomputable def PySem.W.Fast.tw7709616977068707054:Unit:=()
noncomputable def PySem.W.Fast.tw8628742900953170354:Unit:=()
noncomputable def PySem.W.Fast.tw9149977140490383981:Unit:=()
noncomputable def PySem.W.Fast.tw8632659037295378958:Unit:=()
noncomputable def PySem.W.Fast.tw5310844602357539492:Unit:=()
noncomputable def PySem.W.Fast.tw15665221455097715886:Unit:=()
noncomputable def PySem.W.Fast.tw3349747645415171799:Unit:=()
noncomputable def PySem.W.Fast.tw10369562733807707136:Unit:=()
noncomputable def PySem.W.Fast.tw6377555543014703616:Unit:=()
noncomputable def PySem.W.Fast.tw4804157563879392328:Unit:=()
noncomputable def PySem.W.Fast.tw18438015548140070338:Unit:=()
noncomputable def PySem.W.Fast.tw9843707117537517490:Unit:=()
noncomputable def PySem.W.Fast.tw16917392611174358620:Unit:=()
noncomputable def PySem.W.Fast.tw15429389865997370791:Unit:=()
noncomputable def PySem.W.Fast.tw13559427676006613332:Unit:=()
noncomputable def PySem.W.Fast.tw15735810988397056753:Unit:=()
noncomputable def PySem.W.Fast.tw2704275062219566336:Unit:=()
noncomputable def PySem.W.Fast.tw6920811385013129586:Unit:=()
noncomputable def PySem.W.Fast.tw10099967251518614523:Unit:=()
noncomputable def PySem.W.Fast.tw11323987986239263854:Unit:=()
noncomputable def PySem.W.Fast.tw4449948698760894425:Unit:=()
noncomputable def PySem.W.Fast.tw17174132044163474244:Unit:=()
noncomputable def PySem.W.Fast.tw1092367874963213548:Unit:=()
noncomputable def PySem.W.Fast.tw7046662880690095067:Unit:=()
noncomputable def PySem.W.Fast.tw13447003014962240554:Unit:=()
noncomputable def PySem.W.Fast.tw11196612861590652287:Unit:=()
noncomputable def PySem.W.Fast.tw1538406568835735192:Unit:=()
noncomputable def PySem.W.Fast.tw16098002277855326791:Unit:=()
noncomputable def PySem.W.Fast.tw11765572046675583448:Unit:=()
noncomputable def PySem.W.Fast.tw10257050537610135407:Unit:=()
noncomputable def PySem.W.Fast.tw2029747902995886544:Unit:=()
noncomputable def PySem.W.Fast.tw2374252935573232100:Unit:=()
noncomputable def PySem.W.Fast.tw1091427782381789531:Unit:=()
noncomputable def PySem.W.Fast.tw15231343650519038893:Unit:=()
noncomputable def PySem.W.Fast.tw11074154427733602940:Unit:=()
noncomputable def PySem.W.Fast.tw18319094831825268858:Unit:=()
noncomputable def PySem.W.Fast.tw11648321205486865558:Unit:=()
noncomputable def PySem.W.Fast.tw9627168530204271778:Unit:=()
noncomputable def PySem.W.Fast.tw10957489479236971551:Unit:=()
noncomputable def PySem.W.Fast.tw8468610716890427662:Unit:=()
noncomputable def PySem.W.Fast.tw18324051202631765608:Unit:=()
noncomputable def PySem.W.Fast.tw8173405613479388262:Unit:=()
noncomputable def PySem.W.Fast.tw12669871990548630245:Unit:=()
noncomputable def PySem.W.Fast.tw16821633387498616261:Unit:=()
noncomputable def PySem.W.Fast.tw14897654795546565563:Unit:=()
noncomputable def PySem.W.Fast.tw4735570605797970415:Unit:=()
noncomputable def PySem.W.Fast.tw14099028695208444946:Unit:=()
noncomputable def PySem.W.Fast.tw15486545082314617993:Unit:=()
noncomputable def PySem.W.Fast.tw1479563210745558914:Unit:=()
noncomputable def PySem.W.Fast.tw13298139722835020710:Unit:=()
noncomputable def PySem.W.Fast.tw2885194879001525315:Unit:=()
noncomputable def PySem.W.Fast.tw15047928259930510585:Unit:=()
noncomputable def PySem.W.Fast.tw14177500182493036148:Unit:=()
noncomputable def PySem.W.Fast.tw4915442816519322125:Unit:=()
noncomputable def PySem.W.Fast.tw16778399736685443206:Unit:=()
noncomputable def PySem.W.Fast.tw11328245315902417395:Unit:=()
noncomputable def PySem.W.Fast.tw1533805768925296377:Unit:=()
noncomputable def PySem.W.Fast.tw17150953073541717048:Unit:=()
noncomputable def PySem.W.Fast.tw4560147210300010331:Unit:=()
noncomputable def PySem.W.Fast.tw13463760025349980082:Unit:=()
noncomputable def PySem.W.Fast.tw14962318271235825408:Unit:=()
noncomputable def PySem.W.Fast.tw12696482036895108315:Unit:=()
noncomputable def PySem.W.Fast.tw15511760562414196969:Unit:=()
noncomputable def PySem.W.Fast.tw10220999219648215313:Unit:=()
noncomputable def PySem.W.Fast.tw4458812345443476123:Unit:=()
noncomputable def PySem.W.Fast.tw12648726419749539951:Unit:=()
noncomputable def PySem.W.Fast.tw2508049938371060414:Unit:=()
noncomputable def PySem.W.Fast.tw12592094994389754615:Unit:=()
noncomputable def PySem.W.Fast.tw10391562650781853941:Unit:=()
noncomputable def PySem.W.Fast.tw14056502147931747184:Unit:=()
noncomputable def PySem.W.Fast.tw7606207410481673315:Unit:=()
noncomputable def PySem.W.Fast.tw7958928048264529541:Unit:=()
noncomputable def PySem.W.Fast.tw10922259306680621322:Unit:=()
open PySem PySem.W PyProof.Rows L2
set_option maxRecDepth 100000 in
set_option maxHeartbeats 0 in
theorem PySem.Challenge.cw_momentties_k13_rules_hold_holds : PySem.Challenge.rw_momentties_k13_rules_hold.Holds := by
 w_on;o_law;k_head;(case hw=>w_witness2)
 k_fill
 refine WZ (l:=PySem.Challenge.rw_momentties_k13_rules_hold) (n:=63) (k:=9) (x:="_law_script") (CX:=ax) (sp:=Y0.vH) rfl (by decide) rfl ⟨rfl,by decide,by decide⟩ (fun w h Y=>PySem.W.kIn_of Y) ?F (fun K H a ns hl hO hS=>⟨a,ns,rfl,Y0.xm hO hS,fun _=>rfl⟩) (fun _ _ _ _ z=>z)
 case F=>
  intro w mg fa h KX G BB;obtain ⟨E6,U5,J4⟩:∃f fd,Y0.Fn (ai KX) mg "room_bounds" Y0.cM ["web"] f fd:=by
   unfold ai
   refine' ⟨_,_,Y0.aX KX G ?a ?l ?c ?k ?b⟩
   (case a|l|c|k=>k_is);(case b=>exact oo fun _ _ _ _ _ _ _=>rfl)
  obtain ⟨E7,U6,J5⟩:∃f fd,Y0.Fn (ai KX) mg "span_bounds" Y0.cL ["spans"] f fd:=by
   unfold ai
   refine' ⟨_,_,Y0.aX KX G ?a ?l ?c ?k ?b⟩
   (case a|l|c|k=>k_is);(case b=>exact oo fun _ _ _ _ _ _ _=>rfl)
  obtain ⟨Ef,Ug,Jf⟩:∃f fd,Y0.Fn (ai KX) mg "bounds_with" Y0.cN ["web","ties"] f fd:=by
   unfold ai
   refine' ⟨_,_,Y0.aX KX G ?a ?l ?c ?k ?b⟩
   (case a|l|c|k=>k_is);(case b=>exact jk fun _ _ _ _ _ _ _ _=>rfl)
  obtain ⟨E8,U7,J6⟩:∃f fd,Y0.Fn (ai KX) mg "told_bounds" Y0.cK ["web"] f fd:=by
   unfold ai
   refine' ⟨_,_,Y0.aX KX G ?a ?l ?c ?k ?b⟩
   (case a|l|c|k=>k_is);(case b=>exact oo fun _ _ _ _ _ _ _=>rfl)
  obtain ⟨Em,Uo,Jm⟩:∃f fd,Y0.Fn (ai KX) mg "falls_by_end" Y0.bJ ["web"] f fd:=by
   unfold ai
   refine' ⟨_,_,Y0.aX KX G ?a ?l ?c ?k ?b⟩
   (case a|l|c|k=>k_is);(case b=>exact oo fun _ _ _ _ _ _ _=>rfl)
  obtain ⟨Ek,Ul,Jk⟩:∃f fd,Y0.Fn (ai KX) mg "by_sum" Y0.f9 ["first","second"] f fd:=by
   unfold ai
   refine' ⟨_,_,Y0.aX KX G ?a ?l ?c ?k ?b⟩
   (case a|l|c|k=>k_is);(case b=>exact jk fun _ _ _ _ _ _ _ _=>rfl)
  obtain ⟨Ei,Uj,Ji⟩:∃f fd,Y0.Fn (ai KX) mg "by_late" Y0.eE ["falls","tie"] f fd:=by
   unfold ai
   refine' ⟨_,_,Y0.aX KX G ?a ?l ?c ?k ?b⟩
   (case a|l|c|k=>k_is);(case b=>exact jk fun _ _ _ _ _ _ _ _=>rfl)
  obtain ⟨Ej,Uk,Jj⟩:∃f fd,Y0.Fn (ai KX) mg "by_soon" Y0.eD ["falls","tie"] f fd:=by
   unfold ai
   refine' ⟨_,_,Y0.aX KX G ?a ?l ?c ?k ?b⟩
   (case a|l|c|k=>k_is);(case b=>exact jk fun _ _ _ _ _ _ _ _=>rfl)
  obtain ⟨El,Um,Jl⟩:∃f fd,Y0.Fn (ai KX) mg "by_sure" Y0.eC ["falls","wait"] f fd:=by
   unfold ai
   refine' ⟨_,_,Y0.aX KX G ?a ?l ?c ?k ?b⟩
   (case a|l|c|k=>k_is);(case b=>exact jk fun _ _ _ _ _ _ _ _=>rfl)
  obtain ⟨Eg,Uh,Jg⟩:∃f fd,Y0.Fn (ai KX) mg "by_back" Y0.eF ["falls","wait","tie"] f fd:=by
   unfold ai
   refine' ⟨_,_,Y0.aX KX G ?a ?l ?c ?k ?b⟩
   (case a|l|c|k=>k_is);(case b=>exact rC fun _ _ _ _ _ _ _ _ _=>rfl)
  obtain ⟨Eh,Ui,Jh⟩:∃f fd,Y0.Fn (ai KX) mg "by_cross" Y0.dD ["falls","wait"] f fd:=by
   unfold ai
   refine' ⟨_,_,Y0.aX KX G ?a ?l ?c ?k ?b⟩
   (case a|l|c|k=>k_is);(case b=>exact jk fun _ _ _ _ _ _ _ _=>rfl)
  obtain ⟨E9,U8,J7⟩:∃f fd,Y0.Fn (ai KX) mg "what_follows" Y0.bC ["falls","word","used"] f fd:=by
   unfold ai
   refine' ⟨_,_,Y0.aX KX G ?a ?l ?c ?k ?b⟩
   (case a|l|c|k=>k_is);(case b=>exact rC fun _ _ _ _ _ _ _ _ _=>rfl)
  obtain ⟨Ee,Uf,Je⟩:∃f fd,Y0.Fn (ai KX) mg "bars_every_hand" Y0.br ["what"] f fd:=by
   unfold ai
   refine' ⟨_,_,Y0.aX KX G ?a ?l ?c ?k ?b⟩
   (case a|l|c|k=>k_is);(case b=>exact oo fun _ _ _ _ _ _ _=>rfl)
  have Ja:∃C,Y0.CF (ai KX) mg C/\PySem.W.nsIn (ai KX) mainGlobals "Closing"=some (some (.ref C)):=by
   unfold ai
   refine' ⟨_,Y0.yF KX G ?aC ?pg ?hd ?po ?sa ?mk ?kc ?n1 ?n2 ?n3 ?n4 ?n5 ?z1 ?z2,?aD⟩
   (case aC|pg|hd|po|sa|mk|kc|n1|n2|n3|n4|n5|z1|z2|aD=>k_is)
  obtain ⟨Ub,Ja,G7⟩:=Ja;obtain ⟨Oj,Ov,Gj⟩:∃f fd,Y0.de (ai KX) Ub "__init__" "Closing.__init__" Y0.cA ["self","web"] f fd:=by
   have e:∃C f fd,PySem.W.nsIn (ai KX) mainGlobals "Closing"=some (some (.ref C))/\Y0.de (ai KX) C "__init__" "Closing.__init__" Y0.cA ["self","web"] f fd:=by
    unfold ai
    refine' ⟨_,_,_,?aC,Y0.cb ?a ?i ?l ?c ?k ?b⟩
    (case aC|a|i|l|c|k=>k_is);(case b=>exact jk fun _ _ _ _ _ _ _ _=>rfl)
   obtain ⟨C,f,fd,e1,e2⟩:=e;rw [G7] at e1;cases e1;exact ⟨f,fd,e2⟩
  obtain ⟨Ol,Ow,Gk⟩:∃f fd,Y0.de (ai KX) Ub "is_news" "Closing.is_news" Y0.bu ["self","what"] f fd:=by
   have e:∃C f fd,PySem.W.nsIn (ai KX) mainGlobals "Closing"=some (some (.ref C))/\Y0.de (ai KX) C "is_news" "Closing.is_news" Y0.bu ["self","what"] f fd:=by
    unfold ai
    refine' ⟨_,_,_,?aC,Y0.cb ?a ?i ?l ?c ?k ?b⟩
    (case aC|a|i|l|c|k=>k_is);(case b=>exact jk fun _ _ _ _ _ _ _ _=>rfl)
   obtain ⟨C,f,fd,e1,e2⟩:=e;rw [G7] at e1;cases e1;exact ⟨f,fd,e2⟩
  obtain ⟨On,Oy,Gn⟩:∃f fd,Y0.de (ai KX) Ub "take" "Closing.take" Y0.c9 ["self","what","word","used"] f fd:=by
   have e:∃C f fd,PySem.W.nsIn (ai KX) mainGlobals "Closing"=some (some (.ref C))/\Y0.de (ai KX) C "take" "Closing.take" Y0.c9 ["self","what","word","used"] f fd:=by
    unfold ai
    refine' ⟨_,_,_,?aC,Y0.cb ?a ?i ?l ?c ?k ?b⟩
    (case aC|a|i|l|c|k=>k_is);(case b=>exact Cz fun _ _ _ _ _ _ _ _ _ _=>rfl)
   obtain ⟨C,f,fd,e1,e2⟩:=e;rw [G7] at e1;cases e1;exact ⟨f,fd,e2⟩
  obtain ⟨Of,Oq,Ge⟩:∃f fd,Y0.de (ai KX) Ub "draw" "Closing.draw" Y0.bM ["self","word","used"] f fd:=by
   have e:∃C f fd,PySem.W.nsIn (ai KX) mainGlobals "Closing"=some (some (.ref C))/\Y0.de (ai KX) C "draw" "Closing.draw" Y0.bM ["self","word","used"] f fd:=by
    unfold ai
    refine' ⟨_,_,_,?aC,Y0.cb ?a ?i ?l ?c ?k ?b⟩
    (case aC|a|i|l|c|k=>k_is);(case b=>exact rC fun _ _ _ _ _ _ _ _ _=>rfl)
   obtain ⟨C,f,fd,e1,e2⟩:=e;rw [G7] at e1;cases e1;exact ⟨f,fd,e2⟩
  obtain ⟨Om,Ox,Gm⟩:∃f fd,Y0.de (ai KX) Ub "known_of" "Closing.known_of" Y0.aN ["self","kind","a"] f fd:=by
   have e:∃C f fd,PySem.W.nsIn (ai KX) mainGlobals "Closing"=some (some (.ref C))/\Y0.de (ai KX) C "known_of" "Closing.known_of" Y0.aN ["self","kind","a"] f fd:=by
    unfold ai
    refine' ⟨_,_,_,?aC,Y0.cb ?a ?i ?l ?c ?k ?b⟩
    (case aC|a|i|l|c|k=>k_is);(case b=>exact rC fun _ _ _ _ _ _ _ _ _=>rfl)
   obtain ⟨C,f,fd,e1,e2⟩:=e;rw [G7] at e1;cases e1;exact ⟨f,fd,e2⟩
  obtain ⟨Oo,Oz,Gp⟩:∃f fd,Y0.de (ai KX) Ub "ties_to" "Closing.ties_to" Y0.aT ["self","b"] f fd:=by
   have e:∃C f fd,PySem.W.nsIn (ai KX) mainGlobals "Closing"=some (some (.ref C))/\Y0.de (ai KX) C "ties_to" "Closing.ties_to" Y0.aT ["self","b"] f fd:=by
    unfold ai
    refine' ⟨_,_,_,?aC,Y0.cb ?a ?i ?l ?c ?k ?b⟩
    (case aC|a|i|l|c|k=>k_is);(case b=>exact jk fun _ _ _ _ _ _ _ _=>rfl)
   obtain ⟨C,f,fd,e1,e2⟩:=e;rw [G7] at e1;cases e1;exact ⟨f,fd,e2⟩
  obtain ⟨Oh,Ot,Gh⟩:∃f fd,Y0.de (ai KX) Ub "draw_from_tie" "Closing.draw_from_tie" Y0.aK ["self","at","a","b"] f fd:=by
   have e:∃C f fd,PySem.W.nsIn (ai KX) mainGlobals "Closing"=some (some (.ref C))/\Y0.de (ai KX) C "draw_from_tie" "Closing.draw_from_tie" Y0.aK ["self","at","a","b"] f fd:=by
    unfold ai
    refine' ⟨_,_,_,?aC,Y0.cb ?a ?i ?l ?c ?k ?b⟩
    (case aC|a|i|l|c|k=>k_is);(case b=>exact Cz fun _ _ _ _ _ _ _ _ _ _=>rfl)
   obtain ⟨C,f,fd,e1,e2⟩:=e;rw [G7] at e1;cases e1;exact ⟨f,fd,e2⟩
  obtain ⟨Oi,Ou,Gi⟩:∃f fd,Y0.de (ai KX) Ub "draw_from_wait" "Closing.draw_from_wait" Y0.aB ["self","at","a"] f fd:=by
   have e:∃C f fd,PySem.W.nsIn (ai KX) mainGlobals "Closing"=some (some (.ref C))/\Y0.de (ai KX) C "draw_from_wait" "Closing.draw_from_wait" Y0.aB ["self","at","a"] f fd:=by
    unfold ai
    refine' ⟨_,_,_,?aC,Y0.cb ?a ?i ?l ?c ?k ?b⟩
    (case aC|a|i|l|c|k=>k_is);(case b=>exact rC fun _ _ _ _ _ _ _ _ _=>rfl)
   obtain ⟨C,f,fd,e1,e2⟩:=e;rw [G7] at e1;cases e1;exact ⟨f,fd,e2⟩
  obtain ⟨Og,Os,Gg⟩:∃f fd,Y0.de (ai KX) Ub "draw_all" "Closing.draw_all" Y0.bh ["self"] f fd:=by
   have e:∃C f fd,PySem.W.nsIn (ai KX) mainGlobals "Closing"=some (some (.ref C))/\Y0.de (ai KX) C "draw_all" "Closing.draw_all" Y0.bh ["self"] f fd:=by
    unfold ai
    refine' ⟨_,_,_,?aC,Y0.cb ?a ?i ?l ?c ?k ?b⟩
    (case aC|a|i|l|c|k=>k_is);(case b=>exact oo fun _ _ _ _ _ _ _=>rfl)
   obtain ⟨C,f,fd,e1,e2⟩:=e;rw [G7] at e1;cases e1;exact ⟨f,fd,e2⟩
  obtain ⟨Oe,Op,Gd⟩:∃f fd,Y0.de (ai KX) Ub "best_drawn" "Closing.best_drawn" Y0.aG ["self","kind"] f fd:=by
   have e:∃C f fd,PySem.W.nsIn (ai KX) mainGlobals "Closing"=some (some (.ref C))/\Y0.de (ai KX) C "best_drawn" "Closing.best_drawn" Y0.aG ["self","kind"] f fd:=by
    unfold ai
    refine' ⟨_,_,_,?aC,Y0.cb ?a ?i ?l ?c ?k ?b⟩
    (case aC|a|i|l|c|k=>k_is);(case b=>exact jk fun _ _ _ _ _ _ _ _=>rfl)
   obtain ⟨C,f,fd,e1,e2⟩:=e;rw [G7] at e1;cases e1;exact ⟨f,fd,e2⟩
  obtain ⟨E4,U3,J2⟩:∃f fd,Y0.Fn (ai KX) mg "numbers_needed" Y0.bS ["rows","last"] f fd:=by
   unfold ai
   refine' ⟨_,_,Y0.aX KX G ?a ?l ?c ?k ?b⟩
   (case a|l|c|k=>k_is);(case b=>exact jk fun _ _ _ _ _ _ _ _=>rfl)
  obtain ⟨E5,U4,J3⟩:∃f fd,Y0.Fn (ai KX) mg "paper_up_to" Y0.ck ["rows","last"] f fd:=by
   unfold ai
   refine' ⟨_,_,Y0.aX KX G ?a ?l ?c ?k ?b⟩
   (case a|l|c|k=>k_is);(case b=>exact jk fun _ _ _ _ _ _ _ _=>rfl)
  obtain ⟨En,Up,Jn⟩:∃f fd,Y0.Fn (ai KX) mg "is_told" Y0.eB ["by_end","wait"] f fd:=by
   unfold ai
   refine' ⟨_,_,Y0.aX KX G ?a ?l ?c ?k ?b⟩
   (case a|l|c|k=>k_is);(case b=>exact jk fun _ _ _ _ _ _ _ _=>rfl)
  obtain ⟨Eo,Uq,Jo⟩:∃f fd,Y0.Fn (ai KX) mg "kept" Y0.f7 ["web"] f fd:=by
   unfold ai
   refine' ⟨_,_,Y0.aX KX G ?a ?l ?c ?k ?b⟩
   (case a|l|c|k=>k_is);(case b=>exact oo fun _ _ _ _ _ _ _=>rfl)
  have Jb:∃C,Y0.wx (ai KX) mg C/\PySem.W.nsIn (ai KX) mainGlobals "Hand"=some (some (.ref C)):=by
   unfold ai
   refine' ⟨_,Y0.uL KX G ?aC ?pg ?hd ?po ?sa ?mk ?kc ?n1 ?n2 ?n3 ?n4 ?n5 ?n6,?aD⟩
   (case aC|pg|hd|po|sa|mk|kc|n1|n2|n3|n4|n5|n6|aD=>k_is)
  obtain ⟨Uc,Jb,G8⟩:=Jb;obtain ⟨O2,Ic,Gs⟩:∃f fd,Y0.de (ai KX) Uc "__init__" "Hand.__init__" Y0.dk ["self","web"] f fd:=by
   have e:∃C f fd,PySem.W.nsIn (ai KX) mainGlobals "Hand"=some (some (.ref C))/\Y0.de (ai KX) C "__init__" "Hand.__init__" Y0.dk ["self","web"] f fd:=by
    unfold ai
    refine' ⟨_,_,_,?aC,Y0.cb ?a ?i ?l ?c ?k ?b⟩
    (case aC|a|i|l|c|k=>k_is);(case b=>exact jk fun _ _ _ _ _ _ _ _=>rfl)
   obtain ⟨C,f,fd,e1,e2⟩:=e;rw [G8] at e1;cases e1;exact ⟨f,fd,e2⟩
  obtain ⟨O8,Ij,Gz⟩:∃f fd,Y0.de (ai KX) Uc "times" "Hand.times" Y0.cU ["self"] f fd:=by
   have e:∃C f fd,PySem.W.nsIn (ai KX) mainGlobals "Hand"=some (some (.ref C))/\Y0.de (ai KX) C "times" "Hand.times" Y0.cU ["self"] f fd:=by
    unfold ai
    refine' ⟨_,_,_,?aC,Y0.cb ?a ?i ?l ?c ?k ?b⟩
    (case aC|a|i|l|c|k=>k_is);(case b=>exact oo fun _ _ _ _ _ _ _=>rfl)
   obtain ⟨C,f,fd,e1,e2⟩:=e;rw [G8] at e1;cases e1;exact ⟨f,fd,e2⟩
  obtain ⟨O3,Id,Gu⟩:∃f fd,Y0.de (ai KX) Uc "is_in_fall" "Hand.is_in_fall" Y0.bt ["self","end"] f fd:=by
   have e:∃C f fd,PySem.W.nsIn (ai KX) mainGlobals "Hand"=some (some (.ref C))/\Y0.de (ai KX) C "is_in_fall" "Hand.is_in_fall" Y0.bt ["self","end"] f fd:=by
    unfold ai
    refine' ⟨_,_,_,?aC,Y0.cb ?a ?i ?l ?c ?k ?b⟩
    (case aC|a|i|l|c|k=>k_is);(case b=>exact jk fun _ _ _ _ _ _ _ _=>rfl)
   obtain ⟨C,f,fd,e1,e2⟩:=e;rw [G8] at e1;cases e1;exact ⟨f,fd,e2⟩
  obtain ⟨O6,Ih,Gx⟩:∃f fd,Y0.de (ai KX) Uc "look_over_end" "Hand.look_over_end" Y0.aU ["self","end"] f fd:=by
   have e:∃C f fd,PySem.W.nsIn (ai KX) mainGlobals "Hand"=some (some (.ref C))/\Y0.de (ai KX) C "look_over_end" "Hand.look_over_end" Y0.aU ["self","end"] f fd:=by
    unfold ai
    refine' ⟨_,_,_,?aC,Y0.cb ?a ?i ?l ?c ?k ?b⟩
    (case aC|a|i|l|c|k=>k_is);(case b=>exact jk fun _ _ _ _ _ _ _ _=>rfl)
   obtain ⟨C,f,fd,e1,e2⟩:=e;rw [G8] at e1;cases e1;exact ⟨f,fd,e2⟩
  obtain ⟨O5,Ig,Gw⟩:∃f fd,Y0.de (ai KX) Uc "look_over" "Hand.look_over" Y0.bY ["self","fallen"] f fd:=by
   have e:∃C f fd,PySem.W.nsIn (ai KX) mainGlobals "Hand"=some (some (.ref C))/\Y0.de (ai KX) C "look_over" "Hand.look_over" Y0.bY ["self","fallen"] f fd:=by
    unfold ai
    refine' ⟨_,_,_,?aC,Y0.cb ?a ?i ?l ?c ?k ?b⟩
    (case aC|a|i|l|c|k=>k_is);(case b=>exact jk fun _ _ _ _ _ _ _ _=>rfl)
   obtain ⟨C,f,fd,e1,e2⟩:=e;rw [G8] at e1;cases e1;exact ⟨f,fd,e2⟩
  obtain ⟨O7,Ii,Gy⟩:∃f fd,Y0.de (ai KX) Uc "tie_lets" "Hand.tie_lets" Y0.cp ["self","b","most","coming"] f fd:=by
   have e:∃C f fd,PySem.W.nsIn (ai KX) mainGlobals "Hand"=some (some (.ref C))/\Y0.de (ai KX) C "tie_lets" "Hand.tie_lets" Y0.cp ["self","b","most","coming"] f fd:=by
    unfold ai
    refine' ⟨_,_,_,?aC,Y0.cb ?a ?i ?l ?c ?k ?b⟩
    (case aC|a|i|l|c|k=>k_is);(case b=>exact Cz fun _ _ _ _ _ _ _ _ _ _=>rfl)
   obtain ⟨C,f,fd,e1,e2⟩:=e;rw [G8] at e1;cases e1;exact ⟨f,fd,e2⟩
  obtain ⟨O9,Ik,G0⟩:∃f fd,Y0.de (ai KX) Uc "wait_lets" "Hand.wait_lets" Y0.bX ["self","end","least"] f fd:=by
   have e:∃C f fd,PySem.W.nsIn (ai KX) mainGlobals "Hand"=some (some (.ref C))/\Y0.de (ai KX) C "wait_lets" "Hand.wait_lets" Y0.bX ["self","end","least"] f fd:=by
    unfold ai
    refine' ⟨_,_,_,?aC,Y0.cb ?a ?i ?l ?c ?k ?b⟩
    (case aC|a|i|l|c|k=>k_is);(case b=>exact rC fun _ _ _ _ _ _ _ _ _=>rfl)
   obtain ⟨C,f,fd,e1,e2⟩:=e;rw [G8] at e1;cases e1;exact ⟨f,fd,e2⟩
  obtain ⟨O4,Ie,Gv⟩:∃f fd,Y0.de (ai KX) Uc "lets" "Hand.lets" Y0.cq ["self","moment","coming"] f fd:=by
   have e:∃C f fd,PySem.W.nsIn (ai KX) mainGlobals "Hand"=some (some (.ref C))/\Y0.de (ai KX) C "lets" "Hand.lets" Y0.cq ["self","moment","coming"] f fd:=by
    unfold ai
    refine' ⟨_,_,_,?aC,Y0.cb ?a ?i ?l ?c ?k ?b⟩
    (case aC|a|i|l|c|k=>k_is);(case b=>exact rC fun _ _ _ _ _ _ _ _ _=>rfl)
   obtain ⟨C,f,fd,e1,e2⟩:=e;rw [G8] at e1;cases e1;exact ⟨f,fd,e2⟩
  obtain ⟨O0,Ia,Gq⟩:∃f fd,Y0.de (ai KX) Uc "all_let" "Hand.all_let" Y0.a_ ["self"] f fd:=by
   have e:∃C f fd,PySem.W.nsIn (ai KX) mainGlobals "Hand"=some (some (.ref C))/\Y0.de (ai KX) C "all_let" "Hand.all_let" Y0.a_ ["self"] f fd:=by
    unfold ai
    refine' ⟨_,_,_,?aC,Y0.cb ?a ?i ?l ?c ?k ?b⟩
    (case aC|a|i|l|c|k=>k_is);(case b=>exact oo fun _ _ _ _ _ _ _=>rfl)
   obtain ⟨C,f,fd,e1,e2⟩:=e;rw [G8] at e1;cases e1;exact ⟨f,fd,e2⟩
  obtain ⟨O1,Ib,Gr⟩:∃f fd,Y0.de (ai KX) Uc "goes" "Hand.goes" Y0.dm ["self","fallen"] f fd:=by
   have e:∃C f fd,PySem.W.nsIn (ai KX) mainGlobals "Hand"=some (some (.ref C))/\Y0.de (ai KX) C "goes" "Hand.goes" Y0.dm ["self","fallen"] f fd:=by
    unfold ai
    refine' ⟨_,_,_,?aC,Y0.cb ?a ?i ?l ?c ?k ?b⟩
    (case aC|a|i|l|c|k=>k_is);(case b=>exact jk fun _ _ _ _ _ _ _ _=>rfl)
   obtain ⟨C,f,fd,e1,e2⟩:=e;rw [G8] at e1;cases e1;exact ⟨f,fd,e2⟩
  obtain ⟨Ed,Ue,Jd⟩:∃f fd,Y0.Fn (ai KX) mg "are_two_moments" Y0.aS ["many","one","other"] f fd:=by
   unfold ai
   refine' ⟨_,_,Y0.aX KX G ?a ?l ?c ?k ?b⟩
   (case a|l|c|k=>k_is);(case b=>exact rC fun _ _ _ _ _ _ _ _ _=>rfl)
  obtain ⟨E2,U1,J0⟩:∃f fd,Y0.Fn (ai KX) mg "look_over_size" Y0.bV ["many","last"] f fd:=by
   unfold ai
   refine' ⟨_,_,Y0.aX KX G ?a ?l ?c ?k ?b⟩
   (case a|l|c|k=>k_is);(case b=>exact jk fun _ _ _ _ _ _ _ _=>rfl)
  obtain ⟨E3,U2,J1⟩:∃f fd,Y0.Fn (ai KX) mg "look_over_ties" Y0.bU ["many","ties"] f fd:=by
   unfold ai
   refine' ⟨_,_,Y0.aX KX G ?a ?l ?c ?k ?b⟩
   (case a|l|c|k=>k_is);(case b=>exact jk fun _ _ _ _ _ _ _ _=>rfl)
  obtain ⟨E1,U0,Jz⟩:∃f fd,Y0.Fn (ai KX) mg "look_over_falls" Y0.aR ["many","falls"] f fd:=by
   unfold ai
   refine' ⟨_,_,Y0.aX KX G ?a ?l ?c ?k ?b⟩
   (case a|l|c|k=>k_is);(case b=>exact jk fun _ _ _ _ _ _ _ _=>rfl)
  have Jc:∃C,Y0.CA (ai KX) mg C/\PySem.W.nsIn (ai KX) mainGlobals "Web"=some (some (.ref C)):=by
   unfold ai
   refine' ⟨_,Y0.xc KX G ?aC ?pg ?hd ?po ?sa ?mk ?kc ?n1 ?n2 ?n3 ?n4,?aD⟩
   (case aC|pg|hd|po|sa|mk|kc|n1|n2|n3|n4|aD=>k_is)
  obtain ⟨Ud,Jc,G9⟩:=Jc;obtain ⟨Ob,Ea,J9⟩:∃f fd,Y0.de (ai KX) Ud "__init__" "Web.__init__" Y0.dF ["self","many","last","ties","falls"] f fd:=by
   have e:∃C f fd,PySem.W.nsIn (ai KX) mainGlobals "Web"=some (some (.ref C))/\Y0.de (ai KX) C "__init__" "Web.__init__" Y0.dF ["self","many","last","ties","falls"] f fd:=by
    unfold ai
    refine' ⟨_,_,_,?aC,Y0.cb ?a ?i ?l ?c ?k ?b⟩
    (case aC|a|i|l|c|k=>k_is);(case b=>exact bn5 fun _ _ _ _ _ _ _ _ _ _ _=>rfl)
   obtain ⟨C,f,fd,e1,e2⟩:=e;rw [G9] at e1;cases e1;exact ⟨f,fd,e2⟩
  obtain ⟨Od,Ec,Gc⟩:∃f fd,Y0.de (ai KX) Ud "ties" "Web.ties" Y0.dE ["self"] f fd:=by
   have e:∃C f fd,PySem.W.nsIn (ai KX) mainGlobals "Web"=some (some (.ref C))/\Y0.de (ai KX) C "ties" "Web.ties" Y0.dE ["self"] f fd:=by
    unfold ai
    refine' ⟨_,_,_,?aC,Y0.cb ?a ?i ?l ?c ?k ?b⟩
    (case aC|a|i|l|c|k=>k_is);(case b=>exact oo fun _ _ _ _ _ _ _=>rfl)
   obtain ⟨C,f,fd,e1,e2⟩:=e;rw [G9] at e1;cases e1;exact ⟨f,fd,e2⟩
  obtain ⟨Oa,U9,J8⟩:∃f fd,Y0.de (ai KX) Ud "falls" "Web.falls" Y0.dj ["self"] f fd:=by
   have e:∃C f fd,PySem.W.nsIn (ai KX) mainGlobals "Web"=some (some (.ref C))/\Y0.de (ai KX) C "falls" "Web.falls" Y0.dj ["self"] f fd:=by
    unfold ai
    refine' ⟨_,_,_,?aC,Y0.cb ?a ?i ?l ?c ?k ?b⟩
    (case aC|a|i|l|c|k=>k_is);(case b=>exact oo fun _ _ _ _ _ _ _=>rfl)
   obtain ⟨C,f,fd,e1,e2⟩:=e;rw [G9] at e1;cases e1;exact ⟨f,fd,e2⟩
  obtain ⟨Oc,Eb,Gb⟩:∃f fd,Y0.de (ai KX) Ud "own" "Web.own" Y0.cQ ["self"] f fd:=by
   have e:∃C f fd,PySem.W.nsIn (ai KX) mainGlobals "Web"=some (some (.ref C))/\Y0.de (ai KX) C "own" "Web.own" Y0.cQ ["self"] f fd:=by
    unfold ai
    refine' ⟨_,_,_,?aC,Y0.cb ?a ?i ?l ?c ?k ?b⟩
    (case aC|a|i|l|c|k=>k_is);(case b=>exact oo fun _ _ _ _ _ _ _=>rfl)
   obtain ⟨C,f,fd,e1,e2⟩:=e;rw [G9] at e1;cases e1;exact ⟨f,fd,e2⟩
  obtain ⟨Ev,Uw,Jv⟩:∃f fd,Y0.Fn (ai KX) mg "_law_next" Y0.iY ["_law_dice","_law_many"] f fd:=by
   unfold ai
   refine' ⟨_,_,Y0.aX KX G ?a ?l ?c ?k ?b⟩
   (case a|l|c|k=>k_is);(case b=>exact jk fun _ _ _ _ _ _ _ _=>rfl)
  obtain ⟨Eu,Uv,Ju⟩:∃f fd,Y0.Fn (ai KX) mg "_law_named" Y0.jS ["_law_moment","_law_many","_law_turn"] f fd:=by
   unfold ai
   refine' ⟨_,_,Y0.aX KX G ?a ?l ?c ?k ?b⟩
   (case a|l|c|k=>k_is);(case b=>exact rC fun _ _ _ _ _ _ _ _ _=>rfl)
  obtain ⟨Es,Ut,Jr⟩:∃f fd,Y0.Fn (ai KX) mg "_law_falls" Y0.jT ["_law_d","_law_many","_law_wide"] f fd:=by
   unfold ai
   refine' ⟨_,_,Y0.aX KX G ?a ?l ?c ?k ?b⟩
   (case a|l|c|k=>k_is);(case b=>exact rC fun _ _ _ _ _ _ _ _ _=>rfl)
  obtain ⟨Ey,Uy,Jx⟩:∃f fd,Y0.Fn (ai KX) mg "_law_ties" Y0.kT ["_law_d","_law_many","_law_last","_law_wide"] f fd:=by
   unfold ai
   refine' ⟨_,_,Y0.aX KX G ?a ?l ?c ?k ?b⟩
   (case a|l|c|k=>k_is);(case b=>exact Cz fun _ _ _ _ _ _ _ _ _ _=>rfl)
  obtain ⟨Ez,Uz,Jy⟩:∃f fd,Y0.Fn (ai KX) mg "_law_web" Y0.qr ["_law_d","_law_most","_law_last","_law_wide"] f fd:=by
   unfold ai
   refine' ⟨_,_,Y0.aX KX G ?a ?l ?c ?k ?b⟩
   (case a|l|c|k=>k_is);(case b=>exact Cz fun _ _ _ _ _ _ _ _ _ _=>rfl)
  obtain ⟨Er,Us,Jq⟩:∃f fd,Y0.Fn (ai KX) mg "_law_bounds" Y0.fJ ["_law_w"] f fd:=by
   unfold ai
   refine' ⟨_,_,Y0.aX KX G ?a ?l ?c ?k ?b⟩
   (case a|l|c|k=>k_is);(case b=>exact oo fun _ _ _ _ _ _ _=>rfl)
  obtain ⟨Et,Uu,Js⟩:∃f fd,Y0.Fn (ai KX) mg "_law_keeps" Y0.fk ["_law_w","_law_times"] f fd:=by
   unfold ai
   refine' ⟨_,_,Y0.aX KX G ?a ?l ?c ?k ?b⟩
   (case a|l|c|k=>k_is);(case b=>exact jk fun _ _ _ _ _ _ _ _=>rfl)
  obtain ⟨Ew,Ux,Jw⟩:∃f fd,Y0.Fn (ai KX) mg "_law_played" Y0.fC ["_law_hand","_law_w","_law_out"] f fd:=by
   unfold ai
   refine' ⟨_,_,Y0.aX KX G ?a ?l ?c ?k ?b⟩
   (case a|l|c|k=>k_is);(case b=>exact rC fun _ _ _ _ _ _ _ _ _=>rfl)
  have Jp:∃f fd,Y0.Fn (ai KX) mg "law" Y0.qu ["_law_script"] f fd/\∀(s:Shared) (u:Value),BindsTo s fd ⟨[u],[]⟩ [("_law_script",u)]:=by
   unfold ai
   refine' ⟨_,_,Y0.aX KX G ?a ?l ?c ?k ?b,?bb⟩
   (case a|l|c|k=>k_is);(case b=>exact oo fun _ _ _ _ _ _ _=>rfl);(case bb=>exact fun s u=>.of_eq rfl)
  obtain ⟨Ep,Ur,Jp,Ua⟩:=Jp;have TW:Y0.lD mg:=by
   refine' Y0.tL KX G ?a ?b ?c ?d ?e
   (case a|b|c|d|e=>k_is)
  have TU:Y0.yH (ai KX) mg:=by
   unfold ai
   refine' Y0.tM KX G ?a ?t ?z
   (case a=>k_is);(case t=>with_unfolding_all rfl);(case z=>k_is)
  have Z:PySem.W.nsIn (ai KX) mainGlobals "min"=some none/\PySem.W.nsIn (ai KX) mainGlobals "max"=some none/\PySem.W.nsIn (ai KX) mainGlobals "sorted"=some none/\PySem.W.nsIn (ai KX) mainGlobals "all"=some none/\PySem.W.nsIn (ai KX) mainGlobals "int"=some none:=by
   unfold ai
   refine' ⟨?a,?b,?c,?d,?e⟩
   (case a|b|c|d|e=>k_is)
  have zl:=Ja.tc.len;have zr:=Ja.tc.range;have zt:=TU.tuple;have zm:=uR KX G Z.1;have zx:=uR KX G Z.2.1;have zs:=uR KX G Z.2.2.1;have za:=uR KX G Z.2.2.2.1;have zi:=uR KX G Z.2.2.2.2;have e0:=BB.symm.trans Jp.g;cases e0;refine ⟨Ur,Ua,fun base kb nb=>?gg⟩
  case gg=>
   have GN:=Y0.ue (P:=iq) (w:=w) (base:=base) Jv zl;have GM:=Y0.qz (P:=iq) (w:=w) (base:=base) Ju;have GF:=Y0.qD Jr Jv GN zm zr;have GT:=Y0.tY Jx Jv GN zm zx zr;have GW:=Y0.xw Jy Jv GN Ju GM Jr GF Jx GT;have G2:=Y0.xy (P:=iq) (w:=w) (base:=base) Jd;have GS:=Y0.uc (P:=iq) (w:=w) (base:=base) J0 TW;have GLT:=Y0.qA J1 TW Jd G2;have GLF:=Y0.oJ Jz TW Jd G2;have GI:=Y0.uj J9.F TW Jc.tc J0 GS J1 GLT Jz GLF;have Gt:=Y0.qy (P:=iq) (w:=w) (base:=base) Gc.F TW Jc.tc;have Gf:=Y0.oN (P:=iq) (w:=w) (base:=base) J8.F TW Jc.tc;have GRo:=Y0.ud (P:=iq) (w:=w) (base:=base) J4 ⟨zr⟩ Jc.tc;have GSp:=Y0.ua (P:=iq) (w:=w) (base:=base) J5;have GBw:=Y0.tW Jf Jc.tc J4 GRo J5 GSp J8.cR J8.b Gf;have GTo:=Y0.tX J6 Jc.tc Jf GBw Gc.cR Gc.b Gt;have T9:=Y0.qG Jm Jc.tc J8.cR J8.b Gf;have W1:=Y0.x9 (P:=iq) (w:=w) (base:=base) Jk;have W2:=Y0.uh (P:=iq) (w:=w) (base:=base) Ji;have W3:=Y0.ub (P:=iq) (w:=w) (base:=base) Jj;have W4:=Y0.t_ (P:=iq) (w:=w) (base:=base) Jl ⟨zm⟩;have W5:=Y0.ur (P:=iq) (w:=w) (base:=base) Jg ⟨zm⟩;have W6:=Y0.qE (P:=iq) (w:=w) (base:=base) Jh ⟨zm⟩;have GWf:=Y0.my J7 TU Jk W1 Ji W2 Jj W3 Jl W4 Jg W5 Jh W6;have GBa:=Y0.uq (P:=iq) (w:=w) (base:=base) Je;have GNw:=Y0.uf (P:=iq) (w:=w) (base:=base) Gk.F Ja.tc;have T4:=Y0.tZ Gn.F Ja.tc Gk.cR Gk.b GNw Je GBa;have T8:=Y0.um Ge.F Ja.tc Gn.cR Gn.b T4 J7 GWf;have GKn:=Y0.qB (P:=iq) (w:=w) (base:=base) Gm.F Ja.tc;have T3:=Y0.oF (P:=iq) (w:=w) (base:=base) Gp.F Ja.tc;have GFw:=Y0.kY Gi.F Ja.tc Ge.cR Ge.b T8 Gp.cR Gp.b T3;have GFt:=Y0.mx Gh.F Ja.tc Ge.cR Ge.b T8 Gp.cR Gp.b T3 Gm.cR Gm.b GKn;have GDa:=Y0.mz Gg.F Ja.tc Gh.cR Gh.b GFt Gi.cR Gi.b GFw;have GCi:=Y0.qF Gj.F Ja.tc Jc.tc Gn.cR Gn.b T4 Jm T9 J6 GTo;have GBd:=Y0.uo (P:=iq) (w:=w) (base:=base) Gd.F Ja.tc zs;have GNn:=Y0.oH (P:=iq) (w:=w) (base:=base) J2 zr zs;have GPu:=Y0.mr J3 zl zt J2 GNn;have GIt:=Y0.oK (P:=iq) (w:=w) (base:=base) Jn;have T6:=Y0.ui Jo Ja.tc ⟨Ja.Bn,Gj.a,Gj.i,Ja.kc⟩ Ja.g Gj.b GCi Gg.cR Gg.b GDa Gd.cR Gd.b GBd J3 GPu Jn GIt;have GOw:=Y0.xA (P:=iq) (w:=w) (base:=base) Gb.F zr Jc.tc;have T5:=Y0.qx (P:=iq) (w:=w) (base:=base) Gz.F Jb.tc TW.list;have T7:=Y0.oM (P:=iq) (w:=w) (base:=base) Gu.F Jb.tc;have GLe:=Y0.mv Gx.F Jb.tc Gu.cR Gu.b T7;have GTl:=Y0.mq (P:=iq) (w:=w) (base:=base) Gy.F Jb.tc;have GWl:=Y0.kW (P:=iq) (w:=w) (base:=base) G0.F Jb.tc;have GLt:=Y0.ug Gv.F Jb.tc za Gy.cR Gy.b GTl G0.cR G0.b GWl;have GAl:=Y0.oO Gq.F Jb.tc Gv.cR Gv.b GLt;have GLo:=Y0.kX Gw.F Jb.tc Gx.cR Gx.b GLe Gu.cR Gu.b T7;have GGo:=Y0.uk Gr.F Jb.tc Gw.cR Gw.b GLo Gq.cR Gq.b GAl;have GHi:=Y0.qC Gs.F Jb.tc Jc.tc Jo T6 Jm T9 Gb.cR Gb.b GOw;have GLB:=(Y0.mw (P:=iq) (w:=w) (base:=base) Jq zr).fn;have GLK:=Y0.oI Js Jq GLB;have GPl:=Y0.oG Jw zr zl Jb.tc Gz.cR Gz.b T5 Gr.cR Gr.b GGo;exact Y0.xB Jp zi zm Jc.tc Jb.tc Jb.g Jy GW ⟨Jc.Bn,J9.a,J9.i,Jc.kc⟩ J9.b GI Jo T6 ⟨Jb.Bn,Gs.a,Gs.i,Jb.kc⟩ Gs.b GHi Jv GN Gz.cR Gz.b T5 Jw GPl Js GLK
