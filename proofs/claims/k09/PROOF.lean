import PyProof.Rows.All
import Wide.All
import OpenK.AllK
import Wide.FinOn
import Lean
import PyProof.EqAt
import PyProof.EqKinds
import PyProof.TupleCall
import PySem.Challenge.RW_momentties_k09_whole_papers_show
import KE.KTabLook
import PyProof.DictWalks
import PyProof.Rows.DictUnroll
import PyProof.Rows.SortShell
import PyProof.CollectWalk
import PyProof.DictTruth
import KE.KSortTup
import KE.LcSums
import PyProof.IsRules
abbrev ZAa := @List.length_map
abbrev ZAb := @List.getElem?_eq_some_iff
abbrev ZAc := @Nat.le_refl
abbrev ZAd := @List.getElem?_eq_getElem
abbrev ZAe := @PySem.Heap.get?_push_of_some
abbrev ZAf := @Classical.byContradiction
abbrev ZAg := @List.getElem?_map
abbrev ZAh := @List.mem_of_getElem?
abbrev ZAi := @List.size_toArray
abbrev ZAj := @List.length_append
abbrev ZAk := @List.mem_cons_of_mem
abbrev ZAl := @List.mem_cons_self
abbrev ZAm := @Bool.false_ne_true
abbrev ZAn := @Option.some.inj
abbrev ZAo := @List.lookup_cons
abbrev ZAp := @List.map_append
abbrev ZAq := @Nat.zero_le
abbrev ZAr := @Nat.le_of_lt
abbrev ZAs := @PySem.Heap.lt_size
abbrev ZAt := @List.mem_singleton
abbrev ZAu := @List.mem_cons
abbrev ZAv := @List.map_cons
abbrev ZAw := @Nat.le_trans
abbrev ZAx := @PySem.Heap.get?_push_size
abbrev ZAy := @List.take_length
abbrev ZAz := @Nat.ne_of_lt
abbrev ZA0 := @List.getElem?_append_right
abbrev ZA1 := @List.length_take
abbrev ZA2 := @Nat.lt_of_lt_of_le
abbrev ZA3 := @List.mem_append_right
abbrev ZA4 := @List.mem_append
abbrev ZA5 := @List.length_cons
abbrev ZA6 := @List.getElem?_append_left
abbrev ZA7 := @List.mem_map
abbrev ZA8 := @List.getElem_of_mem
abbrev ZA9 := @List.pairwise_iff_getElem
abbrev ZBa := @List.take_succ
abbrev ZBb := @List.length_replicate
abbrev ZBc := @List.all_eq_true
abbrev ZBd := @Int.toNat_natCast
abbrev ZBe := @decide_eq_true_eq
abbrev ZBf := @Option.some.injEq
abbrev ZBg := @List.getD_eq_getElem?_getD
abbrev ZBh := @List.filterMap_cons_some
abbrev ZBi := @Nat.lt_irrefl
abbrev ZBj := @List.getElem_mem
abbrev ZBk := @List.length_nil
abbrev ZBm := @Nat.not_lt_zero
abbrev ZBn := @beq_self_eq_true
abbrev ZBo := @decide_eq_true
abbrev ZBp := @decide_eq_false
abbrev ZBq := PySem.W.Frag
noncomputable abbrev ZBr := PySem.Challenge.rw_momentties_k09_whole_papers_show.prog
set_option Elab.async false
set_option linter.all false
set_option maxRecDepth 100000
namespace L2
open PySem PySem.Spec PyProof.Rows
noncomputable abbrev zla (C:Addr) (dx:Option Addr) (t tb:Value):Obj:={ cls:=.ref C,dict:=dx,data:=.fields #[t,tb,.none,.none,.bool false,.none] }
noncomputable def Hd (A:Around) (h:Heap):Prop:=A.handled=none∨∃(a C:Addr) (dx:Option Addr) (t tb:Value),A.handled=some (.ref a)∧h.get? a=some (zla C dx t tb)
theorem zj0:entryFor table "proto.unchain"=some Builtin.«proto.unchain»:=entryFor_of_tree (by kernel_rfl)
section
variable {prog:Program} {w:World} {A:Around} {E:Value->Shared->Prop} {s:Shared}
theorem Hd.keep {h h':Heap} (q:Hd A h) (k:∀b C dx t tb,h.get? b=some (zla C dx t tb)->h'.get? b=some (zla C dx t tb)):Hd A h':=by
 rcases q with q | ⟨a,C,dx,t,tb,q,e⟩
 ·exact .inl q
 ·exact .inr ⟨a,C,dx,t,tb,q,k a C dx t tb e⟩
theorem zq8 {α:Type} {e:Addr} {oe:Obj} {vs:Array Value} {Q:α->Shared->Prop} (q:Hd A s.heap) (he:s.heap.get? e=some oe) (hc:∃n,oe.cls=.type n) (hd:oe.data=.fields vs) (hz:2<vs.size)
 (h:∀h',Heap.SameBut e s.heap h'->(∃o,h'.get? e=some o∧o.cls=oe.cls)->E (.ref e) { s with heap:=h' }):wpAny (model prog w) A (raiseNew (.ref e):Sem α) Q E s:=by
 unfold raiseNew
 refine wpAny_bind (wpAny_handled ?_)
 rcases q with q | ⟨a,C,dx,t,tb,q,ea⟩
 ·rw [q]
  exact wpAny_bind (wpAny_pure (wpAny_throw (h s.heap (Heap.SameBut.refl ..) ⟨oe,he,rfl⟩)))
 ·rw [q]
  have ne:a≠e:=fun z=>by
   rw [z,he] at ea
   obtain ⟨n,hn⟩:=hc
   rw [ZAn ea] at hn
   cases hn
  dsimp only
  rw [if_pos (show (Value.ref a !=Value.ref e)=true by simp [ne])]
  refine wpAny_bind (wpAny_holding (wpAny_runValue (codeAny_builtin zj0 ?_)))
  show wpAny _ _ (field (.ref a) 2>>=_) _ _ s
  refine wpAny_bind (wpAny_field ea rfl (x:=.none) rfl ?_)
  rw [if_pos (by rfl)]
  refine wpAny_bind (wpAny_pure (wpAny_pure ?_))
  refine wpAny_bind (wpAny_setField (a:=e) he hd hz ?_)
  exact wpAny_throw (h _ (Heap.SameBut.update ..) ⟨_,Heap.get?_update_self _ he (Obj.isFreed_of_fields (Obj.data_mapFields hd _)),Obj.cls_mapFields ..⟩)
theorem zjd {α:Type} {Q:α->Shared->Prop} (q:Hd A s.heap)
 (h:∀e h',(∀b o,s.heap.get? b=some o->h'.get? b=some o)->(∃o,h'.get? e=some o∧o.cls=.type "StopIteration")->E (.ref e) { s with heap:=h' }):
 wpAny (model prog w) A (newExc (.type "StopIteration") []>>=fun x=>(raiseNew x:Sem α)) Q E s:=by
 refine wpAny_bind ?_
 unfold newExc newTuple
 refine wpAny_bind (wpAny_newObj_type ?_ (by size_fits))
 refine wpAny_bind (wpAny_of_eq (a:=Value.none) (by first | rfl | (simp only [firstArgMember];rfl)) ?_)
 refine wpAny_newObj_type ?_ (by size_fits)
 refine zq8 (q.keep fun b C dx t tb e=>ZAe _ (ZAe _ e)) (ZAx _ rfl) ⟨_,rfl⟩ rfl (by simp;omega) fun h' sb ⟨o,eo,ec⟩=>?_
 refine h _ h' (fun b o' e=>?_) ⟨o,eo,ec⟩
 have e1:=ZAe (h:=s.heap) { cls:=.type "tuple",data:=.seq ([]:List Value).toArray } e
 exact (sb.2 b (ZAz (ZAs e1))).trans (ZAe _ e1)
theorem zj1 {it:Addr} {s0:Shared} {e:Addr} {h':Heap} {Q:Option Value->Shared->Prop} (k:∀b o,b≠it->s0.heap.get? b=some o->h'.get? b=some o) (t:∃o,h'.get? e=some o∧o.cls=.type "StopIteration") (hQ:∀h',Heap.ExtBut it s0.heap h'->Q none { s0 with heap:=h' }):
 wpAny (model prog w) A (isInstance (.ref e) (.type "StopIteration")) (fun b s'=>b=true∧Q none s') E { s0 with heap:=h' }:=by
 obtain ⟨o,e1,e2⟩:=t
 exact wpAny_isInstance (T:="StopIteration") (b:=true) ⟨o,e1,e2⟩ isSubtype_stop ⟨rfl,hQ h' fun b u hb e=>k b u hb e⟩
theorem zlz {it l:Addr} {i:Nat} {items:Array Value} {Q:Option Value->Shared->Prop} (q:Hd A s.heap) (st:s.heap.IsListIter it l i) (hl:s.heap.IsList l items) (hx:items[i]?=none)
 (hQ:∀h',Heap.ExtBut it s.heap h'->Q none { s with heap:=h' }):wpAny (model prog w) A (pyNext (.ref it)) Q E s:=by
 obtain ⟨u,hu,cu,du⟩:=id st
 obtain ⟨v,hv,_,nv,dv⟩:=hl
 unfold pyNext
 refine wpAny_bind (wpAny_attempt (wpAny_callSpecial?_slot (name:=Str.ofString "__next__") st.typeIs slot_listiter_next (wpAny_call_entry slot_listiter_next st.typeIs entry_listiter_next ?_ (args_listiter_next _))))
 show wpAny _ _ (field (.ref it) 0>>=_) _ _ s
 refine wpAny_bind (wpAny_field hu du (x:=.ref l) rfl ?_)
 rw [if_neg (show ¬((Value.ref l==Value.none)=true) from ZAm)]
 refine wpAny_bind (wpAny_field hu du (x:=.int i 0) rfl (wpAny_bind (wpAny_seqItems hv dv ?_)))
 simp only [ZBd,hx]
 refine wpAny_bind (wpAny_rule (wpAny_bind (wpAny_setField hu du (by simp) ?_)))
 have other:∀b o,b≠it->s.heap.get? b=some o->(s.heap.update it (Obj.mapFields (·.setIfInBounds 0 Value.none))).get? b=some o:=fun b o hb e=>(Heap.get?_update_other _ _ (Ne.symm hb)).trans e
 refine zjd (A:=A.in1) (s:={ s with heap:=s.heap.update it (Obj.mapFields (·.setIfInBounds 0 Value.none)) }) (Hd.keep (A:=A.in1) q fun b C dx t tb e=>other b _ (fun z=>?_) e) fun e h' kk te=>?_
 ·rw [z,hu] at e
  cases e
  cases cu
 ·refine wpAny_bind (wpAny_mono (zj1 (s0:=s) (fun b o hb z=>kk b o (other b o hb z)) te hQ) (fun b s' z=>?_) fun _ _ z=>z)
  obtain ⟨rfl,z⟩:=z
  exact wpAny_pure z
theorem zg1 {it:Addr} {x left step:Int} {Q:Option Value->Shared->Prop} (q:Hd A s.heap) (st:IsRangeIter s.heap it x left step) (hz:left≤0)
 (hQ:∀h',Heap.ExtBut it s.heap h'->Q none { s with heap:=h' }):wpAny (model prog w) A (pyNext (.ref it)) Q E s:=by
 have ty:s.TypeIs (.ref it) "range_iterator":=⟨_,st,rfl⟩
 unfold pyNext
 refine wpAny_bind (wpAny_attempt (wpAny_callSpecial?_slot (name:=Str.ofString "__next__") ty F.slot_range_iterator_next (wpAny_call_entry F.slot_range_iterator_next ty F.entry_range_iterator_next ?_ (F.args_range_iterator_next_1 _))))
 show wpAny _ _ (field (.ref it) 0>>=_) _ _ s
 refine wpAny_bind (wpAny_field st rfl (x:=rawInt x) rfl (wpAny_bind (wpAny_field st rfl (x:=rawInt left) rfl (wpAny_bind (wpAny_field st rfl (x:=rawInt step) rfl ?_)))))
 show wpAny _ _ (if left≤0 then _ else _) _ _ s
 rw [if_pos hz]
 refine wpAny_bind (wpAny_rule ?_)
 refine wpAny_bind ?_
 refine zjd (A:=A.in1) (s:=s) q fun e h' kk te=>?_
 refine wpAny_bind (wpAny_mono (zj1 (s0:=s) (fun b o _ z=>kk b o z) te hQ) (fun b s' z=>?_) fun _ _ z=>z)
 obtain ⟨rfl,z⟩:=z
 exact wpAny_pure z
theorem zil {it t:Addr} {i:Nat} {items:Array Value} {Q:Option Value->Shared->Prop} (q:Hd A s.heap) (st:IsTupIter s.heap it t i) (hl:IsTup s.heap t items) (hx:items[i]?=none)
 (hQ:∀h',Heap.ExtBut it s.heap h'->Q none { s with heap:=h' }):wpAny (model prog w) A (pyNext (.ref it)) Q E s:=by
 obtain ⟨u,hu,cu,du⟩:=id st
 obtain ⟨v,hv,_,nv,dv⟩:=hl
 unfold pyNext
 refine wpAny_bind (wpAny_attempt (wpAny_callSpecial?_slot (name:=Str.ofString "__next__") st.typeIs slot_tupleiter_next (wpAny_call_entry slot_tupleiter_next st.typeIs entry_tupleiter_next ?_ (args_tupleiter_next _))))
 show wpAny _ _ (field (.ref it) 0>>=_) _ _ s
 refine wpAny_bind (wpAny_field hu du (x:=.ref t) rfl ?_)
 rw [if_neg (show ¬((Value.ref t==Value.none)=true) from ZAm)]
 refine wpAny_bind (wpAny_field hu du (x:=.int i 0) rfl (wpAny_bind (wpAny_seqItems hv dv ?_)))
 simp only [ZBd,hx]
 refine wpAny_bind (wpAny_rule (wpAny_bind (wpAny_setField hu du (by simp) ?_)))
 have other:∀b o,b≠it->s.heap.get? b=some o->(s.heap.update it (Obj.mapFields (·.setIfInBounds 0 Value.none))).get? b=some o:=fun b o hb e=>(Heap.get?_update_other _ _ (Ne.symm hb)).trans e
 refine zjd (A:=A.in1) (s:={ s with heap:=s.heap.update it (Obj.mapFields (·.setIfInBounds 0 Value.none)) }) (Hd.keep (A:=A.in1) q fun b C dx tt tb e=>other b _ (fun z=>?_) e) fun e h' kk te=>?_
 ·rw [z,hu] at e
  cases e
  cases cu
 ·refine wpAny_bind (wpAny_mono (zj1 (s0:=s) (fun b o hb z=>kk b o (other b o hb z)) te hQ) (fun b s' z=>?_) fun _ _ z=>z)
  obtain ⟨rfl,z⟩:=z
  exact wpAny_pure z
theorem zob {t:Addr} {items:Array Value} {targets:List (Bool×(Value->Sem Unit))} {Q:Unit->Shared->Prop} (q:Hd A s.heap) (ht:IsTup s.heap t items) (hn:targets.length=items.size) (hst:targets.findIdx? (·.1)=none)
 (h:∀h',Heap.ExtBut s.heap.objs.size s.heap h'->wpAny (model prog w) A (assignInOrder (targets.map (·.2)) items.toList) Q E { s with heap:=h' }):wpAny (model prog w) A (unpack (.ref t) targets) Q E s:=by
 have hlt:t≠s.heap.objs.size:=by obtain ⟨o,ho,_⟩:=ht;exact ZAz (ZAs ho)
 unfold unpack
 rw [hn,hst]
 refine wpAny_bind (wpAny_holding ?_)
 unfold unpackItems notIterableAtAll
 refine wpAny_bind (wpAny_bind (wpAny_specialOf ht.typeIs slot_tuple_iter.lookup (wpAny_pure ?_)))
 simp only [Bool.false_eq_true,if_false]
 refine wpAny_bind (wpAny_holding (iter_tuple ht ?_))
 refine wpAny_bind (wpAny_holding (draw_tuple hlt items.size 0 _ _ ⟨_,ZAx _ rfl,rfl,rfl⟩ (ht.push _) (by omega) fun h₁ st₁ sb₁=>?_))
 have all:List.take items.size (List.drop 0 items.toList)=items.toList:=by rw [List.drop_zero];exact List.take_of_length_le (by simp)
 rw [all,if_neg (by simp)]
 have ht₁:IsTup h₁ t items:=(ht.push _).extBut sb₁.extBut hlt
 refine wpAny_bind (wpAny_holding (zil (s:={ s with heap:=h₁ }) (Hd.keep q fun b C dx tt tb e=>(sb₁.2 b (ZAz (ZAs e))).trans (ZAe _ e)) st₁ ht₁ (by simp) fun h₂ k₂=>?_))
 simp only [Option.isSome_none,Bool.false_eq_true,if_false]
 exact wpAny_pure (h h₂ fun b o hb e=>k₂ b o hb (sb₁.extBut b o hb (ZAe _ e)))
theorem zjj {it:Addr} {lo:Int} {i n:Nat} {Q:Option Value->Shared->Prop} (hi:i<n) (st:IsRangeIter s.heap it (lo+(i:Nat)*1) ((n:Int)-(i:Nat)) 1)
 (hQ:∀(t:Tok) h' tk,IsRangeIter h' it (lo+((i+1:Nat):Int)*1) ((n:Int)-((i+1:Nat):Int)) 1->(∀b o,b∉[it]->s.heap.get? b=some o->h'.get? b=some o)->Q (some (.int (lo+(i:Nat)*1) t)) { s with heap:=h',toks:=tk }):
 wpAny (model prog w) A (pyNext (.ref it)) Q E s:=by
 refine wpAny_pyNext_range_item st (by omega) fun h' st' sb=>?_
 refine hQ _ h' _ ?_ fun b o hb e=>sb.extBut b o (fun z=>hb (by simp [z])) e
 have e1:lo+((i+1:Nat):Int)*1=lo+(i:Int)*1+1:=by omega
 have e2:(n:Int)-((i+1:Nat):Int)=(n:Int)-(i:Int)-1:=by omega
 rw [e1,e2]
 exact st'
end
end L2
namespace L2
open PySem PySem.Spec PyProof.Rows
noncomputable abbrev Key:=Sum Int Str
noncomputable def zl2:Key->Value->Bool
 | .inl k,v=>Value.isInt k v
 | .inr x,v=>Value.isStrOf x v
noncomputable def zAd (w:World):Key->Int
 | .inl k=>hashInt k
 | .inr x=>hashStr w x
theorem zb3:∀{k:Key} {v:Value},zl2 k v=true->(∃i t,k=Sum.inl i∧v=Value.int i t)∨(∃x t,k=Sum.inr x∧v=Value.str x t)
 | .inl i,v,h=>by
  obtain ⟨t,e⟩:=Value.isInt_shape (k:=i) (v:=v) h
  exact .inl ⟨i,t,rfl,e⟩
 | .inr x,v,h=>by
  obtain ⟨t,e⟩:=Value.isStrOf_shape (x:=x) (v:=v) h
  exact .inr ⟨x,t,rfl,e⟩
theorem zpt (i:Int) (t:Tok):zl2 (.inl i) (.int i t)=true:=by simp [zl2,Value.isInt]
theorem zps (x:Str) (t:Tok):zl2 (.inr x) (.str x t)=true:=by simp [zl2,Value.isStrOf]
theorem zwe (a b:Int):decide ((Sum.inl a:Key)=Sum.inl b)=(a==b):=by
 by_cases e:a=b
 ·subst e;simp
 ·have h:¬(Sum.inl a:Key)=Sum.inl b:=fun q=>e (Sum.inl.inj q)
  rw [ZBp h]
  exact (beq_eq_false_iff_ne.mpr e).symm
theorem zwb (a b:Str):decide ((Sum.inr a:Key)=Sum.inr b)=decide (a=b):=by
 by_cases e:a=b
 ·subst e;simp
 ·have h:¬(Sum.inr a:Key)=Sum.inr b:=fun q=>e (Sum.inr.inj q)
  rw [ZBp h,ZBp e]
theorem zwd (a:Int) (b:Str):decide ((Sum.inl a:Key)=Sum.inr b)=false:=ZBp (fun q=>nomatch q)
theorem zwc (a:Str) (b:Int):decide ((Sum.inr a:Key)=Sum.inl b)=false:=ZBp (fun q=>nomatch q)
noncomputable def zck (prog:Program) (w:World):PySem.KeyKind prog w Key where
 is:=zl2
 hash:=zAd w
 inj:=fun v a b ha hb=>by
  rcases zb3 ha with ⟨i,t,rfl,rfl⟩ | ⟨x,t,rfl,rfl⟩
  ·rcases zb3 hb with ⟨j,u,rfl,e⟩ | ⟨y,u,rfl,e⟩
   ·injection e with e1 _;rw [e1]
   ·exact nomatch e
  ·rcases zb3 hb with ⟨j,u,rfl,e⟩ | ⟨y,u,rfl,e⟩
   ·exact nomatch e
   ·injection e with e1 _;rw [e1]
 byValue:=fun k v h=>by
  rcases zb3 h with ⟨i,t,rfl,rfl⟩ | ⟨x,t,rfl,rfl⟩<;>rfl
 pyHash:=fun hv h=>by
  rcases zb3 hv with ⟨i,t,rfl,rfl⟩ | ⟨x,t,rfl,rfl⟩
  ·exact wpAny_pyHash_int h
  ·exact wpAny_pyHash_str h
 eqBool:=fun hu hv h=>by
  rcases zb3 hu with ⟨i,t,rfl,rfl⟩ | ⟨x,t,rfl,rfl⟩
  ·rcases zb3 hv with ⟨j,u,rfl,rfl⟩ | ⟨y,u,rfl,rfl⟩
   ·rw [zwe] at h;exact wpAny_eqBool_int h
   ·rw [zwd] at h;exact SeqAt.EqAt.int_str i t y u _ _ _ _ h
  ·rcases zb3 hv with ⟨j,u,rfl,rfl⟩ | ⟨y,u,rfl,rfl⟩
   ·rw [zwc] at h;exact SeqAt.EqAt.str_int x t j u _ _ _ _ h
   ·rw [zwb] at h;exact wpAny_eqBool_str h
 «strs»:=fun k x t v h=>by
  rcases zb3 h with ⟨i,u,rfl,e⟩ | ⟨y,u,rfl,e⟩
  ·exact nomatch e
  ·injection e with e1 _
   subst e1
   cases v<;>rfl
theorem zly (prog:Program) (w:World) (i:Int) (t:Tok):(zck prog w).is (.inl i) (.int i t)=true:=zpt i t
theorem zlx (prog:Program) (w:World) (x:Str) (t:Tok):(zck prog w).is (.inr x) (.str x t)=true:=zps x t
end L2
namespace L2
open PySem PySem.Spec PyProof.Rows
inductive V where
 | non | bl (b:Bool) | int (i:Int) | str (x:Str) | byt (b:Array UInt8) | flt (b:UInt64) | ref (a:Addr) | ty (n:String)
 deriving DecidableEq
noncomputable def zcm:V->Value->Prop
 | .non,u=>u=Value.none
 | .bl b,u=>u=Value.bool b
 | .int i,u=>∃t,u=Value.int i t
 | .str x,u=>∃t,u=Value.str x t
 | .byt b,u=>∃t,u=Value.bytes b t
 | .flt b,u=>∃t,u=Value.float b t
 | .ref a,u=>u=Value.ref a
 | .ty n,u=>u=Value.type n
noncomputable abbrev zcb:List V->List Value->Prop:=Paired zcm
theorem zcb.length {xs:List V} {us:List Value} (r:zcb xs us):xs.length=us.length:=Paired.length r
theorem zcb.get:∀{xs:List V} {us:List Value} {i:Nat} {x:V},zcb xs us->xs[i]?=some x->∃u,us[i]?=some u∧zcm x u
 | _,_,_,_,.nil,e=>by simp at e
 | _,_,0,_,.cons r _,e=>by simp at e;subst e;exact ⟨_,rfl,r⟩
 | _,_,i+1,x,.cons _ t,e=>by
  obtain ⟨u,h1,h2⟩:=zcb.get (i:=i) (x:=x) t (by simpa using e)
  exact ⟨u,by simpa using h1,h2⟩
theorem zcb.set {x:V} {u:Value} (r:zcm x u):∀{xs:List V} {us:List Value} (i:Nat),zcb xs us->zcb (xs.set i x) (us.set i u)
 | _,_,_,.nil=>.nil
 | _,_,0,.cons _ t=>.cons r t
 | _,_,i+1,.cons q t=>.cons q (zcb.set r i t)
theorem zcb.append {xs ys:List V} {us ws:List Value} (h:zcb xs us) (s:zcb ys ws):zcb (xs++ys) (us++ws):=by
 induction h with
 | nil=>exact s
 | cons r t ih=>exact .cons r ih
theorem zcb.take:∀{xs:List V} {us:List Value} (n:Nat),zcb xs us->zcb (xs.take n) (us.take n)
 | _,_,0,_=>.nil
 | _,_,_+1,.nil=>.nil
 | _,_,n+1,.cons r t=>.cons r (zcb.take n t)
theorem zcb.drop:∀{xs:List V} {us:List Value} (n:Nat),zcb xs us->zcb (xs.drop n) (us.drop n)
 | _,_,0,r=>r
 | _,_,_+1,.nil=>.nil
 | _,_,n+1,.cons _ t=>zcb.drop n t
noncomputable def zj8:Option V->Option Value->Prop
 | some v,some u=>zcm v u
 | none,none=>True
 | _,_=>False
noncomputable def KV {κ:Type}:List (κ×V)->List (κ×Value)->Prop:=Paired fun (p:κ×V) (q:κ×Value)=>p.1=q.1∧zcm p.2 q.2
noncomputable def kV:Key->V
 | .inl i=>.int i
 | .inr x=>.str x
inductive HO where
 | lst (xs:List V)
 | tup (xs:List V)
 | dK (kvs:List (Key×V)) | dT (kvs:List (List Key×V))
 | set (S:Int->Bool) (n:Nat)
 | ins (C dx:Addr) (fs:List (Str×V))
 | own (x:Addr)
 | xd (fs:List (Str×V))
 | met (f x:Addr)
 | rng (lo hi:Int)
 | frz (o:Obj) (u:HO)
 | tbl (ps:Array Value)
 | ext (φ:Heap->Prop)
noncomputable abbrev Hp:=Addr->Option HO
noncomputable def upd (H:Hp) (a:Addr) (o:HO):Hp:=fun b=>if b=a then some o else H b
theorem zab {H:Hp} {a:Addr} {o:HO}:upd H a o a=some o:=by unfold upd;rw [if_pos rfl]
theorem zaj {H:Hp} {a b:Addr} {o:HO} (h:b≠a):upd H a o b=H b:=by unfold upd;rw [if_neg h]
theorem zlo {H:Hp} {a:Addr} {o u:HO}:upd (upd H a o) a u=upd H a u:=by
 funext b;unfold upd;split<;>rfl
theorem zbp {H:Hp} {a b:Addr} {o u:HO} (h:H a=some o) (h':H b=some u) (d:o≠u):a≠b:=by
 intro e;subst e;rw [h] at h';exact d (ZAn h')
theorem zae {H:Hp} {a b:Addr} {o:HO} (h:H a=some o) (h':H b=none):a≠b:=by
 intro e;subst e;rw [h] at h';cases h'
section
variable (P:Program) (w:World)
noncomputable def zcd (H:Hp) (h:Heap) (a:Addr):HO->Prop
 | .lst xs=>xs.length≤sizeLine∧∃(its:List Value) (n:Nat),zcb xs its∧h.get? a=some { cls:=.type "list",data:=.seq its.toArray n }
 | .tup xs=>xs.length≤sizeLine∧∃its:List Value,zcb xs its∧IsTup h a its.toArray
 | .dK kvs=>kvs.length≤sizeLine∧(a==sysModules)=false∧∃vs,KV kvs vs∧h.DictOf (zck P w) a vs
 | .dT kvs=>kvs.length≤sizeLine∧(a==sysModules)=false∧∃xs:List (List Key×Addr×Value),
  Paired (fun (p:List Key×V) (q:List Key×Addr×Value)=>p.1=q.1∧H q.2.1=some (.tup (p.1.map kV))∧zcm p.2 q.2.2) kvs xs∧
  ∃o es ep,h.get? a=some o∧o.ExactDict∧o.data=.dict es ep∧es.toList=xs.map (entryOfKey (tupleKind (zck P w)))∧(xs.map (·.1)).Nodup
 | .set S n=>h.SetOf (intKind P w) a S n
 | .ins C dx fs=>H dx=some (.own a)∧fs.length≤1000∧dx≠a∧h.get? a=some (PySem.W.instObj C dx)∧
  ∃mA,h.Ns1 dx mA∧(∀f,zj8 (fs.lookup f) (mA f))∧PySem.Within mA (fs.map (·.1))
 | .own _=>∃o,h.get? a=some o
 | .xd fs=>∃mA,h.Ns1 a mA∧∀f,zj8 (fs.lookup f) (mA f)
 | .rng lo hi=>∃t u v,h.get? a=some { cls:=.type "range",data:=.fields #[.int lo t,.int hi u,.int 1 v] }
 | .frz o u=>h.get? a=some o∧zcd H h a u
 | .tbl ps=>h.get? a=some { cls:=.none,data:=.fields ps }
 | .met f x=>h.get? a=some (PySem.W.methodObj (.ref f) (.ref x))
 | .ext φ=>φ h∧(∃o,h.get? a=some o)∧∀h1 h2:Heap,φ h1->(∀o,h1.get? a=some o->h2.get? a=some o)->φ h2
noncomputable def HOk (H:Hp) (h:Heap):Prop:=∀a o,H a=some o->zcd P w H h a o
end
section
variable {P:Program} {w:World} {H H':Hp} {h h':Heap} {a:Addr} {o:HO}
theorem zcd.lt (x:zcd P w H h a o):a<h.objs.size:=by
 cases o with
 | lst xs=>obtain ⟨_,_,_,_,e⟩:=x;exact ZAs e
 | tup xs=>obtain ⟨_,_,_,p⟩:=x;exact p.lt
 | dK kvs=>obtain ⟨_,_,_,_,o,_,_,e,_⟩:=x;exact ZAs e
 | dT kvs=>obtain ⟨_,_,_,_,o,_,_,e,_⟩:=x;exact ZAs e
 | set S n=>obtain ⟨o,_,_,_,e,_⟩:=x;exact ZAs e
 | ins C dx fs=>obtain ⟨_,_,_,e,_⟩:=x;exact ZAs e
 | own y=>obtain ⟨_,e⟩:=x;exact ZAs e
 | xd fs=>obtain ⟨_,⟨_,_,_,e,_⟩,_⟩:=x;exact ZAs e
 | rng lo hi=>obtain ⟨_,_,_,e⟩:=x;exact ZAs e
 | frz ob u=>obtain ⟨e,_⟩:=x;exact ZAs e
 | tbl ps=>exact ZAs (show h.get? a=some _ from x)
 | met f y=>exact ZAs (show h.get? a=some _ from x)
 | ext φ=>obtain ⟨_,⟨_,e⟩,_⟩:=x;exact ZAs e
theorem Paired.mapP {α β:Type} {F G:α->β->Prop} {l₁:List α} {l₂:List β} (h:Paired F l₁ l₂) (f:∀a b,F a b->G a b):Paired G l₁ l₂:=by
 induction h with
 | nil=>exact .nil
 | cons r t ih=>exact .cons (f _ _ r) ih
theorem zcd.stay (x:zcd P w H h a o) (k:∀b u,(b=a∨H b=some (.own a))->h.get? b=some u->h'.get? b=some u)
 (ho:∀b,H b=some (.own a)->H' b=some (.own a)) (ht:∀b xs,H b=some (.tup xs)->H' b=some (.tup xs)):zcd P w H' h' a o:=by
 induction o with
 | lst xs=>obtain ⟨z,its,n,r,e⟩:=x;exact ⟨z,its,n,r,k _ _ (.inl rfl) e⟩
 | tup xs=>obtain ⟨z,its,r,ob,e,c⟩:=x;exact ⟨z,its,r,ob,k _ _ (.inl rfl) e,c⟩
 | dK kvs=>obtain ⟨z,y,vs,r,ob,es,ep,e,c⟩:=x;exact ⟨z,y,vs,r,ob,es,ep,k _ _ (.inl rfl) e,c⟩
 | dT kvs=>
  obtain ⟨z,y,xs,r,ob,es,ep,e,c⟩:=x
  exact ⟨z,y,xs,Paired.mapP r fun p q z=>⟨z.1,ht _ _ z.2.1,z.2.2⟩,ob,es,ep,k _ _ (.inl rfl) e,c⟩
 | set S n=>obtain ⟨ob,es,ep,t,e,c⟩:=x;exact ⟨ob,es,ep,t,k _ _ (.inl rfl) e,c⟩
 | ins C dx fs=>
  obtain ⟨d,z,ne,e,mA,⟨od,es,ep,e2,c⟩,r⟩:=x
  exact ⟨ho _ d,z,ne,k _ _ (.inl rfl) e,mA,⟨od,es,ep,k _ _ (.inr d) e2,c⟩,r⟩
 | own y=>obtain ⟨ob,e⟩:=x;exact ⟨ob,k _ _ (.inl rfl) e⟩
 | xd fs=>obtain ⟨mA,⟨od,es,ep,e,c⟩,r⟩:=x;exact ⟨mA,⟨od,es,ep,k _ _ (.inl rfl) e,c⟩,r⟩
 | rng lo hi=>obtain ⟨t,u,v,e⟩:=x;exact ⟨t,u,v,k _ _ (.inl rfl) e⟩
 | frz ob u ih=>obtain ⟨e,q⟩:=x;exact ⟨k _ _ (.inl rfl) e,ih q⟩
 | tbl ps=>
  have e:h.get? a=some { cls:=.none,data:=.fields ps }:=x
  show h'.get? a=some { cls:=.none,data:=.fields ps }
  exact k a _ (.inl rfl) e
 | met f y=>
  have e:h.get? a=some (PySem.W.methodObj (.ref f) (.ref y)):=x
  show h'.get? a=some (PySem.W.methodObj (.ref f) (.ref y))
  exact k a _ (.inl rfl) e
 | ext φ=>obtain ⟨p,⟨o,e⟩,st⟩:=x;exact ⟨st _ _ p fun o q=>k _ _ (.inl rfl) q,⟨o,k _ _ (.inl rfl) e⟩,st⟩
theorem HOk.lt (x:HOk P w H h) (e:H a=some o):a<h.objs.size:=(x a o e).lt
theorem HOk.fresh (x:HOk P w H h) (e:h.objs.size≤a):H a=none:=by
 cases q:H a with
 | none=>rfl
 | some u=>exact absurd (ZA2 (x.lt q) e) (ZBi _)
theorem HOk.kept (x:HOk P w H h) (k:∀b u,h.get? b=some u->h'.get? b=some u):HOk P w H h':=fun a o e=>
 (x a o e).stay (fun b u _ q=>k b u q) (fun _ q=>q) fun _ _ q=>q
theorem HOk.laid (x:HOk P w H h) (k:∀b u,h.get? b=some u->h'.get? b=some u) (hp:h.objs.size≤a) (new:zcd P w (upd H a o) h' a o):HOk P w (upd H a o) h':=fun b u e=>by
 have hn:=x.fresh hp
 by_cases hb:b=a
 ·subst hb;rw [zab] at e;cases e;exact new
 ·rw [zaj hb] at e
  exact (x b u e).stay (fun c v _ q=>k c v q) (fun c q=>by rw [zaj (zae q hn)];exact q) fun c xs q=>by rw [zaj (zae q hn)];exact q
end
noncomputable def Rd (H:Hp) (a:Addr) (u:HO):Prop:=H a=some u∨∃o,H a=some (.frz o u)
theorem Rd.ok {P:Program} {w:World} {H:Hp} {h:Heap} {a:Addr} {u:HO} (r:Rd H a u) (x:HOk P w H h):zcd P w H h a u:=by
 rcases r with r | ⟨o,r⟩
 ·exact x a u r
 ·obtain ⟨_,q⟩:=x a _ r
  exact q
noncomputable def Mut:Option HO->Prop
 | some (.lst _)=>True
 | some (.dK _)=>True
 | some (.dT _)=>True
 | some (.set _ _)=>True
 | some (.ins _ _ _)=>True
 | some (.ext _)=>True
 | _=>False
section
variable {P:Program} {w:World} {H:Hp} {h h':Heap} {x e:Addr} {o':HO}
theorem HOk.write (ok:HOk P w H h) (mu:Mut (H x)) (he:e=x∨H e=some (.own x)) (k:∀b u,b≠e->h.get? b=some u->h'.get? b=some u) (heo:∃u,h'.get? e=some u)
 (new:zcd P w (upd H x o') h' x o'):HOk P w (upd H x o') h':=fun b u q=>by
 have nown:∀c y,H c=some (.own y)->c≠x:=fun c y r z=>by subst z;rw [r] at mu;exact mu
 have ntup:∀c xs,H c=some (.tup xs)->c≠x:=fun c xs r z=>by subst z;rw [r] at mu;exact mu
 by_cases hb:b=x
 ·subst hb;rw [zab] at q;cases q;exact new
 ·rw [zaj hb] at q
  by_cases hbe:b=e
  ·have q':H b=some (.own x):=by
    rcases he with z | z
    ·exact absurd (hbe.trans z) hb
    ·rw [hbe];exact z
   rw [q] at q';cases q'
   obtain ⟨v,hv⟩:=heo
   exact ⟨v,by rw [hbe];exact hv⟩
  ·refine (ok b u q).stay (fun c v hc r=>k c v ?_ r) (fun c r=>by rw [zaj (nown c b r)];exact r) fun c xs r=>by rw [zaj (ntup c xs r)];exact r
   rcases hc with rfl | hc
   ·exact hbe
   ·rintro rfl
    rcases he with z | z
    ·exact nown c b hc z
    ·rw [hc] at z;cases z;exact hb rfl
end
structure Un (fs ex:List Addr) (H H':Hp) (h h':Heap):Prop where
 keep:∀b o,h.get? b=some o->H b=none->b∉fs->b∉ex->h'.get? b=some o
 slot:∀b o,h.get? b=some o->H b=none->b∈fs->b∉ex->∃sl,h'.get? b=some { o with slots:=sl }
 free:∀b o,h.get? b=some o->H b=none->b∉ex->H' b=none
 there:∀b o,h.get? b=some o->b∉ex->∃o',h'.get? b=some o'
 tups:∀b xs,H b=some (.tup xs)->H' b=some (.tup xs)
 frzs:∀b o u,H b=some (.frz o u)->H' b=some (.frz o u)
 tbls:∀b ps,H b=some (.tbl ps)->∃more,H' b=some (.tbl (ps++more))
section
variable {fs fs' ex ex':List Addr} {H H1 H2:Hp} {h h1 h2 h':Heap} {a x e:Addr} {o:HO}
theorem Un.any (u:Un fs ex H H1 h h1) {b:Addr} {ob:Obj} (q:h.get? b=some ob) (n:H b=none) (hx:b∉ex):∃sl,h1.get? b=some { ob with slots:=sl }:=by
 by_cases hb:b∈fs
 ·exact u.slot b ob q n hb hx
 ·exact ⟨ob.slots,u.keep b ob q n hb hx⟩
theorem Un.kept (k:∀b u,h.get? b=some u->h'.get? b=some u):Un fs ex H H h h':=
 ⟨fun b ob q _ _ _=>k b ob q,fun b ob q _ _ _=>⟨ob.slots,k b ob q⟩,fun _ _ _ n _=>n,fun b ob q _=>⟨ob,k b ob q⟩,fun _ _ q=>q,fun _ _ _ q=>q,fun _ ps q=>⟨#[],by rw [q];simp⟩⟩
theorem Un.refl:Un fs ex H H h h:=Un.kept fun _ _ q=>q
theorem Un.laid (k:∀b u,h.get? b=some u->h'.get? b=some u) (hp:h.objs.size≤a) (hn:H a=none):Un fs ex H (upd H a o) h h' where
 keep:=fun b u q _ _ _=>k b u q
 slot:=fun b u q _ _ _=>⟨u.slots,k b u q⟩
 free:=fun b u q n _=>by rw [zaj (ZAz (ZA2 (ZAs q) hp))];exact n
 there:=fun b u q _=>⟨u,k b u q⟩
 tups:=fun b xs q=>by rw [zaj (zae q hn)];exact q
 frzs:=fun b u xs q=>by rw [zaj (zae q hn)];exact q
 tbls:=fun b ps q=>⟨#[],by rw [zaj (zae q hn),q];simp⟩
theorem Un.write (mu:Mut (H x)) (he:e=x∨H e=some (.own x)) (k:∀b u,b≠e->h.get? b=some u->h'.get? b=some u) (heo:∃u,h'.get? e=some u):Un fs ex H (upd H x o) h h':=by
 have hx:∀b,H b=none->b≠x:=fun b n z=>by subst z;rw [n] at mu;exact mu
 have hb:∀b,H b=none->b≠e:=fun b n z=>by
  subst z
  rcases he with r | r
  ·exact hx b n r
  ·rw [n] at r;cases r
 have hm:∀b u,H b=some u->¬Mut (some u)->b≠x:=fun b u q nm z=>by subst z;rw [q] at mu;exact nm mu
 refine ⟨fun b u q n _ _=>k b u (hb b n) q,fun b u q n _ _=>⟨u.slots,k b u (hb b n) q⟩,fun b u q n _=>by rw [zaj (hx b n)];exact n,fun b u q _=>?_,
  fun b xs q=>by rw [zaj (hm b _ q fun z=>z)];exact q,fun b u xs q=>by rw [zaj (hm b _ q fun z=>z)];exact q,fun b ps q=>⟨#[],by rw [zaj (hm b _ q fun z=>z),q];simp⟩⟩
 by_cases hbe:b=e
 ·subst hbe;exact heo
 ·exact ⟨u,k b u hbe q⟩
end
noncomputable def trk (h:Heap) (H:Hp):List Addr:=(List.range h.objs.size).filter fun a=>(H a).isSome
noncomputable def zrt (h:Heap) (H:Hp):Heap:=PySem.W.hideAll h (trk h H)
theorem zp2 (h:Heap) (H:Hp):(zrt h H).objs.size=h.objs.size:=PySem.W.hideAll_size _ _
theorem zrs {h:Heap} {H:Hp} {b:Addr} {o:Obj} (e:h.get? b=some o) (n:H b=none):(zrt h H).get? b=some o:=
 PySem.W.hideAll_get _ e fun hm=>by
  have q:(H b).isSome=true:=(List.mem_filter.mp hm).2
  rw [n] at q;simp at q
theorem zua {h:Heap} {H:Hp} {b:Addr} {o:Obj} (e:(zrt h H).get? b=some o):h.get? b=some o∧H b=none:=by
 have e':h.get? b=some o:=PySem.W.of_hideAll (trk h H) e
 refine ⟨e',?_⟩
 cases q:H b with
 | none=>rfl
 | some x=>
  have hm:b∈trk h H:=List.mem_filter.mpr ⟨List.mem_range.mpr (ZAs e'),by simp [q]⟩
  have z:(zrt h H).get? b=none:=PySem.W.hideAll_none (trk h H) hm
  rw [z] at e;cases e
end L2
namespace L2
open PySem PySem.Spec PyProof.Rows
structure Mod (K:ZBq) (mg:Str->Option Value) (base:Heap):Prop where
 kin:K.In base
 glob:base.Ns mainGlobals mg
 blt:∃mb,base.Ns builtinsNs mb∧∀x:Str,x≠"__name__"->mb x=bootBuiltins x
 nolimit:base.NoLimit
structure Cx where
 prog:Program
 w:World
 K:ZBq
 mg:Str->Option Value
 base:Heap
 A:Around
 N:List Str
 s₀:Shared
 H₀:Hp
 env:Env
 outer:List Env
 stack:List Env
 ex:List Addr
 fn:Str->Bool
 calm:Bool
 pn:List (Addr×Obj)
 xe:Value->Shared->Prop
noncomputable def frs (l:List Env):List Addr:=l.filterMap (·.frame)
noncomputable abbrev Cx.fs (X:Cx):List Addr:=frs X.outer
noncomputable def Vis (sc:Scope) (x:Str):Prop:=sc.names.lookup x=some .local∨sc.names.lookup x=some .cell∨sc.names.lookup x=some .free
noncomputable def Loc (sc:Scope) (x:Str):Prop:=sc.names.lookup x=some .local∨sc.names.lookup x=some .cell
noncomputable def zAv (env:Env) (h:Heap) (m:Str->Option Value) (x:Str) (u:Value):Prop:=
 (env.kindOf x=some .local∧m x=some u)∨((env.kindOf x=some .cell∨env.kindOf x=some .free)∧∃c,env.cells.lookup x=some c∧h.IsCell c (some u))
structure Cx.Ok (X:Cx):Prop where
 mod:Mod X.K X.mg X.base
 kind:X.env.scope.kind=.function
 glob:X.env.globals=mainGlobals
 blt:X.env.builtins=builtinsNs
 above:X.s₀.heap.objs.size≤X.env.locals
 inj:∀x y c,X.env.cells.lookup x=some c->X.env.cells.lookup y=some c->x=y
 has:∀x,(X.env.kindOf x=some .cell∨X.env.kindOf x=some .free)->∃c,X.env.cells.lookup x=some c
 cab:∀x c,X.fn x=true->X.env.cells.lookup x=some c->X.s₀.heap.objs.size≤c
 hd:X.calm=true->X.A.handled=none
 frames:X.A.frames=some X.stack
 stk:X.stack=X.outer∨(X.stack=X.env::X.outer∧X.env.frame=some X.env.locals)
 exf:∀b∈X.ex,b≠X.env.locals∧∀x c,X.env.cells.lookup x=some c->c≠b
 bs:∀b o,X.base.get? b=some o->X.s₀.heap.get? b=some o∧X.H₀ b=none
 bsz:X.base.objs.size≤X.s₀.heap.objs.size
 noex:∀b o,X.base.get? b=some o->b∉X.ex
 exfs:∀b∈X.ex,b∉X.fs
 funs:X.s₀.heap.FunFrames X.base X.outer
 frf:∀b∈X.fs,X.H₀ b=none
structure Inv (X:Cx) (pins:List (Addr×Obj)) (σ:List (Option V)) (H:Hp) (s:Shared):Prop where
 ok:X.Ok
 os:s.os=X.s₀.os
 bare:AllBare s.gens
 base:Un X.fs X.ex X.H₀ H X.s₀.heap s.heap
 loc:∃m,s.heap.Ns X.env.locals m∧∀(i:Nat) (x:Str) (v:V),X.N[i]?=some x->σ[i]?=some (some v)->Vis X.env.scope x->∃u,zcm v u∧zAv X.env s.heap m x u
 cell:∀x c,X.env.cells.lookup x=some c->∃v,s.heap.IsCell c v
 free:H X.env.locals=none
 freeC:∀x c,X.env.cells.lookup x=some c->H c=none
 pin:∀p∈X.pn++pins,s.heap.get? p.1=some p.2∧H p.1=none∧p.1≠X.env.locals∧p.1∉X.fs∧∀v,p.2.data≠.cell v
 hok:HOk X.prog X.w H s.heap
 len:σ.length=X.N.length
section
variable {X:Cx} {pins:List (Addr×Obj)} {σ:List (Option V)} {H H':Hp} {s:Shared} {h':Heap}
theorem Cx.Ok.nofr (ok:X.Ok) {b:Addr} {o:Obj} (e:X.base.get? b=some o):b∉X.fs:=fun hb=>by
 have:=(ok.funs.mem hb).1
 rw [e] at this;cases this
theorem Inv.bs (I:Inv X pins σ H s):∀b o,X.base.get? b=some o->s.heap.get? b=some o∧H b=none:=fun b o e=>
 ⟨I.base.keep b o (I.ok.bs b o e).1 (I.ok.bs b o e).2 (I.ok.nofr e) (I.ok.noex b o e),I.base.free b o (I.ok.bs b o e).1 (I.ok.bs b o e).2 (I.ok.noex b o e)⟩
theorem Inv.bk (I:Inv X pins σ H s):∀b o,X.base.get? b=some o->s.heap.get? b=some o:=fun b o e=>(I.bs b o e).1
theorem Inv.mod (I:Inv X pins σ H s):Mod X.K X.mg X.base:=I.ok.mod
theorem Inv.kIn (I:Inv X pins σ H s):X.K.In s.heap:=I.ok.mod.kin.keeps I.bk
theorem Inv.lt (I:Inv X pins σ H s):X.env.locals<s.heap.objs.size:=let ⟨_,hn,_⟩:=I.loc;hn.lt
theorem Inv.sz (I:Inv X pins σ H s):X.s₀.heap.objs.size≤s.heap.objs.size:=ZAw I.ok.above (ZAr I.lt)
theorem Inv.nofs (I:Inv X pins σ H s) {a:Addr} (h:s.heap.objs.size≤a):a∉X.fs:=fun hb=>by
 obtain ⟨_,o,ho,_⟩:=I.ok.funs.mem hb
 exact absurd (ZA2 (ZAs ho) (ZAw I.sz h)) (ZBi _)
theorem Inv.cne (I:Inv X pins σ H s):∀x c,X.env.cells.lookup x=some c->c≠X.env.locals:=fun x c e z=>by
 obtain ⟨v,o,ho,hd⟩:=I.cell x c e
 obtain ⟨m,⟨o',es,ep,ho',hd',_⟩,_⟩:=I.loc
 rw [z,ho'] at ho;cases ho;rw [hd'] at hd;cases hd
theorem Inv.funs (I:Inv X pins σ H s):s.heap.FunFrames X.base X.outer:=by
 have all:∀(l:List Env),(∀b∈frs l,b∈X.fs)->X.s₀.heap.FunFrames X.base l->s.heap.FunFrames X.base l:=by
  intro l
  induction l with
  | nil=>intro _ _;trivial
  | cons env r ih=>
   intro hs hl
   obtain ⟨hk,⟨L,o,hf,hn,ho,hd⟩,hr⟩:=hl
   have hL:L∈X.fs:=hs L (by unfold frs;rw [List.filterMap_cons,hf];exact ZAl)
   obtain ⟨sl,e⟩:=I.base.slot L o ho (I.ok.frf L hL) hL fun z=>I.ok.exfs L z hL
   exact ⟨hk,⟨L,_,hf,hn,e,hd⟩,ih (fun b hb=>hs b (by unfold frs;rw [List.filterMap_cons,hf];exact ZAk _ hb)) hr⟩
 exact all X.outer (fun _ hb=>hb) I.ok.funs
theorem Inv.stack (I:Inv X pins σ H s):s.heap.FunFrames X.base X.stack:=by
 rcases I.ok.stk with e | ⟨e,hf⟩
 ·rw [e];exact I.funs
 ·rw [e]
  obtain ⟨m,hn,_⟩:=I.loc
  refine .cons (by rw [I.ok.kind];decide) hf hn ?_ I.funs
  exact Heap.get?_none_of_le (ZAw I.ok.bsz I.ok.above)
theorem Inv.stkSub (I:Inv X pins σ H s):∀b∈frs X.stack,b∈X.env.locals::X.fs:=fun b hb=>by
 rcases I.ok.stk with e | ⟨e,hf⟩
 ·rw [e] at hb;exact ZAk _ hb
 ·rw [e] at hb
  unfold frs at hb
  rw [List.filterMap_cons,hf] at hb
  exact hb
theorem Inv.stkFree (I:Inv X pins σ H s):∀b∈frs X.stack,H b=none:=fun b hb=>by
 rcases ZAu.mp (I.stkSub b hb) with e | hb
 ·rw [e];exact I.free
 ·obtain ⟨_,o,ho,_⟩:=I.ok.funs.mem hb
  exact I.base.free b o ho (I.ok.frf b hb) fun z=>I.ok.exfs b z hb
theorem Inv.step {g':Array GenState} {t':Nat} {d':Drawn} {ch:List Addr} (I:Inv X pins σ H s)
 (hch:∀b∈ch,(b∈X.ex∨X.s₀.heap.objs.size≤b)∧b≠X.env.locals∧(∀x c,X.env.cells.lookup x=some c->c≠b)∧∀p∈X.pn++pins,p.1≠b)
 (keep:∀b o,b≠X.env.locals->b∉X.fs->b∉ch->s.heap.get? b=some o->H b=none->h'.get? b=some o)
 (slot:∀b o,b≠X.env.locals->b∈X.fs->b∉ch->s.heap.get? b=some o->H b=none->∃sl,h'.get? b=some { o with slots:=sl }) (free:∀b o,b∉ch->s.heap.get? b=some o->H b=none->H' b=none)
 (there:∀b o,b∉ch->s.heap.get? b=some o->∃o',h'.get? b=some o')
 (tups:∀b xs,H b=some (.tup xs)->H' b=some (.tup xs)) (frzs:∀b o u,H b=some (.frz o u)->H' b=some (.frz o u)) (tbls:∀b ps,H b=some (.tbl ps)->∃more,H' b=some (.tbl (ps++more)))
 (ns:∀m,s.heap.Ns X.env.locals m->h'.Ns X.env.locals m) (hok:HOk X.prog X.w H' h') (hg:AllBare g'):
 Inv X pins σ H' { s with heap:=h',gens:=g',drawn:=d',toks:=t' }:=by
 have neL:∀b o,X.s₀.heap.get? b=some o->b≠X.env.locals:=fun b o e=>ZAz (ZA2 (ZAs e) I.ok.above)
 have neC:∀b o,X.s₀.heap.get? b=some o->b∉X.ex->b∉ch:=fun b o e hx hb=>by
  rcases (hch b hb).1 with z | z
  ·exact hx z
  ·exact absurd (ZA2 (ZAs e) z) (ZBi _)
 have cellK:∀x c,X.env.cells.lookup x=some c->∀v,s.heap.IsCell c v->h'.IsCell c v:=fun x c e v ⟨o,ho,hd⟩=>by
  have nch:c∉ch:=fun z=>(hch c z).2.2.1 x c e rfl
  by_cases hc:c∈X.fs
  ·obtain ⟨sl,q⟩:=slot c o (I.cne x c e) hc nch ho (I.freeC x c e)
   exact ⟨_,q,hd⟩
  ·exact ⟨o,keep c o (I.cne x c e) hc nch ho (I.freeC x c e),hd⟩
 refine ⟨I.ok,I.os,hg,⟨fun b o e n hb hx=>?_,fun b o e n hb hx=>?_,fun b o e n hx=>?_,fun b o e hx=>?_,fun b xs e=>tups b xs (I.base.tups b xs e),fun b o xs e=>frzs b o xs (I.base.frzs b o xs e),fun b ps e=>?_⟩,?_,fun x c e=>?_,?_,fun x c e=>?_,fun p hp=>?_,hok,I.len⟩
 ·exact keep b o (neL b o e) hb (neC b o e hx) (I.base.keep b o e n hb hx) (I.base.free b o e n hx)
 ·obtain ⟨sl,e1⟩:=I.base.slot b o e n hb hx
  obtain ⟨sl',e2⟩:=slot b _ (neL b o e) hb (neC b o e hx) e1 (I.base.free b o e n hx)
  exact ⟨sl',e2⟩
 ·obtain ⟨o',e1⟩:=I.base.there b o e hx
  exact free b o' (neC b o e hx) e1 (I.base.free b o e n hx)
 ·obtain ⟨o',e1⟩:=I.base.there b o e hx
  exact there b o' (neC b o e hx) e1
 ·obtain ⟨m1,e1⟩:=I.base.tbls b ps e
  obtain ⟨m2,e2⟩:=tbls b _ e1
  exact ⟨m1++m2,by rw [e2,Array.append_assoc]⟩
 ·obtain ⟨m,hn,hl⟩:=I.loc
  refine ⟨m,ns m hn,fun i x v e1 e2 e3=>?_⟩
  obtain ⟨u,r,l⟩:=hl i x v e1 e2 e3
  refine ⟨u,r,?_⟩
  rcases l with l | ⟨k,c,e,z⟩
  ·exact .inl l
  ·exact .inr ⟨k,c,e,cellK x c e _ z⟩
 ·obtain ⟨v,z⟩:=I.cell x c e
  exact ⟨v,cellK x c e v z⟩
 ·obtain ⟨m,⟨o,_,_,ho,_⟩,_⟩:=I.loc
  exact free _ o (fun z=>(hch _ z).2.1 rfl) ho I.free
 ·obtain ⟨v,o,ho,hd⟩:=I.cell x c e
  exact free c o (fun z=>(hch c z).2.2.1 x c e rfl) ho (I.freeC x c e)
 ·obtain ⟨e,n,ne,nf,d⟩:=I.pin p hp
  have nch:p.1∉ch:=fun z=>(hch p.1 z).2.2.2 p hp rfl
  exact ⟨keep p.1 p.2 ne nf nch e n,free p.1 p.2 nch e n,ne,nf,d⟩
theorem Inv.un {t':Nat} (I:Inv X pins σ H s) (u:Un X.fs [] H H' s.heap h') (hok:HOk X.prog X.w H' h'):Inv X pins σ H' { s with heap:=h',toks:=t' }:=by
 obtain ⟨m,⟨o,es,ep,ho,r⟩,_⟩:=id I.loc
 obtain ⟨sl,hL⟩:=u.any ho I.free (by simp)
 exact I.step (g':=s.gens) (d':=s.drawn) (ch:=[]) (fun _ z=>nomatch z) (fun b o _ hb _ e n=>u.keep b o e n hb (by simp)) (fun b o _ hb _ e n=>u.slot b o e n hb (by simp)) (fun b o _ e n=>u.free b o e n (by simp)) (fun b o _ e=>u.there b o e (by simp)) u.tups u.frzs u.tbls (fun m' hm=>by
  obtain ⟨o',es',ep',ho',r'⟩:=hm
  rw [ho] at ho';cases ho'
  exact ⟨_,es',ep',hL,r'⟩) hok I.bare
theorem Inv.call {g':Array GenState} {t':Nat} {d':Drawn} {ch:List Addr} (I:Inv X pins σ H s) (u:Un (frs X.stack) ch H H' s.heap h') (hok:HOk X.prog X.w H' h') (hg:AllBare g')
 (hch:∀b∈ch,(b∈X.ex∨X.s₀.heap.objs.size≤b)∧b≠X.env.locals∧(∀x c,X.env.cells.lookup x=some c->c≠b)∧∀p∈X.pn++pins,p.1≠b):
 Inv X pins σ H' { s with heap:=h',gens:=g',drawn:=d',toks:=t' }:=by
 obtain ⟨m,⟨o,es,ep,ho,r⟩,_⟩:=id I.loc
 obtain ⟨sl,hL⟩:=u.any ho I.free fun z=>(hch _ z).2.1 rfl
 exact I.step (ch:=ch) hch (fun b o hL hb hc e n=>u.keep b o e n (fun z=>(ZAu.mp (I.stkSub b z)).elim hL hb) hc) (fun b o _ _ hc e n=>u.any e n hc) (fun b o hc e n=>u.free b o e n hc) (fun b o hc e=>u.there b o e hc) u.tups u.frzs u.tbls (fun m' hm=>by
  obtain ⟨o',es',ep',ho',r'⟩:=hm
  rw [ho] at ho';cases ho'
  exact ⟨_,es',ep',hL,r'⟩) hok hg
theorem Inv.turned {t':Nat} {it:Addr} (I:Inv X pins σ H s) (k:∀b o,b≠it->s.heap.get? b=some o->h'.get? b=some o) (hn:H it=none) (hL:it≠X.env.locals)
 (h1:it∈X.ex∨X.s₀.heap.objs.size≤it) (h2:∀x c,X.env.cells.lookup x=some c->c≠it) (h3:∀p∈X.pn++pins,p.1≠it):Inv X pins σ H { s with heap:=h',toks:=t' }:=by
 have nit:∀b u,H b=some u->b≠it:=fun b u e z=>by rw [z,hn] at e;cases e
 refine I.step (g':=s.gens) (d':=s.drawn) (ch:=[it]) (fun b hb=>?_) (fun b o _ _ hc e _=>k b o (fun z=>hc (by simp [z])) e) (fun b o _ _ hc e _=>⟨o.slots,k b o (fun z=>hc (by simp [z])) e⟩) (fun _ _ _ _ n=>n)
  (fun b o hc e=>⟨o,k b o (fun z=>hc (by simp [z])) e⟩) (fun _ _ e=>e) (fun _ _ _ e=>e) (fun b ps e=>⟨#[],by rw [e];simp⟩) (fun m hm=>?_) (fun b u e=>?_) I.bare
 ·have e:b=it:=by simpa using hb
  subst e
  exact ⟨h1,hL,h2,h3⟩
 ·obtain ⟨o,es,ep,ho,r⟩:=hm
  exact ⟨o,es,ep,k _ o (Ne.symm hL) ho,r⟩
 ·refine (I.hok b u e).stay (fun c v hc q=>k c v ?_ q) (fun _ q=>q) fun _ _ q=>q
  rcases hc with z | z
  ·rw [z];exact nit b u e
  ·exact nit c _ z
theorem Inv.tok (I:Inv X pins σ H s) (t:Nat):Inv X pins σ H { s with toks:=t }:=I.un (h':=s.heap) (t':=t) Un.refl I.hok
theorem Inv.kept {t':Nat} (I:Inv X pins σ H s) (k:∀b u,s.heap.get? b=some u->h'.get? b=some u):Inv X pins σ H { s with heap:=h',toks:=t' }:=I.un (Un.kept k) (I.hok.kept k)
theorem Inv.laid {a:Addr} {o:HO} {t':Nat} (I:Inv X pins σ H s) (k:∀b u,s.heap.get? b=some u->h'.get? b=some u) (hp:s.heap.objs.size≤a) (new:zcd X.prog X.w (upd H a o) h' a o):
 Inv X pins σ (upd H a o) { s with heap:=h',toks:=t' }:=I.un (Un.laid k hp (I.hok.fresh hp)) (I.hok.laid k hp new)
theorem Inv.write {x e:Addr} {o:HO} {t':Nat} (I:Inv X pins σ H s) (mu:Mut (H x)) (he:e=x∨H e=some (.own x)) (k:∀b u,b≠e->s.heap.get? b=some u->h'.get? b=some u) (heo:∃u,h'.get? e=some u)
 (new:zcd X.prog X.w (upd H x o) h' x o):Inv X pins σ (upd H x o) { s with heap:=h',toks:=t' }:=I.un (Un.write mu he k heo) (I.hok.write mu he k heo new)
theorem Inv.pins_of {pins':List (Addr×Obj)} (I:Inv X pins σ H s) (h:∀p∈pins',s.heap.get? p.1=some p.2∧H p.1=none∧p.1≠X.env.locals∧p.1∉X.fs∧∀v,p.2.data≠.cell v):Inv X pins' σ H s:=
 ⟨I.ok,I.os,I.bare,I.base,I.loc,I.cell,I.free,I.freeC,fun p hp=>(ZA4.mp hp).elim (fun z=>I.pin p (List.mem_append_left _ z)) (h p),I.hok,I.len⟩
theorem zm0 {N:List Str} (hN:N.Nodup) {i j:Nat} {x:Str} (a:N[i]?=some x) (b:N[j]?=some x):i=j:=by
 obtain ⟨h1,e1⟩:=ZAb.mp a
 obtain ⟨h2,e2⟩:=ZAb.mp b
 exact (List.getElem_inj hN).mp (e1.trans e2.symm)
theorem zkk {M:Model} {A:Around} {E:Value->Shared->Prop} {i:Nat} {x:Str} {v:V} {u:Value} {Q:Unit->Shared->Prop} (I:Inv X pins σ H s) (hN:X.N.Nodup) (hi:X.N[i]?=some x) (hx:Loc X.env.scope x) (r:zcm v u)
 (h:∀s',Inv X pins (σ.set i (some v)) H s'->(∃a,Heap.SameBut a s.heap s'.heap∧(a=X.env.locals∨X.env.cells.lookup x=some a))->Q () s') (hf:X.fn x=true∨X.env.scope.names.lookup x=some .local:=by first | exact .inl rfl | exact .inr rfl | assumption):wpAny M A (storeName X.env x u) Q E s:=by
 obtain ⟨m,hn,hl⟩:=id I.loc
 have hcls:(X.env.scope.kind==.class || (X.env.scope.kind==.module && X.env.locals !=X.env.globals))=false:=by rw [I.ok.kind];rfl
 have hiσ:i<σ.length:=by rw [I.len];exact (ZAb.mp hi).1
 have cne:=I.cne
 have tracked:∀{a:Addr} {h':Heap},(∃o,s.heap.get? a=some o∧H a=none)->Heap.SameBut a s.heap h'->HOk X.prog X.w H h':=fun {a h'} ha hs b ob e=>by
  obtain ⟨_,_,hfree⟩:=ha
  refine (I.hok b ob e).stay (fun c w' hc q=>(hs.2 c ?_).trans q) (fun _ q=>q) fun _ _ q=>q
  rintro rfl
  rcases hc with rfl | hc
  ·rw [hfree] at e;cases e
  ·rw [hfree] at hc;cases hc
 rcases hx with hk | hk
 ·refine wpAny_storeName_local hk hn (fun h' hn' hs=>?_) hcls
  obtain ⟨oL,_,_,hoL,_⟩:=id hn
  refine h _ ⟨I.ok,I.os,I.bare,⟨fun b o e n hb hx=>?_,fun b o e n hb hx=>?_,I.base.free,fun b o e hx=>?_,I.base.tups,I.base.frzs,I.base.tbls⟩,⟨_,hn',fun j y v' e1 e2 e3=>?_⟩,fun y c e=>?_,I.free,I.freeC,fun p hp=>?_,tracked ⟨oL,hoL,I.free⟩ hs,by simpa using I.len⟩ ⟨_,hs,.inl rfl⟩
  ·exact (hs.2 b (ZAz (ZA2 (ZAs e) I.ok.above))).trans (I.base.keep b o e n hb hx)
  ·obtain ⟨sl,e1⟩:=I.base.slot b o e n hb hx
   exact ⟨sl,(hs.2 b (ZAz (ZA2 (ZAs e) I.ok.above))).trans e1⟩
  ·obtain ⟨o',e1⟩:=I.base.there b o e hx
   exact ⟨o',(hs.2 b (ZAz (ZA2 (ZAs e) I.ok.above))).trans e1⟩
  ·by_cases hj:j=i
   ·subst hj
    rw [hi] at e1;cases e1
    rw [List.getElem?_set_self hiσ] at e2
    cases e2
    exact ⟨u,r,.inl ⟨hk,by simp⟩⟩
   ·rw [List.getElem?_set_ne (Ne.symm hj)] at e2
    obtain ⟨u',r',q⟩:=hl j y v' e1 e2 e3
    refine ⟨u',r',?_⟩
    rcases q with ⟨k,e⟩ | ⟨k,c,e,z⟩
    ·refine .inl ⟨k,?_⟩
     have:y≠x:=fun e=>hj (zm0 hN e1 (e▸hi))
     simp [this,e]
    ·exact .inr ⟨k,c,e,z.sameBut hs (cne y c e)⟩
  ·obtain ⟨w',z⟩:=I.cell y c e
   exact ⟨w',z.sameBut hs (cne y c e)⟩
  ·obtain ⟨e,n,ne,nf,d⟩:=I.pin p hp
   exact ⟨(hs.2 p.1 ne).trans e,n,ne,nf,d⟩
 ·have hfn:X.fn x=true:=by
   rcases hf with z | z
   ·exact z
   ·rw [z] at hk;cases hk
  obtain ⟨c,hc⟩:=I.ok.has x (.inl hk)
  obtain ⟨w',z⟩:=I.cell x c hc
  refine wpAny_storeName_cell I.ok.kind hk hc z (fun h' hc' hs=>?_)
  obtain ⟨oc,hoc,hocd⟩:=id z
  refine h { s with heap:=h' } ⟨I.ok,I.os,I.bare,⟨fun b o e n hb hx=>?_,fun b o e n hb hx=>?_,I.base.free,fun b o e hx=>?_,I.base.tups,I.base.frzs,I.base.tbls⟩,⟨m,hn.sameBut hs (Ne.symm (cne x c hc)),fun j y v' e1 e2 e3=>?_⟩,fun y c' e=>?_,I.free,I.freeC,fun p hp=>?_,tracked ⟨oc,hoc,I.freeC x c hc⟩ hs,by simpa using I.len⟩ ⟨c,hs,.inr hc⟩
  ·exact (hs.2 b (ZAz (ZA2 (ZAs e) (I.ok.cab x c hfn hc)))).trans (I.base.keep b o e n hb hx)
  ·obtain ⟨sl,e1⟩:=I.base.slot b o e n hb hx
   exact ⟨sl,(hs.2 b (ZAz (ZA2 (ZAs e) (I.ok.cab x c hfn hc)))).trans e1⟩
  ·obtain ⟨o',e1⟩:=I.base.there b o e hx
   exact ⟨o',(hs.2 b (ZAz (ZA2 (ZAs e) (I.ok.cab x c hfn hc)))).trans e1⟩
  ·by_cases hj:j=i
   ·subst hj
    rw [hi] at e1;cases e1
    rw [List.getElem?_set_self hiσ] at e2
    cases e2
    exact ⟨u,r,.inr ⟨.inl hk,c,hc,hc'⟩⟩
   ·rw [List.getElem?_set_ne (Ne.symm hj)] at e2
    obtain ⟨u',r',q⟩:=hl j y v' e1 e2 e3
    refine ⟨u',r',?_⟩
    rcases q with q | ⟨k,c',e,z'⟩
    ·exact .inl q
    ·refine .inr ⟨k,c',e,z'.sameBut hs ?_⟩
     rintro rfl
     exact hj (zm0 hN e1 (I.ok.inj _ _ _ e hc▸hi))
  ·by_cases hcc:c'=c
   ·subst hcc;exact ⟨_,hc'⟩
   ·obtain ⟨w2,z2⟩:=I.cell y c' e
    exact ⟨w2,z2.sameBut hs hcc⟩
  ·obtain ⟨e,n,ne,nf,d⟩:=I.pin p hp
   refine ⟨(hs.2 p.1 ?_).trans e,n,ne,nf,d⟩
   intro q
   rw [q,hoc] at e
   have q':oc=p.2:=ZAn e
   exact d w' (by rw [←q'];exact hocd)
theorem zjc {M:Model} {A:Around} {E:Value->Shared->Prop} {i:Nat} {x:Str} {v:V} {u:Value} {Q:Unit->Shared->Prop} (I:Inv X pins σ H s) (hN:X.N.Nodup) (hi:X.N[i]?=some x) (hx:Loc X.env.scope x) (r:zcm v u)
 (h:∀s',Inv X pins (σ.set i (some v)) H s'->Q () s') (hf:X.fn x=true∨X.env.scope.names.lookup x=some .local:=by first | exact .inl rfl | exact .inr rfl | assumption):wpAny M A (storeName X.env x u) Q E s:=
 zkk I hN hi hx r (fun s' I' _=>h s' I') hf
theorem Inv.call' {s':Shared} {ch:List Addr} (I:Inv X pins σ H s) (ho:s'.os=s.os) (u:Un (frs X.stack) ch H H' s.heap s'.heap) (hok:HOk X.prog X.w H' s'.heap) (hg:AllBare s'.gens)
 (hch:∀b∈ch,(b∈X.ex∨X.s₀.heap.objs.size≤b)∧b≠X.env.locals∧(∀x c,X.env.cells.lookup x=some c->c≠b)∧∀p∈X.pn++pins,p.1≠b):Inv X pins σ H' s':=by
 obtain ⟨h',g',d',t',o'⟩:=s'
 have e:o'=s.os:=ho
 subst e
 exact I.call (g':=g') (t':=t') (d':=d') u hok hg hch
end
noncomputable abbrev XK:=Value->Option Addr->Hp->Prop
noncomputable abbrev St:=List (Option V)
noncomputable abbrev VK:=V->Hp->Prop
noncomputable abbrev TE:=St->Hp->VK->Prop
noncomputable abbrev TT:=St->Hp->(Bool->Hp->Prop)->Prop
noncomputable abbrev TA:=St->Hp->(List V->Hp->Prop)->Prop
structure zse where
 nx:St->Hp->Prop
 rt:VK
 bk:St->Hp->Prop:=fun _ _=>False
 ct:St->Hp->Prop:=fun _ _=>False
noncomputable abbrev TS:=zse->St->Hp->Prop
theorem el5 {α β:Type} {p q r:α->β->Prop} {P:Prop} (h:∃a b,p a b∧q a b∧r a b) (k:∀a b,p a b->q a b->r a b->P):P:=by
 obtain ⟨a,b,x,y,z⟩:=h
 exact k a b x y z
theorem el3 {α:Type} {p q:α->Prop} {P:Prop} (h:∃a,p a∧q a) (k:∀a,p a->q a->P):P:=by
 obtain ⟨a,x,y⟩:=h
 exact k a x y
noncomputable def EP (X:Cx) (pins:List (Addr×Obj)) (σ:St) (Q:VK) (u:Value) (s':Shared):Prop:=∃v H',Inv X pins σ H' s'∧zcm v u∧Q v H'
noncomputable def TP (X:Cx) (pins:List (Addr×Obj)) (σ:St) (Q:Bool->Hp->Prop) (b:Bool) (s':Shared):Prop:=∃H',Inv X pins σ H' s'∧Q b H'
noncomputable def AP (X:Cx) (pins:List (Addr×Obj)) (σ:St) (Q:List V->Hp->Prop) (us:List Value) (s':Shared):Prop:=∃vs H',Inv X pins σ H' s'∧zcb vs us∧Q vs H'
noncomputable def SP (X:Cx) (pins:List (Addr×Obj)) (D:zse) (f:Flow) (s':Shared):Prop:=
 match f with
 | .next=>∃σ' H',Inv X pins σ' H' s'∧D.nx σ' H'
 | .brk=>∃σ' H',Inv X pins σ' H' s'∧D.bk σ' H'
 | .cont=>∃σ' H',Inv X pins σ' H' s'∧D.ct σ' H'
 | .ret u=>∃v σ' H',Inv X pins σ' H' s'∧zcm v u∧D.rt v H'
noncomputable def PE (X:Cx) (e:Expr) (t:TE):Prop:=
 ∀(pins:List (Addr×Obj)) (s:Shared) (σ:St) (H:Hp) (Q:VK),Inv X pins σ H s->t σ H Q->wpAny (model X.prog X.w) X.A (eval e X.env) (EP X pins σ Q) X.xe s
noncomputable def PT (X:Cx) (e:Expr) (t:TT):Prop:=
 ∀(pins:List (Addr×Obj)) (s:Shared) (σ:St) (H:Hp) (Q:Bool->Hp->Prop),Inv X pins σ H s->t σ H Q->wpAny (model X.prog X.w) X.A (isTrue e X.env (eval e X.env)) (TP X pins σ Q) X.xe s
noncomputable def PW (X:Cx) (e:Expr) (t:TT):Prop:=
 ∀(whole:Sem Value) (pins:List (Addr×Obj)) (s:Shared) (σ:St) (H:Hp) (Q:Bool->Hp->Prop),Inv X pins σ H s->t σ H Q->wpAny (model X.prog X.w) X.A (isTrue e X.env whole) (TP X pins σ Q) X.xe s
theorem PW.pt {X:Cx} {e:Expr} {t:TT} (h:PW X e t):PT X e t:=h _
noncomputable def PA (X:Cx) (es:List Expr) (t:TA):Prop:=
 ∀(pos:Pos) (pins:List (Addr×Obj)) (s:Shared) (σ:St) (H:Hp) (Q:List V->Hp->Prop),Inv X pins σ H s->t σ H Q->wpAny (model X.prog X.w) X.A (spliced (backTo pos (starEach es X.env))) (AP X pins σ Q) X.xe s
noncomputable def PS (X:Cx) (st:Stmt) (t:TS):Prop:=
 ∀(pins:List (Addr×Obj)) (s:Shared) (σ:St) (H:Hp) (D:zse),Inv X pins σ H s->t D σ H->wpAny (model X.prog X.w) X.A (exec st X.env) (SP X pins D) X.xe s
noncomputable def PSs (X:Cx) (st:List Stmt) (t:TS):Prop:=
 ∀(pins:List (Addr×Obj)) (s:Shared) (σ:St) (H:Hp) (D:zse),Inv X pins σ H s->t D σ H->wpAny (model X.prog X.w) X.A (execs st X.env) (SP X pins D) X.xe s
theorem thn {α:Type} {t:Sem α} {Q Q':α->Shared->Prop} {M:Model} {A:Around} {E:Value->Shared->Prop} {s:Shared} (h:wpAny M A t Q E s) (hQ:∀a s,Q a s->Q' a s):wpAny M A t Q' E s:=wpAny_mono h hQ fun _ _ x=>x
end L2
namespace L2
open PySem PySem.Spec PyProof.Rows
section
variable {X:Cx}
noncomputable def ztl (i:Nat):TE:=fun σ H Q=>∃v,σ[i]?=some (some v)∧Q v H
noncomputable def tC (v:V):TE:=fun _ H Q=>Q v H
theorem zvx {i:Nat} {x:Str} {pos:Pos} (hN:X.N[i]?=some x) (hv:Vis X.env.scope x) (hd:(x==("__debug__":Str))=false:=by decide) (hcd:(x==("__classdict__":Str))=false:=by decide):PE X (.Name x pos) (ztl i):=by
 intro pins s σ H Q I h
 obtain ⟨v,e,h⟩:=h
 obtain ⟨m,hn,hl⟩:=I.loc
 obtain ⟨u,r,l⟩:=hl i x v hN e hv
 have fin:EP X pins σ Q u s:=⟨v,H,I,r,h⟩
 rcases l with ⟨hk,hm⟩ | ⟨hk,c,hc,hcell⟩
 ·exact wpAny_Name (wpAny_loadName_local I.ok.kind hk hn hm fin) hd
 ·rcases hk with hk | hk
  ·exact wpAny_Name (wpAny_loadName_cell I.ok.kind hk hc hcell fin) hd
  ·exact wpAny_Name (wpAny_loadName_free I.ok.kind hk hc hcell fin hcd) hd
theorem zah {i j pos}:PE X (.Constant (.int i) j pos) (tC (.int i)):=fun _ _ _ H _ I h=>wpAny_Constant_int ⟨.int i,H,I.tok _,⟨_,rfl⟩,h⟩
theorem ze1 {b j pos}:PE X (.Constant (.bool b) j pos) (tC (.bl b)):=fun _ _ _ H _ I h=>Constant_bool ⟨.bl b,H,I,rfl,h⟩
theorem ze4 {j pos}:PE X (.Constant .none j pos) (tC .non):=fun _ _ _ H _ I h=>Constant_none ⟨.non,H,I,rfl,h⟩
theorem zax {x j pos}:PE X (.Constant (.str x) j pos) (tC (.str x)):=fun _ _ _ H _ I h=>Calls.Constant_str ⟨.str x,H,I.tok _,⟨_,rfl⟩,h⟩
noncomputable def Gl (X:Cx) (x:Str):Prop:=X.env.kindOf x=some .globalImplicit
theorem zl1 {E:Value->Shared->Prop} {pins:List (Addr×Obj)} {s:Shared} {σ:St} {H:Hp} {x:Str} {u:Value} {pos:Pos} {Q:Value->Shared->Prop} (I:Inv X pins σ H s) (hg:Gl X x) (hm:X.mg x=some u) (h:Q u s)
 (hd:(x==("__debug__":Str))=false:=by decide):wpAny (model X.prog X.w) X.A (eval (.Name x pos) X.env) Q E s:=
 Calls.Name_function_global I.ok.kind hg (Calls.loadGlobal_global (by rw [I.ok.glob];exact I.mod.glob.keeps I.bk) hm h) hd
theorem ziy {E:Value->Shared->Prop} {pins:List (Addr×Obj)} {s:Shared} {σ:St} {H:Hp} {x:Str} {u:Value} {pos:Pos} {Q:Value->Shared->Prop} (I:Inv X pins σ H s) (hg:Gl X x) (hm:X.mg x=none) (hv:bootBuiltins x=some u) (h:Q u s)
 (hn:x≠"__name__":=by decide) (hd:(x==("__debug__":Str))=false:=by decide):wpAny (model X.prog X.w) X.A (eval (.Name x pos) X.env) Q E s:=by
 obtain ⟨mb,h1,h2⟩:=I.mod.blt
 exact Calls.Name_function_global I.ok.kind hg (Calls.loadGlobal_builtin (by rw [I.ok.glob];exact I.mod.glob.keeps I.bk) hm (by rw [I.ok.blt];exact h1.keeps I.bk) ((h2 x hn).trans hv) h) hd
theorem zgv {x:Str} {v:V} {u:Value} {pos:Pos} (hg:Gl X x) (hm:X.mg x=some u) (r:zcm v u) (hd:(x==("__debug__":Str))=false:=by decide):PE X (.Name x pos) (tC v):=
 fun _ _ _ H _ I h=>zl1 I hg hm ⟨v,H,I,r,h⟩ hd
theorem ze0 {x:Str} {v:V} {u:Value} {pos:Pos} (hg:Gl X x) (hm:X.mg x=none) (hv:bootBuiltins x=some u) (r:zcm v u) (hn:x≠"__name__":=by decide) (hd:(x==("__debug__":Str))=false:=by decide):PE X (.Name x pos) (tC v):=
 fun _ _ _ H _ I h=>ziy I hg hm hv ⟨v,H,I,r,h⟩ hn hd
variable {a b:Expr} {ta tb:TE} {pos:Pos}
noncomputable def PC (X:Cx) (op:CmpOp) (a b:Expr) (t:TE):Prop:=
 ∀(pins:List (Addr×Obj)) (s:Shared) (σ:St) (H:Hp) (Q:VK),Inv X pins σ H s->t σ H Q->
  wpAny (model X.prog X.w) X.A (eval a X.env) (fun v s₁=>wpAny (model X.prog X.w) X.A (eval b X.env) (fun u s₂=>wpAny (model X.prog X.w) X.A (compareOp op v u) (EP X pins σ Q) X.xe s₂) X.xe s₁) X.xe s
noncomputable def tB (t:TE):TT:=fun σ H Q=>t σ H fun x H1=>∃c,x=.bl c∧Q c H1
theorem zhu {op:CmpOp} {t:TE} (h:PC X op a b t) (h1:behindInMarks op b=false:=by first | exact nobehind _ (by decide) (by decide) | rfl):PT X (.Compare a [op] [b] pos) (tB t):=by
 intro pins s σ H Q I hw
 refine wpAny_isTrue_Compare1 (thn (h pins s σ H _ I hw) fun v s1 h1=>thn h1 fun u s2 h2=>thn h2 fun c s3 zz=>?_) h1
 obtain ⟨x,H1,I1,r1,q1⟩:=zz
 obtain ⟨d,rfl,q⟩:=q1
 cases r1
 exact wpAny_truthy_bool ⟨H1,I1,q⟩
theorem zdv {e:Expr} {t:TE} (h:PE X e t) (he:∀whole,isTrue e X.env whole=(do let v ←whole;standAt e.pos;holding [v] (truthy v)):=by intro _;rfl):PT X e (tB t):=by
 intro pins s σ H Q I hw
 refine isTrue_plain (thn (h pins s σ H _ I hw) fun v s1 zz=>?_) (he _)
 obtain ⟨x,H1,I1,r1,q1⟩:=zz
 obtain ⟨d,rfl,q⟩:=q1
 cases r1
 exact wpAny_truthy_bool ⟨H1,I1,q⟩
variable {tA tB':TT} {rest:List Expr}
noncomputable def zzi (t u:TT):TT:=fun σ H Q=>t σ H fun c H1=>if c=true then u σ H1 Q else Q false H1
noncomputable def tOr (t u:TT):TT:=fun σ H Q=>t σ H fun c H1=>if c=true then Q true H1 else u σ H1 Q
noncomputable def zzc (t:TT):TT:=fun σ H Q=>t σ H fun c H1=>Q (!c) H1
theorem zde (ha:PT X a tA):PW X (.BoolOp .And [a] pos) tA:=by
 intro wh pins s σ H Q I h
 refine isTrue_and (thn (ha pins s σ H Q I h) fun c s1 e=>?_)
 cases c with
 | true=>exact isTrue_and_nil e
 | false=>exact e
theorem zeo (ha:PT X a tA):PW X (.BoolOp .Or [a] pos) tA:=by
 intro wh pins s σ H Q I h
 refine isTrue_or (thn (ha pins s σ H Q I h) fun c s1 e=>?_)
 cases c with
 | false=>exact isTrue_or_nil e
 | true=>exact e
theorem zce (ha:PT X a tA) (hb:PW X (.BoolOp .And (b::rest) pos) tB'):PW X (.BoolOp .And (a::b::rest) pos) (zzi tA tB'):=by
 intro wh pins s σ H Q I h
 refine isTrue_and (thn (ha pins s σ H _ I h) fun c s1 zz=>?_)
 obtain ⟨H1,I1,q1⟩:=zz
 cases c with
 | true=>exact hb wh pins s1 σ H1 Q I1 q1
 | false=>exact ⟨H1,I1,q1⟩
theorem zeg (ha:PT X a tA) (hb:PW X (.BoolOp .Or (b::rest) pos) tB'):PW X (.BoolOp .Or (a::b::rest) pos) (tOr tA tB'):=by
 intro wh pins s σ H Q I h
 refine isTrue_or (thn (ha pins s σ H _ I h) fun c s1 zz=>?_)
 obtain ⟨H1,I1,q1⟩:=zz
 cases c with
 | true=>exact ⟨H1,I1,q1⟩
 | false=>exact hb wh pins s1 σ H1 Q I1 q1
theorem zdd (ha:PT X a tA):PT X (.UnaryOp .Not a pos) (zzc tA):=by
 intro pins s σ H Q I h
 exact isTrue_not (ha pins s σ H (fun c H1=>Q (!c) H1) I h)
noncomputable def zxi (ta tb:TE):TE:=fun σ H Q=>ta σ H fun x H1=>∃c,x=.bl c∧if c=true then tb σ H1 Q else Q (.bl false) H1
noncomputable def zxa (ta:TE):TE:=fun σ H Q=>ta σ H fun x H1=>∃c,x=.bl c∧Q (.bl (!c)) H1
theorem zhw {op} {t:TE} (h:PE X a t):PE X (.BoolOp op [a] pos) t:=fun pins s σ H Q I hw=>BoolOp_one (h pins s σ H Q I hw)
theorem ze5 (ha:PE X a ta) (hb:PE X (.BoolOp .And (b::rest) pos) tb):PE X (.BoolOp .And (a::b::rest) pos) (zxi ta tb):=by
 intro pins s σ H Q I h
 refine BoolOp_and (thn (ha pins s σ H _ I h) fun v s1 zz=>?_)
 obtain ⟨x,H1,I1,r1,q1⟩:=zz
 obtain ⟨c,rfl,q1⟩:=q1
 cases r1
 refine wpAny_truthy_bool ?_
 cases c with
 | true=>exact hb pins s1 σ H1 Q I1 q1
 | false=>exact ⟨.bl false,H1,I1,rfl,q1⟩
theorem zvy (ha:PE X a ta):PE X (.UnaryOp .Not a pos) (zxa ta):=by
 intro pins s σ H Q I h
 refine UnaryOp_ (thn (ha pins s σ H _ I h) fun v s1 zz=>?_)
 obtain ⟨x,H1,I1,r1,q1⟩:=zz
 obtain ⟨c,rfl,q1⟩:=q1
 cases r1
 exact not_of (wpAny_truthy_bool ⟨.bl (!c),H1,I1,rfl,q1⟩)
noncomputable def tIf (t:TT) (ta tb:TE):TE:=fun σ H Q=>t σ H fun c H1=>if c=true then ta σ H1 Q else tb σ H1 Q
theorem zrd {c:Expr} (hc:PT X c tA) (ha:PE X a ta) (hb:PE X b tb):PE X (.IfExp c a b pos) (tIf tA ta tb):=by
 intro pins s σ H Q I h
 refine wpAny_IfExp (thn (hc pins s σ H _ I h) fun d s1 zz=>?_)
 obtain ⟨H1,I1,q1⟩:=zz
 cases d with
 | true=>exact ha pins s1 σ H1 Q I1 q1
 | false=>exact hb pins s1 σ H1 Q I1 q1
end
end L2
namespace L2
open PySem PySem.Spec PyProof.Rows
noncomputable def SqL (K:ZBq) (H:Hp) (a:Addr) (xs:List V):Prop:=
 Rd H a (.lst xs)∨
  ∃(o:Obj) (its:Array Value) (n:Nat),K.lookup a=some o∧o.cls=.type "list"∧o.dict=none∧o.data=.seq its n∧its.size≤sizeLine∧zcb xs its.toList
noncomputable def SqT (K:ZBq) (H:Hp) (a:Addr) (xs:List V):Prop:=
 Rd H a (.tup xs)∨
  ∃(o:Obj) (its:Array Value) (n:Nat),K.lookup a=some o∧o.cls=.type "tuple"∧o.data=.seq its n∧its.size≤sizeLine∧zcb xs its.toList
noncomputable def zAt:Value->Option V
 | .none=>some .non
 | .bool b=>some (.bl b)
 | .int i _=>some (.int i)
 | .str x _=>some (.str x)
 | .bytes b _=>some (.byt b)
 | .float b _=>some (.flt b)
 | .ref a=>some (.ref a)
 | .type n=>some (.ty n)
 | _=>none
theorem zcm.abs {x:V} {u:Value} (r:zcm x u):zAt u=some x:=by
 cases x with
 | non=>cases r;rfl
 | bl _=>cases r;rfl
 | int _=>obtain ⟨t,rfl⟩:=r;rfl
 | str _=>obtain ⟨t,rfl⟩:=r;rfl
 | byt _=>obtain ⟨t,rfl⟩:=r;rfl
 | flt _=>obtain ⟨t,rfl⟩:=r;rfl
 | ref _=>cases r;rfl
 | ty _=>cases r;rfl
theorem zcm.inj {x y:V} {u:Value} (r:zcm x u) (q:zcm y u):x=y:=ZAn (r.abs.symm.trans q.abs)
theorem zcb.inj {xs ys:List V} {us:List Value} (h:zcb xs us) (h':zcb ys us):xs=ys:=by
 induction h generalizing ys with
 | nil=>cases h';rfl
 | cons r t ih=>
  cases h' with
  | cons r' t'=>rw [r.inj r',ih t']
section
variable {X:Cx} {pins:List (Addr×Obj)} {σ:St} {H:Hp} {s:Shared} {a:Addr} {xs ys:List V}
theorem SqL.of {K:ZBq} (h:H a=some (.lst xs)):SqL K H a xs:=.inl (.inl h)
theorem SqT.of {K:ZBq} (h:H a=some (.tup xs)):SqT K H a xs:=.inl (.inl h)
theorem Inv.list (I:Inv X pins σ H s) (h:SqL X.K H a xs):∃its:List Value,zcb xs its∧PlainL s.heap a its.toArray∧xs.length≤sizeLine:=by
 rcases h with h | ⟨o,its,n,hk,hc,hd,hs,hz,r⟩
 ·obtain ⟨z,its,n,r,e⟩:=h.ok I.hok
  exact ⟨its,r,⟨_,n,e,rfl,rfl,rfl⟩,z⟩
 ·refine ⟨its.toList,r,⟨o,n,I.kIn a o hk,hc,hd,by simpa using hs⟩,?_⟩
  have e:=r.length
  simp only [Array.length_toList] at e
  omega
theorem Inv.tuple (I:Inv X pins σ H s) (h:SqT X.K H a xs):∃its:List Value,zcb xs its∧IsTup s.heap a its.toArray∧xs.length≤sizeLine:=by
 rcases h with h | ⟨o,its,n,hk,hc,hs,hz,r⟩
 ·obtain ⟨z,its,r,p⟩:=h.ok I.hok
  exact ⟨its,r,p,z⟩
 ·refine ⟨its.toList,r,⟨o,I.kIn a o hk,hc,n,by simpa using hs⟩,?_⟩
  have e:=r.length
  simp only [Array.length_toList] at e
  omega
theorem Inv.list_inj (I:Inv X pins σ H s) (h:SqL X.K H a xs) (h':SqL X.K H a ys):xs=ys:=by
 obtain ⟨its,r,⟨o,n,e,_,_,d⟩,_⟩:=I.list h
 obtain ⟨its',r',⟨o',n',e',_,_,d'⟩,_⟩:=I.list h'
 rw [e] at e';cases e'
 rw [d] at d'
 injection d' with d1 _
 have:its=its':=by simpa using congrArg Array.toList d1
 subst this
 exact r.inj r'
theorem Inv.tuple_inj (I:Inv X pins σ H s) (h:SqT X.K H a xs) (h':SqT X.K H a ys):xs=ys:=by
 obtain ⟨its,r,⟨o,e,_,n,d⟩,_⟩:=I.tuple h
 obtain ⟨its',r',⟨o',e',_,n',d'⟩,_⟩:=I.tuple h'
 rw [e] at e';cases e'
 rw [d] at d'
 injection d' with d1 _
 have:its=its':=by simpa using congrArg Array.toList d1
 subst this
 exact r.inj r'
end
noncomputable abbrev Cx.wish (X:Cx) (E:Value->Shared->Prop):Cx:={ X with xe:=E }
noncomputable abbrev Cx.nox (X:Cx):Cx:=X.wish fun _ _=>False
theorem Cx.Ok.wish {X:Cx} (ok:X.Ok) (E:Value->Shared->Prop):(X.wish E).Ok:=
 ⟨ok.mod,ok.kind,ok.glob,ok.blt,ok.above,ok.inj,ok.has,ok.cab,ok.hd,ok.frames,ok.stk,ok.exf,ok.bs,ok.bsz,ok.noex,ok.exfs,ok.funs,ok.frf⟩
theorem Cx.Ok.unwish {X:Cx} {E:Value->Shared->Prop} (ok:(X.wish E).Ok):X.Ok:=
 ⟨ok.mod,ok.kind,ok.glob,ok.blt,ok.above,ok.inj,ok.has,ok.cab,ok.hd,ok.frames,ok.stk,ok.exf,ok.bs,ok.bsz,ok.noex,ok.exfs,ok.funs,ok.frf⟩
section
variable {X:Cx} {pins:List (Addr×Obj)} {σ:St} {H:Hp} {s:Shared} {E:Value->Shared->Prop}
theorem Inv.wish (I:Inv X pins σ H s) (E:Value->Shared->Prop):Inv (X.wish E) pins σ H s:=⟨I.ok.wish E,I.os,I.bare,I.base,I.loc,I.cell,I.free,I.freeC,I.pin,I.hok,I.len⟩
theorem Inv.unwish (I:Inv (X.wish E) pins σ H s):Inv X pins σ H s:=⟨I.ok.unwish,I.os,I.bare,I.base,I.loc,I.cell,I.free,I.freeC,I.pin,I.hok,I.len⟩
theorem SP.unwish {D:zse} {f:Flow} {s':Shared} (h:SP (X.wish E) pins D f s'):SP X pins D f s':=by
 cases f with
 | next=>obtain ⟨σ',H',I,q⟩:=h;exact ⟨σ',H',I.unwish,q⟩
 | brk=>obtain ⟨σ',H',I,q⟩:=h;exact ⟨σ',H',I.unwish,q⟩
 | cont=>obtain ⟨σ',H',I,q⟩:=h;exact ⟨σ',H',I.unwish,q⟩
 | ret u=>obtain ⟨v,σ',H',I,r,q⟩:=h;exact ⟨v,σ',H',I.unwish,r,q⟩
theorem PSs.nox {st:List Stmt} {t:TS} (h:PSs X.nox st t):PSs X st t:=fun pins s σ H D I hw=>
 wpAny_mono (h pins s σ H D (I.wish _) hw) (fun _ _ q=>q.unwish) fun _ _ z=>False.elim z
end
section
variable {X:Cx} {st:Stmt} {rest:List Stmt} {t u:TS} {e:Expr} {te:TE} {pos:Pos}
noncomputable def zxb:TS:=fun D σ H=>D.nx σ H
noncomputable def zza (t u:TS):TS:=fun D σ H=>t { D with nx:=u D } σ H
theorem zas:PSs X [] zxb:=fun _ _ σ H _ I h=>wpAny_execs_nil ⟨σ,H,I,h⟩
theorem zal (h1:PS X st t) (h2:PSs X rest u):PSs X (st::rest) (zza t u):=by
 intro pins s σ H D I h
 refine wpAny_execs_cons (thn (h1 pins s σ H { D with nx:=u D } I h) fun f s1 q=>?_)
 cases f with
 | next=>
  obtain ⟨σ',H',I',q⟩:=q
  exact h2 pins s1 σ' H' D I' q
 | ret v=>exact q
 | brk=>exact q
 | cont=>exact q
theorem zaf (h1:PS X st t):PSs X [st] t:=by
 intro pins s σ H D I h
 refine wpAny_execs_cons (thn (h1 pins s σ H D I h) fun f s1 q=>?_)
 cases f with
 | next=>exact wpAny_execs_nil q
 | ret v=>exact q
 | brk=>exact q
 | cont=>exact q
theorem Inv.quiet {pins:List (Addr×Obj)} {σ:St} {H:Hp} {s:Shared} (I:Inv X pins σ H s):interactive X.env=false:=by simp [interactive,I.ok.kind]
noncomputable def zxd (te:TE):TS:=fun D σ H=>te σ H fun _ H1=>D.nx σ H1
theorem zbt (he:PE X e te) (hs:swapsWith e none pos.line X.env=pure false:=by rfl):PS X (.Expr e pos) (zxd te):=by
 intro pins s σ H D I h
 exact wpAny_Expr_any (thn (he pins s σ H _ I h) fun v s1 zz=>L2.el5 zz fun x H1 I1 r1 q1=>⟨σ,H1,I1,q1⟩) I.quiet hs
noncomputable def zzb (te:TE):TS:=fun D σ H=>te σ H D.rt
theorem zaq (he:PE X e te):PS X (.Return (some e) pos) (zzb te):=by
 intro pins s σ H D I h
 exact wpAny_Return_some (thn (he pins s σ H _ I h) fun v s1 zz=>L2.el5 zz fun x H1 I1 r1 q1=>⟨x,σ,H1,I1,r1,q1⟩)
noncomputable def zze (c:TT) (t u:TS):TS:=fun D σ H=>c σ H fun b H1=>if b=true then t D σ H1 else u D σ H1
theorem zbk {c:Expr} {a b:List Stmt} {tc:TT} (hc:PT X c tc) (ha:PSs X a t) (hb:PSs X b u):PS X (.If c a b pos) (zze tc t u):=by
 intro pins s σ H D I h
 refine wpAny_If (thn (hc pins s σ H _ I h) fun d s1 zz=>?_)
 obtain ⟨H1,I1,q1⟩:=zz
 cases d with
 | true=>exact ha pins s1 σ H1 D I1 q1
 | false=>exact hb pins s1 σ H1 D I1 q1
noncomputable def zvd:TS:=fun _ _ _=>False
theorem zdo {sts:List Stmt}:PSs X sts zvd:=fun _ _ _ _ _ _ h=>h.elim
end
noncomputable abbrev TG:=V->St->Hp->(St->Hp->Prop)->Prop
noncomputable abbrev TGs:=List V->St->Hp->(St->Hp->Prop)->Prop
noncomputable def PG (X:Cx) (target:Expr) (t:TG):Prop:=
 ∀(pins:List (Addr×Obj)) (s:Shared) (σ:St) (H:Hp) (v:V) (u:Value) (Q:St->Hp->Prop),Inv X pins σ H s->zcm v u->t v σ H Q->
  wpAny (model X.prog X.w) X.A (assign target X.env u) (fun _ s'=>∃σ' H',Inv X pins σ' H' s'∧Q σ' H') X.xe s
noncomputable def PGs (X:Cx) (ts:List Expr) (t:TGs):Prop:=
 ∀(pins:List (Addr×Obj)) (s:Shared) (σ:St) (H:Hp) (vs:List V) (us:List Value) (Q:St->Hp->Prop),Inv X pins σ H s->zcb vs us->t vs σ H Q->
  wpAny (model X.prog X.w) X.A (assignInOrder ((assignEach ts X.env).map (·.2)) us) (fun _ s'=>∃σ' H',Inv X pins σ' H' s'∧Q σ' H') X.xe s
noncomputable abbrev zyo:=V->V->V->Hp->(Hp->Prop)->Prop
noncomputable def zy8 (X:Cx) (t:zyo):Prop:=
 ∀(pins:List (Addr×Obj)) (s:Shared) (σ:St) (H:Hp) (o i v:V) (ov iv u:Value) (Q:Hp->Prop),Inv X pins σ H s->zcm o ov->zcm i iv->zcm v u->t o i v H Q->
  wpAny (model X.prog X.w) X.A (setItem ov iv u) (fun _ s'=>∃H',Inv X pins σ H' s'∧Q H') X.xe s
noncomputable abbrev TIp:=V->V->Hp->VK->Prop
noncomputable def PIp (X:Cx) (op:Operator) (t:TIp):Prop:=
 ∀(pins:List (Addr×Obj)) (s:Shared) (σ:St) (H:Hp) (x y:V) (v u:Value) (Q:VK),Inv X pins σ H s->zcm x v->zcm y u->t x y H Q->
  wpAny (model X.prog X.w) X.A (inplaceOp op v u) (EP X pins σ Q) X.xe s
section
variable {X:Cx} {pos:Pos}
noncomputable def zp4 (i:Nat):TG:=fun v σ H Q=>Q (σ.set i (some v)) H
theorem zap {i:Nat} {x:Str} (hN:X.N.Nodup) (hi:X.N[i]?=some x) (hx:Loc X.env.scope x) (hf:X.fn x=true∨X.env.scope.names.lookup x=some .local:=by first | exact .inl rfl | exact .inr rfl | assumption):PG X (.Name x pos) (zp4 i):=by
 intro pins s σ H v u Q I r h
 exact wpAny_assign_Name (zjc I hN hi hx r (fun s' I'=>⟨_,H,I',h⟩) hf)
noncomputable def zAg:TGs:=fun vs σ H Q=>vs=[]∧Q σ H
noncomputable def zx7 (t:TG) (u:TGs):TGs:=fun vs σ H Q=>∃v r,vs=v::r∧t v σ H fun σ' H'=>u r σ' H' Q
theorem zf1:PGs X [] zAg:=by
 intro pins s σ H vs us Q I r h
 obtain ⟨e,h⟩:=h
 subst e
 cases r
 exact assignInOrder_nil ⟨σ,H,I,h⟩
theorem zbb {e:Expr} {es:List Expr} {t:TG} {u:TGs} (h1:PG X e t) (h2:PGs X es u)
 (hs:(assignEach (e::es) X.env).map (·.2)=assign e X.env::(assignEach es X.env).map (·.2):=by rfl):PGs X (e::es) (zx7 t u):=by
 intro pins s σ H vs us Q I r h
 obtain ⟨v,vr,e1,h⟩:=h
 subst e1
 cases r with
 | cons r rr=>
  rw [hs]
  refine assignInOrder_cons (thn (h1 pins s σ H _ _ _ I r h) fun _ s1 zz=>?_)
  obtain ⟨σ1,H1,I1,q1⟩:=zz
  exact h2 pins s1 σ1 H1 _ _ Q I1 rr q1
noncomputable def zx6 (K:ZBq) (n:Nat) (t:TGs):TG:=fun v σ H Q=>∃a xs,v=.ref a∧SqT K H a xs∧xs.length=n∧t xs σ H Q
theorem ziw {es:List Expr} {k:Nat} {t:TGs} {n:Nat} (hc:X.calm=true) (h:PGs X es t)
 (hn:(assignEach es X.env).length=n:=by rfl) (hst:(assignEach es X.env).findIdx? (·.1)=none:=by rfl):PG X (.Tuple es k pos) (zx6 X.K n t):=by
 intro pins s σ H v u Q I r hw
 obtain ⟨a,xs,e1,hq,hl,hw⟩:=hw
 subst e1
 cases r
 obtain ⟨its,rv,ht,hz⟩:=I.tuple hq
 refine assign_Tuple_tuple (I.ok.hd hc) ht (by simp [hn,←hl,rv.length]) hst fun h' hx=>?_
 have I1:Inv X pins σ H { s with heap:=h' }:=I.kept (t':=s.toks) fun b o e=>hx b o (ZAz (ZAs e)) e
 exact h pins _ σ H xs _ Q I1 (by simpa using rv) hw
noncomputable def zAf (to ti:TE) (t:zyo):TG:=fun v σ H Q=>to σ H fun o H1=>ti σ H1 fun i H2=>t o i v H2 fun H3=>Q σ H3
theorem zvw {o i:Expr} {to ti:TE} {t:zyo} (ho:PE X o to) (hi:PE X i ti) (hs:zy8 X t)
 (ha:∀v,assign (.Subscript o i pos) X.env v=(do
  let ov ←holding [v] (eval o X.env)
  let iv ←holding [v,ov] (eval i X.env)
  standAt pos
  holding [v,ov,iv] (setItem ov iv v)
  release [v,ov,iv] []):=by intro _;rfl):PG X (.Subscript o i pos) (zAf to ti t):=by
 intro pins s σ H v u Q I r h
 rw [ha]
 refine wpAny_bind (wpAny_holding (thn (ho pins s σ H _ I h) fun ov s1 zz=>?_))
 obtain ⟨x,H1,I1,r1,q1⟩:=zz
 refine wpAny_bind (wpAny_holding (thn (hi pins s1 σ H1 _ I1 q1) fun iv s2 zz=>?_))
 obtain ⟨y,H2,I2,r2,q2⟩:=zz
 refine wpAny_bind (wpAny_standAt (wpAny_bind (wpAny_holding (thn (hs pins s2 σ H2 x y v ov iv u _ I2 r1 r2 r q2) fun _ s3 zz=>?_))))
 obtain ⟨H3,I3,q3⟩:=zz
 exact wpAny_release ⟨σ,H3,I3,q3⟩
noncomputable def zwx (te:TE) (g:TG):TS:=fun D σ H=>te σ H fun x H1=>g x σ H1 D.nx
theorem zs1 {tg e:Expr} {te:TE} {g:TG} (he:PE X e te) (hg:PG X tg g) (hs:swapsWithSole [tg] e pos.line X.env=pure false:=by rfl) (hw:swappedStores [tg] e X.env=pure none:=by rfl)
 (h1:(assignEach [tg] X.env).map (·.2)=[assign tg X.env]:=by rfl):PS X (.Assign [tg] e pos) (zwx te g):=by
 intro pins s σ H D I h
 refine wpAny_Assign_stores (thn (he pins s σ H _ I h) fun v s1 zz=>?_) hs hw
 obtain ⟨x,H1,I1,r1,q1⟩:=zz
 rw [h1]
 exact thn (hg pins s1 σ H1 x v _ I1 r1 q1) fun _ s2 q=>q
theorem za0 {i:Nat} {x:Str} {e:Expr} {te:TE} {pos':Pos} (hN:X.N.Nodup) (hi:X.N[i]?=some x) (hx:Loc X.env.scope x) (he:PE X e te) (hs:swapsWith e (some (.Name x pos')) pos.line X.env=pure false:=by rfl) (hf:X.fn x=true∨X.env.scope.names.lookup x=some .local:=by first | exact .inl rfl | exact .inr rfl | assumption):
 PS X (.Assign [.Name x pos'] e pos) (zwx te (zp4 i)):=by
 intro pins s σ H D I h
 refine wpAny_Assign_Name (thn (he pins s σ H _ I h) fun v s1 zz=>?_) hs
 obtain ⟨y,H1,I1,r1,q1⟩:=zz
 exact zjc I1 hN hi hx r1 (fun s2 I2=>⟨_,H1,I2,q1⟩) hf
noncomputable def zzh (i:Nat) (te:TE) (ti:TIp):TS:=fun D σ H=>∃x,σ[i]?=some (some x)∧te σ H fun y H1=>ti x y H1 fun z H2=>D.nx (σ.set i (some z)) H2
theorem zo8 {i:Nat} {x:Str} {e:Expr} {te:TE} {op:Operator} {ti:TIp} {pos':Pos} (hN:X.N.Nodup) (hi:X.N[i]?=some x) (hx:Loc X.env.scope x) (he:PE X e te) (ho:PIp X op ti) (hf:X.fn x=true∨X.env.scope.names.lookup x=some .local:=by first | exact .inl rfl | exact .inr rfl | assumption):
 PS X (.AugAssign (.Name x pos') op e pos) (zzh i te ti):=by
 intro pins s σ H D I h
 obtain ⟨v,e1,h⟩:=h
 obtain ⟨m,hn,hl⟩:=I.loc
 have vis:Vis X.env.scope x:=by rcases hx with k | k;exact .inl k;exact .inr (.inl k)
 obtain ⟨u,r,l⟩:=hl i x v hi e1 vis
 refine wpAny_AugAssign_Name ?_
 have go:wpAny (model X.prog X.w) X.A (eval e X.env) (fun w s₂=>wpAny (model X.prog X.w) X.A (inplaceOp op u w) (fun r s₃=>wpAny (model X.prog X.w) X.A (storeName X.env x r) (fun _=>SP X pins D .next) X.xe s₃) X.xe s₂) X.xe s:=by
  refine thn (he pins s σ H _ I h) fun w s1 zz=>?_
  obtain ⟨y,H1,I1,r1,q1⟩:=zz
  refine thn (ho pins s1 σ H1 v y u w _ I1 r r1 q1) fun z s2 zz=>?_
  obtain ⟨zv,H2,I2,r2,q2⟩:=zz
  exact zjc I2 hN hi hx r2 (fun s3 I3=>⟨_,H2,I3,q2⟩) hf
 rcases l with ⟨hk,hm⟩ | ⟨hk,c,hc,hcell⟩
 ·exact wpAny_loadName_local I.ok.kind hk hn hm go
 ·rcases hk with hk | hk
  ·exact wpAny_loadName_cell I.ok.kind hk hc hcell go
  ·rcases hx with k | k
   ·have:X.env.scope.names.lookup x=some .free:=hk
    rw [k] at this;cases this
   ·have:X.env.scope.names.lookup x=some .free:=hk
    rw [k] at this;cases this
noncomputable def ipI (f:Int->Int->Int):TIp:=fun x y H Q=>∃i j,x=.int i∧y=.int j∧Q (.int (f i j)) H
theorem zpx:PIp X .Add (ipI fun i j=>i+j):=by
 intro pins s σ H x y v u Q I r1 r2 h
 obtain ⟨i,j,e1,e2,q⟩:=h
 subst e1;subst e2
 obtain ⟨t,rfl⟩:=r1
 obtain ⟨t',rfl⟩:=r2
 exact iadd_int ⟨.int _,H,I.tok _,⟨_,rfl⟩,q⟩
end
section
variable {X:Cx} {pos:Pos}
noncomputable def zvc (c:TT) (tb:TS):TS:=fun D σ H=>∃W:Nat->St->Hp->Prop,(∃m,W m σ H)∧∀m σ H,W m σ H->
 c σ H fun b H1=>if b=true then ∃N:St->Hp->Prop,(∀σ' H',N σ' H'->∃m',m'<m∧W m' σ' H')∧tb { D with nx:=N,ct:=N,bk:=D.nx } σ H1 else D.nx σ H1
theorem zra {c:Expr} {body:List Stmt} {tc:TT} {tb:TS} (hp:PassesOwn (model X.prog X.w) X.A X.env X.xe) (hc:PT X c tc) (hb:PSs X body tb):PS X (.While c body [] pos) (zvc tc tb):=by
 intro pins s σ H D I h
 obtain ⟨W,⟨m0,w0⟩,turn⟩:=h
 refine wpAny_While (codeAny_whileLoop (fun n s'=>∃σ' H',Inv X pins σ' H' s'∧W n σ' H') ?_ m0 ⟨σ,H,I,w0⟩)
 rintro n s1 ⟨σ1,H1,I1,w1⟩
 refine wpAny_passesOwn hp (thn (hc pins s1 σ1 H1 _ I1 (turn n σ1 H1 w1)) fun b s2 zz=>?_)
 obtain ⟨H2,I2,q2⟩:=zz
 cases b with
 | true=>
  obtain ⟨N,hN,q2⟩:=q2
  rw [if_pos rfl]
  refine wpAny_passesOwn hp (thn (hb pins s2 σ1 H2 _ I2 q2) fun f s3 q3=>?_)
  cases f with
  | next=>
   obtain ⟨σ3,H3,I3,n3⟩:=q3
   obtain ⟨m',hm,w3⟩:=hN σ3 H3 n3
   exact ⟨m',hm,σ3,H3,I3,w3⟩
  | cont=>
   obtain ⟨σ3,H3,I3,n3⟩:=q3
   obtain ⟨m',hm,w3⟩:=hN σ3 H3 n3
   exact ⟨m',hm,σ3,H3,I3,w3⟩
  | brk=>exact q3
  | ret v=>exact q3
 | false=>
  rw [if_neg ZAm]
  exact wpAny_execs_nil ⟨σ1,H2,I2,q2⟩
end
structure It where
 go:Nat->Hp->Prop
 yld:Nat->Hp->V->Hp->Prop
 stop:Nat->Hp->Prop
noncomputable def zqr (X:Cx) (pins:List (Addr×Obj)) (H:Hp) (b:Addr):Prop:=
 H b=none∧b≠X.env.locals∧b∉X.fs∧(b∈X.ex∨X.s₀.heap.objs.size≤b)∧(∀x c,X.env.cells.lookup x=some c->c≠b)∧∀p∈X.pn++pins,p.1≠b
theorem Inv.fpOk {X:Cx} {pins:List (Addr×Obj)} {σ:St} {H H':Hp} {s:Shared} {b:Addr} (I:Inv X pins σ H s) (hb:s.heap.objs.size≤b) (hn:H' b=none):zqr X pins H' b:=by
 refine ⟨hn,Nat.ne_of_gt (ZA2 I.lt hb),I.nofs hb,.inr (ZAw I.sz hb),fun x c e z=>?_,fun p hp z=>?_⟩
 ·obtain ⟨v,q⟩:=I.cell x c e
  exact absurd (ZA2 q.lt (by rw [z];exact hb)) (ZBi _)
 ·exact absurd (ZA2 (ZAs (I.pin p hp).1) (by rw [z];exact hb)) (ZBi _)
noncomputable def zwr (X:Cx):Prop:=X.A.handled=none∨∃(a C:Addr) (dx:Option Addr) (t tb:Value) (u:HO),X.A.handled=some (.ref a)∧X.H₀ a=some (.frz (zla C dx t tb) u)
noncomputable def zf6 (X:Cx):Prop:=X.calm=true∨zwr X
theorem znt {X:Cx} {pins:List (Addr×Obj)} {σ:St} {H:Hp} {s:Shared} (q:zf6 X) (I:Inv X pins σ H s):Hd X.A s.heap:=by
 rcases q with q | q | ⟨a,C,dx,t,tb,u,q,e⟩
 ·exact .inl (I.ok.hd q)
 ·exact .inl q
 ·exact .inr ⟨a,C,dx,t,tb,q,(I.hok a _ (I.base.frzs a _ _ e)).1⟩
theorem zf6.in_ {X:Cx} {pins:List (Addr×Obj)} {σ:St} {H:Hp} {s:Shared} (q:zf6 X) (I:Inv X pins σ H s) {Y:Cx} (h1:Y.calm=X.calm) (h2:Y.A.handled=X.A.handled) (h3:∀a o u,H a=some (.frz o u)->Y.H₀ a=some (.frz o u)):zf6 Y:=by
 rcases q with q | q | ⟨a,C,dx,t,tb,u,q,e⟩
 ·exact .inl (h1.trans q)
 ·exact .inr (.inl (h2.trans q))
 ·exact .inr (.inr ⟨a,C,dx,t,tb,u,h2.trans q,h3 _ _ _ (I.base.frzs a _ _ e)⟩)
structure zus (P:Program) (w:World) (K:ZBq) (tg:Expr) (J:It) (fp:List Addr) (it:Addr) (tn:Nat->Heap->Prop):Prop where
 mem:it∈fp
 obj:∀i h,tn i h->∀b∈fp,∃o,h.get? b=some o∧∀v,o.data≠.cell v
 keep:∀i h h',tn i h->(∀b∈fp,∀o,h.get? b=some o->h'.get? b=some o)->tn i h'
 item:∀(X:Cx),X.prog=P->X.w=w->X.K=K->zf6 X->∀(i:Nat) (pins:List (Addr×Obj)) (s:Shared) (σ:St) (H:Hp) (E:Value->Shared->Prop),Inv X pins σ H s->(∀b∈fp,zqr X pins H b)->tn i s.heap->J.go i H->
  wpAny (model P w) X.A (pyNext (.ref it)) (fun r s1=>∃u,r=some u∧
   wpAny (model P w) X.A (letOwnedTupleGo tg (.ref it) u) (fun _ s2=>∃x H',Inv X pins σ H' s2∧zcm x u∧J.yld i H x H'∧tn (i+1) s2.heap∧∀b∈fp,H' b=none) E s1) E s
 done:∀(X:Cx),X.prog=P->X.w=w->X.K=K->zf6 X->∀(i:Nat) (pins:List (Addr×Obj)) (s:Shared) (σ:St) (H:Hp) (E:Value->Shared->Prop),Inv X pins σ H s->(∀b∈fp,zqr X pins H b)->tn i s.heap->J.stop i H->
  wpAny (model P w) X.A (pyNext (.ref it)) (fun r s1=>r=none∧Inv X pins σ H s1) E s
 self:∀(A:Around) (i:Nat) (s:Shared) (Q:Value->Shared->Prop) (E:Value->Shared->Prop),tn i s.heap->Q (.ref it) s->wpAny (model P w) A (pyIter (.ref it)) Q E s
noncomputable abbrev TI:=St->Hp->(It->Hp->Prop)->Prop
noncomputable def PIE (X:Cx) (pins:List (Addr×Obj)) (σ:St) (tg:Expr) (R:It->Hp->Prop) (itv:Value) (s2:Shared):Prop:=
 ∃(it:Addr) (fp:List Addr) (tn:Nat->Heap->Prop) (J:It) (H':Hp),itv=.ref it∧Inv X pins σ H' s2∧zus X.prog X.w X.K tg J fp it tn∧tn 0 s2.heap∧(∀b∈fp,zqr X pins H' b)∧R J H'
noncomputable def PI (X:Cx) (tg iter:Expr) (wi:TI):Prop:=
 ∀(pins:List (Addr×Obj)) (s:Shared) (σ:St) (H:Hp) (R:It->Hp->Prop),Inv X pins σ H s->wi σ H R->
  wpAny (model X.prog X.w) X.A (eval iter X.env) (fun v s1=>wpAny (model X.prog X.w) X.A (pyIter v) (PIE X pins σ tg R) X.xe s1) X.xe s
theorem zru {M:Model} {A:Around} {E:Value->Shared->Prop} {s:Shared} {tg:Expr} {it:Addr} {u:Value} {o:Obj} {n:String} {vs:Array Value} {Q:Unit->Shared->Prop} (ho:s.heap.get? it=some o) (hc:o.cls=.type n) (hd:o.data=.fields vs)
 (hn:["enumerate","zip","dict_itemiterator","dict_reverseitemiterator","odict_iterator","itertools.zip_longest","itertools.pairwise"].contains n=false) (hQ:Q () s):wpAny M A (letOwnedTupleGo tg (.ref it) u) Q E s:=by
 unfold letOwnedTupleGo
 cases tg<;>first
  | exact wpAny_pure hQ
  | (cases u<;>first
   | exact wpAny_pure hQ
   | (refine wpAny_bind (wpAny_load ho ?_)
      rw [hc,hd]
      show wpAny M A (if (["enumerate","zip","dict_itemiterator","dict_reverseitemiterator","odict_iterator","itertools.zip_longest","itertools.pairwise"].contains n && vs[0]?==some (rawInt _))=true then _ else _) Q E s
      rw [if_neg (by intro h;rw [hn,Bool.false_and] at h;cases h)]
      exact wpAny_pure hQ))
noncomputable def Itl (K:ZBq) (a:Addr):It:=
 ⟨fun i H=>∃xs x,SqL K H a xs∧xs[i]?=some x,fun i H x H'=>H'=H∧∀xs,SqL K H a xs->xs[i]?=some x,fun i H=>∃xs,SqL K H a xs∧xs.length≤i⟩
noncomputable def Itt (K:ZBq) (a:Addr):It:=
 ⟨fun i H=>∃xs x,SqT K H a xs∧xs[i]?=some x,fun i H x H'=>H'=H∧∀xs,SqT K H a xs->xs[i]?=some x,fun i H=>∃xs,SqT K H a xs∧xs.length≤i⟩
noncomputable def Itr (lo:Int) (n:Nat):It:=⟨fun i _=>i<n,fun i H x H'=>H'=H∧x=.int (lo+i),fun i _=>n≤i⟩
theorem zoc {P:Program} {w:World} {K:ZBq} {tg:Expr} (a it:Addr):zus P w K tg (Itl K a) [it] it (fun i h=>h.IsListIter it a i) where
 mem:=by simp
 obj:=fun i h st b hb=>by
  have e:b=it:=by simpa using hb
  subst e
  obtain ⟨o,e,c,d⟩:=st
  exact ⟨o,e,fun v z=>by rw [d] at z;cases z⟩
 keep:=fun i h h' st k=>st.at fun o e=>k it (by simp) o e
 item:=by
  intro X hP hw hK hc i pins s σ H E I hf st hg
  subst hP hw hK
  obtain ⟨xs,x,hq,hx⟩:=hg
  obtain ⟨its,rv,p,hz⟩:=I.list hq
  obtain ⟨u,hu,ru⟩:=rv.get hx
  obtain ⟨f0,f1,f2,f3,f4,f5⟩:=hf it (by simp)
  refine wpAny_pyNext_list_item st p.isList (x:=u) (by simpa using hu) fun h' st' sb=>?_
  have I1:Inv X pins σ H { s with heap:=h' }:=I.turned (t':=s.toks) (fun b o hb e=>(sb.2 b hb).trans e) f0 f1 f3 f4 f5
  obtain ⟨o,e,c,d⟩:=id st'
  exact ⟨u,rfl,zru (s:={ s with heap:=h' }) e c d (by decide) ⟨x,H,I1,ru,⟨rfl,fun ys hy=>by rw [I.list_inj hy hq];exact hx⟩,st',fun b hb=>(hf b hb).1⟩⟩
 done:=by
  intro X hP hw hK hc i pins s σ H E I hf st hg
  subst hP hw hK
  obtain ⟨xs,hq,hx⟩:=hg
  obtain ⟨its,rv,p,hz⟩:=I.list hq
  obtain ⟨f0,f1,f2,f3,f4,f5⟩:=hf it (by simp)
  have hl:=rv.length
  exact zlz (znt hc I) st p.isList (by simp;omega) fun h' eb=>⟨rfl,I.turned (t':=s.toks) (fun b o hb e=>eb b o hb e) f0 f1 f3 f4 f5⟩
 self:=fun _ _ _ _ _ st h=>wpAny_pyIter_listiter st h
theorem znh {P:Program} {w:World} {K:ZBq} {tg:Expr} (a it:Addr):zus P w K tg (Itt K a) [it] it (fun i h=>h.IsTupleIter it a i) where
 mem:=by simp
 obj:=fun i h st b hb=>by
  have e:b=it:=by simpa using hb
  subst e
  obtain ⟨o,e,c,d⟩:=st
  exact ⟨o,e,fun v z=>by rw [d] at z;cases z⟩
 keep:=fun i h h' st k=>st.at fun o e=>k it (by simp) o e
 item:=by
  intro X hP hw hK hc i pins s σ H E I hf st hg
  subst hP hw hK
  obtain ⟨xs,x,hq,hx⟩:=hg
  obtain ⟨its,rv,p,hz⟩:=I.tuple hq
  obtain ⟨u,hu,ru⟩:=rv.get hx
  obtain ⟨f0,f1,f2,f3,f4,f5⟩:=hf it (by simp)
  refine wpAny_pyNext_tuple_item st (show s.heap.IsTuple a its.toArray from p) (x:=u) (by simpa using hu) fun h' st' sb=>?_
  have I1:Inv X pins σ H { s with heap:=h' }:=I.turned (t':=s.toks) (fun b o hb e=>(sb.2 b hb).trans e) f0 f1 f3 f4 f5
  obtain ⟨o,e,c,d⟩:=id st'
  exact ⟨u,rfl,zru (s:={ s with heap:=h' }) e c d (by decide) ⟨x,H,I1,ru,⟨rfl,fun ys hy=>by rw [I.tuple_inj hy hq];exact hx⟩,st',fun b hb=>(hf b hb).1⟩⟩
 done:=by
  intro X hP hw hK hc i pins s σ H E I hf st hg
  subst hP hw hK
  obtain ⟨xs,hq,hx⟩:=hg
  obtain ⟨its,rv,p,hz⟩:=I.tuple hq
  obtain ⟨f0,f1,f2,f3,f4,f5⟩:=hf it (by simp)
  have hl:=rv.length
  exact zil (znt hc I) st p (by simp;omega) fun h' eb=>⟨rfl,I.turned (t':=s.toks) (fun b o hb e=>eb b o hb e) f0 f1 f3 f4 f5⟩
 self:=fun _ _ _ _ _ st h=>wpAny_pyIter_tupleiter st h
theorem zni {P:Program} {w:World} {K:ZBq} {tg:Expr} (it:Addr) (lo:Int) (n:Nat):zus P w K tg (Itr lo n) [it] it (fun i h=>IsRangeIter h it (lo+(i:Nat)*1) ((n:Int)-(i:Nat)) 1) where
 mem:=by simp
 obj:=fun i h st b hb=>by
  have e:b=it:=by simpa using hb
  subst e
  exact ⟨_,st,fun v z=>by
   have z':Data.fields _=Data.cell v:=z
   cases z'⟩
 keep:=fun i h h' st k=>k it (by simp) _ st
 item:=by
  intro X hP hw hK hc i pins s σ H E I hf st hg
  subst hP hw hK
  obtain ⟨f0,f1,f2,f3,f4,f5⟩:=hf it (by simp)
  refine zjj hg st fun t h' tk st' kk=>?_
  have I1:Inv X pins σ H { s with heap:=h',toks:=tk }:=I.turned (fun b o hb e=>kk b o (by simpa using hb) e) f0 f1 f3 f4 f5
  refine ⟨_,rfl,zru (s:={ s with heap:=h',toks:=tk }) (n:="range_iterator") st' rfl rfl (by decide) ⟨.int (lo+i),H,I1,⟨t,?_⟩,⟨rfl,rfl⟩,st',fun b hb=>(hf b hb).1⟩⟩
  rw [Int.mul_one]
 done:=by
  intro X hP hw hK hc i pins s σ H E I hf st hg
  subst hP hw hK
  obtain ⟨f0,f1,f2,f3,f4,f5⟩:=hf it (by simp)
  exact zg1 (znt hc I) st (by have:n≤i:=hg;omega) fun h' eb=>⟨rfl,I.turned (t':=s.toks) (fun b o hb e=>eb b o hb e) f0 f1 f3 f4 f5⟩
 self:=fun _ _ _ _ _ st h=>wpAny_pyIter_rangeiter st h
end L2
namespace L2
open PySem PySem.Spec PyProof.Rows
section
variable {X:Cx} {tg:Expr}
noncomputable def zx4 (K:ZBq) (tl:TE):TI:=fun σ H R=>tl σ H fun x H1=>∃a,x=.ref a∧(∃xs,SqL K H1 a xs)∧R (Itl K a) H1
noncomputable def zAe (K:ZBq) (tl:TE):TI:=fun σ H R=>tl σ H fun x H1=>∃a,x=.ref a∧(∃xs,SqT K H1 a xs)∧R (Itt K a) H1
theorem zb2 {l:Expr} {tl:TE} (hl:PE X l tl):PI X tg l (zx4 X.K tl):=by
 intro pins s σ H R I h
 refine thn (hl pins s σ H _ I h) fun v s1 zz=>?_
 obtain ⟨x,H1,I1,r1,q1⟩:=zz
 obtain ⟨a,e,⟨xs,hq⟩,q⟩:=q1
 subst e
 cases r1
 obtain ⟨its,rv,p,hz⟩:=I1.list hq
 refine wpAny_pyIter_list p.isList ?_
 refine ⟨s1.heap.objs.size,[s1.heap.objs.size],_,_,H1,rfl,I1.kept (t':=s1.toks) fun b o e=>ZAe _ e,zoc a _,⟨_,ZAx _ rfl,rfl,rfl⟩,fun b hb=>?_,q⟩
 have e:b=s1.heap.objs.size:=by simpa using hb
 subst e
 exact I1.fpOk (ZAc _) (I1.hok.fresh (ZAc _))
theorem zga {l:Expr} {tl:TE} (hl:PE X l tl):PI X tg l (zAe X.K tl):=by
 intro pins s σ H R I h
 refine thn (hl pins s σ H _ I h) fun v s1 zz=>?_
 obtain ⟨x,H1,I1,r1,q1⟩:=zz
 obtain ⟨a,e,⟨xs,hq⟩,q⟩:=q1
 subst e
 cases r1
 obtain ⟨its,rv,p,hz⟩:=I1.tuple hq
 refine wpAny_pyIter_tuple (show s1.heap.IsTuple a its.toArray from p) ?_
 refine ⟨s1.heap.objs.size,[s1.heap.objs.size],_,_,H1,rfl,I1.kept (t':=s1.toks) fun b o e=>ZAe _ e,znh a _,⟨_,ZAx _ rfl,rfl,rfl⟩,fun b hb=>?_,q⟩
 have e:b=s1.heap.objs.size:=by simpa using hb
 subst e
 exact I1.fpOk (ZAc _) (I1.hok.fresh (ZAc _))
theorem zmw {pins:List (Addr×Obj)} {σ:St} {H:Hp} {s:Shared} {R:It->Hp->Prop} {E:Value->Shared->Prop} {lo hi:Int} {t u v:Tok} {tk:Nat} (I:Inv X pins σ H s) (h1: -(2 ^ 62)≤lo) (h2:lo<2 ^ 62) (h3: -(2 ^ 62)≤hi) (h4:hi<2 ^ 62)
 (q:R (Itr lo (hi-lo).toNat) H):wpAny (model X.prog X.w) X.A (pyIter (.ref s.heap.objs.size)) (PIE X pins σ tg R) E { s with heap:=s.heap.push { cls:=.type "range",data:=.fields #[.int lo t,.int hi u,.int 1 v] },toks:=tk }:=by
 refine wpAny_pyIter_range (IsRange.new ..) (small_one h1 h2 h3 h4) ?_
 have I1:Inv X pins σ H { s with heap:=s.heap.push { cls:=.type "range",data:=.fields #[.int lo t,.int hi u,.int 1 v] },toks:=tk }:=I.kept fun b o e=>ZAe _ e
 refine ⟨(s.heap.push { cls:=.type "range",data:=.fields #[.int lo t,.int hi u,.int 1 v] }).objs.size,[(s.heap.push { cls:=.type "range",data:=.fields #[.int lo t,.int hi u,.int 1 v] }).objs.size],_,_,H,rfl,
  I1.kept (t':=tk) fun b o e=>ZAe _ e,zni _ lo (hi-lo).toNat,?_,fun b hb=>?_,q⟩
 ·have e1:lo+((0:Nat):Int)*1=lo:=by simp
  have e2:(((hi-lo).toNat:Nat):Int)-((0:Nat):Int)=Builtin.Range.rangeSize lo hi 1:=by rw [rangeSize_one];split<;>omega
  show IsRangeIter _ _ (lo+((0:Nat):Int)*1) ((((hi-lo).toNat:Nat):Int)-((0:Nat):Int)) 1
  rw [e1,e2]
  exact ZAx _ rfl
 ·have e:b=(s.heap.push { cls:=.type "range",data:=.fields #[.int lo t,.int hi u,.int 1 v] }).objs.size:=by simpa using hb
  subst e
  exact I1.fpOk (ZAc _) (I1.hok.fresh (ZAc _))
noncomputable def zx3 (ta:TA):TI:=fun σ H R=>ta σ H fun vs H1=>∃j:Int,vs=[.int j]∧-(2 ^ 62)≤j∧j<2 ^ 62∧R (Itr 0 j.toNat) H1
noncomputable def zx2 (ta:TA):TI:=fun σ H R=>ta σ H fun vs H1=>∃i j:Int,vs=[.int i,.int j]∧(-(2 ^ 62)≤i∧i<2 ^ 62∧-(2 ^ 62)≤j∧j<2 ^ 62)∧R (Itr i (j-i).toNat) H1
theorem zd2 {a:Expr} {ta:TA} {p pos:Pos} (hg:Gl X "range") (hm:X.mg "range"=none) (ha:PA X [a] ta) (hs:starEach [a] X.env=[(false,eval a X.env)]:=by rfl):PI X tg (.Call (.Name "range" p) [a] [] pos) (zx3 ta):=by
 intro pins s σ H R I h
 refine Call_ (ziy I hg hm boot_range (PyProof.Rows.callWith_type1 (thn (ha pos pins s σ H _ I h) fun us s1 zz=>?_) hs rfl))
 obtain ⟨vs,H1,I1,r1,q1⟩:=zz
 obtain ⟨j,e,q1,q2,q⟩:=q1
 subst e
 cases r1 with
 | cons r rr=>
  cases rr
  obtain ⟨t,rfl⟩:=r
  exact call_range_1 (zmw I1 (by omega) (by omega) q1 q2 (by simpa using q))
theorem zkv {a b:Expr} {ta:TA} {p pos:Pos} (hg:Gl X "range") (hm:X.mg "range"=none) (ha:PA X [a,b] ta) (hs:starEach [a,b] X.env=[(false,eval a X.env),(false,eval b X.env)]:=by rfl) (hs2:starEach [b] X.env=[(false,eval b X.env)]:=by rfl):
 PI X tg (.Call (.Name "range" p) [a,b] [] pos) (zx2 ta):=by
 intro pins s σ H R I h
 refine Call_ (ziy I hg hm boot_range (PyProof.Rows.callWith_type1 (thn (ha pos pins s σ H _ I h) fun us s1 zz=>?_) (by rw [hs,hs2]) (by rw [hs2];rfl)))
 obtain ⟨vs,H1,I1,r1,q1⟩:=zz
 obtain ⟨i,j,e,⟨q1,q2,q3,q4⟩,q⟩:=q1
 subst e
 cases r1 with
 | cons r rr=>
  cases rr with
  | cons r' rr=>
   cases rr
   obtain ⟨t,rfl⟩:=r
   obtain ⟨t',rfl⟩:=r'
   exact call_range_2 (zmw I1 q1 q2 q3 q4 q)
noncomputable def zyq (wi:TI) (g:TG) (tb:TS):TS:=fun D σ H=>wi σ H fun J H1=>∃W:Nat->Nat->St->Hp->Prop,(∃m,W 0 m σ H1)∧∀i m σ H,W i m σ H->
 (J.stop i H∧D.nx σ H)∨(J.go i H∧∃N:St->Hp->Prop,(∀σ' H',N σ' H'->∃m',m'<m∧W (i+1) m' σ' H')∧∀x H',J.yld i H x H'->g x σ H' fun σ2 H2=>tb { D with nx:=N,ct:=N,bk:=D.nx } σ2 H2)
noncomputable def zku (fp:List Addr) (h:Heap):List (Addr×Obj):=fp.filterMap fun b=>(h.get? b).map fun o=>(b,o)
theorem zfn {fp:List Addr} {h:Heap} {b:Addr} {o:Obj} (hb:b∈fp) (e:h.get? b=some o):(b,o)∈zku fp h:=List.mem_filterMap.mpr ⟨b,hb,by rw [e];rfl⟩
theorem zpm {fp:List Addr} {h:Heap} {p:Addr×Obj} (hp:p∈zku fp h):p.1∈fp∧h.get? p.1=some p.2:=by
 obtain ⟨b,hb,e⟩:=List.mem_filterMap.mp hp
 cases q:h.get? b with
 | none=>rw [q] at e;cases e
 | some o=>
  rw [q] at e
  have e':(b,o)=p:=ZAn e
  subst e'
  exact ⟨hb,q⟩
theorem Inv.pinned {pins:List (Addr×Obj)} {σ:St} {H:Hp} {s:Shared} {fp:List Addr} (I:Inv X pins σ H s) (hf:∀b∈fp,zqr X pins H b) (ho:∀b∈fp,∃o,s.heap.get? b=some o∧∀v,o.data≠.cell v):Inv X (pins++zku fp s.heap) σ H s:=
 I.pins_of fun p hp=>(ZA4.mp hp).elim (fun z=>I.pin p (ZA3 _ z)) fun z=>by
  obtain ⟨hb,e⟩:=zpm z
  obtain ⟨f0,f1,f2,_⟩:=hf p.1 hb
  obtain ⟨o,e',d⟩:=ho p.1 hb
  rw [e] at e';cases e'
  exact ⟨e,f0,f1,f2,d⟩
theorem Inv.unpinned {pins pl:List (Addr×Obj)} {σ:St} {H:Hp} {s:Shared} (I:Inv X (pins++pl) σ H s):Inv X pins σ H s:=I.pins_of fun p hp=>I.pin p (ZA3 _ (List.mem_append_left _ hp))
theorem zlu {iter:Expr} {body:List Stmt} {wi:TI} {g:TG} {tb:TS} {pos:Pos} (hp:PassesOwn (model X.prog X.w) X.A X.env X.xe) (hc:zf6 X) (hi:PI X tg iter wi) (hg:PG X tg g) (hb:PSs X body tb)
 (hs:∀x,foldedSetIterable iter X.env x=pure x:=by intro _;rfl):PS X (.For tg iter body [] pos) (zyq wi g tb):=by
 intro pins s σ H D I h
 refine wpAny_For (thn (hi pins s σ H _ I h) fun v s1 h1=>thn h1 fun itv s2 h2=>?_) hs
 obtain ⟨it,fp,tn,J,H2,e,I2,T,st2,f2,W,⟨m0,w0⟩,turn⟩:=h2
 subst e
 have stat:∀{H':Hp},(∀b∈fp,H' b=none)->∀b∈fp,zqr X pins H' b:=fun hn b hb=>⟨hn b hb,(f2 b hb).2⟩
 refine codeAny_forLoop_any (fun n s'=>∃i σ' H',Inv X pins σ' H' s'∧tn i s'.heap∧(∀b∈fp,H' b=none)∧W i n σ' H') ?_ m0 ⟨0,σ,H2,I2,st2,fun b hb=>(f2 b hb).1,w0⟩
 rintro n s3 ⟨i,σ3,H3,I3,st3,fr3,w3⟩
 rcases turn i n σ3 H3 w3 with ⟨stop,qn⟩ | ⟨go,N,hN,step⟩
 ·refine wpAny_passesOwn hp (thn (T.done X rfl rfl rfl hc i pins s3 σ3 H3 X.xe I3 (stat fr3) st3 stop) fun r s4 ⟨hr,I4⟩=>?_)
  subst hr
  exact wpAny_execs_nil ⟨σ3,H3,I4,qn⟩
 ·refine wpAny_passesOwn hp (thn (T.item X rfl rfl rfl hc i pins s3 σ3 H3 X.xe I3 (stat fr3) st3 go) fun r s4 zz=>L2.el3 zz fun u hr h4=>?_)
  subst hr
  refine wpAny_passesOwn hp (thn h4 fun _ s5 zz=>?_)
  obtain ⟨x,H5,I5,r5,y5,st5,fr5⟩:=zz
  have I5':=I5.pinned (stat fr5) (T.obj _ _ st5)
  refine wpAny_passesOwn hp (thn (hg _ s5 σ3 H5 x u _ I5' r5 (step x H5 y5)) fun _ s6 zz=>?_)
  obtain ⟨σ6,H6,I6,q6⟩:=zz
  refine wpAny_passesOwn hp (thn (hb _ s6 σ6 H6 _ I6 q6) fun f s7 q7=>?_)
  have again:∀{σ7:St} {H7:Hp},Inv X (pins++zku fp s5.heap) σ7 H7 s7->N σ7 H7->∃m,m<n∧∃i σ' H',Inv X pins σ' H' s7∧tn i s7.heap∧(∀b∈fp,H' b=none)∧W i m σ' H':=fun {σ7 H7} I7 n7=>by
   obtain ⟨m',hm,w7⟩:=hN σ7 H7 n7
   refine ⟨m',hm,i+1,σ7,H7,I7.unpinned,T.keep _ _ _ st5 fun b hb o e=>(I7.pin (b,o) (ZA3 _ (ZA3 _ (zfn hb e)))).1,fun b hb=>?_,w7⟩
   obtain ⟨o,e,d⟩:=T.obj _ _ st5 b hb
   exact (I7.pin (b,o) (ZA3 _ (ZA3 _ (zfn hb e)))).2.1
  cases f with
  | next=>obtain ⟨σ7,H7,I7,n7⟩:=q7;exact again I7 n7
  | cont=>obtain ⟨σ7,H7,I7,n7⟩:=q7;exact again I7 n7
  | brk=>obtain ⟨σ7,H7,I7,q7⟩:=q7;exact ⟨σ7,H7,I7.unpinned,q7⟩
  | ret v=>obtain ⟨x7,σ7,H7,I7,r7,q7⟩:=q7;exact ⟨x7,σ7,H7,I7.unpinned,r7,q7⟩
theorem zcx {iter:Expr} {body:List Stmt} {wi:TI} {g:TG} {tb:TS} {pos:Pos} (hp:PassesOwn (model X.prog X.w) X.A X.env X.xe) (hc:X.calm=true) (hi:PI X tg iter wi) (hg:PG X tg g) (hb:PSs X body tb)
 (hs:∀x,foldedSetIterable iter X.env x=pure x:=by intro _;rfl):PS X (.For tg iter body [] pos) (zyq wi g tb):=zlu hp (.inl hc) hi hg hb hs
end
theorem zcf {K:ZBq} {a:Addr} {xs:List V} {g:TG} {tb:TS} {D:zse} {σ:St} {H:Hp} (Pv:Nat->St->Hp->Prop) (h0:Pv 0 σ H) (hl:∀i σ H,i≤xs.length->Pv i σ H->SqL K H a xs)
 (hs:∀i x σ H,xs[i]?=some x->Pv i σ H->g x σ H fun σ2 H2=>tb { D with nx:=Pv (i+1),ct:=Pv (i+1),bk:=D.nx } σ2 H2) (hd:∀σ H,Pv xs.length σ H->D.nx σ H):
 ∃W:Nat->Nat->St->Hp->Prop,(∃m,W 0 m σ H)∧∀i m σ H,W i m σ H->
  ((Itl K a).stop i H∧D.nx σ H)∨((Itl K a).go i H∧∃N:St->Hp->Prop,(∀σ' H',N σ' H'->∃m',m'<m∧W (i+1) m' σ' H')∧∀x H',(Itl K a).yld i H x H'->g x σ H' fun σ2 H2=>tb { D with nx:=N,ct:=N,bk:=D.nx } σ2 H2):=by
 refine ⟨fun i m σ H=>m=xs.length-i∧i≤xs.length∧Pv i σ H,⟨xs.length,by simp,ZAq _,h0⟩,?_⟩
 rintro i m σ H ⟨rfl,hi,p⟩
 have q:=hl i σ H hi p
 by_cases hlt:i<xs.length
 ·refine .inr ⟨⟨xs,xs[i],q,by simp [hlt]⟩,Pv (i+1),fun σ' H' p'=>⟨xs.length-(i+1),by omega,rfl,hlt,p'⟩,fun x H' y=>?_⟩
  obtain ⟨e,y⟩:=y
  subst e
  exact hs i x σ _ (y xs q) p
 ·have e:i=xs.length:=by omega
  subst e
  exact .inl ⟨⟨xs,q,ZAc _⟩,hd σ H p⟩
theorem zuk {K:ZBq} {a:Addr} {xs:List V} {g:TG} {tb:TS} {D:zse} {σ:St} {H:Hp} (Pv:Nat->St->Hp->Prop) (h0:Pv 0 σ H) (hl:∀i σ H,i≤xs.length->Pv i σ H->SqT K H a xs)
 (hs:∀i x σ H,xs[i]?=some x->Pv i σ H->g x σ H fun σ2 H2=>tb { D with nx:=Pv (i+1),ct:=Pv (i+1),bk:=D.nx } σ2 H2) (hd:∀σ H,Pv xs.length σ H->D.nx σ H):
 ∃W:Nat->Nat->St->Hp->Prop,(∃m,W 0 m σ H)∧∀i m σ H,W i m σ H->
  ((Itt K a).stop i H∧D.nx σ H)∨((Itt K a).go i H∧∃N:St->Hp->Prop,(∀σ' H',N σ' H'->∃m',m'<m∧W (i+1) m' σ' H')∧∀x H',(Itt K a).yld i H x H'->g x σ H' fun σ2 H2=>tb { D with nx:=N,ct:=N,bk:=D.nx } σ2 H2):=by
 refine ⟨fun i m σ H=>m=xs.length-i∧i≤xs.length∧Pv i σ H,⟨xs.length,by simp,ZAq _,h0⟩,?_⟩
 rintro i m σ H ⟨rfl,hi,p⟩
 have q:=hl i σ H hi p
 by_cases hlt:i<xs.length
 ·refine .inr ⟨⟨xs,xs[i],q,by simp [hlt]⟩,Pv (i+1),fun σ' H' p'=>⟨xs.length-(i+1),by omega,rfl,hlt,p'⟩,fun x H' y=>?_⟩
  obtain ⟨e,y⟩:=y
  subst e
  exact hs i x σ _ (y xs q) p
 ·have e:i=xs.length:=by omega
  subst e
  exact .inl ⟨⟨xs,q,ZAc _⟩,hd σ H p⟩
theorem zeq {lo:Int} {n:Nat} {g:TG} {tb:TS} {D:zse} {σ:St} {H:Hp} (Pv:Nat->St->Hp->Prop) (h0:Pv 0 σ H)
 (hs:∀i σ H,i<n->Pv i σ H->g (.int (lo+i)) σ H fun σ2 H2=>tb { D with nx:=Pv (i+1),ct:=Pv (i+1),bk:=D.nx } σ2 H2) (hd:∀σ H,Pv n σ H->D.nx σ H):
 ∃W:Nat->Nat->St->Hp->Prop,(∃m,W 0 m σ H)∧∀i m σ H,W i m σ H->
  ((Itr lo n).stop i H∧D.nx σ H)∨((Itr lo n).go i H∧∃N:St->Hp->Prop,(∀σ' H',N σ' H'->∃m',m'<m∧W (i+1) m' σ' H')∧∀x H',(Itr lo n).yld i H x H'->g x σ H' fun σ2 H2=>tb { D with nx:=N,ct:=N,bk:=D.nx } σ2 H2):=by
 refine ⟨fun i m σ H=>m=n-i∧i≤n∧Pv i σ H,⟨n,by simp,ZAq _,h0⟩,?_⟩
 rintro i m σ H ⟨rfl,hi,p⟩
 by_cases hlt:i<n
 ·refine .inr ⟨hlt,Pv (i+1),fun σ' H' p'=>⟨n-(i+1),by omega,rfl,hlt,p'⟩,fun x H' y=>?_⟩
  obtain ⟨e,y⟩:=y
  subst e y
  exact hs i σ _ hlt p
 ·have e:i=n:=by omega
  subst e
  exact .inl ⟨ZAc _,hd σ H p⟩
end L2
namespace L2
open PySem PySem.Spec PyProof.Rows
noncomputable abbrev R2:=V->V->Hp->VK->Prop
noncomputable def OpR (X:Cx) (f:Value->Value->Sem Value) (r:R2):Prop:=
 ∀(pins:List (Addr×Obj)) (s:Shared) (σ:St) (H:Hp) (x y:V) (v u:Value) (Q:VK),Inv X pins σ H s->zcm x v->zcm y u->r x y H Q->
  wpAny (model X.prog X.w) X.A (f v u) (EP X pins σ Q) X.xe s
noncomputable def UnR (X:Cx) (f:Value->Sem Value) (r:V->Hp->VK->Prop):Prop:=
 ∀(pins:List (Addr×Obj)) (s:Shared) (σ:St) (H:Hp) (x:V) (v:Value) (Q:VK),Inv X pins σ H s->zcm x v->r x H Q->
  wpAny (model X.prog X.w) X.A (f v) (EP X pins σ Q) X.xe s
noncomputable def zig (X:Cx) (f:Value) (r:List V->Hp->VK->Prop):Prop:=
 ∀(pins:List (Addr×Obj)) (s:Shared) (σ:St) (H:Hp) (xs:List V) (us:List Value) (Q:VK),Inv X pins σ H s->zcb xs us->r xs H Q->
  wpAny (model X.prog X.w) X.A (call f us) (EP X pins σ Q) X.xe s
noncomputable def tOp (r:R2) (ta tb:TE):TE:=fun σ H Q=>ta σ H fun x H1=>tb σ H1 fun y H2=>r x y H2 Q
noncomputable def tUn (r:V->Hp->VK->Prop) (ta:TE):TE:=fun σ H Q=>ta σ H fun x H1=>r x H1 Q
noncomputable def rI (C:Int->Int->Prop) (g:Int->Int->V):R2:=fun x y H Q=>∃i j,x=.int i∧y=.int j∧C i j∧Q (g i j) H
noncomputable def rI0 (g:Int->Int->V):R2:=fun x y H Q=>∃i j,x=.int i∧y=.int j∧Q (g i j) H
noncomputable def rU (g:Int->V):V->Hp->VK->Prop:=fun x H Q=>∃i,x=.int i∧Q (g i) H
section
variable {X:Cx} {a b c:Expr} {ta tb tc:TE} {pos:Pos}
theorem zyj (ha:PE X a ta) (hb:PE X b tb) {pins:List (Addr×Obj)} {s:Shared} {σ:St} {H:Hp} {R:V->V->Hp->Prop} (I:Inv X pins σ H s)
 (h:ta σ H fun x H1=>tb σ H1 fun y H2=>R x y H2) {Q:Value->Shared->Prop} {f:Value->Value->Sem Value}
 (hf:∀v u s2 x y H2,Inv X pins σ H2 s2->zcm x v->zcm y u->R x y H2->wpAny (model X.prog X.w) X.A (f v u) Q X.xe s2):
 wpAny (model X.prog X.w) X.A (eval a X.env) (fun v s₁=>wpAny (model X.prog X.w) X.A (eval b X.env) (fun u s₂=>wpAny (model X.prog X.w) X.A (f v u) Q X.xe s₂) X.xe s₁) X.xe s:=by
 refine thn (ha pins s σ H _ I h) fun v s1 zz=>?_
 obtain ⟨x,H1,I1,r1,q1⟩:=zz
 refine thn (hb pins s1 σ H1 _ I1 q1) fun u s2 zz=>?_
 obtain ⟨y,H2,I2,r2,q2⟩:=zz
 exact hf v u s2 x y H2 I2 r1 r2 q2
theorem zbi {op:Operator} {r:R2} (ho:OpR X (binaryOp op) r) (ha:PE X a ta) (hb:PE X b tb):PE X (.BinOp a op b pos) (tOp r ta tb):=by
 intro pins s σ H Q I h
 exact wpAny_BinOp (zyj ha hb I h fun v u s2 x y H2 I2 rx ry q=>ho pins s2 σ H2 x y v u Q I2 rx ry q)
theorem zlv {op:UnaryOp} {r:V->Hp->VK->Prop} (ho:UnR X (unaryOp op) r) (ha:PE X a ta):PE X (.UnaryOp op a pos) (tUn r ta):=by
 intro pins s σ H Q I h
 exact UnaryOp_ (thn (ha pins s σ H _ I h) fun v s1 zz=>L2.el5 zz fun x H1 I1 r1 q1=>ho pins s1 σ H1 x v Q I1 r1 q1)
theorem opI {f:Value->Value->Sem Value} {C:Int->Int->Prop} {g:Int->Int->Int}
 (rule:∀(i j:Int) (t u:Tok) (s:Shared) (Q:Value->Shared->Prop) (E:Value->Shared->Prop),C i j->Q (.int (g i j) s.toks) { s with toks:=s.toks+1 }->wpAny (model X.prog X.w) X.A (f (.int i t) (.int j u)) Q E s):
 OpR X f (rI C fun i j=>.int (g i j)):=by
 intro pins s σ H x y v u Q I rx ry h
 obtain ⟨i,j,rfl,rfl,hc,q⟩:=h
 obtain ⟨t,rfl⟩:=rx
 obtain ⟨t',rfl⟩:=ry
 exact rule i j t t' s _ _ hc ⟨.int (g i j),H,I.tok _,⟨_,rfl⟩,q⟩
theorem zy0 {f:Value->Value->Sem Value} {g:Int->Int->Int}
 (rule:∀(i j:Int) (t u:Tok) (s:Shared) (Q:Value->Shared->Prop) (E:Value->Shared->Prop),Q (.int (g i j) s.toks) { s with toks:=s.toks+1 }->wpAny (model X.prog X.w) X.A (f (.int i t) (.int j u)) Q E s):
 OpR X f (rI0 fun i j=>.int (g i j)):=by
 intro pins s σ H x y v u Q I rx ry h
 obtain ⟨i,j,rfl,rfl,q⟩:=h
 obtain ⟨t,rfl⟩:=rx
 obtain ⟨t',rfl⟩:=ry
 exact rule i j t t' s _ _ ⟨.int (g i j),H,I.tok _,⟨_,rfl⟩,q⟩
theorem zw3 {f:Value->Value->Sem Value} {g:Int->Int->Bool}
 (rule:∀(i j:Int) (t u:Tok) (s:Shared) (Q:Value->Shared->Prop) (E:Value->Shared->Prop),Q (.bool (g i j)) s->wpAny (model X.prog X.w) X.A (f (.int i t) (.int j u)) Q E s):
 OpR X f (rI0 fun i j=>.bl (g i j)):=by
 intro pins s σ H x y v u Q I rx ry h
 obtain ⟨i,j,rfl,rfl,q⟩:=h
 obtain ⟨t,rfl⟩:=rx
 obtain ⟨t',rfl⟩:=ry
 exact rule i j t t' s _ _ ⟨.bl (g i j),H,I,rfl,q⟩
noncomputable def zyp (i j:Int):Prop:=(-(2 ^ 64)<i∧i<2 ^ 64)∨(-(2 ^ 64)<j∧j<2 ^ 64)
theorem zyp.ok {i j:Int} (h:zyp i j):IntMulOk i j:=by
 rcases h with ⟨h1,h2⟩ | ⟨h1,h2⟩
 ·exact .of_left (intBits_le_64 h1 h2)
 ·exact .of_right (intBits_le_64 h1 h2)
theorem zcr:OpR X (binaryOp .Add) (rI0 fun i j=>.int (i+j)):=zy0 fun _ _ _ _ _ _ _ q=>add_int q
theorem zcj:OpR X (binaryOp .Sub) (rI0 fun i j=>.int (i-j)):=zy0 fun _ _ _ _ _ _ _ q=>sub_int q
theorem zv2:OpR X (binaryOp .Mult) (rI zyp fun i j=>.int (i*j)):=opI fun _ _ _ _ _ _ _ hc q=>mul_int q hc.ok
theorem zpk:OpR X (binaryOp .Mod) (rI (fun _ j=>0<j) fun i j=>.int (i % j)):=opI fun i j _ _ _ _ _ hc q=>by
 have h1:(0:Int)<j:=hc
 exact mod_int' (by omega) (by rw [Int.fmod_eq_emod_of_nonneg i (by omega)];exact q)
theorem unI {f:Value->Sem Value} {g:Int->Int}
 (rule:∀(i:Int) (t:Tok) (s:Shared) (Q:Value->Shared->Prop) (E:Value->Shared->Prop),Q (.int (g i) s.toks) { s with toks:=s.toks+1 }->wpAny (model X.prog X.w) X.A (f (.int i t)) Q E s):
 UnR X f (rU fun i=>.int (g i)):=by
 intro pins s σ H x v Q I rx h
 obtain ⟨i,rfl,q⟩:=h
 obtain ⟨t,rfl⟩:=rx
 exact rule i t s _ _ ⟨.int (g i),H,I.tok _,⟨_,rfl⟩,q⟩
theorem zhp:UnR X (unaryOp .USub) (rU fun i=>.int (-i)):=unI fun _ _ _ _ _ q=>neg_int q
end
noncomputable def zys:V->V->Bool
 | .non,.non=>true | .non,.int _=>true | .int _,.non=>true | .non,.bl _=>true | .bl _,.non=>true | .non,.str _=>true | .str _,.non=>true
 | .int _,.int _=>true | .bl _,.bl _=>true | .str _,.str _=>true | .byt _,.byt _=>true
 | .int _,.str _=>true | .str _,.int _=>true | .bl _,.str _=>true | .str _,.bl _=>true
 | _,_=>false
noncomputable def rEq:R2:=fun x y H Q=>zys x y=true∧Q (.bl (decide (x=y))) H
noncomputable def rNe:R2:=fun x y H Q=>zys x y=true∧Q (.bl (!decide (x=y))) H
theorem zp7 {i j:Int}:decide (V.int i=V.int j)=(i==j):=by
 rw [Bool.eq_iff_iff]
 simp
theorem zs9 {i j:Bool}:decide (V.bl i=V.bl j)=(i==j):=by
 rw [Bool.eq_iff_iff]
 simp
theorem zp6 {i j:Str}:decide (V.str i=V.str j)=(i==j):=by
 rw [Bool.eq_iff_iff]
 simp
theorem zp8 {i j:Array UInt8}:decide (V.byt i=V.byt j)=(i.toList==j.toList):=by
 rw [Bool.eq_iff_iff]
 cases i
 cases j
 simp
section
variable {X:Cx} {a b c:Expr} {ta tb tc:TE} {pos:Pos}
theorem zbw {pins:List (Addr×Obj)} {σ:St} {H:Hp} {s:Shared} {Q:VK} {k k':Bool} (I:Inv X pins σ H s) (q:Q (.bl k) H) (e:k=k'):EP X pins σ Q (.bool k') s:=by
 subst e
 exact ⟨.bl k,H,I,rfl,q⟩
theorem zbv:OpR X (compareOp .Eq) rEq:=by
 intro pins s σ H x y v u Q I rx ry h
 obtain ⟨hs,q⟩:=h
 cases x with
 | non=>
  cases rx
  cases y with
  | non=>cases ry;exact PySem.EqNone.eq_none_none (zbw I q (by simp))
  | bl j=>cases ry;exact PySem.EqNone.eq_none_bool (zbw I q (by simp))
  | int j=>obtain ⟨t',rfl⟩:=ry;exact PySem.EqNone.eq_none_int (zbw I q (by simp))
  | str j=>obtain ⟨t',rfl⟩:=ry;exact PySem.EqNone.eq_none_str (zbw I q (by simp))
  | _=>exact absurd (show false=true from hs) ZAm
 | bl i=>
  cases rx
  cases y with
  | non=>cases ry;exact PySem.EqNone.eq_bool_none (zbw I q (by simp))
  | bl j=>cases ry;exact eq_bool (zbw I q zs9)
  | str j=>obtain ⟨t',rfl⟩:=ry;exact PySem.EqMixed.eq_bool_str (zbw I q (by simp))
  | _=>exact absurd (show false=true from hs) ZAm
 | int i=>
  obtain ⟨t,rfl⟩:=rx
  cases y with
  | non=>cases ry;exact PySem.EqNone.eq_int_none (zbw I q (by simp))
  | int j=>obtain ⟨t',rfl⟩:=ry;exact eq_int (zbw I q zp7)
  | str j=>obtain ⟨t',rfl⟩:=ry;exact PySem.EqMixed.eq_int_str (zbw I q (by simp))
  | _=>exact absurd (show false=true from hs) ZAm
 | str i=>
  obtain ⟨t,rfl⟩:=rx
  cases y with
  | non=>cases ry;exact PySem.EqNone.eq_str_none (zbw I q (by simp))
  | bl j=>cases ry;exact PySem.EqMixed.eq_str_bool (zbw I q (by simp))
  | int j=>obtain ⟨t',rfl⟩:=ry;exact PySem.EqMixed.eq_str_int (zbw I q (by simp))
  | str j=>obtain ⟨t',rfl⟩:=ry;exact eq_str (zbw I q zp6)
  | _=>exact absurd (show false=true from hs) ZAm
 | byt i=>
  obtain ⟨t,rfl⟩:=rx
  cases y with
  | byt j=>obtain ⟨t',rfl⟩:=ry;exact PySem.W.eq_bytes (zbw I q zp8)
  | _=>exact absurd (show false=true from hs) ZAm
 | _=>cases y<;>exact absurd (show false=true from hs) ZAm
theorem zgc:OpR X (compareOp .NotEq) rNe:=by
 intro pins s σ H x y v u Q I rx ry h
 obtain ⟨hs,q⟩:=h
 cases x with
 | non=>
  cases rx
  cases y with
  | non=>cases ry;exact PySem.EqNone.ne_none_none (zbw I q (by simp))
  | bl j=>cases ry;exact PySem.EqNone.ne_none_bool (zbw I q (by simp))
  | int j=>obtain ⟨t',rfl⟩:=ry;exact PySem.EqNone.ne_none_int (zbw I q (by simp))
  | str j=>obtain ⟨t',rfl⟩:=ry;exact PySem.EqNone.ne_none_str (zbw I q (by simp))
  | _=>exact absurd (show false=true from hs) ZAm
 | bl i=>
  cases rx
  cases y with
  | non=>cases ry;exact PySem.EqNone.ne_bool_none (zbw I q (by simp))
  | bl j=>cases ry;exact ne_bool (zbw I q (congrArg not zs9))
  | str j=>obtain ⟨t',rfl⟩:=ry;exact PySem.EqMixed.ne_bool_str (zbw I q (by simp))
  | _=>exact absurd (show false=true from hs) ZAm
 | int i=>
  obtain ⟨t,rfl⟩:=rx
  cases y with
  | non=>cases ry;exact PySem.EqNone.ne_int_none (zbw I q (by simp))
  | int j=>obtain ⟨t',rfl⟩:=ry;exact ne_int (zbw I q (congrArg not zp7))
  | str j=>obtain ⟨t',rfl⟩:=ry;exact PySem.EqMixed.ne_int_str (zbw I q (by simp))
  | _=>exact absurd (show false=true from hs) ZAm
 | str i=>
  obtain ⟨t,rfl⟩:=rx
  cases y with
  | non=>cases ry;exact PySem.EqNone.ne_str_none (zbw I q (by simp))
  | bl j=>cases ry;exact PySem.EqMixed.ne_str_bool (zbw I q (by simp))
  | int j=>obtain ⟨t',rfl⟩:=ry;exact PySem.EqMixed.ne_str_int (zbw I q (by simp))
  | str j=>obtain ⟨t',rfl⟩:=ry;exact ne_str (zbw I q (congrArg not zp6))
  | _=>exact absurd (show false=true from hs) ZAm
 | byt i=>
  obtain ⟨t,rfl⟩:=rx
  cases y with
  | byt j=>obtain ⟨t',rfl⟩:=ry;exact PySem.W.ne_bytes (zbw I q (congrArg not zp8))
  | _=>exact absurd (show false=true from hs) ZAm
 | _=>cases y<;>exact absurd (show false=true from hs) ZAm
theorem zg4:OpR X (compareOp .Lt) (rI0 fun i j=>.bl (decide (i<j))):=zw3 fun _ _ _ _ _ _ _ q=>lt_int q
theorem zfs:OpR X (compareOp .LtE) (rI0 fun i j=>.bl (decide (i≤j))):=zw3 fun _ _ _ _ _ _ _ q=>le_int q
theorem zri:OpR X (compareOp .Gt) (rI0 fun i j=>.bl (decide (j<i))):=zw3 fun _ _ _ _ _ _ _ q=>gt_int q
theorem zxt:OpR X (compareOp .GtE) (rI0 fun i j=>.bl (decide (j≤i))):=zw3 fun _ _ _ _ _ _ _ q=>ge_int q
theorem zs2:OpR X (compareOp .Is) (fun x y H Q=>y=.non∧Q (.bl (decide (x=.non))) H):=by
 intro pins s σ H x y v u Q I rx ry h
 obtain ⟨rfl,q⟩:=h
 cases ry
 refine is_none_gen (zbw I q ?_)
 cases x<;>first
  | (cases rx;rfl)
  | (obtain ⟨t,rfl⟩:=rx;rfl)
theorem zpg:OpR X (compareOp .IsNot) (fun x y H Q=>y=.non∧Q (.bl (!decide (x=.non))) H):=by
 intro pins s σ H x y v u Q I rx ry h
 obtain ⟨rfl,q⟩:=h
 cases ry
 refine isnot_none_gen (zbw I q ?_)
 cases x<;>first
  | (cases rx;rfl)
  | (obtain ⟨t,rfl⟩:=rx;rfl)
theorem zam (b:Expr) {op:CmpOp} (h:op≠.In:=by decide) (h2:op≠.NotIn:=by decide):behindInMarks op b=false:=by
 have e1:(op==CmpOp.In)=false:=by cases op<;>first | rfl | exact absurd rfl h
 have e2:(op==CmpOp.NotIn)=false:=by cases op<;>first | rfl | exact absurd rfl h2
 cases b<;>simp [behindInMarks,e1,e2]
theorem zcp {op:CmpOp} {r:R2} (ho:OpR X (compareOp op) r) (ha:PE X a ta) (hb:PE X b tb) (hm:behindInMarks op b=false):PE X (.Compare a [op] [b] pos) (tOp r ta tb):=by
 intro pins s σ H Q I h
 exact wpAny_Compare1 (zyj ha hb I h fun v u s2 x y H2 I2 rx ry q=>ho pins s2 σ H2 x y v u Q I2 rx ry q) hm
noncomputable def ztm (t:TE):TT:=fun σ H Q=>t σ H fun x H'=>∃k,x=.bl k∧Q k H'
theorem zak {op:CmpOp} {r:R2} (ho:OpR X (compareOp op) r) (ha:PE X a ta) (hb:PE X b tb) (hm:behindInMarks op b=false):PT X (.Compare a [op] [b] pos) (ztm (tOp r ta tb)):=by
 intro pins s σ H Q I h
 refine wpAny_isTrue_Compare1 (thn (ha pins s σ H _ I h) fun v s1 zz=>L2.el5 zz fun x H1 I1 r1 q1=>thn (hb pins s1 σ H1 _ I1 q1) fun u s2 zz=>L2.el5 zz fun y H2 I2 r2 q2=>
  thn (ho pins s2 σ H2 x y v u _ I2 r1 r2 q2) fun c s3 zz=>?_) hm
 obtain ⟨z,H3,I3,r3,k,e,q3⟩:=zz
 subst e
 cases r3
 exact wpAny_truthy_bool ⟨H3,I3,q3⟩
noncomputable def zsg (r r':R2) (ta tb tc:TE):TE:=fun σ H Q=>ta σ H fun x H1=>tb σ H1 fun y H2=>r x y H2 fun z H3=>∃k,z=.bl k∧
 (if k=true then tc σ H3 fun w' H4=>r' y w' H4 Q else Q (.bl false) H3)
theorem zhe {op op':CmpOp} {r r':R2} (ho:OpR X (compareOp op) r) (ho':OpR X (compareOp op') r') (ha:PE X a ta) (hb:PE X b tb) (hc:PE X c tc)
 (hm:lastMarks [op,op'] [b,c]=false:=by with_unfolding_all rfl):PE X (.Compare a [op,op'] [b,c] pos) (zsg r r' ta tb tc):=by
 intro pins s σ H Q I h
 refine Compare_chain (thn (ha pins s σ H _ I h) fun v s1 zz=>L2.el5 zz fun x H1 I1 r1 q1=>chain_link (thn (hb pins s1 σ H1 _ I1 q1) fun u s2 zz=>L2.el5 zz fun y H2 I2 r2 q2=>
  thn (ho pins s2 σ H2 x y v u _ I2 r1 r2 q2) fun d s3 zz=>?_)) hm
 obtain ⟨z,H3,I3,r3,k,e,q3⟩:=zz
 subst e
 cases r3
 refine wpAny_truthy_bool ?_
 cases k with
 | false=>exact ite_ff ⟨.bl false,H3,I3,rfl,q3⟩
 | true=>exact ite_tt (chain_last (thn (hc pins s3 σ H3 _ I3 q3) fun w' s4 zz=>L2.el5 zz fun z' H4 I4 r4 q4=>ho' pins s4 σ H4 y z' u w' Q I4 r2 r4 q4))
theorem zjm {op op':CmpOp} {r r':R2} (ho:OpR X (compareOp op) r) (ho':OpR X (compareOp op') r') (ha:PE X a ta) (hb:PE X b tb) (hc:PE X c tc)
 (hm:lastMarks [op,op'] [b,c]=false:=by with_unfolding_all rfl):PT X (.Compare a [op,op'] [b,c] pos) (ztm (zsg r r' ta tb tc)):=by
 intro pins s σ H Q I h
 refine isTrue_chain (thn (ha pins s σ H _ I h) fun v s1 zz=>L2.el5 zz fun x H1 I1 r1 q1=>test_link (thn (hb pins s1 σ H1 _ I1 q1) fun u s2 zz=>L2.el5 zz fun y H2 I2 r2 q2=>
  thn (ho pins s2 σ H2 x y v u _ I2 r1 r2 q2) fun d s3 zz=>?_)) hm
 obtain ⟨z,H3,I3,r3,k,e,q3⟩:=zz
 subst e
 cases r3
 refine wpAny_truthy_bool ?_
 cases k with
 | false=>
  obtain ⟨k',e',q'⟩:=q3
  cases e'
  exact ite_ff ⟨H3,I3,q'⟩
 | true=>
  refine ite_tt (test_last (thn (hc pins s3 σ H3 _ I3 q3) fun w' s4 zz=>L2.el5 zz fun z' H4 I4 r4 q4=>thn (ho' pins s4 σ H4 y z' u w' _ I4 r2 r4 q4) fun d' s5 zz=>?_))
  obtain ⟨z2,H5,I5,r5,k2,e2,q5⟩:=zz
  subst e2
  cases r5
  exact wpAny_truthy_bool ⟨H5,I5,q5⟩
theorem zm3:(sizeLine:Nat)<2 ^ 63:=by rw [sizeLine_eq];decide
theorem znf {x:V} {us:List Value} (r:zcb [x] us):∃u,us=[u]∧zcm x u:=by
 cases r with
 | cons r1 r2=>cases r2;exact ⟨_,rfl,r1⟩
theorem zti {x y:V} {us:List Value} (r:zcb [x,y] us):∃u w',us=[u,w']∧zcm x u∧zcm y w':=by
 cases r with
 | cons r1 r2=>
  cases r2 with
  | cons r3 r4=>cases r4;exact ⟨_,_,rfl,r1,r3⟩
theorem zle (hc:X.calm=true):zig X (.builtin "max") (fun xs H Q=>∃i j,xs=[.int i,.int j]∧Q (.int (if j>i then j else i)) H):=by
 intro pins s σ H xs us Q I r h
 obtain ⟨i,j,rfl,q⟩:=h
 obtain ⟨u,w',rfl,⟨t,rfl⟩,⟨t',rfl⟩⟩:=zti r
 refine max_two_ints (I.ok.hd hc) fun h' tk k=>⟨_,H,I.kept k,?_,q⟩
 by_cases hj:j>i
 ·rw [if_pos hj,if_pos hj];exact ⟨_,rfl⟩
 ·rw [if_neg hj,if_neg hj];exact ⟨_,rfl⟩
theorem zdq (hc:X.calm=true):zig X (.builtin "min") (fun xs H Q=>∃i j,xs=[.int i,.int j]∧Q (.int (if j<i then j else i)) H):=by
 intro pins s σ H xs us Q I r h
 obtain ⟨i,j,rfl,q⟩:=h
 obtain ⟨u,w',rfl,⟨t,rfl⟩,⟨t',rfl⟩⟩:=zti r
 refine min_two_ints (I.ok.hd hc) fun h' tk k=>⟨_,H,I.kept k,?_,q⟩
 by_cases hj:j<i
 ·rw [if_pos hj,if_pos hj];exact ⟨_,rfl⟩
 ·rw [if_neg hj,if_neg hj];exact ⟨_,rfl⟩
end
end L2
namespace L2
open PySem PySem.Spec PyProof.Rows
structure zux (h:Heap) (x dx C:Addr) (mA:Str->Option Value):Prop where
 obj:h.get? x=some (PySem.W.instObj C dx)
 ns:h.Ns1 dx mA
 ne:dx≠x
theorem zpr {h:Heap} {dx:Addr} {mA:Str->Option Value} (n:h.Ns1 dx mA):∃od,h.get? dx=some od∧∀name,PySem.W.lookIn name od=some (mA name):=by
 obtain ⟨o,es,ep,ho,hd,hk,_,hm⟩:=n
 refine ⟨o,ho,fun name=>?_⟩
 have e:=hm name
 unfold nsFind findBy at e
 rw [←Array.find?_toList] at e
 unfold PySem.W.lookIn
 rw [hd]
 dsimp only
 split
 ·rename_i y q
  rw [q] at e
  exact congrArg some e
 ·rename_i q
  rw [q] at e
  have a:es.toList.any (·.refKey)=false:=by
   rw [List.any_eq_false]
   intro y hy
   obtain ⟨z,t,hkey⟩:=hk y (Array.mem_toList_iff.mp hy)
   simp [DictEntry.refKey,hkey]
  have a':¬es.toList.any (·.refKey)=true:=by rw [a];exact ZAm
  rw [if_neg a']
  exact congrArg some e
theorem zux.look {h:Heap} {x dx C:Addr} {mA:Str->Option Value} (I:zux h x dx C mA):∃od,PySem.W.InstAt h x (PySem.W.instObj C dx) C (some od)∧∀name,PySem.W.lookIn name od=some (mA name):=
 let ⟨od,ho,hl⟩:=zpr I.ns
 ⟨od,⟨I.obj,rfl,rfl,ho⟩,hl⟩
section
variable {prog:Program} {w:World} {A:Around} {E:Value->Shared->Prop} {s:Shared} {K:ZBq} {x dx C f:Addr} {mA:Str->Option Value} {name:Str} {v:Value}
theorem zuj {expr:Bool} {Q:Value->Shared->Prop} (X:K.In s.heap) (I:zux s.heap x dx C mA) (hg:PySem.W.plainGet K C name=true) (hh:PySem.W.hasDictIn K C=true)
 (ha:PySem.W.findIn K (.ref C) name=some none) (hv:mA name=some v) (hv':PySem.W.handedIn v=true) (h:Q v { s with toks:=s.toks+1 }):
 wpAny (model prog w) A (getAttr (.ref x) name expr) Q E s:=by
 obtain ⟨od,J,hl⟩:=I.look
 exact PySem.W.get_value X J (PySem.W.plainGet_of hg).1 (PySem.W.findObj_own hh ha rfl (by rw [hl,hv])) hv' h
theorem zrv {pl:Sem Bool} {Q:Value×List Value->Shared->Prop} (X:K.In s.heap) (I:zux s.heap x dx C mA) (hg:PySem.W.plainGet K C name=true)
 (hf:PySem.W.findIn K (.ref C) name=some (some (.ref f))) (ht:PySem.W.isFn K (.ref f)=true) (hv:mA name=none) (h:Q (.ref f,[.ref x]) s):
 wpAny (model prog w) A (getMethod (.ref x) name pl) Q E s:=by
 obtain ⟨od,J,hl⟩:=I.look
 exact PySem.W.method_fn X J (PySem.W.plainGet_of hg).1 (PySem.W.plainGet_of hg).2 hf (beq_iff_eq.mp ht) (by show (PySem.W.lookIn name od).map (·.isSome)=some false;rw [hl,hv];rfl) h
theorem ztx {ns:List Str} {Q:Unit->Shared->Prop} (X:K.In s.heap) (I:zux s.heap x dx C mA)
 (hs:PySem.W.findIn K (.ref C) "__setattr__"=some (some (.builtin "object.__setattr__"))) (hp:PySem.W.plainOver K C=true) (ht:PySem.W.takerIn K C name=some none) (hh:PySem.W.hasDictIn K C=true)
 (hw:PySem.Within mA ns) (hsz:ns.length≤sizeLine)
 (h:∀h',zux h' x dx C (fun y=>if y=name then some v else mA y)->Heap.SameBut dx s.heap h'->Q () { s with heap:=h',toks:=s.toks+2 }):
 wpAny (model prog w) A (setAttr (.ref x) name v) Q E s:=by
 obtain ⟨od,J,hl⟩:=I.look
 refine PySem.W.set_plain X J hs (PySem.W.osa_open (s:={ s with toks:=s.toks+1 }) (r:=none) X J hp ht fun b=>?_)
 obtain ⟨cd,hc,hd'⟩:=PySem.W.any_some hh
 have hx:s.heap.get? x=some ⟨.ref C,some dx,.plain,#[]⟩:=I.obj
 refine wpAny_bind (wpAny_pure (wpAny_bind (wpAny_bind (wpAny_loadPart hx (wpAny_bind (PySem.W.Looks.here (s:={ s with toks:=s.toks+1 }) (PySem.W.looks_clsIn X hc) ?_))))))
 rw [hd']
 refine wpAny_pure (a:=some dx) (wpAny_bind (wpAny_pure (wpAny_bind ?_)))
 refine wpAny_nsSet1 (s:={ s with toks:=s.toks+1 }) I.ns fun h' hn2 hs2=>?_
 obtain ⟨oD,esD,epD,hoD,hdD,hcD⟩:=hn2.count (PySem.Within.cons name v hw)
 refine wpAny_bind (wpAny_lookBehind hoD (by rw [hdD];exact pastItsLine_dict (ZAw hcD (by rw [ZA5];omega))) ?_)
 exact wpAny_pure (h _ ⟨(hs2.2 _ (Ne.symm I.ne)).trans I.obj,hn2,I.ne⟩ hs2)
theorem zrm {R:Result->Shared->Prop} {vs:List Value} {kw:List (Str×Value)} (X:K.In s.heap) (hm:PySem.W.makesIn K C=true)
 (hi:PySem.W.findIn K (.ref C) "__init__"=some (some (.ref f))) (hf:PySem.W.typeIn K (.ref f)=some (.type "function"))
 (h:codeAny (model prog w) (A.under (.builtin "type.__call__" ⟨.ref C::vs,kw⟩)) (.call (.ref f) ⟨.ref (s.heap.objs.size+1)::vs,kw⟩) (PySem.W.InitBack (s.heap.objs.size+1) R)
  { s with heap:=(s.heap.push PySem.W.emptyDict).push (PySem.W.instObj C s.heap.objs.size) }):
 codeAny (model prog w) A (.call (.ref C) ⟨vs,kw⟩) R s:=by
 obtain ⟨hh,g,d,t,os⟩:=s
 exact PySem.W.make_core (PySem.W.makes_of X hm) (PySem.W.looks_findIn X hi) (fun self=>PySem.W.bind_fn X self hf) (.inl rfl) h
end
noncomputable def zbz (f:Str) (v:V):List (Str×V)->List (Str×V)
 | []=>[(f,v)]
 | (g,x)::r=>if g=f then (g,v)::r else (g,x)::zbz f v r
theorem zba (f g:Str) (v:V):∀fs:List (Str×V),(zbz f v fs).lookup g=if g=f then some v else fs.lookup g
 | []=>by
  show List.lookup g [(f,v)]=_
  by_cases h:g=f
  ·have hb:(g==f)=true:=beq_iff_eq.mpr h
   simp only [List.lookup,hb,if_pos h]
  ·have hb:(g==f)=false:=beq_eq_false_iff_ne.mpr h
   simp only [List.lookup,hb,if_neg h]
 | (k,x)::r=>by
  have ih:=zba f g v r
  rw [show zbz f v ((k,x)::r)=(if k=f then (k,v)::r else (k,x)::zbz f v r) from rfl]
  by_cases hk:k=f
  ·rw [if_pos hk]
   by_cases h:g=k
   ·have hb:(g==k)=true:=beq_iff_eq.mpr h
    simp only [List.lookup,hb,if_pos (h.trans hk)]
   ·have hb:(g==k)=false:=beq_eq_false_iff_ne.mpr h
    simp only [List.lookup,hb,if_neg (fun e:g=f=>h (e.trans hk.symm))]
  ·rw [if_neg hk]
   by_cases h:g=k
   ·have hb:(g==k)=true:=beq_iff_eq.mpr h
    simp only [List.lookup,hb,if_neg (fun e:g=f=>hk (h.symm.trans e))]
   ·have hb:(g==k)=false:=beq_eq_false_iff_ne.mpr h
    simp only [List.lookup,hb]
    exact ih
theorem zh3 (f:Str) (v:V):∀fs:List (Str×V),f∈(zbz f v fs).map (·.1)∧∀g,g∈fs.map (·.1)->g∈(zbz f v fs).map (·.1)
 | []=>⟨by simp [zbz],fun g h=>by simp at h⟩
 | (k,x)::r=>by
  obtain ⟨i1,i2⟩:=zh3 f v r
  rw [show zbz f v ((k,x)::r)=(if k=f then (k,v)::r else (k,x)::zbz f v r) from rfl]
  by_cases hk:k=f
  ·rw [if_pos hk]
   subst hk
   exact ⟨by simp,fun g h=>by simpa using h⟩
  ·rw [if_neg hk]
   refine ⟨?_,fun g h=>?_⟩
   ·rw [ZAv]
    exact ZAk _ i1
   ·rw [ZAv] at h ⊢
    rcases ZAu.mp h with e | e
    ·exact ZAu.mpr (.inl e)
    ·exact ZAk _ (i2 g e)
theorem zh1 (f:Str) (v:V):∀fs:List (Str×V),(zbz f v fs).length≤fs.length+1
 | []=>by simp [zbz]
 | (k,x)::r=>by
  have ih:=zh1 f v r
  rw [show zbz f v ((k,x)::r)=(if k=f then (k,v)::r else (k,x)::zbz f v r) from rfl]
  by_cases hk:k=f
  ·rw [if_pos hk,ZA5,ZA5];omega
  ·rw [if_neg hk,ZA5,ZA5];omega
theorem zj8.some_of {v:V} {o:Option Value} (r:zj8 (some v) o):∃u,o=some u∧zcm v u:=by
 cases o with
 | none=>exact (show False from r).elim
 | some u=>exact ⟨u,rfl,r⟩
theorem zj8.none_of {o:Option Value} (r:zj8 none o):o=none:=by
 cases o with
 | none=>rfl
 | some u=>exact (show False from r).elim
theorem zp3 {v:V} {u:Value} (r:zcm v u):PySem.W.handedIn u=true:=by
 cases v with
 | non=>cases (show u=Value.none from r);rfl
 | bl b=>cases (show u=Value.bool b from r);rfl
 | int i=>obtain ⟨t,e⟩:=(show ∃t,u=Value.int i t from r);cases e;rfl
 | str x=>obtain ⟨t,e⟩:=(show ∃t,u=Value.str x t from r);cases e;rfl
 | byt b=>obtain ⟨t,e⟩:=(show ∃t,u=Value.bytes b t from r);cases e;rfl
 | flt b=>obtain ⟨t,e⟩:=(show ∃t,u=Value.float b t from r);cases e;rfl
 | ref a=>cases (show u=Value.ref a from r);rfl
 | ty n=>cases (show u=Value.type n from r);rfl
section
variable {P:Program} {w:World} {H H':Hp} {h h':Heap} {a C dx:Addr} {fs fs':List (Str×V)}
theorem zjw (hok:HOk P w H h) (e:H a=some (.ins C dx fs)):∃mA,zux h a dx C mA∧(∀f,zj8 (fs.lookup f) (mA f))∧PySem.Within mA (fs.map (·.1))∧fs.length≤1000∧H dx=some (.own a):=by
 obtain ⟨d,z,ne,ob,mA,n,r,q⟩:=(show zcd P w H h a (.ins C dx fs) from hok a _ e)
 exact ⟨mA,⟨ob,n,ne⟩,r,q,z,d⟩
end
structure Cls (K:ZBq) (C:Addr):Prop where
 pg:PySem.W.plainGet K C Str.empty=true
 hd:PySem.W.hasDictIn K C=true
 po:PySem.W.plainOver K C=true
 sa:PySem.W.findIn K (.ref C) "__setattr__"=some (some (.builtin "object.__setattr__"))
theorem Cls.get {K:ZBq} {C:Addr} (c:Cls K C) (f:Str):PySem.W.plainGet K C f=true:=c.pg
noncomputable def zd9 (K:ZBq) (C:Addr) (f:Str):Prop:=PySem.W.findIn K (.ref C) f=some none
theorem zd9.taker {K:ZBq} {C:Addr} {f:Str} (n:zd9 K C f):PySem.W.takerIn K C f=some none:=by
 unfold PySem.W.takerIn
 rw [show PySem.W.findIn K (.ref C) f=some none from n]
 rfl
structure zj6 (K:ZBq) (C:Addr) (m:Str) (f:Addr):Prop where
 at_:PySem.W.findIn K (.ref C) m=some (some (.ref f))
 fn:PySem.W.isFn K (.ref f)=true
 kp:PySem.W.keepIn K (.ref f)=true
section
variable {X:Cx} {pins:List (Addr×Obj)} {σ:St} {H:Hp} {s:Shared} {a C dx:Addr} {fs:List (Str×V)} {f:Str} {v:V} {A:Around} {E:Value->Shared->Prop}
theorem znu {b:Bool} {Q:Value->Shared->Prop} (I:Inv X pins σ H s) (e:H a=some (.ins C dx fs)) (c:Cls X.K C) (n:zd9 X.K C f) (l:fs.lookup f=some v)
 (h:∀u s',Inv X pins σ H s'->zcm v u->Q u s'):wpAny (model X.prog X.w) A (getAttr (.ref a) f b) Q E s:=by
 obtain ⟨mA,O,r,_,_,_⟩:=zjw I.hok e
 obtain ⟨u,hu,ru⟩:=zj8.some_of (v:=v) (o:=mA f) (by rw [←l];exact r f)
 exact zuj I.kIn O (c.get f) c.hd n hu (zp3 ru) (h u _ (I.tok _) ru)
theorem zi1 {m:Str} {g:Addr} {pl:Sem Bool} {Q:Value×List Value->Shared->Prop} (I:Inv X pins σ H s) (e:H a=some (.ins C dx fs)) (c:Cls X.K C) (k:zj6 X.K C m g) (l:fs.lookup m=none)
 (h:Q (.ref g,[.ref a]) s):wpAny (model X.prog X.w) A (getMethod (.ref a) m pl) Q E s:=by
 obtain ⟨mA,O,r,_,_,_⟩:=zjw I.hok e
 have hn:mA m=none:=zj8.none_of (by rw [←l];exact r m)
 exact zrv I.kIn O (c.get m) k.at_ k.fn hn h
theorem znj {y:V} {u:Value} {Q:Unit->Shared->Prop} (I:Inv X pins σ H s) (e:H a=some (.ins C dx fs)) (c:Cls X.K C) (n:zd9 X.K C f) (hl:fs.length<1000) (ry:zcm y u)
 (h:∀s',Inv X pins σ (upd H a (.ins C dx (zbz f y fs))) s'->Q () s'):wpAny (model X.prog X.w) A (setAttr (.ref a) f u) Q E s:=by
 obtain ⟨mA,O,r,wi,_,ho⟩:=zjw I.hok e
 have hz:(fs.map (·.1)).length≤sizeLine:=by rw [ZAa,sizeLine_eq];omega
 refine ztx I.kIn O c.sa c.po n.taker c.hd wi hz fun h' O' sb=>h _ ?_
 have hd:∃o,h'.get? dx=some o:=let ⟨o,_,_,e',_⟩:=O'.ns;⟨o,e'⟩
 refine I.write (x:=a) (e:=dx) (by rw [e];exact True.intro) (.inr ho) (fun b q hb z=>(sb.2 b hb).trans z) hd ?_
 refine ⟨by rw [zaj O.ne];exact ho,?_,O.ne,O'.obj,_,O'.ns,fun g=>?_,fun g hg=>?_⟩
 ·have:=zh1 f y fs;omega
 ·show zj8 ((zbz f y fs).lookup g) (if g=f then some u else mA g)
  rw [zba]
  by_cases q:g=f
  ·rw [if_pos q,if_pos q];exact ry
  ·rw [if_neg q,if_neg q];exact r g
 ·by_cases q:g=f
  ·rw [q];exact (zh3 f y fs).1
  ·refine (zh3 f y fs).2 g (wi g fun z=>hg ?_)
   show (if g=f then some u else mA g)=none
   rw [if_neg q];exact z
theorem Inv.made (I:Inv X pins σ H s):Inv X pins σ (upd (upd H s.heap.objs.size (.own (s.heap.objs.size+1))) (s.heap.objs.size+1) (.ins C s.heap.objs.size []))
 { s with heap:=(s.heap.push PySem.W.emptyDict).push (PySem.W.instObj C s.heap.objs.size) }:=by
 have e1:(s.heap.push PySem.W.emptyDict).get? s.heap.objs.size=some PySem.W.emptyDict:=ZAx s.heap rfl
 have e2:((s.heap.push PySem.W.emptyDict).push (PySem.W.instObj C s.heap.objs.size)).get? (s.heap.objs.size+1)=some (PySem.W.instObj C s.heap.objs.size):=by
  have:=ZAx (s.heap.push PySem.W.emptyDict) (o:=PySem.W.instObj C s.heap.objs.size) rfl
  rwa [Heap.size_push] at this
 have e3:(s.heap.push PySem.W.emptyDict).Ns s.heap.objs.size (fun _=>none):=⟨PySem.W.emptyDict,#[],_,e1,rfl,(fun e he=>absurd he (by simp)),fun _=>rfl⟩
 have I1:=I.laid (a:=s.heap.objs.size) (o:=.own (s.heap.objs.size+1)) (h':=s.heap.push PySem.W.emptyDict) (t':=s.toks) (fun b u q=>ZAe _ q) (ZAc _) ⟨_,e1⟩
 refine I1.laid (a:=s.heap.objs.size+1) (o:=.ins C s.heap.objs.size []) (t':=s.toks) (fun b u q=>ZAe _ q) (Nat.le_of_eq (Heap.size_push _ _)) ?_
 have ne:s.heap.objs.size≠s.heap.objs.size+1:=ZAz (Nat.lt_succ_self _)
 refine ⟨by rw [zaj ne,zab],ZAq _,ne,e2,fun _=>none,(Heap.Ns1.of_empty e3).at fun o q=>ZAe _ q,fun _=>True.intro,fun y hy=>absurd rfl hy⟩
theorem zum {prog:Program} {w:World} {env:Env} {e:Expr} {f:Str} {pos:Pos} {s:Shared} {Q:Value->Shared->Prop} (hb:attributeBase e f env (eval e env)=eval e env)
 (h:wpAny (model prog w) A (eval e env) (fun o s₁=>wpAny (model prog w) A (getAttr o f true) Q E s₁) E s):wpAny (model prog w) A (eval (.Attribute e f pos) env) Q E s:=
 Attribute_any_ h (by rw [arm_eval_Attribute,hb])
end
noncomputable def zyr (K:ZBq) (ta:TE) (f:Str):TE:=fun σ H Q=>ta σ H fun x H1=>∃a C dx fs v,x=.ref a∧H1 a=some (.ins C dx fs)∧Cls K C∧zd9 K C f∧fs.lookup f=some v∧Q v H1
noncomputable def zzv (K:ZBq) (ta tv:TE) (f:Str):TS:=fun D σ H=>tv σ H fun y H1=>ta σ H1 fun x H2=>∃a C dx fs,x=.ref a∧H2 a=some (.ins C dx fs)∧Cls K C∧zd9 K C f∧fs.length<1000∧
 D.nx σ (upd H2 a (.ins C dx (zbz f y fs)))
section
variable {X:Cx} {o e value:Expr} {f:Str} {pos pos' tpos:Pos} {ta tv:TE}
theorem zcc (he:PE X e ta) (hb:attributeBase e f X.env (eval e X.env)=eval e X.env):PE X (.Attribute e f pos) (zyr X.K ta f):=by
 intro pins s σ H Q I h
 refine zum hb (thn (he pins s σ H _ I h) fun u s1 zz=>?_)
 obtain ⟨x,H1,I1,rx,a,C,dx,fs,v,ex,ea,c,n,l,q⟩:=zz
 subst ex
 obtain rfl:u=Value.ref a:=rx
 exact znu I1 ea c n l fun u' s2 I2 ru=>⟨v,H1,I2,ru,q⟩
theorem zfv (ha:PE X o ta) (hv:PE X value tv) (hs:swapsWith value (some (.Attribute o f pos')) pos.line X.env=pure false):PS X (.Assign [.Attribute o f pos'] value pos) (zzv X.K ta tv f):=by
 intro pins s σ H D I h
 refine plainObj_wpAny_Assign_Attribute (thn (hv pins s σ H _ I h) fun u s1 zz=>L2.el5 zz fun y H1 I1 ry q=>thn (ha pins s1 σ H1 _ I1 q) fun ov s2 zz=>?_) hs
 obtain ⟨x,H2,I2,rx,a,C,dx,fs,ex,ea,c,n,l,q2⟩:=zz
 subst ex
 obtain rfl:ov=Value.ref a:=rx
 exact znj I2 ea c n l ry fun s3 I3=>⟨σ,_,I3,q2⟩
end
section
variable {X:Cx} {pins:List (Addr×Obj)} {σ:St} {H:Hp} {s:Shared} {A:Around} {E:Value->Shared->Prop} {Q:Value->Shared->Prop} {c:Value} {b:Bool}
inductive zn1 (K:ZBq) (H:Hp):V->Value->Prop where
 | non:zn1 K H .non (.type "NoneType")
 | bl (x:Bool):zn1 K H (.bl x) (.type "bool")
 | int (i:Int):zn1 K H (.int i) (.type "int")
 | str (x:Str):zn1 K H (.str x) (.type "str")
 | flt (x:UInt64):zn1 K H (.flt x) (.type "float")
 | lst {a:Addr} {xs:List V} (e:H a=some (.lst xs)):zn1 K H (.ref a) (.type "list")
 | frz {a:Addr} {o:Obj} {xs:List V} (e:H a=some (.frz o (.lst xs))):zn1 K H (.ref a) (.type "list")
 | tup {a:Addr} {xs:List V} (e:H a=some (.tup xs)):zn1 K H (.ref a) (.type "tuple")
 | dK {a:Addr} {kvs:List (Key×V)} (e:H a=some (.dK kvs)):zn1 K H (.ref a) (.type "dict")
 | dT {a:Addr} {kvs:List (List Key×V)} (e:H a=some (.dT kvs)):zn1 K H (.ref a) (.type "dict")
 | ins {a C dx:Addr} {fs:List (Str×V)} (e:H a=some (.ins C dx fs)) (cl:Cls K C) (ha:PySem.W.findIn K (.ref C) "__class__"=some (some (.builtin "object.__class__")))
  (hn:PySem.W.specialIn K (.builtin "object.__class__") "__get__"=some (some (.builtin "getset_descriptor.__get__"))) (htk:PySem.W.takesIn K (.builtin "object.__class__")=some true)
  (hm:PySem.W.mroIn K C (.type "object")=some true):zn1 K H (.ref a) (.ref C)
theorem zpw {x:V} {u t:Value} (I:Inv X pins σ H s) (rx:zcm x u) (ty:zn1 X.K H x t) (e:PySem.W.kitOne X.K t c=some b) (h:∀tk,Q (.bool b) { s with toks:=tk }):
 wpAny (model X.prog X.w) A (call (.builtin "isinstance") [u,c]) Q E s:=by
 cases ty with
 | non=>cases (show u=Value.none from rx);exact PySem.W.kia_one PySem.W.kitx_none I.kIn True.intro e (fun z=>nomatch z) h
 | bl y=>cases (show u=Value.bool y from rx);exact PySem.W.kia_one PySem.W.kitx_bool I.kIn True.intro e (fun z=>nomatch z) h
 | int i=>obtain ⟨t,q⟩:=(show ∃t,u=Value.int i t from rx);cases q;exact PySem.W.kia_one PySem.W.kitx_int I.kIn True.intro e (fun z=>nomatch z) h
 | str y=>obtain ⟨t,q⟩:=(show ∃t,u=Value.str y t from rx);cases q;exact PySem.W.kia_one PySem.W.kitx_str I.kIn True.intro e (fun z=>nomatch z) h
 | flt y=>obtain ⟨t,q⟩:=(show ∃t,u=Value.float y t from rx);cases q;exact PySem.W.kia_one PySem.W.kitx_float I.kIn True.intro e (fun z=>nomatch z) h
 | @lst a xs ea=>
  cases (show u=Value.ref a from rx)
  obtain ⟨_,_,n,_,h1⟩:=(show zcd X.prog X.w H s.heap a (.lst xs) from I.hok a _ ea)
  exact PySem.W.kia_one PySem.W.kitx_list I.kIn ⟨_,h1,rfl⟩ e (fun z=>nomatch z) h
 | @frz a ob xs ea=>
  cases (show u=Value.ref a from rx)
  obtain ⟨_,_,_,n,_,h1⟩:=(show zcd X.prog X.w H s.heap a (.frz ob (.lst xs)) from I.hok a _ ea)
  exact PySem.W.kia_one PySem.W.kitx_list I.kIn ⟨_,h1,rfl⟩ e (fun z=>nomatch z) h
 | @tup a xs ea=>
  cases (show u=Value.ref a from rx)
  obtain ⟨_,_,_,p⟩:=(show zcd X.prog X.w H s.heap a (.tup xs) from I.hok a _ ea)
  obtain ⟨o,h1,h2,_⟩:=p
  exact PySem.W.kia_one PySem.W.kitx_tuple I.kIn ⟨o,h1,h2⟩ e (fun z=>nomatch z) h
 | @dK a kvs ea=>
  cases (show u=Value.ref a from rx)
  obtain ⟨_,_,vs,_,p⟩:=(show zcd X.prog X.w H s.heap a (.dK kvs) from I.hok a _ ea)
  obtain ⟨o,es,ep,h1,h2,_⟩:=p
  exact PySem.W.kia_one PySem.W.kitx_dict I.kIn ⟨o,h1,h2.1⟩ e (fun z=>nomatch z) h
 | @dT a kvs ea=>
  cases (show u=Value.ref a from rx)
  obtain ⟨_,_,xs,_,o,es,ep,h1,h2,_⟩:=(show zcd X.prog X.w H s.heap a (.dT kvs) from I.hok a _ ea)
  exact PySem.W.kia_one PySem.W.kitx_dict I.kIn ⟨o,h1,h2.1⟩ e (fun z=>nomatch z) h
 | @ins a C dx fs ea cl ha hn htk hm=>
  cases (show u=Value.ref a from rx)
  obtain ⟨mA,O,_⟩:=zjw I.hok ea
  obtain ⟨od,J,_⟩:=O.look
  exact PySem.W.kia_one (PySem.W.kitx_own (cl.get _) cl.hd ha hn htk hm) I.kIn J e (fun z=>nomatch z) h
end
end L2
namespace L2
open PySem PySem.Spec PyProof.Rows
structure zek (k:Nat) (A:Around):Prop where
 hd:A.handled=none
 dp:A.depth+3*k+5<recursionLimit
 un:A.units+16*k+200<cLine
theorem zek.mono {j k:Nat} {A:Around} (r:zek k A) (h:j≤k):zek j A:=⟨r.hd,by have:=r.dp;omega,by have:=r.un;omega⟩
theorem zek.deeper {k:Nat} {A:Around} (r:zek (k+1) A) (env:Env):zek k (A.deeper env):=
 ⟨r.hd,by have:=r.dp;show A.depth+1+3*k+5<_;omega,by have:=r.un;show A.units+3+16*k+200<_;omega⟩
theorem zno {A:Around} {C:Addr} {us:List Value} {kw:List (Str×Value)}:(A.under (.builtin "type.__call__" ⟨.ref C::us,kw⟩)).depth=A.depth+1:=by
 first | rfl | simp [Around.under,Code.weight,Code.isCreation,Code.isGuard,Code.isCaller,Code.frames,Code.isFrame,guardIds]
theorem znn {A:Around} {C:Addr} {us:List Value} {kw:List (Str×Value)}:(A.under (.builtin "type.__call__" ⟨.ref C::us,kw⟩)).units=A.units+1:=by
 first | rfl | simp [Around.under,Code.cUnits,Code.frames,Code.isFrame]
theorem zek.make {k:Nat} {A:Around} (r:zek (k+1) A) (C:Addr) (us:List Value) (kw:List (Str×Value)):zek k (A.under (.builtin "type.__call__" ⟨.ref C::us,kw⟩)):=
 ⟨r.hd,by have:=r.dp;rw [zno];omega,by have:=r.un;rw [znn];omega⟩
theorem zek.depth {k:Nat} {A:Around} (r:zek k A):A.depth<recursionLimit:=by have:=r.dp;omega
theorem zek.units {k:Nat} {A:Around} (r:zek k A):A.units+64<cLine:=by have:=r.un;omega
noncomputable def zu1:TA:=fun _ H Q=>Q [] H
noncomputable def zlp (ta:TE) (tr:TA):TA:=fun σ H Q=>ta σ H fun x H1=>tr σ H1 fun xs H2=>Q (x::xs) H2
section
variable {X:Cx} {e:Expr} {es:List Expr} {te:TE} {t:TA} {pos:Pos}
theorem zac:PA X [] zu1:=fun _ _ _ _ H Q I h=>Calls.spliced_nil ⟨[],H,I,.nil,h⟩
theorem zaa (ha:PE X e te) (hr:PA X es t) (hs:starEach (e::es) X.env=(false,eval e X.env)::starEach es X.env:=by rfl):PA X (e::es) (zlp te t):=by
 intro pos pins s σ H Q I h
 rw [hs]
 show wpAny _ _ (spliced ((false,eval e X.env)::backTo pos (starEach es X.env))) _ _ s
 refine Calls.spliced_cons (thn (ha pins s σ H _ I h) fun u s1 zz=>?_)
 obtain ⟨x,H1,I1,r1,q1⟩:=zz
 exact thn (hr pos pins s1 σ H1 _ I1 q1) fun us s2 zz=>L2.el5 zz fun xs H2 I2 r2 q2=>⟨x::xs,H2,I2,.cons r1 r2,q2⟩
noncomputable def zw6 (t:TA):TE:=fun σ H Q=>t σ H fun xs H1=>xs.length≤sizeLine∧∀p,H1 p=none->Q (.ref p) (upd H1 p (.tup xs))
noncomputable def zzd (t:TA):TE:=fun σ H Q=>t σ H fun xs H1=>xs.length≤sizeLine∧∀p,H1 p=none->Q (.ref p) (upd H1 p (.lst xs))
theorem za8 {x1} (h:PA X es t):PE X (.Tuple es x1 pos) (zw6 t):=by
 intro pins s σ H Q I hq
 refine wpAny_Tuple_spliced (thn (h pos pins s σ H _ I hq) fun us s1 zz=>?_)
 obtain ⟨xs,H1,I1,r,z,q⟩:=zz
 refine ⟨by rw [←r.length];exact z,?_⟩
 have hf:H1 s1.heap.objs.size=none:=I1.hok.fresh (ZAc _)
 refine ⟨.ref s1.heap.objs.size,upd H1 s1.heap.objs.size (.tup xs),I1.laid (t':=s1.toks) (fun b u e=>ZAe _ e) (ZAc _) ?_,rfl,q _ hf⟩
 exact ⟨z,us,r,⟨_,ZAx _ rfl,rfl,_,rfl⟩⟩
theorem zcy (h:PA X es t):PE X (.List es pos) (zzd t):=by
 intro pins s σ H Q I hq
 refine wpAny_List_spliced (thn (h pos pins s σ H _ I hq) fun us s1 zz=>?_)
 obtain ⟨xs,H1,I1,r,z,q⟩:=zz
 refine ⟨by rw [←r.length];exact z,?_⟩
 have hf:H1 s1.heap.objs.size=none:=I1.hok.fresh (ZAc _)
 refine ⟨.ref s1.heap.objs.size,upd H1 s1.heap.objs.size (.lst xs),I1.laid (t':=s1.toks) (fun b u e=>ZAe _ e) (ZAc _) ?_,rfl,q _ hf⟩
 exact ⟨z,us,0,r,ZAx _ rfl⟩
end
noncomputable abbrev Sp:=List V->Hp->VK->XK->Prop
noncomputable abbrev CXT:=List Env->Hp->Shared->XK->Value->Shared->Prop
structure zsd (P:Program) (w:World) (K:ZBq) (mg:Str->Option Value) (base:Heap) (A:Around) (outer:List Env) (s:Shared) (H:Hp):Prop where
 frames:A.frames=some outer
 mod:Mod K mg base
 bs:∀b o,base.get? b=some o->s.heap.get? b=some o∧H b=none
 bsz:base.objs.size≤s.heap.objs.size
 funs:s.heap.FunFrames base outer
 frf:∀b∈frs outer,H b=none
 hok:HOk P w H s.heap
 bare:AllBare s.gens
noncomputable def CE (outer:List Env) (P:Program) (w:World) (H:Hp) (s:Shared) (Q:VK) (u:Value) (s':Shared):Prop:=
 ∃v H',s'.os=s.os∧AllBare s'.gens∧Un (frs outer) [] H H' s.heap s'.heap∧HOk P w H' s'.heap∧zcm v u∧Q v H'
noncomputable def CR (CX:CXT) (outer:List Env) (P:Program) (w:World) (H:Hp) (s:Shared) (Q:VK) (E:XK) (r:Result) (s':Shared):Prop:=
 match r with
 | .ok (.ret u)=>CE outer P w H s Q u s'
 | .ok _=>False
 | .error e=>CX outer H s E e s'
structure zbj (P:Program) (w:World) (K:ZBq) (mg:Str->Option Value) (base:Heap) (CX:CXT) (k:Nat) (f:Addr) (fd:FuncData) (ps:List Str) (sp:Sp):Prop where
 len:∀vs H Q E,sp vs H Q E->vs.length=ps.length
 run:∀(A:Around) (outer:List Env) (s:Shared) (H:Hp) (args:Args) (us:List Value) (vs:List V) (Q:VK) (E:XK),zek k A->zsd P w K mg base A outer s H->BindsTo s fd args (ps.zip us)->zcb vs us->sp vs H Q E->
  codeAny (model P w) A (.call (.ref f) args) (CR CX outer P w H s Q E) s
theorem zsd.make {P:Program} {w:World} {K:ZBq} {mg:Str->Option Value} {base:Heap} {A:Around} {outer:List Env} {s:Shared} {H:Hp} (e:zsd P w K mg base A outer s H) (C:Addr) (us:List Value) (kw:List (Str×Value)):
 zsd P w K mg base (A.under (.builtin "type.__call__" ⟨.ref C::us,kw⟩)) outer s H:=⟨by first | exact e.frames | (simpa [Around.under,Code.envs,Code.isFrame,pushEnvs] using e.frames),e.mod,e.bs,e.bsz,e.funs,e.frf,e.hok,e.bare⟩
section
variable {X:Cx} {pins:List (Addr×Obj)} {σ:St} {H:Hp} {s s':Shared}
theorem Inv.env0 (I:Inv X pins σ H s):zsd X.prog X.w X.K X.mg X.base X.A X.stack s H:=
 ⟨I.ok.frames,I.ok.mod,I.bs,ZAw I.ok.bsz I.sz,I.stack,I.stkFree,I.hok,I.bare⟩
theorem Inv.after {Q:VK} {u:Value} (I:Inv X pins σ H s) (h:CE X.stack X.prog X.w H s Q u s'):EP X pins σ Q u s':=by
 obtain ⟨v,H',os,bare,un,hok,r,q⟩:=h
 obtain ⟨hh,g,d,t,os'⟩:=s'
 obtain rfl:os'=s.os:=os
 exact ⟨v,H',I.call (h':=hh) (g':=g) (d':=d) (t':=t) (ch:=[]) un hok bare (fun b z=>absurd z (by simp)),r,q⟩
end
noncomputable def zxh (sp:Sp) (dvs:List V) (E:XK) (t:TA):TE:=fun σ H Q=>t σ H fun vs H1=>sp (vs++dvs) H1 Q E
noncomputable def ztp (C:Addr) (m:Str) (sp:Sp) (dvs:List V) (E:XK) (ta:TE) (t:TA):TE:=fun σ H Q=>ta σ H fun x H1=>∃a dx fs,x=.ref a∧H1 a=some (.ins C dx fs)∧fs.lookup m=none∧
 t σ H1 fun vs H2=>sp (x::(vs++dvs)) H2 Q E
noncomputable def zxc (C:Addr) (sp:Sp) (dvs:List V) (E:XK) (t:TA):TE:=fun σ H Q=>t σ H fun vs H1=>∀x dx,H1 x=none->H1 dx=none->dx≠x->
 sp (.ref x::(vs++dvs)) (upd (upd H1 dx (.own x)) x (.ins C dx [])) (fun v H2=>v=.non∧Q (.ref x) H2) E
noncomputable def zdc (K:ZBq) (fd:FuncData) (ps:List Str) (ds:List Value):Prop:=
 ∀(s:Shared) (us:List Value),K.In s.heap->(us++ds).length=ps.length->BindsTo s fd ⟨us,[]⟩ (ps.zip (us++ds))
theorem zdc.all {K:ZBq} {fd:FuncData} {ps:List Str} (h:∀us:List Value,us.length=ps.length->bindArgs fd ⟨us,[]⟩=pure (ps.zip us)):zdc K fd ps []:=fun s us _ hl=>by
 rw [List.append_nil] at hl ⊢
 exact .of_eq (h us hl)
noncomputable def zif (CX:CXT) (X:Cx) (E:XK):Prop:=∀(pins:List (Addr×Obj)) (σ:St) (H:Hp) (s:Shared) (e:Value) (s':Shared),Inv X pins σ H s->CX X.stack H s E e s'->X.xe e s'
section
variable {X:Cx} {CX:CXT} {k:Nat} {f C:Addr} {fd:FuncData} {ps:List Str} {sp:Sp} {dvs:List V} {ds:List Value} {E:XK} {x m:Str} {p pos apos:Pos} {e o:Expr} {es:List Expr} {ta:TE} {t:TA}
theorem zo4 {pins:List (Addr×Obj)} {σ:St} {H:Hp} {s:Shared} {Q:VK} {us:List Value} {vs:List V} (F:zbj X.prog X.w X.K X.mg X.base CX k f fd ps sp) (hr:zek k X.A) (hb:zdc X.K fd ps ds) (hd:zcb dvs ds) (hx:zif CX X E)
 (I:Inv X pins σ H s) (r:zcb vs us) (h:sp (vs++dvs) H Q E):wpAny (model X.prog X.w) X.A (call (.ref f) us) (EP X pins σ Q) X.xe s:=by
 have r2:zcb (vs++dvs) (us++ds):=r.append hd
 have hl:(us++ds).length=ps.length:=by rw [←r2.length];exact F.len _ _ _ _ h
 refine wpAny_call (codeAny_mono (F.run X.A X.stack s H ⟨us,[]⟩ (us++ds) (vs++dvs) Q E hr I.env0 (hb s us I.kIn hl) r2 h) fun r s' hq=>?_)
 cases r with
 | error e=>exact hx pins σ H s e s' I hq
 | ok fl=>
  cases fl with
  | ret u=>exact I.after hq
  | next=>exact False.elim hq
  | brk=>exact False.elim hq
  | cont=>exact False.elim hq
theorem zao (F:zbj X.prog X.w X.K X.mg X.base CX k f fd ps sp) (hr:zek k X.A) (hg:Gl X x) (hm:X.mg x=some (.ref f)) (hk:PySem.W.keepIn X.K (.ref f)=true) (hb:zdc X.K fd ps ds) (hd:zcb dvs ds) (hx:zif CX X E)
 (ha:PA X (e::es) t) (hdb:(x==("__debug__":Str))=false:=by decide) (he:starEach (e::es) X.env=(false,eval e X.env)::starEach es X.env:=by rfl) (hpl:(backTo pos (starEach es X.env)).any (·.1)=false:=by rfl):
 PE X (.Call (.Name x p) (e::es) [] pos) (zxh sp dvs E t):=by
 intro pins s σ H Q I h
 refine wpAny_Call_Name_kw (zl1 I hg hm ?_ hdb)
 refine PySem.W.callWith_K (h₀:=X.base) I.ok.mod.kin hk (thn (ha pos pins s σ H _ I h) fun us s1 zz=>L2.el5 zz fun vs H1 I1 r q=>⟨I1.kIn,?_⟩) he hpl
 exact zo4 F hr hb hd hx I1 r q
theorem zb9 {pl:Sem Bool} (he:PE X o ta) (c:Cls X.K C) (hm:zj6 X.K C m f) (F:zbj X.prog X.w X.K X.mg X.base CX k f fd ps sp) (hr:zek k X.A) (hb:zdc X.K fd ps ds) (hd:zcb dvs ds) (hx:zif CX X E) (ha:PA X (e::es) t)
 (hst:starEach (e::es) X.env=(false,eval e X.env)::starEach es X.env:=by rfl) (hpl:(backTo pos (starEach es X.env)).any (·.1)=false:=by rfl)
 (ht:eval (.Call (.Attribute o m apos) (e::es) [] pos) X.env=(do
  let ov ←eval o X.env
  standAt apos.atName
  let (f,first) ←holding [ov] (getMethod ov m pl)
  callWith pos f first (backTo pos (starEach (e::es) X.env)) (backToKw pos (keywordEach [] X.env))):=by rfl):
 PE X (.Call (.Attribute o m apos) (e::es) [] pos) (ztp C m sp dvs E ta t):=by
 intro pins s σ H Q I h
 refine PySem.W.methodCall_KW (pl:=pl) (thn (he pins s σ H _ I h) fun u s1 zz=>?_) ht
 obtain ⟨x,H1,I1,rx,a,dx,fs,ex,ea,l,q⟩:=zz
 subst ex
 obtain rfl:u=Value.ref a:=rx
 refine zi1 I1 ea c hm l ?_
 refine PySem.W.callWith_K (first:=[.ref a]) (h₀:=X.base) I.ok.mod.kin hm.kp (thn (ha pos pins s1 σ H1 _ I1 q) fun us s2 zz=>L2.el5 zz fun vs H2 I2 r q2=>⟨I2.kIn,?_⟩) hst hpl
 exact zo4 (us:=.ref a::us) (vs:=.ref a::vs) F hr hb hd hx I2 (.cons rfl r) q2
theorem zhd {pl:Sem Bool} (he:PE X o ta) (c:Cls X.K C) (hm:zj6 X.K C m f) (F:zbj X.prog X.w X.K X.mg X.base CX k f fd ps sp) (hr:zek k X.A) (hb:zdc X.K fd ps ds) (hd:zcb dvs ds) (hx:zif CX X E)
 (ht:eval (.Call (.Attribute o m apos) [] [] pos) X.env=(do
  let ov ←eval o X.env
  standAt apos.atName
  let (f,first) ←holding [ov] (getMethod ov m pl)
  callWith pos f first (backTo pos (starEach [] X.env)) (backToKw pos (keywordEach [] X.env))):=by rfl):
 PE X (.Call (.Attribute o m apos) [] [] pos) (ztp C m sp dvs E ta zu1):=by
 intro pins s σ H Q I h
 refine PySem.W.methodCall_KW (pl:=pl) (thn (he pins s σ H _ I h) fun u s1 zz=>?_) ht
 obtain ⟨x,H1,I1,rx,a,dx,fs,ex,ea,l,q⟩:=zz
 subst ex
 obtain rfl:u=Value.ref a:=rx
 refine zi1 I1 ea c hm l ?_
 exact PySem.W.callWith_K0 (first:=[.ref a]) I1.kIn hm.kp (zo4 (us:=[.ref a]) (vs:=[.ref a]) F hr hb hd hx I1 (.cons rfl .nil) q)
structure Mk (K:ZBq) (C f:Addr):Prop where
 makes:PySem.W.makesIn K C=true
 init:PySem.W.findIn K (.ref C) "__init__"=some (some (.ref f))
 fn:PySem.W.isFn K (.ref f)=true
 kp:PySem.W.keepIn K (.ref C)=true
theorem zq5 {pins:List (Addr×Obj)} {σ:St} {H:Hp} {s:Shared} {Q:VK} {us:List Value} {vs:List V} (M:Mk X.K C f) (F:zbj X.prog X.w X.K X.mg X.base CX k f fd ps sp) (hr:zek (k+1) X.A) (hb:zdc X.K fd ps ds) (hd:zcb dvs ds)
 (hx:zif CX X E) (I:Inv X pins σ H s) (r:zcb vs us)
 (h:∀x dx,H x=none->H dx=none->dx≠x->sp (.ref x::(vs++dvs)) (upd (upd H dx (.own x)) x (.ins C dx [])) (fun v H2=>v=.non∧Q (.ref x) H2) E):
 wpAny (model X.prog X.w) X.A (call (.ref C) us) (EP X pins σ Q) X.xe s:=by
 have hq:=h (s.heap.objs.size+1) s.heap.objs.size (I.hok.fresh (Nat.le_succ _)) (I.hok.fresh (ZAc _)) (ZAz (Nat.lt_succ_self _))
 have I2:=Inv.made (C:=C) I
 have r2:zcb (V.ref (s.heap.objs.size+1)::(vs++dvs)) (Value.ref (s.heap.objs.size+1)::(us++ds)):=.cons rfl (r.append hd)
 have hl:(Value.ref (s.heap.objs.size+1)::us++ds).length=ps.length:=by
  have e:=r2.length
  rw [F.len _ _ _ _ hq] at e
  exact e.symm
 refine wpAny_call (zrm (f:=f) I.kIn M.makes M.init (beq_iff_eq.mp M.fn) (codeAny_mono (F.run _ X.stack _ _ ⟨Value.ref (s.heap.objs.size+1)::us,[]⟩ (Value.ref (s.heap.objs.size+1)::(us++ds)) _ _ E (hr.make C us [])
  (I2.env0.make C us []) (hb _ (Value.ref (s.heap.objs.size+1)::us) I2.kIn hl) r2 hq) fun r s' hq'=>?_))
 cases r with
 | error e=>exact hx pins σ _ _ e s' I2 hq'
 | ok fl=>
  cases fl with
  | ret u=>
   obtain ⟨v,H',I3,rv,ev,q3⟩:=I2.after hq'
   subst ev
   exact ⟨rv,⟨V.ref (s.heap.objs.size+1),H',I3,rfl,q3⟩⟩
  | next=>exact False.elim hq'
  | brk=>exact False.elim hq'
  | cont=>exact False.elim hq'
theorem zpd (M:Mk X.K C f) (F:zbj X.prog X.w X.K X.mg X.base CX k f fd ps sp) (hr:zek (k+1) X.A) (hg:Gl X x) (hm:X.mg x=some (.ref C)) (hb:zdc X.K fd ps ds) (hd:zcb dvs ds) (hx:zif CX X E)
 (ha:PA X (e::es) t) (hdb:(x==("__debug__":Str))=false:=by decide) (he:starEach (e::es) X.env=(false,eval e X.env)::starEach es X.env:=by rfl) (hpl:(backTo pos (starEach es X.env)).any (·.1)=false:=by rfl):
 PE X (.Call (.Name x p) (e::es) [] pos) (zxc C sp dvs E t):=by
 intro pins s σ H Q I h
 refine wpAny_Call_Name_kw (zl1 I hg hm ?_ hdb)
 refine PySem.W.callWith_K (h₀:=X.base) I.ok.mod.kin M.kp (thn (ha pos pins s σ H _ I h) fun us s1 zz=>L2.el5 zz fun vs H1 I1 r q=>⟨I1.kIn,?_⟩) he hpl
 exact zq5 M F hr hb hd hx I1 r q
end
section
variable {X:Cx} {CX:CXT} {k:Nat} {f C:Addr} {fd:FuncData} {ps ks:List Str} {sp:Sp} {E:XK} {x m:Str} {p pos apos kpos:Pos} {e o:Expr} {es:List Expr} {kws:List Keyword} {te ta:TE} {t tk:TA} {nm:Option Str}
variable {g:List Value->List Value->List Value} {gV:List V->List V->List V}
end
structure zat (N P:List Str) (sc:Scope):Prop where
 kind:sc.kind=.function
 co:sc.isCoroutine=false
 gen:sc.isGenerator=false
 nd:N.Nodup
 pre:N.take P.length=P
 par:∀x∈P,sc.names.lookup x=some .local∨sc.names.lookup x=some .cell
 nofree:∀y∈sc.names,y.2≠.free
theorem zlf {kindOf:Str->Option NameKind} {x:Str}:∀{binds:List (Str×Value)} {m:Str->Option Value},(∀v,(x,v)∉binds)->bindL kindOf binds m x=m x
 | [],_,_=>rfl
 | (n,v)::r,m,h=>by
  unfold bindL
  rw [zlf fun w hw=>h w (ZAk _ hw)]
  split
  ·have:x≠n:=by rintro rfl;exact h v ZAl
   simp [this]
  ·rfl
theorem zlg {kindOf:Str->Option NameKind} {x:Str}:∀{binds:List (Str×Value)} {m:Str->Option Value},(∀v,(x,v)∉binds)->bindC kindOf binds m x=m x
 | [],_,_=>rfl
 | (n,v)::r,m,h=>by
  unfold bindC
  rw [zlg fun w hw=>h w (ZAk _ hw)]
  split
  ·rfl
  ·have:x≠n:=by rintro rfl;exact h v ZAl
   simp [this]
theorem zib {kindOf:Str->Option NameKind} {x:Str} {v:Value}:∀{P:List Str} {vs:List Value} {i:Nat} {m:Str->Option Value},P.Nodup->P[i]?=some x->vs[i]?=some v->kindOf x=some .local->
 bindL kindOf (P.zip vs) m x=some v
 | [],_,_,_,_,h,_,_=>by simp at h
 | _::_,[],_,_,_,_,h,_=>by simp at h
 | p::P,w::vs,0,m,nd,h1,h2,hk=>by
  simp at h1 h2;subst h1;subst h2
  show bindL kindOf ((p,w)::P.zip vs) m p=_
  unfold bindL
  rw [zlf fun v hv=>(List.nodup_cons.mp nd).1 (List.of_mem_zip hv).1,if_pos hk]
  simp
 | p::P,w::vs,i+1,m,nd,h1,h2,hk=>by
  show bindL kindOf ((p,w)::P.zip vs) m x=_
  unfold bindL
  exact zib (i:=i) (List.nodup_cons.mp nd).2 (by simpa using h1) (by simpa using h2) hk
theorem zic {kindOf:Str->Option NameKind} {x:Str} {v:Value}:∀{P:List Str} {vs:List Value} {i:Nat} {m:Str->Option Value},P.Nodup->P[i]?=some x->vs[i]?=some v->kindOf x≠some .local->
 bindC kindOf (P.zip vs) m x=some v
 | [],_,_,_,_,h,_,_=>by simp at h
 | _::_,[],_,_,_,_,h,_=>by simp at h
 | p::P,w::vs,0,m,nd,h1,h2,hk=>by
  simp at h1 h2;subst h1;subst h2
  show bindC kindOf ((p,w)::P.zip vs) m p=_
  unfold bindC
  rw [zlg fun v hv=>(List.nodup_cons.mp nd).1 (List.of_mem_zip hv).1,if_neg hk]
  simp
 | p::P,w::vs,i+1,m,nd,h1,h2,hk=>by
  show bindC kindOf ((p,w)::P.zip vs) m x=_
  unfold bindC
  exact zic (i:=i) (List.nodup_cons.mp nd).2 (by simpa using h1) (by simpa using h2) hk
noncomputable def zdm (N:List Str) (vs:List V):St:=vs.map some++List.replicate (N.length-vs.length) none
noncomputable def zu4 (CX:CXT) (P:Program) (w:World) (K:ZBq) (mg:Str->Option Value) (base:Heap) (N:List Str) (qual:Str) (scope:Scope) (f:Addr) (cd:Value) (A:Around) (outer:List Env) (s:Shared) (H:Hp) (E:XK):Cx where
 prog:=P
 w:=w
 K:=K
 mg:=mg
 base:=base
 A:=A.deeper (envOfC qual scope s.heap.objs.size f cd)
 N:=N
 s₀:=s
 H₀:=H
 env:=envOfC qual scope s.heap.objs.size f cd
 outer:=outer
 stack:=envOfC qual scope s.heap.objs.size f cd::outer
 ex:=[]
 calm:=true
 fn:=fun _=>true
 pn:=[]
 xe:=fun e s'=>wpAny (model P w) (A.deeper (envOfC qual scope s.heap.objs.size f cd)) (leaving (envOfC qual scope s.heap.objs.size f cd) e) (fun _ s''=>CX outer H s E e s'') (fun e' s''=>CX outer H s E e' s'') s'
theorem zhk {sc:Scope} {n:Nat} {x:Str} (h:sc.names.lookup x=some .cell):∃c,(cellsFrom n sc.names []).lookup x=some c:=by
 have q:=PySem.W.cellsFrom_some sc.names n [] (.inl h)
 exact Option.isSome_iff_exists.mp q
theorem zpy {CX:CXT} {P:Program} {w:World} {K:ZBq} {mg:Str->Option Value} {base:Heap} {N ps:List Str} {qual:Str} {scope:Scope} {f:Addr} {cd:Value} {A:Around} {outer:List Env} {s s1:Shared} {H:Hp} {E:XK} {us:List Value} {vs:List V}
 (S:zat N ps scope) (hd:A.handled=none) (e0:zsd P w K mg base A outer s H) (hl:vs.length=ps.length) (r:zcb vs us)
 (x:InCallC s s.heap.objs.size (bindL (envOfC qual scope s.heap.objs.size f cd).kindOf (ps.zip us) fun _=>none) (cellsFrom (s.heap.objs.size+1) scope.names []) (bindC (envOfC qual scope s.heap.objs.size f cd).kindOf (ps.zip us) fun _=>none) s1):
 Inv (zu4 CX P w K mg base N qual scope f cd A outer s H E) [] (zdm N vs) H s1:=by
 have hpl:ps.length≤N.length:=by have:=congrArg List.length S.pre;rw [ZA1] at this;omega
 obtain ⟨h1,tk,rfl,hk⟩:=x.done
 have noA:∀b:Addr,b∉(zu4 CX P w K mg base N qual scope f cd A outer s H E).ex:=fun b z=>absurd (show b∈([]:List Addr) from z) (by simp)
 refine ⟨⟨e0.mod,S.kind,rfl,rfl,ZAc _,fun y z c h1 h2=>?_,fun y hy=>?_,fun y c _ h=>?_,fun _=>hd,Around.frames_deeper e0.frames,.inr ⟨rfl,rfl⟩,fun b z=>absurd z (noA b),e0.bs,e0.bsz,fun b _ _=>noA b,fun b z=>absurd z (noA b),e0.funs,e0.frf⟩,
  rfl,e0.bare,Un.kept hk,⟨_,x.toInCall.ns,fun i y v h1 h2 h3=>?_⟩,fun y c h=>⟨_,x.cell y c h⟩,e0.hok.fresh (ZAc _),fun y c h=>?_,fun p hp=>absurd (show p∈([]:List (Addr×Obj)) from hp) (by simp),e0.hok.kept hk,?_⟩
 ·exact name_of_addr x.apart (PySem.mem_of_lookup h1) (PySem.mem_of_lookup h2)
 ·have hy:scope.names.lookup y=some .cell∨scope.names.lookup y=some .free:=hy
  rcases hy with hy | hy
  ·exact zhk hy
  ·exact absurd rfl (S.nofree _ (PySem.mem_of_lookup hy))
 ·exact ZAr (x.above y c (PySem.mem_of_lookup h))
 ·have hi:i<vs.length:=by
   unfold zdm at h2
   by_cases hi:i<vs.length
   ·exact hi
   ·rw [ZA0 (by simpa using hi)] at h2
    rw [List.getElem?_replicate] at h2
    split at h2<;>cases h2
  have ha:vs[i]?=some v:=by
   unfold zdm at h2
   rw [ZA6 (by simpa using hi),ZAg] at h2
   cases e:vs[i]? with
   | none=>rw [e] at h2;cases h2
   | some a=>rw [e] at h2;cases h2;rfl
  obtain ⟨u,hu,rv⟩:=r.get ha
  have hp:ps[i]?=some y:=by
   rw [←S.pre,List.getElem?_take_of_lt (by omega)];exact h1
  have ndP:ps.Nodup:=by rw [←S.pre];exact S.nd.sublist (List.take_sublist _ _)
  refine ⟨u,rv,?_⟩
  rcases S.par y (ZAh hp) with k | k
  ·exact .inl ⟨k,zib ndP hp hu k⟩
  ·obtain ⟨c,e⟩:=zhk (n:=s.heap.objs.size+1) k
   refine .inr ⟨.inl k,c,e,?_⟩
   have q:=x.cell y c e
   rw [zic ndP hp hu (by show scope.names.lookup y≠_;rw [k];decide)] at q
   exact q
 ·exact e0.hok.fresh (ZAr (x.above y c (PySem.mem_of_lookup h)))
 ·unfold zdm
  show _=N.length
  rw [ZAj,ZAa,ZBb]
  omega
theorem zx8 {CX:CXT} {P:Program} {w:World} {K:ZBq} {mg:Str->Option Value} {base:Heap} {k:Nat} {f:Addr} {name qual:Str} {params:Arguments} {body:List Stmt} {scope:Scope} {dV kV doc pm cdv ct oc:Value} {an od:Option Addr}
 {osl:Array (Option Value)} {N ps:List Str} {sp:Sp} (lk:K.lookup f=some ⟨oc,od,.func (PySem.W.fnOf name qual params body scope dV kV doc pm an cdv ct),osl⟩) (hcd:PySem.W.codeIn K cdv qual=true) (S:zat N ps scope)
 (len:∀vs H Q E,sp vs H Q E->vs.length=ps.length)
 (hbody:∀(A:Around) (outer:List Env) (s:Shared) (H:Hp) (vs:List V) (Q:VK) (E:XK),zek k (A.deeper (envOfC qual scope s.heap.objs.size f cdv))->sp vs H Q E->
  ∃t,PSs (zu4 CX P w K mg base N qual scope f cdv A outer s H E) body t∧t { nx:=fun _ H'=>Q .non H',rt:=Q } (zdm N vs) H):
 zbj P w K mg base CX (k+1) f (PySem.W.fnOf name qual params body scope dV kV doc pm an cdv ct) ps sp:=by
 refine ⟨len,fun A outer s H args us vs Q E hr e0 hb r hsp=>?_⟩
 have hl:=len _ _ _ _ hsp
 have KX:K.In s.heap:=e0.mod.kin.keeps fun b o e=>(e0.bs b o e).1
 have lim:s.heap.NoLimit:=e0.mod.nolimit.keeps fun b o e=>(e0.bs b o e).1
 have hkind:∀y∈ps.zip us,scope.names.lookup y.1=some .local∨(scope.names.lookup y.1=some .cell∧((cellsFrom (s.heap.objs.size+1) scope.names []).lookup y.1).isSome=true):=fun ⟨n,v⟩ hy=>by
  rcases S.par n (List.of_mem_zip hy).1 with q | q
  ·exact .inl q
  ·exact .inr ⟨q,PySem.W.cellsFrom_some _ _ _ (.inl q)⟩
 refine codeAny_call_function hr.depth (KX _ _ lk) rfl S.co S.gen rfl (PySem.W.codeRec_of KX hcd) (hb _ _ _ _ ?_)
 refine wpAny_newFunctionEnv_cells S.kind hkind fun env he s1 x=>?_
 subst he
 refine ⟨lim.keeps x.toInCall.keep,codeAny_func ?_⟩
 obtain ⟨t,ht,hq⟩:=hbody A outer s H vs Q E (hr.deeper _) hsp
 have I:Inv (zu4 CX P w K mg base N qual scope f cdv A outer s H E) [] (zdm N vs) H s1:=zpy S hr.hd e0 hl r x
 refine wpAny_mono (ht [] s1 (zdm N vs) H _ I hq) (fun fl s' hs=>?_) fun e s' hs=>hs
 have fin:∀{σ':St} {H':Hp} {v:V} {u:Value},Inv (zu4 CX P w K mg base N qual scope f cdv A outer s H E) [] σ' H' s'->zcm v u->Q v H'->CE outer P w H s Q u s':=
  fun {σ' H' v u} J rv q=>⟨v,H',J.os,J.bare,J.base,J.hok,rv,q⟩
 cases fl with
 | ret u=>
  obtain ⟨v,σ',H',J,rv,q⟩:=hs
  exact fin J rv q
 | next=>
  obtain ⟨σ',H',J,q⟩:=hs
  exact fin (v:=V.non) (u:=Value.none) J rfl q
 | brk=>
  obtain ⟨_,_,_,q⟩:=hs
  exact False.elim q
 | cont=>
  obtain ⟨_,_,_,q⟩:=hs
  exact False.elim q
end L2
namespace L2
open PySem PySem.Spec PyProof.Rows
section
variable {X:Cx} {x:Str} {p pos:Pos} {e:Expr} {es:List Expr} {t:TA} {id T:String} {r:List V->Hp->VK->Prop}
noncomputable def tCB (r:List V->Hp->VK->Prop) (t:TA):TE:=fun σ H Q=>t σ H fun vs H1=>r vs H1 Q
theorem zau (hc:zig X (.builtin id) r) (hg:Gl X x) (hm:X.mg x=none) (hv:bootBuiltins x=some (.builtin id)) (ha:PA X (e::es) t) (hn:x≠"__name__":=by decide) (hdb:(x==("__debug__":Str))=false:=by decide)
 (he:starEach (e::es) X.env=(false,eval e X.env)::starEach es X.env:=by rfl) (hpl:(backTo pos (starEach es X.env)).any (·.1)=false:=by rfl):PE X (.Call (.Name x p) (e::es) [] pos) (tCB r t):=by
 intro pins s σ H Q I h
 refine wpAny_Call_Name_kw (ziy I hg hm hv ?_ hn hdb)
 exact PyProof.Rows.callWith_builtin1 (thn (ha pos pins s σ H _ I h) fun us s1 zz=>L2.el5 zz fun vs H1 I1 r1 q1=>hc pins s1 σ H1 vs us Q I1 r1 q1) he hpl
theorem zd3 (hc:zig X (.type T) r) (hg:Gl X x) (hm:X.mg x=none) (hv:bootBuiltins x=some (.type T)) (ha:PA X (e::es) t) (hn:x≠"__name__":=by decide) (hdb:(x==("__debug__":Str))=false:=by decide)
 (he:starEach (e::es) X.env=(false,eval e X.env)::starEach es X.env:=by rfl) (hpl:(backTo pos (starEach es X.env)).any (·.1)=false:=by rfl):PE X (.Call (.Name x p) (e::es) [] pos) (tCB r t):=by
 intro pins s σ H Q I h
 refine wpAny_Call_Name_kw (ziy I hg hm hv ?_ hn hdb)
 exact PyProof.Rows.callWith_type1 (thn (ha pos pins s σ H _ I h) fun us s1 zz=>L2.el5 zz fun vs H1 I1 r1 q1=>hc pins s1 σ H1 vs us Q I1 r1 q1) he hpl
end
end L2
namespace HT
open PySem PyProof.Rows
section
open PySem.SeqAt
open PySem.AutoSeq1 (wpAny_loadPart')
open PySem.MeetsSeq PySem.MeetsSeq2 PySem.MeetsSeq3
end
section
variable {prog:Program} {w:World} {A:Around} {E:Value->Shared->Prop} {s:Shared}
theorem cat_tup {t b:Addr} {vs ws:List Value} {Q:Value->Shared->Prop} (ht:IsTup s.heap t vs.toArray) (hb:IsTup s.heap b ws.toArray) (hv:vs≠[])
 (h1:ws=[]->Q (.ref t) s) (h2:ws≠[]->Q (.ref s.heap.objs.size) { s with heap:=s.heap.push { cls:=.type "tuple",data:=.seq (vs++ws).toArray } })
 (hsz:vs.length+ws.length≤sizeLine):wpAny (model prog w) A (binaryOp .Add (.ref t) (.ref b)) Q E s:=by
 obtain ⟨⟨cls,dd,data,sl⟩,ho,hc,n,hd⟩:=id ht
 obtain ⟨⟨cls2,dd2,data2,sl2⟩,ho2,hc2,n2,hd2⟩:=id hb
 simp only at hc hd hc2 hd2
 subst hc hd hc2 hd2
 have e:vs.toArray++ws.toArray=(vs++ws).toArray:=by simp
 by_cases hw:ws=[]
 ·exact concat_meets ⟨_,ho,rfl⟩ ⟨_,ho2,rfl⟩ noFill_tuple_add seq_tuple_add PySem.F.slot_tuple_add PySem.F.entry_tuple_add (PySem.F.args_tuple_add_2 _ _)
   (tuple_addW1 t b vs.toArray ws.toArray n n2 dd dd2 sl sl2 (by simpa using hv) (by simp [hw])) ⟨ho,ho2,h1 hw⟩
 ·refine concat_meets ⟨_,ho,rfl⟩ ⟨_,ho2,rfl⟩ noFill_tuple_add seq_tuple_add PySem.F.slot_tuple_add PySem.F.entry_tuple_add (PySem.F.args_tuple_add_2 _ _)
   (tuple_addW2 t b vs.toArray ws.toArray n n2 dd dd2 sl sl2 (by simpa using hv) (by simpa using hw) (by rw [ZAi,ZAi];exact hsz)) ⟨ho,ho2,?_⟩
  rw [e]
  exact h2 hw
noncomputable def sIx (n d:Nat):Option Int->Nat
 | none=>d
 | some v=>if v<0 then (v+(n:Int)).toNat else min v.toNat n
theorem sIx_none (n d:Nat):sIx n d none=d:=rfl
theorem sIx_nat (n d k:Nat):sIx n d (some (k:Int))=min k n:=by
 show (if (k:Int)<0 then ((k:Int)+(n:Int)).toNat else min (k:Int).toNat n)=min k n
 rw [if_neg (by omega),ZBd]
theorem zvq (n d:Nat) (hd:d≤n) (o:Option Int):sIx n d o≤n:=by
 cases o with
 | none=>exact hd
 | some v=>
  show (if v<0 then (v+(n:Int)).toNat else min v.toNat n)≤n
  by_cases hv:v<0
  ·rw [if_pos hv];omega
  ·rw [if_neg hv];exact Nat.min_le_right _ _
theorem zqg (v:Int) (n d:Nat):(if v<0 then max (v+(n:Int)) 0 else min v (n:Int))=((sIx n d (some v):Nat):Int):=by
 show (if v<0 then max (v+(n:Int)) 0 else min v (n:Int))=(((if v<0 then (v+(n:Int)).toNat else min v.toNat n):Nat):Int)
 by_cases hv:v<0
 ·simp only [if_pos hv];omega
 ·simp only [if_neg hv];omega
theorem zn0 (lo hi:Option Int) (n:Nat):Builtin.Slice.sliceAdjust lo hi 1 (n:Int)=(((sIx n 0 lo:Nat):Int),((sIx n n hi:Nat):Int)):=by
 have h1:¬((1:Int)<0):=by omega
 unfold Builtin.Slice.sliceAdjust
 simp only [h1,if_false]
 refine Prod.ext ?_ ?_
 ·cases lo with
  | none=>rfl
  | some v=>exact zqg v n 0
 ·cases hi with
  | none=>rfl
  | some v=>exact zqg v n n
theorem znk (i j:Nat):Builtin.Slice.slicePlaces (i:Int) (j:Int) 1=j-i:=by
 unfold Builtin.Slice.slicePlaces
 have h1:(1:Int)>0:=by omega
 simp only [h1,if_true,Int.ediv_one]
 split<;>omega
theorem ziu {v:Value} {o:Option Int} {Q:Option Int->Shared->Prop} (p:IsPart v o) (h:Q o s):wpAny (model prog w) A (Builtin.Slice.slicePartIndex v) Q E s:=by
 cases p with
 | none=>exact slicePart_none h
 | int i t=>exact slicePart_int h
theorem zg3 {sl:Addr} {vl vu:Value} {lo hi:Option Int} {n:Nat} {Q:Int×Int×Nat->Shared->Prop} (hs:s.heap.IsSliceOf sl vl vu .none) (pl:IsPart vl lo) (pu:IsPart vu hi)
 (h:Q (((sIx n 0 lo:Nat):Int),1,sIx n n hi-sIx n 0 lo) s):wpAny (model prog w) A (Builtin.Slice.sliceApplied (.ref sl) (pure (n:Int))) Q E s:=by
 obtain ⟨os,hos,hcs,hds⟩:=id hs
 unfold Builtin.Slice.sliceApplied Builtin.Slice.sliceFields
 refine wpAny_bind (wpAny_bind (wpAny_field hos hds (x:=vl) rfl (wpAny_bind (wpAny_field hos hds (x:=vu) rfl (wpAny_bind (wpAny_field hos hds (x:=.none) rfl (wpAny_pure ?_)))))))
 refine wpAny_bind (slicePart_none ?_)
 show wpAny _ _ (if ((1:Int)==0)=true then _ else _) _ _ s
 rw [if_neg (by decide)]
 refine wpAny_bind (ziu pl (wpAny_bind (ziu pu (wpAny_bind (wpAny_pure ?_)))))
 show wpAny _ _ (match Builtin.Slice.sliceAdjust lo hi 1 (n:Int) with | (lo,hi)=>pure (lo,(1:Int),Builtin.Slice.slicePlaces lo hi 1)) _ _ s
 rw [zn0 lo hi n]
 show wpAny _ _ (pure (((sIx n 0 lo:Nat):Int),(1:Int),Builtin.Slice.slicePlaces ((sIx n 0 lo:Nat):Int) ((sIx n n hi:Nat):Int) 1)) _ _ s
 rw [znk]
 exact wpAny_pure h
theorem zrc (xs:Array Value) (i k:Nat):((List.range k).filterMap fun (m:Nat)=>xs[((i:Int)+(m:Int)*1).toNat]?).toArray=((xs.toList.drop i).take k).toArray:=by
 have e:(fun (m:Nat)=>xs[((i:Int)+(m:Int)*1).toNat]?)=fun m=>xs[i+m]?:=by
  funext m
  have:((i:Int)+(m:Int)*1).toNat=i+m:=by omega
  rw [this]
 rw [e]
 have:=pick_run xs i k
 rw [List.filterMap_map] at this
 have e2:((fun x=>xs[x]?) ∘ fun x=>i+x)=fun m=>xs[i+m]?:=rfl
 rw [e2] at this
 rw [this]
theorem getItem_tuple_cut {t sl:Addr} {items:Array Value} {vl vu:Value} {lo hi:Option Int} {Q:Value->Shared->Prop} (ht:IsTup s.heap t items) (hs:s.heap.IsSliceOf sl vl vu .none) (pl:IsPart vl lo) (pu:IsPart vu hi)
 (hw:¬(sIx items.size 0 lo=0∧sIx items.size items.size hi=items.size))
 (h:Q (.ref s.heap.objs.size) { s with heap:=s.heap.push { cls:=.type "tuple",data:=.seq ((items.toList.drop (sIx items.size 0 lo)).take (sIx items.size items.size hi-sIx items.size 0 lo)).toArray } })
 (hsz:items.size≤sizeLine):wpAny (model prog w) A (getItem (.ref t) (.ref sl)) Q E s:=by
 have htake:sizeOk (.seq ((items.toList.drop (sIx items.size 0 lo)).take (sIx items.size items.size hi-sIx items.size 0 lo)).toArray):=by
  show ((items.toList.drop (sIx items.size 0 lo)).take (sIx items.size items.size hi-sIx items.size 0 lo)).toArray.size≤sizeLine
  rw [ZAi,ZA1,List.length_drop,Array.length_toList]
  omega
 have hj:sIx items.size items.size hi≤items.size:=zvq _ _ (ZAc _) hi
 obtain ⟨os,hos,hcs,hds⟩:=id hs
 have hTs:s.TypeIs (.ref sl) "slice":=⟨os,hos,hcs⟩
 unfold getItem
 try with_reducible refine wpAny_holding ?_
 first | refine wpAny_bind (wpAny_pure ?_) | skip
 refine wpAny_bind (wpAny_sequenceKey ht.typeIs (by decide) ?_)
 refine wpAny_bind (wpAny_callSpecial?_slot (name:=Str.ofString "__getitem__") ht.typeIs PyProof.Rows.slot_tuple_getitem
  (wpAny_call_entry PyProof.Rows.slot_tuple_getitem ht.typeIs entry_tuple_getitem ?_ (args_tuple_getitem _ _)))
 show wpAny _ _ (Builtin.Tuple.tupleItemsOf (.ref t)>>=_) _ _ s
 refine wpAny_bind (tupleItemsOf_ ht ?_)
 refine wpAny_bind (wpAny_typeOf hTs ?_)
 rw [if_pos (by decide)]
 refine wpAny_bind (zg3 hs pl pu ?_)
 have hno:¬((((sIx items.size 0 lo:Nat):Int)==0 && (1:Int)==1 && (sIx items.size items.size hi-sIx items.size 0 lo)==items.size)=true):=by
  intro q
  rw [Bool.and_eq_true,Bool.and_eq_true] at q
  have q1:((sIx items.size 0 lo:Nat):Int)=0:=eq_of_beq q.1.1
  have q2:sIx items.size items.size hi-sIx items.size 0 lo=items.size:=eq_of_beq q.2
  exact hw ⟨by omega,by omega⟩
 show wpAny _ _ (if (((sIx items.size 0 lo:Nat):Int)==0 && (1:Int)==1 && (sIx items.size items.size hi-sIx items.size 0 lo)==items.size)=true then _ else _) _ _ s
 rw [if_neg hno,zrc]
 first
  | exact wpAny_bind (m:=Builtin.Tuple.tupleExact _) (wpAny_newObj_type (wpAny_pure ⟨_,rfl,wpAny_pure h⟩) htake)
  | exact wpAny_bind (m:=Builtin.Tuple.tupleExact _) (wpAny_newObj_type (wpAny_bind (wpAny_pure (wpAny_pure ⟨_,rfl,wpAny_pure h⟩))) htake)
  | exact wpAny_bind (wpAny_bind (m:=Builtin.Tuple.tupleExact _) (wpAny_newObj_type (wpAny_pure (wpAny_pure ⟨_,rfl,wpAny_pure h⟩)) htake))
  | exact wpAny_bind (wpAny_bind (m:=Builtin.Tuple.tupleExact _) (wpAny_newObj_type (wpAny_pure ⟨_,rfl,wpAny_pure h⟩) htake))
end
end HT
namespace L2
open PySem PySem.Spec PyProof.Rows
noncomputable abbrev TO:=St->Hp->(Option Int->Hp->Prop)->Prop
noncomputable def PO (X:Cx) (e:Option Expr) (t:TO):Prop:=
 ∀(pins:List (Addr×Obj)) (s:Shared) (σ:St) (H:Hp) (Q:Option Int->Hp->Prop),Inv X pins σ H s->t σ H Q->
  wpAny (model X.prog X.w) X.A (evalPart e X.env) (fun u s'=>∃o H',Inv X pins σ H' s'∧IsPart u o∧Q o H') X.xe s
noncomputable def zto:TO:=fun _ H Q=>Q none H
noncomputable def zw9 (t:TE):TO:=fun σ H Q=>t σ H fun x H1=>∃i,x=.int i∧Q (some i) H1
section
variable {X:Cx} {e:Expr} {te:TE} {lo hi:Option Expr} {tl th:TO} {pos p2:Pos}
theorem zf0:PO X none zto:=by
 intro pins s σ H Q I h
 rw [evalPart_none]
 exact wpAny_pure ⟨none,H,I,.none,h⟩
theorem zfz (h:PE X e te):PO X (some e) (zw9 te):=by
 intro pins s σ H Q I hw
 rw [evalPart_some]
 refine thn (h pins s σ H _ I hw) fun u s1 zz=>?_
 obtain ⟨x,H1,I1,r1,q1⟩:=zz
 obtain ⟨i,rfl,q⟩:=q1
 obtain ⟨t,rfl⟩:=r1
 exact ⟨some i,H1,I1,.int i t,q⟩
noncomputable def SlR (X:Cx) (r:V->Option Int->Option Int->Hp->VK->Prop):Prop:=
 ∀(pins:List (Addr×Obj)) (s:Shared) (σ:St) (H:Hp) (x:V) (v vl vu:Value) (lo hi:Option Int) (sl:Addr) (Q:VK),Inv X pins σ H s->zcm x v->s.heap.IsSliceOf sl vl vu .none->IsPart vl lo->IsPart vu hi->r x lo hi H Q->
  ∃T id,typeLookup (.type T) "__getitem__"=pure (some (.builtin id))∧s.TypeIs v T∧wpAny (model X.prog X.w) X.A (getItem v (.ref sl)) (EP X pins σ Q) X.xe s
noncomputable def tSl (r:V->Option Int->Option Int->Hp->VK->Prop) (te:TE) (tl th:TO):TE:=fun σ H Q=>te σ H fun x H1=>tl σ H1 fun l H2=>th σ H2 fun u H3=>r x l u H3 Q
theorem zez {r:V->Option Int->Option Int->Hp->VK->Prop} (hr:SlR X r) (he:PE X e te) (hl:PO X lo tl) (hu:PO X hi th):PE X (.Subscript e (.Slice lo hi none p2) pos) (tSl r te tl th):=by
 intro pins s σ H Q I h
 refine Subscript_ (thn (he pins s σ H _ I h) fun v s1 zz=>?_)
 obtain ⟨x,H1,I1,r1,q1⟩:=zz
 refine wpAny_Slice (thn (hl pins s1 σ H1 _ I1 q1) fun vl s2 zz=>L2.el5 zz fun l H2 I2 pl q2=>thn (hu pins s2 σ H2 _ I2 q2) fun vu s3 zz=>?_)
 obtain ⟨u,H3,I3,pu,q3⟩:=zz
 rw [evalPart_none]
 refine wpAny_pure ?_
 have I4:Inv X pins σ H3 { s3 with heap:=s3.heap.push { cls:=.type "slice",data:=.fields #[vl,vu,.none] } }:=I3.kept (t':=s3.toks) fun b ob q=>ZAe _ q
 obtain ⟨T,id,hT,ht,hg⟩:=hr pins { s3 with heap:=s3.heap.push { cls:=.type "slice",data:=.fields #[vl,vu,.none] } } σ H3 x v vl vu l u s3.heap.objs.size Q I4 r1 (Heap.IsSliceOf.new ..) pl pu q3
 show wpAny (model X.prog X.w) X.A (subscriptTail e (.Slice lo hi none p2) v (.ref s3.heap.objs.size)) (EP X pins σ Q) X.xe { s3 with heap:=s3.heap.push { cls:=.type "slice",data:=.fields #[vl,vu,.none] } }
 exact tail_any (ops:=[.ref s3.heap.objs.size,v]) ht hT hg (by with_unfolding_all rfl)
noncomputable def znv (xs:List V) (lo hi:Option Int):List V:=(xs.drop (HT.sIx xs.length 0 lo)).take (HT.sIx xs.length xs.length hi-HT.sIx xs.length 0 lo)
theorem zh8 (xs:List V) (lo hi:Option Int):(znv xs lo hi).length≤xs.length:=by
 unfold znv
 rw [ZA1,List.length_drop]
 omega
noncomputable def zzw (K:ZBq):V->Option Int->Option Int->Hp->VK->Prop:=fun x lo hi H Q=>∃a xs,x=.ref a∧SqT K H a xs∧
 ¬(HT.sIx xs.length 0 lo=0∧HT.sIx xs.length xs.length hi=xs.length)∧∀p,H p=none->Q (.ref p) (upd H p (.tup (znv xs lo hi)))
theorem zmt:SlR X (zzw X.K):=by
 intro pins s σ H x v vl vu lo hi sl Q I rx hs pl pu h
 obtain ⟨a,xs,rfl,hx,hw,q⟩:=h
 cases rx
 obtain ⟨its,r,ht,hz⟩:=I.tuple hx
 have hlen:its.toArray.size=xs.length:=by rw [ZAi];exact r.length.symm
 refine ⟨"tuple",_,PyProof.Rows.slot_tuple_getitem.lookup,ht.typeIs,?_⟩
 refine HT.getItem_tuple_cut ht hs pl pu (by rw [hlen];exact hw) ?_ (by rw [hlen];exact hz)
 rw [hlen]
 refine ⟨.ref s.heap.objs.size,_,I.laid (t':=s.toks) (o:=.tup (znv xs lo hi)) (fun b ob q=>ZAe _ q) (ZAc _) ?_,rfl,q _ (I.hok.fresh (ZAc _))⟩
 exact ⟨ZAw (zh8 xs lo hi) hz,_,(r.drop (HT.sIx xs.length 0 lo)).take (HT.sIx xs.length xs.length hi-HT.sIx xs.length 0 lo),IsTup.new _ _⟩
noncomputable def zvv (K:ZBq):R2:=fun x y H Q=>∃a b xs ys,x=.ref a∧y=.ref b∧SqT K H a xs∧SqT K H b ys∧xs≠[]∧xs.length+ys.length≤sizeLine∧
 (ys=[]->Q (.ref a) H)∧(ys≠[]->∀p,H p=none->Q (.ref p) (upd H p (.tup (xs++ys))))
theorem zcb.nil_iff {xs:List V} {us:List Value} (r:zcb xs us):us=[]↔xs=[]:=by
 cases r with
 | nil=>simp
 | cons _ _=>simp
theorem zpl:OpR X (binaryOp .Add) (zvv X.K):=by
 intro pins s σ H x y v u Q I rx ry h
 obtain ⟨a,b,xs,ys,rfl,rfl,ha,hb,hx,hz,q1,q2⟩:=h
 cases rx
 cases ry
 obtain ⟨its,r1,p1,_⟩:=I.tuple ha
 obtain ⟨its2,r2,p2,_⟩:=I.tuple hb
 refine HT.cat_tup p1 p2 (fun z=>hx (r1.nil_iff.mp z)) (fun z=>⟨.ref a,H,I,rfl,q1 (r2.nil_iff.mp z)⟩) (fun z=>?_) (by rw [←r1.length,←r2.length];exact hz)
 refine ⟨.ref s.heap.objs.size,_,I.laid (t':=s.toks) (o:=.tup (xs++ys)) (fun b ob q=>ZAe _ q) (ZAc _) ?_,rfl,q2 (fun w=>z (r2.nil_iff.mpr w)) _ (I.hok.fresh (ZAc _))⟩
 exact ⟨by rw [ZAj];exact hz,_,r1.append r2,IsTup.new _ _⟩
end
end L2
namespace L2
open PySem PySem.Spec PyProof.Rows
noncomputable def ixN (n:Nat) (i:Int):Option Nat:=if 0≤i then (if i<n then some i.toNat else none) else if-(n:Int)≤i then some (i+n).toNat else none
noncomputable def atI {α:Type} (xs:List α) (i:Int):Option α:=(ixN xs.length i).bind fun j=>xs[j]?
theorem zpv {n:Nat} {i:Int} {j:Nat} (h:ixN n i=some j):seqIndex? i n=some j∧j<n∧-(n:Int)≤i∧i<n:=by
 unfold ixN at h
 by_cases h0:0≤i
 ·rw [if_pos h0] at h
  by_cases h1:i<n
  ·rw [if_pos h1] at h
   have e:i.toNat=j:=ZAn h
   exact ⟨by rw [seqIndex_of h0 h1,e],by omega,by omega,h1⟩
  ·rw [if_neg h1] at h;cases h
 ·rw [if_neg h0] at h
  by_cases h1: -(n:Int)≤i
  ·rw [if_pos h1] at h
   have e:(i+n).toNat=j:=ZAn h
   exact ⟨by rw [seqIndex_neg (by omega) h1,e],by omega,h1,by omega⟩
  ·rw [if_neg h1] at h;cases h
theorem zqn {α:Type} {xs:List α} {i:Int} {v:α} (h:atI xs i=some v):∃j,seqIndex? i xs.length=some j∧xs[j]?=some v∧j<xs.length∧-(xs.length:Int)≤i∧i<xs.length:=by
 unfold atI at h
 cases e:ixN xs.length i with
 | none=>rw [e] at h;cases h
 | some j=>
  rw [e] at h
  obtain ⟨h1,h2,h3,h4⟩:=zpv e
  exact ⟨j,h1,h,h2,h3,h4⟩
theorem zby {α:Type} {xs:List α} {j:Nat} {v:α} (h:xs[j]?=some v):atI xs (j:Int)=some v:=by
 have hj:j<xs.length:=(ZAb.mp h).1
 have e:ixN xs.length (j:Int)=some j:=by
  unfold ixN
  rw [if_pos (by omega),if_pos (by omega)];simp
 unfold atI;rw [e];exact h
noncomputable def zuv (b:Expr):Prop:=∀o i,subscripted b false o i=operate [o,i] (getItem o i)
noncomputable def IxR (X:Cx) (r:R2):Prop:=
 ∀(value slice:Expr) (pins:List (Addr×Obj)) (s:Shared) (σ:St) (H:Hp) (x y:V) (v u:Value) (Q:VK),Inv X pins σ H s->zcm x v->zcm y u->r x y H Q->
  subscripted slice false v u=operate [v,u] (getItem v u)->wpAny (model X.prog X.w) X.A (subscriptTail value slice v u) (EP X pins σ Q) X.xe s
noncomputable def MtR (X:Cx) (id:String) (r:V->List V->Hp->VK->Prop):Prop:=
 ∀(pins:List (Addr×Obj)) (s:Shared) (σ:St) (H:Hp) (x:V) (xs:List V) (v:Value) (us:List Value) (Q:VK),Inv X pins σ H s->zcm x v->zcb xs us->r x xs H Q->
  wpAny (model X.prog X.w) X.A (call (.builtin id) (v::us)) (EP X pins σ Q) X.xe s
section
variable {X:Cx} {a b:Expr} {ta tb:TE} {pos:Pos}
theorem za9 {r:R2} (hr:IxR X r) (ha:PE X a ta) (hb:PE X b tb) (hs:zuv b):PE X (.Subscript a b pos) (tOp r ta tb):=by
 intro pins s σ H Q I h
 exact Subscript_ (zyj ha hb I h fun v u s2 x y H2 I2 rx ry q=>hr a b pins s2 σ H2 x y v u Q I2 rx ry q (hs _ _))
noncomputable def zz0 (K:ZBq):R2:=fun x y H Q=>∃p xs i v,x=.ref p∧y=.int i∧SqL K H p xs∧atI xs i=some v∧Q v H
noncomputable def zzz (K:ZBq):R2:=fun x y H Q=>∃p xs i v,x=.ref p∧y=.int i∧SqT K H p xs∧atI xs i=some v∧Q v H
theorem zpu:IxR X (zz0 X.K):=by
 intro value slice pins s σ H x y v u Q I rx ry h hs
 obtain ⟨p,xs,i,z,rfl,rfl,hq,he,q⟩:=h
 cases rx
 obtain ⟨t,rfl⟩:=ry
 obtain ⟨its,r,pl,hz⟩:=I.list hq
 obtain ⟨j,h1,h2,h3,h4,h5⟩:=zqn he
 obtain ⟨w,ew,rw'⟩:=r.get h2
 have hl:=r.length
 have hn:=zm3
 have fin:EP X pins σ Q w s:=⟨z,H,I,rw',q⟩
 by_cases h0:0≤i
 ·have hj:i.toNat=j:=by
   rw [seqIndex_of h0 h5] at h1
   exact ZAn h1
  exact item_listR pl.isList h0 (by omega) (by rw [hj];simpa using ew) fin hs
 ·have hj:(i+(its.toArray.size:Int)).toNat=j:=by
   rw [seqIndex_neg (by omega) h4] at h1
   rw [ZAi,←hl]
   exact ZAn h1
  exact subscriptTail_builtinR (x:=w) pl.isList.typeIs slot_list_getitem.lookup
   (wpAny_getItem_list_neg (Q:=fun r s'=>r=w∧EP X pins σ Q r s') pl.isList (by omega) (by rw [ZAi]<;>omega) (by omega) (by rw [hj];simpa using ew) ⟨rfl,fin⟩) hs
theorem zwf:IxR X (zzz X.K):=by
 intro value slice pins s σ H x y v u Q I rx ry h hs
 obtain ⟨p,xs,i,z,rfl,rfl,hq,he,q⟩:=h
 cases rx
 obtain ⟨t,rfl⟩:=ry
 obtain ⟨its,r,pl,hz⟩:=I.tuple hq
 obtain ⟨j,h1,h2,h3,h4,h5⟩:=zqn he
 obtain ⟨w,ew,rw'⟩:=r.get h2
 have hl:=r.length
 have hn:=zm3
 have fin:EP X pins σ Q w s:=⟨z,H,I,rw',q⟩
 exact subscriptTail_builtinR (x:=w) pl.typeIs slot_tuple_getitem.lookup
  (getItem_tuple (j:=j) (Q:=fun r s'=>r=w∧EP X pins σ Q r s') pl (by omega) (by omega) (by rw [ZAi,←hl];exact h1) (by simpa using ew) ⟨rfl,fin⟩) hs
theorem znm (its:List Value) (n j:Nat) (u:Value):Obj.mapSeq (·.setIfInBounds j u) { cls:=.type "list",data:=.seq its.toArray n }={ cls:=.type "list",data:=.seq (its.set j u).toArray n }:=by
 simp [Obj.mapSeq]
theorem Inv.lst {pins:List (Addr×Obj)} {σ:St} {H:Hp} {s:Shared} {p:Addr} {xs:List V} (I:Inv X pins σ H s) (h:H p=some (.lst xs)):
 ∃(its:List Value) (n:Nat),zcb xs its∧s.heap.get? p=some { cls:=.type "list",data:=.seq its.toArray n }∧xs.length≤sizeLine:=by
 obtain ⟨z,its,n,r,e⟩:=I.hok p _ h
 exact ⟨its,n,r,e,z⟩
theorem Inv.lstUpd {pins:List (Addr×Obj)} {σ:St} {H:Hp} {s:Shared} {p:Addr} {xs ys:List V} {its its':List Value} {n n':Nat} {f:Obj->Obj} (I:Inv X pins σ H s) (h:H p=some (.lst xs))
 (ho:s.heap.get? p=some { cls:=.type "list",data:=.seq its.toArray n }) (hf:f { cls:=.type "list",data:=.seq its.toArray n }={ cls:=.type "list",data:=.seq its'.toArray n' }) (r:zcb ys its') (hz:ys.length≤sizeLine) (t:Nat):
 Inv X pins σ (upd H p (.lst ys)) { s with heap:=s.heap.update p f,toks:=t }:=by
 have e:(s.heap.update p f).get? p=some { cls:=.type "list",data:=.seq its'.toArray n' }:=by
  rw [Heap.get?_update_self f ho (by rw [hf]<;>rfl),hf]
 refine I.write (x:=p) (e:=p) (by rw [h];trivial) (.inl rfl) (fun b u hb q=>(Heap.get?_update_other _ _ (Ne.symm hb)).trans q) ⟨_,e⟩ ?_
 exact ⟨hz,its',n',r,e⟩
noncomputable def zxr:V->V->V->Hp->(Hp->Prop)->Prop:=fun o i v H Q=>∃p xs k j,o=.ref p∧i=.int k∧H p=some (.lst xs)∧ixN xs.length k=some j∧Q (upd H p (.lst (xs.set j v)))
theorem zq2:zy8 X zxr:=by
 intro pins s σ H o i v ov iv u Q I ro ri rv h
 obtain ⟨p,xs,k,j,rfl,rfl,hp,hj,q⟩:=h
 cases ro
 obtain ⟨t,rfl⟩:=ri
 obtain ⟨its,n,r,ho,hz⟩:=I.lst hp
 obtain ⟨h1,h2,h3,h4⟩:=zpv hj
 have hl:=r.length
 have hn:=zm3
 have I':Inv X pins σ (upd H p (.lst (xs.set j v))) { s with heap:=s.heap.update p (Obj.mapSeq (·.setIfInBounds j u)) }:=
  I.lstUpd hp ho (znm its n j u) (r.set rv j) (by rw [List.length_set];exact hz) s.toks
 by_cases h0:0≤k
 ·have hk:k.toNat=j:=by
   rw [seqIndex_of h0 h4] at h1
   exact ZAn h1
  exact PySem.W.ki_setAt ho h0 (by omega) (by rw [ZAi,←hl];exact h4) (by rw [hk];exact ⟨_,I',q⟩)
 ·have hk:(k+(its.toArray.size:Int)).toNat=j:=by
   rw [seqIndex_neg (by omega) h3] at h1
   rw [ZAi,←hl]
   exact ZAn h1
  exact PySem.W.ki_setBack ho (by omega) (by rw [ZAi,←hl];exact h3) (by omega) (by rw [hk];exact ⟨_,I',q⟩)
theorem zko (lo hi:Option Int) (n:Nat):(sliceBounds lo hi none n).1=((HT.sIx n 0 lo:Nat):Int)∧(sliceBounds lo hi none n).2.1=((HT.sIx n n hi:Nat):Int)∧(sliceBounds lo hi none n).2.2=1:=by
 refine ⟨?_,?_,rfl⟩
 ·cases lo with
  | none=>simp [sliceBounds,HT.sIx]
  | some i=>
   simp only [sliceBounds,HT.sIx,Option.getD_none,show (1:Int)>0 by decide,if_true]
   by_cases h:i<0
   ·simp only [h,if_true]<;>omega
   ·simp only [h,if_false]<;>omega
 ·cases hi with
  | none=>simp [sliceBounds,HT.sIx]
  | some i=>
   simp only [sliceBounds,HT.sIx,Option.getD_none,show (1:Int)>0 by decide,if_true]
   by_cases h:i<0
   ·simp only [h,if_true]<;>omega
   ·simp only [h,if_false]<;>omega
theorem zje (its:List Value) (lo hi:Option Int):slicePick its.toArray lo hi none=((its.drop (HT.sIx its.length 0 lo)).take (HT.sIx its.length its.length hi-HT.sIx its.length 0 lo)).toArray:=by
 obtain ⟨h1,h2,h3⟩:=zko lo hi its.toArray.size
 unfold slicePick
 rw [h1,h2,h3]
 simp only [sliceRange_one,pick_run,ZAi]<;>rfl
noncomputable def zzx (K:ZBq):V->Option Int->Option Int->Hp->VK->Prop:=fun x lo hi H Q=>∃a xs,x=.ref a∧SqL K H a xs∧∀p,H p=none->Q (.ref p) (upd H p (.lst (znv xs lo hi)))
theorem ztw:SlR X (zzx X.K):=by
 intro pins s σ H x v vl vu lo hi sl Q I rx hs pl pu h
 obtain ⟨a,xs,rfl,hx,q⟩:=h
 cases rx
 obtain ⟨its,r,ht,hz⟩:=I.list hx
 have hlen:=r.length
 refine ⟨"list",_,slot_list_getitem.lookup,ht.isList.typeIs,?_⟩
 refine wpAny_getItem_list_slice ht.isList hs pl pu .none (by simp) ?_ (by rw [ZAi]<;>omega)
 rw [zje,←hlen]
 refine ⟨.ref s.heap.objs.size,_,I.laid (t':=s.toks) (o:=.lst (znv xs lo hi)) (fun b ob q=>ZAe _ q) (ZAc _) ?_,rfl,q _ (I.hok.fresh (ZAc _))⟩
 exact ⟨ZAw (zh8 xs lo hi) hz,_,0,(r.drop (HT.sIx xs.length 0 lo)).take (HT.sIx xs.length xs.length hi-HT.sIx xs.length 0 lo),ZAx _ rfl⟩
noncomputable def zc0:V->Bool
 | .non=>true
 | .bl _=>true
 | .int _=>true
 | .str _=>true
 | _=>false
noncomputable def eqV:V->V->Bool
 | .non,.non=>true
 | .bl a,.bl b=>a==b
 | .bl a,.int b=>(if a then 1 else 0)==b
 | .int a,.bl b=>a==(if b then 1 else 0)
 | .int a,.int b=>a==b
 | .str a,.str b=>a==b
 | _,_=>false
theorem zs7 {A:Around} {s:Shared} {y x:V} {u v:Value} (ry:zcm y u) (rx:zcm x v) (fy:zc0 y=true) (fx:zc0 x=true):SeqAt.EqAt A s u v (eqV y x):=by
 cases y with
 | non=>
  cases ry
  cases x with
  | non=>cases rx;exact SeqAt.EqAt.same _
  | bl b=>cases rx;exact SeqAt.EqAt.none_bool b
  | int b=>obtain ⟨t,rfl⟩:=rx;exact SeqAt.EqAt.none_int b t
  | str b=>obtain ⟨t,rfl⟩:=rx;exact SeqAt.EqAt.none_str b t
  | _=>exact absurd (show false=true from fx) ZAm
 | bl a=>
  cases ry
  cases x with
  | non=>cases rx;exact SeqAt.EqAt.bool_none a
  | bl b=>cases rx;exact SeqAt.EqAt.bool_bool a b
  | int b=>obtain ⟨t,rfl⟩:=rx;exact SeqAt.EqAt.bool_int a b t
  | str b=>obtain ⟨t,rfl⟩:=rx;exact SeqAt.EqAt.bool_str a b t
  | _=>exact absurd (show false=true from fx) ZAm
 | int a=>
  obtain ⟨t',rfl⟩:=ry
  cases x with
  | non=>cases rx;exact SeqAt.EqAt.int_none a t'
  | bl b=>cases rx;exact SeqAt.EqAt.int_bool a t' b
  | int b=>obtain ⟨t,rfl⟩:=rx;exact SeqAt.EqAt.int_int a t' b t
  | str b=>obtain ⟨t,rfl⟩:=rx;exact SeqAt.EqAt.int_str a t' b t
  | _=>exact absurd (show false=true from fx) ZAm
 | str a=>
  obtain ⟨t',rfl⟩:=ry
  cases x with
  | non=>cases rx;exact SeqAt.EqAt.str_none a t'
  | bl b=>cases rx;exact SeqAt.EqAt.str_bool a t' b
  | int b=>obtain ⟨t,rfl⟩:=rx;exact SeqAt.EqAt.str_int a t' b t
  | str b=>obtain ⟨t,rfl⟩:=rx;exact SeqAt.EqAt.str_str a t' b t
  | _=>exact absurd (show false=true from fx) ZAm
 | _=>exact absurd (show false=true from fy) ZAm
noncomputable def eqU (x:V) (u:Value):Bool:=match u with
 | .none=>eqV .non x
 | .bool b=>eqV (.bl b) x
 | .int i _=>eqV (.int i) x
 | .str z _=>eqV (.str z) x
 | _=>false
theorem zs6 {x y:V} {u:Value} (r:zcm y u) (f:zc0 y=true):eqU x u=eqV y x:=by
 cases y with
 | non=>cases r;rfl
 | bl b=>cases r;rfl
 | int i=>obtain ⟨t,rfl⟩:=r;rfl
 | str z=>obtain ⟨t,rfl⟩:=r;rfl
 | _=>exact absurd (show false=true from f) ZAm
theorem zj4 {x:V} {xs:List V} {us:List Value} (h:zcb xs us) (f:xs.all zc0=true):us.any (eqU x)=xs.any fun y=>eqV y x:=by
 induction h with
 | nil=>rfl
 | cons r t ih=>
  rw [List.all_cons,Bool.and_eq_true] at f
  rw [List.any_cons,List.any_cons,zs6 r f.1,ih f.2]
theorem zhf {A:Around} {s:Shared} {x:V} {v:Value} (rx:zcm x v) (fx:zc0 x=true) {xs:List V} {us:List Value} (h:zcb xs us) (f:xs.all zc0=true):∀u∈us,SeqAt.EqAt A s u v (eqU x u):=by
 induction h with
 | nil=>intro u hu;cases hu
 | cons r t ih=>
  intro u' hu
  rw [List.all_cons,Bool.and_eq_true] at f
  rcases ZAu.mp hu with rfl | hu
  ·rw [zs6 r f.1];exact zs7 r rx f.1 fx
  ·exact ih f.2 u' hu
noncomputable def inV (x:V) (xs:List V):Bool:=xs.any fun y=>eqV y x
noncomputable def rIn (K:ZBq) (neg:Bool):R2:=fun x y H Q=>∃p xs,y=.ref p∧(SqL K H p xs∨SqT K H p xs)∧zc0 x=true∧xs.all zc0=true∧Q (.bl (if neg then !inV x xs else inV x xs)) H
theorem zkz:OpR X (compareOp .In) (rIn X.K false):=by
 intro pins s σ H x y v u Q I rx ry h
 obtain ⟨p,xs,rfl,hq,fx,fs,q⟩:=h
 cases ry
 rcases hq with hq | hq
 ·obtain ⟨its,r,pl,hz⟩:=I.list hq
  refine SeqAt.in_listAt (eqU x) pl.isList (fun w hw=>zhf rx fx r fs w (by simpa using hw)) ⟨.bl _,H,I,rfl,?_⟩
  rw [show its.toArray.any (eqU x)=its.any (eqU x) by simp,zj4 r fs]
  exact q
 ·obtain ⟨its,r,pl,hz⟩:=I.tuple hq
  refine SeqAt.in_tupleAt (eqU x) pl (fun w hw=>zhf rx fx r fs w (by simpa using hw)) ⟨.bl _,H,I,rfl,?_⟩
  rw [show its.toArray.any (eqU x)=its.any (eqU x) by simp,zj4 r fs]
  exact q
theorem zkx:OpR X (compareOp .NotIn) (rIn X.K true):=by
 intro pins s σ H x y v u Q I rx ry h
 obtain ⟨p,xs,rfl,hq,fx,fs,q⟩:=h
 cases ry
 rcases hq with hq | hq
 ·obtain ⟨its,r,pl,hz⟩:=I.list hq
  refine SeqAt.notIn_listAt (eqU x) pl.isList (fun w hw=>zhf rx fx r fs w (by simpa using hw)) ⟨.bl _,H,I,rfl,?_⟩
  rw [show its.toArray.any (eqU x)=its.any (eqU x) by simp,zj4 r fs]
  exact q
 ·obtain ⟨its,r,pl,hz⟩:=I.tuple hq
  refine SeqAt.notIn_tupleAt (eqU x) pl (fun w hw=>zhf rx fx r fs w (by simpa using hw)) ⟨.bl _,H,I,rfl,?_⟩
  rw [show its.toArray.any (eqU x)=its.any (eqU x) by simp,zj4 r fs]
  exact q
theorem za5:zig X (.builtin "len") (fun xs H Q=>∃p ys,xs=[.ref p]∧(SqL X.K H p ys∨SqT X.K H p ys)∧Q (.int ys.length) H):=by
 intro pins s σ H xs us Q I r h
 obtain ⟨p,ys,rfl,hq,q⟩:=h
 obtain ⟨u,rfl,rx⟩:=znf r
 cases rx
 have hn:=zm3
 rcases hq with hq | hq
 ·obtain ⟨its,r',pl,hz⟩:=I.list hq
  have hlen:=r'.length
  exact Calls.call_len_list pl.isList (by simp only [ZAi]<;>omega) ⟨.int ys.length,H,I.tok _,⟨s.toks+1,by rw [ZAi,hlen]⟩,q⟩
 ·obtain ⟨its,r',pl,hz⟩:=I.tuple hq
  have hlen:=r'.length
  exact len_tuple pl (by simp only [ZAi]<;>omega) ⟨.int ys.length,H,I.tok _,⟨s.toks+1,by rw [ZAi,hlen]⟩,q⟩
theorem zdr:zig X (.type "list") (fun xs H Q=>∃p ys,xs=[.ref p]∧(SqL X.K H p ys∨SqT X.K H p ys)∧∀l,H l=none->Q (.ref l) (upd H l (.lst ys))):=by
 intro pins s σ H xs us Q I r h
 obtain ⟨p,ys,rfl,hq,q⟩:=h
 obtain ⟨u,rfl,rx⟩:=znf r
 cases rx
 have fin:∀(its:List Value),zcb ys its->ys.length≤sizeLine->∀(h':Heap) (c':Nat),(∀b o',s.heap.get? b=some o'->h'.get? b=some o')->
  h'.get? s.heap.objs.size=some { cls:=.type "list",dict:=none,data:=.seq its.toArray c',slots:= #[] }->EP X pins σ Q (.ref s.heap.objs.size) { s with heap:=h' }:=fun its r' hz h' c' kp e=>
  ⟨.ref s.heap.objs.size,_,I.laid (t':=s.toks) kp (ZAc _) (show zcd X.prog X.w _ h' _ (.lst ys) from ⟨hz,its,c',r',e⟩),rfl,q _ (I.hok.fresh (ZAc _))⟩
 rcases hq with hq | hq
 ·obtain ⟨its,r',pl,hz⟩:=I.list hq
  have hlen:=r'.length
  obtain ⟨o,ho,hc,n,hd⟩:=pl.isList
  exact call_list_seq p (.inl rfl) ho hc hd (fun h' c' kp e=>fin its r' hz h' c' kp e) (by simp only [ZAi]<;>omega)
 ·obtain ⟨its,r',pl,hz⟩:=I.tuple hq
  have hlen:=r'.length
  obtain ⟨o,ho,hc,n,hd⟩:=pl
  exact call_list_seq p (.inr rfl) ho hc hd (fun h' c' kp e=>fin its r' hz h' c' kp e) (by simp only [ZAi]<;>omega)
theorem zgm:zig X (.type "tuple") (fun xs H Q=>∃p ys,xs=[.ref p]∧((SqL X.K H p ys∧∀l,H l=none->Q (.ref l) (upd H l (.tup ys)))∨(SqT X.K H p ys∧Q (.ref p) H))):=by
 intro pins s σ H xs us Q I r h
 obtain ⟨p,ys,rfl,h⟩:=h
 obtain ⟨u,rfl,rx⟩:=znf r
 cases rx
 rcases h with ⟨hq,q⟩ | ⟨hq,q⟩
 ·obtain ⟨its,r',pl,hz⟩:=I.list hq
  have hlen:=r'.length
  refine call_tuple_list pl.isList (fun h' kp=>?_) (by simp only [ZAi]<;>omega)
  have I1:Inv X pins σ H { s with heap:=h' }:=I.kept (t':=s.toks) kp
  have I2:Inv X pins σ (upd H h'.objs.size (.tup ys)) { s with heap:=h'.push { cls:=.type "tuple",data:=.seq its.toArray } }:=
   I1.laid (t':=s.toks) (fun b o e=>ZAe _ e) (ZAc _) (show zcd X.prog X.w _ _ _ (.tup ys) from ⟨hz,its,r',IsTup.new _ _⟩)
  exact ⟨.ref h'.objs.size,_,I2,rfl,q _ (I1.hok.fresh (ZAc _))⟩
 ·obtain ⟨its,r',pl,hz⟩:=I.tuple hq
  exact call_tuple_same pl ⟨.ref p,H,I,rfl,q⟩
noncomputable def tyV (K:ZBq) (T:String) (x:V) (H:Hp):Prop:=match x with
 | .str _=>T="str"
 | .int _=>T="int"
 | .ref p=>(T="list"∧∃xs,SqL K H p xs)∨(T="tuple"∧∃o,K.lookup p=some o∧o.cls=.type "tuple"∧o.dict=none)∨
  (T="dict"∧((∃kvs,H p=some (.dK kvs))∨∃kvs,H p=some (.dT kvs)))∨(T="set"∧∃S n,H p=some (.set S n))
 | _=>False
theorem zva {pins:List (Addr×Obj)} {σ:St} {H:Hp} {s:Shared} {T:String} {x:V} {v:Value} (I:Inv X pins σ H s) (r:zcm x v) (ty:tyV X.K T x H):
 s.TypeIs v T∧∀a,v=.ref a->∃ob,s.heap.get? a=some ob∧ob.dict=none:=by
 cases x with
 | str z=>
  obtain ⟨t,rfl⟩:=r
  cases (show T="str" from ty)
  exact ⟨typeIs_str s z t,fun _ e=>nomatch e⟩
 | int i=>
  obtain ⟨t,rfl⟩:=r
  cases (show T="int" from ty)
  exact ⟨typeIs_int s i t,fun _ e=>nomatch e⟩
 | ref p=>
  cases r
  rcases ty with ⟨rfl,xs,hq⟩ | ⟨rfl,o,hk,hc,hd⟩ | ⟨rfl,hk⟩ | ⟨rfl,S,n,hk⟩
  ·obtain ⟨its,_,pl,_⟩:=I.list hq
   refine ⟨pl.isList.typeIs,fun a e=>?_⟩
   cases e
   obtain ⟨o,n,e,c,hd,_⟩:=pl
   exact ⟨o,e,hd⟩
  ·refine ⟨⟨o,I.kIn p o hk,hc⟩,fun a e=>?_⟩
   cases e
   exact ⟨o,I.kIn _ o hk,hd⟩
  ·have z:∃o,s.heap.get? p=some o∧o.ExactDict:=by
    rcases hk with ⟨kvs,hk⟩ | ⟨kvs,hk⟩
    ·obtain ⟨_,_,_,_,o,_,_,e,ex,_⟩:=I.hok p _ hk
     exact ⟨o,e,ex⟩
    ·obtain ⟨_,_,_,_,o,_,_,e,ex,_⟩:=I.hok p _ hk
     exact ⟨o,e,ex⟩
   obtain ⟨o,e,ex⟩:=z
   refine ⟨⟨o,e,ex.1⟩,fun a e2=>?_⟩
   cases e2
   exact ⟨o,e,ex.2.1⟩
  ·obtain ⟨o,_,_,_,e,ex,_⟩:=I.hok p _ hk
   refine ⟨⟨o,e,ex.1⟩,fun a e2=>?_⟩
   cases e2
   exact ⟨o,e,ex.2.1⟩
 | _=>exact False.elim ty
noncomputable def tBM (K:ZBq) (T:String) (r:V->List V->Hp->VK->Prop) (to:TE) (t:TA):TE:=fun σ H Q=>to σ H fun x H1=>tyV K T x H1∧t σ H1 fun xs H2=>r x xs H2 Q
variable {o e:Expr} {es:List Expr} {to:TE} {t:TA} {name:Str} {apos cpos:Pos} {T id:String} {r:V->List V->Hp->VK->Prop}
theorem zjp (pa:PlainAttrs T) (slot:Slot T name id) (hty:typeOf (.builtin id)=pure (.type "method_descriptor")) (hm:MtR X id r) (ho:PE X o to) (ha:PA X (e::es) t)
 (hbase:attributeBase o name X.env (eval o X.env)=eval o X.env:=by rfl)
 (hfew:((backTo cpos (starEach (e::es) X.env)).all (fun x=> !x.1) && (backToKw cpos (keywordEach [] X.env)).all (fun x=>x.1.isSome)
  && decide ((e::es).length+([]:List Keyword).length+(if ([]:List Keyword).isEmpty then 0 else 1)<30))=true:=by rfl)
 (hline:(apos.endLine==cpos.line)=true:=by rfl) (hs:starEach (e::es) X.env=(false,eval e X.env)::starEach es X.env:=by rfl) (hplain:(backTo cpos (starEach es X.env)).any (·.1)=false:=by rfl):
 PE X (.Call (.Attribute o name apos) (e::es) [] cpos) (tBM X.K T r to t):=by
 intro pins s σ H Q I h
 refine wpAny_Call_method_late hbase hfew hline rfl (thn (ho pins s σ H _ I h) fun v s1 zz=>?_)
 obtain ⟨x,H1,I1,r1,ty,q1⟩:=zz
 obtain ⟨h1,h2⟩:=zva I1 r1 ty
 refine ⟨T,id,pa,slot,hty,h1,h2,?_⟩
 have hA:=ha cpos pins s1 σ H1 _ I1 q1
 rw [hs] at hA ⊢
 refine Calls.callWith_builtin (by show (false || (backTo cpos (starEach es X.env)).any (·.1))=false;rw [hplain]<;>rfl) (Calls.evalArgs_plain ?_)
 exact thn hA fun us s2 zz=>L2.el5 zz fun vs H2 I2 r2 q2=>hm pins s2 σ H2 x vs v us Q I2 r1 r2 q2
/-xs.append(e),list.index on a module's tuple .. are MtR facts of 06m-/
end
end L2
namespace L2
open PySem PySem.Spec PyProof.Rows
noncomputable def MtM (X:Cx) (id:String) (r:V->List V->Hp->VK->Prop):Prop:=
 ∀(pins:List (Addr×Obj)) (s:Shared) (σ:St) (H:Hp) (x:V) (xs:List V) (v:Value) (us:List Value) (Q:VK),Inv X pins σ H s->zcm x v->zcb xs us->r x xs H Q->
  wpAny (model X.prog X.w) X.A (call (.builtin id) (v::us)) (EP X pins σ Q) X.xe s
theorem zcb.one {x:V} {us:List Value} (h:zcb [x] us):∃u,us=[u]∧zcm x u:=by
 cases h with
 | cons r t=>
  cases t
  exact ⟨_,rfl,r⟩
section
variable {X:Cx} {pins:List (Addr×Obj)} {σ:St} {H:Hp} {s:Shared} {l b:Addr} {xs ys zs:List V}
theorem Inv.lset {its its':List Value} {n:Nat} {f:Array Value->Array Value} {t':Nat} (I:Inv X pins σ H s) (hH:H l=some (.lst xs))
 (e:s.heap.get? l=some { cls:=.type "list",data:=.seq its.toArray n }) (hf:f its.toArray=its'.toArray) (hv:zcb ys its') (hz:ys.length≤sizeLine):
 Inv X pins σ (upd H l (.lst ys)) { s with heap:=s.heap.update l (Obj.mapSeq f),toks:=t' }:=by
 have q:=PySem.IsL.update e f
 rw [hf] at q
 refine I.write (x:=l) (e:=l) (by rw [hH];exact trivial) (.inl rfl) (fun b' u hb hu=>(Heap.get?_update_other s.heap (Obj.mapSeq f) (Ne.symm hb)).trans hu) ⟨_,q⟩ ?_
 exact ⟨hz,its',_,hv,q⟩
theorem Inv.lnew {its:List Value} {t':Nat} (I:Inv X pins σ H s) (hv:zcb ys its) (hz:ys.length≤sizeLine):
 Inv X pins σ (upd H s.heap.objs.size (.lst ys)) { s with heap:=s.heap.push { cls:=.type "list",data:=.seq its.toArray },toks:=t' }:=
 I.laid (fun _ _ q=>ZAe _ q) (ZAc _) ⟨hz,its,0,hv,ZAx _ rfl⟩
theorem Inv.fresh (I:Inv X pins σ H s):H s.heap.objs.size=none:=I.hok.fresh (ZAc _)
theorem Inv.lstM (I:Inv X pins σ H s) (hH:H l=some (.lst xs)):xs.length≤sizeLine∧∃(its:List Value) (n:Nat),zcb xs its∧xs.length=its.length∧s.heap.get? l=some { cls:=.type "list",data:=.seq its.toArray n }:=by
 obtain ⟨z,its,n,r,e⟩:=I.hok l _ hH
 exact ⟨z,its,n,r,r.length,e⟩
end
section
variable {X:Cx}
noncomputable def zt4:V->List V->Hp->VK->Prop:=fun x vs H Q=>∃l xs y,x=.ref l∧vs=[y]∧H l=some (.lst xs)∧xs.length<sizeLine∧Q .non (upd H l (.lst (xs++[y])))
theorem zcs:MtM X "list.append" zt4:=by
 intro pins s σ H x vs v us Q I rx rv h
 obtain ⟨l,xs,y,rfl,rfl,hH,hz,q⟩:=h
 cases rx
 obtain ⟨u,rfl,ru⟩:=rv.one
 obtain ⟨z,its,n,r,hl,e⟩:=I.lstM hH
 refine call_meets F.slot_list_append ⟨_,e,rfl⟩ F.entry_list_append (F.args_list_append_2 _ _) (PySem.list_append l its.toArray n u (by rw [ZAi];omega)) ⟨e,?_⟩
 refine ⟨.non,_,I.lset (its':=its++[u]) hH e (by simp) (r.append (.cons ru .nil)) ?_,rfl,q⟩
 rw [ZAj,List.length_singleton]
 omega
noncomputable def zz3:R2:=fun x y H Q=>∃l b xs zs,x=.ref l∧y=.ref b∧H l=some (.lst xs)∧H b=some (.lst zs)∧xs.length+zs.length≤sizeLine∧∀p,H p=none->Q (.ref p) (upd H p (.lst (xs++zs)))
theorem zhy:OpR X (binaryOp .Add) zz3:=by
 intro pins s σ H x y v u Q I rx ry h
 obtain ⟨l,b,xs,zs,rfl,rfl,hH,hB,hz,q⟩:=h
 cases rx
 cases ry
 obtain ⟨z,its,n,r,hl,e⟩:=I.lstM hH
 obtain ⟨z2,its2,n2,r2,hl2,e2⟩:=I.lstM hB
 refine PySem.P.add_list e e2 ?_ (by rw [ZAi,ZAi];omega)
 have ea:its.toArray++its2.toArray=(its++its2).toArray:=by simp
 rw [ea]
 exact ⟨.ref _,_,I.lnew (t':=s.toks) (r.append r2) (by rw [ZAj];omega),rfl,q _ I.fresh⟩
end
section
variable {prog:Program} {w:World} {A:Around} {E:Value->Shared->Prop} {s:Shared}
set_option maxRecDepth 100000 in
end
section
variable {X:Cx}
end
end L2
namespace Att
open PySem PySem.W PySem.Calls PyProof.Rows
theorem zh4 {P:Params} {h:Heap}:∀(ns:List Int) (vs:List Value),WellAll P h vs (ns.map WData.int)->IntsAre vs ns:=by
 intro ns
 induction ns with
 | nil=>
  intro vs w
  rw [List.map_nil] at w
  cases w
  exact .nil
 | cons n ns ih=>
  intro vs w
  rw [ZAv] at w
  cases w with
  | cons a b=>
   cases a
   exact .cons _ _ (ih _ b)
theorem zo0 {l:OpenLaw} {n:Nat} (hn:l.most=some n) {P:Params} {h:Heap} {args:List WData} {vals:List Value}
 (hpre:l.row.toRowW.claim.pre args=true) (hwl:WellAll P h vals args):
 ∃a vs ns,vals=[Value.ref a]∧args=[WData.list (ns.map WData.int)]∧h.get? a=some { cls:=.type "list",data:=.seq vs.toArray }∧IntsAre vs ns∧ns.length≤n:=by
 have hsh:WShape.hasAll [] args [.list .int]=true:=(pre_splitW hpre).1
 have hc:l.pre.holds [] { args:=args }=true:=(pre_splitW hpre).2
 obtain ⟨d,r,rfl,h1,h2⟩:=hasAllW_cons hsh
 obtain rfl:=hasAllW_nil h2
 obtain ⟨xs,rfl,h3⟩:=hasW_list h1
 obtain ⟨ns,rfl⟩:=items_int h3
 have hlen:ns.length≤n:=by
  unfold OpenLaw.pre at hc
  have h4:(WTm.not (.lt (.lit (.int (n:Int))) (.len (.arg 0)))).holds [] { args:=[.list (ns.map .int)] }=true:=by
   have h4:=(holds_andW hc).1
   rw [hn] at h4
   exact h4
  have h5:=condW_of h4 (w_not (w_lt w_lit (w_len_list (w_arg rfl))))
  rw [ZAa] at h5
  refine Nat.le_of_not_lt fun q=>?_
  have q':(n:Int)<((ns.length:Nat):Int):=by omega
  first
   | (rw [ZBo q'] at h5;exact absurd h5 (by decide))
   | (simp at h5;omega)
 cases hwl with
 | cons w1 w2=>
  cases w2
  cases w1 with
  | list ho hall=>exact ⟨_,_,ns,rfl,rfl,ho,zh4 ns _ hall,hlen⟩
theorem zpa (l:OpenLaw) (args:List WData):l.row.toRowW.claim.post args (.bool true) args=true:=
 postW_of (r:=l.row.toRowW) (X:=(true==true))
  (show WShape.has [] (.bool true) .bool=true by first | rfl | decide | simp [WShape.has,WShape.arms,WShape.armsAll])
  (show (WTm.eq .res (.lit (.bool true))).value [] { args:=args,res:=some (.bool true),after:=args }=some (.bool (true==true)) from w_eq_bool (w_res rfl) w_lit) rfl
theorem attach_call {l:OpenLaw} {n:Nat} {q:Program} {loose:List Str} {XP:(Str->Option Value)->Heap->Prop} {YP:World->Heap->Prop} {d:DefRec}
 (hn:l.most=some n) (hdf:d.params.defaults=[])
 (call:∀(w:World) (s₀ s₁:Shared) (mg mb:Str->Option Value) (fa:Addr) (o:Obj) (pm cd doc:Value) (a:Addr) (vs:List Value) (ns:List Int),
  Ground q loose [] XP w s₀ mg mb s₁.heap->YP w s₁.heap->
  s₁.heap.get? fa=some o->o.data=.func (docDef d.name d.params d.body d.scope pm cd doc)->s₁.heap.CodeRec cd d.name->mg d.name=some (.ref fa)->
  s₁.heap.get? a=some { cls:=.type "list",data:=.seq vs.toArray }->IntsAre vs ns->ns.length≤n->s₁.gens= #[]->
  codeAny (model l.prog w) callerA (.call (.ref fa) ⟨[.ref a],[]⟩) (fun r s'=>r=.ok (.ret (.bool true))∧OldK s₁.heap s'.heap∧s'.os=s₁.os∧AllBare s'.gens) s₁):
 WalkO q loose XP YP l.row.toRowW d [] (fun f vs=>PySem.call f vs):=by
 intro w s₀ s₁ mg mb G Y fa o pm cd doc dV kV ho hd hcd hD hmg hg args vals as hpre hlay hrd hwl hlo
 obtain rfl:dV=.none:=Dflts.none hD hdf
 obtain rfl:kV=.none:=Dflts.noKw hD
 obtain ⟨a,vs,ns,rfl,rfl,hobj,hints,hlen⟩:=zo0 hn hpre hwl
 refine enter_call (codeAny_mono (call w s₀ s₁ mg mb fa o pm cd doc a vs ns G Y ho (fd_plain hd) hcd hmg hobj hints hlen hg) fun r s' hq=>?_)
 obtain ⟨rfl,h2,h3,h4⟩:=hq
 exact ⟨.inl ⟨.bool true,.bool true,[],rfl,fun _=>rfl,.bool true,zpa l _,fun _=>⟨List.Pairwise.nil,fun _ hm=>(nomatch hm)⟩⟩,h2,h3,h4⟩
section
variable {prog:Program} {w:World} {A:Around} {E:Value->Shared->Prop} {s:Shared} {K:Frag}
end
end Att
namespace L2
open PySem PySem.Spec PyProof.Rows
theorem zke:∀{vs:List Value} {ns:List Int},IntsAre vs ns->zcb (ns.map V.int) vs
 | _,_,.nil=>.nil
 | _,_,.cons n t h=>.cons ⟨t,rfl⟩ (zke h)
noncomputable def zwp (H:Hp):Prop:=∀b,H b=none∨∃o xs,H b=some (.frz o (.lst xs))
theorem zro {P:Program} {w:World} {K:ZBq} {mg mb:Str->Option Value} {CX:CXT} {k:Nat} {fa a:Addr} {fd:FuncData} {x:Str} {sp:Sp} {s₁:Shared} {vs:List Value} {ns:List Int}
 (KX:K.In s₁.heap) (hns:s₁.heap.Ns mainGlobals mg) (hb:s₁.heap.Ns builtinsNs mb) (hbb:∀x:Str,x≠"__name__"->mb x=bootBuiltins x) (hlim:s₁.heap.NoLimit) (hg:s₁.gens= #[])
 (ha:s₁.heap.get? a=some { cls:=.type "list",data:=.seq vs.toArray }) (hi:IntsAre vs ns) (hl:ns.length≤sizeLine) (hr:zek k callerA)
 (F:∀base:Heap,K.In base->base.Ns mainGlobals mg->zbj P w K mg base CX k fa fd [x] sp) (hbind:∀(s:Shared) (u:Value),BindsTo s fd ⟨[u],[]⟩ [(x,u)])
 (hsp:∀H:Hp,zwp H->SqL K H a (ns.map V.int)->sp [.ref a] H (fun v _=>v=.bl true) fun _ _ _=>False)
 (hCX:∀H e s',CX [] H s₁ (fun _ _ _=>False) e s'->False):
 codeAny (model P w) callerA (.call (.ref fa) ⟨[.ref a],[]⟩) (fun r s'=>r=.ok (.ret (.bool true))∧OldK s₁.heap s'.heap∧s'.os=s₁.os∧AllBare s'.gens) s₁:=by
 have rv:=zke hi
 have lenV:=hi.length
 have core:∀H:Hp,zwp H->SqL K H a (ns.map V.int)->HOk P w H s₁.heap->(∀b,H b≠none->b=a)->(H a≠none->K.lookup a=none)->
  codeAny (model P w) callerA (.call (.ref fa) ⟨[.ref a],[]⟩) (fun r s'=>r=.ok (.ret (.bool true))∧OldK s₁.heap s'.heap∧s'.os=s₁.os∧AllBare s'.gens) s₁:=by
  intro H hO hS hok hA hK
  have base_of:∀{b:Addr} {o:Obj},s₁.heap.get? b=some o->H b=none->(zrt s₁.heap H).get? b=some o:=fun e n=>zrs e n
  have noA:∀{b:Addr} {o:Obj} {es:Array DictEntry} {ep:Nat},s₁.heap.get? b=some o->o.data=.dict es ep->H b=none:=fun {b o es ep} e d=>by
   cases q:H b with
   | none=>rfl
   | some u=>
    have e':b=a:=hA b (by rw [q];simp)
    subst e'
    rw [ha] at e;cases e
    have d':Data.seq vs.toArray _=Data.dict es ep:=d
    cases d'
  have nsK:∀{b:Addr} {m:Str->Option Value},s₁.heap.Ns b m->(zrt s₁.heap H).Ns b m:=fun {b m} ⟨o,es,ep,e,d,r⟩=>⟨o,es,ep,base_of e (noA e d),d,r⟩
  have hKb:K.In (zrt s₁.heap H):=fun b o e=>base_of (KX b o e) (by
   cases q:H b with
   | none=>rfl
   | some u=>
    have e':b=a:=hA b (by rw [q];simp)
    subst e'
    rw [hK (by rw [q];simp)] at e;cases e)
  have hM:Mod K mg (zrt s₁.heap H):=⟨hKb,nsK hns,⟨mb,nsK hb,hbb⟩,let ⟨mc,h1,h2⟩:=hlim;⟨mc,nsK h1,h2⟩⟩
  have e0:zsd P w K mg (zrt s₁.heap H) callerA [] s₁ H:=⟨rfl,hM,fun b o e=>zua e,Nat.le_of_eq (zp2 _ _),trivial,fun b hb=>absurd (show b∈([]:List Addr) from hb) (by simp),hok,.of_eq hg⟩
  refine codeAny_mono ((F _ hKb (nsK hns)).run callerA [] s₁ H ⟨[.ref a],[]⟩ [.ref a] [.ref a] _ _ hr e0 (hbind s₁ (.ref a)) (.cons rfl .nil) (hsp H hO hS)) fun r s' h=>?_
  cases r with
  | error e=>exact (hCX H e s' h).elim
  | ok fl=>
   cases fl with
   | next=>exact False.elim h
   | brk=>exact False.elim h
   | cont=>exact False.elim h
   | ret u=>
    obtain ⟨v,H',os,bare,un,hok',r',q⟩:=h
    have q':v=.bl true:=q
    subst q'
    obtain rfl:u=Value.bool true:=r'
    refine ⟨rfl,OldK.of_keep fun b o e=>?_,os,bare⟩
    cases q:H b with
    | none=>exact un.keep b o e q (by intro z;exact absurd (show b∈([]:List Addr) from z) (by simp)) (by simp)
    | some u=>
     rcases hO b with z | ⟨ob,xs,z⟩
     ·rw [q] at z;cases z
     ·have z2:=un.frzs b ob _ z
      obtain ⟨e1,_⟩:=hok b _ z
      obtain ⟨e2,_⟩:=hok' b _ z2
      rw [e] at e1;cases e1
      exact e2
 cases hk:K.lookup a with
 | some o=>
  have e:=KX a o hk
  rw [ha] at e
  cases e
  refine core (fun _=>none) (fun _=>.inl rfl) (.inr ⟨_,vs.toArray,_,hk,rfl,rfl,rfl,by rw [ZAi,lenV];exact hl,by simpa using rv⟩) (fun b u z=>by have z':(none:Option HO)=some u:=z;cases z') (fun b z=>absurd rfl z) fun z=>absurd rfl z
 | none=>
  refine core (fun b=>if b=a then some (.frz { cls:=.type "list",data:=.seq vs.toArray } (.lst (ns.map V.int))) else none) (fun b=>?_) (.inl (.inr ⟨{ cls:=.type "list",data:=.seq vs.toArray },if_pos rfl⟩)) (fun b u z=>?_) (fun b z=>?_) fun _=>hk
  ·by_cases hb:b=a
   ·exact .inr ⟨_,_,if_pos hb⟩
   ·exact .inl (if_neg hb)
  ·by_cases hb:b=a
   ·have z':=(if_pos hb).symm.trans z
    cases z'
    subst hb
    exact ⟨ha,by rw [ZAa];exact hl,vs,_,rv,ha⟩
   ·have z':=(if_neg hb).symm.trans z
    cases z'
  ·by_cases hb:b=a
   ·exact hb
   ·exact absurd (if_neg hb) z
end L2
namespace L2
open PySem PySem.Spec PyProof.Rows
noncomputable abbrev KOf {K:ZBq} {h:Heap} (_:K.In h):ZBq:=K
theorem zn7 {l:PySem.W.OpenLaw} {n k:Nat} {q:Program} {loose:List Str} {XP:(Str->Option Value)->Heap->Prop} {YP:World->Heap->Prop} {d:DefRec} {K:Params->ZBq} {CX:World->CXT} {sp:World->Sp} {x:Str}
 (hn:l.most=some n) (hn2:n≤sizeLine) (hdf:d.params.defaults=[]) (hr:zek k callerA)
 (hY:∀(w:World) (h:Heap),YP w h->(K w.params).In h)
 (F:∀(w:World) (mg:Str->Option Value) (fa:Addr) (h:Heap),(K w.params).In h->h.Ns mainGlobals mg->mg d.name=some (.ref fa)->
  ∃fd:FuncData,(∀(s:Shared) (u:Value),BindsTo s fd ⟨[u],[]⟩ [(x,u)])∧
   ∀base:Heap,(K w.params).In base->base.Ns mainGlobals mg->zbj l.prog w (K w.params) mg base (CX w) k fa fd [x] (sp w))
 (hsp:∀(w:World) (H:Hp) (a:Addr) (ns:List Int),ns.length≤n->zwp H->SqL (K w.params) H a (ns.map V.int)->sp w [.ref a] H (fun v _=>v=.bl true) fun _ _ _=>False)
 (hCX:∀(w:World) (H:Hp) (s:Shared) (e:Value) (s':Shared),CX w [] H s (fun _ _ _=>False) e s'->False):
 PySem.W.WalkO q loose XP YP l.row.toRowW d [] (fun f vs=>PySem.call f vs):=by
 refine Att.attach_call hn hdf fun w s₀ s₁ mg mb fa o pm cd doc a vs ns G Y ho hd hcd hmg hobj hints hlen hg=>?_
 have KX:=hY w _ Y
 obtain ⟨fd,hb,hF⟩:=F w mg fa _ KX G.T.g hmg
 exact zro KX G.T.g G.T.b G.T.builtins G.T.nolimit hg hobj hints (ZAw hlen hn2) hr hF hb (fun H hO hS=>hsp w H a ns hlen hO hS) fun H e s'=>hCX w H s₁ e s'
theorem zqw {l:PySem.W.OpenLaw} {n k:Nat} {q:Program} {loose:List Str} {XP:(Str->Option Value)->Heap->Prop} {YP:World->Heap->Prop} {d:DefRec} {K:Params->ZBq} {CX:CXT} {sp:ZBq->Sp} {x:Str}
 (hn:l.most=some n) (hn2:n≤sizeLine) (hdf:d.params.defaults=[]) (hr:zek k callerA)
 (hY:∀(w:World) (h:Heap),YP w h->(K w.params).In h)
 (F:∀(w:World) (mg:Str->Option Value) (fa:Addr) (h:Heap),(K w.params).In h->h.Ns mainGlobals mg->mg d.name=some (.ref fa)->
  ∃fd:FuncData,(∀(s:Shared) (u:Value),BindsTo s fd ⟨[u],[]⟩ [(x,u)])∧
   ∀base:Heap,(K w.params).In base->base.Ns mainGlobals mg->zbj l.prog w (K w.params) mg base CX k fa fd [x] (sp (K w.params)))
 (hsp:∀(K:ZBq) (H:Hp) (a:Addr) (ns:List Int),ns.length≤n->zwp H->SqL K H a (ns.map V.int)->sp K [.ref a] H (fun v _=>v=.bl true) fun _ _ _=>False)
 (hCX:∀(H:Hp) (s:Shared) (e:Value) (s':Shared),CX [] H s (fun _ _ _=>False) e s'->False):
 PySem.W.WalkO q loose XP YP l.row.toRowW d [] (fun f vs=>PySem.call f vs):=
 zn7 (K:=K) (CX:=fun _=>CX) (sp:=fun w=>sp (K w.params)) hn hn2 hdf hr hY F (fun w H a ns h1 h2 h3=>hsp (K w.params) H a ns h1 h2 h3) fun _ H s e s'=>hCX H s e s'
end L2
/-THE LAST THEOREM (shape;LID,My.*are yours):
 My.Adr:a structure of the addresses that your layer names (classes,functions);My.Txt K t:a structure (Prop) of the equations over K;
 My.txt_mk:{K} {implicit addresses ..} (e1:nsIn K mainGlobals "law"=some (some (.ref f))) (e2:K.lookup f=some ⟨oc,od,.func (fnOf "law" "law" params body scope dV kV doc pm an cdv ct),sl⟩) (e3:codeIn K cdv "law"=true) .. :∃t,My.Txt K t
set_option maxRecDepth 100000 in
set_option maxHeartbeats 0 in
theorem PySem.Challenge.cw_LID_holds : PySem.Challenge.rw_LID.Holds := by
 w_on;o_law;k_head;(case hw=>w_witness2)
 k_fill
 refine L2.zn7 (l:=PySem.Challenge.rw_LID) (n:=63) (k:=40) (x:="script") (CX:=fun w=>..) (sp:=fun _=>My.sp_law) rfl (by decide) rfl ⟨rfl,by decide,by decide⟩ (fun w h Y=>PySem.W.kIn_of Y) ?F ?S ?C
 case F=>
  intro w mg fa h KX G hmg
  have T:∃t,My.Txt (L2.KOf KX) t:=by
   dsimp only [L2.KOf]
   refine' My.txt_mk ?e1 ?e2 ?e3 ..
   (case e1=>PySem.W.k_is)
   (case e2=>PySem.W.k_is)
   ..
  obtain ⟨t,T⟩:=T
  have e0:=hmg.symm.trans (PySem.W.mg_of KX G T.law)
  cases e0
  exact ⟨_,fun s u=>.of_eq rfl,fun base kb nb=>My.law_fn T kb nb⟩
 case S=>exact fun w H a ns hl hO hS=>..
 case C=>exact ..
(the tactic k_is has no namespace:write k_is)-/
namespace L2
open PySem PySem.Spec PyProof.Rows
noncomputable def zdh (s:Stmt) (j:Nat):Stmt:=match s with
 | .ClassDef _ _ _ body _ _ _ _ _ _ _=>body.getD j (.Pass ⟨0,0,0,0⟩)
 | _=>.Pass ⟨0,0,0,0⟩
noncomputable def zei (s:Stmt):Arguments:=match s with
 | .FunctionDef _ a _ _ _ _ _ _ _ _=>a
 | _=>{ posonlyargs:=[],args:=[],vararg:=none,kwonlyargs:=[],kw_defaults:=[],kwarg:=none,defaults:=[] }
noncomputable def zdt (s:Stmt):List Stmt:=match s with
 | .FunctionDef _ _ b _ _ _ _ _ _ _=>b
 | _=>[]
noncomputable def zai (s:Stmt):Scope:=match s with
 | .FunctionDef _ _ _ _ _ _ sc _ _ _=>sc
 | _=>{ kind:=.function,names:=[],isGenerator:=false,isCoroutine:=false }
noncomputable abbrev CX0:CXT:=fun _ _ _ _ _ _=>False
noncomputable abbrev E0:XK:=fun _ _ _=>False
theorem za1 {X:Cx}:zif CX0 X E0:=fun _ _ _ _ _ _ _ h=>h.elim
structure Fun (K:ZBq) (x qual:Str) (st:Stmt) (f:Addr) (fd:FuncData):Prop where
 ex:∃(oc:Value) (od:Option Addr) (kV doc pm:Value) (an:Option Addr) (cdv ct:Value) (osl:Array (Option Value)),
  fd=PySem.W.fnOf x qual (zei st) (zdt st) (zai st) .none kV doc pm an cdv ct∧K.lookup f=some ⟨oc,od,.func fd,osl⟩∧PySem.W.codeIn K cdv qual=true
 kp:PySem.W.keepIn K (.ref f)=true
section
variable {P:Program} {w:World} {K:ZBq} {mg:Str->Option Value} {base:Heap}
theorem Fun.ok {x qual:Str} {st:Stmt} {f:Addr} {fd:FuncData} {N ps:List Str} {k:Nat} {sp:Sp} (F:Fun K x qual st f fd) (S:zat N ps (zai st)) (len:∀vs H Q E,sp vs H Q E->vs.length=ps.length)
 (hbody:∀(cdv:Value) (A:Around) (outer:List Env) (s:Shared) (H:Hp) (vs:List V) (Q:VK) (E:XK),zek k (A.deeper (envOfC qual (zai st) s.heap.objs.size f cdv))->sp vs H Q E->
  ∃t,PSs (zu4 CX0 P w K mg base N qual (zai st) f cdv A outer s H E).nox (zdt st) t∧t { nx:=fun _ H'=>Q .non H',rt:=Q } (zdm N vs) H):zbj P w K mg base CX0 (k+1) f fd ps sp:=by
 obtain ⟨oc,od,kV,doc,pm,an,cdv,ct,osl,rfl,lk,hcd⟩:=F.ex
 refine zx8 lk hcd S len fun A outer s H vs Q E hr hsp=>?_
 obtain ⟨t,h,q⟩:=hbody cdv A outer s H vs Q E hr hsp
 exact ⟨t,h.nox,q⟩
theorem Fun.binds {x qual:Str} {st:Stmt} {f:Addr} {fd:FuncData} {ps:List Str} (F:Fun K x qual st f fd)
 (h:∀(kV doc pm:Value) (an:Option Addr) (cdv ct:Value) (us:List Value),us.length=ps.length->bindArgs (PySem.W.fnOf x qual (zei st) (zdt st) (zai st) .none kV doc pm an cdv ct) ⟨us,[]⟩=pure (ps.zip us)):zdc K fd ps []:=by
 obtain ⟨oc,od,kV,doc,pm,an,cdv,ct,osl,rfl,lk,hcd⟩:=F.ex
 exact .all (h kV doc pm an cdv ct)
theorem zs3 {x qual:Str} {st:Stmt} {f:Addr} {oc:Value} {od an:Option Addr} {osl:Array (Option Value)} {kV doc pm cdv ct:Value} (l:K.lookup f=some ⟨oc,od,.func (PySem.W.fnOf x qual (zei st) (zdt st) (zai st) .none kV doc pm an cdv ct),osl⟩)
 (c:PySem.W.codeIn K cdv qual=true) (k:PySem.W.keepIn K (.ref f)=true):Fun K x qual st f (PySem.W.fnOf x qual (zei st) (zdt st) (zai st) .none kV doc pm an cdv ct):=⟨⟨oc,od,kV,doc,pm,an,cdv,ct,osl,rfl,l,c⟩,k⟩
end
theorem zfc {A:Around} {k:Nat} (hr:zek k A):A.units+1<cLine:=Nat.lt_of_le_of_lt (Nat.add_le_add_left (by decide:1≤64) _) hr.units
theorem zaz {n:Nat} (h:n≤1000):n<sizeLine:=Nat.lt_of_le_of_lt h (by decide)
section
variable {X:Cx}
theorem pv (i:Nat) {x:Str} {pos:Pos} (hN:X.N[i]?=some x:=by rfl) (hv:Vis X.env.scope x:=by first | exact Or.inl rfl | exact Or.inr (Or.inl rfl) | exact Or.inr (Or.inr rfl)) (hd:(x==("__debug__":Str))=false:=by decide)
 (hcd:(x==("__classdict__":Str))=false:=by decide):PE X (.Name x pos) (ztl i):=zvx hN hv hd hcd
end
theorem zeh {A B:Prop} (h:B):if false=true then A else B:=by
 rw [if_neg ZAm]
 exact h
theorem zih {A B:Prop} (h:A):if true=true then A else B:=by
 rw [if_pos rfl]
 exact h
theorem znr {c A B:Prop} [Decidable c] (h1:c->A) (h2:¬c->B):if c then A else B:=by
 by_cases h:c
 ·rw [if_pos h]
  exact h1 h
 ·rw [if_neg h]
  exact h2 h
theorem zk5 {c A B:Prop} [Decidable c] (hc:c) (h:B):if (!decide c)=true then A else B:=by
 rw [ZBo hc]
 exact zeh h
noncomputable def zbu (H H':Hp):Prop:=∀b o,H b=some o->H' b=some o
theorem zbu.refl (H:Hp):zbu H H:=fun _ _ h=>h
theorem zbu.trans {H H1 H2:Hp} (a:zbu H H1) (b:zbu H1 H2):zbu H H2:=fun c o h=>b c o (a c o h)
theorem zbu.free {H H':Hp} (e:zbu H H') {l:Addr} (h:H' l=Option.none):H l=Option.none:=by
 cases q:H l with
 | none=>rfl
 | some o=>
  rw [e l o q] at h
  cases h
end L2
namespace L2
open PySem PySem.Spec PyProof.Rows
section
variable {prog:Program} {w:World} {A:Around} {R:Result->Shared->Prop} {s:Shared}
theorem zpp {elt target iter:Expr} {ifs:List Expr} {scope:Scope} {pos:Pos} {it acc:Value} {env:Env} (I:Nat->Shared->Prop)
 (turn:∀n s,I n s->wpAny (model prog w) A (pyNext it) (fun r s₁=>match r with
  | none=>R (.ok .next) s₁
  | some v=>wpAny (model prog w) A (letOwnedTupleGo target it v) (fun _ s₁'=>wpAny (model prog w) A (assign target env v) (fun _ s₂=>
   wpAny (model prog w) A (forIn ifs true fun c r=>if r=true then do let ok ←isTrue c env (eval c env);pure (ForInStep.yield ok) else pure (ForInStep.yield r)) (fun ok s₃=>
    if ok=true then wpAny (model prog w) A (eval elt env) (fun x s₄=>
     wpAny (model prog w) A (call (.builtin "list.append") [acc,x]) (fun _ s₅=>∃m,m<n∧I m s₅) (fun _ _=>False) s₄) (fun _ _=>False) s₃
    else ∃m,m<n∧I m s₃) (fun _ _=>False) s₂) (fun _ _=>False) s₁') (fun _ _=>False) s₁) (fun _ _=>False) s)
 (n:Nat) (h:I n s):codeAny (model prog w) A (.compLoop (.ListComp elt [⟨target,iter,ifs,0⟩] scope pos) 0 it acc env) R s:=by
 refine codeAny_loop rfl I (fun n s hI=>?_) n h
 show wpAny _ A ((compTurn (.ListComp elt [⟨target,iter,ifs,0⟩] scope pos) 0 it acc env).onRaise (fun x=>do noteFrame x env;theTreesLotGoes x)) _ _ s
 refine wpAny_noted ?_
 rw [compTurn_list]
 refine wpAny_bind (wpAny_standAt (wpAny_bind (wpAny_mono (turn n s hI) (fun r s₁ h₁=>?_) fun _ _ h'=>h'.elim)))
 cases r with
 | none=>exact wpAny_pure h₁
 | some v=>
  refine wpAny_bind (wpAny_mono h₁ (fun _ s₁' h₁'=>?_) fun _ _ h'=>h'.elim)
  refine wpAny_bind (wpAny_mono h₁' (fun _ s₂ h₂=>wpAny_bind (wpAny_mono h₂ (fun ok s₃ h₃=>?_) fun _ _ h'=>h'.elim)) fun _ _ h'=>h'.elim)
  cases ok with
  | false=>exact wpAny_pure ⟨rfl,h₃⟩
  | true=>
   exact wpAny_bind (wpAny_bind (wpAny_mono h₃ (fun x s₄ h₄=>wpAny_bind (wpAny_mono h₄ (fun _ s₅ h₅=>wpAny_pure (wpAny_pure ⟨rfl,h₅⟩)) fun _ _ h'=>h'.elim)) fun _ _ h'=>h'.elim))
end
theorem znw {env:Env} {f:(Str×NameKind)->List (Str×Addr)->Sem (ForInStep (List (Str×Addr)))}
 (h1:∀n k cs,k≠NameKind.free->f (n,k) cs=pure (.yield cs)) (h2:∀n a cs,env.cells.lookup n=some a->f (n,.free) cs=pure (.yield ((n,a)::cs))):
 ∀(names:List (Str×NameKind)) (acc:List (Str×Addr)),(∀x∈names,x.2=.free->∃c,env.cells.lookup x.1=some c)->(∀x c,acc.lookup x=some c->env.cells.lookup x=some c)->
  ∃cl,forIn names acc f=pure cl∧(∀x c,cl.lookup x=some c->env.cells.lookup x=some c∧((∃c',acc.lookup x=some c')∨(x,NameKind.free)∈names))∧
   ∀x,((∃c,acc.lookup x=some c)∨(x,NameKind.free)∈names)->∃c,cl.lookup x=some c:=by
 intro names
 induction names with
 | nil=>exact fun acc _ ha=>⟨acc,rfl,fun x c e=>⟨ha x c e,.inl ⟨c,e⟩⟩,fun x hx=>hx.elim (fun z=>z) fun z=>nomatch z⟩
 | cons y r ih=>
  intro acc hn ha
  obtain ⟨n,k⟩:=y
  have hr:∀x∈r,x.2=.free->∃c,env.cells.lookup x.1=some c:=fun x hx=>hn x (ZAk _ hx)
  by_cases hk:k=.free
  ·subst hk
   obtain ⟨a,e⟩:=hn (n,.free) ZAl rfl
   have e:env.cells.lookup n=some a:=e
   have ha':∀x c,((n,a)::acc).lookup x=some c->env.cells.lookup x=some c:=fun x c q=>by
    rw [ZAo] at q
    cases hx:x==n with
    | true=>rw [hx] at q;cases q;rw [beq_iff_eq.mp hx];exact e
    | false=>rw [hx] at q;exact ha x c q
   obtain ⟨cl,e1,e2,e3⟩:=ih ((n,a)::acc) hr ha'
   refine ⟨cl,?_,fun x c q=>?_,fun x hx=>?_⟩
   ·rw [List.forIn_cons,h2 n a acc e,pure_bind]
    exact e1
   ·obtain ⟨q1,q2⟩:=e2 x c q
    refine ⟨q1,?_⟩
    rcases q2 with ⟨c',q2⟩ | q2
    ·rw [ZAo] at q2
     cases hx:x==n with
     | true=>rw [beq_iff_eq.mp hx];exact .inr ZAl
     | false=>rw [hx] at q2;exact .inl ⟨c',q2⟩
    ·exact .inr (ZAk _ q2)
   ·refine e3 x ?_
    rcases hx with ⟨c,hx⟩ | hx
    ·refine .inl ?_
     rw [ZAo]
     cases x==n with
     | true=>exact ⟨a,rfl⟩
     | false=>exact ⟨c,hx⟩
    ·rcases ZAu.mp hx with z | z
     ·cases z
      exact .inl ⟨a,by rw [ZAo,ZBn]⟩
     ·exact .inr z
  ·obtain ⟨cl,e1,e2,e3⟩:=ih acc hr ha
   refine ⟨cl,?_,fun x c q=>?_,fun x hx=>?_⟩
   ·rw [List.forIn_cons,h1 n k acc hk,pure_bind]
    exact e1
   ·obtain ⟨q1,q2⟩:=e2 x c q
    exact ⟨q1,q2.elim .inl fun z=>.inr (ZAk _ z)⟩
   ·refine e3 x ?_
    rcases hx with hx | hx
    ·exact .inl hx
    ·rcases ZAu.mp hx with z | z
     ·cases z;exact absurd rfl hk
     ·exact .inr z
theorem zi5 {scope:Scope} {env:Env} (h:∀x∈scope.names,x.2=.free->∃c,env.cells.lookup x.1=some c):
 ∃cl,closureFor scope env=pure cl∧(∀x c,cl.lookup x=some c->env.cells.lookup x=some c∧(x,NameKind.free)∈scope.names)∧∀x,(x,NameKind.free)∈scope.names->∃c,cl.lookup x=some c:=by
 obtain ⟨cl,e1,e2,e3⟩:=znw (env:=env) (f:=fun x cs=>if (x.2==NameKind.free)=true then do let a ←cellOf env x.1;pure (ForInStep.yield ((x.1,a)::cs)) else pure (ForInStep.yield cs))
  (fun n k cs hk=>by
   have:(k==NameKind.free)=false:=by simpa using hk
   simp only [this,Bool.false_eq_true,if_false])
  (fun n a cs e=>by
   simp only [ZBn,if_true,cellOf,e,pure_bind])
  scope.names [] h (fun x c q=>nomatch q)
 refine ⟨cl,?_,fun x c q=>?_,fun x hx=>e3 x (.inr hx)⟩
 ·unfold closureFor
  first
   | (rw [show (forIn scope.names ([]:List (Str×Addr)) _:Sem (List (Str×Addr)))=pure cl from e1];rfl)
   | (simp only [e1,pure_bind];done)
   | exact (congrArg (fun z=>z>>=fun cs=>pure cs) e1).trans (pure_bind _ _)
 ·obtain ⟨q1,q2⟩:=e2 x c q
  exact ⟨q1,q2.elim (fun ⟨_,z⟩=>nomatch z) fun z=>z⟩
theorem zd4 {env:Env}:∀{names:List (Str×NameKind)} {x:Str},names.lookup x=some .free->
 (names.map fun (n,k)=>if (k==NameKind.free && env.scope.kind==.function && env.kindOf n==some .cell) then (n,NameKind.cell) else (n,k)).lookup x=some .cell∨
 (names.map fun (n,k)=>if (k==NameKind.free && env.scope.kind==.function && env.kindOf n==some .cell) then (n,NameKind.cell) else (n,k)).lookup x=some .free
 | [],_,h=>by simp at h
 | (n,k)::r,x,h=>by
  have ih:= @zd4 env r x
  show List.lookup x ((if (k==NameKind.free && env.scope.kind==.function && env.kindOf n==some .cell)=true then (n,NameKind.cell) else (n,k))::_)=_∨
   List.lookup x ((if (k==NameKind.free && env.scope.kind==.function && env.kindOf n==some .cell)=true then (n,NameKind.cell) else (n,k))::_)=_
  cases hx:x==n with
  | true=>
   simp only [ZAo,hx] at h
   cases h
   by_cases hc:(NameKind.free==NameKind.free && env.scope.kind==.function && env.kindOf n==some .cell)=true
   ·rw [if_pos hc];exact .inl (by simp [ZAo,hx])
   ·rw [if_neg hc];exact .inr (by simp [ZAo,hx])
  | false=>
   simp only [ZAo,hx] at h
   by_cases hc:(k==NameKind.free && env.scope.kind==.function && env.kindOf n==some .cell)=true
   ·rw [if_pos hc];simp only [ZAo,hx];exact ih h
   ·rw [if_neg hc];simp only [ZAo,hx];exact ih h
noncomputable def zb6 (X:Cx) (scope:Scope) (cl:List (Str×Addr)) (N:List Str) (ex:List Addr) (s:Shared) (H:Hp):Cx where
 prog:=X.prog
 w:=X.w
 K:=X.K
 mg:=X.mg
 base:=X.base
 A:=X.A
 N:=N
 s₀:=s
 H₀:=H
 env:=compEnvC scope cl s.heap.objs.size X.env
 outer:=X.stack
 stack:=X.stack
 ex:=ex
 fn:=fun x=>scope.names.lookup x==some .local
 calm:=X.calm
 pn:=[]
 xe:=fun _ _=>False
noncomputable def zfu (js:List (Option Nat)) (σ:St):St:=js.map fun j=>match j with
 | none=>none
 | some j=>(σ[j]?).join
structure zcg (sc:Scope) (NX:List Str) (scope:Scope) (N:List Str) (js:List (Option Nat)):Prop where
 kind:scope.kind=.function
 cell:∀x∈scope.names,x.2≠.cell
 loc:∀x∈scope.names,x.2=.local->scope.names.lookup x.1=some .local
 free:∀x∈scope.names,x.2=.free->scope.names.lookup x.1=some .free∧(sc.names.lookup x.1=some .cell∨sc.names.lookup x.1=some .free)
 len:js.length=N.length
 at_:∀p∈js.zip N,p.1=none∨∃j∈List.range NX.length,p.1=some j∧NX[j]?=some p.2∧(p.2,NameKind.free)∈scope.names
section
variable {X:Cx} {pins:List (Addr×Obj)} {σ:St} {H:Hp} {s:Shared} {scope:Scope} {N:List Str} {js:List (Option Nat)} {cl:List (Str×Addr)} {ex:List Addr}
theorem zrr {h1:Heap} {tk:Nat} (I:Inv X pins σ H s) (C:zcg X.env.scope X.N scope N js) (c2:∀x c,cl.lookup x=some c->X.env.cells.lookup x=some c∧(x,NameKind.free)∈scope.names)
 (c3:∀x,(x,NameKind.free)∈scope.names->∃c,cl.lookup x=some c) (hex:∀b∈ex,zqr X pins H b∧b<s.heap.objs.size)
 (hns:h1.Ns s.heap.objs.size fun _=>none) (hk:∀b o,s.heap.get? b=some o->h1.get? b=some o):Inv (zb6 X scope cl N ex s H) [] (zfu js σ) H { s with heap:=h1,toks:=tk }:=by
 have fr:∀x,(x,NameKind.free)∈scope.names->(relabel scope X.env).names.lookup x=some .cell∨(relabel scope X.env).names.lookup x=some .free:=fun x hx=>zd4 (C.free _ hx rfl).1
 refine ⟨⟨I.ok.mod,C.kind,I.ok.glob,I.ok.blt,ZAc _,fun x y c e1 e2=>I.ok.inj x y c (c2 x c e1).1 (c2 y c e2).1,fun x hx=>?_,fun x c hf e=>?_,I.ok.hd,I.ok.frames,.inl rfl,fun b hb=>⟨ZAz (hex b hb).2,fun x c e=>(hex b hb).1.2.2.2.2.1 x c (c2 x c e).1⟩,I.bs,ZAw I.ok.bsz I.sz,fun b o e hb=>?_,fun b hb hf=>?_,I.stack,I.stkFree⟩,
  rfl,I.bare,Un.kept hk,⟨fun _=>none,hns,fun i x v e1 e2 e3=>?_⟩,fun x c e=>?_,I.hok.fresh (ZAc _),fun x c e=>I.freeC x c (c2 x c e).1,fun p hp=>absurd (show p∈([]:List (Addr×Obj)) from hp) (by simp),I.hok.kept hk,?_⟩
 ·
  have hx:(relabel scope X.env).names.lookup x=some .cell∨(relabel scope X.env).names.lookup x=some .free:=hx
  have hm:(x,NameKind.free)∈scope.names:=by
   have key:∀k,(relabel scope X.env).names.lookup x=some k->k=.cell∨k=.free->(x,NameKind.free)∈scope.names:=fun k hl hk=>by
    have m:=PySem.mem_of_lookup hl
    obtain ⟨⟨n,k'⟩,hm,e⟩:=ZA7.mp m
    dsimp only at e
    by_cases hc:(k'==NameKind.free && X.env.scope.kind==.function && X.env.kindOf n==some .cell)=true
    ·rw [if_pos hc] at e
     cases e
     have:k'=.free:=by
      simp only [Bool.and_eq_true,beq_iff_eq] at hc
      exact hc.1.1
     subst this
     exact hm
    ·rw [if_neg hc] at e
     cases e
     rcases hk with z | z
     ·exact absurd z (C.cell _ hm)
     ·subst z;exact hm
   rcases hx with z | z
   ·exact key _ z (.inl rfl)
   ·exact key _ z (.inr rfl)
  exact c3 x hm
 ·have hf:(scope.names.lookup x==some .local)=true:=hf
  have e':=(C.free _ (c2 x c e).2 rfl).1
  rw [e'] at hf
  exact absurd hf (by decide)
 ·obtain ⟨⟨_,_,_,hz,_,_⟩,hlt⟩:=hex b hb
  rcases hz with z | z
  ·exact I.ok.noex b o e z
  ·exact absurd (ZA2 (ZA2 (ZAs e) I.ok.bsz) z) (ZBi _)
 ·obtain ⟨⟨_,hL,hfs,_⟩,_⟩:=hex b hb
  rcases ZAu.mp (I.stkSub b hf) with z | z
  ·exact hL z
  ·exact hfs z
 ·
  unfold zfu at e2
  rw [ZAg] at e2
  cases ej:js[i]? with
  | none=>rw [ej] at e2;cases e2
  | some oj=>
   rw [ej] at e2
   cases oj with
   | none=>cases e2
   | some j=>
    have e2':(σ[j]?).join=some v:=ZAn e2
    have e2'':σ[j]?=some (some v):=by
     cases q:σ[j]? with
     | none=>rw [q] at e2';cases e2'
     | some z=>rw [q] at e2';exact congrArg some e2'
    have e1:N[i]?=some x:=e1
    have hz:(some j,x)∈js.zip N:=List.mem_iff_getElem?.mpr ⟨i,by rw [List.getElem?_zip_eq_some];exact ⟨ej,e1⟩⟩
    obtain ⟨a1,a2⟩:X.N[j]?=some x∧(x,NameKind.free)∈scope.names:=by
     rcases C.at_ _ hz with q | ⟨j',_,q,a1,a2⟩
     ·cases q
     ·cases q
      exact ⟨a1,a2⟩
    have a1:X.N[j]?=some x:=a1
    have a2:(x,NameKind.free)∈scope.names:=a2
    obtain ⟨b1,b2⟩:=C.free _ a2 rfl
    have b2:X.env.scope.names.lookup x=some .cell∨X.env.scope.names.lookup x=some .free:=b2
    obtain ⟨m,_,hl⟩:=I.loc
    obtain ⟨u,r,l⟩:=hl j x v a1 e2'' (.inr b2)
    refine ⟨u,r,?_⟩
    rcases l with ⟨k,_⟩ | ⟨_,c,hc,z⟩
    ·have k:X.env.scope.names.lookup x=some .local:=k
     rcases b2 with b2 | b2<;>(rw [b2] at k;cases k)
    ·obtain ⟨c',hc'⟩:=c3 x a2
     have:=(c2 x c' hc').1
     rw [hc] at this
     cases this
     obtain ⟨o,ho,hd⟩:=z
     exact .inr ⟨fr x a2,c,hc',⟨o,hk _ _ ho,hd⟩⟩
 ·obtain ⟨v,o,ho,hd⟩:=I.cell x c (c2 x c e).1
  exact ⟨v,o,hk _ _ ho,hd⟩
 ·show (zfu js σ).length=N.length
  unfold zfu
  rw [ZAa]
  exact C.len
end
noncomputable def PIf (X:Cx) (ifs:List Expr) (t:TT):Prop:=
 ∀(pins:List (Addr×Obj)) (s:Shared) (σ:St) (H:Hp) (Q:Bool->Hp->Prop),Inv X pins σ H s->t σ H Q->
  wpAny (model X.prog X.w) X.A (forIn ifs true fun c r=>if r=true then do let ok ←isTrue c X.env (eval c X.env);pure (ForInStep.yield ok) else pure (ForInStep.yield r)) (TP X pins σ Q) X.xe s
noncomputable def zzj:TT:=fun _ H Q=>Q true H
theorem zdi {X:Cx}:PIf X [] zzj:=fun _ _ _ H _ I h=>wpAny_tests_nil ⟨H,I,h⟩
theorem zey {X:Cx} {c:Expr} {t:TT} (h:PT X c t):PIf X [c] t:=fun pins s σ H Q I hw=>wpAny_tests_one (h pins s σ H Q I hw)
noncomputable def zgz (js:List (Option Nat)) (g:TG) (tc:TT) (te:TE) (σ:St) (Q:VK) (J:It) (H1:Hp) (D:Addr):Prop:=∃W:Nat->Nat->St->Hp->Prop,(∃m,W 0 m (zfu js σ) (upd H1 D (.lst [])))∧
 ∀i m σ' H',W i m σ' H'->(J.stop i H'∧Q (.ref D) H')∨(J.go i H'∧∃N:St->Hp->Prop,(∀σ2 H2,N σ2 H2->∃m',m'<m∧W (i+1) m' σ2 H2)∧
  ∀x H2,J.yld i H' x H2->g x σ' H2 fun σ3 H3=>tc σ3 H3 fun ok H4=>if ok=true then te σ3 H4 fun y H5=>∃ys,H5 D=some (.lst ys)∧ys.length<sizeLine∧N σ3 (upd H5 D (.lst (ys++[y]))) else N σ3 H4)
noncomputable def zq0 (js:List (Option Nat)) (wi:TI) (g:TG) (tc:TT) (te:TE):TE:=fun σ H Q=>wi σ H fun J H1=>∀D,H1 D=none->zgz js g tc te σ Q J H1 D
noncomputable def fsc (l:List (Str×NameKind)):Scope:={ kind:=.function,names:=l,isGenerator:=false,isCoroutine:=false,more:=[] }
section
variable {X:Cx} {tg iter elt:Expr} {ifs:List Expr} {scope:Scope} {pos:Pos} {N:List Str} {js:List (Option Nat)} {wi:TI} {g:TG} {tc:TT} {te:TE}
theorem znb {cl:List (Str×Addr)} {pins:List (Addr×Obj)} {σ:St} {H:Hp} {s:Shared} {E:Value->Shared->Prop} {Q:VK} {RR:Value->Addr->Result->Shared->Prop} (hc:zf6 X) (C:zcg X.env.scope X.N scope N js)
 (c2:∀x c,cl.lookup x=some c->X.env.cells.lookup x=some c∧(x,NameKind.free)∈scope.names) (c3:∀x,(x,NameKind.free)∈scope.names->∃c,cl.lookup x=some c)
 (hb:∀cl ex s H,zf6 (zb6 X scope cl N ex s H)->PG (zb6 X scope cl N ex s H) tg g∧PIf (zb6 X scope cl N ex s H) ifs tc∧PE (zb6 X scope cl N ex s H) elt te)
 {it:Addr} {fp:List Addr} {tn:Nat->Heap->Prop} {J:It} (I:Inv X pins σ H s) (T:zus X.prog X.w X.K tg J fp it tn) (st:tn 0 s.heap) (f2:∀b∈fp,zqr X pins H b)
 (q:∀D,H D=none->zgz js g tc te σ Q J H D)
 (hRR:∀D C' H' s',Q (.ref D) H'->(∃m,s'.heap.Ns C' m)->H' C'=none->X.s₀.heap.objs.size≤C'->C'≠X.env.locals->(∀x c,X.env.cells.lookup x=some c->c≠C')->(∀p∈X.pn++pins,p.1≠C')->Inv X pins σ H' s'->RR (.ref D) C' (.ok .next) s'):
 wpAny (model X.prog X.w) X.A (newList []) (fun acc s₃=>wpAny (model X.prog X.w) X.A (newFunctionEnv scope X.env.globals cl [] X.env.qual none .none (some X.env)) (fun cenv s₄=>
  codeAny (model X.prog X.w) X.A (.compStart (.ListComp elt [⟨tg,iter,ifs,0⟩] scope pos) 0 (.ref it) acc { cenv with scope:=relabel scope X.env }) (RR acc cenv.locals) s₄) E s₃) E s:=by
 have hD:H s.heap.objs.size=none:=I.fresh
 have I3:Inv X pins σ (upd H s.heap.objs.size (.lst [])) { s with heap:=s.heap.push { cls:=.type "list",data:=.seq ([]:List Value).toArray } }:=I.lnew (its:=[]) (ys:=[]) (t':=s.toks) .nil (ZAq _)
 refine wpAny_newObj_type (wpAny_newFunctionEnv C.cell (by intro y hy;simp at hy) (fun h₁ hns₁ hsb₁=>?_) C.kind)
 dsimp only at hns₁ hsb₁ ⊢
 generalize hs3:({ s with heap:=s.heap.push { cls:=.type "list",data:=.seq ([]:List Value).toArray } }:Shared)=s3 at I3
 have hh3:s.heap.push { cls:=.type "list",dict:=none,data:=.seq ([]:List Value).toArray }=s3.heap:=by rw [←hs3]
 rw [hh3] at hns₁ hsb₁ ⊢
 have kp:∀b o,s3.heap.get? b=some o->h₁.get? b=some o:=fun b o e=>hsb₁.extBut b o (ZAz (ZAs e)) (ZAe _ e)
 have hlt:∀b∈fp,b<s.heap.objs.size:=fun b hb=>by
  obtain ⟨o,e,_⟩:=T.obj 0 s.heap st b hb
  exact ZAs e
 have sz3:s3.heap.objs.size=s.heap.objs.size+1:=by rw [←hh3,Heap.size_push]
 have f3:∀b∈fp,zqr X pins (upd H s.heap.objs.size (.lst [])) b:=fun b hb=>by
  obtain ⟨h1,h2⟩:=f2 b hb
  exact ⟨by rw [zaj (ZAz (hlt b hb))];exact h1,h2⟩
 have IY:∀tk,Inv (zb6 X scope cl N fp s3 (upd H s.heap.objs.size (.lst []))) [] (zfu js σ) (upd H s.heap.objs.size (.lst [])) { s3 with heap:=h₁,toks:=tk }:=fun tk=>
  zrr I3 C c2 c3 (fun b hb=>⟨f3 b hb,by rw [sz3];exact Nat.lt_succ_of_lt (hlt b hb)⟩) hns₁ kp
 have st1:tn 0 h₁:=T.keep 0 s.heap h₁ st fun b hb o e=>kp b o (by rw [←hh3];exact ZAe _ e)
 obtain ⟨W,⟨m0,w0⟩,turn⟩:=q s.heap.objs.size hD
 have hcY:zf6 (zb6 X scope cl N fp s3 (upd H s.heap.objs.size (.lst []))):=hc.in_ I3 rfl rfl fun _ _ _ z=>z
 have hbY:=hb cl fp s3 (upd H s.heap.objs.size (.lst [])) hcY
 obtain ⟨hg,hif,he⟩:=hbY
 have stat:∀{H':Hp},(∀b∈fp,H' b=none)->∀b∈fp,zqr (zb6 X scope cl N fp s3 (upd H s.heap.objs.size (.lst []))) [] H' b:=fun hn b hb=>by
  obtain ⟨_,hL,hfs,_,hcl,_⟩:=f2 b hb
  refine ⟨hn b hb,ZAz (by show b<s3.heap.objs.size;rw [sz3];exact Nat.lt_succ_of_lt (hlt b hb)),fun z=>?_,.inl hb,fun x c e=>hcl x c (c2 x c e).1,fun p hp=>absurd (show p∈([]:List (Addr×Obj)) from hp) (by simp)⟩
  rcases ZAu.mp (I.stkSub b z) with z | z
  ·exact hL z
  ·exact hfs z
 have loop:∀s4:Shared,s4={ s3 with heap:=h₁,toks:=s.toks+([]:List (Str×Value)).length }->
  codeAny (model X.prog X.w) X.A (.compLoop (.ListComp elt [⟨tg,iter,ifs,0⟩] scope pos) 0 (.ref it) (.ref s.heap.objs.size) (compEnvC scope cl s3.heap.objs.size X.env)) (RR (.ref s.heap.objs.size) s3.heap.objs.size) s4:=by
  rintro s4 rfl
  refine zpp (fun n s'=>∃i σ' H',Inv (zb6 X scope cl N fp s3 (upd H s.heap.objs.size (.lst []))) [] σ' H' s'∧tn i s'.heap∧(∀b∈fp,H' b=none)∧W i n σ' H') ?_ m0
   ⟨0,_,_,IY _,st1,fun b hb=>(f3 b hb).1,w0⟩
  rintro n s5 ⟨i,σ5,H5,I5,st5,fr5,w5⟩
  rcases turn i n σ5 H5 w5 with ⟨stop,qn⟩ | ⟨go,Nx,hN,step⟩
  ·refine thn (T.done (zb6 X scope cl N fp s3 (upd H s.heap.objs.size (.lst []))) rfl rfl rfl hcY i [] s5 σ5 H5 _ I5 (stat fr5) st5 stop) fun r s6 ⟨hr,I6⟩=>?_
   subst hr
   obtain ⟨m,hn,_⟩:=I6.loc
   refine hRR _ _ H5 s6 qn ⟨m,hn⟩ I6.free (ZAw I3.sz (ZAc _)) (Nat.ne_of_gt I3.lt) (fun x c e z=>?_) (fun p hp z=>?_) (I3.call' I6.os I6.base I6.hok I6.bare fun b hb=>?_)
   ·obtain ⟨v,o,ho,_⟩:=I3.cell x c e
    exact absurd (ZAs ho) (by rw [z];exact ZBi _)
   ·exact absurd (ZAs (I3.pin p hp).1) (by rw [z];exact ZBi _)
   ·obtain ⟨_,hL,_,hx,hcl,hp⟩:=f2 b hb
    exact ⟨hx,hL,hcl,hp⟩
  ·refine thn (T.item (zb6 X scope cl N fp s3 (upd H s.heap.objs.size (.lst []))) rfl rfl rfl hcY i [] s5 σ5 H5 _ I5 (stat fr5) st5 go) fun r s6 zz=>L2.el3 zz fun u hr h6=>?_
   subst hr
   refine thn h6 fun _ s7 zz=>?_
   obtain ⟨x,H7,I7,r7,y7,st7,fr7⟩:=zz
   have I7':=I7.pinned (stat fr7) (T.obj _ _ st7)
   refine thn (hg _ s7 σ5 H7 x u _ I7' r7 (step x H7 y7)) fun _ s8 zz=>?_
   obtain ⟨σ8,H8,I8,q8⟩:=zz
   refine thn (hif _ s8 σ8 H8 _ I8 q8) fun ok s9 zz=>?_
   obtain ⟨H9,I9,q9⟩:=zz
   have again:∀{s':Shared} {σ':St} {H':Hp},Inv (zb6 X scope cl N fp s3 (upd H s.heap.objs.size (.lst []))) ([]++zku fp s7.heap) σ' H' s'->Nx σ' H'->
    ∃m,m<n∧∃i σ'' H'',Inv (zb6 X scope cl N fp s3 (upd H s.heap.objs.size (.lst []))) [] σ'' H'' s'∧tn i s'.heap∧(∀b∈fp,H'' b=none)∧W i m σ'' H'':=fun {s' σ' H'} I' n'=>by
    obtain ⟨m',hm,w'⟩:=hN σ' H' n'
    refine ⟨m',hm,i+1,σ',H',I'.unpinned,T.keep _ _ _ st7 fun b hb o e=>(I'.pin (b,o) (ZA3 _ (ZA3 _ (zfn hb e)))).1,fun b hb=>?_,w'⟩
    obtain ⟨o,e,d⟩:=T.obj _ _ st7 b hb
    exact (I'.pin (b,o) (ZA3 _ (ZA3 _ (zfn hb e)))).2.1
   cases ok with
   | false=>exact again I9 q9
   | true=>
    refine thn (he _ s9 σ8 H9 _ I9 q9) fun yv s10 zz=>?_
    obtain ⟨y,H10,I10,r10,ys,hDD,hlt',n10⟩:=zz
    refine thn (zcs _ s10 σ8 H10 (.ref s.heap.objs.size) [y] (.ref s.heap.objs.size) [yv] (fun _ H'=>Nx σ8 H') I10 rfl (.cons r10 .nil) ⟨_,ys,y,rfl,rfl,hDD,hlt',n10⟩) fun _ s11 zz=>?_
    obtain ⟨_,H11,I11,_,n11⟩:=zz
    exact again I11 n11
 have e4:({ s with heap:=h₁,toks:=s.toks+([]:List (Str×Value)).length }:Shared)={ s3 with heap:=h₁,toks:=s.toks+([]:List (Str×Value)).length }:=by rw [←hs3]
 exact codeAny_compStart_list (loop _ e4) (T.self _ 0 _ _ _ st1 (loop _ e4))
theorem zrg (hc:zf6 X) (hi:PI X tg iter wi) (C:zcg X.env.scope X.N scope N js)
 (hb:∀cl ex s H,zf6 (zb6 X scope cl N ex s H)->PG (zb6 X scope cl N ex s H) tg g∧PIf (zb6 X scope cl N ex s H) ifs tc∧PE (zb6 X scope cl N ex s H) elt te)
 (hs:∀x,foldedSetIterable iter X.env x=pure x:=by intro _;rfl):PE X (.ListComp elt [⟨tg,iter,ifs,0⟩] scope pos) (zq0 js wi g tc te):=by
 intro pins s σ H Q I h
 obtain ⟨cl,hcl,c2,c3⟩:=zi5 (scope:=scope) (env:=X.env) fun x hx hf=>I.ok.has x.1 (C.free x hx hf).2
 rw [eval_ListComp]
 refine wpAny_comprehension_free (use:=none) rfl hs hcl C.kind C.loc (thn (hi pins s σ H _ I h) fun xv s₁ h₁=>thn h₁ fun itv s₂ h₂=>?_)
 obtain ⟨it,fp,tn,J,H2,rfl,I2,T,st2,f2,q⟩:=h₂
 refine znb (RR:=fun acc C'=>compPost (model X.prog X.w) X.A X.xe none (EP X pins σ Q) acc C') hc C c2 c3 hb I2 T st2 f2 q ?_
 intro D C' H' s' hq hns hfr hsz hL hcl' hpin I'
 obtain ⟨m,hn⟩:=hns
 refine ⟨m,hn,fun h' sb=>⟨.ref D,H',?_,rfl,hq⟩⟩
 exact I'.turned (t':=s'.toks) (fun b o hb e=>(sb.2 b hb).trans e) hfr (Ne.symm (Ne.symm hL)) (.inr hsz) hcl' hpin
theorem zc7 (hc:X.calm=true) (hi:PI X tg iter wi) (C:zcg X.env.scope X.N scope N js)
 (hb:∀cl ex s H,PG (zb6 X scope cl N ex s H) tg g∧PIf (zb6 X scope cl N ex s H) ifs tc∧PE (zb6 X scope cl N ex s H) elt te)
 (hs:∀x,foldedSetIterable iter X.env x=pure x:=by intro _;rfl):PE X (.ListComp elt [⟨tg,iter,ifs,0⟩] scope pos) (zq0 js wi g tc te):=zrg (.inl hc) hi C (fun cl ex s H _=>hb cl ex s H) hs
theorem zrb {i:Nat} {y:Str} {py spos:Pos} (hN:X.N.Nodup) (hi':X.N[i]?=some y) (hy:X.env.scope.names.lookup y=some .local) (hc:zf6 X) (hi:PI X tg iter wi) (C:zcg X.env.scope X.N scope N js)
 (hb:∀cl ex s H,zf6 (zb6 X scope cl N ex s H)->PG (zb6 X scope cl N ex s H) tg g∧PIf (zb6 X scope cl N ex s H) ifs tc∧PE (zb6 X scope cl N ex s H) elt te)
 (hsw:swapsWith (.ListComp elt [⟨tg,iter,ifs,0⟩] scope pos) (some (.Name y py)) spos.line X.env=pure true:=by rfl)
 (hs:∀x,foldedSetIterable iter X.env x=pure x:=by intro _;rfl):PS X (.Assign [.Name y py] (.ListComp elt [⟨tg,iter,ifs,0⟩] scope pos) spos) (zwx (zq0 js wi g tc te) (zp4 i)):=by
 intro pins s σ H D I h
 obtain ⟨cl,hcl,c2,c3⟩:=zi5 (scope:=scope) (env:=X.env) fun x hx hf=>I.ok.has x.1 (C.free x hx hf).2
 rw [exec_Assign_Name_used _ _ _ _ hsw]
 refine wpAny_bind (wpAny_standAt (wpAny_bind ?_))
 show wpAny _ X.A (do let _ ←comprehension (.ListComp elt [⟨tg,iter,ifs,0⟩] scope pos) scope X.env _ (newList []) false (eval iter X.env) (some (assign (.Name y py) X.env))) _ _ s
 refine wpAny_bind (wpAny_mono (wpAny_comprehension_free (use:=some (assign (.Name y py) X.env)) (Q:=fun _ s'=>SP X pins D .next s') rfl hs hcl C.kind C.loc (thn (hi pins s σ H _ I h) fun xv s₁ h₁=>thn h₁ fun itv s₂ h₂=>?_))
  (fun _ s' hq=>wpAny_pure (wpAny_pure hq)) fun _ _ e=>e)
 obtain ⟨it,fp,tn,J,H2,rfl,I2,T,st2,f2,q⟩:=h₂
 refine znb (Q:=fun x H1=>zp4 i x σ H1 D.nx) (RR:=fun acc C'=>compPost (model X.prog X.w) X.A X.xe (some (assign (.Name y py) X.env)) (fun _ s'=>SP X pins D .next s') acc C') hc C c2 c3 hb I2 T st2 f2 q ?_
 intro Da C' H' s' hq hns hfr hsz hL hcl' hpin I'
 obtain ⟨m,hn⟩:=hns
 show wpAny _ X.A (assign (.Name y py) X.env (.ref Da)) _ _ _
 refine wpAny_assign_Name (zkk I' hN hi' (.inl hy) (v:=.ref Da) rfl (fun s2 I2 hx=>?_) (.inr hy))
 obtain ⟨a,sba,ha⟩:=hx
 have hne:C'≠a:=by
  rcases ha with z | z
  ·rw [z];exact hL
  ·exact fun e=>hcl' y a z e.symm
 refine ⟨m,hn.sameBut sba hne,fun h' sb=>⟨_,H',?_,hq⟩⟩
 exact I2.turned (t':=s2.toks) (fun b o hb e=>(sb.2 b hb).trans e) hfr hL (.inr hsz) hcl' hpin
theorem zhv {i:Nat} {y:Str} {py spos:Pos} (hN:X.N.Nodup) (hi':X.N[i]?=some y) (hy:X.env.scope.names.lookup y=some .local) (hc:X.calm=true) (hi:PI X tg iter wi) (C:zcg X.env.scope X.N scope N js)
 (hb:∀cl ex s H,PG (zb6 X scope cl N ex s H) tg g∧PIf (zb6 X scope cl N ex s H) ifs tc∧PE (zb6 X scope cl N ex s H) elt te)
 (hsw:swapsWith (.ListComp elt [⟨tg,iter,ifs,0⟩] scope pos) (some (.Name y py)) spos.line X.env=pure true:=by rfl)
 (hs:∀x,foldedSetIterable iter X.env x=pure x:=by intro _;rfl):PS X (.Assign [.Name y py] (.ListComp elt [⟨tg,iter,ifs,0⟩] scope pos) spos) (zwx (zq0 js wi g tc te) (zp4 i)):=zrb hN hi' hy (.inl hc) hi C (fun cl ex s H _=>hb cl ex s H) hsw hs
end
section
variable {g:TG} {tc:TT} {te:TE} {js:List (Option Nat)} {σ:St} {H:Hp} {Q:VK} {D:Addr}
theorem zgy {lo:Int} {n:Nat} (Pv:Nat->St->Hp->Prop) (h0:Pv 0 (zfu js σ) (upd H D (.lst [])))
 (hs:∀i σ' H',i<n->Pv i σ' H'->g (.int (lo+i)) σ' H' fun σ3 H3=>tc σ3 H3 fun ok H4=>if ok=true then te σ3 H4 fun y H5=>∃ys,H5 D=some (.lst ys)∧ys.length<sizeLine∧Pv (i+1) σ3 (upd H5 D (.lst (ys++[y]))) else Pv (i+1) σ3 H4)
 (hd:∀σ' H',Pv n σ' H'->Q (.ref D) H'):
 zgz js g tc te σ Q (Itr lo n) H D:=by
 refine ⟨fun i m σ H=>m=n-i∧i≤n∧Pv i σ H,⟨n,by simp,ZAq _,h0⟩,?_⟩
 rintro i m σ' H' ⟨rfl,hi,p⟩
 by_cases hlt:i<n
 ·refine .inr ⟨hlt,Pv (i+1),fun σ2 H2 p'=>⟨n-(i+1),by omega,rfl,hlt,p'⟩,fun x H2 y=>?_⟩
  obtain ⟨e,y⟩:=y
  subst e y
  exact hs i σ' _ hlt p
 ·have e:i=n:=by omega
  subst e
  exact .inl ⟨ZAc _,hd σ' H' p⟩
theorem zd7 {K:ZBq} {a:Addr} {xs:List V} (Pv:Nat->St->Hp->Prop) (h0:Pv 0 (zfu js σ) (upd H D (.lst []))) (hl:∀i σ' H',i≤xs.length->Pv i σ' H'->SqL K H' a xs)
 (hs:∀i x σ' H',xs[i]?=some x->Pv i σ' H'->g x σ' H' fun σ3 H3=>tc σ3 H3 fun ok H4=>if ok=true then te σ3 H4 fun y H5=>∃ys,H5 D=some (.lst ys)∧ys.length<sizeLine∧Pv (i+1) σ3 (upd H5 D (.lst (ys++[y]))) else Pv (i+1) σ3 H4)
 (hd:∀σ' H',Pv xs.length σ' H'->Q (.ref D) H'):
 zgz js g tc te σ Q (Itl K a) H D:=by
 refine ⟨fun i m σ H=>m=xs.length-i∧i≤xs.length∧Pv i σ H,⟨xs.length,by simp,ZAq _,h0⟩,?_⟩
 rintro i m σ' H' ⟨rfl,hi,p⟩
 have q:=hl i σ' H' hi p
 by_cases hlt:i<xs.length
 ·refine .inr ⟨⟨xs,xs[i],q,by simp [hlt]⟩,Pv (i+1),fun σ2 H2 p'=>⟨xs.length-(i+1),by omega,rfl,hlt,p'⟩,fun x H2 y=>?_⟩
  obtain ⟨e,y⟩:=y
  subst e
  exact hs i x σ' _ (y xs q) p
 ·have e:i=xs.length:=by omega
  subst e
  exact .inl ⟨⟨xs,q,ZAc _⟩,hd σ' H' p⟩
end
end L2
set_option maxHeartbeats 4000000
namespace L2
open PySem PySem.Spec PyProof.Rows
section
variable {P:Program} {w:World} {H:Hp} {h:Heap} {a d C:Addr} {dx:Option Addr} {t:Addr} {fs:List (Str×V)}
end
section
variable {prog:Program} {w:World} {A:Around} {E:Value->Shared->Prop} {h:Heap} {g:Array GenState} {d:Drawn} {t:Nat} {os:OsState}
variable {nm q:Str} {C N:Addr} {bs bm:List Value} {hdct:Bool} {sn:List Str} {sub:List Value} {ab:Bool} {col:Option Bool} {dd:Option Addr} {k0 k1 k2 k3 k5:Option Value}
end
section
variable {X:Cx} {CX:CXT} {k:Nat} {f C Mo:Addr} {fd:FuncData} {ps:List Str} {sp:Sp} {E:XK} {x:Str} {p pos:Pos} {e:Expr} {es:List Expr} {t:TA}
end
end L2
namespace L2
open PySem PySem.Spec PyProof.Rows Builtin Builtin.ObjectAttr
end L2
namespace L2
open PySem PySem.Spec PyProof.Rows
section
variable {M:Model} {A:Around} {E:Value->Shared->Prop} {s:Shared} {base h0:Heap} {H:Hp} {env:Env} {outer:List Env} {L a C:Addr} {dx:Option Addr}
end
section
variable {P:Program} {w:World} {K:ZBq} {mg:Str->Option Value} {base:Heap} {N:List Str} {qual:Str} {scope:Scope} {f:Addr} {cd:Value} {A:Around} {outer:List Env} {s:Shared} {H:Hp} {EX:XK}
end
section
variable {P:Program} {w:World} {K:ZBq} {mg:Str->Option Value} {base:Heap} {N:List Str} {qual:Str} {scope:Scope} {f:Addr} {cd:Value} {A:Around} {outer:List Env} {s:Shared} {H:Hp} {EX:XK}
end
end L2
namespace L2
open PySem PySem.Spec PyProof.Rows
section
variable {X:Cx} {pins pins':List (Addr×Obj)} {Ex:Addr->Option Addr->St->Hp->Prop} {σ:St} {H:Hp} {s:Shared} {e:Value}
end
end L2
namespace L2
open PySem PySem.Spec PyProof.Rows
section
variable {X:Cx} {a b c d:Expr} {ta tb tc td:TE} {pos:Pos}
noncomputable def ztr (r r' r'':R2) (ta tb tc td:TE):TE:=fun σ H Q=>ta σ H fun x H1=>tb σ H1 fun y H2=>r x y H2 fun z H3=>∃k,z=.bl k∧
 (if k=true then tc σ H3 fun x2 H4=>r' y x2 H4 fun z2 H5=>∃k2,z2=.bl k2∧(if k2=true then td σ H5 fun x3 H6=>r'' x2 x3 H6 Q else Q (.bl false) H5) else Q (.bl false) H3)
theorem zkt {op op' op'':CmpOp} {r r' r'':R2} (ho:OpR X (compareOp op) r) (ho':OpR X (compareOp op') r') (ho'':OpR X (compareOp op'') r'') (ha:PE X a ta) (hb:PE X b tb) (hc:PE X c tc) (hd:PE X d td)
 (hm:lastMarks [op,op',op''] [b,c,d]=false:=by with_unfolding_all rfl):PT X (.Compare a [op,op',op''] [b,c,d] pos) (ztm (ztr r r' r'' ta tb tc td)):=by
 intro pins s σ H Q I h
 refine isTrue_chain (thn (ha pins s σ H _ I h) fun v s1 zz=>L2.el5 zz fun x H1 I1 r1 q1=>test_link (thn (hb pins s1 σ H1 _ I1 q1) fun u s2 zz=>L2.el5 zz fun y H2 I2 r2 q2=>
  thn (ho pins s2 σ H2 x y v u _ I2 r1 r2 q2) fun z s3 zz=>?_)) hm
 obtain ⟨z',H3,I3,r3,k,e,q3⟩:=zz
 subst e
 cases r3
 refine wpAny_truthy_bool ?_
 cases k with
 | false=>
  obtain ⟨k',e',q'⟩:=q3
  cases e'
  exact ite_ff ⟨H3,I3,q'⟩
 | true=>
  refine ite_tt (test_link (thn (hc pins s3 σ H3 _ I3 q3) fun x2 s4 zz=>L2.el5 zz fun y4 H4 I4 r4 q4=>thn (ho' pins s4 σ H4 y y4 u x2 _ I4 r2 r4 q4) fun z2 s5 zz=>?_))
  obtain ⟨z5,H5,I5,r5,k2,e2,q5⟩:=zz
  subst e2
  cases r5
  refine wpAny_truthy_bool ?_
  cases k2 with
  | false=>
   obtain ⟨k',e',q'⟩:=q5
   cases e'
   exact ite_ff ⟨H5,I5,q'⟩
  | true=>
   refine ite_tt (test_last (thn (hd pins s5 σ H5 _ I5 q5) fun x3 s6 zz=>L2.el5 zz fun y6 H6 I6 r6 q6=>thn (ho'' pins s6 σ H6 y4 y6 x2 x3 _ I6 r4 r6 q6) fun z3 s7 zz=>?_))
   obtain ⟨z7,H7,I7,r7,k3,e3,q7⟩:=zz
   subst e3
   cases r7
   exact wpAny_truthy_bool ⟨H7,I7,q7⟩
theorem zpz {ns:List Int}:∀{us:List Value},zcb (ns.map V.int) us->IntsAre us ns:=by
 induction ns with
 | nil=>intro us h;cases h;exact .nil
 | cons n r ih=>
  intro us h
  cases h with
  | cons q t=>
   obtain ⟨tk,rfl⟩:=q
   exact .cons n tk (ih t)
noncomputable def zz2 (K:ZBq) (neg:Bool):R2:=fun x y H Q=>∃(p q:Addr) (ns ms:List Int),x=.ref p∧y=.ref q∧SqL K H p (ns.map V.int)∧SqL K H q (ms.map V.int)∧Q (.bl (if neg then !decide (ns=ms) else decide (ns=ms))) H
theorem zpj (hu:X.A.units+64<cLine):OpR X (compareOp .NotEq) (zz2 X.K true):=by
 intro pins s σ H x y v u Q I rx ry h
 obtain ⟨p,q,ns,ms,rfl,rfl,h1,h2,hq⟩:=h
 cases rx
 cases ry
 obtain ⟨its,r1,p1,_⟩:=I.list h1
 obtain ⟨its2,r2,p2,_⟩:=I.list h2
 exact PySem.W.ke_ne_ints p1.isList p2.isList (zpz r1) (zpz r2) hu ⟨.bl _,H,I,rfl,hq⟩
theorem zca:zig X (.builtin "isinstance") (fun xs H Q=>∃x n t b,xs=[x,.ty n]∧zn1 X.K H x t∧PySem.W.kitOne X.K t (.type n)=some b∧Q (.bl b) H):=by
 intro pins s σ H xs us Q I r h
 obtain ⟨x,n,t,b,rfl,ty,e,q⟩:=h
 obtain ⟨u,v,rfl,r1,r2⟩:=zti r
 cases r2
 exact zpw I r1 ty e fun tk=>⟨.bl b,H,I.tok _,rfl,q⟩
end
section
variable {Y:Cx} {K:ZBq} {tg:Expr}
theorem zt7 {es:List Expr} {k:Nat} {t:TGs} {n:Nat} {pos:Pos} (hK:Y.K=K) (hc:Y.calm=true) (h:PGs Y es t) (hn:(assignEach es Y.env).length=n:=by rfl) (hst:(assignEach es Y.env).findIdx? (·.1)=none:=by rfl):PG Y (.Tuple es k pos) (zx6 K n t):=by
 subst hK;exact ziw hc h hn hst
end
end L2
namespace L2
open PySem PySem.Spec PyProof.Rows
section
variable {P:Program} {w:World} {H:Hp} {h:Heap} {a C:Addr} {dx:Option Addr} {t tb:Value}
end
section
variable {X:Cx} {pins:List (Addr×Obj)} {σ:St} {H:Hp} {s:Shared} {a C:Addr} {dx:Option Addr} {t tb:Value}
end
end L2
namespace L2
open PySem PySem.Spec PyProof.Rows Builtin
section
variable {prog:Program} {w:World} {A:Around} {E:Value->Shared->Prop} {s:Shared} {K:ZBq} {x C:Addr} {ox od:Obj} {name:Str}
end
section
variable {X:Cx} {K:ZBq} {e:Expr} {f:Str} {pos:Pos} {ta:TE}
end
end L2
namespace L2
open PySem PySem.Spec PyProof.Rows
structure zme (k:Nat) (A:Around):Prop where
 dp:A.depth+3*k+5<recursionLimit
 un:A.units+16*k+200<cLine
theorem zek.h {k:Nat} {A:Around} (r:zek k A):zme k A:=⟨r.dp,r.un⟩
theorem zme.deeper {k:Nat} {A:Around} (r:zme (k+1) A) (env:Env):zme k (A.deeper env):=⟨by have:=r.dp;show A.depth+1+3*k+5<_;omega,by have:=r.un;show A.units+3+16*k+200<_;omega⟩
noncomputable def zws (A:Around) (H:Hp):Prop:=A.handled=none∨∃(a C:Addr) (dx:Option Addr) (t tb:Value) (u:HO),A.handled=some (.ref a)∧H a=some (.frz (zla C dx t tb) u)
structure zn2 (P:Program) (w:World) (K:ZBq) (mg:Str->Option Value) (base:Heap) (CX:CXT) (k:Nat) (f:Addr) (fd:FuncData) (ps:List Str) (sp:Sp):Prop where
 len:∀vs H Q E,sp vs H Q E->vs.length=ps.length
 run:∀(A:Around) (outer:List Env) (s:Shared) (H:Hp) (args:Args) (us:List Value) (vs:List V) (Q:VK) (E:XK),zme k A->zws A H->zsd P w K mg base A outer s H->BindsTo s fd args (ps.zip us)->zcb vs us->sp vs H Q E->
  codeAny (model P w) A (.call (.ref f) args) (CR CX outer P w H s Q E) s
theorem zn2.fn {P:Program} {w:World} {K:ZBq} {mg:Str->Option Value} {base:Heap} {CX:CXT} {k:Nat} {f:Addr} {fd:FuncData} {ps:List Str} {sp:Sp} (F:zn2 P w K mg base CX k f fd ps sp):zbj P w K mg base CX k f fd ps sp:=
 ⟨F.len,fun A outer s H args us vs Q E hr he hb hv hs=>F.run A outer s H args us vs Q E hr.h (.inl hr.hd) he hb hv hs⟩
noncomputable def cxH (CX:CXT) (P:Program) (w:World) (K:ZBq) (mg:Str->Option Value) (base:Heap) (N:List Str) (qual:Str) (scope:Scope) (f:Addr) (cd:Value) (A:Around) (outer:List Env) (s:Shared) (H:Hp) (E:XK):Cx where
 prog:=P
 w:=w
 K:=K
 mg:=mg
 base:=base
 A:=A.deeper (envOfC qual scope s.heap.objs.size f cd)
 N:=N
 s₀:=s
 H₀:=H
 env:=envOfC qual scope s.heap.objs.size f cd
 outer:=outer
 stack:=envOfC qual scope s.heap.objs.size f cd::outer
 ex:=[]
 calm:=false
 fn:=fun _=>true
 pn:=[]
 xe:=fun e s'=>wpAny (model P w) (A.deeper (envOfC qual scope s.heap.objs.size f cd)) (leaving (envOfC qual scope s.heap.objs.size f cd) e) (fun _ s''=>CX outer H s E e s'') (fun e' s''=>CX outer H s E e' s'') s'
theorem zns {CX:CXT} {P:Program} {w:World} {K:ZBq} {mg:Str->Option Value} {base:Heap} {N ps:List Str} {qual:Str} {scope:Scope} {f:Addr} {cd:Value} {A:Around} {outer:List Env} {s s1:Shared} {H:Hp} {E:XK} {us:List Value} {vs:List V}
 (S:zat N ps scope) (e0:zsd P w K mg base A outer s H) (hl:vs.length=ps.length) (r:zcb vs us)
 (x:InCallC s s.heap.objs.size (bindL (envOfC qual scope s.heap.objs.size f cd).kindOf (ps.zip us) fun _=>none) (cellsFrom (s.heap.objs.size+1) scope.names []) (bindC (envOfC qual scope s.heap.objs.size f cd).kindOf (ps.zip us) fun _=>none) s1):
 Inv (cxH CX P w K mg base N qual scope f cd A outer s H E) [] (zdm N vs) H s1:=by
 have hpl:ps.length≤N.length:=by have:=congrArg List.length S.pre;rw [ZA1] at this;omega
 obtain ⟨h1,tk,rfl,hk⟩:=x.done
 have noA:∀b:Addr,b∉(cxH CX P w K mg base N qual scope f cd A outer s H E).ex:=fun b z=>absurd (show b∈([]:List Addr) from z) (by simp)
 refine ⟨⟨e0.mod,S.kind,rfl,rfl,ZAc _,fun y z c h1 h2=>?_,fun y hy=>?_,fun y c _ h=>?_,(fun z=>absurd (show false=true from z) ZAm),Around.frames_deeper e0.frames,.inr ⟨rfl,rfl⟩,fun b z=>absurd z (noA b),e0.bs,e0.bsz,fun b _ _=>noA b,fun b z=>absurd z (noA b),e0.funs,e0.frf⟩,
  rfl,e0.bare,Un.kept hk,⟨_,x.toInCall.ns,fun i y v h1 h2 h3=>?_⟩,fun y c h=>⟨_,x.cell y c h⟩,e0.hok.fresh (ZAc _),fun y c h=>?_,fun p hp=>absurd (show p∈([]:List (Addr×Obj)) from hp) (by simp),e0.hok.kept hk,?_⟩
 ·exact name_of_addr x.apart (PySem.mem_of_lookup h1) (PySem.mem_of_lookup h2)
 ·have hy:scope.names.lookup y=some .cell∨scope.names.lookup y=some .free:=hy
  rcases hy with hy | hy
  ·exact zhk hy
  ·exact absurd rfl (S.nofree _ (PySem.mem_of_lookup hy))
 ·exact ZAr (x.above y c (PySem.mem_of_lookup h))
 ·have hi:i<vs.length:=by
   unfold zdm at h2
   by_cases hi:i<vs.length
   ·exact hi
   ·rw [ZA0 (by simpa using hi)] at h2
    rw [List.getElem?_replicate] at h2
    split at h2<;>cases h2
  have ha:vs[i]?=some v:=by
   unfold zdm at h2
   rw [ZA6 (by simpa using hi),ZAg] at h2
   cases e:vs[i]? with
   | none=>rw [e] at h2;cases h2
   | some a=>rw [e] at h2;cases h2;rfl
  obtain ⟨u,hu,rv⟩:=r.get ha
  have hp:ps[i]?=some y:=by
   rw [←S.pre,List.getElem?_take_of_lt (by omega)];exact h1
  have ndP:ps.Nodup:=by rw [←S.pre];exact S.nd.sublist (List.take_sublist _ _)
  refine ⟨u,rv,?_⟩
  rcases S.par y (ZAh hp) with k | k
  ·exact .inl ⟨k,zib ndP hp hu k⟩
  ·obtain ⟨c,e⟩:=zhk (n:=s.heap.objs.size+1) k
   refine .inr ⟨.inl k,c,e,?_⟩
   have q:=x.cell y c e
   rw [zic ndP hp hu (by show scope.names.lookup y≠_;rw [k];decide)] at q
   exact q
 ·exact e0.hok.fresh (ZAr (x.above y c (PySem.mem_of_lookup h)))
 ·unfold zdm
  show _=N.length
  rw [ZAj,ZAa,ZBb]
  omega
theorem zwj {CX:CXT} {P:Program} {w:World} {K:ZBq} {mg:Str->Option Value} {base:Heap} {k:Nat} {f:Addr} {name qual:Str} {params:Arguments} {body:List Stmt} {scope:Scope} {dV kV doc pm cdv ct oc:Value} {an od:Option Addr}
 {osl:Array (Option Value)} {N ps:List Str} {sp:Sp} (lk:K.lookup f=some ⟨oc,od,.func (PySem.W.fnOf name qual params body scope dV kV doc pm an cdv ct),osl⟩) (hcd:PySem.W.codeIn K cdv qual=true) (S:zat N ps scope)
 (len:∀vs H Q E,sp vs H Q E->vs.length=ps.length)
 (hbody:∀(A:Around) (outer:List Env) (s:Shared) (H:Hp) (vs:List V) (Q:VK) (E:XK),zme k (A.deeper (envOfC qual scope s.heap.objs.size f cdv))->zws A H->sp vs H Q E->
  ∃t,PSs (cxH CX P w K mg base N qual scope f cdv A outer s H E) body t∧t { nx:=fun _ H'=>Q .non H',rt:=Q } (zdm N vs) H):
 zn2 P w K mg base CX (k+1) f (PySem.W.fnOf name qual params body scope dV kV doc pm an cdv ct) ps sp:=by
 refine ⟨len,fun A outer s H args us vs Q E hr hh e0 hb r hsp=>?_⟩
 have hl:=len _ _ _ _ hsp
 have KX:K.In s.heap:=e0.mod.kin.keeps fun b o e=>(e0.bs b o e).1
 have lim:s.heap.NoLimit:=e0.mod.nolimit.keeps fun b o e=>(e0.bs b o e).1
 have hkind:∀y∈ps.zip us,scope.names.lookup y.1=some .local∨(scope.names.lookup y.1=some .cell∧((cellsFrom (s.heap.objs.size+1) scope.names []).lookup y.1).isSome=true):=fun ⟨n,v⟩ hy=>by
  rcases S.par n (List.of_mem_zip hy).1 with q | q
  ·exact .inl q
  ·exact .inr ⟨q,PySem.W.cellsFrom_some _ _ _ (.inl q)⟩
 refine codeAny_call_function (show A.depth<recursionLimit from by have:=hr.dp;omega) (KX _ _ lk) rfl S.co S.gen rfl (PySem.W.codeRec_of KX hcd) (hb _ _ _ _ ?_)
 refine wpAny_newFunctionEnv_cells S.kind hkind fun env he s1 x=>?_
 subst he
 refine ⟨lim.keeps x.toInCall.keep,codeAny_func ?_⟩
 obtain ⟨t,ht,hq⟩:=hbody A outer s H vs Q E (hr.deeper _) hh hsp
 have I:Inv (cxH CX P w K mg base N qual scope f cdv A outer s H E) [] (zdm N vs) H s1:=zns S e0 hl r x
 refine wpAny_mono (ht [] s1 (zdm N vs) H _ I hq) (fun fl s' hs=>?_) fun e s' hs=>hs
 have fin:∀{σ':St} {H':Hp} {v:V} {u:Value},Inv (cxH CX P w K mg base N qual scope f cdv A outer s H E) [] σ' H' s'->zcm v u->Q v H'->CE outer P w H s Q u s':=
  fun {σ' H' v u} J rv q=>⟨v,H',J.os,J.bare,J.base,J.hok,rv,q⟩
 cases fl with
 | ret u=>
  obtain ⟨v,σ',H',J,rv,q⟩:=hs
  exact fin J rv q
 | next=>
  obtain ⟨σ',H',J,q⟩:=hs
  exact fin (v:=V.non) (u:=Value.none) J rfl q
 | brk=>
  obtain ⟨_,_,_,q⟩:=hs
  exact False.elim q
 | cont=>
  obtain ⟨_,_,_,q⟩:=hs
  exact False.elim q
section
variable {P:Program} {w:World} {K:ZBq} {mg:Str->Option Value} {base:Heap}
theorem Fun.okH {x qual:Str} {st:Stmt} {f:Addr} {fd:FuncData} {N ps:List Str} {k:Nat} {sp:Sp} (F:Fun K x qual st f fd) (S:zat N ps (zai st)) (len:∀vs H Q E,sp vs H Q E->vs.length=ps.length)
 (hbody:∀(cdv:Value) (A:Around) (outer:List Env) (s:Shared) (H:Hp) (vs:List V) (Q:VK) (E:XK),zme k (A.deeper (envOfC qual (zai st) s.heap.objs.size f cdv))->zwr (cxH CX0 P w K mg base N qual (zai st) f cdv A outer s H E).nox->sp vs H Q E->
  ∃t,PSs (cxH CX0 P w K mg base N qual (zai st) f cdv A outer s H E).nox (zdt st) t∧t { nx:=fun _ H'=>Q .non H',rt:=Q } (zdm N vs) H):zn2 P w K mg base CX0 (k+1) f fd ps sp:=by
 obtain ⟨oc,od,kV,doc,pm,an,cdv,ct,osl,rfl,lk,hcd⟩:=F.ex
 refine zwj lk hcd S len fun A outer s H vs Q E hr hh hsp=>?_
 obtain ⟨t,h,q⟩:=hbody cdv A outer s H vs Q E hr hh hsp
 exact ⟨t,h.nox,q⟩
end
section
variable {X:Cx} {CX:CXT} {k:Nat} {f:Addr} {fd:FuncData} {ps:List Str} {sp:Sp} {dvs:List V} {ds:List Value} {E:XK} {x:Str} {p pos:Pos} {e:Expr} {es:List Expr} {t:TA}
end
theorem zt8 {X:Cx} {es:List Expr} {k:Nat} {t:TGs} {n:Nat} {K:ZBq} {pos:Pos} (hK:X.K=K) (hq:zf6 X) (h:PGs X es t) (hn:(assignEach es X.env).length=n:=by rfl) (hst:(assignEach es X.env).findIdx? (·.1)=none:=by rfl):PG X (.Tuple es k pos) (zx6 K n t):=by
 subst hK
 intro pins s σ H v u Q I r hw
 obtain ⟨a,xs,e1,hs,hl,hw⟩:=hw
 subst e1
 cases r
 obtain ⟨its,rv,ht,hz⟩:=I.tuple hs
 rw [assign_Tuple]
 refine wpAny_bind (wpAny_standAt (zob (znt hq I) ht (by simp [hn,←hl,rv.length]) hst fun h' hx=>?_))
 have I1:Inv X pins σ H { s with heap:=h' }:=I.kept (t':=s.toks) fun b o e=>hx b o (ZAz (ZAs e)) e
 exact h pins _ σ H xs _ Q I1 (by simpa using rv) hw
end L2
namespace L2
open PySem PySem.Spec PyProof.Rows
noncomputable def zsa (xs ys:List V):Bool:=(List.range xs.length).all fun j=>eqV (xs.getD j .non) (ys.getD j .non)
theorem zgk:∀{xs:List V} {j:Nat} {x:V},xs.all zc0=true->xs[j]?=some x->zc0 x=true
 | [],_,_,_,e=>by simp at e
 | y::xs,j,x,h,e=>by
  rw [List.all_cons,Bool.and_eq_true] at h
  cases j with
  | zero=>simp at e;subst e;exact h.1
  | succ j=>exact zgk h.2 (by simpa using e)
theorem zjz {A:Around} {s:Shared} {xs ys:List V} {us vs:List Value} (r1:zcb xs us) (r2:zcb ys vs) (f1:xs.all zc0=true) (f2:ys.all zc0=true) (j:Nat) (h1:j<us.toArray.size) (h2:j<vs.toArray.size):
 SeqAt.EqAt A s us.toArray[j] vs.toArray[j] (eqV (xs.getD j .non) (ys.getD j .non)):=by
 have l1:=r1.length
 have l2:=r2.length
 rw [ZAi] at h1 h2
 have g1:xs[j]?=some (xs.getD j .non):=by rw [ZBg,ZAd (by omega)];rfl
 have g2:ys[j]?=some (ys.getD j .non):=by rw [ZBg,ZAd (by omega)];rfl
 obtain ⟨u,hu,ru⟩:=r1.get g1
 obtain ⟨v,hv,rv⟩:=r2.get g2
 have e1:us.toArray[j]=u:=by
  have:=(ZAb.mp hu).2
  simpa using this
 have e2:vs.toArray[j]=v:=by
  have:=(ZAb.mp hv).2
  simpa using this
 rw [e1,e2]
 exact zs7 ru rv (zgk f1 g1) (zgk f2 g2)
section
variable {X:Cx} {K:ZBq}
noncomputable def zz1 (K:ZBq):R2:=fun x y H Q=>∃p q xs ys,x=.ref p∧y=.ref q∧SqT K H p xs∧SqT K H q ys∧xs.all zc0=true∧ys.all zc0=true∧xs.length=ys.length∧Q (.bl (zsa xs ys)) H
theorem zv5 (hK:X.K=K) (hu:X.A.units+64<cLine):OpR X (compareOp .Eq) (zz1 K):=by
 subst hK
 intro pins s σ H x y v u Q I rx ry h
 obtain ⟨p,q,xs,ys,rfl,rfl,h1,h2,f1,f2,hl,hq⟩:=h
 cases rx
 cases ry
 obtain ⟨us,r1,p1,_⟩:=I.tuple h1
 obtain ⟨vs,r2,p2,_⟩:=I.tuple h2
 have l1:=r1.length
 have l2:=r2.length
 refine SeqAt.eq_tupleAt p1 p2 (by omega) (zjz r1 r2 f1 f2) ⟨.bl _,H,I,rfl,?_⟩
 rw [ZAi,ZAi,←l1,←l2,←hl,Nat.min_self,ZBn,Bool.and_true]
 exact hq
end
end L2
namespace L2
open PySem PySem.Spec PyProof.Rows
section
variable {X:Cx} {K:ZBq}
end
end L2
namespace L2
open PySem PySem.Spec PyProof.Rows
section
variable {X:Cx} {pins0:List (Addr×Obj)} {Ex:Addr->Option Addr->St->Hp->Prop} {k:Nat} {f:Addr} {fd:FuncData} {ps:List Str} {sp:Sp} {dvs:List V} {ds:List Value} {x:Str} {p pos:Pos} {e:Expr} {es:List Expr} {t:TA}
end
end L2
namespace L2
open PySem PySem.Spec PyProof.Rows
noncomputable def zw8 (t u:TS):TS:=fun D σ H=>∀N:St->Hp->Prop,(∀σ' H',u D σ' H'->N σ' H')->t { D with nx:=N } σ H
theorem zag {X:Cx} {st:Stmt} {rest:List Stmt} {t u:TS} (h1:PS X st t) (h2:PSs X rest u):PSs X (st::rest) (zw8 t u):=fun pins s σ H D I h=>zal h1 h2 pins s σ H D I (h (u D) fun _ _ z=>z)
end L2
namespace L2
open PySem PySem.Spec PyProof.Rows
noncomputable def zt3:R2:=fun x y H Q=>∃p xs i v,x=.ref p∧y=.int i∧H p=some (.lst xs)∧atI xs i=some v∧Q v H
noncomputable def zt2:R2:=fun x y H Q=>∃p xs i v,x=.ref p∧y=.int i∧H p=some (.tup xs)∧atI xs i=some v∧Q v H
theorem zav {X:Cx}:IxR X zt3:=by
 intro value slice pins s σ H x y v u Q I rx ry zz hs
 obtain ⟨p,xs,i,v',e1,e2,h,e,q⟩:=zz
 exact zpu value slice pins s σ H x y v u Q I rx ry ⟨p,xs,i,v',e1,e2,SqL.of h,e,q⟩ hs
theorem zbn {X:Cx}:IxR X zt2:=by
 intro value slice pins s σ H x y v u Q I rx ry zz hs
 obtain ⟨p,xs,i,v',e1,e2,h,e,q⟩:=zz
 exact zwf value slice pins s σ H x y v u Q I rx ry ⟨p,xs,i,v',e1,e2,SqT.of h,e,q⟩ hs
theorem ixT {X:Cx} {a:Expr} {ta:TE} {k:Int} {j pos pos2} (h:PE X a ta):PE X (.Subscript a (.Constant (.int k) j pos2) pos) (tOp zt2 ta (tC (.int k))):=za9 zbn h zah (fun _ _=>rfl)
theorem rdT {σ:St} {H:Hp} {p:Addr} {xs:List V} {i:Int} {v:V} {Q:VK} (h:H p=some (.tup xs)) (e:atI xs i=some v) (q:Q v H):tC (.int i) σ H fun y H2=>zt2 (.ref p) y H2 Q:=⟨p,xs,i,v,rfl,rfl,h,e,q⟩
theorem rdL {σ:St} {H:Hp} {p:Addr} {xs:List V} {i:Int} {v:V} {Q:VK} (h:H p=some (.lst xs)) (e:atI xs i=some v) (q:Q v H):tC (.int i) σ H fun y H2=>zt3 (.ref p) y H2 Q:=⟨p,xs,i,v,rfl,rfl,h,e,q⟩
theorem zqp {σ:St} {H:Hp} {p:Addr} {xs:List V} {j:Nat} {i:Int} {v:V} {Q:VK} (h0:σ[j]?=some (some (.int i))) (h:H p=some (.lst xs)) (e:atI xs i=some v) (q:Q v H):ztl j σ H fun y H2=>zt3 (.ref p) y H2 Q:=⟨.int i,h0,p,xs,i,v,rfl,rfl,h,e,q⟩
end L2
namespace MA
end MA
namespace MB
open MA
end MB
namespace MB
open MA
end MB
namespace MB
open MA
end MB
namespace MB
open MA
end MB
namespace MB
open MA
end MB
namespace Y0
open PySem L2
noncomputable def top (i:Nat):Stmt:=PySem.Challenge.pw_momentties_k09_whole_papers_show.main.body.getD i (.Pass ⟨0,0,0,0⟩)
noncomputable abbrev sP_room_bounds:Stmt:=top 5
noncomputable abbrev sP_span_bounds:Stmt:=top 6
noncomputable abbrev sP_bounds_with:Stmt:=top 7
noncomputable abbrev sP_told_bounds:Stmt:=top 8
noncomputable abbrev sP_falls_by_end:Stmt:=top 11
noncomputable abbrev sP_by_sum:Stmt:=top 12
noncomputable abbrev sP_by_late:Stmt:=top 13
noncomputable abbrev sP_by_soon:Stmt:=top 14
noncomputable abbrev sP_by_sure:Stmt:=top 15
noncomputable abbrev sP_by_back:Stmt:=top 16
noncomputable abbrev sP_by_cross:Stmt:=top 17
noncomputable abbrev sP_what_follows:Stmt:=top 18
noncomputable abbrev sP_bars_every_hand:Stmt:=top 19
noncomputable abbrev sP_row_follows:Stmt:=top 20
noncomputable abbrev sP_is_paper:Stmt:=top 21
noncomputable abbrev sC_Closing_init:Stmt:=zdh (top 23) 0
noncomputable abbrev sC_Closing_is_news:Stmt:=zdh (top 23) 1
noncomputable abbrev sC_Closing_take:Stmt:=zdh (top 23) 2
noncomputable abbrev sC_Closing_draw:Stmt:=zdh (top 23) 3
noncomputable abbrev sC_Closing_known_of:Stmt:=zdh (top 23) 4
noncomputable abbrev sC_Closing_ties_to:Stmt:=zdh (top 23) 5
noncomputable abbrev sC_Closing_draw_from_tie:Stmt:=zdh (top 23) 6
noncomputable abbrev sC_Closing_draw_from_wait:Stmt:=zdh (top 23) 7
noncomputable abbrev sC_Closing_draw_all:Stmt:=zdh (top 23) 8
noncomputable abbrev sC_Closing_best_drawn:Stmt:=zdh (top 23) 9
noncomputable abbrev sP_numbers_needed:Stmt:=top 24
noncomputable abbrev sP_paper_up_to:Stmt:=top 25
noncomputable abbrev sP_is_told:Stmt:=top 26
noncomputable abbrev sP_kept:Stmt:=top 27
noncomputable abbrev sP_are_two_moments:Stmt:=top 33
noncomputable abbrev sP_look_over_size:Stmt:=top 34
noncomputable abbrev sP_look_over_ties:Stmt:=top 35
noncomputable abbrev sP_look_over_falls:Stmt:=top 36
noncomputable abbrev sC_Web_init:Stmt:=zdh (top 37) 0
noncomputable abbrev sC_Web_ties:Stmt:=zdh (top 37) 1
noncomputable abbrev sC_Web_falls:Stmt:=zdh (top 37) 2
noncomputable abbrev sNext:Stmt:=top 39
noncomputable abbrev sWhole:Stmt:=top 40
noncomputable abbrev sNamed:Stmt:=top 41
noncomputable abbrev sFalls:Stmt:=top 42
noncomputable abbrev sTies:Stmt:=top 43
noncomputable abbrev sWeb:Stmt:=top 44
noncomputable abbrev sL_bounds:Stmt:=top 45
noncomputable abbrev sL_follows:Stmt:=top 46
noncomputable abbrev sL_is_paper:Stmt:=top 47
noncomputable abbrev sL_is_form:Stmt:=top 48
noncomputable abbrev sLaw:Stmt:=top 49
end Y0
namespace Y0
open PySem L2
structure Fn (K:ZBq) (mg:Str->Option Value) (x:Str) (st:Stmt) (ps:List Str) (f:Addr) (fd:FuncData):Prop where
 F:Fun K x x st f fd
 b:zdc K fd ps []
 g:mg x=some (.ref f)
end Y0
namespace L2
open PySem
noncomputable def zdl (d:Addr) (H H':Hp):Prop:=∀b o,H b=some o->b≠d->H' b=some o
theorem zdl.refl (d:Addr) (H:Hp):zdl d H H:=fun _ _ e _=>e
theorem zdl.trans {d:Addr} {H H1 H2:Hp} (x:zdl d H H1) (y:zdl d H1 H2):zdl d H H2:=fun b o e n=>y b o (x b o e n) n
theorem zad {H:Hp} {p:Addr} {o:HO} (h:H p=none):zbu H (upd H p o):=fun b u e=>by rw [zaj (zae e h)];exact e
end L2
namespace Y0
open PySem L2
noncomputable def zie (K:ZBq) (H:Hp) (sa:Addr) (ns:List Int):Prop:=(∃o,H sa=some (.frz o (.lst (ns.map V.int))))∨
 ∃(o:Obj) (its:Array Value) (n:Nat),K.lookup sa=some o∧o.cls=.type "list"∧o.dict=none∧o.data=.seq its n∧its.size≤sizeLine∧zcb (ns.map V.int) its.toList
theorem zie.sq {K:ZBq} {H:Hp} {sa:Addr} {ns:List Int} (h:zie K H sa ns):SqL K H sa (ns.map V.int):=by
 rcases h with ⟨o,h⟩ | h
 ·exact .inl (.inr ⟨o,h⟩)
 ·exact .inr h
theorem zie.same {K:ZBq} {H H1:Hp} {sa:Addr} {ns:List Int} (h:zie K H sa ns) (k:zbu H H1):zie K H1 sa ns:=by
 rcases h with ⟨o,h⟩ | h
 ·exact .inl ⟨o,k _ _ h⟩
 ·exact .inr h
theorem zie.keep {K:ZBq} {H H1:Hp} {sa l:Addr} {ns:List Int} {xs:List V} (h:zie K H sa ns) (k:zdl l H H1) (hl:H l=some (.lst xs)):zie K H1 sa ns:=by
 rcases h with ⟨o,h⟩ | h
 ·exact .inl ⟨o,k _ _ h (zbp h hl (fun z=>nomatch z))⟩
 ·exact .inr h
structure zft (K:ZBq) (sa:Addr) (H:Hp) (d:Addr):Prop where
 at_:∃p:Nat,H d=some (.lst [.ref sa,.int p])
 scr:∃ns:List Int,zie K H sa ns
theorem zft.same {K:ZBq} {sa d:Addr} {H H1:Hp} (x:zft K sa H d) (k:zbu H H1):zft K sa H1 d:=by
 obtain ⟨⟨p,h⟩,⟨ns,r⟩⟩:=x
 exact ⟨⟨p,k _ _ h⟩,⟨ns,r.same k⟩⟩
noncomputable def zmp (K:ZBq):Sp:=fun vs H Q _=>∃d sa m,vs=[.ref d,.int m]∧zft K sa H d∧1≤m∧∀r H',0≤r->r<m->zft K sa H' d->zdl d H H'->Q (.int r) H'
section
variable {P:Program} {w:World} {K:ZBq} {mg:Str->Option Value} {base:Heap}
theorem scN:zat ["_law_dice","_law_many"] ["_law_dice","_law_many"] (zai sNext):=⟨rfl,rfl,rfl,by decide+kernel,rfl,by decide+kernel,by decide+kernel⟩
theorem ok_next {f:Addr} {fd:FuncData} (F:Fn K mg "_law_next" sNext ["_law_dice","_law_many"] f fd) (len:mg "len"=none):zbj P w K mg base CX0 1 f fd ["_law_dice","_law_many"] (zmp K):=by
 refine F.F.ok scN (fun vs H Q E h=>?_) (fun cdv A outer s H vs Q E hr h=>?_)
 ·obtain ⟨d,sa,m,rfl,_⟩:=h
  rfl
 ·obtain ⟨d,sa,m,rfl,D,hm,k⟩:=h
  obtain ⟨⟨p,hd⟩,⟨ns,hs0⟩⟩:=id D
  refine ⟨_,zal (zs1 (zbi zcr (za9 zav (pv 0) zah (fun _ _=>rfl)) zah) (zvw (pv 0) zah zq2))
   (zal (zbk (zak zri (za9 zav (pv 0) zah (fun _ _=>rfl)) (zau za5 (by rfl) len PySem.boot_len (zaa (za9 zav (pv 0) zah (fun _ _=>rfl)) zac)) (zam _)) (zaf (zaq zah)) zas)
   (zaf (zaq (zbi zpk (za9 zpu (za9 zav (pv 0) zah (fun _ _=>rfl)) (zbi zcj (za9 zav (pv 0) zah (fun _ _=>rfl)) zah) (fun _ _=>rfl)) (pv 1))))),?_⟩
  refine ⟨_,rfl,rdL hd rfl ⟨_,_,rfl,rfl,_,rfl,_,_,_,_,rfl,rfl,hd,rfl,?_⟩⟩
  have hd1:upd H d (.lst ([V.ref sa,V.int p].set 1 (.int ((p:Int)+1)))) d=some (.lst [.ref sa,.int ((p:Int)+1)]):=zab
  have kp:zdl d H (upd H d (.lst ([V.ref sa,V.int p].set 1 (.int ((p:Int)+1))))):=fun b o e n=>by rw [zaj n];exact e
  have hs2:=hs0.keep kp hd
  have hs1:=hs2.sq
  have D1:zft K sa (upd H d (.lst ([V.ref sa,V.int p].set 1 (.int ((p:Int)+1))))) d:=⟨⟨p+1,hd1⟩,⟨ns,hs2⟩⟩
  refine ⟨_,rfl,rdL hd1 rfl ⟨_,rfl,rdL hd1 rfl ⟨_,_,rfl,.inl hs1,_,_,rfl,rfl,_,rfl,?_⟩⟩⟩
  refine znr (fun _=>?_) (fun hc=>?_)
  ·exact k 0 _ (Int.le_refl _) (by omega) D1 kp
  ·have hlt:p<ns.length:=by
    rw [ZAa] at hc
    simp only [ZBe] at hc
    omega
   have ha:atI (ns.map V.int) ((p:Int)+1-1)=some (.int ns[p]):=by
    rw [show (p:Int)+1-1=((p:Nat):Int) by omega]
    exact zby (by rw [ZAg,ZAd hlt];rfl)
   refine ⟨_,rfl,rdL hd1 rfl ⟨_,rfl,rdL hd1 rfl ⟨_,_,rfl,rfl,_,_,_,_,rfl,rfl,hs1,ha,_,rfl,_,_,rfl,rfl,(by show (0:Int)<m;omega),?_⟩⟩⟩
   exact k _ _ (Int.emod_nonneg _ (by omega)) (Int.emod_lt_of_pos _ (by omega)) D1 kp
end
end Y0
namespace L2
open PySem
noncomputable def zzg (t:TS):TS:=fun D σ H=>∃R:St->Hp->Prop,t { D with nx:=R } σ H∧∀σ' H',R σ' H'->D.nx σ' H'
theorem ziv {X:Cx} {st:Stmt} {t:TS} (h:PS X st t):PS X st (zzg t):=by
 intro pins s σ H D I hw
 obtain ⟨R,h1,h2⟩:=hw
 refine thn (h pins s σ H _ I h1) fun f s1 q=>?_
 cases f with
 | next=>obtain ⟨σ',H',I',r⟩:=q;exact ⟨σ',H',I',h2 σ' H' r⟩
 | brk=>exact q
 | cont=>exact q
 | ret v=>exact q
noncomputable def zxg (t:TE):TE:=fun σ H Q=>∃R:VK,t σ H R∧∀v H',R v H'->Q v H'
theorem zvz {X:Cx} {e:Expr} {t:TE} (h:PE X e t):PE X e (zxg t):=by
 intro pins s σ H Q I hw
 obtain ⟨R,h1,h2⟩:=hw
 exact thn (h pins s σ H _ I h1) fun v s1 zz=>L2.el5 zz fun x H1 I1 r1 q1=>⟨x,H1,I1,r1,h2 x H1 q1⟩
noncomputable def zci (H:Hp) (a:Addr) (ps:List Addr) (rows:List (List Int)):Prop:=H a=some (.lst (ps.map V.ref))∧Paired (fun p r=>H p=some (.tup (r.map V.int))) ps rows
noncomputable def zbq (H:Hp) (a:Addr) (rows:List (List Int)):Prop:=∃ps,zci H a ps rows
theorem zan {α β:Type} {F G:α->β->Prop} {l:List α} {m:List β} (h:Paired F l m) (i:∀a b,F a b->G a b):Paired G l m:=Paired.mapP h i
theorem zci.same {H H':Hp} {a:Addr} {ps:List Addr} {rows:List (List Int)} (h:zci H a ps rows) (k:zbu H H'):zci H' a ps rows:=⟨k _ _ h.1,zan h.2 fun _ _ e=>k _ _ e⟩
theorem zci.keep {H H':Hp} {a d:Addr} {ps:List Addr} {rows:List (List Int)} {xs:List V} (h:zci H a ps rows) (k:zdl d H H') (hd:H d=some (.lst xs)) (ne:a≠d):zci H' a ps rows:=
 ⟨k _ _ h.1 ne,zan h.2 fun _ _ e=>k _ _ e (zbp e hd (fun z=>nomatch z))⟩
theorem zbq.same {H H':Hp} {a:Addr} {rows:List (List Int)} (h:zbq H a rows) (k:zbu H H'):zbq H' a rows:=let ⟨ps,r⟩:=h;⟨ps,r.same k⟩
theorem zbq.keep {H H':Hp} {a d:Addr} {rows:List (List Int)} {xs:List V} (h:zbq H a rows) (k:zdl d H H') (hd:H d=some (.lst xs)) (ne:a≠d):zbq H' a rows:=let ⟨ps,r⟩:=h;⟨ps,r.keep k hd ne⟩
theorem zci.len {H:Hp} {a:Addr} {ps:List Addr} {rows:List (List Int)} (h:zci H a ps rows):ps.length=rows.length:=h.2.length
theorem zci.push {H:Hp} {a p:Addr} {ps:List Addr} {rows:List (List Int)} {r:List Int} (h:zci H a ps rows) (hp:H p=some (.tup (r.map V.int))):zci (upd H a (.lst (ps.map V.ref++[.ref p]))) a (ps++[p]) (rows++[r]):=by
 have na:∀q xs,H q=some (.tup xs)->q≠a:=fun q xs e=>zbp e h.1 (fun z=>nomatch z)
 refine ⟨by rw [zab,ZAp];rfl,Paired.snoc (zan h.2 fun q r e=>?_) ?_⟩
 ·rw [zaj (na q _ e)];exact e
 ·rw [zaj (na p _ hp)];exact hp
theorem zcn {d l:Addr} {H0 H:Hp} {o:HO} (k:zdl d H0 H) (h:H0 l=none):zdl d H0 (upd H l o):=fun b u e n=>by
 rw [zaj (zae e h)]
 exact k b u e n
theorem zdl.free {d l:Addr} {H0 H:Hp} (k:zdl d H0 H) (h:H l=none) (hd:∃o,H d=some o):H0 l=none:=by
 cases q:H0 l with
 | none=>rfl
 | some o=>
  by_cases e:l=d
  ·subst e
   obtain ⟨o',e'⟩:=hd
   rw [h] at e'
   cases e'
  ·rw [k l o q e] at h
   cases h
end L2
namespace Y0
open PySem L2
theorem zft.there {K:ZBq} {sa d:Addr} {H:Hp} (x:zft K sa H d):∃o,H d=some o:=let ⟨p,e⟩:=x.at_;⟨_,e⟩
theorem zft.upd {K:ZBq} {sa d l:Addr} {H:Hp} {o:HO} {xs:List V} (x:zft K sa H d) (hl:H l=some (.lst xs)) (hd:l≠d):zft K sa (upd H l o) d:=by
 obtain ⟨⟨p,h⟩,⟨ns,r⟩⟩:=x
 exact ⟨⟨p,by rw [zaj (Ne.symm hd)];exact h⟩,⟨ns,r.keep (fun b u e n=>by rw [zaj n];exact e) hl⟩⟩
theorem zft.new {K:ZBq} {sa d l:Addr} {H:Hp} {o:HO} (x:zft K sa H d) (hl:H l=none):zft K sa (L2.upd H l o) d:=x.same (zad hl)
noncomputable def zb1 (m n t:Int):Int:=if m=0 then 0 else 1+(m-1+t) % (n-1)
noncomputable def zoq:Sp:=fun vs H Q _=>∃m n t,vs=[.int m,.int n,.int t]∧2≤n∧Q (.int (zb1 m n t)) H
section
variable {P:Program} {w:World} {K:ZBq} {mg:Str->Option Value} {base:Heap}
theorem zzp:zat ["_law_moment","_law_many","_law_turn"] ["_law_moment","_law_many","_law_turn"] (zai sNamed):=⟨rfl,rfl,rfl,by decide+kernel,rfl,by decide+kernel,by decide+kernel⟩
theorem ok_named {f:Addr} {fd:FuncData} (F:Fn K mg "_law_named" sNamed ["_law_moment","_law_many","_law_turn"] f fd):zbj P w K mg base CX0 1 f fd ["_law_moment","_law_many","_law_turn"] zoq:=by
 refine F.F.ok zzp (fun vs H Q E h=>?_) (fun cdv A outer s H vs Q E hr h=>?_)
 ·obtain ⟨m,n,t,rfl,_⟩:=h
  rfl
 ·obtain ⟨m,n,t,rfl,hn,k⟩:=h
  refine ⟨_,zal (zbk (zak zbv (pv 0) zah (zam _)) (zaf (zaq zah)) zas)
   (zaf (zaq (zbi zcr zah (zbi zpk (zbi zcr (zbi zcj (pv 0) zah) (pv 2)) (zbi zcj (pv 1) zah))))),?_⟩
  refine ⟨_,rfl,rfl,_,rfl,?_⟩
  refine znr (fun hc=>?_) (fun hc=>?_)
  ·have e:m=0:=by simpa using hc
   have q:zb1 m n t=0:=by unfold zb1;rw [if_pos e]
   rw [q] at k
   exact k
  ·have e:¬m=0:=by simpa using hc
   have q:zb1 m n t=1+(m-1+t) % (n-1):=by unfold zb1;rw [if_neg e]
   rw [q] at k
   exact ⟨_,rfl,_,_,rfl,rfl,_,rfl,_,_,rfl,rfl,_,rfl,_,_,rfl,rfl,_,_,rfl,rfl,(by show (0:Int)<n-1;omega),_,_,rfl,rfl,k⟩
end
end Y0
namespace Y0
open PySem L2
noncomputable def ze3 (n:Int) (c:Nat) (rows:List (List Int)):Prop:=∀(k:Nat) r,rows[k]?=some r->∃a l m:Int,r=[a,n-1-k,l,m]∧0≤a∧a<n-c∧1≤l∧l≤m∧m≤60
theorem ze3.snoc {n:Int} {c:Nat} {rows:List (List Int)} {a l m:Int} (h:ze3 n c rows) (h1:0≤a) (h2:a<n-c) (h3:1≤l) (h4:l≤m) (h5:m≤60):ze3 n c (rows++[[a,n-1-rows.length,l,m]]):=by
 intro k r e
 by_cases hk:k<rows.length
 ·rw [ZA6 hk] at e
  exact h k r e
 ·rw [ZA0 (by omega)] at e
  have hk':k-rows.length=0:=by
   cases q:k-rows.length with
   | zero=>rfl
   | succ z=>rw [q] at e;simp at e
  rw [hk'] at e
  cases e
  have:k=rows.length:=by omega
  subst this
  exact ⟨a,l,m,rfl,h1,h2,h3,h4,h5⟩
noncomputable def Few (wd:Int) (rows:List (List Int)):Prop:=wd≠8->rows.length≤3∧∀r∈rows,r.getD 3 0-r.getD 2 0<wd
noncomputable def zov (K:ZBq):Sp:=fun vs H Q _=>∃d sa n wd,vs=[.ref d,.int n,.int wd]∧zft K sa H d∧2≤n∧n≤8∧1≤wd∧wd≤8∧
 ∀(l:Addr) (c:Nat) rows H',(c:Int)≤n-1->rows.length=c->ze3 n c rows->zbq H' l rows->H l=none->zft K sa H' d->zdl d H H'->Few wd rows->Q (.ref l) H'
section
variable {P:Program} {w:World} {K:ZBq} {mg:Str->Option Value} {base:Heap}
noncomputable abbrev nF:List Str:=["_law_d","_law_many","_law_wide","_law_count","_law_falls_here","_law_k","_law_least","_law_most"]
theorem scF:zat nF ["_law_d","_law_many","_law_wide"] (zai sFalls):=⟨rfl,rfl,rfl,by decide+kernel,rfl,by decide+kernel,by decide+kernel⟩
theorem ok_falls {f fN:Addr} {fd fdN:FuncData} (F:Fn K mg "_law_falls" sFalls ["_law_d","_law_many","_law_wide"] f fd) (FN:Fn K mg "_law_next" sNext ["_law_dice","_law_many"] fN fdN)
 (GN:zbj P w K mg base CX0 1 fN fdN ["_law_dice","_law_many"] (zmp K)) (min:mg "min"=none) (range:mg "range"=none):zbj P w K mg base CX0 2 f fd ["_law_d","_law_many","_law_wide"] (zov K):=by
 refine F.F.ok scF (fun vs H Q E h=>?_) (fun cdv A outer s H vs Q E hr h=>?_)
 ·obtain ⟨d,sa,n,wd,rfl,_⟩:=h
  rfl
 ·obtain ⟨d,sa,n,wd,rfl,D,hn1,hn2,hw1,hw2,k⟩:=h
  refine ⟨_,zal (za0 (i:=3) scF.nd rfl (Or.inl rfl) (zao GN hr rfl FN.g FN.F.kp FN.b .nil za1 (zaa (pv 0) (zaa (zbi zcr (zau (zdq rfl) (by rfl) min (by decide+kernel) (zaa zah (zaa (zbi zcj (pv 1) zah) zac))) zah) zac))))
   (zal (ziv (zbk (PW.pt (zce (zak zbv (pv 2) zah (zam _)) (zde (zak zbv (zao GN hr rfl FN.g FN.F.kp FN.b .nil za1 (zaa (pv 0) (zaa zah zac))) zah (zam _)))))
    (zaf (za0 (i:=3) scF.nd rfl (Or.inl rfl) (zao GN hr rfl FN.g FN.F.kp FN.b .nil za1 (zaa (pv 0) (zaa (pv 1) zac))))) zas))
   (zal (za0 (i:=4) scF.nd rfl (Or.inl rfl) (zcy zac))
   (zal (zcx PassesOwn.never rfl (zd2 rfl range (zaa (pv 3) zac)) (zap (i:=5) scF.nd rfl (Or.inl rfl))
    (zal (za0 (i:=6) scF.nd rfl (Or.inl rfl) (zbi zcr zah (zao GN hr rfl FN.g FN.F.kp FN.b .nil za1 (zaa (pv 0) (zaa (pv 2) zac)))))
    (zal (za0 (i:=7) scF.nd rfl (Or.inl rfl) (zbi zcr (pv 6) (zao GN hr rfl FN.g FN.F.kp FN.b .nil za1 (zaa (pv 0) (zaa (pv 2) zac)))))
    (zal (ziv (zbk (PW.pt (zce (zak zbv (pv 2) zah (zam _)) (zde (zak zbv (zao GN hr rfl FN.g FN.F.kp FN.b .nil za1 (zaa (pv 0) (zaa zah zac))) zah (zam _)))))
     (zal (za0 (i:=6) scF.nd rfl (Or.inl rfl) (zbi zcr zah (zao GN hr rfl FN.g FN.F.kp FN.b .nil za1 (zaa (pv 0) (zaa zah zac)))))
     (zaf (za0 (i:=7) scF.nd rfl (Or.inl rfl) (zbi zcr (pv 6) (zao GN hr rfl FN.g FN.F.kp FN.b .nil za1 (zaa (pv 0) (zaa (zbi zcj zah (pv 6)) zac))))))) zas))
    (zaf (zbt (zjp PySem.F.plainAttrs_list PySem.F.slot_list_append PySem.F.type_list_append zcs (pv 4)
     (zaa (za8 (zaa (zao GN hr rfl FN.g FN.F.kp FN.b .nil za1 (zaa (pv 0) (zaa (zbi zcj (pv 1) (pv 3)) zac))) (zaa (zbi zcj (zbi zcj (pv 1) zah) (pv 5)) (zaa (pv 6) (zaa (pv 7) zac))))) zac))))))))
   (zaf (zaq (pv 4)))))),?_⟩
  refine ⟨_,rfl,_,rfl,_,_,rfl,rfl,_,_,rfl,_,_,rfl,rfl,d,sa,_,rfl,D,(by split<;>omega),fun c0 H1 hc0 hc1 D1 k1=>?_⟩
  have hc2:c0≤n-1:=by
   revert hc1
   split<;>intro hc1<;>omega
  have hc3:c0≤3:=by
   revert hc1
   split<;>intro hc1<;>omega
  refine ⟨fun σ' H'=>∃c:Nat,(c:Int)≤n-1∧(wd≠8->c≤3)∧σ'=[some (.ref d),some (.int n),some (.int wd),some (.int (c:Int)),none,none,none,none]∧zft K sa H' d∧zdl d H H',?_,?_⟩
  ·
   refine ⟨_,rfl,rfl,_,rfl,?_⟩
   refine znr (fun h8=>?_) (fun _=>?_)
   ·have h8:wd=8:=by simpa using h8
    refine ⟨_,rfl,d,sa,_,rfl,D1,by decide,fun r H2 _ _ D2 k2=>⟨rfl,_,rfl,?_⟩⟩
    refine znr (fun _=>?_) (fun _=>?_)
    ·refine ⟨_,rfl,_,rfl,d,sa,_,rfl,D2,by omega,fun c H3 h0 h1 D3 k3=>⟨c.toNat,by omega,fun z=>absurd h8 z,?_,D3,(k1.trans k2).trans k3⟩⟩
     rw [Int.toNat_of_nonneg h0]
     rfl
    ·exact ⟨c0.toNat,by omega,fun z=>absurd h8 z,by rw [Int.toNat_of_nonneg hc0];rfl,D2,k1.trans k2⟩
   ·refine zeh ?_
    exact ⟨c0.toNat,by omega,fun _=>by omega,by rw [Int.toNat_of_nonneg hc0];rfl,D1,k1⟩
  ·rintro σ' H2 ⟨c,hc,hcw,rfl,D2,k2⟩
   refine ⟨ZAq _,fun l hl=>?_⟩
   have hl0:H l=none:=k2.free hl D2.there
   have ld:l≠d:=fun e=>by
    subst e
    obtain ⟨o,q⟩:=D2.there
    rw [hl] at q
    cases q
   refine ⟨_,rfl,_,rfl,by omega,by omega,zeq (n:=c) (fun i σ' H'=>∃v1 v2 v3 ps rows,σ'=[some (.ref d),some (.int n),some (.int wd),some (.int (c:Int)),some (.ref l),v1,v2,v3]∧zci H' l ps rows∧rows.length=i∧ze3 n c rows∧zft K sa H' d∧zdl d H H'∧(wd≠8->∀r∈rows,r.getD 3 0-r.getD 2 0<wd))
    ⟨none,none,none,[],[],rfl,⟨zab,.nil⟩,rfl,(fun k r e=>by simp at e),D2.new hl,zcn k2 hl0,fun _ r hr=>nomatch hr⟩ ?_ ?_⟩
   ·rintro i σ' H3 hi ⟨v1,v2,v3,ps,rows,rfl,R3,hlen,hF,D3,k3,few⟩
    have kl:∀{H4:Hp},zdl d H3 H4->zci H4 l ps rows:=fun k4=>by
     obtain ⟨p,e⟩:=D3.at_
     exact R3.keep k4 e ld
    refine ⟨_,rfl,_,rfl,d,sa,_,rfl,D3,hw1,fun r1 H4 h1a h1b D4 k4=>⟨_,_,rfl,rfl,?_⟩⟩
    refine ⟨_,rfl,_,rfl,_,rfl,d,sa,_,rfl,D4,hw1,fun r2 H5 h2a h2b D5 k5=>⟨_,_,rfl,rfl,?_⟩⟩
    refine ⟨fun σ' H'=>∃a b:Int,1≤a∧a≤b∧b≤60∧(wd≠8->b-a<wd)∧σ'=[some (.ref d),some (.int n),some (.int wd),some (.int (c:Int)),some (.ref l),some (.int (0+(i:Int))),some (.int a),some (.int b)]∧zft K sa H' d∧zdl d H3 H',?_,?_⟩
    ·refine ⟨_,rfl,rfl,_,rfl,?_⟩
     refine znr (fun h8=>?_) (fun _=>?_)
     ·have h8:wd=8:=by simpa using h8
      refine ⟨_,rfl,d,sa,_,rfl,D5,by decide,fun r H6 _ _ D6 k6=>⟨rfl,_,rfl,?_⟩⟩
      refine znr (fun _=>?_) (fun _=>?_)
      ·refine ⟨_,rfl,d,sa,_,rfl,D6,by decide,fun r3 H7 h3a h3b D7 k7=>⟨_,_,rfl,rfl,?_⟩⟩
       refine ⟨_,rfl,_,rfl,_,rfl,_,_,rfl,rfl,d,sa,_,rfl,D7,by omega,fun r4 H8 h4a h4b D8 k8=>⟨_,_,rfl,rfl,?_⟩⟩
       exact ⟨1+r3,1+r3+r4,by omega,by omega,by omega,fun z=>absurd h8 z,rfl,D8,(((k4.trans k5).trans k6).trans k7).trans k8⟩
      ·exact ⟨1+r1,1+r1+r2,by omega,by omega,by omega,fun z=>absurd h8 z,rfl,D6,(k4.trans k5).trans k6⟩
     ·refine zeh ?_
      exact ⟨1+r1,1+r1+r2,by omega,by omega,by omega,fun _=>by omega,rfl,D5,k4.trans k5⟩
    ·rintro σ' H6 ⟨a,b,ha,hab,hb,hba,rfl,D6,k6⟩
     have R6:=kl k6
     refine ⟨_,rfl,.inl ⟨rfl,_,SqL.of R6.1⟩,?_⟩
     refine ⟨_,rfl,_,rfl,_,rfl,_,_,rfl,rfl,d,sa,_,rfl,D6,by omega,fun r5 H7 h5a h5b D7 k7=>?_⟩
     have R7:=kl (k6.trans k7)
     refine ⟨_,rfl,_,_,rfl,rfl,_,rfl,_,_,rfl,rfl,_,rfl,_,rfl,by show 4≤sizeLine;decide,fun p hp=>?_⟩
     have R8:=R7.same (zad (o:=.tup [.int r5,.int (n-1-(0+(i:Int))),.int a,.int b]) hp)
     refine ⟨l,_,_,rfl,rfl,R8.1,?_,?_⟩
     ·rw [ZAa,R8.len]
      exact zaz (by omega)
     ·have e0:(0:Int)+(i:Int)=(rows.length:Int):=by rw [hlen];omega
      refine ⟨_,_,_,ps++[p],rows++[[r5,n-1-(0+(i:Int)),a,b]],rfl,R8.push zab,by rw [ZAj,hlen];rfl,?_,?_,?_,fun z r hr=>?_⟩
      ·rw [e0]
       exact hF.snoc h5a h5b ha hab hb
      ·exact (D7.new hp).upd R8.1 ld
      ·exact zcn (zcn ((k3.trans k6).trans k7) (((k3.trans k6).trans k7).free hp D7.there)) hl0
      ·rcases ZA4.mp hr with y | y
       ·exact few z r y
       ·rw [ZAt.mp y]
        exact hba z
   ·rintro σ' H3 ⟨v1,v2,v3,ps,rows,rfl,R3,hlen,hF,D3,k3,few⟩
    exact ⟨_,rfl,k l c rows H3 hc hlen hF ⟨ps,R3⟩ hl0 D3 k3 fun z=>⟨by rw [hlen];exact hcw z,few z⟩⟩
end
end Y0
namespace Y0
open PySem L2
theorem zjr {x n:Int} (h0:0≤x) (h1:x<2*n) (hn:0<n):x % n=if x<n then x else x-n:=by
 by_cases h:x<n
 ·rw [if_pos h,Int.emod_eq_of_lt h0 h]
 ·rw [if_neg h]
  have e:x % n=(x-n) % n:=by
   first
    | exact (Int.sub_emod_right x n).symm
    | (have:=Int.add_emod_self (a:=x-n) (b:=n);rw [Int.sub_add_cancel] at this;exact this)
  rw [e,Int.emod_eq_of_lt (by omega) (by omega)]
theorem zqm {xs:List Int} {i:Int} (h0:0≤i) (h1:i<xs.length):∃v,v∈xs∧atI (xs.map V.int) i=some (.int v):=by
 obtain ⟨j,rfl⟩:∃j:Nat,i=j:=⟨i.toNat,by omega⟩
 have hi:j<xs.length:=by omega
 exact ⟨xs[j],ZBj hi,zby (by rw [ZAg,ZAd hi];rfl)⟩
noncomputable def zll (n:Int) (r:List Int):Prop:=∃a b l m:Int,r=[a,b,l,m]∧0≤a∧a<n∧0≤b∧b<n∧a≠b∧-60≤l∧l≤m∧m≤60
noncomputable def zsj (K:ZBq):Sp:=fun vs H Q _=>∃d sa n la wd,vs=[.ref d,.int n,.int la,.int wd]∧zft K sa H d∧2≤n∧n≤8∧1≤la∧la≤60∧1≤wd∧wd≤8∧
 ∀(l:Addr) rows H',rows.length≤12->(∀r∈rows,zll n r)->zbq H' l rows->H l=none->zft K sa H' d->zdl d H H'->Q (.ref l) H'
section
variable {P:Program} {w:World} {K:ZBq} {mg:Str->Option Value} {base:Heap}
noncomputable abbrev nT:List Str:=["_law_d","_law_many","_law_last","_law_wide","_law_ties_here","_law_k","_law_times","_law_count","_law_one","_law_other","_law_near","_law_least"]
theorem scT:zat nT ["_law_d","_law_many","_law_last","_law_wide"] (zai sTies):=⟨rfl,rfl,rfl,by decide+kernel,rfl,by decide+kernel,by decide+kernel⟩
theorem coT:zcg (zai sTies) nT (fsc [(".0",.local),("_law_k",.local),("_law_next",.globalImplicit),("_law_d",.free),("_law_last",.free)]) ["_law_k","_law_d","_law_last"] [none,some 0,some 2]:=
 ⟨rfl,by decide+kernel,by decide+kernel,by decide+kernel,rfl,by decide+kernel⟩
theorem ndT:(["_law_k","_law_d","_law_last"]:List Str).Nodup:=by decide+kernel
theorem ok_ties {f fN:Addr} {fd fdN:FuncData} (F:Fn K mg "_law_ties" sTies ["_law_d","_law_many","_law_last","_law_wide"] f fd) (FN:Fn K mg "_law_next" sNext ["_law_dice","_law_many"] fN fdN)
 (GN:zbj P w K mg base CX0 1 fN fdN ["_law_dice","_law_many"] (zmp K)) (min:mg "min"=none) (max:mg "max"=none) (range:mg "range"=none):zbj P w K mg base CX0 2 f fd ["_law_d","_law_many","_law_last","_law_wide"] (zsj K):=by
 refine F.F.ok scT (fun vs H Q E h=>?_) (fun cdv A outer s H vs Q E hr h=>?_)
 ·obtain ⟨d,sa,n,la,wd,rfl,_⟩:=h
  rfl
 ·obtain ⟨d,sa,n,la,wd,rfl,D,hn1,hn2,hl1,hl2,hw1,hw2,k⟩:=h
  refine ⟨_,zal (za0 (i:=4) scT.nd rfl (Or.inl rfl) (zcy zac))
   (zal (za0 (i:=6) scT.nd rfl (Or.inl rfl) (zbi zhy (zcy (zaa zah zac)) (zc7 rfl (zd2 rfl range (zaa (zbi zcj (pv 1) zah) zac)) coT
    (fun cl ex s0 H0=>⟨zap (i:=0) ndT rfl (Or.inl rfl),zdi,zao GN hr rfl FN.g FN.F.kp FN.b .nil za1 (zaa (pv 1) (zaa (zbi zcr (pv 2) zah) zac))⟩))))
   (zal (za0 (i:=7) scT.nd rfl (Or.inl rfl) (zao GN hr rfl FN.g FN.F.kp FN.b .nil za1 (zaa (pv 0) (zaa zah zac))))
   (zal (ziv (zbk (PW.pt (zce (zak zbv (pv 3) zah (zam _)) (zde (zak zbv (zao GN hr rfl FN.g FN.F.kp FN.b .nil za1 (zaa (pv 0) (zaa zah zac))) zah (zam _)))))
    (zaf (za0 (i:=7) scT.nd rfl (Or.inl rfl) (zao GN hr rfl FN.g FN.F.kp FN.b .nil za1 (zaa (pv 0) (zaa zah zac))))) zas))
   (zal (zcx PassesOwn.never rfl (zd2 rfl range (zaa (pv 7) zac)) (zap (i:=5) scT.nd rfl (Or.inl rfl))
    (zal (za0 (i:=8) scT.nd rfl (Or.inl rfl) (zao GN hr rfl FN.g FN.F.kp FN.b .nil za1 (zaa (pv 0) (zaa (pv 1) zac))))
    (zal (za0 (i:=9) scT.nd rfl (Or.inl rfl) (zbi zpk (zbi zcr (zbi zcr (pv 8) zah) (zao GN hr rfl FN.g FN.F.kp FN.b .nil za1 (zaa (pv 0) (zaa (zbi zcj (pv 1) zah) zac)))) (pv 1)))
    (zal (za0 (i:=10) scT.nd rfl (Or.inl rfl) (zbi zcj (za9 zav (pv 6) (pv 9) (fun _ _=>rfl)) (za9 zav (pv 6) (pv 8) (fun _ _=>rfl))))
    (zal (ziv (zbk (zak zbv (zao GN hr rfl FN.g FN.F.kp FN.b .nil za1 (zaa (pv 0) (zaa zah zac))) zah (zam _))
     (zaf (za0 (i:=10) scT.nd rfl (Or.inl rfl) (zbi zcj (zao GN hr rfl FN.g FN.F.kp FN.b .nil za1 (zaa (pv 0) (zaa (zbi zcr (zbi zv2 zah (pv 2)) zah) zac))) (pv 2)))) zas))
    (zal (za0 (i:=11) scT.nd rfl (Or.inl rfl) (zau (zle rfl) (by rfl) max (by decide+kernel) (zaa (zlv zhp zah) (zaa (zbi zcj (pv 10) (zao GN hr rfl FN.g FN.F.kp FN.b .nil za1 (zaa (pv 0) (zaa (zbi zcr (pv 3) zah) zac)))) zac))))
    (zaf (zbt (zjp PySem.F.plainAttrs_list PySem.F.slot_list_append PySem.F.type_list_append zcs (pv 4)
     (zaa (za8 (zaa (pv 8) (zaa (pv 9) (zaa (pv 11) (zaa (zau (zdq rfl) (by rfl) min (by decide+kernel) (zaa zah (zaa (zau (zle rfl) (by rfl) max (by decide+kernel)
      (zaa (pv 11) (zaa (zbi zcr (pv 10) (zao GN hr rfl FN.g FN.F.kp FN.b .nil za1 (zaa (pv 0) (zaa (zbi zcr (pv 3) zah) zac)))) zac))) zac))) zac))))) zac))))))))))
   (zaf (zaq (pv 4))))))),?_⟩
  refine ⟨ZAq _,fun l hl=>?_⟩
  have ld:l≠d:=fun e=>by
   subst e
   obtain ⟨o,q⟩:=D.there
   rw [hl] at q
   cases q
  refine ⟨by show 1≤sizeLine;decide,fun z hz=>?_⟩
  refine ⟨_,rfl,_,_,rfl,rfl,_,rfl,by omega,by omega,fun Da hDa=>?_⟩
  have zl:z≠l:=Ne.symm (zae (zab (H:=H) (a:=l) (o:=.lst [])) hz)
  have hz0:H z=none:=by rw [zaj zl] at hz;exact hz
  have Dal:Da≠l:=Ne.symm (zae (show upd (upd H l (.lst [])) z (.lst [.int 0]) l=some (.lst []) by rw [zaj (Ne.symm zl),zab]) hDa)
  have Daz:Da≠z:=Ne.symm (zae (zab (H:=upd H l (.lst [])) (a:=z) (o:=.lst [.int 0])) hDa)
  have hDa0:H Da=none:=by rw [zaj Daz,zaj Dal] at hDa;exact hDa
  have nd:∀{a:Addr},H a=none->a≠d:=fun {a} e q=>by
   subst q
   obtain ⟨o,q⟩:=D.there
   rw [e] at q
   cases q
  refine zgy (n:=(n-1).toNat) (fun i σ' H'=>∃v,∃ts:List Int,σ'=[v,some (.ref d),some (.int la)]∧ts.length=i∧(∀t∈ts,0≤t∧t≤la)∧H' Da=some (.lst (ts.map V.int))∧H' l=some (.lst [])∧H' z=some (.lst [.int 0])∧zft K sa H' d∧zdl d H H') ?_ ?_ ?_
  ·exact ⟨none,[],rfl,rfl,(fun t ht=>nomatch ht),zab,by rw [zaj (Ne.symm Dal),zaj (Ne.symm zl),zab],by rw [zaj (Ne.symm Daz),zab],((D.new hl).new hz).new hDa,zcn (zcn (zcn (zdl.refl d H) hl) hz0) hDa0⟩
  ·rintro i σ' H3 hi ⟨v,ts,rfl,hlen,hts,e1,e2,e3,D3,k3⟩
   refine ⟨_,rfl,_,rfl,_,_,rfl,rfl,d,sa,_,rfl,D3,by omega,fun r H4 h0 h1 D4 k4=>?_⟩
   have f1:=k4 _ _ e1 (nd hDa0)
   refine ⟨_,f1,?_,_,ts++[r],rfl,by rw [ZAj,hlen];rfl,fun t ht=>?_,?_,?_,?_,D4.upd f1 (nd hDa0),zcn (k3.trans k4) hDa0⟩
   ·rw [ZAa]
    exact zaz (by omega)
   ·rcases ZA4.mp ht with q | q
    ·exact hts t q
    ·rw [ZAt.mp q]
     omega
   ·rw [zab,ZAp]
    rfl
   ·rw [zaj (Ne.symm Dal)]
    exact k4 _ _ e2 ld
   ·rw [zaj (Ne.symm Daz)]
    exact k4 _ _ e3 (nd hz0)
  ·rintro σ' H3 ⟨v,ts,rfl,hlen,hts,e1,e2,e3,D3,k3⟩
   refine ⟨z,Da,_,_,rfl,rfl,e3,e1,?_,fun tl htl=>?_⟩
   ·rw [ZAa]
    exact ZAr (zaz (by simp;omega))
   have htl0:H tl=none:=k3.free htl D3.there
   have tll:tl≠l:=Ne.symm (zae e2 htl)
   obtain ⟨tt,htt,hlt,hin⟩:∃tt:List Int,[V.int 0]++ts.map V.int=tt.map V.int∧(tt.length:Int)=n∧∀t∈tt,0≤t∧t≤la:=by
    refine ⟨0::ts,rfl,by rw [ZA5,hlen];omega,fun t ht=>?_⟩
    rcases ZAu.mp ht with q | q
    ·rw [q];omega
    ·exact hts t q
   rw [htt]
   have g1:upd H3 tl (.lst (tt.map V.int)) tl=some (.lst (tt.map V.int)):=zab
   have g2:upd H3 tl (.lst (tt.map V.int)) l=some (.lst []):=by rw [zaj (Ne.symm tll)];exact e2
   have D4:zft K sa (upd H3 tl (.lst (tt.map V.int))) d:=D3.new htl
   have k4:zdl d H (upd H3 tl (.lst (tt.map V.int))):=zcn k3 htl0
   refine ⟨_,rfl,d,sa,_,rfl,D4,by decide,fun c0 H5 hc0 hc1 D5 k5=>?_⟩
   have l5:=k5 _ _ g2 ld
   have t5:=k5 _ _ g1 (nd htl0)
   refine ⟨fun σ' H'=>∃c:Nat,c≤12∧σ'=[some (.ref d),some (.int n),some (.int la),some (.int wd),some (.ref l),none,some (.ref tl),some (.int (c:Int)),none,none,none,none]∧zft K sa H' d∧zdl d H H'∧H' l=some (.lst [])∧H' tl=some (.lst (tt.map V.int)),?_,?_⟩
   ·refine ⟨_,rfl,rfl,_,rfl,?_⟩
    refine znr (fun _=>?_) (fun _=>?_)
    ·refine ⟨_,rfl,d,sa,_,rfl,D5,by decide,fun r H6 _ _ D6 k6=>⟨rfl,_,rfl,?_⟩⟩
     refine znr (fun _=>?_) (fun _=>?_)
     ·refine ⟨_,rfl,d,sa,_,rfl,D6,by decide,fun c H7 h0 h1 D7 k7=>⟨c.toNat,by omega,?_,D7,((k4.trans k5).trans k6).trans k7,(k6.trans k7) _ _ l5 ld,(k6.trans k7) _ _ t5 (nd htl0)⟩⟩
      rw [Int.toNat_of_nonneg h0]
      rfl
     ·exact ⟨c0.toNat,by omega,by rw [Int.toNat_of_nonneg hc0];rfl,D6,(k4.trans k5).trans k6,k6 _ _ l5 ld,k6 _ _ t5 (nd htl0)⟩
    ·refine zeh ?_
     exact ⟨c0.toNat,by omega,by rw [Int.toNat_of_nonneg hc0];rfl,D5,k4.trans k5,l5,t5⟩
   ·rintro σ' H6 ⟨c,hc,rfl,D6,k6,l6,t6⟩
    refine ⟨_,rfl,_,rfl,by omega,by omega,zeq (n:=c) (fun i σ' H'=>∃v1 v2 v3 v4 v5 ps rows,σ'=[some (.ref d),some (.int n),some (.int la),some (.int wd),some (.ref l),v1,some (.ref tl),some (.int (c:Int)),v2,v3,v4,v5]∧zci H' l ps rows∧rows.length=i∧(∀r∈rows,zll n r)∧
     H' tl=some (.lst (tt.map V.int))∧zft K sa H' d∧zdl d H H') ⟨none,none,none,none,none,[],[],rfl,⟨l6,.nil⟩,rfl,(fun r hr=>nomatch hr),t6,D6,k6⟩ ?_ ?_⟩
    ·rintro i σ' H7 hi ⟨v1,v2,v3,v4,v5,ps,rows,rfl,R7,hlen7,hok,t7,D7,k7⟩
     have kl:∀{H8:Hp},zdl d H7 H8->zci H8 l ps rows:=fun k8=>by
      obtain ⟨p,e⟩:=D7.at_
      exact R7.keep k8 e ld
     refine ⟨_,rfl,_,rfl,d,sa,_,rfl,D7,by omega,fun o1 H8 h1a h1b D8 k8=>?_⟩
     refine ⟨_,rfl,_,_,rfl,rfl,_,rfl,_,rfl,_,_,rfl,rfl,d,sa,_,rfl,D8,by omega,fun o2 H9 h2a h2b D9 k9=>⟨_,_,rfl,rfl,_,rfl,_,_,rfl,rfl,(by show (0:Int)<n;omega),?_⟩⟩
     have hw:=zjr (x:=o1+1+o2) (n:=n) (by omega) (by omega) (by omega)
     have ho:0≤(o1+1+o2) % n∧(o1+1+o2) % n<n∧o1≠(o1+1+o2) % n:=by
      rw [hw]
      split<;>omega
     obtain ⟨ho1,ho2,ho3⟩:=ho
     have t9:=(k8.trans k9) _ _ t7 (nd htl0)
     obtain ⟨w1,hw1m,ha1⟩:=zqm (xs:=tt) ho1 (by omega)
     obtain ⟨w2,hw2m,ha2⟩:=zqm (xs:=tt) h1a (by omega)
     have b1:=hin w1 hw1m
     have b2:=hin w2 hw2m
     refine ⟨_,rfl,zqp rfl t9 ha1 ⟨_,rfl,zqp rfl t9 ha2 ⟨_,_,rfl,rfl,?_⟩⟩⟩
     refine ⟨fun σ' H'=>∃nr:Int,-60≤nr∧nr≤60∧σ'=[some (.ref d),some (.int n),some (.int la),some (.int wd),some (.ref l),some (.int (0+(i:Int))),some (.ref tl),some (.int (c:Int)),some (.int o1),some (.int ((o1+1+o2) % n)),some (.int nr),v5]∧zft K sa H' d∧zdl d H7 H',?_,?_⟩
     ·refine ⟨_,rfl,d,sa,_,rfl,D9,by decide,fun r H10 _ _ D10 k10=>⟨rfl,_,rfl,?_⟩⟩
      refine znr (fun _=>?_) (fun _=>?_)
      ·refine ⟨_,rfl,_,rfl,_,_,rfl,rfl,.inl ⟨by decide,by decide⟩,_,_,rfl,rfl,d,sa,_,rfl,D10,by omega,fun r' H11 g0 g1' D11 k11=>⟨_,rfl,_,_,rfl,rfl,r'-la,by omega,by omega,rfl,D11,((k8.trans k9).trans k10).trans k11⟩⟩
      ·exact ⟨w1-w2,by omega,by omega,rfl,D10,(k8.trans k9).trans k10⟩
     ·rintro σ' H10 ⟨nr,hnr1,hnr2,rfl,D10,k10⟩
      refine ⟨_,rfl,_,rfl,_,rfl,_,rfl,_,_,rfl,rfl,d,sa,_,rfl,D10,by omega,fun r1 H11 h3a h3b D11 k11=>⟨_,_,rfl,rfl,_,_,rfl,?_⟩⟩
      have R11:=kl (k10.trans k11)
      refine ⟨_,rfl,.inl ⟨rfl,_,SqL.of R11.1⟩,?_⟩
      refine ⟨_,rfl,_,rfl,_,rfl,_,rfl,_,rfl,_,rfl,_,rfl,_,_,rfl,rfl,d,sa,_,rfl,D11,by omega,fun r2 H12 h4a h4b D12 k12=>⟨_,_,rfl,rfl,_,_,rfl,_,_,rfl,by show 4≤sizeLine;decide,fun p hp=>?_⟩⟩
      have R12:=kl ((k10.trans k11).trans k12)
      have R13:=R12.same (zad (o:=.tup [.int o1,.int ((o1+1+o2) % n),.int (if nr-r1> -60 then nr-r1 else-60),.int (if (if nr+r2>(if nr-r1> -60 then nr-r1 else-60) then nr+r2 else (if nr-r1> -60 then nr-r1 else-60))<60 then (if nr+r2>(if nr-r1> -60 then nr-r1 else-60) then nr+r2 else (if nr-r1> -60 then nr-r1 else-60)) else 60)]) hp)
      have kA:=((k7.trans k10).trans k11).trans k12
      refine ⟨l,_,_,rfl,rfl,R13.1,?_,?_⟩
      ·rw [ZAa,R13.len]
       exact zaz (by omega)
      ·refine ⟨_,_,_,_,_,ps++[p],rows++[[o1,(o1+1+o2) % n,(if nr-r1> -60 then nr-r1 else-60),(if (if nr+r2>(if nr-r1> -60 then nr-r1 else-60) then nr+r2 else (if nr-r1> -60 then nr-r1 else-60))<60 then (if nr+r2>(if nr-r1> -60 then nr-r1 else-60) then nr+r2 else (if nr-r1> -60 then nr-r1 else-60)) else 60)]],rfl,R13.push zab,by rw [ZAj,hlen7];rfl,fun r hr=>?_,?_,?_,?_⟩
       ·rcases ZA4.mp hr with q | q
        ·exact hok r q
        ·rw [ZAt.mp q]
         exact ⟨_,_,_,_,rfl,h1a,h1b,ho1,ho2,ho3,by split<;>omega,by repeat' split<;>omega,by split<;>omega⟩
       ·rw [zaj tll,zaj (Ne.symm (zae ((((k10.trans k11).trans k12)) _ _ t7 (nd htl0)) hp).symm)]
        exact ((k10.trans k11).trans k12) _ _ t7 (nd htl0)
       ·exact (D12.new hp).upd R13.1 ld
       ·exact zcn (zcn kA (kA.free hp D12.there)) hl
    ·rintro σ' H7 ⟨v1,v2,v3,v4,v5,ps,rows,rfl,R7,hlen7,hok,t7,D7,k7⟩
     exact ⟨_,rfl,k l rows H7 (by omega) hok ⟨ps,R7⟩ hl D7 k7⟩
end
end Y0
namespace Y0
open PySem L2
theorem paired_get {α β:Type} {F:α->β->Prop} {l:List α} {m:List β} {i:Nat} {a:α} (h:Paired F l m) (e:l[i]?=some a):∃b,m[i]?=some b∧F a b:=by
 induction h generalizing i with
 | nil=>simp at e
 | cons r t ih=>
  cases i with
  | zero=>simp at e;subst e;exact ⟨_,rfl,r⟩
  | succ i=>
   obtain ⟨b,h1,h2⟩:=ih (i:=i) (by simpa using e)
   exact ⟨b,by simpa using h1,h2⟩
theorem zft.keepL {K:ZBq} {sa d l:Addr} {H H1:Hp} {xs:List V} (x:zft K sa H d) (k:zdl l H H1) (hl:H l=some (.lst xs)) (hd:l≠d):zft K sa H1 d:=by
 obtain ⟨⟨p,h⟩,⟨ns,r⟩⟩:=x
 exact ⟨⟨p,k _ _ h (Ne.symm hd)⟩,⟨ns,r.keep k hl⟩⟩
theorem zm5 {d l:Addr} {H H1 H2:Hp} (a:zdl d H H1) (b:zdl l H1 H2) (hl:H l=none):zdl d H H2:=fun c o e n=>b c o (a c o e n) (zae e hl)
theorem zge {m n t:Int} (hn:2≤n) (h0:0≤m):0≤zb1 m n t∧zb1 m n t<n:=by
 unfold zb1
 split
 ·omega
 ·have h1:=Int.emod_nonneg (m-1+t) (show n-1≠0 by omega)
  have h2:=Int.emod_lt_of_pos (m-1+t) (show 0<n-1 by omega)
  omega
theorem zgw {m n t:Int} (hn:2≤n) (h0:m≠0):0<zb1 m n t:=by
 unfold zb1
 rw [if_neg h0]
 have h1:=Int.emod_nonneg (m-1+t) (show n-1≠0 by omega)
 omega
theorem zfm {a b n t:Int} (hn:2≤n) (ha:0≤a) (ha':a<n) (hb:0≤b) (hb':b<n) (ht:0≤t) (ht':t<n) (e:zb1 a n t=zb1 b n t):a=b:=by
 by_cases a0:a=0
 ·by_cases b0:b=0
  ·omega
  ·have:=zgw (t:=t) hn b0
   have z:zb1 a n t=0:=by unfold zb1;rw [if_pos a0]
   omega
 ·by_cases b0:b=0
  ·have:=zgw (t:=t) hn a0
   have z:zb1 b n t=0:=by unfold zb1;rw [if_pos b0]
   omega
  ·unfold zb1 at e
   rw [if_neg a0,if_neg b0,zjr (x:=a-1+t) (n:=n-1) (by omega) (by omega) (by omega),zjr (x:=b-1+t) (n:=n-1) (by omega) (by omega) (by omega)] at e
   revert e
   split<;>split<;>intro e<;>omega
noncomputable def zlm (n t:Int):List Int->List Int
 | [a,b,l,m]=>[zb1 a n t,zb1 b n t,l,m]
 | r=>r
noncomputable def zwt (n:Int) (r:List Int):Prop:=∃a b l m:Int,r=[a,b,l,m]∧0≤a∧a<n∧0<b∧b<n∧a≠b∧1≤l∧l≤m∧m≤60
structure zcv (n la:Int) (T F:List (List Int)):Prop where
 n1:1≤n
 n2:n≤8
 l1:1≤la
 l2:la≤60
 tl:T.length≤24
 fl:F.length≤7
 t:∀r∈T,zll n r
 f:∀r∈F,zwt n r
 one:∀(i j:Nat) r r',F[i]?=some r->F[j]?=some r'->r[1]?=r'[1]?->i=j
 own:∀r∈F,∀r'∈F,r[0]?≠r'[1]?
theorem zll.ren {n t:Int} {r:List Int} (hn:2≤n) (ht:0≤t) (ht':t<n) (h:zll n r):zll n (zlm n t r):=by
 obtain ⟨a,b,l,m,rfl,h1,h2,h3,h4,h5,h6,h7,h8⟩:=h
 have ha:=zge (t:=t) hn h1
 have hb:=zge (t:=t) hn h3
 exact ⟨_,_,l,m,rfl,ha.1,ha.2,hb.1,hb.2,fun e=>h5 (zfm hn h1 h2 h3 h4 ht ht' e),h6,h7,h8⟩
theorem zqv {n la t:Int} {c:Nat} {T F:List (List Int)} (hn:2≤n) (hn2:n≤8) (hl1:1≤la) (hl2:la≤60) (ht:0≤t) (ht':t<n) (hT:∀r∈T,zll n r) (hTl:T.length≤12) (hc:(c:Int)≤n-1) (hlen:F.length=c) (hF:ze3 n c F):
 zcv n la (T.map (zlm n t)) (F.map (zlm n t)):=by
 have at_:∀(i:Nat) r,(F.map (zlm n t))[i]?=some r->∃a l m:Int,r=[zb1 a n t,zb1 (n-1-i) n t,l,m]∧i<c∧0≤a∧a<n-c∧1≤l∧l≤m∧m≤60:=fun i r e=>by
  rw [ZAg] at e
  cases q:F[i]? with
  | none=>rw [q] at e;cases e
  | some r0=>
   rw [q] at e
   have hi:i<c:=by rw [←hlen];exact (ZAb.mp q).1
   obtain ⟨a,l,m,rfl,r1⟩:=hF i r0 q
   cases e
   exact ⟨a,l,m,rfl,hi,r1⟩
 have mem:∀r,r∈F.map (zlm n t)->∃i:Nat,(F.map (zlm n t))[i]?=some r:=fun r hr=>List.mem_iff_getElem?.mp hr
 refine ⟨by omega,hn2,hl1,hl2,by rw [ZAa];omega,by rw [ZAa];omega,fun r hr=>?_,fun r hr=>?_,fun i j r r' e e' q=>?_,fun r hr r' hr'=>?_⟩
 ·obtain ⟨r0,h0,rfl⟩:=ZA7.mp hr
  exact (hT r0 h0).ren hn ht ht'
 ·obtain ⟨i,e⟩:=mem r hr
  obtain ⟨a,l,m,rfl,hi,h1,h2,h3,h4,h5⟩:=at_ i r e
  have ha:=zge (t:=t) hn h1
  have hb:=zge (m:=n-1-i) (t:=t) hn (by omega)
  exact ⟨_,_,l,m,rfl,ha.1,ha.2,zgw hn (by omega),hb.2,fun z=>by
   have:=zfm hn h1 (by omega) (by omega) (by omega) ht ht' z
   omega,h3,h4,h5⟩
 ·obtain ⟨a,l,m,rfl,hi,_⟩:=at_ i r e
  obtain ⟨a',l',m',rfl,hj,_⟩:=at_ j r' e'
  have z:zb1 (n-1-i) n t=zb1 (n-1-j) n t:=by simpa using q
  have:=zfm hn (by omega) (by omega) (by omega) (by omega) ht ht' z
  omega
 ·obtain ⟨i,e⟩:=mem r hr
  obtain ⟨j,e'⟩:=mem r' hr'
  obtain ⟨a,l,m,rfl,hi,h1,h2,_⟩:=at_ i r e
  obtain ⟨a',l',m',rfl,hj,_⟩:=at_ j r' e'
  intro q
  have z:zb1 a n t=zb1 (n-1-j) n t:=by simpa using q
  have:=zfm hn h1 (by omega) (by omega) (by omega) ht ht' z
  omega
theorem Few.ren {wd n t:Int} {n0:Int} {c:Nat} {rows:List (List Int)} (h:Few wd rows) (hF:ze3 n0 c rows):Few wd (rows.map (zlm n t)):=fun z=>by
 obtain ⟨h1,h2⟩:=h z
 refine ⟨by rw [ZAa];exact h1,fun r hr=>?_⟩
 obtain ⟨r0,h0,rfl⟩:=ZA7.mp hr
 obtain ⟨i,e⟩:=List.mem_iff_getElem?.mp h0
 obtain ⟨a,l,m,e',_⟩:=hF i r0 e
 have:=h2 r0 h0
 subst e'
 exact this
noncomputable def zvh (K:ZBq):Sp:=fun vs H Q _=>∃d sa mo la wd,vs=[.ref d,.int mo,.int la,.int wd]∧zft K sa H d∧2≤mo∧mo≤8∧1≤la∧la≤60∧1≤wd∧wd≤8∧
 ∀(p ta fa:Addr) n l T F H',H' p=some (.tup [.int n,.int l,.ref ta,.ref fa])->zbq H' ta T->zbq H' fa F->zcv n l T F->2≤n->n≤mo->l≤la->zft K sa H' d->zdl d H H'->ta≠d->fa≠d->Few wd F∧T.length≤12->Q (.ref p) H'
section
variable {P:Program} {w:World} {K:ZBq} {mg:Str->Option Value} {base:Heap}
noncomputable abbrev nW:List Str:=["_law_d","_law_most","_law_last","_law_wide","_law_many","_law_falls_here","_law_ties_here","_law_turn","_law_found","_law_rows"]
theorem scW:zat nW ["_law_d","_law_most","_law_last","_law_wide"] (zai sWeb):=⟨rfl,rfl,rfl,by decide+kernel,rfl,by decide+kernel,by decide+kernel⟩
noncomputable abbrev nWc:List Str:=["_law_r","_law_many","_law_turn"]
theorem coW:zcg (zai sWeb) nW (fsc [(".0",.local),("_law_r",.local),("_law_named",.globalImplicit),("_law_many",.free),("_law_turn",.free)]) nWc [none,some 4,some 7]:=
 ⟨rfl,by decide+kernel,by decide+kernel,by decide+kernel,rfl,by decide+kernel⟩
theorem zz4:nWc.Nodup:=by decide+kernel
theorem ok_web {f fN fM fF fT:Addr} {fd fdN fdM fdF fdT:FuncData} (F:Fn K mg "_law_web" sWeb ["_law_d","_law_most","_law_last","_law_wide"] f fd)
 (FN:Fn K mg "_law_next" sNext ["_law_dice","_law_many"] fN fdN) (GN:zbj P w K mg base CX0 1 fN fdN ["_law_dice","_law_many"] (zmp K))
 (FM:Fn K mg "_law_named" sNamed ["_law_moment","_law_many","_law_turn"] fM fdM) (GM:zbj P w K mg base CX0 1 fM fdM ["_law_moment","_law_many","_law_turn"] zoq)
 (FF:Fn K mg "_law_falls" sFalls ["_law_d","_law_many","_law_wide"] fF fdF) (GF:zbj P w K mg base CX0 2 fF fdF ["_law_d","_law_many","_law_wide"] (zov K))
 (FT:Fn K mg "_law_ties" sTies ["_law_d","_law_many","_law_last","_law_wide"] fT fdT) (GT:zbj P w K mg base CX0 2 fT fdT ["_law_d","_law_many","_law_last","_law_wide"] (zsj K)):
 zbj P w K mg base CX0 3 f fd ["_law_d","_law_most","_law_last","_law_wide"] (zvh K):=by
 refine F.F.ok scW (fun vs H Q E h=>?_) (fun cdv A outer s H vs Q E hr h=>?_)
 ·obtain ⟨d,sa,mo,la,wd,rfl,_⟩:=h
  rfl
 ·obtain ⟨d,sa,mo,la,wd,rfl,D,hm1,hm2,hl1,hl2,hw1,hw2,k⟩:=h
  have hr1:zek 1 _:=hr.mono (by decide)
  refine ⟨_,zal (za0 (i:=4) scW.nd rfl (Or.inr rfl) (zbi zcr zah (zao GN hr1 rfl FN.g FN.F.kp FN.b .nil za1 (zaa (pv 0) (zaa (zbi zcj (pv 1) zah) zac)))))
   (zal (za0 (i:=2) scW.nd rfl (Or.inl rfl) (zbi zcr zah (zao GN hr1 rfl FN.g FN.F.kp FN.b .nil za1 (zaa (pv 0) (zaa (pv 2) zac)))))
   (zal (za0 (i:=5) scW.nd rfl (Or.inl rfl) (zao GF hr rfl FF.g FF.F.kp FF.b .nil za1 (zaa (pv 0) (zaa (pv 4) (zaa (pv 3) zac)))))
   (zal (za0 (i:=6) scW.nd rfl (Or.inl rfl) (zao GT hr rfl FT.g FT.F.kp FT.b .nil za1 (zaa (pv 0) (zaa (pv 4) (zaa (pv 2) (zaa (pv 3) zac))))))
   (zal (za0 (i:=7) scW.nd rfl (Or.inr rfl) (zao GN hr1 rfl FN.g FN.F.kp FN.b .nil za1 (zaa (pv 0) (zaa (pv 4) zac))))
   (zal (za0 (i:=8) scW.nd rfl (Or.inl rfl) (zcy zac))
   (zal (zcx PassesOwn.never rfl (zb2 (zcy (zaa (pv 6) (zaa (pv 5) zac)))) (zap (i:=9) scW.nd rfl (Or.inl rfl))
    (zaf (zbt (zjp PySem.F.plainAttrs_list PySem.F.slot_list_append PySem.F.type_list_append zcs (pv 8)
     (zaa (zc7 rfl (zb2 (pv 9)) coW (fun cl ex s0 H0=>⟨zap (i:=0) zz4 rfl (Or.inl rfl),zdi,
      za8 (zaa (zao GM hr1 rfl FM.g FM.F.kp FM.b .nil za1 (zaa (ixT (pv 0)) (zaa (pv 1) (zaa (pv 2) zac))))
       (zaa (zao GM hr1 rfl FM.g FM.F.kp FM.b .nil za1 (zaa (ixT (pv 0)) (zaa (pv 1) (zaa (pv 2) zac))))
       (zaa (ixT (pv 0)) (zaa (ixT (pv 0)) zac))))⟩)) zac)))))
   (zaf (zaq (za8 (zaa (pv 4) (zaa (pv 2) (zaa (za9 zav (pv 8) zah (fun _ _=>rfl)) (zaa (za9 zav (pv 8) zah (fun _ _=>rfl)) zac))))))))))))),?_⟩
  refine ⟨_,rfl,_,rfl,_,_,rfl,rfl,d,sa,_,rfl,D,by omega,fun r1 H1 h1a h1b D1 k1=>⟨_,_,rfl,rfl,?_⟩⟩
  refine ⟨_,rfl,_,rfl,d,sa,_,rfl,D1,by omega,fun r2 H2 h2a h2b D2 k2=>⟨_,_,rfl,rfl,?_⟩⟩
  refine ⟨_,rfl,_,rfl,_,rfl,d,sa,_,_,rfl,D2,by omega,by omega,hw1,hw2,fun fl c F0 H3 hc hcl hF0 RF hfl D3 k3 few=>?_⟩
  refine ⟨_,rfl,_,rfl,_,rfl,_,rfl,d,sa,_,_,_,rfl,D3,by omega,by omega,by omega,by omega,hw1,hw2,fun tl T0 H4 hTl hT0 RT htl D4 k4=>?_⟩
  refine ⟨_,rfl,_,rfl,d,sa,_,rfl,D4,by omega,fun t H5 hta htb D5 k5=>?_⟩
  have fld:fl≠d:=fun e=>by
   subst e
   obtain ⟨o,q⟩:=D2.there
   rw [hfl] at q
   cases q
  have tld:tl≠d:=fun e=>by
   subst e
   obtain ⟨o,q⟩:=D3.there
   rw [htl] at q
   cases q
  have RF5:zbq H5 fl F0:=by
   obtain ⟨p,e⟩:=D3.at_
   exact RF.keep (k4.trans k5) e fld
  have RT5:zbq H5 tl T0:=by
   obtain ⟨p,e⟩:=D4.at_
   exact RT.keep k5 e tld
  have kA:zdl d H H5:=(((k1.trans k2).trans k3).trans k4).trans k5
  refine ⟨ZAq _,fun fo hfo=>?_⟩
  have fod:fo≠d:=fun e=>by
   subst e
   obtain ⟨o,q⟩:=D5.there
   rw [hfo] at q
   cases q
  have hfo0:H fo=none:=kA.free hfo D5.there
  have RF6:=RF5.same (zad (o:=.lst []) hfo)
  have RT6:=RT5.same (zad (o:=.lst []) hfo)
  have tlfo:tl≠fo:=by
   obtain ⟨ps,e,_⟩:=RT5
   exact zae e hfo
  have flfo:fl≠fo:=by
   obtain ⟨ps,e,_⟩:=RF5
   exact zae e hfo
  refine ⟨_,rfl,_,rfl,by show 2≤sizeLine;decide,fun ll hll=>⟨ll,rfl,⟨_,SqL.of zab⟩,?_⟩⟩
  have llfo:ll≠fo:=Ne.symm (zae (zab (H:=H5) (a:=fo) (o:=.lst [])) hll)
  have hll5:H5 ll=none:=by rw [zaj llfo] at hll;exact hll
  have hll0:H ll=none:=kA.free hll5 D5.there
  generalize hH7:upd (upd H5 fo (.lst [])) ll (.lst [V.ref tl,V.ref fl])=H7
  have e7:H7 fo=some (.lst []):=by rw [←hH7,zaj (Ne.symm llfo),zab]
  have e7l:H7 ll=some (.lst [V.ref tl,V.ref fl]):=by rw [←hH7,zab]
  have RF7:zbq H7 fl F0:=by rw [←hH7];exact RF6.same (zad hll)
  have RT7:zbq H7 tl T0:=by rw [←hH7];exact RT6.same (zad hll)
  have D7:zft K sa H7 d:=by rw [←hH7];exact (D5.new hfo).new hll
  have k7:zdl d H H7:=by rw [←hH7];exact zcn (zcn kA hfo0) hll0
  refine zcf (K:=K) (a:=ll) (xs:=[V.ref tl,V.ref fl]) (fun i σ' H'=>∃v ls,σ'=[some (.ref d),some (.int mo),some (.int (1+r2)),some (.int wd),some (.int (2+r1)),some (.ref fl),some (.ref tl),some (.int t),some (.ref fo),v]∧
   H' fo=some (.lst (ls.map V.ref))∧Paired (fun a rs=>zbq H' a rs∧a≠fo∧a≠d) ls (([T0,F0].take i).map fun R=>R.map (zlm (2+r1) t))∧zdl fo H7 H') ⟨none,[],rfl,e7,.nil,zdl.refl fo H7⟩ ?_ ?_ ?_
  ·rintro i σ' H8 _ ⟨v,ls,rfl,_,_,k8⟩
   exact SqL.of (k8 _ _ e7l llfo)
  ·rintro i x σ' H8 hx ⟨v,ls,rfl,e8,pl8,k8⟩
   obtain ⟨a0,R0,rfl,RA,a0fo,htk,hsh,hln⟩:∃a0 R0,x=.ref a0∧zbq H8 a0 R0∧a0≠fo∧(([T0,F0].take (i+1)).map fun R=>R.map (zlm (2+r1) t))=(([T0,F0].take i).map fun R=>R.map (zlm (2+r1) t))++[R0.map (zlm (2+r1) t)]∧
    (∀r∈R0,∃a b l m:Int,r=[a,b,l,m])∧R0.length≤12:=by
    match i,hx with
    | 0,hx=>
     cases hx
     exact ⟨tl,T0,rfl,RT7.keep k8 e7 tlfo,tlfo,rfl,fun r hr=>by
      obtain ⟨a,b,l,m,e,_⟩:=hT0 r hr
      exact ⟨a,b,l,m,e⟩,hTl⟩
    | 1,hx=>
     cases hx
     exact ⟨fl,F0,rfl,RF7.keep k8 e7 flfo,flfo,rfl,fun r hr=>by
      obtain ⟨i,e⟩:=List.mem_iff_getElem?.mp hr
      obtain ⟨a,l,m,e,_⟩:=hF0 i r e
      exact ⟨a,_,l,m,e⟩,by omega⟩
    | i+2,hx=>cases hx
   obtain ⟨ps0,RP⟩:=RA
   refine ⟨_,rfl,.inl ⟨rfl,_,SqL.of e8⟩,?_⟩
   refine ⟨_,rfl,a0,rfl,⟨_,SqL.of RP.1⟩,fun Da hDa=>?_⟩
   refine zd7 (xs:=ps0.map V.ref) (fun j σ' H'=>∃v ps,σ'=[v,some (.int (2+r1)),some (.int t)]∧zci H' Da ps ((R0.take j).map (zlm (2+r1) t))∧zbu H8 H') ?_ ?_ ?_ ?_
   ·exact ⟨none,[],rfl,⟨zab,.nil⟩,zad hDa⟩
   ·rintro j σ' H9 _ ⟨v,ps,rfl,_,s9⟩
    exact SqL.of (s9 _ _ RP.1)
   ·rintro j x σ' H9 hxj ⟨v,ps,rfl,R9,s9⟩
    rw [ZAg] at hxj
    cases hq:ps0[j]? with
    | none=>rw [hq] at hxj;cases hxj
    | some q=>
     rw [hq] at hxj
     cases hxj
     obtain ⟨r,hr,hqt⟩:=paired_get RP.2 hq
     obtain ⟨a,b,l,m,rfl⟩:=hsh r (ZAh hr)
     have hqt9:=s9 _ _ hqt
     refine ⟨_,rfl,rdT hqt9 rfl ⟨_,rfl,_,rfl,_,_,_,rfl,by omega,?_⟩⟩
     refine ⟨_,rfl,rdT hqt9 rfl ⟨_,rfl,_,rfl,_,_,_,rfl,by omega,?_⟩⟩
     refine ⟨_,rfl,rdT hqt9 rfl ⟨_,rfl,rdT hqt9 rfl ⟨by show 4≤sizeLine;decide,fun p hp=>?_⟩⟩⟩
     have R10:=R9.same (zad (o:=.tup [.int (zb1 a (2+r1) t),.int (zb1 b (2+r1) t),.int l,.int m]) hp)
     have hDa8:H8 Da=none:=hDa
     refine ⟨_,R10.1,?_,_,ps++[p],rfl,?_,fun b o e=>?_⟩
     ·rw [ZAa,R10.len,ZAa,ZA1]
      exact zaz (by omega)
     ·have hj:(R0.take (j+1)).map (zlm (2+r1) t)=(R0.take j).map (zlm (2+r1) t)++[[zb1 a (2+r1) t,zb1 b (2+r1) t,l,m]]:=by
       rw [ZBa,hr,ZAp]
       rfl
      rw [hj]
      exact R10.push zab
     ·rw [zaj (zae e hDa8),zaj (zae (s9 _ _ e) hp)]
      exact s9 _ _ e
   ·rintro σ' H9 ⟨v,ps,rfl,R9,s9⟩
    have e9:=s9 _ _ e8
    refine ⟨fo,_,.ref Da,rfl,rfl,e9,?_,?_⟩
    ·rw [ZAa,pl8.length,ZAa,ZA1]
     exact zaz (by simp;omega)
    ·have hDafo:Da≠fo:=Ne.symm (zae e8 hDa)
     have hDad:Da≠d:=fun e=>by
      subst e
      obtain ⟨p,q⟩:=(D7.keepL k8 e7 fod).at_
      rw [hDa] at q
      cases q
     have ku:zdl fo H9 (upd H9 fo (.lst (ls.map V.ref++[.ref Da]))):=fun b o e n=>by rw [zaj n];exact e
     refine ⟨_,ls++[Da],rfl,by rw [zab,ZAp];rfl,?_,fun b o e n=>by rw [zaj n];exact s9 _ _ (k8 b o e n)⟩
     rw [htk]
     refine Paired.snoc (zan pl8 fun a rs z=>⟨(z.1.same s9).keep ku e9 z.2.1,z.2⟩) ⟨?_,hDafo,hDad⟩
     have hl:R0.take (ps0.map V.ref).length=R0:=by
      rw [ZAa,RP.len]
      exact ZAy
     rw [hl] at R9
     exact zbq.keep ⟨ps,R9⟩ ku e9 hDafo
  ·rintro σ' H8 ⟨v,ls,rfl,e8,pl8,k8⟩
   have pl8:Paired (fun a rs=>zbq H8 a rs∧a≠fo∧a≠d) ls [T0.map (zlm (2+r1) t),F0.map (zlm (2+r1) t)]:=pl8
   cases pl8 with
   | @cons lt _ ls1 _ q1 pl9=>
    cases pl9 with
    | @cons lf _ ls2 _ q2 pl10=>
     cases pl10
     refine ⟨_,rfl,_,rfl,_,rfl,rdL e8 rfl ⟨_,rfl,rdL e8 rfl ⟨by show 4≤sizeLine;decide,fun p hp=>?_⟩⟩⟩
     have sm:=zad (o:=.tup [.int (2+r1),.int (1+r2),.ref lt,.ref lf]) hp
     exact k p lt lf _ _ _ _ _ zab (q1.1.same sm) (q2.1.same sm) (zqv (by omega) (by omega) (by omega) (by omega) hta htb hT0 hTl hc hcl hF0) (by omega) (by omega) (by omega) ((D7.keepL k8 e7 fod).same sm) (zcn (zm5 k7 k8 hfo0) ((zm5 k7 k8 hfo0).free hp (D7.keepL k8 e7 fod).there)) q1.2.2 q2.2.2 ⟨few.ren hF0,by rw [ZAa];exact hTl⟩
end
end Y0
namespace L2
open PySem PySem.Spec PyProof.Rows
section
variable {P:Program} {w:World} {K:ZBq} {mg:Str->Option Value} {base:Heap}
end
theorem zgi {c A B:Prop} [Decidable c] (hc:c) (h:A):if decide c=true then A else B:=by
 rw [ZBo hc]
 exact zih h
theorem zep {c A B:Prop} [Decidable c] (hc:¬c) (h:B):if decide c=true then A else B:=by
 rw [ZBp hc]
 exact zeh h
theorem zmc {Q:VK} {H:Hp} {b b':Bool} (k:Q (.bl b) H) (e:b=b'):Q (.bl b') H:=e▸k
theorem zjx {a:Int}:∀{ns:List Int},inV (.int a) (ns.map V.int)=decide (a∈ns)
 | []=>by simp [inV]
 | n::r=>by
  have ih:=zjx (a:=a) (ns:=r)
  unfold inV at ih ⊢
  rw [ZAv,List.any_cons,ih]
  show ((n==a) || decide (a∈r))=decide (a∈n::r)
  by_cases e:n=a
  ·subst e;simp
  ·have:¬a=n:=fun z=>e z.symm
   simp [e,this]
theorem zh5:∀{ns:List Int},(ns.map V.int).all zc0=true
 | []=>rfl
 | n::r=>by
  rw [ZAv,List.all_cons,zh5 (ns:=r)]
  rfl
theorem zna {α:Type} {xs:List α} {i:Nat} (h:i≤xs.length):(xs.drop (HT.sIx xs.length 0 none)).take (HT.sIx xs.length xs.length (some (i:Int))-HT.sIx xs.length 0 none)=xs.take i:=by
 rw [HT.sIx_none,HT.sIx_nat,List.drop_zero,Nat.sub_zero,Nat.min_eq_left h]
end L2
namespace Y0
open PySem L2
structure TxtW (mg:Str->Option Value):Prop where
 mm:∃t,mg "MOST_MOMENTS"=some (.int 8 t)
 ll:∃t,mg "LATEST_LAST"=some (.int 60 t)
 ws:∃t,mg "WIDEST_SPAN"=some (.int 60 t)
 lf:∃t,mg "LONGEST_FALL"=some (.int 60 t)
 list:mg "list"=none
noncomputable def ztu:Sp:=fun vs H Q _=>∃n a b,vs=[.int n,.int a,.int b]∧Q (.bl (decide (0≤a∧a<n∧0≤b∧b<n∧a≠b))) H
noncomputable def zsn:Sp:=fun vs H Q _=>∃n la,vs=[.int n,.int la]∧1≤n∧n≤8∧1≤la∧la≤60∧Q .non H
noncomputable def zor:Sp:=fun vs H Q _=>∃n a T,vs=[.int n,.ref a]∧zbq H a T∧(∀r∈T,zll n r)∧Q .non H
noncomputable def zmq:Sp:=fun vs H Q _=>∃n a la T F,vs=[.int n,.ref a]∧zbq H a F∧zcv n la T F∧∀H',zbu H H'->Q .non H'
section
variable {P:Program} {w:World} {K:ZBq} {mg:Str->Option Value} {base:Heap}
theorem sc2:zat ["many","one","other"] ["many","one","other"] (zai sP_are_two_moments):=⟨rfl,rfl,rfl,by decide+kernel,rfl,by decide+kernel,by decide+kernel⟩
theorem ok_two {f:Addr} {fd:FuncData} (F:Fn K mg "are_two_moments" sP_are_two_moments ["many","one","other"] f fd):zbj P w K mg base CX0 1 f fd ["many","one","other"] ztu:=by
 refine F.F.ok sc2 (fun vs H Q E h=>?_) (fun cdv A outer s H vs Q E hr h=>?_)
 ·obtain ⟨n,a,b,rfl,_⟩:=h
  rfl
 ·obtain ⟨n,a,b,rfl,k⟩:=h
  refine ⟨_,zaf (zaq (ze5 (zhe zfs zg4 zah (pv 1) (pv 0)) (ze5 (zhe zfs zg4 zah (pv 2) (pv 0)) (zhw (zcp zgc (pv 1) (pv 2) (zam _)))))),?_⟩
  refine ⟨_,rfl,_,_,rfl,rfl,_,rfl,znr (fun h1=>⟨_,rfl,_,_,rfl,rfl,_,rfl,znr (fun h2=>⟨_,rfl,_,_,rfl,rfl,_,rfl,znr (fun h3=>⟨_,rfl,_,_,rfl,rfl,_,rfl,znr (fun h4=>⟨_,rfl,_,rfl,rfl,?_⟩) (fun h4=>?_)⟩) (fun h3=>⟨false,rfl,zeh ?_⟩)⟩) (fun h2=>?_)⟩) (fun h1=>⟨false,rfl,zeh ?_⟩)⟩
  all_goals simp only [ZBe] at*
  ·refine zmc (Q:=Q) k ?_
   by_cases e:a=b
   ·subst e;simp
   ·simp [e];omega
  all_goals (refine zmc (Q:=Q) k (ZBp fun z=>?_);omega)
theorem scS:zat ["many","last"] ["many","last"] (zai sP_look_over_size):=⟨rfl,rfl,rfl,by decide+kernel,rfl,by decide+kernel,by decide+kernel⟩
theorem ok_size {f:Addr} {fd:FuncData} (F:Fn K mg "look_over_size" sP_look_over_size ["many","last"] f fd) (T:TxtW mg):zbj P w K mg base CX0 1 f fd ["many","last"] zsn:=by
 obtain ⟨t1,m1⟩:=T.mm
 obtain ⟨t2,m2⟩:=T.ll
 refine F.F.ok scS (fun vs H Q E h=>?_) (fun cdv A outer s H vs Q E hr h=>?_)
 ·obtain ⟨n,a,rfl,_⟩:=h
  rfl
 ·obtain ⟨n,la,rfl,n1,n2,l1,l2,k⟩:=h
  refine ⟨_,zal (zbk (zdd (zjm zfs zfs zah (pv 0) (zgv (v:=.int 8) rfl m1 ⟨_,rfl⟩))) zdo zas) (zaf (zbk (zdd (zjm zfs zfs zah (pv 1) (zgv (v:=.int 60) rfl m2 ⟨_,rfl⟩))) zdo zas)),?_⟩
  refine ⟨_,rfl,_,_,rfl,rfl,_,rfl,zgi n1 ⟨_,_,rfl,rfl,_,rfl,zk5 n2 ?_⟩⟩
  exact ⟨_,rfl,_,_,rfl,rfl,_,rfl,zgi l1 ⟨_,_,rfl,rfl,_,rfl,zk5 l2 k⟩⟩
noncomputable abbrev nLT:List Str:=["many","ties","at","one","other","least","most"]
theorem zty:zat nLT ["many","ties"] (zai sP_look_over_ties):=⟨rfl,rfl,rfl,by decide+kernel,rfl,by decide+kernel,by decide+kernel⟩
theorem ok_lties {f f2:Addr} {fd fd2:FuncData} (F:Fn K mg "look_over_ties" sP_look_over_ties ["many","ties"] f fd) (T:TxtW mg) (F2:Fn K mg "are_two_moments" sP_are_two_moments ["many","one","other"] f2 fd2)
 (G2:zbj P w K mg base CX0 1 f2 fd2 ["many","one","other"] ztu):zbj P w K mg base CX0 2 f fd ["many","ties"] zor:=by
 obtain ⟨t1,m1⟩:=T.ws
 refine F.F.ok zty (fun vs H Q E h=>?_) (fun cdv A outer s H vs Q E hr h=>?_)
 ·obtain ⟨n,a,_,rfl,_⟩:=h
  rfl
 ·obtain ⟨n,a,rows,rfl,⟨ps,R⟩,hok,k⟩:=h
  refine ⟨_,zal (za0 (i:=2) zty.nd rfl (Or.inl rfl) zah) (zaf (zcx PassesOwn.never rfl (zb2 (pv 1))
   (ziw rfl (zbb (zap (i:=3) zty.nd rfl (Or.inl rfl)) (zbb (zap (i:=4) zty.nd rfl (Or.inl rfl)) (zbb (zap (i:=5) zty.nd rfl (Or.inl rfl)) (zbb (zap (i:=6) zty.nd rfl (Or.inl rfl)) zf1)))))
   (zal (zbk (zdd (zdv (zao G2 hr rfl F2.g F2.F.kp F2.b .nil za1 (zaa (pv 0) (zaa (pv 3) (zaa (pv 4) zac)))))) zdo zas)
   (zal (zbk (zdd (zkt zfs zfs zfs (zlv zhp (zgv (v:=.int 60) rfl m1 ⟨_,rfl⟩)) (pv 5) (pv 6) (zgv (v:=.int 60) rfl m1 ⟨_,rfl⟩))) zdo zas)
   (zaf (zo8 (i:=2) zty.nd rfl (Or.inl rfl) zah zpx)))))),?_⟩
  refine ⟨_,rfl,a,rfl,⟨_,SqL.of R.1⟩,zcf (K:=K) (a:=a) (xs:=ps.map V.ref) (fun i σ' H'=>∃z v1 v2 v3 v4,σ'=[some (.int n),some (.ref a),some (.int z),v1,v2,v3,v4]∧H'=H) ⟨0,none,none,none,none,rfl,rfl⟩ ?_ ?_ ?_⟩
  ·rintro i σ' H' _ ⟨z,v1,v2,v3,v4,rfl,rfl⟩
   exact SqL.of R.1
  ·rintro i x σ' H' hx ⟨z,v1,v2,v3,v4,rfl,rfl⟩
   rw [ZAg] at hx
   cases hq:ps[i]? with
   | none=>rw [hq] at hx;cases hx
   | some q=>
    rw [hq] at hx
    cases hx
    obtain ⟨r,hr',hqt⟩:=paired_get R.2 hq
    obtain ⟨a',b',l,m,rfl,h1,h2,h3,h4,h5,h6,h7,h8⟩:=hok r (ZAh hr')
    refine ⟨q,_,rfl,SqT.of hqt,rfl,_,_,rfl,_,_,rfl,_,_,rfl,_,_,rfl,rfl,?_⟩
    refine ⟨_,rfl,_,rfl,_,rfl,n,a',b',rfl,_,rfl,zk5 ⟨h1,h2,h3,h4,h5⟩ ?_⟩
    refine ⟨_,rfl,_,rfl,_,_,rfl,rfl,_,rfl,zgi (by omega) ⟨_,rfl,_,_,rfl,rfl,_,rfl,zgi h7 ⟨_,_,rfl,rfl,_,rfl,zk5 h8 ?_⟩⟩⟩
    exact ⟨_,rfl,_,_,rfl,rfl,_,_,_,_,_,rfl,rfl⟩
  ·rintro σ' H' ⟨z,v1,v2,v3,v4,rfl,rfl⟩
   exact k
end
end Y0
namespace L2
open PySem PySem.Spec PyProof.Rows
theorem zed {b:Bool} {A B:Prop} (e:b=false) (h:B):if b=true then A else B:=by
 rw [e]
 exact zeh h
theorem zct {b:Bool} {A B:Prop} (e:b=true) (h:A):if b=true then A else B:=by
 rw [e]
 exact zih h
theorem zhc (f:Str) (v:V):∀fs:List (Str×V),(zbz f v fs).length≤fs.length+1
 | []=>ZAc _
 | (g,x)::r=>by
  unfold zbz
  split
  ·exact Nat.le_succ _
  ·exact Nat.succ_le_succ (zhc f v r)
theorem zci.get {H:Hp} {a:Addr} {ps:List Addr} {rows:List (List Int)} (R:zci H a ps rows) {i:Nat} {x:V} (hx:(ps.map V.ref)[i]?=some x):∃q r,x=.ref q∧ps[i]?=some q∧rows[i]?=some r∧H q=some (.tup (r.map V.int)):=by
 rw [ZAg] at hx
 cases hq:ps[i]? with
 | none=>rw [hq] at hx;cases hx
 | some q=>
  rw [hq] at hx
  cases hx
  obtain ⟨r,hr',hqt⟩:=Y0.paired_get R.2 hq
  exact ⟨q,r,rfl,rfl,hr',hqt⟩
end L2
namespace Y0
open PySem L2
noncomputable def zy6 (r:List Int):Int:=r.getD 1 0
structure zqq (K:ZBq) (mg:Str->Option Value) (C:Addr):Prop where
 cl:Cls K C
 nM:zd9 K C "many"
 nL:zd9 K C "last"
 nT:zd9 K C "told_ties"
 nF:zd9 K C "told_falls"
 mgC:mg "Web"=some (.ref C)
noncomputable def zgs (n la:Int) (ta fa:Addr):List (Str×V):=zbz "told_falls" (.ref fa) (zbz "told_ties" (.ref ta) (zbz "last" (.int la) (zbz "many" (.int n) [])))
theorem k1:¬(("many":Str)="told_falls"):=by decide+kernel
theorem k2:¬(("many":Str)="told_ties"):=by decide+kernel
theorem k3:¬(("many":Str)="last"):=by decide+kernel
theorem k4:¬(("last":Str)="told_falls"):=by decide+kernel
theorem k5:¬(("last":Str)="told_ties"):=by decide+kernel
theorem k6:¬(("told_ties":Str)="told_falls"):=by decide+kernel
theorem zsf (n la:Int) (ta fa:Addr):(zgs n la ta fa).lookup ("many":Str)=some (.int n):=by
 unfold zgs
 rw [zba,if_neg k1,zba,if_neg k2,zba,if_neg k3,zba,if_pos rfl]
theorem zu9 (n la:Int) (ta fa:Addr):(zgs n la ta fa).lookup ("last":Str)=some (.int la):=by
 unfold zgs
 rw [zba,if_neg k4,zba,if_neg k5,zba,if_pos rfl]
theorem zu8 (n la:Int) (ta fa:Addr):(zgs n la ta fa).lookup ("told_ties":Str)=some (.ref ta):=by
 unfold zgs
 rw [zba,if_neg k6,zba,if_pos rfl]
theorem zth (n la:Int) (ta fa:Addr):(zgs n la ta fa).lookup ("told_falls":Str)=some (.ref fa):=by
 unfold zgs
 rw [zba,if_pos rfl]
theorem zw5 (n la:Int) (ta fa:Addr) {m:Str} (h1:¬m="told_falls") (h2:¬m="told_ties") (h3:¬m="last") (h4:¬m="many"):(zgs n la ta fa).lookup m=none:=by
 unfold zgs
 rw [zba,if_neg h1,zba,if_neg h2,zba,if_neg h3,zba,if_neg h4]
 all_goals rfl
noncomputable def zf3 (C:Addr) (H:Hp) (p:Addr) (n la:Int) (T F:List (List Int)):Prop:=∃dx ta fa,H p=some (.ins C dx (zgs n la ta fa))∧zbq H ta T∧zbq H fa F
theorem zf3.same {C p:Addr} {H H':Hp} {n la:Int} {T F:List (List Int)} (h:zf3 C H p n la T F) (k:zbu H H'):zf3 C H' p n la T F:=by
 obtain ⟨dx,ta,fa,e,r1,r2⟩:=h
 exact ⟨dx,ta,fa,k _ _ e,r1.same k,r2.same k⟩
noncomputable def zsw (C:Addr):Sp:=fun vs H Q _=>∃p dx n la a b T F,vs=[.ref p,.int n,.int la,.ref a,.ref b]∧H p=some (.ins C dx [])∧zbq H a T∧zbq H b F∧zcv n la T F∧
 ∀H',zf3 C H' p n la T F->zdl p H H'->Q .non H'
noncomputable def zou (C:Addr) (g:List (List Int)->List (List Int)->List (List Int)):Sp:=fun vs H Q _=>∃p n la T F,vs=[.ref p]∧zf3 C H p n la T F∧∀l H',H l=none->zbu H H'->zbq H' l (g T F)->Q (.ref l) H'
section
variable {P:Program} {w:World} {K:ZBq} {mg:Str->Option Value} {base:Heap}
noncomputable abbrev nLF:List Str:=["many","falls","ends","at","one","other","least","most"]
theorem zs0:zat nLF ["many","falls"] (zai sP_look_over_falls):=⟨rfl,rfl,rfl,by decide+kernel,rfl,by decide+kernel,by decide+kernel⟩
theorem zAm:zcg (zai sP_look_over_falls) nLF (fsc [(".0",.local),("fall",.local)]) ["fall"] [none]:=⟨rfl,by decide+kernel,by decide+kernel,by decide+kernel,rfl,by decide+kernel⟩
theorem nd1 {x:Str}:([x]:List Str).Nodup:=by simp
theorem ok_lfalls {f f2:Addr} {fd fd2:FuncData} (F:Fn K mg "look_over_falls" sP_look_over_falls ["many","falls"] f fd) (T:TxtW mg) (F2:Fn K mg "are_two_moments" sP_are_two_moments ["many","one","other"] f2 fd2)
 (G2:zbj P w K mg base CX0 1 f2 fd2 ["many","one","other"] ztu):zbj P w K mg base CX0 2 f fd ["many","falls"] zmq:=by
 obtain ⟨t1,m1⟩:=T.lf
 refine F.F.ok zs0 (fun vs H Q E h=>?_) (fun cdv A outer s H vs Q E hr h=>?_)
 ·obtain ⟨n,a,_,_,_,rfl,_⟩:=h
  rfl
 ·obtain ⟨n,a,la,TT,rows,rfl,⟨ps,R⟩,hok,k⟩:=h
  refine ⟨_,zal (zhv (i:=2) zs0.nd rfl rfl rfl (zb2 (pv 1)) zAm (fun cl ex s0 H0=>⟨zap (i:=0) nd1 rfl (Or.inl rfl),zdi,ixT (pv 0)⟩))
   (zal (za0 (i:=3) zs0.nd rfl (Or.inl rfl) zah) (zaf (zcx PassesOwn.never rfl (zb2 (pv 1))
   (ziw rfl (zbb (zap (i:=4) zs0.nd rfl (Or.inl rfl)) (zbb (zap (i:=5) zs0.nd rfl (Or.inl rfl)) (zbb (zap (i:=6) zs0.nd rfl (Or.inl rfl)) (zbb (zap (i:=7) zs0.nd rfl (Or.inl rfl)) zf1)))))
   (zal (zbk (PW.pt (zeg (zdd (zdv (zao G2 hr rfl F2.g F2.F.kp F2.b .nil za1 (zaa (pv 0) (zaa (pv 4) (zaa (pv 5) zac)))))) (zeo (zak zkz (pv 4) (pv 2) (by with_unfolding_all rfl))))) zdo zas)
   (zal (zbk (PW.pt (zeg (zak zbv (pv 5) zah (zam _)) (zeo (zak zkz (pv 5) (zez ztw (pv 2) zf0 (zfz (pv 3))) (by with_unfolding_all rfl))))) zdo zas)
   (zal (zbk (zdd (zkt zfs zfs zfs zah (pv 6) (pv 7) (zgv (v:=.int 60) rfl m1 ⟨_,rfl⟩))) zdo zas)
   (zaf (zo8 (i:=3) zs0.nd rfl (Or.inl rfl) zah zpx)))))))),?_⟩
  refine ⟨_,rfl,a,rfl,⟨_,SqL.of R.1⟩,fun Da hDa=>?_⟩
  refine zd7 (xs:=ps.map V.ref) (fun j σ' H'=>∃v,σ'=[v]∧H' Da=some (.lst (((rows.take j).map zy6).map V.int))∧zbu H H') ?_ ?_ ?_ ?_
  ·exact ⟨none,rfl,zab,zad hDa⟩
  ·rintro j σ' H1 _ ⟨v,rfl,_,s1⟩
   exact SqL.of (s1 _ _ R.1)
  ·rintro j x σ' H1 hx ⟨v,rfl,e1,s1⟩
   obtain ⟨q,r,rfl,hq,hr',hqt⟩:=R.get hx
   obtain ⟨a',b',l,m,rfl,_⟩:=hok.f r (ZAh hr')
   refine ⟨_,rfl,rdT (s1 _ _ hqt) rfl ⟨_,e1,?_,_,rfl,?_,fun b o e=>?_⟩⟩
   ·rw [ZAa,ZAa,ZA1]
    have:=hok.fl
    exact zaz (by omega)
   ·rw [zab,ZBa,hr',ZAp,ZAp]
    rfl
   ·rw [zaj (zae e hDa)]
    exact s1 _ _ e
  ·rintro σ' H1 ⟨v,rfl,e1,s1⟩
   have hl:rows.take (ps.map V.ref).length=rows:=by
    rw [ZAa,R.len]
    exact ZAy
   rw [hl] at e1
   have R1:=R.same s1
   refine ⟨_,rfl,a,rfl,⟨_,SqL.of R1.1⟩,zcf (K:=K) (a:=a) (xs:=ps.map V.ref) (fun i σ' H'=>∃z v1 v2 v3 v4,z=(i:Int)∧σ'=[some (.int n),some (.ref a),some (.ref Da),some (.int z),v1,v2,v3,v4]∧zbu H1 H') ⟨0,none,none,none,none,rfl,rfl,zbu.refl _⟩ ?_ ?_ ?_⟩
   ·rintro i σ' H' _ ⟨z,v1,v2,v3,v4,_,rfl,s2⟩
    exact SqL.of (s2 _ _ R1.1)
   ·rintro i x σ' H2 hx ⟨z,v1,v2,v3,v4,rfl,rfl,s2⟩
    have R2:=R1.same s2
    obtain ⟨q,r,rfl,hq,hr',hqt⟩:=R2.get hx
    have hmem:=ZAh hr'
    obtain ⟨a',b',l,m,e4,h1,h2,h3,h4,h5,h6,h7,h8⟩:=hok.f r hmem
    subst e4
    have e2:=s2 _ _ e1
    refine ⟨q,_,rfl,SqT.of hqt,rfl,_,_,rfl,_,_,rfl,_,_,rfl,_,_,rfl,rfl,?_⟩
    refine ⟨_,rfl,_,rfl,_,rfl,n,a',b',rfl,_,rfl,zk5 ⟨h1,h2,by omega,h4,h5⟩ ?_⟩
    refine ⟨_,rfl,_,rfl,Da,_,rfl,.inl (SqL.of e2),rfl,zh5,_,rfl,zed ?_ ?_⟩
    ·show inV _ _=false
     rw [zjx]
     refine ZBp fun z=>?_
     obtain ⟨r',hr2,e⟩:=ZA7.mp z
     obtain ⟨a2,b2,l2,m2,e5,_⟩:=hok.f r' hr2
     subst e5
     refine hok.own _ hmem _ hr2 ?_
     have e6:b2=a':=e
     show some a'=some b2
     rw [e6]
    ·refine ⟨_,rfl,rfl,_,rfl,zep (by intro z;have:=V.int.inj z;omega) ?_⟩
     refine ⟨_,rfl,_,rfl,_,rfl,_,rfl,Da,_,rfl,SqL.of e2,fun p hp=>⟨p,_,rfl,.inl (SqL.of zab),rfl,?_,_,rfl,zed ?_ ?_⟩⟩
     ·unfold znv
      rw [zna (by rw [ZAa,ZAa];exact ZAr (ZAb.mp hr').1),←List.map_take]
      exact zh5
     ·show inV _ _=false
      unfold znv
      rw [zna (by rw [ZAa,ZAa];exact ZAr (ZAb.mp hr').1),←List.map_take,zjx]
      refine ZBp fun z=>?_
      obtain ⟨j,hj⟩:=List.mem_iff_getElem?.mp z
      have hji:j<i:=by
       have:=(ZAb.mp hj).1
       rw [ZA1] at this
       omega
      rw [List.getElem?_take_of_lt hji,ZAg] at hj
      cases hr2:rows[j]? with
      | none=>rw [hr2] at hj;cases hj
      | some r'=>
       rw [hr2] at hj
       have e:zy6 r'=b':=ZAn hj
       obtain ⟨a2,b2,l2,m2,e5,_⟩:=hok.f r' (ZAh hr2)
       subst e5
       have e6:b2=b':=e
       have:=hok.one j i _ _ hr2 hr' (by show some b2=some b';rw [e6])
       omega
     ·refine ⟨_,rfl,_,_,rfl,rfl,_,rfl,zgi h6 ⟨_,rfl,_,_,rfl,rfl,_,rfl,zgi h7 ⟨_,_,rfl,rfl,_,rfl,zk5 h8 ?_⟩⟩⟩
      exact ⟨_,rfl,_,_,rfl,rfl,_,_,_,_,_,(by show (i:Int)+1=_;omega),rfl,s2.trans (zad hp)⟩
   ·rintro σ' H' ⟨z,v1,v2,v3,v4,_,rfl,s2⟩
    exact k _ (s1.trans s2)
theorem scI:zat ["self","many","last","ties","falls"] ["self","many","last","ties","falls"] (zai sC_Web_init):=⟨rfl,rfl,rfl,by decide+kernel,rfl,by decide+kernel,by decide+kernel⟩
theorem ok_init {f C fS fT fF:Addr} {fd fdS fdT fdF:FuncData} (F:Fun K "__init__" "Web.__init__" sC_Web_init f fd) (T:TxtW mg) (TC:zqq K mg C)
 (FS:Fn K mg "look_over_size" sP_look_over_size ["many","last"] fS fdS) (GS:zbj P w K mg base CX0 1 fS fdS ["many","last"] zsn)
 (FT:Fn K mg "look_over_ties" sP_look_over_ties ["many","ties"] fT fdT) (GT:zbj P w K mg base CX0 2 fT fdT ["many","ties"] zor)
 (FF:Fn K mg "look_over_falls" sP_look_over_falls ["many","falls"] fF fdF) (GF:zbj P w K mg base CX0 2 fF fdF ["many","falls"] zmq):
 zbj P w K mg base CX0 3 f fd ["self","many","last","ties","falls"] (zsw C):=by
 refine F.ok scI (fun vs H Q E h=>?_) (fun cdv A outer s H vs Q E hr h=>?_)
 ·obtain ⟨p,dx,n,la,a,b,_,_,rfl,_⟩:=h
  rfl
 ·obtain ⟨p,dx,n,la,a,b,rT,rF,rfl,hp,RT,RF,hok,k⟩:=h
  have hr1:zek 1 _:=hr.mono (by decide)
  refine ⟨_,zal (zbt (zao GS hr1 rfl FS.g FS.F.kp FS.b .nil za1 (zaa (pv 1) (zaa (pv 2) zac))))
   (zal (zbt (zao GT hr rfl FT.g FT.F.kp FT.b .nil za1 (zaa (pv 1) (zaa (pv 3) zac))))
   (zal (zbt (zao GF hr rfl FF.g FF.F.kp FF.b .nil za1 (zaa (pv 1) (zaa (pv 4) zac))))
   (zal (zfv (pv 0) (pv 1) rfl) (zal (zfv (pv 0) (pv 2) rfl)
   (zal (zfv (pv 0) (zd3 zdr (by rfl) T.list (by decide+kernel) (zaa (pv 3) zac)) rfl)
   (zaf (zfv (pv 0) (zd3 zdr (by rfl) T.list (by decide+kernel) (zaa (pv 4) zac)) rfl))))))),?_⟩
  refine ⟨_,rfl,_,rfl,n,la,rfl,hok.n1,hok.n2,hok.l1,hok.l2,?_⟩
  refine ⟨_,rfl,_,rfl,n,a,rT,rfl,RT,hok.t,?_⟩
  refine ⟨_,rfl,_,rfl,n,b,la,rT,rF,rfl,RF,hok,fun H1 s1=>?_⟩
  have hp1:=s1 _ _ hp
  have RT1:=RT.same s1
  have RF1:=RF.same s1
  obtain ⟨ps1,Q1⟩:=RT1
  obtain ⟨ps2,Q2⟩:=RF1
  refine ⟨_,rfl,_,rfl,p,C,dx,_,rfl,hp1,TC.cl,TC.nM,(by show 0<1000;decide),?_⟩
  refine ⟨_,rfl,_,rfl,p,C,dx,_,rfl,zab,TC.cl,TC.nL,(by show 1<1000;decide),?_⟩
  rw [zlo]
  have kp:∀{o:HO},zdl p H1 (upd H1 p o):=fun {o} b u e ne=>by rw [zaj ne];exact e
  have np:∀{x:Addr} {xs:List V},H1 x=some (.lst xs)->x≠p:=fun {x xs} e=>zbp e hp1 (fun z=>nomatch z)
  refine ⟨_,rfl,a,_,rfl,.inl (SqL.of (by rw [zaj (np Q1.1)];exact Q1.1)),fun l1 hl1=>?_⟩
  have l1p:l1≠p:=Ne.symm (zae zab hl1)
  have hl1':H1 l1=none:=by rw [zaj l1p] at hl1;exact hl1
  refine ⟨_,rfl,p,C,dx,_,rfl,(by rw [zaj (Ne.symm l1p),zab]),TC.cl,TC.nT,Nat.lt_of_le_of_lt (zhc _ _ _) (by show 2<1000;decide),?_⟩
  generalize hH2:upd (upd (upd H1 p (.ins C dx (zbz "last" (.int la) (zbz "many" (.int n) [])))) l1 (.lst (ps1.map V.ref))) p (.ins C dx (zbz "told_ties" (.ref l1) (zbz "last" (.int la) (zbz "many" (.int n) []))))=H2
  have k2':zdl p H1 H2:=fun x o e ne=>by rw [←hH2,zaj ne,zaj (zae e hl1'),zaj ne];exact e
  have p2:H2 p=some (.ins C dx (zbz "told_ties" (.ref l1) (zbz "last" (.int la) (zbz "many" (.int n) [])))):=by rw [←hH2,zab]
  have l2:H2 l1=some (.lst (ps1.map V.ref)):=by rw [←hH2,zaj l1p,zab]
  refine ⟨_,rfl,b,_,rfl,.inl (SqL.of (k2' _ _ Q2.1 (np Q2.1))),fun l3 hl3=>?_⟩
  have l3p:l3≠p:=Ne.symm (zae p2 hl3)
  have l31:l3≠l1:=Ne.symm (zae l2 hl3)
  have hl3':H1 l3=none:=by
   cases q:H1 l3 with
   | none=>rfl
   | some o=>rw [k2' _ _ q l3p] at hl3;cases hl3
  refine ⟨_,rfl,p,C,dx,_,rfl,(by rw [zaj (Ne.symm l3p)];exact p2),TC.cl,TC.nF,Nat.lt_of_le_of_lt (zhc _ _ _) (Nat.lt_of_le_of_lt (Nat.succ_le_succ (zhc _ _ _)) (by show 3<1000;decide)),?_⟩
  generalize hH4:upd (upd H2 l3 (.lst (ps2.map V.ref))) p (.ins C dx (zbz "told_falls" (.ref l3) (zbz "told_ties" (.ref l1) (zbz "last" (.int la) (zbz "many" (.int n) [])))))=H4
  have k4':zdl p H1 H4:=fun x o e ne=>by rw [←hH4,zaj ne,zaj (zae e hl3')];exact k2' _ _ e ne
  have tp:∀{x:Addr} {xs:List V},H1 x=some (.tup xs)->x≠p:=fun {x xs} e=>zbp e hp1 (fun z=>nomatch z)
  refine k H4 ⟨dx,l1,l3,by rw [←hH4,zab];rfl,⟨ps1,?_,zan Q1.2 fun x r e=>k4' _ _ e (tp e)⟩,⟨ps2,?_,zan Q2.2 fun x r e=>k4' _ _ e (tp e)⟩⟩ (fun x o e ne=>k4' _ _ (s1 _ _ e) ne)
  ·rw [←hH4,zaj l1p,zaj (Ne.symm l31)];exact l2
  ·rw [←hH4,zaj l3p,zab]
theorem zzs:zat ["self"] ["self"] (zai sC_Web_ties):=⟨rfl,rfl,rfl,by decide+kernel,rfl,by decide+kernel,by decide+kernel⟩
theorem zzr:zat ["self"] ["self"] (zai sC_Web_falls):=⟨rfl,rfl,rfl,by decide+kernel,rfl,by decide+kernel,by decide+kernel⟩
theorem ok_tiesM {f C:Addr} {fd:FuncData} (F:Fun K "ties" "Web.ties" sC_Web_ties f fd) (T:TxtW mg) (TC:zqq K mg C):zbj P w K mg base CX0 1 f fd ["self"] (zou C fun T _=>T):=by
 refine F.ok zzs (fun vs H Q E h=>?_) (fun cdv A outer s H vs Q E hr h=>?_)
 ·obtain ⟨p,_,_,_,_,rfl,_⟩:=h
  rfl
 ·obtain ⟨p,n,la,rT,rF,rfl,⟨dx,ta,fa,hp,⟨ps,R⟩,_⟩,k⟩:=h
  refine ⟨_,zaf (zaq (zd3 zdr (by rfl) T.list (by decide+kernel) (zaa (zcc (pv 0) rfl) zac))),?_⟩
  refine ⟨_,rfl,p,C,dx,_,_,rfl,hp,TC.cl,TC.nT,zu8 _ _ _ _,ta,_,rfl,.inl (SqL.of R.1),fun l hl=>?_⟩
  exact k l _ hl (zad hl) ⟨ps,zab,(R.same (zad hl)).2⟩
theorem ok_fallsM {f C:Addr} {fd:FuncData} (F:Fun K "falls" "Web.falls" sC_Web_falls f fd) (T:TxtW mg) (TC:zqq K mg C):zbj P w K mg base CX0 1 f fd ["self"] (zou C fun _ F=>F):=by
 refine F.ok zzr (fun vs H Q E h=>?_) (fun cdv A outer s H vs Q E hr h=>?_)
 ·obtain ⟨p,_,_,_,_,rfl,_⟩:=h
  rfl
 ·obtain ⟨p,n,la,rT,rF,rfl,⟨dx,ta,fa,hp,_,⟨ps,R⟩⟩,k⟩:=h
  refine ⟨_,zaf (zaq (zd3 zdr (by rfl) T.list (by decide+kernel) (zaa (zcc (pv 0) rfl) zac))),?_⟩
  refine ⟨_,rfl,p,C,dx,_,_,rfl,hp,TC.cl,TC.nF,zth _ _ _ _,fa,_,rfl,.inl (SqL.of R.1),fun l hl=>?_⟩
  exact k l _ hl (zad hl) ⟨ps,zab,(R.same (zad hl)).2⟩
end
end Y0
namespace L2
open PySem PySem.Spec PyProof.Rows
theorem zbd {α β:Type} {F:α->β->Prop} {l l':List α} {m m':List β} (h:Paired F l m) (h':Paired F l' m'):Paired F (l++l') (m++m'):=by
 induction h with
 | nil=>exact h'
 | cons r t ih=>exact .cons r ih
theorem zci.cat {H:Hp} {a b p:Addr} {ps qs:List Addr} {r s:List (List Int)} (h1:zci H a ps r) (h2:zci H b qs s) (hp:H p=none):zci (upd H p (.lst (ps.map V.ref++qs.map V.ref))) p (ps++qs) (r++s):=
 ⟨by rw [zab,ZAp],zbd (h1.same (zad hp)).2 (h2.same (zad hp)).2⟩
theorem zci.more {H0 H:Hp} {l p:Addr} {ps:List Addr} {rows:List (List Int)} {r:List Int} (h:zci H l ps rows) (s:zbu H0 H) (hl:H0 l=none) (hp:H p=none):
 zci (upd (upd H p (.tup (r.map V.int))) l (.lst (ps.map V.ref++[.ref p]))) l (ps++[p]) (rows++[r])∧zbu H0 (upd (upd H p (.tup (r.map V.int))) l (.lst (ps.map V.ref++[.ref p])))∧upd H p (.tup (r.map V.int)) l=some (.lst (ps.map V.ref)):=by
 have R:=h.same (zad (o:=.tup (r.map V.int)) hp)
 refine ⟨R.push zab,fun b o e=>?_,R.1⟩
 rw [zaj (zae e hl),zaj (zae (s _ _ e) hp)]
 exact s _ _ e
end L2
namespace Y0
open PySem L2
noncomputable def zev (la:Int):Nat->List (List Int)
 | 0=>[]
 | k+1=>zev la k++[[0,(k:Int)+1,la],[(k:Int)+1,0,0]]
theorem zdn (la:Int):∀k,(zev la k).length=2*k
 | 0=>rfl
 | k+1=>by unfold zev;rw [ZAj,zdn la k];rfl
noncomputable def zxj:List Int->List (List Int)
 | [a,b,l,m]=>[[a,b,m],[b,a,-l]]
 | _=>[]
noncomputable def zeu (rows:List (List Int)):List (List Int):=(rows.map zxj).flatten
noncomputable def ztd (rows:List (List Int)):Prop:=∀r∈rows,∃a b l m:Int,r=[a,b,l,m]
theorem zc5:∀{rows:List (List Int)},ztd rows->(zeu rows).length=2*rows.length
 | [],_=>rfl
 | r::t,h=>by
  obtain ⟨a,b,l,m,rfl⟩:=h _ ZAl
  have ih:=zc5 (rows:=t) fun r hr=>h r (ZAk _ hr)
  unfold zeu at ih ⊢
  rw [ZAv,List.flatten_cons,ZAj,ih,ZA5]
  show 2+2*t.length=2*(t.length+1)
  omega
theorem zcv.fourT {n la:Int} {T F:List (List Int)} (h:zcv n la T F):ztd T:=fun r hr=>by
 obtain ⟨a,b,l,m,e,_⟩:=h.t r hr
 exact ⟨a,b,l,m,e⟩
theorem zcv.fourF {n la:Int} {T F:List (List Int)} (h:zcv n la T F):ztd F:=fun r hr=>by
 obtain ⟨a,b,l,m,e,_⟩:=h.f r hr
 exact ⟨a,b,l,m,e⟩
noncomputable def zgp (n la:Int) (T F:List (List Int)):List (List Int):=zev la (n-1).toNat++zeu T++zeu F
structure zAu (mg:Str->Option Value):Prop where
 range:mg "range"=none
noncomputable def zsp (C:Addr):Sp:=fun vs H Q _=>∃p n la T F,vs=[.ref p]∧zf3 C H p n la T F∧1≤n∧n≤8∧∀l H',H l=none->zbu H H'->zbq H' l (zev la (n-1).toNat)->Q (.ref l) H'
noncomputable def zsl:Sp:=fun vs H Q _=>∃a rows,vs=[.ref a]∧zbq H a rows∧ztd rows∧rows.length≤100∧∀l H',H l=none->zbu H H'->zbq H' l (zeu rows)->Q (.ref l) H'
noncomputable def zsi (C:Addr):Sp:=fun vs H Q _=>∃p a n la T F T',vs=[.ref p,.ref a]∧zf3 C H p n la T F∧zcv n la T F∧zbq H a T'∧ztd T'∧T'.length≤100∧∀l H',H l=none->zbu H H'->zbq H' l (zgp n la T' F)->Q (.ref l) H'
noncomputable def zon (C:Addr):Sp:=fun vs H Q _=>∃p n la T F,vs=[.ref p]∧zf3 C H p n la T F∧zcv n la T F∧∀l H',H l=none->zbu H H'->zbq H' l (zgp n la T F)->Q (.ref l) H'
section
variable {P:Program} {w:World} {K:ZBq} {mg:Str->Option Value} {base:Heap}
theorem zxm:zat ["web","bounds","moment"] ["web"] (zai sP_room_bounds):=⟨rfl,rfl,rfl,by decide+kernel,rfl,by decide+kernel,by decide+kernel⟩
theorem ok_room {f C:Addr} {fd:FuncData} (F:Fn K mg "room_bounds" sP_room_bounds ["web"] f fd) (T:zAu mg) (TC:zqq K mg C):zbj P w K mg base CX0 1 f fd ["web"] (zsp C):=by
 refine F.F.ok zxm (fun vs H Q E h=>?_) (fun cdv A outer s H vs Q E hr h=>?_)
 ·obtain ⟨p,_,_,_,_,rfl,_⟩:=h
  rfl
 ·obtain ⟨p,n,la,rT,rF,rfl,⟨dx,ta,fa,hp,_,_⟩,n1,n2,k⟩:=h
  refine ⟨_,zal (za0 (i:=1) zxm.nd rfl (Or.inl rfl) (zcy zac))
   (zal (zcx PassesOwn.never rfl (zkv rfl T.range (zaa zah (zaa (zcc (pv 0) rfl) zac))) (zap (i:=2) zxm.nd rfl (Or.inl rfl))
    (zal (zbt (zjp PySem.F.plainAttrs_list PySem.F.slot_list_append PySem.F.type_list_append zcs (pv 1) (zaa (za8 (zaa zah (zaa (pv 2) (zaa (zcc (pv 0) rfl) zac)))) zac)))
    (zaf (zbt (zjp PySem.F.plainAttrs_list PySem.F.slot_list_append PySem.F.type_list_append zcs (pv 1) (zaa (za8 (zaa (pv 2) (zaa zah (zaa zah zac)))) zac))))))
   (zaf (zaq (pv 1)))),?_⟩
  refine ⟨ZAq _,fun l hl=>?_⟩
  have s0:=zad (o:=.lst []) hl
  refine ⟨_,rfl,p,C,dx,_,_,rfl,s0 _ _ hp,TC.cl,TC.nM,zsf _ _ _ _,1,n,rfl,⟨by decide,by decide,by omega,by omega⟩,?_⟩
  refine zeq (n:=(n-1).toNat) (fun i σ' H'=>∃v ps,σ'=[some (.ref p),some (.ref l),v]∧zci H' l ps (zev la i)∧zbu H H') ⟨none,[],rfl,⟨zab,.nil⟩,s0⟩ ?_ ?_
  ·rintro i σ' H1 hi ⟨v,ps,rfl,R1,s1⟩
   have small:∀j:Nat,j≤20->j<sizeLine:=fun j hj=>zaz (by omega)
   refine ⟨_,rfl,.inl ⟨rfl,_,SqL.of R1.1⟩,_,rfl,_,rfl,p,C,dx,_,_,rfl,s1 _ _ hp,TC.cl,TC.nL,zu9 _ _ _ _,by show 3≤sizeLine;decide,fun p1 hp1=>?_⟩
   obtain ⟨R2,s2,e2⟩:=R1.more (r:=[0,1+(i:Int),la]) s1 hl hp1
   refine ⟨l,_,_,rfl,rfl,e2,?_,?_⟩
   ·rw [ZAa,R1.len,zdn];exact small _ (by omega)
   refine ⟨_,rfl,.inl ⟨rfl,_,SqL.of R2.1⟩,_,rfl,by show 3≤sizeLine;decide,fun p2 hp2=>?_⟩
   obtain ⟨R3,s3,e3⟩:=R2.more (r:=[1+(i:Int),0,0]) s2 hl hp2
   refine ⟨l,_,_,rfl,rfl,e3,?_,?_⟩
   ·rw [ZAa,R2.len,ZAj,zdn];exact small _ (by simp;omega)
   refine ⟨_,ps++[p1]++[p2],rfl,?_,s3⟩
   have e:zev la (i+1)=zev la i++[[0,1+(i:Int),la]]++[[1+(i:Int),0,0]]:=by
    rw [List.append_assoc,Int.add_comm 1 (i:Int)]
    rfl
   rw [e]
   exact R3
  ·rintro σ' H1 ⟨v,ps,rfl,R1,s1⟩
   exact ⟨_,rfl,k l _ hl s1 ⟨ps,R1⟩⟩
noncomputable abbrev nSb:List Str:=["spans","bounds","one","other","least","most"]
theorem zu2:zat nSb ["spans"] (zai sP_span_bounds):=⟨rfl,rfl,rfl,by decide+kernel,rfl,by decide+kernel,by decide+kernel⟩
theorem ok_span {f:Addr} {fd:FuncData} (F:Fn K mg "span_bounds" sP_span_bounds ["spans"] f fd):zbj P w K mg base CX0 1 f fd ["spans"] zsl:=by
 refine F.F.ok zu2 (fun vs H Q E h=>?_) (fun cdv A outer s H vs Q E hr h=>?_)
 ·obtain ⟨a,_,rfl,_⟩:=h
  rfl
 ·obtain ⟨a,rows,rfl,⟨qs,R⟩,h4,hlen,k⟩:=h
  refine ⟨_,zal (za0 (i:=1) zu2.nd rfl (Or.inl rfl) (zcy zac))
   (zal (zcx PassesOwn.never rfl (zb2 (pv 0))
    (ziw rfl (zbb (zap (i:=2) zu2.nd rfl (Or.inl rfl)) (zbb (zap (i:=3) zu2.nd rfl (Or.inl rfl)) (zbb (zap (i:=4) zu2.nd rfl (Or.inl rfl)) (zbb (zap (i:=5) zu2.nd rfl (Or.inl rfl)) zf1)))))
    (zal (zbt (zjp PySem.F.plainAttrs_list PySem.F.slot_list_append PySem.F.type_list_append zcs (pv 1) (zaa (za8 (zaa (pv 2) (zaa (pv 3) (zaa (pv 5) zac)))) zac)))
    (zaf (zbt (zjp PySem.F.plainAttrs_list PySem.F.slot_list_append PySem.F.type_list_append zcs (pv 1) (zaa (za8 (zaa (pv 3) (zaa (pv 2) (zaa (zlv zhp (pv 4)) zac)))) zac))))))
   (zaf (zaq (pv 1)))),?_⟩
  refine ⟨ZAq _,fun l hl=>?_⟩
  have s0:=zad (o:=.lst []) hl
  refine ⟨_,rfl,a,rfl,⟨_,SqL.of (s0 _ _ R.1)⟩,zcf (K:=K) (a:=a) (xs:=qs.map V.ref) (fun i σ' H'=>∃v1 v2 v3 v4 ps,σ'=[some (.ref a),some (.ref l),v1,v2,v3,v4]∧zci H' l ps (zeu (rows.take i))∧zbu H H') ⟨none,none,none,none,[],rfl,⟨zab,.nil⟩,s0⟩ ?_ ?_ ?_⟩
  ·rintro i σ' H1 _ ⟨v1,v2,v3,v4,ps,rfl,R1,s1⟩
   exact SqL.of (s1 _ _ R.1)
  ·rintro i x σ' H1 hx ⟨v1,v2,v3,v4,ps,rfl,R1,s1⟩
   obtain ⟨q,r,rfl,hq,hr',hqt⟩:=R.get hx
   obtain ⟨a',b',le,mo,e4⟩:=h4 r (ZAh hr')
   subst e4
   have hi:i<rows.length:=(ZAb.mp hr').1
   have h4':ztd (rows.take i):=fun r hr=>h4 r (List.mem_of_mem_take hr)
   have hl1:(zeu (rows.take i)).length≤200:=by rw [zc5 h4',ZA1];omega
   refine ⟨q,_,rfl,SqT.of (s1 _ _ hqt),rfl,_,_,rfl,_,_,rfl,_,_,rfl,_,_,rfl,rfl,?_⟩
   refine ⟨_,rfl,.inl ⟨rfl,_,SqL.of R1.1⟩,_,rfl,_,rfl,_,rfl,by show 3≤sizeLine;decide,fun p1 hp1=>?_⟩
   obtain ⟨R2,s2,e2⟩:=R1.more (r:=[a',b',mo]) s1 hl hp1
   refine ⟨l,_,_,rfl,rfl,e2,?_,?_⟩
   ·rw [ZAa,R1.len];exact zaz (by omega)
   refine ⟨_,rfl,.inl ⟨rfl,_,SqL.of R2.1⟩,_,rfl,_,rfl,_,rfl,_,rfl,by show 3≤sizeLine;decide,fun p2 hp2=>?_⟩
   obtain ⟨R3,s3,e3⟩:=R2.more (r:=[b',a',-le]) s2 hl hp2
   refine ⟨l,_,_,rfl,rfl,e3,?_,?_⟩
   ·rw [ZAa,R2.len,ZAj];exact zaz (by simp;omega)
   refine ⟨_,_,_,_,ps++[p1]++[p2],rfl,?_,s3⟩
   have e:zeu (rows.take (i+1))=zeu (rows.take i)++[[a',b',mo]]++[[b',a',-le]]:=by
    unfold zeu
    rw [ZBa,hr',ZAp,List.flatten_append,List.append_assoc]
    rfl
   rw [e]
   exact R3
  ·rintro σ' H1 ⟨v1,v2,v3,v4,ps,rfl,R1,s1⟩
   have hle:rows.take (qs.map V.ref).length=rows:=by
    rw [ZAa,R.len]
    exact ZAy
   rw [hle] at R1
   exact ⟨_,rfl,k l _ hl s1 ⟨ps,R1⟩⟩
theorem zzt:zat ["web","ties"] ["web","ties"] (zai sP_bounds_with):=⟨rfl,rfl,rfl,by decide+kernel,rfl,by decide+kernel,by decide+kernel⟩
theorem ok_with {f C fR fS fM:Addr} {fd fdR fdS fdM:FuncData} (F:Fn K mg "bounds_with" sP_bounds_with ["web","ties"] f fd) (TC:zqq K mg C)
 (FR:Fn K mg "room_bounds" sP_room_bounds ["web"] fR fdR) (GR:zbj P w K mg base CX0 1 fR fdR ["web"] (zsp C))
 (FS:Fn K mg "span_bounds" sP_span_bounds ["spans"] fS fdS) (GS:zbj P w K mg base CX0 1 fS fdS ["spans"] zsl)
 (mF:zj6 K C "falls" fM) (bF:zdc K fdM ["self"] []) (GF:zbj P w K mg base CX0 1 fM fdM ["self"] (zou C fun _ F=>F)):zbj P w K mg base CX0 2 f fd ["web","ties"] (zsi C):=by
 refine F.F.ok zzt (fun vs H Q E h=>?_) (fun cdv A outer s H vs Q E hr h=>?_)
 ·obtain ⟨p,a,_,_,_,_,_,rfl,_⟩:=h
  rfl
 ·obtain ⟨p,a,n,la,rT,rF,T',rfl,W0,hok,RT,hT4,hTl,k⟩:=h
  refine ⟨_,zaf (zaq (zbi zhy (zbi zhy (zao GR hr rfl FR.g FR.F.kp FR.b .nil za1 (zaa (pv 0) zac)) (zao GS hr rfl FS.g FS.F.kp FS.b .nil za1 (zaa (pv 1) zac)))
   (zao GS hr rfl FS.g FS.F.kp FS.b .nil za1 (zaa (zhd (pv 0) TC.cl mF GF hr bF .nil za1) zac)))),?_⟩
  refine ⟨_,rfl,p,n,la,rT,rF,rfl,W0,hok.n1,hok.n2,fun l1 H1 hl1 s1 R1=>?_⟩
  refine ⟨_,rfl,a,T',rfl,RT.same s1,hT4,hTl,fun l2 H2 hl2 s2 R2=>?_⟩
  obtain ⟨ps1,R1'⟩:=R1.same s2
  obtain ⟨ps2,R2⟩:=R2
  have e1:=R1'.len
  have e2:=R2.len
  rw [zdn] at e1
  rw [zc5 hT4] at e2
  have n2:=hok.n2
  refine ⟨l1,l2,_,_,rfl,rfl,R1'.1,R2.1,?_,fun l3 hl3=>?_⟩
  ·rw [ZAa,ZAa];exact ZAr (zaz (by omega))
  have R3:=R1'.cat R2 hl3
  have s3:=zad (o:=.lst (ps1.map V.ref++ps2.map V.ref)) hl3
  have s13:=(s1.trans s2).trans s3
  obtain ⟨dx,ta,fa,hp,_,_⟩:=id (W0.same s13)
  refine ⟨_,rfl,p,dx,_,rfl,hp,zw5 _ _ _ _ (by decide+kernel) (by decide+kernel) (by decide+kernel) (by decide+kernel),p,n,la,rT,rF,rfl,W0.same s13,fun l4 H4 hl4 s4 R4=>?_⟩
  refine ⟨l4,rF,rfl,R4,hok.fourF,by have:=hok.fl;omega,fun l5 H5 hl5 s5 R5=>?_⟩
  have R3':=(R3.same s4).same s5
  obtain ⟨ps5,R5⟩:=R5
  have e5:=R5.len
  rw [zc5 hok.fourF] at e5
  have fl:=hok.fl
  refine ⟨l3,l5,_,_,rfl,rfl,R3'.1,R5.1,?_,fun l6 hl6=>?_⟩
  ·rw [ZAa,ZAa,ZAj];exact ZAr (zaz (by omega))
  have s5':=(s13.trans s4).trans s5
  exact k l6 _ (s5'.free hl6) (s5'.trans (zad hl6)) ⟨_,R3'.cat R5 hl6⟩
theorem zzn:zat ["web"] ["web"] (zai sP_told_bounds):=⟨rfl,rfl,rfl,by decide+kernel,rfl,by decide+kernel,by decide+kernel⟩
theorem ok_told {f C fB fM:Addr} {fd fdB fdM:FuncData} (F:Fn K mg "told_bounds" sP_told_bounds ["web"] f fd) (TC:zqq K mg C)
 (FB:Fn K mg "bounds_with" sP_bounds_with ["web","ties"] fB fdB) (GB:zbj P w K mg base CX0 2 fB fdB ["web","ties"] (zsi C))
 (mT:zj6 K C "ties" fM) (bT:zdc K fdM ["self"] []) (GT:zbj P w K mg base CX0 1 fM fdM ["self"] (zou C fun T _=>T)):zbj P w K mg base CX0 3 f fd ["web"] (zon C):=by
 refine F.F.ok zzn (fun vs H Q E h=>?_) (fun cdv A outer s H vs Q E hr h=>?_)
 ·obtain ⟨p,_,_,_,_,rfl,_⟩:=h
  rfl
 ·obtain ⟨p,n,la,rT,rF,rfl,W0,hok,k⟩:=h
  have hr1:zek 1 _:=hr.mono (by decide)
  refine ⟨_,zaf (zaq (zao GB hr rfl FB.g FB.F.kp FB.b .nil za1 (zaa (pv 0) (zaa (zhd (pv 0) TC.cl mT GT hr1 bT .nil za1) zac)))),?_⟩
  obtain ⟨dx,ta,fa,hp,_,_⟩:=id W0
  refine ⟨_,rfl,_,rfl,p,dx,_,rfl,hp,zw5 _ _ _ _ (by decide+kernel) (by decide+kernel) (by decide+kernel) (by decide+kernel),p,n,la,rT,rF,rfl,W0,fun l1 H1 hl1 s1 R1=>?_⟩
  exact ⟨p,l1,n,la,rT,rF,rT,rfl,W0.same s1,hok,R1,hok.fourT,by have:=hok.tl;omega,fun l H' hl s' R=>k l H' (s1.free hl) (s1.trans s') R⟩
end
end Y0
namespace L2
open PySem PySem.Spec PyProof.Rows
section
variable {κ:Type} [DecidableEq κ]
noncomputable def zfg (kvs:List (κ×V)) (k:κ):Option V:=(kvs.find? fun kv=>decide (kv.1=k)).map (·.2)
noncomputable def ze9 (kvs:List (κ×V)) (k:κ) (v:V):List (κ×V):=
 if (kvs.any fun kv=>decide (kv.1=k))=true then kvs.map (fun kv=>if kv.1=k then (kv.1,v) else kv) else kvs++[(k,v)]
theorem zc3 {p:κ×V} {r:List (κ×V)} {k:κ} (e:p.1=k):zfg (p::r) k=some p.2:=by simp [zfg,List.find?_cons,e]
theorem zc4 {p:κ×V} {r:List (κ×V)} {k:κ} (e:¬p.1=k):zfg (p::r) k=zfg r k:=by simp [zfg,List.find?_cons,e]
theorem zet (k:κ):∀kvs:List (κ×V),(kvs.any fun kv=>decide (kv.1=k))=(zfg kvs k).isSome
 | []=>rfl
 | p::r=>by
  rw [List.any_cons]
  by_cases e:p.1=k
  ·simp only [zc3 e,ZBo e,Bool.true_or,Option.isSome_some]
  ·rw [zc4 e,ZBp e,Bool.false_or];exact zet k r
theorem zml (k j:κ) (y:V):∀kvs:List (κ×V),zfg (kvs.map fun kv=>if kv.1=k then (kv.1,y) else kv) j=(zfg kvs j).map fun x=>if j=k then y else x
 | []=>rfl
 | p::r=>by
  have ih:=zml k j y r
  rw [ZAv]
  by_cases h:p.1=k
  ·rw [if_pos h]
   by_cases e:p.1=j
   ·rw [zc3 (p:=(p.1,y)) e,zc3 e,Option.map_some,if_pos (e.symm.trans h)]
   ·rw [zc4 (p:=(p.1,y)) e,zc4 e,ih]
  ·rw [if_neg h]
   by_cases e:p.1=j
   ·rw [zc3 (p:=p) e,zc3 e,Option.map_some,if_neg (fun z=>h (e.trans z))]
   ·rw [zc4 (p:=p) e,zc4 e,ih]
theorem zkf (k j:κ) (y:V):∀kvs:List (κ×V),zfg kvs k=none->zfg (kvs++[(k,y)]) j=if j=k then some y else zfg kvs j
 | [],_=>by
  by_cases e:k=j
  ·rw [if_pos e.symm];exact zc3 (p:=(k,y)) e
  ·rw [if_neg (fun z=>e z.symm)];exact zc4 (p:=(k,y)) e
 | p::r,hn=>by
  rw [List.cons_append]
  have hk:¬p.1=k:=fun z=>by rw [zc3 z] at hn;cases hn
  rw [zc4 hk] at hn
  have ih:=zkf k j y r hn
  by_cases e:p.1=j
  ·rw [zc3 e,zc3 e,if_neg (fun z=>hk (e.trans z))]
  ·rw [zc4 e,zc4 e,ih]
theorem zf8 (kvs:List (κ×V)) (k j:κ) (y:V):zfg (ze9 kvs k y) j=if j=k then some y else zfg kvs j:=by
 unfold ze9
 by_cases a:(kvs.any fun kv=>decide (kv.1=k))=true
 ·rw [if_pos a,zml]
  rw [zet] at a
  by_cases e:j=k
  ·obtain ⟨x,hx⟩:=Option.isSome_iff_exists.mp a
   rw [if_pos e,e,hx,Option.map_some,if_pos rfl]
  ·rw [if_neg e]
   cases zfg kvs j with
   | none=>rfl
   | some x=>rw [Option.map_some,if_neg e]
 ·rw [if_neg a]
  refine zkf k j y kvs ?_
  rw [zet] at a
  cases q:zfg kvs k with
  | none=>rfl
  | some x=>rw [q] at a;exact (a rfl).elim
theorem zdg (kvs:List (κ×V)) (k:κ) (v:V):(ze9 kvs k v).length≤kvs.length+1:=by
 unfold ze9
 split
 ·rw [ZAa];omega
 ·rw [ZAj,ZA5,ZBk];omega
theorem zj8.isSome_eq {o:Option V} {u:Option Value} (r:zj8 o u):o.isSome=u.isSome:=by
 cases o with
 | none=>cases u with
  | none=>rfl
  | some _=>exact (show False from r).elim
 | some _=>cases u with
  | none=>exact (show False from r).elim
  | some _=>rfl
theorem zj8.getD {o:Option V} {u:Option Value} {d:V} {d':Value} (r:zj8 o u) (rd:zcm d d'):zcm (o.getD d) (u.getD d'):=by
 cases o with
 | none=>cases u with
  | none=>exact rd
  | some _=>exact (show False from r).elim
 | some _=>cases u with
  | none=>exact (show False from r).elim
  | some _=>exact r
theorem KV.val {kvs:List (κ×V)} {vs:List (κ×Value)} (r:KV kvs vs) (k:κ):zj8 (zfg kvs k) (valueAt vs k):=by
 unfold KV at r
 induction r with
 | nil=>exact True.intro
 | @cons p q ps qs h t ih=>
  obtain ⟨h1,h2⟩:=h
  by_cases e:p.1=k
  ·have e':q.1=k:=h1.symm.trans e
   have b:valueAt (q::qs) k=some q.2:=by simp [valueAt,List.find?_cons,e']
   rw [zc3 e,b];exact h2
  ·have e':¬q.1=k:=fun z=>e (h1.trans z)
   have b:valueAt (q::qs) k=valueAt qs k:=by simp [valueAt,List.find?_cons,e']
   rw [zc4 e,b];exact ih
theorem KV.any {kvs:List (κ×V)} {vs:List (κ×Value)} (r:KV kvs vs) (k:κ):(kvs.any fun kv=>decide (kv.1=k))=vs.any fun kv=>decide (kv.1=k):=by
 unfold KV at r
 induction r with
 | nil=>rfl
 | cons h t ih=>rw [List.any_cons,List.any_cons,ih,h.1]
theorem KV.repl {kvs:List (κ×V)} {vs:List (κ×Value)} (r:KV kvs vs) (k:κ) {y:V} {u:Value} (ry:zcm y u):
 KV (kvs.map fun kv=>if kv.1=k then (kv.1,y) else kv) (vs.map fun kv=>if kv.1=k then (kv.1,u) else kv):=by
 unfold KV at r ⊢
 induction r with
 | nil=>exact .nil
 | @cons p q ps qs h t ih=>
  rw [ZAv,ZAv]
  refine .cons ?_ ih
  obtain ⟨h1,h2⟩:=h
  by_cases e:p.1=k
  ·rw [if_pos e,if_pos (h1.symm.trans e)];exact ⟨h1,ry⟩
  ·rw [if_neg e,if_neg (fun z=>e (h1.trans z))];exact ⟨h1,h2⟩
theorem KV.put {kvs:List (κ×V)} {vs:List (κ×Value)} (r:KV kvs vs) (k:κ) {y:V} {u:Value} (ry:zcm y u):KV (ze9 kvs k y) (stored vs k u):=by
 unfold ze9 stored
 rw [r.any k]
 by_cases e:(vs.any fun kv=>decide (kv.1=k))=true
 ·rw [if_pos e,if_pos e];exact r.repl k ry
 ·rw [if_neg e,if_neg e];exact Paired.snoc r ⟨rfl,ry⟩
theorem KV.length {kvs:List (κ×V)} {vs:List (κ×Value)} (r:KV kvs vs):kvs.length=vs.length:=Paired.length r
end
theorem zl3 {P:Program} {w:World} {k:Key} {u:Value} (r:zcm (kV k) u):(zck P w).is k u=true:=by
 cases k with
 | inl i=>obtain ⟨t,e⟩:=(show ∃t,u=Value.int i t from r);subst e;exact zly P w i t
 | inr x=>obtain ⟨t,e⟩:=(show ∃t,u=Value.str x t from r);subst e;exact zlx P w x t
theorem zk4 {P:Program} {w:World}:∀{ks:List Key} {us:List Value},zcb (ks.map kV) us->ItemsAre (zck P w) ks us
 | [],_,r=>by rw [List.map_nil] at r;cases r;exact .nil
 | k::ks,_,r=>by
  rw [ZAv] at r
  cases r with
  | cons h t=>exact .cons (zl3 h) (zk4 t)
noncomputable abbrev KT (H:Hp):List (List Key×V)->List (List Key×Addr×Value)->Prop:=Paired fun p q=>p.1=q.1∧H q.2.1=some (.tup (p.1.map kV))∧zcm p.2 q.2.2
theorem KT.val {H:Hp} {kvs:List (List Key×V)} {xs:List (List Key×Addr×Value)} (r:KT H kvs xs) (k:List Key):zj8 (zfg kvs k) ((atKey xs k).map (·.2)):=by
 induction r with
 | nil=>exact True.intro
 | @cons p q ps qs h t ih=>
  obtain ⟨h1,_,h2⟩:=h
  by_cases e:p.1=k
  ·have e':q.1=k:=h1.symm.trans e
   have b:atKey (q::qs) k=some q.2:=by simp [atKey,List.find?_cons,e']
   rw [zc3 e,b];exact h2
  ·have e':¬q.1=k:=fun z=>e (h1.trans z)
   have b:atKey (q::qs) k=atKey qs k:=by simp [atKey,List.find?_cons,e']
   rw [zc4 e,b];exact ih
theorem KT.repl {H:Hp} {kvs:List (List Key×V)} {xs:List (List Key×Addr×Value)} (r:KT H kvs xs) (k:List Key) {y:V} {u:Value} (ry:zcm y u):
 KT H (kvs.map fun kv=>if kv.1=k then (kv.1,y) else kv) (xs.map (putAt k u)):=by
 induction r with
 | nil=>exact .nil
 | @cons p q ps qs h t ih=>
  rw [ZAv,ZAv]
  refine .cons ?_ ih
  obtain ⟨h1,h2,h3⟩:=h
  unfold putAt
  by_cases e:p.1=k
  ·rw [if_pos e,if_pos (h1.symm.trans e)];exact ⟨h1,h2,ry⟩
  ·rw [if_neg e,if_neg (fun z=>e (h1.trans z))];exact ⟨h1,h2,h3⟩
theorem KT.put {H:Hp} {kvs:List (List Key×V)} {xs:List (List Key×Addr×Value)} (r:KT H kvs xs) (k:List Key) {b:Addr} {y:V} {u:Value} (hb:H b=some (.tup (k.map kV))) (ry:zcm y u):
 KT H (ze9 kvs k y) (storedH xs k b u):=by
 have e:(kvs.any fun kv=>decide (kv.1=k))=(atKey xs k).isSome:=by
  rw [zet,(r.val k).isSome_eq,Option.isSome_map]
 unfold ze9 storedH
 rw [e]
 by_cases q:(atKey xs k).isSome=true
 ·rw [if_pos q,if_pos q];exact r.repl k ry
 ·rw [if_neg q,if_neg q];exact Paired.snoc r ⟨rfl,hb,ry⟩
theorem KT.keeps {H H':Hp} {kvs:List (List Key×V)} {xs:List (List Key×Addr×Value)} (r:KT H kvs xs) (ht:∀b ys,H b=some (.tup ys)->H' b=some (.tup ys)):KT H' kvs xs:=
 Paired.mapP r fun _ _ z=>⟨z.1,ht _ _ z.2.1,z.2.2⟩
section
variable {P:Program} {w:World} {H:Hp} {h:Heap} {a:Addr}
theorem zvs {u:HO} (ok:HOk P w H h) (e:Rd H a u):zcd P w H h a u:=e.ok ok
theorem zl8 {kvs:List (Key×V)} (ok:HOk P w H h) (e:Rd H a (.dK kvs)):kvs.length≤sizeLine∧(a==sysModules)=false∧∃vs,KV kvs vs∧h.DictOf (zck P w) a vs:=
 show zcd P w H h a (.dK kvs) from zvs ok e
theorem zwk {kvs:List (Key×V)} (ok:HOk P w H h) (e:H a=some (.dK kvs)):kvs.length≤sizeLine∧(a==sysModules)=false∧∃vs,KV kvs vs∧h.DictOf (zck P w) a vs:=zl8 ok (.inl e)
theorem zi0 {ks:List Key} (ok:HOk P w H h) (e:H a=some (.tup (ks.map kV))):(tupleKind (zck P w)).is h ks a:=by
 obtain ⟨_,its,r,o,h1,h2,n,h3⟩:=(show zcd P w H h a (.tup (ks.map kV)) from ok a _ e)
 exact ⟨o,its.toArray,n,h1,h2,h3,by simpa using zk4 r⟩
theorem zl7 {kvs:List (List Key×V)} (ok:HOk P w H h) (e:Rd H a (.dT kvs)):kvs.length≤sizeLine∧(a==sysModules)=false∧
 ∃xs,KT H kvs xs∧h.DictOfH (tupleKind (zck P w)) a xs:=by
 obtain ⟨z,y,xs,r,o,es,ep,h1,h2,h3,h4,h5⟩:=(show zcd P w H h a (.dT kvs) from zvs ok e)
 refine ⟨z,y,xs,r,o,es,ep,h1,h2,h3,h4,fun x hx=>?_,h5⟩
 have all:∀{l:List (List Key×V)} {m:List (List Key×Addr×Value)},KT H l m->∀x∈m,(tupleKind (zck P w)).is h x.1 x.2.1:=by
  intro l m q
  induction q with
  | nil=>intro x hx;exact nomatch hx
  | @cons p q ps qs hq t ih=>
   intro x hx
   rcases ZAu.mp hx with e | hx
   ·subst e
    exact zi0 ok (by rw [←hq.1];exact hq.2.1)
   ·exact ih x hx
 exact all r x hx
theorem zx9 {kvs:List (List Key×V)} (ok:HOk P w H h) (e:H a=some (.dT kvs)):kvs.length≤sizeLine∧(a==sysModules)=false∧
 ∃xs,KT H kvs xs∧h.DictOfH (tupleKind (zck P w)) a xs:=zl7 ok (.inl e)
end
noncomputable def ze7 (H:Hp) (a:Addr) (y:V) (r:Option V):Prop:=
 (∃kvs k,Rd H a (.dK kvs)∧y=kV k∧r=zfg kvs k)∨∃kvs k b,Rd H a (.dT kvs)∧y=.ref b∧H b=some (.tup (k.map kV))∧r=zfg kvs k
noncomputable def zqs (H:Hp) (a:Addr) (y v:V) (H':Hp):Prop:=
 (∃kvs k,H a=some (.dK kvs)∧y=kV k∧kvs.length<sizeLine∧H'=upd H a (.dK (ze9 kvs k v)))∨
 ∃kvs k b,H a=some (.dT kvs)∧y=.ref b∧H b=some (.tup (k.map kV))∧kvs.length<sizeLine∧H'=upd H a (.dT (ze9 kvs k v))
theorem ze7.k {H:Hp} {a:Addr} {kvs:List (Key×V)} {k:Key} (e:H a=some (.dK kvs)):ze7 H a (kV k) (zfg kvs k):=.inl ⟨kvs,k,.inl e,rfl,rfl⟩
theorem ze7.t {H:Hp} {a b:Addr} {kvs:List (List Key×V)} {k:List Key} (e:H a=some (.dT kvs)) (eb:H b=some (.tup (k.map kV))):ze7 H a (.ref b) (zfg kvs k):=.inr ⟨kvs,k,b,.inl e,rfl,eb,rfl⟩
theorem zqs.k {H:Hp} {a:Addr} {kvs:List (Key×V)} {k:Key} {v:V} (e:H a=some (.dK kvs)) (hl:kvs.length<sizeLine):zqs H a (kV k) v (upd H a (.dK (ze9 kvs k v))):=.inl ⟨kvs,k,e,rfl,hl,rfl⟩
theorem zqs.t {H:Hp} {a b:Addr} {kvs:List (List Key×V)} {k:List Key} {v:V} (e:H a=some (.dT kvs)) (eb:H b=some (.tup (k.map kV))) (hl:kvs.length<sizeLine):
 zqs H a (.ref b) v (upd H a (.dT (ze9 kvs k v))):=.inr ⟨kvs,k,b,e,rfl,eb,hl,rfl⟩
section
variable {X:Cx} {pins:List (Addr×Obj)} {σ:St} {H:Hp} {s:Shared} {a:Addr} {y v:V} {u r:Value} {o:Option V} {A:Around} {E:Value->Shared->Prop}
theorem Inv.big (I:Inv X pins σ H s):sysModules<s.heap.objs.size:=by
 have h:mainGlobals<s.heap.objs.size:=(I.mod.glob.keeps I.bk).lt
 exact Nat.lt_trans (by decide) h
theorem zqb {Q:Value->Shared->Prop} (hu:A.units+1<cLine) (I:Inv X pins σ H s) (g:ze7 H a y (some v)) (ry:zcm y u) (h:∀w' s',Inv X pins σ H s'->zcm v w'->Q w' s'):
 wpAny (model X.prog X.w) A (getItem (.ref a) u) Q E s:=by
 rcases g with ⟨kvs,k,e,ey,l⟩ | ⟨kvs,k,b,e,ey,eb,l⟩
 ·subst ey
  obtain ⟨z,hd,vs,rel,dd⟩:=zl8 I.hok e
  obtain ⟨w',hw,rw'⟩:=zj8.some_of (v:=v) (o:=valueAt vs k) (by rw [l];exact rel.val k)
  exact wpAny_getItem_of (zl3 ry) dd.mapOf hw (h w' _ (I.tok _) rw')
 ·subst ey
  cases (show u=Value.ref b from ry)
  obtain ⟨z,hd,xs,rel,dd⟩:=zl7 I.hok e
  obtain ⟨w',hw,rw'⟩:=zj8.some_of (v:=v) (o:=(atKey xs k).map (·.2)) (by rw [l];exact rel.val k)
  obtain ⟨p,hp,hp2⟩:=Option.map_eq_some_iff.mp hw
  refine wpAny_getItem_heap (tupleKind_room_in1 hu) (zi0 I.hok eb) dd hp ?_
  rw [hp2]
  exact h w' _ (I.tok _) rw'
theorem zAh {Q:Value->Shared->Prop} (hu:A.units+1<cLine) (I:Inv X pins σ H s) (g:ze7 H a y o) (ry:zcm y u) (h:∀s',Inv X pins σ H s'->Q (.bool o.isSome) s'):
 wpAny (model X.prog X.w) A (compareOp .In u (.ref a)) Q E s:=by
 rcases g with ⟨kvs,k,e,ey,l⟩ | ⟨kvs,k,b,e,ey,eb,l⟩
 ·subst ey
  obtain ⟨z,hd,vs,rel,dd⟩:=zl8 I.hok e
  refine wpAny_in_of (zl3 ry) hd dd.mapOf ?_
  rw [←(rel.val k).isSome_eq,←l]
  exact h _ (I.tok _)
 ·subst ey
  cases (show u=Value.ref b from ry)
  obtain ⟨z,hd,xs,rel,dd⟩:=zl7 I.hok e
  refine wpAny_in_heap (tupleKind_room_in1 hu) (zi0 I.hok eb) hd dd ?_
  have q:=(rel.val k).isSome_eq
  rw [Option.isSome_map] at q
  rw [←q,←l]
  exact h _ (I.tok _)
theorem zul {Q:Value->Shared->Prop} (hu:A.units+1<cLine) (I:Inv X pins σ H s) (g:ze7 H a y o) (ry:zcm y u) (h:∀s',Inv X pins σ H s'->Q (.bool (!o.isSome)) s'):
 wpAny (model X.prog X.w) A (compareOp .NotIn u (.ref a)) Q E s:=by
 rcases g with ⟨kvs,k,e,ey,l⟩ | ⟨kvs,k,b,e,ey,eb,l⟩
 ·subst ey
  obtain ⟨z,hd,vs,rel,dd⟩:=zl8 I.hok e
  refine wpAny_notIn_of (zl3 ry) hd dd.mapOf ?_
  rw [←(rel.val k).isSome_eq,←l]
  exact h _ (I.tok _)
 ·subst ey
  cases (show u=Value.ref b from ry)
  obtain ⟨z,hd,xs,rel,dd⟩:=zl7 I.hok e
  refine wpAny_notIn_heap (tupleKind_room_in1 hu) (zi0 I.hok eb) hd dd ?_
  have q:=(rel.val k).isSome_eq
  rw [Option.isSome_map] at q
  rw [←q,←l]
  exact h _ (I.tok _)
theorem zmb {h':Heap} {t':Nat} {ob:HO} (I:Inv X pins σ H s) (mu:Mut (H a)) (hs:Heap.SameBut a s.heap h') (he:∃q,h'.get? a=some q) (new:zcd X.prog X.w (upd H a ob) h' a ob):
 Inv X pins σ (upd H a ob) { s with heap:=h',toks:=t' }:=
 I.write (x:=a) (e:=a) mu (.inl rfl) (fun b q hb z=>(hs.2 b hb).trans z) he new
theorem zs8 {P:Program} {w:World} {H':Hp} {h':Heap} {kvs:List (Key×V)} {vs:List (Key×Value)} (z:kvs.length≤sizeLine) (hd:(a==sysModules)=false) (rel:KV kvs vs) (dd:h'.DictOf (zck P w) a vs):
 zcd P w H' h' a (.dK kvs):=⟨z,hd,vs,rel,dd⟩
theorem zqa {H':Hp} {Q:Unit->Shared->Prop} (hu:A.units+1<cLine) (I:Inv X pins σ H s) (g:zqs H a y v H') (ry:zcm y u) (rv:zcm v r) (h:∀s',Inv X pins σ H' s'->Q () s'):
 wpAny (model X.prog X.w) A (setItem (.ref a) u r) Q E s:=by
 rcases g with ⟨kvs,k,e,ey,l,eH⟩ | ⟨kvs,k,b,e,ey,eb,l,eH⟩
 ·subst ey eH
  obtain ⟨z,hd,vs,rel,dd⟩:=zwk I.hok e
  have hz:vs.length≤sizeLine:=by rw [←rel.length];exact z
  have hl:(ze9 kvs k v).length≤sizeLine:=by have:=zdg kvs k v;omega
  refine wpAny_setItem_pairs (hsz:=hz) (zl3 ry) dd fun h' dd' hs=>h _ ?_
  have he:∃q,h'.get? a=some q:=let ⟨q,_,_,hq,_⟩:=dd';⟨q,hq⟩
  exact zmb I (by rw [e];exact True.intro) hs he (zs8 hl hd (rel.put k rv) dd')
 ·subst ey eH
  cases (show u=Value.ref b from ry)
  obtain ⟨z,hd,xs,rel,dd⟩:=zx9 I.hok e
  have hz:xs.length≤sizeLine:=by rw [←Paired.length rel];exact z
  have hl:(ze9 kvs k v).length≤sizeLine:=by have:=zdg kvs k v;omega
  refine wpAny_setItem_heap (hsz:=hz) (tupleKind_room_in1 hu) (zi0 I.hok eb) dd fun h' dd' hs=>h _ ?_
  obtain ⟨q,es,ep,hq,h2,h3,h4,_,h5⟩:=dd'
  refine zmb I (by rw [e];exact True.intro) hs ⟨q,hq⟩ ⟨hl,hd,_,(rel.put k eb rv).keeps fun c ys ec=>?_,q,es,ep,hq,h2,h3,h4,h5⟩
  rw [zaj (zbp ec e (fun z=>nomatch z))]
  exact ec
end
section
variable {X:Cx} {pins:List (Addr×Obj)} {σ:St} {H:Hp} {s:Shared} {a:Addr} {kvs:List (Key×V)} {k:Key} {u:Value} {A:Around} {E:Value->Shared->Prop}
end
noncomputable def zy9 (i:Expr):Prop:=∀ov iv,subscripted i false ov iv=operate [ov,iv] (getItem ov iv)
theorem ztt {prog:Program} {w:World} {A:Around} {E:Value->Shared->Prop} {s:Shared} {env:Env} {value slice:Expr} {pos:Pos} {T id:String} {Q:Value->Shared->Prop}
 (hl:typeLookup (.type T) "__getitem__"=pure (some (.builtin id))) (hs:zy9 slice)
 (h:wpAny (model prog w) A (eval value env) (fun o s₁=>wpAny (model prog w) A (eval slice env) (fun i s₂=>s₂.TypeIs o T∧wpAny (model prog w) A (getItem o i) Q E s₂) E s₁) E s):
 wpAny (model prog w) A (eval (.Subscript value slice pos) env) Q E s:=by
 refine Subscript_ (wpAny_mono h (fun o s₁ h₁=>wpAny_mono h₁ (fun i s₂ h₂=>?_) fun _ _ x=>x) fun _ _ x=>x)
 obtain ⟨hT,h₂⟩:=h₂
 unfold subscriptTail
 refine wpAny_bind ?_
 rw [getitemInPython_of_ne hT.not_modules]
 refine wpAny_bind (wpAny_specialOf hT hl ?_)
 have fin:wpAny (model prog w) A (subscripted slice false o i) (fun r s₃=>wpAny (model prog w) A (letTemporaryGo value o r>>=fun _=>pure r) Q E s₃) E s₂:=by
  rw [hs o i]
  exact wpAny_operating (wpAny_mono h₂ (fun r s₃ h₃=>wpAny_bind (wpAny_letTemporaryGo (wpAny_pure h₃))) fun _ _ x=>x)
 first
  | exact wpAny_pure (wpAny_bind fin)
  | exact wpAny_bind (wpAny_pure (wpAny_bind fin))
  | exact wpAny_bind fin
theorem zl9 {X:Cx} {pins:List (Addr×Obj)} {σ:St} {H:Hp} {s:Shared} {a:Addr} {y:V} {o:Option V} (I:Inv X pins σ H s) (g:ze7 H a y o):s.TypeIs (.ref a) "dict":=by
 rcases g with ⟨kvs,k,e,_,_⟩ | ⟨kvs,k,b,e,_,_,_⟩
 ·obtain ⟨_,_,vs,_,dd⟩:=zl8 I.hok e
  exact dd.typeIs
 ·obtain ⟨_,_,xs,_,dd⟩:=zl7 I.hok e
  exact dd.typeIs
noncomputable def zxf (td ty:TE):TE:=fun σ H Q=>td σ H fun x H1=>ty σ H1 fun y H2=>∃a v,x=.ref a∧ze7 H2 a y (some v)∧Q v H2
noncomputable def zzf (ty td:TE):TE:=fun σ H Q=>ty σ H fun y H1=>td σ H1 fun x H2=>∃a o,x=.ref a∧ze7 H2 a y o∧Q (.bl o.isSome) H2
noncomputable def ztq (ty td:TE):TE:=fun σ H Q=>ty σ H fun y H1=>td σ H1 fun x H2=>∃a o,x=.ref a∧ze7 H2 a y o∧Q (.bl (!o.isSome)) H2
noncomputable def zxp (td ty tv:TE):TS:=fun D σ H=>tv σ H fun v H1=>td σ H1 fun x H2=>ty σ H2 fun y H3=>∃a H4,x=.ref a∧zqs H3 a y v H4∧D.nx σ H4
section
variable {X:Cx} {o i e value:Expr} {pos pos' tpos:Pos} {td ty tv:TE}
theorem zc6 (hu:X.A.units+1<cLine) (ho:PE X o td) (hi:PE X i ty) (hs:zy9 i):PE X (.Subscript o i pos) (zxf td ty):=by
 intro pins s σ H Q I h
 refine ztt PySem.F.slot_dict_getitem.lookup hs (thn (ho pins s σ H _ I h) fun u s1 zz=>L2.el5 zz fun x H1 I1 rx q1=>thn (hi pins s1 σ H1 _ I1 q1) fun iv s2 zz=>?_)
 obtain ⟨y,H2,I2,ry,a,v,ex,g,q2⟩:=zz
 subst ex
 obtain rfl:u=Value.ref a:=rx
 exact ⟨zl9 I2 g,zqb hu I2 g ry fun w' s3 I3 rw'=>⟨v,H2,I3,rw',q2⟩⟩
theorem zpf (hu:X.A.units+1<cLine) (hi:PE X i ty) (ho:PE X o td):PC X .In i o (zzf ty td):=by
 intro pins s σ H Q I h
 refine thn (hi pins s σ H _ I h) fun iv s1 zz=>L2.el5 zz fun y H1 I1 ry q1=>thn (ho pins s1 σ H1 _ I1 q1) fun u s2 zz=>?_
 obtain ⟨x,H2,I2,rx,a,ov,ex,g,q2⟩:=zz
 subst ex
 obtain rfl:u=Value.ref a:=rx
 exact zAh hu I2 g ry fun s3 I3=>⟨.bl ov.isSome,H2,I3,rfl,q2⟩
theorem zgb (hu:X.A.units+1<cLine) (hi:PE X i ty) (ho:PE X o td):PC X .NotIn i o (ztq ty td):=by
 intro pins s σ H Q I h
 refine thn (hi pins s σ H _ I h) fun iv s1 zz=>L2.el5 zz fun y H1 I1 ry q1=>thn (ho pins s1 σ H1 _ I1 q1) fun u s2 zz=>?_
 obtain ⟨x,H2,I2,rx,a,ov,ex,g,q2⟩:=zz
 subst ex
 obtain rfl:u=Value.ref a:=rx
 exact zul hu I2 g ry fun s3 I3=>⟨.bl (!ov.isSome),H2,I3,rfl,q2⟩
theorem zjn (hu:X.A.units+1<cLine) (ho:PE X o td) (hi:PE X i ty) (hv:PE X value tv) (hs:swapsWith value (some (.Subscript o i pos')) pos.line X.env=pure false):
 PS X (.Assign [.Subscript o i pos'] value pos) (zxp td ty tv):=by
 intro pins s σ H D I h
 refine wpAny_Assign_Subscript (thn (hv pins s σ H _ I h) fun r s1 zz=>L2.el5 zz fun v H1 I1 rv q1=>thn (ho pins s1 σ H1 _ I1 q1) fun u s2 zz=>L2.el5 zz fun x H2 I2 rx q2=>thn (hi pins s2 σ H2 _ I2 q2) fun iv s3 zz=>?_) hs
 obtain ⟨y,H3,I3,ry,a,H4,ex,g,q3⟩:=zz
 subst ex
 obtain rfl:u=Value.ref a:=rx
 exact zqa hu I3 g ry rv fun s4 I4=>⟨σ,H4,I4,q3⟩
end
theorem zm8 {P:Program} {w:World} {H:Hp} (h:Heap) (hb:sysModules<h.objs.size):zcd P w H (h.push { cls:=.type "dict",data:=.dict #[] }) h.objs.size (.dK []):=
 ⟨ZAq _,beq_eq_false_iff_ne.mpr (Ne.symm (ZAz hb)),[],.nil,Heap.DictOf.new h⟩
theorem zr0 {P:Program} {w:World} {H:Hp} (h:Heap) (hb:sysModules<h.objs.size):zcd P w H (h.push { cls:=.type "dict",data:=.dict #[] }) h.objs.size (.dT []):=
 ⟨ZAq _,beq_eq_false_iff_ne.mpr (Ne.symm (ZAz hb)),[],.nil,_,#[],0,ZAx _ rfl,⟨rfl,rfl,rfl⟩,rfl,rfl,List.nodup_nil⟩
noncomputable def zvf:TE:=fun _ H Q=>∀p,H p=none->Q (.ref p) (upd H p (.dK []))
noncomputable def zve:TE:=fun _ H Q=>∀p,H p=none->Q (.ref p) (upd H p (.dT []))
section
variable {X:Cx} {pos:Pos}
theorem zmy:PE X (.Dict [] [] pos) zvf:=fun pins s σ H Q I h=>
 wpAny_Dict_empty ⟨.ref s.heap.objs.size,_,I.laid (a:=s.heap.objs.size) (o:=.dK []) (t':=s.toks) (fun _ _ q=>ZAe _ q) (ZAc _) (zm8 s.heap I.big),rfl,h _ (I.hok.fresh (ZAc _))⟩
theorem zre:PE X (.Dict [] [] pos) zve:=fun pins s σ H Q I h=>
 wpAny_Dict_empty ⟨.ref s.heap.objs.size,_,I.laid (a:=s.heap.objs.size) (o:=.dT []) (t':=s.toks) (fun _ _ q=>ZAe _ q) (ZAc _) (zr0 s.heap I.big),rfl,h _ (I.hok.fresh (ZAc _))⟩
end
noncomputable def zok:List (TE×TE)->St->Hp->(List (V×V)->Hp->Prop)->Prop
 | [],_,H,Q=>Q [] H
 | (tk,tv)::r,σ,H,Q=>tk σ H fun x H1=>tv σ H1 fun y H2=>zok r σ H2 fun ps H3=>Q ((x,y)::ps) H3
noncomputable abbrev VV:List (V×V)->List (Value×Value)->Prop:=Paired fun p q=>zcm p.1 q.1∧zcm p.2 q.2
noncomputable def PPs (X:Cx) (pos:Pos) (keys:List (Option Expr)) (values:List Expr) (trs:List (TE×TE)):Prop:=
 ∀(pins:List (Addr×Obj)) (s:Shared) (σ:St) (H:Hp) (Q:List (V×V)->Hp->Prop),Inv X pins σ H s->zok trs σ H Q->
  wpAny (model X.prog X.w) X.A (evalPairs (pairTrees keys values X.env pos)) (fun vs s'=>∃ps H',Inv X pins σ H' s'∧VV ps vs∧Q ps H') X.xe s
theorem zo9 {X:Cx} {pos:Pos}:PPs X pos [] [] []:=fun pins s σ H Q I h=>pairTrees_nil_walk ⟨[],H,I,.nil,h⟩
theorem zjo {X:Cx} {pos:Pos} {k v:Expr} {ks:List (Option Expr)} {vs:List Expr} {tk tv:TE} {trs:List (TE×TE)} (hk:PE X k tk) (hv:PE X v tv) (hr:PPs X pos ks vs trs):
 PPs X pos (some k::ks) (v::vs) ((tk,tv)::trs):=fun pins s σ H Q I h=>
 pairTrees_cons_walk (thn (hk pins s σ H _ I h) fun u s1 zz=>L2.el5 zz fun x H1 I1 rx q1=>thn (hv pins s1 σ H1 _ I1 q1) fun w2 s2 zz=>L2.el5 zz fun y H2 I2 ry q2=>
  thn (hr pins s2 σ H2 _ I2 q2) fun ws s3 zz=>L2.el5 zz fun ps H3 I3 rel q3=>⟨(x,y)::ps,H3,I3,.cons ⟨rx,ry⟩ rel,q3⟩)
noncomputable def zgf (kvs more:List (Key×V)):List (Key×V):=more.foldl (fun acc kv=>ze9 acc kv.1 kv.2) kvs
theorem KV.merge:∀{more:List (Key×V)} {rs:List (Key×Value)} {kvs:List (Key×V)} {vs:List (Key×Value)},KV more rs->KV kvs vs->KV (zgf kvs more) (merged vs rs):=by
 intro more rs kvs vs r
 unfold KV at r
 induction r generalizing kvs vs with
 | nil=>intro q;exact q
 | @cons p q ps qs h t ih=>
  intro r0
  have e:KV (ze9 kvs p.1 p.2) (stored vs q.1 q.2):=by
   have:=r0.put p.1 h.2
   rw [←h.1];exact this
  exact ih e
theorem zgg:∀(more kvs:List (Key×V)),(zgf kvs more).length≤kvs.length+more.length
 | [],kvs=>by show kvs.length≤kvs.length+0;omega
 | p::r,kvs=>by
  have h1:=zgg r (ze9 kvs p.1 p.2)
  have h2:=zdg kvs p.1 p.2
  show (zgf (ze9 kvs p.1 p.2) r).length≤_
  rw [ZA5];omega
theorem zi6 {P:Program} {w:World}:∀{kvs:List (Key×V)} {ws:List (Value×Value)},VV (kvs.map fun kv=>(kV kv.1,kv.2)) ws->∃rs,Carries (zck P w) ws rs∧KV kvs rs
 | [],_,r=>by rw [List.map_nil] at r;cases r;exact ⟨[],True.intro,.nil⟩
 | p::kvs,_,r=>by
  rw [ZAv] at r
  cases r with
  | @cons a b as bs h t=>
   obtain ⟨rs,c,q⟩:=zi6 (P:=P) (w:=w) t
   obtain ⟨b1,b2⟩:=b
   exact ⟨(p.1,b2)::rs,⟨zl3 h.1,rfl,c⟩,.cons ⟨rfl,h.2⟩ q⟩
noncomputable def zxe (trs:List (TE×TE)):TE:=fun σ H Q=>∀p,H p=none->zok trs σ (upd H p (.dK [])) fun ps H2=>H2 p=some (.dK [])∧∃kvs:List (Key×V),ps=kvs.map (fun kv=>(kV kv.1,kv.2))∧kvs.length≤15∧Q (.ref p) (upd H2 p (.dK (zgf [] kvs)))
theorem zpe {X:Cx} {pos:Pos} {keys:List (Option Expr)} {values:List Expr} {trs:List (TE×TE)} (h:PPs X pos keys values trs) (hall:keys.all (·.isSome)=true) (hl:keys.length=values.length) (h0:keys≠[])
 (h15:keys.length≤15):PE X (.Dict keys values pos) (zxe trs):=by
 intro pins s σ H Q I q
 have hn:=I.hok.fresh (ZAc s.heap.objs.size)
 have I1:=I.laid (a:=s.heap.objs.size) (o:=.dK []) (h':=s.heap.push { cls:=.type "dict",data:=.dict #[] }) (t':=s.toks) (fun _ _ q=>ZAe _ q) (ZAc _) (zm8 s.heap I.big)
 refine wpAny_Dict_walk (knd:=zck X.prog X.w) hall hl h0 h15 (thn (h pins _ σ _ _ I1 (q _ hn)) fun ws s2 zz=>?_)
 obtain ⟨ps,H2,I2,rel,e,kvs,ep,lk,q2⟩:=zz
 subst ep
 obtain ⟨rs,c,rk⟩:=zi6 (P:=X.prog) (w:=X.w) rel
 obtain ⟨z,hd,vs0,r0,dd⟩:=zwk I2.hok e
 cases r0
 refine ⟨rs,c,dd,fun h' dd' hs=>⟨.ref s.heap.objs.size,_,?_,rfl,q2⟩⟩
 have hz:(zgf [] kvs).length≤sizeLine:=by
  have h1:=zgg kvs []
  rw [ZBk] at h1
  rw [sizeLine_eq];omega
 have he:∃q,h'.get? s.heap.objs.size=some q:=let ⟨q,_,_,hq,_⟩:=dd';⟨q,hq⟩
 exact zmb I2 (by rw [e];exact True.intro) hs he (zs8 hz hd (rk.merge .nil) dd')
structure M1 (X:Cx) (o:Expr) (m:Str) (apos:Pos) (e:Expr) (cpos:Pos):Prop where
 base:attributeBase o m X.env (eval o X.env)=eval o X.env
 few:((backTo cpos (starEach [e] X.env)).all (fun x=> !x.1) && (backToKw cpos (keywordEach [] X.env)).all (fun x=>x.1.isSome)
  && decide (([e]:List Expr).length+([]:List Keyword).length+(if ([]:List Keyword).isEmpty then 0 else 1)<30))=true
 line:(apos.endLine==cpos.line)=true
 trees:backTo cpos (starEach [e] X.env)=[(false,eval e X.env)]
structure M2 (X:Cx) (o:Expr) (m:Str) (apos:Pos) (e f:Expr) (cpos:Pos):Prop where
 base:attributeBase o m X.env (eval o X.env)=eval o X.env
 few:((backTo cpos (starEach [e,f] X.env)).all (fun x=> !x.1) && (backToKw cpos (keywordEach [] X.env)).all (fun x=>x.1.isSome)
  && decide (([e,f]:List Expr).length+([]:List Keyword).length+(if ([]:List Keyword).isEmpty then 0 else 1)<30))=true
 line:(apos.endLine==cpos.line)=true
 trees:backTo cpos (starEach [e,f] X.env)=[(false,eval e X.env),(false,eval f X.env)]
noncomputable def IsD (H:Hp) (a:Addr):Prop:=(∃kvs,Rd H a (.dK kvs))∨∃kvs,Rd H a (.dT kvs)
theorem zwh {X:Cx} {pins:List (Addr×Obj)} {σ:St} {H:Hp} {s:Shared} {a:Addr} (I:Inv X pins σ H s) (d:IsD H a):
 s.TypeIs (.ref a) "dict"∧(∀b,Value.ref a=.ref b->∃ob,s.heap.get? b=some ob∧ob.dict=none)∧(a==sysModules)=false:=by
 rcases d with ⟨kvs,e⟩ | ⟨kvs,e⟩
 ·obtain ⟨_,hd,vs,_,dd⟩:=zl8 I.hok e
  refine ⟨dd.typeIs,fun b q=>?_,hd⟩
  cases q
  obtain ⟨ob,_,_,h1,h2,_⟩:=dd
  exact ⟨ob,h1,h2.2.1⟩
 ·obtain ⟨_,hd,xs,_,dd⟩:=zl7 I.hok e
  refine ⟨dd.typeIs,fun b q=>?_,hd⟩
  cases q
  obtain ⟨ob,_,_,h1,h2,_⟩:=dd
  exact ⟨ob,h1,h2.2.1⟩
section
variable {X:Cx} {pins:List (Addr×Obj)} {σ:St} {H:Hp} {s:Shared} {a:Addr} {y d:V} {u r:Value} {o:Option V} {A:Around} {E:Value->Shared->Prop}
theorem zwl {Q:Value->Shared->Prop} (hu:A.units+1<cLine) (I:Inv X pins σ H s) (g:ze7 H a y o) (ry:zcm y u) (rd:zcm d r) (h:∀w' s',Inv X pins σ H s'->zcm (o.getD d) w'->Q w' s'):
 wpAny (model X.prog X.w) A (call (.builtin "dict.get") [.ref a,u,r]) Q E s:=by
 rcases g with ⟨kvs,k,e,ey,l⟩ | ⟨kvs,k,b,e,ey,eb,l⟩
 ·subst ey
  obtain ⟨z,hd,vs,rel,dd⟩:=zl8 I.hok e
  refine call_meetsIn PySem.F.slot_dict_get dd.typeIs PySem.F.entry_dict_get (PySem.F.args_dict_get_3 _ _ _) (meets_dict_get_default (zck X.prog X.w) a (zl3 ry) hd r) ⟨_,dd.mapOf,h _ _ (I.tok _) ?_⟩
  rw [l]
  exact (rel.val k).getD rd
 ·subst ey
  cases (show u=Value.ref b from ry)
  obtain ⟨z,hd,xs,rel,dd⟩:=zl7 I.hok e
  refine call_meetsIn PySem.F.slot_dict_get dd.typeIs PySem.F.entry_dict_get (PySem.F.args_dict_get_3 _ _ _) (meetsH_dict_get_default (tupleKind (zck X.prog X.w)) a b hd r) ⟨tupleKind_room_in1 hu,k,xs,zi0 I.hok eb,dd,h _ _ (I.tok _) ?_⟩
  rw [l]
  exact (rel.val k).getD rd
end
noncomputable def zvg (td ty tx:TE):TE:=fun σ H Q=>td σ H fun x H1=>∃a,x=.ref a∧IsD H1 a∧ty σ H1 fun y H2=>tx σ H2 fun z H3=>∃o,ze7 H3 a y o∧Q (o.getD z) H3
section
variable {X:Cx} {o e f:Expr} {apos cpos:Pos} {td ty tx:TE}
theorem zrf (hu:X.A.units+1<cLine) (ho:PE X o td) (he:PE X e ty) (hf:PE X f tx) (m:M2 X o "get" apos e f cpos):PE X (.Call (.Attribute o "get" apos) [e,f] [] cpos) (zvg td ty tx):=by
 intro pins s σ H Q I h
 refine wpAny_Call_method m.base m.few m.line PySem.F.plainAttrs_dict PySem.F.slot_dict_get PySem.F.type_dict_get (thn (ho pins s σ H _ I h) fun u s1 zz=>?_)
 obtain ⟨x,H1,I1,rx,a,ex,d,q1⟩:=zz
 subst ex
 obtain rfl:u=Value.ref a:=rx
 obtain ⟨t1,t2,_⟩:=zwh I1 d
 refine ⟨t1,t2,?_⟩
 rw [m.trees]
 refine Calls.callWith_builtin rfl (Calls.evalArgs_plain (Calls.spliced_cons (thn (he pins s1 σ H1 _ I1 q1) fun iv s2 zz=>L2.el5 zz fun y H2 I2 ry q2=>
  Calls.spliced_cons (thn (hf pins s2 σ H2 _ I2 q2) fun fv s3 ⟨z,H3,I3,rz,ov,g,q3⟩=>Calls.spliced_nil ?_))))
 exact zwl hu I3 g ry rz fun w' s4 I4 rw'=>⟨_,H3,I4,rw',q3⟩
end
section
variable {X:Cx} {pins:List (Addr×Obj)} {σ:St} {H:Hp} {s:Shared} {a:Addr} {kvs:List (Key×V)} {A:Around} {E:Value->Shared->Prop}
end
section
variable {X:Cx} {pins:List (Addr×Obj)} {σ:St} {H:Hp} {s:Shared} {a:Addr} {y:V} {u:Value} {A:Around} {E:Value->Shared->Prop}
end
end L2
namespace MT
variable {n:Nat} {m:Nat->Nat->Nat->Option Int} {pt:Nat->Nat->Nat->Prop} {low:Int}
end MT
namespace MU
structure zar where
 tie:Bool
 a:Nat
 b:Nat
 v:Int
inductive Wd where
 | told | sum | late | soon | sure | back | cross
structure Row where
 what:zar
 word:Wd
 used:List Nat
noncomputable abbrev Key:=Bool×Nat×Nat
noncomputable def zar.key (w:zar):Key:=(w.tie,w.a,w.b)
structure St where
 rows:List Row
 best:Key->Option Nat
 bar:Option Nat
noncomputable abbrev za4:=Nat->Option (Nat×Int×Int)
noncomputable def wat (st:St) (i:Nat):Option zar:=(st.rows[i]?).map (·.what)
noncomputable def val (st:St) (k:Key):Option Int:=(st.best k).bind fun i=>(wat st i).map (·.v)
noncomputable def zbs (tie:Bool) (v u:Int):Prop:=if tie=true then v<u else u<v
noncomputable instance (tie:Bool) (v u:Int):Decidable (zbs tie v u):=by unfold zbs;infer_instance
theorem zlh {b:Bool} {x y z:Int} (h1:zbs b x y) (h2:zbs b y z):zbs b x z:=by
 unfold zbs at*
 cases b<;>simp_all<;>omega
theorem zgd {b:Bool} {x y z:Int} (h1:¬zbs b x y) (h2:¬zbs b y z):¬zbs b x z:=by
 unfold zbs at*
 cases b<;>simp_all<;>omega
theorem zny {b:Bool} {x y:Int} (h:zbs b x y):¬zbs b y x:=by
 unfold zbs at*
 cases b<;>simp_all<;>omega
noncomputable def zg6 (st:St) (w:zar):Prop:=if w.tie=true∧w.a=w.b then w.v<0 else ∀u,val st w.key=some u->zbs w.tie w.v u
noncomputable def zho (w:zar):Prop:=w.tie=true∧w.a=w.b∧w.v<0
noncomputable instance (w:zar):Decidable (zho w):=by unfold zho;infer_instance
open Classical in
noncomputable instance (st:St) (w:zar):Decidable (zg6 st w):=propDecidable _
noncomputable def take (st:St) (w:zar) (word:Wd) (used:List Nat):St:=
 if zg6 st w then { rows:=st.rows++[⟨w,word,used⟩],best:=fun k=>if k=w.key then some st.rows.length else st.best k,bar:=if st.bar=none∧zho w then some st.rows.length else st.bar } else st
noncomputable def za7 (p q:zar):Option zar:=if p.tie=true∧q.tie=true∧p.b=q.a then some ⟨true,p.a,q.b,p.v+q.v⟩ else none
noncomputable def zbm (F:za4) (p:zar):Option zar:=if p.tie=true∧p.a≠p.b then (F p.b).map fun f=>⟨false,p.a,p.b,f.2.2-p.v⟩ else none
noncomputable def zbr (F:za4) (p:zar):Option zar:=if p.tie=true∧p.a≠p.b∧p.v<0 then (F p.a).map fun f=>⟨true,f.1,p.b,f.2.1+p.v⟩ else none
noncomputable def zbh (F:za4) (p:zar):Option zar:=if p.tie=false then (F p.b).map fun f=>⟨true,p.a,f.1,-min p.v f.2.1⟩ else none
noncomputable def zay (F:za4) (p q:zar):Option zar:=if p.tie=false∧q.tie=true∧q.b=p.a∧q.a≠p.b then (F p.b).map fun f=>⟨false,q.a,p.b,min p.v f.2.2-q.v⟩ else none
noncomputable def za2 (F:za4) (p:zar):Option zar:=if p.tie=false∧p.a≠p.b∧0<p.v then (F p.a).bind fun o=>(F p.b).map fun f=>⟨false,o.1,p.b,min p.v f.2.2-o.2.1⟩ else none
noncomputable def put (st:St) (o:Option zar) (word:Wd) (used:List Nat):St:=match o with
 | some w=>take st w word used
 | none=>st
noncomputable def zbc (f:zar->Option zar) (word:Wd) (i:Nat) (st:St):St:=put st ((wat st i).bind f) word [i]
noncomputable def zaw (f:zar->zar->Option zar) (word:Wd) (i j:Nat) (st:St):St:=put st ((wat st i).bind fun p=>(wat st j).bind fun q=>f p q) word [i,j]
noncomputable def zbe (n:Nat) (st:St) (tie:Bool) (a:Nat):List Nat:=(List.range n).filterMap fun b=>st.best (tie,a,b)
noncomputable def zb5 (n:Nat) (st:St) (b:Nat):List Nat:=(List.range n).filterMap fun a=>st.best (true,a,b)
noncomputable def zb4 (n:Nat) (F:za4) (at_ a b:Nat) (st0:St):St:=
 let st1:=zbc (zbm F) .late at_ st0
 let st2:=zbc (zbr F) .soon at_ st1
 let st3:=(zbe n st2 true b).foldl (fun st j=>zaw za7 .sum at_ j st) st2
 let st4:=(zb5 n st3 a).foldl (fun st j=>zaw za7 .sum j at_ st) st3
 (zbe n st4 false b).foldl (fun st j=>zaw (zay F) .back j at_ st) st4
noncomputable def zbg (n:Nat) (F:za4) (at_ a:Nat) (st0:St):St:=
 let st1:=zbc (zbh F) .sure at_ st0
 let st2:=zbc (za2 F) .cross at_ st1
 (zb5 n st2 a).foldl (fun st j=>zaw (zay F) .back at_ j st) st2
noncomputable def look (n:Nat) (F:za4) (at_:Nat) (st:St):St:=match wat st at_ with
 | some w=>if st.best w.key=some at_ then (if w.tie=true then zb4 n F at_ w.a w.b st else zbg n F at_ w.a st) else st
 | none=>st
noncomputable def run (n:Nat) (F:za4) (st:St):Nat->St
 | 0=>st
 | t+1=>look n F t (run n F st t)
structure Ext (s s':St):Prop where
 rows:∃more,s'.rows=s.rows++more
 best:∀k,s'.best k=s.best k∨∃j,s'.best k=some j∧s.rows.length≤j
 bar:s.bar≠none->s'.bar≠none
structure zdw (n:Nat) (s:St):Prop where
 at_:∀k i,s.best k=some i->∃w,wat s i=some w∧w.key=k
 top:∀i w,wat s i=some w->∃j,i≤j∧s.best w.key=some j
 lt:∀i w,wat s i=some w->w.a<n∧w.b<n
 ne:s.bar=none->∀i w,wat s i=some w->w.a≠w.b
 drop:s.bar=none->∀i j w w',wat s i=some w->wat s j=some w'->w.key=w'.key->i<j->zbs w.tie w'.v w.v
theorem zem {s:St} {i:Nat} {w:zar} (h:wat s i=some w):i<s.rows.length:=by
 unfold wat at h
 cases q:s.rows[i]? with
 | none=>rw [q] at h;cases h
 | some r=>exact (ZAb.mp q).1
theorem za3 {s s':St} {i:Nat} {w:zar} (e:Ext s s') (h:wat s i=some w):wat s' i=some w:=by
 obtain ⟨more,hm⟩:=e.rows
 have hi:=zem h
 unfold wat at h ⊢
 rw [hm,ZA6 hi]
 exact h
theorem Ext.refl (s:St):Ext s s:=⟨⟨[],by simp⟩,fun _=>.inl rfl,fun h=>h⟩
theorem Ext.len {s s':St} (e:Ext s s'):s.rows.length≤s'.rows.length:=by
 obtain ⟨more,hm⟩:=e.rows
 rw [hm,ZAj];omega
theorem Ext.trans {a b c:St} (x:Ext a b) (y:Ext b c):Ext a c:=by
 refine ⟨?_,fun k=>?_,fun h=>y.bar (x.bar h)⟩
 ·obtain ⟨m1,h1⟩:=x.rows
  obtain ⟨m2,h2⟩:=y.rows
  exact ⟨m1++m2,by rw [h2,h1,List.append_assoc]⟩
 ·rcases y.best k with h | ⟨j,h,hj⟩
  ·rcases x.best k with h' | ⟨j,h',hj⟩
   ·exact .inl (h.trans h')
   ·exact .inr ⟨j,h.trans h',hj⟩
  ·exact .inr ⟨j,h,ZAw x.len hj⟩
theorem zf9 (st:St) (w:zar) (word:Wd) (used:List Nat):Ext st (take st w word used):=by
 unfold take
 split
 ·refine ⟨⟨_,rfl⟩,fun k=>?_,fun h=>?_⟩
  ·show (if k=w.key then some st.rows.length else st.best k)=_∨∃j,(if k=w.key then some st.rows.length else st.best k)=some j∧_
   by_cases e:k=w.key
   ·rw [if_pos e];exact .inr ⟨_,rfl,ZAc _⟩
   ·rw [if_neg e];exact .inl rfl
  ·show (if st.bar=none∧zho w then some st.rows.length else st.bar)≠none
   rw [if_neg fun z=>h z.1]
   exact h
 ·exact Ext.refl st
theorem zff {rows:List Row} {r:Row} {best:Key->Option Nat} {bar:Option Nat} {i:Nat} {w:zar} (h:wat ⟨rows++[r],best,bar⟩ i=some w):(i<rows.length∧(rows[i]?).map (·.what)=some w)∨(i=rows.length∧w=r.what):=by
 unfold wat at h
 by_cases c:i<rows.length
 ·left
  refine ⟨c,?_⟩
  have h:((rows++[r])[i]?).map (·.what)=some w:=h
  rwa [ZA6 c] at h
 ·right
  have h:((rows++[r])[i]?).map (·.what)=some w:=h
  rw [ZA0 (by omega)] at h
  cases q:i-rows.length with
  | zero=>rw [q] at h;exact ⟨by omega,by cases h;rfl⟩
  | succ z=>rw [q] at h;cases h
theorem zki {n:Nat} {st:St} {w:zar} {word:Wd} {used:List Nat} (g:zdw n st) (ha:w.a<n) (hb:w.b<n) (hw:w.tie=false->w.a≠w.b):zdw n (take st w word used):=by
 unfold take
 split
 next hn=>
  have old:∀{i u},wat st i=some u->wat { rows:=st.rows++[⟨w,word,used⟩],best:=fun k=>if k=w.key then some st.rows.length else st.best k,bar:=if st.bar=none∧zho w then some st.rows.length else st.bar } i=some u:=fun {i u} h=>by
   have hi:=zem h
   unfold wat at h ⊢
   rw [ZA6 hi]
   exact h
  have new:wat { rows:=st.rows++[⟨w,word,used⟩],best:=fun k=>if k=w.key then some st.rows.length else st.best k,bar:=if st.bar=none∧zho w then some st.rows.length else st.bar } st.rows.length=some w:=by
   unfold wat
   rw [ZA0 (ZAc _),Nat.sub_self]
   rfl
  have nb:(if st.bar=none∧zho w then some st.rows.length else st.bar)=none->st.bar=none∧¬zho w:=fun h=>by
   by_cases c:st.bar=none∧zho w
   ·rw [if_pos c] at h;cases h
   ·rw [if_neg c] at h
    exact ⟨h,fun z=>c ⟨h,z⟩⟩
  have wne:¬zho w->w.a≠w.b:=fun hb e=>by
   cases ht:w.tie with
   | false=>exact hw ht e
   | true=>
    unfold zg6 at hn
    rw [if_pos ⟨ht,e⟩] at hn
    exact hb ⟨ht,e,hn⟩
  refine ⟨fun k i h=>?_,fun i u h=>?_,fun i u h=>?_,fun h0 i u h=>?_,fun h0 i j u u' h h' hk hij=>?_⟩
  ·have h:(if k=w.key then some st.rows.length else st.best k)=some i:=h
   by_cases c:k=w.key
   ·rw [if_pos c] at h
    cases h
    exact ⟨w,new,c.symm⟩
   ·rw [if_neg c] at h
    obtain ⟨u,hu,hk⟩:=g.at_ k i h
    exact ⟨u,old hu,hk⟩
  ·show ∃j,i≤j∧(if u.key=w.key then some st.rows.length else st.best u.key)=some j
   rcases zff h with ⟨hi,hu⟩ | ⟨hi,rfl⟩
   ·by_cases c:u.key=w.key
    ·rw [if_pos c];exact ⟨_,ZAr hi,rfl⟩
    ·rw [if_neg c];exact g.top i u hu
   ·rw [if_pos rfl];exact ⟨_,Nat.le_of_eq hi,rfl⟩
  ·rcases zff h with ⟨_,hu⟩ | ⟨_,rfl⟩
   ·exact g.lt i u hu
   ·exact ⟨ha,hb⟩
  ·obtain ⟨b0,b1⟩:=nb h0
   rcases zff h with ⟨_,hu⟩ | ⟨_,rfl⟩
   ·exact g.ne b0 i u hu
   ·exact wne b1
  ·obtain ⟨b0,b1⟩:=nb h0
   rcases zff h' with ⟨hj,hu'⟩ | ⟨hj,e'⟩
   ·rcases zff h with ⟨_,hu⟩ | ⟨hi,_⟩
    ·exact g.drop b0 i j u u' hu hu' hk hij
    ·omega
   ·have e':u'=w:=e'
    rw [e'] at hk ⊢
    rcases zff h with ⟨hi,hu⟩ | ⟨hi,_⟩
    ·
     have hu:wat st i=some u:=hu
     obtain ⟨j0,hij0,hbest⟩:=g.top i u hu
     obtain ⟨u0,hu0,hk0⟩:=g.at_ _ _ hbest
     have hv:val st w.key=some u0.v:=by
      unfold val
      have hk:u.key=w.key:=hk
      rw [←hk,hbest]
      show (wat st j0).map (·.v)=_
      rw [hu0];rfl
     unfold zg6 at hn
     rw [if_neg fun z=>wne b1 z.2] at hn
     have h1:=hn _ hv
     have ht:u.tie=w.tie:=congrArg Prod.fst hk
     rw [ht]
     by_cases c:i=j0
     ·subst c
      rw [hu] at hu0
      cases hu0
      exact h1
     ·have h2:=g.drop b0 i j0 u u0 hu hu0 hk0.symm (by omega)
      rw [ht] at h2
      exact zlh h1 h2
    ·omega
 next=>exact g
theorem zew (st:St) (o:Option zar) (word:Wd) (used:List Nat):Ext st (put st o word used):=by
 cases o with
 | none=>exact Ext.refl st
 | some w=>exact zf9 st w word used
noncomputable def Imp (s s':St):Prop:=Ext s s'∧∀k u,k.2.1≠k.2.2->val s k=some u->∃u',val s' k=some u'∧¬zbs k.1 u u'
theorem zdp (b:Bool) (u:Int):¬zbs b u u:=by unfold zbs;split<;>omega
theorem Imp.refl (s:St):Imp s s:=⟨Ext.refl s,fun k u _ h=>⟨u,h,zdp _ _⟩⟩
theorem Imp.trans {a b c:St} (x:Imp a b) (y:Imp b c):Imp a c:=by
 refine ⟨x.1.trans y.1,fun k u hk h=>?_⟩
 obtain ⟨u1,h1,n1⟩:=x.2 k u hk h
 obtain ⟨u2,h2,n2⟩:=y.2 k u1 hk h1
 exact ⟨u2,h2,zgd n1 n2⟩
theorem zc2 {s:St} {k:Key} {i:Nat} {w:zar} (h:s.best k=some i) (hw:wat s i=some w):val s k=some w.v:=by
 unfold val
 rw [h]
 show (wat s i).map (·.v)=_
 rw [hw];rfl
theorem zg9 {st:St} {w:zar} {word:Wd} {used:List Nat} (h:zg6 st w):val (take st w word used) w.key=some w.v∧wat (take st w word used) st.rows.length=some w∧(take st w word used).rows.length=st.rows.length+1:=by
 have e:take st w word used={ rows:=st.rows++[⟨w,word,used⟩],best:=fun k=>if k=w.key then some st.rows.length else st.best k,bar:=if st.bar=none∧zho w then some st.rows.length else st.bar }:=by
  unfold take
  rw [if_pos h]
 have hw:wat (take st w word used) st.rows.length=some w:=by
  rw [e]
  unfold wat
  rw [ZA0 (ZAc _),Nat.sub_self]
  rfl
 refine ⟨zc2 (i:=st.rows.length) (by rw [e];show (if w.key=w.key then some st.rows.length else st.best w.key)=_;rw [if_pos rfl]) hw,hw,?_⟩
 rw [e]
 show (st.rows++[_]).length=_
 rw [ZAj];rfl
theorem zfk {st:St} {w:zar} {word:Wd} {used:List Nat} (h:¬zg6 st w):take st w word used=st:=by
 unfold take
 rw [if_neg h]
theorem zn9 {st:St} {w:zar} {word:Wd} {used:List Nat} {k:Key} {u:Int} (hk:k≠w.key) (h:val st k=some u):val (take st w word used) k=some u:=by
 by_cases c:zg6 st w
 ·have e:=zf9 st w word used
  unfold val at h ⊢
  have hb:(take st w word used).best k=st.best k:=by
   unfold take
   rw [if_pos c]
   show (if k=w.key then some st.rows.length else st.best k)=_
   rw [if_neg hk]
  rw [hb]
  cases q:st.best k with
  | none=>rw [q] at h;cases h
  | some i=>
   rw [q] at h
   have h:(wat st i).map (·.v)=some u:=h
   show (wat (take st w word used) i).map (·.v)=some u
   cases q2:wat st i with
   | none=>rw [q2] at h;cases h
   | some r=>rw [za3 e q2];rw [q2] at h;exact h
 ·rw [zfk c];exact h
theorem zmn (st:St) (w:zar) (word:Wd) (used:List Nat):Imp st (take st w word used):=by
 refine ⟨zf9 st w word used,fun k u hk h=>?_⟩
 by_cases c:k=w.key
 ·by_cases hn:zg6 st w
  ·have h2:=hn
   unfold zg6 at h2
   have:¬(w.tie=true∧w.a=w.b):=fun z=>hk (by rw [c];exact z.2)
   rw [if_neg this] at h2
   have h3:=h2 u (by rw [←c];exact h)
   refine ⟨w.v,by rw [c];exact (zg9 hn).1,fun z=>?_⟩
   rw [c] at z
   exact zny h3 z
  ·rw [zfk hn];exact ⟨u,h,zdp _ _⟩
 ·exact ⟨u,zn9 c h,zdp _ _⟩
theorem zgu {st:St} {w:zar} {word:Wd} {used:List Nat} (h:w.a≠w.b):∃u,val (take st w word used) w.key=some u∧¬zbs w.tie w.v u:=by
 by_cases c:zg6 st w
 ·exact ⟨w.v,(zg9 c).1,zdp _ _⟩
 ·rw [zfk c]
  unfold zg6 at c
  rw [if_neg fun z=>h z.2] at c
  have c:=Classical.not_forall.mp c
  obtain ⟨u,hu⟩:=c
  have hu:=Classical.not_imp.mp hu
  exact ⟨u,hu.1,hu.2⟩
theorem zoj {st:St} {w:zar} {word:Wd} {used:List Nat} (h:zho w):(take st w word used).bar≠none:=by
 have hn:zg6 st w:=by
  unfold zg6
  rw [if_pos ⟨h.1,h.2.1⟩]
  exact h.2.2
 unfold take
 rw [if_pos hn]
 show (if st.bar=none∧zho w then some st.rows.length else st.bar)≠none
 by_cases c:st.bar=none
 ·rw [if_pos ⟨c,h⟩];simp
 ·rw [if_neg fun z=>c z.1];exact c
theorem zo7 (st:St) (o:Option zar) (word:Wd) (used:List Nat):Imp st (put st o word used):=by
 cases o with
 | none=>exact Imp.refl st
 | some w=>exact zmn st w word used
theorem zbl {f:St->Nat->St} (hf:∀s j,Imp s (f s j)):∀(l:List Nat) (s:St),Imp s (l.foldl f s)
 | [],s=>Imp.refl s
 | j::l,s=>(hf s j).trans (zbl hf l (f s j))
theorem zd6 (f:zar->Option zar) (word:Wd) (i:Nat) (s:St):Imp s (zbc f word i s):=zo7 ..
theorem zco (f:zar->zar->Option zar) (word:Wd) (i j:Nat) (s:St):Imp s (zaw f word i j s):=zo7 ..
theorem zl4 (n:Nat) (F:za4) (at_ a b:Nat) (s:St):Imp s (zb4 n F at_ a b s):=
 ((((zd6 _ _ _ _).trans (zd6 _ _ _ _)).trans (zbl (fun _ _=>zco ..) _ _)).trans (zbl (fun _ _=>zco ..) _ _)).trans (zbl (fun _ _=>zco ..) _ _)
theorem zk6 (n:Nat) (F:za4) (at_ a:Nat) (s:St):Imp s (zbg n F at_ a s):=
 ((zd6 _ _ _ _).trans (zd6 _ _ _ _)).trans (zbl (fun _ _=>zco ..) _ _)
theorem zeb (n:Nat) (F:za4) (at_:Nat) (s:St):Imp s (look n F at_ s):=by
 unfold look
 split
 ·split
  ·split
   ·exact zl4 ..
   ·exact zk6 ..
  ·exact Imp.refl s
 ·exact Imp.refl s
structure FOk (n:Nat) (F:za4) (most:Int):Prop where
 lt:∀e f,F e=some f->f.1<n∧e<n
 own:∀e f,F e=some f->F f.1=none
 num:∀e f,F e=some f->1≤f.2.1∧f.2.1≤f.2.2∧f.2.2≤most
noncomputable def Fit (n:Nat) (w:zar):Prop:=w.a<n∧w.b<n∧(w.tie=false->w.a≠w.b)
theorem zjl {n:Nat} {st:St} {o:Option zar} {word:Wd} {used:List Nat} (g:zdw n st) (h:∀w,o=some w->Fit n w):zdw n (put st o word used):=by
 cases o with
 | none=>exact g
 | some w=>exact zki g (h w rfl).1 (h w rfl).2.1 (h w rfl).2.2
theorem zej {n:Nat} {f:zar->Option zar} {word:Wd} {i:Nat} {s:St} (g:zdw n s) (hf:∀p w,p.a<n->p.b<n->f p=some w->Fit n w):zdw n (zbc f word i s):=by
 refine zjl g fun w h=>?_
 cases q:wat s i with
 | none=>rw [q] at h;cases h
 | some p=>
  rw [q] at h
  have:=g.lt i p q
  exact hf p w this.1 this.2 h
theorem zh6 {n:Nat} {f:zar->zar->Option zar} {word:Wd} {i j:Nat} {s:St} (g:zdw n s) (hf:∀p q w,p.a<n->p.b<n->q.a<n->q.b<n->f p q=some w->Fit n w):zdw n (zaw f word i j s):=by
 refine zjl g fun w h=>?_
 cases e1:wat s i with
 | none=>rw [e1] at h;cases h
 | some p=>
  rw [e1] at h
  have h:(wat s j).bind (fun q=>f p q)=some w:=h
  cases e2:wat s j with
  | none=>rw [e2] at h;cases h
  | some q=>
   rw [e2] at h
   have h1:=g.lt i p e1
   have h2:=g.lt j q e2
   exact hf p q w h1.1 h1.2 h2.1 h2.2 h
theorem zd0 {n:Nat} {f:St->Nat->St} (hf:∀s j,zdw n s->zdw n (f s j)):∀(l:List Nat) (s:St),zdw n s->zdw n (l.foldl f s)
 | [],_,g=>g
 | j::l,s,g=>zd0 hf l (f s j) (hf s j g)
theorem zlq {n:Nat} (p q w:zar) (h1:p.a<n) (_:p.b<n) (_:q.a<n) (h4:q.b<n) (h:za7 p q=some w):Fit n w:=by
 unfold za7 at h
 split at h
 ·cases h;exact ⟨h1,h4,fun z=>nomatch z⟩
 ·cases h
theorem zhg {n:Nat} {F:za4} (p w:zar) (h1:p.a<n) (h2:p.b<n) (h:zbm F p=some w):Fit n w:=by
 unfold zbm at h
 split at h
 next c=>
  cases q:F p.b with
  | none=>rw [q] at h;cases h
  | some f=>rw [q] at h;cases h;exact ⟨h1,h2,fun _=>c.2⟩
 ·cases h
theorem zha {n:Nat} {F:za4} {most:Int} (hF:FOk n F most) (p w:zar) (_:p.a<n) (h2:p.b<n) (h:zbr F p=some w):Fit n w:=by
 unfold zbr at h
 split at h
 ·cases q:F p.a with
  | none=>rw [q] at h;cases h
  | some f=>rw [q] at h;cases h;exact ⟨(hF.lt _ _ q).1,h2,fun z=>nomatch z⟩
 ·cases h
theorem zjb {n:Nat} {F:za4} {most:Int} (hF:FOk n F most) (p w:zar) (h1:p.a<n) (_:p.b<n) (h:zbh F p=some w):Fit n w:=by
 unfold zbh at h
 split at h
 ·cases q:F p.b with
  | none=>rw [q] at h;cases h
  | some f=>rw [q] at h;cases h;exact ⟨h1,(hF.lt _ _ q).1,fun z=>nomatch z⟩
 ·cases h
theorem zj2 {n:Nat} {F:za4} (p q w:zar) (_:p.a<n) (h2:p.b<n) (h3:q.a<n) (_:q.b<n) (h:zay F p q=some w):Fit n w:=by
 unfold zay at h
 split at h
 next c=>
  cases e:F p.b with
  | none=>rw [e] at h;cases h
  | some f=>rw [e] at h;cases h;exact ⟨h3,h2,fun _=>c.2.2.2⟩
 ·cases h
theorem zh9 {n:Nat} {F:za4} {most:Int} (hF:FOk n F most) (p w:zar) (_:p.a<n) (h2:p.b<n) (h:za2 F p=some w):Fit n w:=by
 unfold za2 at h
 split at h
 ·cases e:F p.a with
  | none=>rw [e] at h;cases h
  | some o=>
   rw [e] at h
   have h:(F p.b).map (fun f=>(⟨false,o.1,p.b,min p.v f.2.2-o.2.1⟩:zar))=some w:=h
   cases e2:F p.b with
   | none=>rw [e2] at h;cases h
   | some f=>
    rw [e2] at h
    cases h
    refine ⟨(hF.lt _ _ e).1,h2,fun _ z=>?_⟩
    have z:o.1=p.b:=z
    have:=hF.own _ _ e
    rw [z,e2] at this
    cases this
 ·cases h
theorem zpq {n:Nat} {F:za4} {most:Int} (hF:FOk n F most) {at_:Nat} {s:St} (g:zdw n s):zdw n (look n F at_ s):=by
 unfold look
 split
 ·split
  ·split
   ·refine zd0 (fun _ _ g=>zh6 g zj2) _ _ (zd0 (fun _ _ g=>zh6 g zlq) _ _ (zd0 (fun _ _ g=>zh6 g zlq) _ _ (zej (zej g zhg) (zha hF))))
   ·exact zd0 (fun _ _ g=>zh6 g zj2) _ _ (zej (zej g (zjb hF)) (zh9 hF))
  ·exact g
 ·exact g
theorem zhb {n:Nat} {F:za4} {most:Int} (hF:FOk n F most) {s:St} (g:zdw n s):∀t,zdw n (run n F s t)
 | 0=>g
 | t+1=>zpq hF (zhb hF g t)
end MU
namespace MU
noncomputable def Add (C:zar->Prop) (s s':St):Prop:=∀i w,s.rows.length≤i->wat s' i=some w->C w
theorem Add.refl {C:zar->Prop} (s:St):Add C s s:=fun i w h e=>absurd (zem e) (by omega)
theorem Add.trans {C:zar->Prop} {a b c:St} (x:Add C a b) (e:Ext b c) (y:Add C b c):Add C a c:=fun i w h hw=>by
 by_cases hi:i<b.rows.length
 ·have:∃w',wat b i=some w':=⟨_,by unfold wat;rw [ZAd hi];rfl⟩
  obtain ⟨w',hw'⟩:=this
  have:=za3 e hw'
  rw [hw] at this
  cases this
  exact x i w h hw'
 ·exact y i w (by omega) hw
theorem zmo {C:zar->Prop} {s:St} {w:zar} {word:Wd} {used:List Nat} (h:C w):Add C s (take s w word used):=fun i u hi hu=>by
 by_cases c:zg6 s w
 ·obtain ⟨_,h1,h2⟩:=zg9 (word:=word) (used:=used) c
  have:=zem hu
  have e:i=s.rows.length:=by omega
  rw [e,h1] at hu
  cases hu
  exact h
 ·rw [zfk c] at hu
  exact absurd (zem hu) (by omega)
theorem zex {C:zar->Prop} {s:St} {o:Option zar} {word:Wd} {used:List Nat} (h:∀w,o=some w->C w):Add C s (put s o word used):=by
 cases o with
 | none=>exact Add.refl s
 | some w=>exact zmo (h w rfl)
theorem zh7 {C:zar->Prop} {s:St} {f:zar->Option zar} {word:Wd} {i:Nat} {p:zar} (hp:wat s i=some p) (h:∀w,f p=some w->C w):Add C s (zbc f word i s):=zex fun w e=>by rw [hp] at e;exact h w e
theorem zqc {C:zar->Prop} {s:St} {f:zar->zar->Option zar} {word:Wd} {i j:Nat} {p q:zar} (hp:wat s i=some p) (hq:wat s j=some q) (h:∀w,f p q=some w->C w):Add C s (zaw f word i j s):=zex fun w e=>by
 rw [hp] at e
 have e:(wat s j).bind (fun q=>f p q)=some w:=e
 rw [hq] at e
 exact h w e
theorem zd5 {C:zar->Prop} {f:St->Nat->St} (hf:∀s j,Imp s (f s j)):∀(l:List Nat) (s0 s:St),Imp s0 s->(∀j∈l,∀s1,Imp s0 s1->Add C s1 (f s1 j))->Add C s (l.foldl f s)
 | [],_,s,_,_=>Add.refl s
 | j::l,s0,s,h0,h=>(h j ZAl s h0).trans (zbl hf l (f s j)).1 (zd5 hf l s0 (f s j) (h0.trans (hf s j)) fun k hk=>h k (ZAk _ hk))
theorem zk8 {f:St->Nat->St} (hf:∀s j,Imp s (f s j)):∀(l:List Nat) (s:St) (j:Nat),j∈l->∃s1,Imp s s1∧Imp (f s1 j) (l.foldl f s)
 | [],_,_,h=>nomatch h
 | k::l,s,j,h=>by
  rcases ZAu.mp h with e | h
  ·subst e
   exact ⟨s,Imp.refl s,zbl hf l (f s j)⟩
  ·obtain ⟨s1,h1,h2⟩:=zk8 hf l (f s k) j h
   exact ⟨s1,(hf s k).trans h1,h2⟩
theorem zh2 {n:Nat} {st:St} {tie:Bool} {a j:Nat} (h:j∈zbe n st tie a):∃b,b<n∧st.best (tie,a,b)=some j:=by
 obtain ⟨b,hb,e⟩:=List.mem_filterMap.mp h
 exact ⟨b,List.mem_range.mp hb,e⟩
theorem zfh {n:Nat} {st:St} {b j:Nat} (h:j∈zb5 n st b):∃a,a<n∧st.best (true,a,b)=some j:=by
 obtain ⟨a,ha,e⟩:=List.mem_filterMap.mp h
 exact ⟨a,List.mem_range.mp ha,e⟩
theorem zhl {n:Nat} {s:St} (g:zdw n s) {k:Key} {u:Int} (h:val s k=some u):∃i w,s.best k=some i∧wat s i=some w∧w.key=k∧w.v=u:=by
 unfold val at h
 cases q:s.best k with
 | none=>rw [q] at h;cases h
 | some i=>
  obtain ⟨w,hw,hk⟩:=g.at_ k i q
  rw [q] at h
  have h:(wat s i).map (·.v)=some u:=h
  rw [hw] at h
  exact ⟨i,w,rfl,hw,hk,ZAn h⟩
theorem zc8 {w:zar} {t:Bool} {a b:Nat} (h:w.key=(t,a,b)):w.tie=t∧w.a=a∧w.b=b:=by
 unfold zar.key at h
 exact ⟨congrArg Prod.fst h,congrArg (fun z=>z.2.1) h,congrArg (fun z=>z.2.2) h⟩
theorem zf7 {n:Nat} {s:St} (g:zdw n s) (hb:s.bar=none) {t:Bool} {a b:Nat} {u:Int} (h:val s (t,a,b)=some u):a≠b∧a<n∧b<n:=by
 obtain ⟨i,w,_,hw,hk,_⟩:=zhl g h
 obtain ⟨_,h2,h3⟩:=zc8 hk
 have h4:=g.ne hb i w hw
 have h5:=g.lt i w hw
 rw [h2,h3] at h4
 rw [h2,h3] at h5
 exact ⟨h4,h5⟩
theorem zoi {n:Nat} {F:za4} {most:Int} (hF:FOk n F most) {s:St} (g:zdw n s) {at_ a b c:Nat} {p:zar} {u:Int} (hp:wat s at_=some p) (pt:p.tie=true) (pa:p.a=a) (pb:p.b=b) (hu:val s (true,b,c)=some u) (hbc:b≠c) (hc:c<n):
 (a≠c->∃x,x≤p.v+u∧val (zb4 n F at_ a b s) (true,a,c)=some x)∧(a=c->p.v+u<0->(zb4 n F at_ a b s).bar≠none):=by
 have i2:Imp s (zbc (zbr F) .soon at_ (zbc (zbm F) .late at_ s)):=(zd6 _ _ _ _).trans (zd6 _ _ _ _)
 have g2:zdw n (zbc (zbr F) .soon at_ (zbc (zbm F) .late at_ s)):=zej (zej g zhg) (zha hF)
 unfold zb4
 dsimp only
 generalize zbc (zbr F) .soon at_ (zbc (zbm F) .late at_ s)=s2 at*
 obtain ⟨u2,hu2,nb⟩:=i2.2 (true,b,c) u hbc hu
 have hle:u2≤u:=by
  unfold zbs at nb
  simp at nb
  exact nb
 obtain ⟨j,q,hj,hq,hqk,hqv⟩:=zhl g2 hu2
 obtain ⟨qt,qa,qb⟩:=zc8 hqk
 have hmem:j∈zbe n s2 true b:=List.mem_filterMap.mpr ⟨c,List.mem_range.mpr hc,hj⟩
 obtain ⟨s3,i3,i3'⟩:=zk8 (f:=fun st j=>zaw za7 .sum at_ j st) (fun _ _=>zco ..) _ s2 j hmem
 have hp3:=za3 (i2.1.trans i3.1) hp
 have hq3:=za3 i3.1 hq
 have hw:za7 p q=some ⟨true,a,c,p.v+u2⟩:=by
  unfold za7
  rw [if_pos ⟨pt,qt,by rw [pb,qa]⟩,pa,qb,hqv]
 have hd:zaw za7 .sum at_ j s3=take s3 ⟨true,a,c,p.v+u2⟩ .sum [at_,j]:=by
  unfold zaw
  rw [hp3]
  show put s3 ((wat s3 j).bind fun q=>za7 p q) .sum [at_,j]=_
  rw [hq3]
  show put s3 (za7 p q) .sum [at_,j]=_
  rw [hw]
  rfl
 rw [hd] at i3'
 have iZ:=i3'.trans ((zbl (f:=fun st j=>zaw za7 .sum j at_ st) (fun _ _=>zco ..) (zb5 n ((zbe n s2 true b).foldl (fun st j=>zaw za7 .sum at_ j st) s2) a) _).trans (zbl (f:=fun st j=>zaw (zay F) .back j at_ st) (fun _ _=>zco ..) (zbe n ((zb5 n ((zbe n s2 true b).foldl (fun st j=>zaw za7 .sum at_ j st) s2) a).foldl (fun st j=>zaw za7 .sum j at_ st) ((zbe n s2 true b).foldl (fun st j=>zaw za7 .sum at_ j st) s2)) false b) _))
 refine ⟨fun hac=>?_,fun hac hlt=>?_⟩
 ·obtain ⟨x,hx,nx⟩:=zgu (st:=s3) (word:=.sum) (used:=[at_,j]) (w:=⟨true,a,c,p.v+u2⟩) hac
  obtain ⟨y,hy,ny⟩:=iZ.2 (true,a,c) x hac hx
  refine ⟨y,?_,hy⟩
  unfold zbs at nx ny
  simp at nx ny
  omega
 ·exact iZ.1.bar (zoj ⟨rfl,hac,by show p.v+u2<0;omega⟩)
theorem zmk {n:Nat} {F:za4} {most:Int} (hF:FOk n F most) {s:St} (g:zdw n s) {at_ a:Nat} {p:zar} {B:Int} (hp:wat s at_=some p) (pt:p.tie=false) (pa:p.a=a)
 (hB:∀x v,val (zbg n F at_ a s) (true,x,a)=some v->-B≤v) (hB0:0≤B) (hbar:(zbg n F at_ a s).bar=none):
 Add (fun w=>(w.tie=true->-most≤w.v)∧(w.tie=false->w.v≤most+B)) s (zbg n F at_ a s):=by
 unfold zbg at hB hbar ⊢
 dsimp only at hB hbar ⊢
 have g1:zdw n (zbc (zbh F) .sure at_ s):=zej g (zjb hF)
 have i1:Imp s (zbc (zbh F) .sure at_ s):=zd6 _ _ _ _
 have A1:Add (fun w=>(w.tie=true->-most≤w.v)∧(w.tie=false->w.v≤most+B)) s (zbc (zbh F) .sure at_ s):=zh7 hp fun w e=>by
  unfold zbh at e
  rw [if_pos pt] at e
  cases q:F p.b with
  | none=>rw [q] at e;cases e
  | some f=>
   rw [q] at e
   cases e
   have:=hF.num _ _ q
   refine ⟨fun _=>?_,(fun z=>nomatch z)⟩
   show-most≤-min p.v f.2.1
   omega
 generalize zbc (zbh F) .sure at_ s=s1 at*
 have hp1:=za3 i1.1 hp
 have g2:zdw n (zbc (za2 F) .cross at_ s1):=zej g1 (zh9 hF)
 have i2:Imp s1 (zbc (za2 F) .cross at_ s1):=zd6 _ _ _ _
 have A2:Add (fun w=>(w.tie=true->-most≤w.v)∧(w.tie=false->w.v≤most+B)) s1 (zbc (za2 F) .cross at_ s1):=zh7 hp1 fun w e=>by
  unfold za2 at e
  split at e
  ·cases q:F p.a with
   | none=>rw [q] at e;cases e
   | some o=>
    rw [q] at e
    have e:(F p.b).map (fun f=>(⟨false,o.1,p.b,min p.v f.2.2-o.2.1⟩:zar))=some w:=e
    cases q2:F p.b with
    | none=>rw [q2] at e;cases e
    | some f=>
     rw [q2] at e
     cases e
     have h1:=hF.num _ _ q
     have h2:=hF.num _ _ q2
     refine ⟨(fun z=>nomatch z),fun _=>?_⟩
     show min p.v f.2.2-o.2.1≤most+B
     omega
  ·cases e
 generalize zbc (za2 F) .cross at_ s1=s2 at*
 have hp2:=za3 i2.1 hp1
 have i3:Imp s2 ((zb5 n s2 a).foldl (fun st j=>zaw (zay F) .back at_ j st) s2):=zbl (fun _ _=>zco ..) _ _
 have b2:=ZAf fun z=>i3.1.bar z hbar
 have A3:Add (fun w=>(w.tie=true->-most≤w.v)∧(w.tie=false->w.v≤most+B)) s2 ((zb5 n s2 a).foldl (fun st j=>zaw (zay F) .back at_ j st) s2):=zd5 (f:=fun st j=>zaw (zay F) .back at_ j st) (fun _ _=>zco ..) _ s2 s2 (Imp.refl _) fun j hj sx hx=>by
  obtain ⟨c,_,hbest⟩:=zfh hj
  obtain ⟨q,hq,hk⟩:=g2.at_ _ _ hbest
  obtain ⟨_,qa,qb⟩:=zc8 hk
  have qne:=g2.ne b2 j q hq
  rw [qa,qb] at qne
  obtain ⟨v',hv',nb⟩:=i3.2 (true,c,a) q.v qne (zc2 hbest hq)
  have hlo:=hB c v' hv'
  unfold zbs at nb
  simp at nb
  refine zqc (za3 hx.1 hp2) (za3 hx.1 hq) fun w e=>?_
  unfold zay at e
  split at e
  ·cases z:F p.b with
   | none=>rw [z] at e;cases e
   | some f=>
    rw [z] at e
    cases e
    have h2:=hF.num _ _ z
    refine ⟨(fun z=>nomatch z),fun _=>?_⟩
    show min p.v f.2.2-q.v≤most+B
    omega
  ·cases e
 exact (A1.trans i2.1 A2).trans i3.1 A3
end MU
namespace MU
theorem zo3 {n:Nat} {F:za4} {s:St} (t:Nat):∀d,Imp (run n F s t) (run n F s (t+d))
 | 0=>Imp.refl _
 | d+1=>(zo3 t d).trans (zeb n F (t+d) _)
theorem zfl {n:Nat} {F:za4} {s:St} {t t':Nat} (h:t≤t'):Imp (run n F s t) (run n F s t'):=by
 have:=zo3 (n:=n) (F:=F) (s:=s) t (t'-t)
 rwa [show t+(t'-t)=t' by omega] at this
section
variable {n:Nat} {F:za4} {most:Int} {s0:St}
noncomputable def pt (n:Nat) (F:za4) (s0:St) (t a b:Nat):Prop:=∃w,wat (run n F s0 t) t=some w∧w.tie=true∧w.a=a∧w.b=b∧(run n F s0 t).best (true,a,b)=some t
theorem zjs {s:St} {t a b:Nat} {w:zar} (hw:wat s t=some w) (ht:w.tie=true) (ha:w.a=a) (hb:w.b=b) (hbest:s.best (true,a,b)=some t):look n F t s=zb4 n F t a b s:=by
 unfold look
 rw [hw]
 have hk:w.key=(true,a,b):=by unfold zar.key;rw [ht,ha,hb]
 dsimp only
 rw [hk,if_pos hbest,if_pos ht,ha,hb]
theorem zlw {s s':St} (g:zdw n s) (g':zdw n s') (e:Ext s s') {k:Key} (h:val s' k≠val s k):∃j w,s.rows.length≤j∧wat s' j=some w∧w.key=k∧val s' k=some w.v:=by
 rcases e.best k with hb | ⟨j,hj,hlen⟩
 ·exfalso
  apply h
  unfold val
  rw [hb]
  cases q:s.best k with
  | none=>rfl
  | some i=>
   show (wat s' i).map (·.v)=(wat s i).map (·.v)
   obtain ⟨w,hw,_⟩:=g.at_ k i q
   rw [hw,za3 e hw]
 ·obtain ⟨w,hw,hk⟩:=g'.at_ k j hj
  exact ⟨j,w,hlen,hw,hk,zc2 hj hw⟩
theorem zli {t t':Nat} (h:t≤t') (g:zdw n (run n F s0 t)) {k:Key} {i j:Nat} (hi:(run n F s0 t).best k=some i) (hj:(run n F s0 t').best k=some j):i≤j:=by
 rcases (zfl (n:=n) (F:=F) (s:=s0) h).1.best k with e | ⟨j',e,hl⟩
 ·rw [e,hi] at hj
  cases hj
  exact ZAc _
 ·rw [e] at hj
  cases hj
  obtain ⟨w,hw,_⟩:=g.at_ k i hi
  exact ZAw (ZAr (zem hw)) hl
theorem zmd {t t':Nat} (h:t≤t') (g:zdw n (run n F s0 t)) (g':zdw n (run n F s0 t')) (hbar:(run n F s0 t').bar=none) {k:Key} {i j:Nat} (hi:(run n F s0 t).best k=some i) (hj:(run n F s0 t').best k=some j) (hne:i≠j):val (run n F s0 t') k≠val (run n F s0 t) k:=by
 obtain ⟨w,hw,hk⟩:=g.at_ k i hi
 obtain ⟨w',hw',hk'⟩:=g'.at_ k j hj
 have hle:=zli h g hi hj
 have:=g'.drop hbar i j w w' (za3 (zfl h).1 hw) hw' (hk.trans hk'.symm) (by omega)
 rw [zc2 hi hw,zc2 hj hw']
 intro e
 have e:w'.v=w.v:=ZAn e
 rw [e] at this
 exact zdp _ _ this
end
end MU
namespace MU
variable {n:Nat} {F:za4} {most:Int} {s0:St}
theorem zk0 {s:St} {t:Nat} {p:zar} (hp:wat s t=some p) (ht:p.tie=false) (hb:s.best p.key=some t):look n F t s=zbg n F t p.a s:=by
 unfold look
 rw [hp]
 dsimp only
 rw [if_pos hb,if_neg (by rw [ht];decide)]
theorem zk1 {s:St} {t:Nat} {p:zar} (hp:wat s t=some p) (hb:s.best p.key≠some t):look n F t s=s:=by
 unfold look
 rw [hp]
 dsimp only
 rw [if_neg hb]
end MU
namespace MH
theorem zp0:∀(M N:Nat) (f:Nat->Nat),(∀i,i<N->f i<M)->(∀i j,i<j->j<N->f i≠f j)->N≤M
 | 0,N,f,h,_=>by
  cases N with
  | zero=>exact ZAc _
  | succ N=>exact absurd (h 0 (Nat.succ_pos _)) (ZBm _)
 | M+1,N,f,h,hi=>by
  by_cases c:∃p,p<N∧f p=M
  ·obtain ⟨p,hp,ep⟩:=c
   have k:=zp0 M (N-1) (fun i=>f (if i<p then i else i+1)) (fun i hi'=>by
    have h1:(if i<p then i else i+1)<N:=by split<;>omega
    have h2:=h _ h1
    have h3:f (if i<p then i else i+1)≠M:=fun z=>by
     by_cases c:i<p
     ·rw [if_pos c] at z
      exact hi i p c hp (z.trans ep.symm)
     ·rw [if_neg c] at z
      exact hi p (i+1) (by omega) (by omega) (ep.trans z.symm)
    show f (if i<p then i else i+1)<M
    omega) (fun i j hij hj=>by
    show f (if i<p then i else i+1)≠f (if j<p then j else j+1)
    refine hi _ _ ?_ ?_
    ·split<;>split<;>omega
    ·split<;>omega)
   omega
  ·have k:=zp0 M N f (fun i hi'=>by
    have h1:=h i hi'
    have h2:f i≠M:=fun z=>c ⟨i,hi',z⟩
    omega) hi
   omega
open Classical in
noncomputable def cnt (P:Nat->Prop):Nat->Nat
 | 0=>0
 | N+1=>cnt P N+if P N then 1 else 0
theorem zdu {P:Nat->Prop} {N:Nat} (h:P N):cnt P (N+1)=cnt P N+1:=by
 rw [cnt,if_pos h]
theorem zgl {P:Nat->Prop} {N:Nat} (h:¬P N):cnt P (N+1)=cnt P N:=by
 rw [cnt,if_neg h,Nat.add_zero]
theorem znc (P:Nat->Prop):∀N,∃e:Nat->Nat,(∀i,i<cnt P N->P (e i)∧e i<N)∧∀i j,i<j->j<cnt P N->e i<e j
 | 0=>⟨fun i=>i,fun i h=>absurd h (ZBm _),fun i j _ h=>absurd h (ZBm _)⟩
 | N+1=>by
  obtain ⟨e,h1,h2⟩:=znc P N
  by_cases c:P N
  ·have ec:cnt P (N+1)=cnt P N+1:=zdu c
   refine ⟨fun i=>if i<cnt P N then e i else N,fun i hi=>?_,fun i j hij hj=>?_⟩
   ·by_cases d:i<cnt P N
    ·show P (if i<cnt P N then e i else N)∧(if i<cnt P N then e i else N)<N+1
     rw [if_pos d]
     have:=h1 i d
     exact ⟨this.1,by omega⟩
    ·show P (if i<cnt P N then e i else N)∧(if i<cnt P N then e i else N)<N+1
     rw [if_neg d]
     exact ⟨c,by omega⟩
   ·show (if i<cnt P N then e i else N)<(if j<cnt P N then e j else N)
    rw [if_pos (show i<cnt P N by omega)]
    by_cases d:j<cnt P N
    ·rw [if_pos d];exact h2 i j hij d
    ·rw [if_neg d];exact (h1 i (by omega)).2
  ·have ec:cnt P (N+1)=cnt P N:=zgl c
   rw [ec]
   exact ⟨e,fun i hi=>⟨(h1 i hi).1,by have:=(h1 i hi).2;omega⟩,h2⟩
theorem zwm {P:Nat->Prop} {N M:Nat} (code:Nat->Nat) (h:∀i,i<N->P i->code i<M) (hi:∀i j,i<j->j<N->P i->P j->code i≠code j):cnt P N≤M:=by
 obtain ⟨e,h1,h2⟩:=znc P N
 exact zp0 M (cnt P N) (fun i=>code (e i)) (fun i z=>h _ (h1 i z).2 (h1 i z).1) fun i j hij hj=>hi _ _ (h2 i j hij hj) (h1 j hj).2 (h1 i (by omega)).1 (h1 j hj).1
theorem zqe {P Q R:Nat->Prop} (h:∀i,P i->Q i∨R i):∀N,cnt P N≤cnt Q N+cnt R N
 | 0=>ZAc _
 | N+1=>by
  have ih:=zqe h N
  have hq:cnt Q N≤cnt Q (N+1):=by
   by_cases c:Q N
   ·rw [zdu c];omega
   ·rw [zgl c];omega
  have hr:cnt R N≤cnt R (N+1):=by
   by_cases c:R N
   ·rw [zdu c];omega
   ·rw [zgl c];omega
  by_cases c:P N
  ·rw [zdu c]
   rcases h N c with q | q
   ·rw [zdu q];omega
   ·rw [zdu q];omega
  ·rw [zgl c];omega
theorem zea:∀(N:Nat) (l:List Nat),l.Nodup->(∀z∈l,z<N)->l.length≤N
 | 0,l,_,h=>by
  cases l with
  | nil=>exact ZAc _
  | cons x t=>exact absurd (h x ZAl) (ZBm _)
 | N+1,l,hn,h=>by
  by_cases c:N∈l
  ·have k:=zea N (l.erase N) (hn.erase N) (fun z hz=>by
    have h1:=h z (List.mem_of_mem_erase hz)
    have h2:z≠N:=fun e=>by
     rw [e] at hz
     exact (hn.mem_erase_iff.mp hz).1 rfl
    omega)
   rw [List.length_erase_of_mem c] at k
   omega
  ·have k:=zea N l hn (fun z hz=>by
    have h1:=h z hz
    have h2:z≠N:=fun e=>c (e▸hz)
    omega)
   omega
end MH
set_option linter.unusedVariables false
namespace MH
structure Bd (n:Nat) (L most:Int) (T:Nat) (len:Nat->Nat) (m w:Nat->Nat->Nat->Option Int) (pt pw:Nat->Nat->Nat->Prop):Prop where
 n8:n≤8
 L0:0≤L
 most0:0≤most
 go:∀t,t<T->t<len t
 lenm:∀t,t<T->len t≤len (t+1)
 lt:∀t a b v,t≤T->m t a b=some v->a<n∧b<n∧a≠b
 known:∀t a b,t<T->pt t a b->∃v,m t a b=some v
 wknown:∀t a b,t<T->pw t a b->a<n∧b<n∧a≠b∧∃v,w t a b=some v
 mono:∀t a b v,t<T->m t a b=some v->∃v',v'≤v∧m (t+1) a b=some v'
 wmono:∀t a b v,t<T->w t a b=some v->∃v',v≤v'∧w (t+1) a b=some v'
 told:∀i,0<i->i<n->(∃v,v≤L∧m 0 0 i=some v)∧∃v,v≤0∧m 0 i 0=some v
 wnone:∀a b,w 0 a b=none
 sum:∀t a b c v u,t<T->pt t a b->m t a b=some v->m t b c=some u->a≠c->∃x,x≤v+u∧m (t+1) a c=some x
 bar:∀t a b v u,t<T->pt t a b->m t a b=some v->m t b a=some u->0≤v+u
 one:∀t a b a' b',t<T->pt t a b->pt t a' b'->a=a'∧b=b'
 onew:∀t a b a' b',t<T->pw t a b->pw t a' b'->a=a'∧b=b'
 apart:∀t a b a' b',t<T->pt t a b->¬pw t a' b'
 cause:∀t a b,t<T->m (t+1) a b≠m t a b->(∃c v q y,pt t a c∧c≠b∧m t a c=some v∧m t c b=some q∧m (t+1) a b=some y∧v+q≤y)∨(∃c,pt t c b∧c≠a)∨∃e y,pw t a e∧m (t+1) a b=some y∧-most≤y
 late:∀t a b e v v',t<T->pt t a b->m t a b=some v->t≤e->e<T->pw e a b->w e a b=some v'->1-v≤v'
 wcause:∀t a b B,t<T->0≤B->(∀x y v,m (t+1) x y=some v->-B≤v)->w (t+1) a b≠w t a b->∃y,w (t+1) a b=some y∧y≤most+B
 grow:∀t,t<T->len (t+1)≤len t+26
 growW:∀t,t<T->(∀a b,¬pt t a b)->len (t+1)≤len t+10
 grow0:∀t,t<T->(∀a b,¬pt t a b)->(∀a b,¬pw t a b)->len (t+1)=len t
 stay:∀t0 t a b v,t≤T->len t0≤t->t0≤t->m t0 a b=some v->m t a b=some v->∃s,s<t∧pt s a b∧m s a b=some v
 drop:∀t t' a b v v',t<t'->t'<T->pt t a b->pt t' a b->m t a b=some v->m t' a b=some v'->v'<v
 wdrop:∀t t' a b v v',t<t'->t'<T->pw t a b->pw t' a b->w t a b=some v->w t' a b=some v'->v<v'
 once:∀t t' a b,t<t'->t'<T->pt t a b->pt t' a b->len t≤t'
 wonce:∀t t' a b,t<t'->t'<T->pw t a b->pw t' a b->len t≤t'
section
variable {n:Nat} {L most:Int} {T:Nat} {len:Nat->Nat} {m w:Nat->Nat->Nat->Option Int} {pt pw:Nat->Nat->Nat->Prop}
noncomputable def Kn (m:Nat->Nat->Nat->Option Int) (t a b:Nat) (x:Int):Prop:=∃v,v≤x∧m t a b=some v
theorem Kn.le {t a b:Nat} {x y:Int} (h:Kn m t a b x) (hx:x≤y):Kn m t a b y:=by
 obtain ⟨v,h1,h2⟩:=h
 exact ⟨v,by omega,h2⟩
theorem Bd.mono_at (R:Bd n L most T len m w pt pw) {a b t:Nat} {v:Int} (h:m t a b=some v):∀d,t+d≤T->∃v',v'≤v∧m (t+d) a b=some v'
 | 0,_=>⟨v,Int.le_refl _,h⟩
 | d+1,hd=>by
  obtain ⟨v1,h1,e1⟩:=R.mono_at h d (by omega)
  obtain ⟨v2,h2,e2⟩:=R.mono _ _ _ _ (by omega) e1
  exact ⟨v2,by omega,e2⟩
theorem Bd.mono' (R:Bd n L most T len m w pt pw) {a b t t':Nat} {v:Int} (h:m t a b=some v) (ht:t≤t') (hT:t'≤T):∃v',v'≤v∧m t' a b=some v':=by
 obtain ⟨v',h1,h2⟩:=R.mono_at h (t'-t) (by omega)
 rw [show t+(t'-t)=t' by omega] at h2
 exact ⟨v',h1,h2⟩
theorem Bd.kn (R:Bd n L most T len m w pt pw) {a b t t':Nat} {x:Int} (h:Kn m t a b x) (ht:t≤t') (hT:t'≤T):Kn m t' a b x:=by
 obtain ⟨v,h1,h2⟩:=h
 obtain ⟨v',h3,h4⟩:=R.mono' h2 ht hT
 exact ⟨v',by omega,h4⟩
theorem Bd.same (R:Bd n L most T len m w pt pw) {a b t t' s:Nat} {v:Int} (h:m t a b=some v) (h':m t' a b=some v) (h1:t≤s) (h2:s≤t') (hT:t'≤T):m s a b=some v:=by
 obtain ⟨v1,l1,e1⟩:=R.mono' h h1 (by omega)
 obtain ⟨v2,l2,e2⟩:=R.mono' e1 h2 hT
 rw [h'] at e2
 cases e2
 rw [e1,show v1=v by omega]
noncomputable def rho (m:Nat->Nat->Nat->Option Int) (t x:Nat):Int:=(m t x 0).getD 0
theorem Bd.rho_is (R:Bd n L most T len m w pt pw) {t x:Nat} (hx:0<x) (hn:x<n) (ht:t≤T):m t x 0=some (rho m t x)∧rho m t x≤0:=by
 obtain ⟨v,h1,h2⟩:=(R.told x hx hn).2
 obtain ⟨v',h3,h4⟩:=R.mono' h2 (ZAq t) ht
 unfold rho
 rw [h4]
 exact ⟨rfl,by show v'≤0;omega⟩
theorem Bd.rho_mono (R:Bd n L most T len m w pt pw) {t x:Nat} (hx:0<x) (hn:x<n) (ht:t<T):rho m (t+1) x≤rho m t x:=by
 obtain ⟨v,h1,h2⟩:=R.mono _ _ _ _ ht (R.rho_is hx hn (ZAr ht)).1
 have:=(R.rho_is (t:=t+1) hx hn ht).1
 rw [h2] at this
 have:=ZAn this
 omega
theorem Bd.pi_is (R:Bd n L most T len m w pt pw) {t x:Nat} (hx:0<x) (hn:x<n) (ht:t≤T):Kn m t 0 x L:=by
 obtain ⟨v,h1,h2⟩:=(R.told x hx hn).1
 exact R.kn ⟨v,h1,h2⟩ (ZAq t) ht
noncomputable def zmf (n:Nat) (L:Int) (m:Nat->Nat->Nat->Option Int) (t x:Nat):Prop:= -L≤rho m t x∧∀z,0<z->z<n->z≠x->Kn m t x z (rho m t x+max L (-rho m t z))
noncomputable def zn3 (n:Nat) (m:Nat->Nat->Nat->Option Int) (t x:Nat) (l:List Nat):Prop:=l.Nodup∧x∈l∧(∀z∈l,0<z∧z<n)∧∀z∈l,z≠x->Kn m t x z (rho m t x-rho m t z)
theorem zmf.next (R:Bd n L most T len m w pt pw) {t x:Nat} (hx:0<x) (hn:x<n) (ht:t<T) (h:zmf n L m t x) (e:m (t+1) x 0=m t x 0):zmf n L m (t+1) x:=by
 have er:rho m (t+1) x=rho m t x:=by unfold rho;rw [e]
 refine ⟨by rw [er];exact h.1,fun z h1 h2 h3=>?_⟩
 have hz:=R.rho_mono h1 h2 ht
 rw [er]
 exact (R.kn (h.2 z h1 h2 h3) (Nat.le_succ t) ht).le (by omega)
theorem zn3.next (R:Bd n L most T len m w pt pw) {t x:Nat} {l:List Nat} (ht:t<T) (h:zn3 n m t x l) (e:m (t+1) x 0=m t x 0):zn3 n m (t+1) x l:=by
 have er:rho m (t+1) x=rho m t x:=by unfold rho;rw [e]
 obtain ⟨h1,h2,h3,h4⟩:=h
 refine ⟨h1,h2,h3,fun z hz hne=>?_⟩
 have:=R.rho_mono (h3 z hz).1 (h3 z hz).2 ht
 rw [er]
 exact (R.kn (h4 z hz hne) (Nat.le_succ t) ht).le (by omega)
theorem zmf.upto (R:Bd n L most T len m w pt pw) {s x:Nat} (hx:0<x) (hn:x<n) (h:zmf n L m s x):∀d,s+d≤T->m (s+d) x 0=m s x 0->zmf n L m (s+d) x
 | 0,_,_=>h
 | d+1,hd,e=>by
  have h1:=(R.rho_is (t:=s) hx hn (by omega)).1
  have h2:m (s+(d+1)) x 0=some (rho m s x):=e.trans h1
  have h3:=R.same h1 h2 (s:=s+d) (by omega) (by omega) hd
  exact zmf.next R (t:=s+d) hx hn (by omega) (zmf.upto R hx hn h d (by omega) (h3.trans h1.symm)) (h2.trans h3.symm)
theorem Bd.looked (R:Bd n L most T len m w pt pw) {s x:Nat} (hs:s<T) (h:pt s x 0) (hx:0<x) (hn:x<n) (e:m (s+1) x 0=m s x 0):zmf n L m (s+1) x:=by
 obtain ⟨h1,_⟩:=R.rho_is (t:=s) hx hn (ZAr hs)
 have er:rho m (s+1) x=rho m s x:=by unfold rho;rw [e]
 obtain ⟨p,hp1,hp2⟩:=R.pi_is hx hn (ZAr hs)
 have hb:=R.bar _ _ _ _ _ hs h h1 hp2
 refine ⟨by rw [er];omega,fun z z1 z2 z3=>?_⟩
 obtain ⟨q,hq1,hq2⟩:=R.pi_is z1 z2 (ZAr hs)
 obtain ⟨y,hy,ey⟩:=R.sum _ _ _ _ _ _ hs h h1 hq2 (Ne.symm z3)
 refine ⟨y,?_,ey⟩
 rw [er]
 omega
theorem Bd.stands (R:Bd n L most T len m w pt pw) {t0 t x:Nat} (hx:0<x) (hn:x<n) (ht:t≤T) (h0:len t0≤t) (h1:t0≤t) (e:m t x 0=m t0 x 0):zmf n L m t x:=by
 have hr:=(R.rho_is (t:=t) hx hn ht).1
 obtain ⟨s,hs,hp,hv⟩:=R.stay t0 t x 0 _ ht h0 h1 (e.symm.trans hr) hr
 have e1:=R.same hv hr (s:=s+1) (by omega) (by omega) ht
 have hf:=R.looked (by omega) hp hx hn (e1.trans hv.symm)
 have:=zmf.upto R hx hn hf (t-(s+1)) (by omega)
 rw [show s+1+(t-(s+1))=t by omega] at this
 exact this (hr.trans e1.symm)
theorem Bd.over (R:Bd n L most T len m w pt pw) {t x c:Nat} {v q y:Int} (ht:t<T) (hx:0<x) (hn:x<n) (hc:c≠0) (hp:pt t x c) (hv:m t x c=some v) (hq:m t c 0=some q) (hy:m (t+1) x 0=some y) (hle:v+q≤y) (hne:m (t+1) x 0≠m t x 0):
 c<n∧c≠x∧rho m t c=q∧rho m (t+1) x=v+q∧rho m (t+1) x<rho m t x∧rho m (t+1) c≤q:=by
 obtain ⟨l1,l2,l3⟩:=R.lt _ _ _ _ (ZAr ht) hv
 have hq':=(R.rho_is (t:=t) (x:=c) (by omega) l2 (ZAr ht)).1
 rw [hq] at hq'
 have eq:=ZAn hq'
 obtain ⟨z,hz,ez⟩:=R.sum _ _ _ _ _ _ ht hp hv hq (show x≠0 by omega)
 rw [hy] at ez
 have ez:=ZAn ez
 have hy':=(R.rho_is (t:=t+1) hx hn ht).1
 rw [hy] at hy'
 have ey:=ZAn hy'
 have hx':=(R.rho_is (t:=t) hx hn (ZAr ht)).1
 have hmn:=R.rho_mono hx hn ht
 have hcn:=R.rho_mono (x:=c) (by omega) l2 ht
 refine ⟨l2,Ne.symm l3,eq.symm,by omega,?_,by omega⟩
 have:rho m (t+1) x≠rho m t x:=fun z=>hne (by rw [hx',hy,←z,ey])
 omega
theorem Bd.overFine (R:Bd n L most T len m w pt pw) {t x c:Nat} {v q y:Int} (ht:t<T) (hx:0<x) (hn:x<n) (hc:c≠0) (hp:pt t x c) (hv:m t x c=some v) (hq:m t c 0=some q) (hy:m (t+1) x 0=some y) (hle:v+q≤y) (hne:m (t+1) x 0≠m t x 0) (h:zmf n L m t c):zmf n L m (t+1) x:=by
 obtain ⟨hcn,hcx,eq,er,hlt,hc1⟩:=R.over ht hx hn hc hp hv hq hy hle hne
 obtain ⟨f1,f2⟩:=h
 have L0:=R.L0
 obtain ⟨u,hu,eu⟩:=f2 x hx hn (Ne.symm hcx)
 have hb:=R.bar _ _ _ _ _ ht hp hv eu
 rw [eq] at hu
 refine ⟨by omega,fun z h1 h2 h3=>?_⟩
 have hz:=R.rho_mono h1 h2 ht
 by_cases e:z=c
 ·subst e
  obtain ⟨v',hv',ev'⟩:=R.mono _ _ _ _ ht hv
  exact ⟨v',by omega,ev'⟩
 ·obtain ⟨u',hu',eu'⟩:=f2 z h1 h2 e
  obtain ⟨x',hx',ex'⟩:=R.sum _ _ _ _ _ _ ht hp hv eu' (Ne.symm h3)
  rw [eq] at hu'
  exact ⟨x',by omega,ex'⟩
theorem Bd.overChain (R:Bd n L most T len m w pt pw) {t x c:Nat} {v q y:Int} {l:List Nat} (ht:t<T) (hx:0<x) (hn:x<n) (hc:c≠0) (hp:pt t x c) (hv:m t x c=some v) (hq:m t c 0=some q) (hy:m (t+1) x 0=some y) (hle:v+q≤y) (hne:m (t+1) x 0≠m t x 0) (h:zn3 n m t c l):zn3 n m (t+1) x (x::l):=by
 obtain ⟨hcn,hcx,eq,er,hlt,hc1⟩:=R.over ht hx hn hc hp hv hq hy hle hne
 obtain ⟨g1,g2,g3,g4⟩:=h
 have hxl:x∉l:=fun z=>by
  obtain ⟨u,hu,eu⟩:=g4 x z (Ne.symm hcx)
  have hb:=R.bar _ _ _ _ _ ht hp hv eu
  rw [eq] at hu
  omega
 refine ⟨List.nodup_cons.mpr ⟨hxl,g1⟩,ZAl,fun z hz=>?_,fun z hz hne'=>?_⟩
 ·rcases ZAu.mp hz with rfl | hz
  ·exact ⟨hx,hn⟩
  ·exact g3 z hz
 ·rcases ZAu.mp hz with e | hz
  ·exact absurd e hne'
  ·have hzr:=R.rho_mono (g3 z hz).1 (g3 z hz).2 ht
   by_cases e:z=c
   ·subst e
    obtain ⟨v',hv',ev'⟩:=R.mono _ _ _ _ ht hv
    exact ⟨v',by omega,ev'⟩
   ·obtain ⟨u',hu',eu'⟩:=g4 z hz e
    obtain ⟨x',hx',ex'⟩:=R.sum _ _ _ _ _ _ ht hp hv eu' (Ne.symm hne')
    rw [eq] at hu'
    exact ⟨x',by omega,ex'⟩
noncomputable def gen (len:Nat->Nat):Nat->Nat
 | 0=>0
 | g+1=>len (gen len g)
noncomputable def zuu (n:Nat) (most:Int) (m:Nat->Nat->Nat->Option Int) (pt:Nat->Nat->Nat->Prop) (t:Nat):Prop:=(∃c,pt t c 0)∨∃x y,0<x∧x<n∧m (t+1) x 0=some y∧m (t+1) x 0≠m t x 0∧-most≤y
noncomputable def zu0 (n:Nat) (L:Int) (m:Nat->Nat->Nat->Option Int) (k t0 t:Nat):Prop:=∀x,0<x->x<n->zmf n L m t x∨∃l,zn3 n m t x l∧(k+1≤l.length∨(k≤l.length∧m t x 0=m t0 x 0))
theorem Bd.calm_step (R:Bd n L most T len m w pt pw) {k t0 t:Nat} (ht:t<T) (hs:¬zuu n most m pt t) (h:zu0 n L m k t0 t):zu0 n L m k t0 (t+1):=fun x hx hn=>by
 by_cases e:m (t+1) x 0=m t x 0
 ·rcases h x hx hn with f | ⟨l,c,hl⟩
  ·exact .inl (f.next R hx hn ht e)
  ·refine .inr ⟨l,c.next R ht e,?_⟩
   rcases hl with hl | ⟨hl,e0⟩
   ·exact .inl hl
   ·exact .inr ⟨hl,e.trans e0⟩
 ·rcases R.cause t x 0 ht e with ⟨c,v,q,y,hp,hc,hv,hq,hy,hle⟩ | ⟨c,hp,_⟩ | ⟨e',y,_,hy,hlo⟩
  ·obtain ⟨hcn,_⟩:=R.over ht hx hn hc hp hv hq hy hle e
   rcases h c (by omega) hcn with f | ⟨l,ch,hl⟩
   ·exact .inl (R.overFine ht hx hn hc hp hv hq hy hle e f)
   ·refine .inr ⟨x::l,R.overChain ht hx hn hc hp hv hq hy hle e ch,.inl ?_⟩
    rw [ZA5]
    rcases hl with hl | ⟨hl,_⟩<;>omega
  ·exact absurd (.inl ⟨c,hp⟩) hs
  ·exact absurd (.inr ⟨x,y,hx,hn,hy,e,hlo⟩) hs
theorem Bd.calm_gen (R:Bd n L most T len m w pt pw) {k t0:Nat} (hs:∀t,t0≤t->t<len t0->¬zuu n most m pt t) (h:zu0 n L m k t0 t0):∀d,t0+d≤T->t0+d≤len t0->zu0 n L m k t0 (t0+d)
 | 0,_,_=>h
 | d+1,h1,h2=>R.calm_step (t:=t0+d) (by omega) (hs (t0+d) (by omega) (by omega)) (R.calm_gen hs h d (by omega) (by omega))
theorem Bd.calm_next (R:Bd n L most T len m w pt pw) {k t0:Nat} (h0:t0≤len t0) (hT:len t0≤T) (hs:∀t,t0≤t->t<len t0->¬zuu n most m pt t) (h:zu0 n L m k t0 t0):zu0 n L m (k+1) (len t0) (len t0):=fun x hx hn=>by
 have:=R.calm_gen hs h (len t0-t0) (by omega) (by omega)
 rw [show t0+(len t0-t0)=len t0 by omega] at this
 rcases this x hx hn with f | ⟨l,c,hl⟩
 ·exact .inl f
 ·rcases hl with hl | ⟨hl,e⟩
  ·exact .inr ⟨l,c,.inr ⟨hl,rfl⟩⟩
  ·exact .inl (R.stands hx hn hT (ZAc _) h0 e)
theorem Bd.gen_le (R:Bd n L most T len m w pt pw) {g:Nat} (h:gen len g≤T) (h2:gen len (g+1)≤T):gen len g≤gen len (g+1):=by
 by_cases c:gen len g=T
 ·rw [c]
  show T≤len (gen len g)
  rw [c]
  have:gen len (g+1)=len T:=by show len (gen len g)=_;rw [c]
  by_cases z:T=0
  ·omega
  ·have h3:=R.go (T-1) (by omega)
   have h4:=R.lenm (T-1) (by omega)
   rw [show T-1+1=T by omega] at h4
   omega
 ·exact ZAr (R.go _ (by omega))
theorem Bd.calm_all (R:Bd n L most T len m w pt pw) {g:Nat}:∀k,gen len (g+k)≤T->(∀i,i≤k->gen len (g+i)≤T)->(∀t,gen len g≤t->t<gen len (g+k)->¬zuu n most m pt t)->(∀i,i≤k->gen len g≤gen len (g+i))->(∀i,i<k->gen len (g+i)≤gen len (g+k))->zu0 n L m (k+1) (gen len (g+k)) (gen len (g+k))
 | 0,_,_,_,_,_=>fun x hx hn=>.inr ⟨[x],⟨List.nodup_cons.mpr ⟨by simp,List.nodup_nil⟩,ZAl,fun z hz=>by rw [ZAt.mp hz];exact ⟨hx,hn⟩,fun z hz hne=>absurd (ZAt.mp hz) hne⟩,.inr ⟨ZAc _,rfl⟩⟩
 | k+1,hT,hle,hs,hm,hu=>by
  have h1:gen len (g+k)≤gen len (g+(k+1)):=hu k (by omega)
  have ih:=R.calm_all (g:=g) k (hle k (by omega)) (fun i hi=>hle i (by omega)) (fun t a b=>hs t a (by omega)) (fun i hi=>hm i (by omega)) (fun i hi=>by
   have h2:∀j,j≤k-i->gen len (g+i)≤gen len (g+(i+j)):=fun j=>by
    induction j with
    | zero=>intro _;exact ZAc _
    | succ j ih=>
     intro hj
     exact ZAw (ih (by omega)) (R.gen_le (g:=g+(i+j)) (hle (i+j) (by omega)) (hle (i+j+1) (by omega)))
   have:=h2 (k-i) (ZAc _)
   rwa [show i+(k-i)=k by omega] at this)
  exact R.calm_next (t0:=gen len (g+k)) h1 hT (fun t a b=>hs t (by have:=hm k (by omega);omega) b) ih
end
end MH
set_option maxRecDepth 4000
namespace MH
theorem zf2 {P:Nat->Prop} {N M:Nat} (Rl:Nat->Nat->Prop) (h:∀i,i<N->P i->∃c,c<M∧Rl i c) (hi:∀i j c,i<j->j<N->P i->P j->Rl i c->Rl j c->False):cnt P N≤M:=by
 classical
 refine zwm (fun i=>if z:∃c,c<M∧Rl i c then Classical.choose z else 0) (fun i hN hP=>?_) (fun i j hij hN hP hP' e=>?_)
 ·have z:=h i hN hP
  show (if z:∃c,c<M∧Rl i c then Classical.choose z else 0)<M
  rw [dif_pos z]
  exact (Classical.choose_spec z).1
 ·have z1:=h i (by omega) hP
  have z2:=h j hN hP'
  have e:(if z:∃c,c<M∧Rl i c then Classical.choose z else 0)=(if z:∃c,c<M∧Rl j c then Classical.choose z else 0):=e
  rw [dif_pos z1,dif_pos z2] at e
  have h1:=(Classical.choose_spec z1).2
  have h2:=(Classical.choose_spec z2).2
  rw [←e] at h2
  exact hi i j _ hij hN hP hP' h1 h2
theorem zqf {P:Nat->Prop}:∀{N:Nat},(∀i,i<N->P i)->cnt P N=N
 | 0,_=>rfl
 | N+1,h=>by rw [zdu (h N (by omega)),zqf fun i hi=>h i (by omega)]
theorem dec {k a r a' r':Nat} (hr:r<k) (hr':r'<k) (h:a*k+r=a'*k+r'):a=a'∧r=r':=by
 have hk:0<k:=by omega
 have e1:(a*k+r) / k=a:=by rw [Nat.add_comm,Nat.add_mul_div_right _ _ hk,Nat.div_eq_of_lt hr,Nat.zero_add]
 have e2:(a'*k+r') / k=a':=by rw [Nat.add_comm,Nat.add_mul_div_right _ _ hk,Nat.div_eq_of_lt hr',Nat.zero_add]
 rw [h,e2] at e1
 subst e1
 exact ⟨rfl,by omega⟩
theorem enc {k a r N:Nat} (ha:a<N) (hr:r<k):a*k+r<N*k:=by
 have h1:(a+1)*k≤N*k:=Nat.mul_le_mul_right _ ha
 rw [Nat.add_mul,Nat.one_mul] at h1
 omega
section
variable {n l mo T:Nat} {len:Nat->Nat} {m w:Nat->Nat->Nat->Option Int} {pt pw:Nat->Nat->Nat->Prop}
theorem Bd.growth {L most:Int} (R:Bd n L most T len m w pt pw) {t0:Nat}:∀d,t0+d≤T->len (t0+d)≤len t0+26*cnt (fun i=>∃a b,pt (t0+i) a b) d+10*cnt (fun i=>∃a b,pw (t0+i) a b) d
 | 0,_=>by show len t0≤_;omega
 | d+1,h=>by
  have ih:=R.growth (t0:=t0) d (by omega)
  have hT:t0+d<T:=by omega
  show len (t0+d+1)≤_
  by_cases c:∃a b,pt (t0+d) a b
  ·rw [zdu c]
   have h1:=R.grow (t0+d) hT
   have h2:cnt (fun i=>∃a b,pw (t0+i) a b) d≤cnt (fun i=>∃a b,pw (t0+i) a b) (d+1):=by
    by_cases z:∃a b,pw (t0+d) a b
    ·rw [zdu z];omega
    ·rw [zgl z];omega
   omega
  ·rw [zgl c]
   have c':∀a b,¬pt (t0+d) a b:=fun a b z=>c ⟨a,b,z⟩
   by_cases z:∃a b,pw (t0+d) a b
   ·rw [zdu z]
    have:=R.growW (t0+d) hT c'
    omega
   ·rw [zgl z]
    have:=R.grow0 (t0+d) hT c' fun a b q=>z ⟨a,b,q⟩
    omega
theorem Bd.len_le {L most:Int} (R:Bd n L most T len m w pt pw) {t:Nat}:∀d,t+d≤T->len t≤len (t+d)
 | 0,_=>ZAc _
 | d+1,h=>ZAw (R.len_le d (by omega)) (R.lenm (t+d) (by omega))
theorem Bd.len_mono {L most:Int} (R:Bd n L most T len m w pt pw) {t t':Nat} (h:t≤t') (hT:t'≤T):len t≤len t':=by
 have:=R.len_le (t:=t) (t'-t) (by omega)
 rwa [show t+(t'-t)=t' by omega] at this
theorem Bd.per_gen {L most:Int} (R:Bd n L most T len m w pt pw) {t0 d:Nat} (hT:t0+d≤T) (hl:t0+d≤len t0):len (t0+d)≤len t0+2304:=by
 have h:=R.growth d hT
 have h8:=R.n8
 have c1:cnt (fun i=>∃a b,pt (t0+i) a b) d≤64:=by
  refine zf2 (fun i c=>∃a b,pt (t0+i) a b∧a<8∧b<8∧c=a*8+b) (fun i hi hP=>?_) (fun i j c hij hj _ _ h1 h2=>?_)
  ·obtain ⟨a,b,hp⟩:=hP
   obtain ⟨v,hv⟩:=R.known _ _ _ (show t0+i<T by omega) hp
   obtain ⟨l1,l2,_⟩:=R.lt _ _ _ _ (show t0+i≤T by omega) hv
   exact ⟨a*8+b,by omega,a,b,hp,by omega,by omega,rfl⟩
  ·obtain ⟨a,b,hp,ha,hb,e1⟩:=h1
   obtain ⟨a',b',hp',ha',hb',e2⟩:=h2
   obtain ⟨rfl,rfl⟩:=dec hb hb' (e1.symm.trans e2)
   have:=R.once _ _ _ _ (show t0+i<t0+j by omega) (by omega) hp hp'
   have:=R.len_mono (show t0≤t0+i by omega) (by omega)
   omega
 have c2:cnt (fun i=>∃a b,pw (t0+i) a b) d≤64:=by
  refine zf2 (fun i c=>∃a b,pw (t0+i) a b∧a<8∧b<8∧c=a*8+b) (fun i hi hP=>?_) (fun i j c hij hj _ _ h1 h2=>?_)
  ·obtain ⟨a,b,hp⟩:=hP
   obtain ⟨l1,l2,_⟩:=R.wknown _ _ _ (show t0+i<T by omega) hp
   exact ⟨a*8+b,by omega,a,b,hp,by omega,by omega,rfl⟩
  ·obtain ⟨a,b,hp,ha,hb,e1⟩:=h1
   obtain ⟨a',b',hp',ha',hb',e2⟩:=h2
   obtain ⟨rfl,rfl⟩:=dec hb hb' (e1.symm.trans e2)
   have:=R.wonce _ _ _ _ (show t0+i<t0+j by omega) (by omega) hp hp'
   have:=R.len_mono (show t0≤t0+i by omega) (by omega)
   omega
 omega
theorem Bd.gens {L most:Int} (R:Bd n L most T len m w pt pw):∀N,((∀i,i≤N->gen len i≤T)∧len (gen len N)≤len 0+2304*N)∨len T≤len 0+2304*N
 | 0=>.inl ⟨fun i hi=>by rw [show i=0 by omega];exact ZAq _,ZAc _⟩
 | N+1=>by
  rcases R.gens N with ⟨h,hl⟩ | h
  ·have h0:=h N (ZAc _)
   by_cases c:gen len (N+1)≤T
   ·refine .inl ⟨fun i hi=>?_,?_⟩
    ·by_cases e:i=N+1
     ·rw [e];exact c
     ·exact h i (by omega)
    ·have h1:=R.gen_le h0 c
     have:=R.per_gen (t0:=gen len N) (d:=gen len (N+1)-gen len N) (by omega) (by show _≤gen len (N+1);omega)
     rw [show gen len N+(gen len (N+1)-gen len N)=gen len (N+1) by omega] at this
     rw [Nat.mul_succ,←Nat.add_assoc]
     exact ZAw this (Nat.add_le_add_right hl _)
   ·right
    have:=R.per_gen (t0:=gen len N) (d:=T-gen len N) (by omega) (by show _≤gen len (N+1);omega)
    rw [show gen len N+(T-gen len N)=T by omega] at this
    rw [Nat.mul_succ,←Nat.add_assoc]
    exact ZAw this (Nat.add_le_add_right hl _)
  ·right
   rw [Nat.mul_succ,←Nat.add_assoc]
   exact ZAw h (Nat.le_add_right _ _)
theorem Bd.gen_mono {L most:Int} (R:Bd n L most T len m w pt pw) {N:Nat} (h:∀i,i≤N->gen len i≤T) {i:Nat}:∀j,i+j≤N->gen len i≤gen len (i+j)
 | 0,_=>ZAc _
 | j+1,hj=>ZAw (R.gen_mono h j (by omega)) (R.gen_le (g:=i+j) (h (i+j) (by omega)) (h (i+j+1) (by omega)))
theorem Bd.narrow (R:Bd n (l:Int) (mo:Int) T len m w pt pw) {g:Nat} (hg:∀i,i≤g+7->gen len i≤T) (hs:∀t,gen len g≤t->t<gen len (g+7)->¬zuu n (mo:Int) m pt t):∀a b,a<n->b<n->a≠b->Kn m (gen len (g+7)) a b (l:Int):=by
 have hT:=hg (g+7) (ZAc _)
 have c:=R.calm_all (g:=g) 7 hT (fun i hi=>hg _ (by omega)) hs (fun i hi=>R.gen_mono hg i (by omega)) (fun i hi=>by
  have:=R.gen_mono hg (i:=g+i) (7-i) (by omega)
  rwa [show g+i+(7-i)=g+7 by omega] at this)
 have h8:=R.n8
 have fine:∀x,0<x->x<n->zmf n (l:Int) m (gen len (g+7)) x:=fun x hx hn=>by
  rcases c x hx hn with f | ⟨ls,⟨c1,c2,c3,_⟩,hl⟩
  ·exact f
  ·exfalso
   have:=zea 8 (0::ls) (List.nodup_cons.mpr ⟨fun z=>by have:=(c3 0 z).1;omega,c1⟩) (fun z hz=>by
    rcases ZAu.mp hz with e | hz
    ·omega
    ·have:=(c3 z hz).2;omega)
   rw [ZA5] at this
   omega
 intro a b ha hb hab
 by_cases e:a=0
 ·subst e
  exact R.pi_is (by omega) hb hT
 ·by_cases e':b=0
  ·subst e'
   obtain ⟨h1,h2⟩:=R.rho_is (t:=gen len (g+7)) (by omega) ha hT
   exact ⟨_,by omega,h1⟩
  ·have h1:=(fine a (by omega) ha).2 b (by omega) hb (Ne.symm hab)
   have h2:=(fine b (by omega) hb).1
   have h3:=(R.rho_is (t:=gen len (g+7)) (x:=a) (by omega) ha hT).2
   exact h1.le (by omega)
theorem Bd.quiet (R:Bd n (l:Int) (mo:Int) T len m w pt pw) {N:Nat} (hN:N=8*(l+1)+8*(mo+1)+1) (hg:∀i,i≤7*N->gen len i≤T):∃b,b<N∧∀t,gen len (7*b)≤t->t<gen len (7*b+7)->¬zuu n (mo:Int) m pt t:=by
 refine ZAf fun hn=>?_
 have hs:∀b,b<N->∃t,gen len (7*b)≤t∧t<gen len (7*b+7)∧zuu n (mo:Int) m pt t:=fun b hb=>by
  refine ZAf fun h=>hn ⟨b,hb,fun t h1 h2 h3=>h ⟨t,h1,h2,h3⟩⟩
 have h8:=R.n8
 have tT:∀{b t},b<N->t<gen len (7*b+7)->t<T:=fun {b t} hb ht=>by
  have:=hg (7*b+7) (by omega)
  omega
 have key:=zf2 (P:=fun _=>True) (N:=N) (M:=8*(l+1)+8*(mo+1)) (fun b c=>∃t,gen len (7*b)≤t∧t<gen len (7*b+7)∧((∃x r,pt t x 0∧x<8∧r<l+1∧m t x 0=some (-(r:Int))∧c=x*(l+1)+r)∨
  ∃x r,x<8∧r<mo+1∧m (t+1) x 0=some (-(r:Int))∧m (t+1) x 0≠m t x 0∧c=8*(l+1)+(x*(mo+1)+r))) (fun b hb _=>by
  obtain ⟨t,h1,h2,h3⟩:=hs b hb
  have ht:=tT hb h2
  rcases h3 with ⟨x,hp⟩ | ⟨x,y,hx,hxn,hy,hne,hlo⟩
  ·obtain ⟨v,hv⟩:=R.known _ _ _ ht hp
   obtain ⟨l1,_,l3⟩:=R.lt _ _ _ _ (ZAr ht) hv
   obtain ⟨e1,e2⟩:=R.rho_is (t:=t) (x:=x) (by omega) l1 (ZAr ht)
   rw [hv] at e1
   have e1:=ZAn e1
   obtain ⟨p,hp1,hp2⟩:=R.pi_is (t:=t) (x:=x) (by omega) l1 (ZAr ht)
   have hb:=R.bar _ _ _ _ _ ht hp hv hp2
   have hr:(-v).toNat<l+1:=by omega
   exact ⟨x*(l+1)+(-v).toNat,by have:=enc (a:=x) (N:=8) (show x<8 by omega) hr;omega,t,h1,h2,.inl ⟨x,(-v).toNat,hp,by omega,hr,by rw [hv];congr 1;omega,rfl⟩⟩
  ·obtain ⟨e1,e2⟩:=R.rho_is (t:=t+1) hx hxn (show t+1≤T by omega)
   rw [hy] at e1
   have e1:=ZAn e1
   have hr:(-y).toNat<mo+1:=by omega
   exact ⟨8*(l+1)+(x*(mo+1)+(-y).toNat),by have:=enc (a:=x) (N:=8) (show x<8 by omega) hr;omega,t,h1,h2,.inr ⟨x,(-y).toNat,by omega,hr,by rw [hy];congr 1;omega,hne,rfl⟩⟩)
  (fun b b' c hbb hb' _ _ h1 h2=>by
   obtain ⟨t,t1,t2,h1⟩:=h1
   obtain ⟨t',t1',t2',h2⟩:=h2
   have htt:t<t':=by
    have:=R.gen_mono hg (i:=7*b+7) (7*b'-(7*b+7)) (by omega)
    rw [show 7*b+7+(7*b'-(7*b+7))=7*b' by omega] at this
    omega
   have hT':=tT hb' t2'
   rcases h1 with ⟨x,r,hp,hx,hr,hv,e1⟩ | ⟨x,r,hx,hr,hv,hne,e1⟩
   ·rcases h2 with ⟨x',r',hp',hx',hr',hv',e2⟩ | ⟨x',r',hx',hr',hv',hne',e2⟩
    ·obtain ⟨rfl,rfl⟩:=dec hr hr' (e1.symm.trans e2)
     have:=R.drop _ _ _ _ _ _ htt hT' hp hp' hv hv'
     omega
    ·have:=enc (a:=x) (N:=8) hx hr
     omega
   ·rcases h2 with ⟨x',r',hp',hx',hr',hv',e2⟩ | ⟨x',r',hx',hr',hv',hne',e2⟩
    ·have:=enc (a:=x') (N:=8) hx' hr'
     omega
    ·obtain ⟨rfl,rfl⟩:=dec hr hr' (show x*(mo+1)+r=x'*(mo+1)+r' by omega)
     have:=R.same hv hv' (s:=t') (by omega) (by omega) (by omega)
     exact hne' (hv'.trans this.symm))
 rw [zqf fun i _=>trivial] at key
 omega
end
end MH
namespace MH
section
variable {n l mo T:Nat} {len:Nat->Nat} {m w:Nat->Nat->Nat->Option Int} {pt pw:Nat->Nat->Nat->Prop}
theorem Bd.gen_of {L most:Int} (R:Bd n L most T len m w pt pw) {t:Nat} (ht:t<T):∃g,(∀i,i≤g->gen len i≤t)∧t<gen len (g+1):=by
 have key:∀N,(∀i,i≤N->gen len i≤t∧i≤gen len i)∨∃g,(∀i,i≤g->gen len i≤t)∧t<gen len (g+1):=by
  intro N
  induction N with
  | zero=>exact .inl fun i hi=>by rw [show i=0 by omega];exact ⟨ZAq _,ZAq _⟩
  | succ N ih=>
   rcases ih with h | h
   ·by_cases c:gen len (N+1)≤t
    ·refine .inl fun i hi=>?_
     by_cases e:i=N+1
     ·rw [e]
      have h1:=h N (ZAc _)
      have h2:gen len N<gen len (N+1):=R.go (gen len N) (by omega)
      exact ⟨c,by omega⟩
     ·exact h i (by omega)
    ·exact .inr ⟨N,fun i hi=>(h i hi).1,by omega⟩
   ·exact .inr h
 rcases key (t+1) with h | h
 ·have:=h (t+1) (ZAc _)
  omega
 ·exact h
theorem Bd.gen_up {L most:Int} (R:Bd n L most T len m w pt pw) {g g' t:Nat} (h:∀i,i≤g'->gen len i≤t) (ht:t≤T) (hg:g≤g'):gen len g≤gen len g':=by
 have:=R.gen_mono (N:=g') (fun i hi=>ZAw (h i hi) ht) (i:=g) (g'-g) (by omega)
 rwa [show g+(g'-g)=g' by omega] at this
theorem Bd.wait_top {L most:Int} (R:Bd n L most T len m w pt pw) {B:Int} (hB:0≤B) {t:Nat} (hT:t≤T) (h:∀x y v,m t x y=some v->-B≤v):∀s,s≤t->∀a b v,w s a b=some v->v≤most+B
 | 0,_,a,b,v,e=>by rw [R.wnone] at e;cases e
 | s+1,hs,a,b,v,e=>by
  by_cases c:w (s+1) a b=w s a b
  ·exact R.wait_top hB hT h s (by omega) a b v (c▸e)
  ·obtain ⟨y,h1,h2⟩:=R.wcause s a b B (by omega) hB (fun x y v' e'=>by
    obtain ⟨v2,l2,e2⟩:=R.mono' e' hs hT
    have:=h x y v2 e2
    omega) c
   rw [e] at h1
   cases h1
   exact h2
theorem Bd.still (R:Bd n (l:Int) (mo:Int) T len m w pt pw) {g:Nat} (hg:∀i,i≤g+1->gen len i≤T) (hk:∀a b,a<n->b<n->a≠b->Kn m (gen len g) a b (l:Int))
 (hq:∀τ,gen len g≤τ->τ<gen len (g+1)->(∀a b,¬pt τ a b)∧∀a b,m (τ+1) a b=m τ a b) {t a b:Nat} {v:Int} (h1:gen len g≤t) (h2:t<gen len (g+1)) (hp:pw t a b) (hv:w t a b=some v):1-(l:Int)≤v∧v≤(mo:Int)+l:=by
 have hT:=hg (g+1) (ZAc _)
 have hgg:=R.gen_le (hg g (by omega)) hT
 have same:∀x y d,gen len g+d≤gen len (g+1)->m (gen len g+d) x y=m (gen len g) x y:=fun x y d=>by
  induction d with
  | zero=>intro _;rfl
  | succ d ih=>exact fun hd=>((hq (gen len g+d) (by omega) (by omega)).2 x y).trans (ih (by omega))
 have hend:∀x y,m (gen len (g+1)) x y=m (gen len g) x y:=fun x y=>by
  have:=same x y (gen len (g+1)-gen len g) (by omega)
  rwa [show gen len g+(gen len (g+1)-gen len g)=gen len (g+1) by omega] at this
 have seen:∀x y q,m (gen len (g+1)) x y=some q->∃s,s<gen len g∧pt s x y∧m s x y=some q:=fun x y q hq'=>by
  obtain ⟨s,hs,hp,hv⟩:=R.stay (gen len g) (gen len (g+1)) x y q hT (ZAc _) hgg ((hend x y).symm.trans hq') hq'
  refine ⟨s,?_,hp,hv⟩
  refine ZAf fun c=>?_
  exact (hq s (by omega) hs).1 x y hp
 have kn:∀x y,x<n->y<n->x≠y->Kn m (gen len (g+1)) x y (l:Int):=fun x y hx hy hxy=>R.kn (hk x y hx hy hxy) hgg hT
 have low:∀x y q,m (gen len (g+1)) x y=some q->-(l:Int)≤q:=fun x y q hq'=>by
  obtain ⟨x1,x2,x3⟩:=R.lt _ _ _ _ hT hq'
  obtain ⟨q',hl',e'⟩:=kn y x x2 x1 (Ne.symm x3)
  obtain ⟨s,hs,ps,vs⟩:=seen x y q hq'
  obtain ⟨s',hs',ps',vs'⟩:=seen y x q' e'
  have gT:=hg g (by omega)
  rcases Nat.lt_trichotomy s s' with c | c | c
  ·have:=R.same vs hq' (s:=s') (by omega) (by omega) hT
   have:=R.bar _ _ _ _ _ (by omega) ps' vs' this
   omega
  ·subst c
   have:=(R.one _ _ _ _ _ (by omega) ps ps').1
   omega
  ·have:=R.same vs' e' (s:=s) (by omega) (by omega) hT
   have:=R.bar _ _ _ _ _ (by omega) ps vs this
   omega
 refine ⟨?_,R.wait_top (Int.natCast_nonneg l) hT (fun x y v e=>low x y v e) t (by omega) a b v hv⟩
 obtain ⟨p1,p2,p3,_⟩:=R.wknown _ _ _ (by omega) hp
 obtain ⟨q,hl',e'⟩:=kn a b p1 p2 p3
 obtain ⟨s,hs,ps,vs⟩:=seen a b q e'
 have:=R.late _ _ _ _ _ _ (by omega) ps vs (show s≤t by omega) (by omega) hp hv
 omega
theorem Bd.after (R:Bd n (l:Int) (mo:Int) T len m w pt pw) {g1:Nat} (hg1:∀i,i≤g1->gen len i≤T) (hk:∀a b,a<n->b<n->a≠b->Kn m (gen len g1) a b (l:Int)):
 len T≤len (gen len g1)+26*(64*(2*l+1))+10*((64*(2*l+1)+64*(mo+l+1))*64+(64*(mo+2*l+1)+64)):=by
 have h1:=hg1 g1 (ZAc _)
 have h8:=R.n8
 have g:=R.growth (t0:=gen len g1) (T-gen len g1) (by omega)
 rw [show gen len g1+(T-gen len g1)=T by omega] at g
 have kn:∀t x y,gen len g1≤t->t≤T->x<n->y<n->x≠y->Kn m t x y (l:Int):=fun t x y ht hT hx hy hxy=>R.kn (hk x y hx hy hxy) ht hT
 have tie:∀t a b,gen len g1≤t->t<T->pt t a b->∃r,a<8∧b<8∧r<2*l+1∧m t a b=some ((r:Int)-l):=fun t a b h h' hp=>by
  obtain ⟨v,hv⟩:=R.known _ _ _ h' hp
  obtain ⟨l1,l2,l3⟩:=R.lt _ _ _ _ (ZAr h') hv
  obtain ⟨v1,hle,e1⟩:=kn t a b h (ZAr h') l1 l2 l3
  rw [hv] at e1
  cases e1
  obtain ⟨u,hu,eu⟩:=kn t b a h (ZAr h') l2 l1 (Ne.symm l3)
  have:=R.bar _ _ _ _ _ h' hp hv eu
  exact ⟨(v+l).toNat,by omega,by omega,by omega,by rw [hv];congr 1;omega⟩
 have c1:cnt (fun i=>∃a b,pt (gen len g1+i) a b) (T-gen len g1)≤64*(2*l+1):=by
  refine zf2 (fun i c=>∃a b r,pt (gen len g1+i) a b∧a<8∧b<8∧r<2*l+1∧m (gen len g1+i) a b=some ((r:Int)-l)∧c=(a*8+b)*(2*l+1)+r) (fun i hi hP=>?_) (fun i j c hij hj _ _ z1 z2=>?_)
  ·obtain ⟨a,b,hp⟩:=hP
   obtain ⟨r,x1,x2,x3,x4⟩:=tie _ a b (Nat.le_add_right _ _) (by omega) hp
   exact ⟨_,enc (show a*8+b<64 by omega) x3,a,b,r,hp,x1,x2,x3,x4,rfl⟩
  ·obtain ⟨a,b,r,hp,x1,x2,x3,x4,e1⟩:=z1
   obtain ⟨a',b',r',hp',y1,y2,y3,y4,e2⟩:=z2
   obtain ⟨ek,rfl⟩:=dec x3 y3 (e1.symm.trans e2)
   obtain ⟨rfl,rfl⟩:=dec x2 y2 ek
   have:=R.drop _ _ _ _ _ _ (show gen len g1+i<gen len g1+j by omega) (by omega) hp hp' x4 y4
   omega
 have c2:cnt (fun i=>∃a b,pw (gen len g1+i) a b) (T-gen len g1)≤(64*(2*l+1)+64*(mo+l+1))*64+(64*(mo+2*l+1)+64):=by
  let Ga:Nat->Nat->Prop:=fun t g=>(∀i,i≤g->gen len i≤t)∧t<gen len (g+1)∧gen len (g+1)≤T
  let St:Nat->Prop:=fun τ=>(∃a b,pt τ a b)∨∃a b,m (τ+1) a b≠m τ a b
  have up:∀{t g},gen len g1≤t->t<T->(∀i,i≤g->gen len i≤t)->t<gen len (g+1)->g1≤g:=fun {t g} h h' z1 z2=>by
   refine ZAf fun c=>?_
   have:=R.gen_mono hg1 (i:=g+1) (g1-(g+1)) (by omega)
   rw [show g+1+(g1-(g+1))=g1 by omega] at this
   omega
  have s1:=zqe (P:=fun i=>∃a b,pw (gen len g1+i) a b∧gen len g1+i<T) (Q:=fun i=>(∃a b,pw (gen len g1+i) a b)∧∃g,Ga (gen len g1+i) g∧∃τ,gen len g≤τ∧τ<gen len (g+1)∧St τ)
   (R:=fun i=>(∃a b,pw (gen len g1+i) a b)∧((∃g,Ga (gen len g1+i) g∧∀τ,gen len g≤τ->τ<gen len (g+1)->¬St τ)∨∃g,gen len g≤gen len g1+i∧T<gen len (g+1))) (fun i hP=>by
    obtain ⟨a,b,hp,hT⟩:=hP
    obtain ⟨g,z1,z2⟩:=R.gen_of hT
    by_cases c:gen len (g+1)≤T
    ·by_cases d:∃τ,gen len g≤τ∧τ<gen len (g+1)∧St τ
     ·exact .inl ⟨⟨a,b,hp⟩,g,⟨z1,z2,c⟩,d⟩
     ·exact .inr ⟨⟨a,b,hp⟩,.inl ⟨g,⟨z1,z2,c⟩,fun τ y1 y2 y3=>d ⟨τ,y1,y2,y3⟩⟩⟩
    ·exact .inr ⟨⟨a,b,hp⟩,.inr ⟨g,z1 g (ZAc _),by omega⟩⟩) (T-gen len g1)
  have s0:cnt (fun i=>∃a b,pw (gen len g1+i) a b) (T-gen len g1)=cnt (fun i=>∃a b,pw (gen len g1+i) a b∧gen len g1+i<T) (T-gen len g1):=by
   have:∀N,N≤T-gen len g1->cnt (fun i=>∃a b,pw (gen len g1+i) a b) N=cnt (fun i=>∃a b,pw (gen len g1+i) a b∧gen len g1+i<T) N:=fun N=>by
    induction N with
    | zero=>intro _;rfl
    | succ N ih=>
     intro hN
     by_cases c:∃a b,pw (gen len g1+N) a b
     ·obtain ⟨a,b,hp⟩:=c
      rw [zdu ⟨a,b,hp⟩,zdu (P:=fun i=>∃a b,pw (gen len g1+i) a b∧gen len g1+i<T) ⟨a,b,hp,by omega⟩,ih (by omega)]
     ·rw [zgl c,zgl (P:=fun i=>∃a b,pw (gen len g1+i) a b∧gen len g1+i<T) fun ⟨a,b,hp,_⟩=>c ⟨a,b,hp⟩,ih (by omega)]
   exact this _ (ZAc _)
  have s2:=zqe (P:=fun i=>(∃a b,pw (gen len g1+i) a b)∧((∃g,Ga (gen len g1+i) g∧∀τ,gen len g≤τ->τ<gen len (g+1)->¬St τ)∨∃g,gen len g≤gen len g1+i∧T<gen len (g+1)))
   (Q:=fun i=>(∃a b,pw (gen len g1+i) a b)∧∃g,Ga (gen len g1+i) g∧∀τ,gen len g≤τ->τ<gen len (g+1)->¬St τ) (R:=fun i=>(∃a b,pw (gen len g1+i) a b)∧∃g,gen len g≤gen len g1+i∧T<gen len (g+1)) (fun i hP=>hP.2.elim (fun z=>.inl ⟨hP.1,z⟩) fun z=>.inr ⟨hP.1,z⟩) (T-gen len g1)
  have key8:∀{t a b},t<T->pw t a b->a<8∧b<8:=fun {t a b} h hp=>by
   obtain ⟨x1,x2,_⟩:=R.wknown _ _ _ h hp
   exact ⟨by omega,by omega⟩
  have d3:cnt (fun i=>(∃a b,pw (gen len g1+i) a b)∧∃g,gen len g≤gen len g1+i∧T<gen len (g+1)) (T-gen len g1)≤64:=by
   refine zf2 (fun i c=>∃a b,pw (gen len g1+i) a b∧a<8∧b<8∧c=a*8+b) (fun i hi hP=>?_) (fun i j c hij hj hP _ z1 z2=>?_)
   ·obtain ⟨⟨a,b,hp⟩,_⟩:=hP
    obtain ⟨x1,x2⟩:=key8 (show gen len g1+i<T by omega) hp
    exact ⟨a*8+b,by omega,a,b,hp,x1,x2,rfl⟩
   ·obtain ⟨_,g,z3,z4⟩:=hP
    obtain ⟨a,b,hp,x1,x2,e1⟩:=z1
    obtain ⟨a',b',hp',y1,y2,e2⟩:=z2
    obtain ⟨rfl,rfl⟩:=dec x2 y2 (e1.symm.trans e2)
    have q1:=R.wonce _ _ _ _ (show gen len g1+i<gen len g1+j by omega) (by omega) hp hp'
    have q2:gen len (g+1)≤len (gen len g1+i):=R.len_mono z3 (by omega)
    omega
  have d2:cnt (fun i=>(∃a b,pw (gen len g1+i) a b)∧∃g,Ga (gen len g1+i) g∧∀τ,gen len g≤τ->τ<gen len (g+1)->¬St τ) (T-gen len g1)≤64*(mo+2*l+1):=by
   refine zf2 (fun i c=>∃a b r,pw (gen len g1+i) a b∧a<8∧b<8∧r<mo+2*l+1∧w (gen len g1+i) a b=some ((r:Int)+1-l)∧c=(a*8+b)*(mo+2*l+1)+r) (fun i hi hP=>?_) (fun i j c hij hj _ _ z1 z2=>?_)
   ·obtain ⟨⟨a,b,hp⟩,g,⟨z1,z2,z3⟩,z4⟩:=hP
    have hT:gen len g1+i<T:=by omega
    obtain ⟨x1,x2⟩:=key8 hT hp
    obtain ⟨_,_,_,v,hv⟩:=R.wknown _ _ _ hT hp
    have hgu:=up (Nat.le_add_right _ _) hT z1 z2
    have hgT:∀i,i≤g+1->gen len i≤T:=fun k hk'=>by
     by_cases e:k=g+1
     ·rw [e];exact z3
     ·have:=z1 k (by omega);omega
    have hle:gen len g1≤gen len g:=R.gen_up z1 (ZAr hT) hgu
    obtain ⟨y1,y2⟩:=R.still hgT (fun x y hx hy hxy=>kn _ x y hle (hgT g (by omega)) hx hy hxy) (fun τ q1 q2=>⟨fun x y hp'=>z4 τ q1 q2 (.inl ⟨x,y,hp'⟩),fun x y=>ZAf fun hc=>z4 τ q1 q2 (.inr ⟨x,y,hc⟩)⟩) (z1 g (ZAc _)) z2 hp hv
    have hr:(v-1+l).toNat<mo+2*l+1:=by omega
    exact ⟨_,enc (show a*8+b<64 by omega) hr,a,b,_,hp,x1,x2,hr,by rw [hv];congr 1;omega,rfl⟩
   ·obtain ⟨a,b,r,hp,x1,x2,x3,x4,e1⟩:=z1
    obtain ⟨a',b',r',hp',y1,y2,y3,y4,e2⟩:=z2
    obtain ⟨ek,rfl⟩:=dec x3 y3 (e1.symm.trans e2)
    obtain ⟨rfl,rfl⟩:=dec x2 y2 ek
    have:=R.wdrop _ _ _ _ _ _ (show gen len g1+i<gen len g1+j by omega) (by omega) hp hp' x4 y4
    omega
  have d1:cnt (fun i=>(∃a b,pw (gen len g1+i) a b)∧∃g,Ga (gen len g1+i) g∧∃τ,gen len g≤τ∧τ<gen len (g+1)∧St τ) (T-gen len g1)≤(64*(2*l+1)+64*(mo+l+1))*64:=by
   refine zf2 (fun i c=>∃g τ a b cg,Ga (gen len g1+i) g∧gen len g≤τ∧τ<gen len (g+1)∧pw (gen len g1+i) a b∧a<8∧b<8∧c=cg*64+(a*8+b)∧
    ((∃x y r,pt τ x y∧x<8∧y<8∧r<2*l+1∧m τ x y=some ((r:Int)-l)∧cg=(x*8+y)*(2*l+1)+r)∨
     ∃x y r,x<8∧y<8∧r<mo+l+1∧m (τ+1) x y=some ((r:Int)-mo)∧m (τ+1) x y≠m τ x y∧cg=64*(2*l+1)+((x*8+y)*(mo+l+1)+r))) (fun i hi hP=>?_) (fun i j c hij hj _ _ z1 z2=>?_)
   ·obtain ⟨⟨a,b,hp⟩,g,hG,τ,t1,t2,hst⟩:=hP
    have hT:gen len g1+i<T:=by omega
    obtain ⟨x1,x2⟩:=key8 hT hp
    have hgu:=up (Nat.le_add_right _ _) hT hG.1 hG.2.1
    have hle:gen len g1≤gen len g:=R.gen_up hG.1 (ZAr hT) hgu
    have hτ:τ<T:=by have:=hG.2.2;omega
    have tc:∀x y,pt τ x y->∃cg,cg<64*(2*l+1)+64*(mo+l+1)∧∃x y r,pt τ x y∧x<8∧y<8∧r<2*l+1∧m τ x y=some ((r:Int)-l)∧cg=(x*8+y)*(2*l+1)+r:=fun x y hpt=>by
     obtain ⟨r,q1,q2,q3,q4⟩:=tie τ x y (by omega) hτ hpt
     refine ⟨_,?_,x,y,r,hpt,q1,q2,q3,q4,rfl⟩
     have:=enc (show x*8+y<64 by omega) q3
     omega
    have fin:∀cg,cg<64*(2*l+1)+64*(mo+l+1)->cg*64+(a*8+b)<(64*(2*l+1)+64*(mo+l+1))*64:=fun cg hc=>enc hc (show a*8+b<64 by omega)
    by_cases c:∃x y,pt τ x y
    ·obtain ⟨x,y,hpt⟩:=c
     obtain ⟨cg,hc,rest⟩:=tc x y hpt
     exact ⟨_,fin cg hc,g,τ,a,b,cg,hG,t1,t2,hp,x1,x2,rfl,.inl rest⟩
    ·rcases hst with ⟨x,y,hpt⟩ | ⟨x,y,hne⟩
     ·exact absurd ⟨x,y,hpt⟩ c
     ·rcases R.cause τ x y hτ hne with ⟨c',v,q,y',hpt,_⟩ | ⟨c',hpt,_⟩ | ⟨e',y',_,hy,hlo⟩
      ·exact absurd ⟨x,c',hpt⟩ c
      ·exact absurd ⟨c',y,hpt⟩ c
      ·obtain ⟨l1,l2,l3⟩:=R.lt _ _ _ _ (show τ+1≤T by omega) hy
       obtain ⟨v1,hle1,e1⟩:=kn (τ+1) x y (by omega) (by omega) l1 l2 l3
       rw [hy] at e1
       cases e1
       have hr:(y'+mo).toNat<mo+l+1:=by omega
       refine ⟨_,fin (64*(2*l+1)+((x*8+y)*(mo+l+1)+(y'+mo).toNat)) ?_,g,τ,a,b,_,hG,t1,t2,hp,x1,x2,rfl,.inr ⟨x,y,_,by omega,by omega,hr,by rw [hy];congr 1;omega,hne,rfl⟩⟩
       have:=enc (show x*8+y<64 by omega) hr
       omega
   ·obtain ⟨g,τ,a,b,cg,hG,t1,t2,hp,x1,x2,e1,hcg⟩:=z1
    obtain ⟨g',τ',a',b',cg',hG',t1',t2',hp',y1,y2,e2,hcg'⟩:=z2
    obtain ⟨ec,ek⟩:=dec (show a*8+b<64 by omega) (show a'*8+b'<64 by omega) (e1.symm.trans e2)
    obtain ⟨rfl,rfl⟩:=dec x2 y2 ek
    subst ec
    have hT:gen len g1+j<T:=by omega
    have τT:τ<T:=by have:=hG.2.2;omega
    have τT':τ'<T:=by have:=hG'.2.2;omega
    have eτ:τ=τ':=by
     rcases hcg with ⟨x,y,r,p1,p2,p3,p4,p5,p6⟩ | ⟨x,y,r,p2,p3,p4,p5,pn,p6⟩
     ·rcases hcg' with ⟨x',y',r',q1,q2,q3,q4,q5,q6⟩ | ⟨x',y',r',q2,q3,q4,q5,qn,q6⟩
      ·obtain ⟨ek,rfl⟩:=dec p4 q4 (p6.symm.trans q6)
       obtain ⟨rfl,rfl⟩:=dec p3 q3 ek
       rcases Nat.lt_trichotomy τ τ' with c | c | c
       ·have:=R.drop _ _ _ _ _ _ c τT' p1 q1 p5 q5
        omega
       ·exact c
       ·have:=R.drop _ _ _ _ _ _ c τT q1 p1 q5 p5
        omega
      ·have:=enc (show x*8+y<64 by omega) p4
       omega
     ·rcases hcg' with ⟨x',y',r',q1,q2,q3,q4,q5,q6⟩ | ⟨x',y',r',q2,q3,q4,q5,qn,q6⟩
      ·have:=enc (show x'*8+y'<64 by omega) q4
       omega
      ·obtain ⟨ek,rfl⟩:=dec p4 q4 (show (x*8+y)*(mo+l+1)+r=(x'*8+y')*(mo+l+1)+r' by omega)
       obtain ⟨rfl,rfl⟩:=dec p3 q3 ek
       rcases Nat.lt_trichotomy τ τ' with c | c | c
       ·have:=R.same p5 q5 (s:=τ') (by omega) (by omega) (by omega)
        exact absurd (q5.trans this.symm) qn
       ·exact c
       ·have:=R.same q5 p5 (s:=τ) (by omega) (by omega) (by omega)
        exact absurd (p5.trans this.symm) pn
    subst eτ
    have q1:=R.wonce _ _ _ _ (show gen len g1+i<gen len g1+j by omega) hT hp hp'
    have q2:gen len (g+1)≤len (gen len g1+i):=R.len_mono (hG.1 g (ZAc _)) (by omega)
    have q3:gen len (g'+1)≤gen len (g+1):=by
     refine ZAf fun c=>?_
     have hgg:g<g':=by
      refine ZAf fun d=>?_
      have e0:∀k,k≤g+1->gen len k≤T:=fun k hk'=>by
       by_cases e:k=g+1
       ·rw [e];exact hG.2.2
       ·have:=hG.1 k (by omega);omega
      have:=R.gen_mono e0 (i:=g'+1) (g+1-(g'+1)) (by omega)
      rw [show g'+1+(g+1-(g'+1))=g+1 by omega] at this
      exact c this
     have:=R.gen_up (g:=g+1) hG'.1 (ZAr hT) (by omega)
     omega
    have:=hG'.2.1
    omega
  rw [s0]
  exact ZAw s1 (Nat.add_le_add d1 (ZAw s2 (Nat.add_le_add d2 d3)))
 have m1:=Nat.mul_le_mul_left 26 c1
 have m2:=Nat.mul_le_mul_left 10 c2
 exact ZAw g (Nat.add_le_add (Nat.add_le_add_left m1 _) m2)
theorem Bd.rows (R:Bd n (l:Int) (mo:Int) T len m w pt pw):len T≤len 0+2304*(7*(8*(l+1)+8*(mo+1)+1))+26*(64*(2*l+1))+10*((64*(2*l+1)+64*(mo+l+1))*64+(64*(mo+2*l+1)+64)):=by
 rcases R.gens (7*(8*(l+1)+8*(mo+1)+1)) with ⟨h1,h2⟩ | h
 ·obtain ⟨b,hb,hs⟩:=R.quiet rfl h1
  have hg:∀i,i≤7*b+7->gen len i≤T:=fun i hi=>h1 i (by omega)
  have k:=R.after (g1:=7*b+7) hg (R.narrow hg hs)
  have e:=R.gen_mono h1 (i:=7*b+7) (7*(8*(l+1)+8*(mo+1)+1)-(7*b+7)) (by omega)
  rw [show 7*b+7+(7*(8*(l+1)+8*(mo+1)+1)-(7*b+7))=7*(8*(l+1)+8*(mo+1)+1) by omega] at e
  have k2:=R.len_mono e (h1 _ (ZAc _))
  exact ZAw k (Nat.add_le_add_right (Nat.add_le_add_right (ZAw k2 h2) _) _)
 ·exact ZAw h (ZAw (Nat.le_add_right _ _) (Nat.le_add_right _ _))
end
end MH
namespace MU
variable {n:Nat} {F:za4} {most:Int} {s0:St}
theorem zja (hF:FOk n F most) {s:St} (g:zdw n s) {at_ a b:Nat} {p:zar} (hp:wat s at_=some p) (pa:p.a=a) (pb:p.b=b) (hbar:(zb4 n F at_ a b s).bar=none):
 Add (fun w=>(w.tie=true->(w.a=a∧w.b≠b∧∃q,val s (true,b,w.b)=some q∧w.v=p.v+q)∨(w.b=b∧w.a≠a))∧(w.tie=false->w.v≤most-p.v∧∃f,F w.b=some f)) s (zb4 n F at_ a b s):=by
 unfold zb4 at hbar ⊢
 dsimp only at hbar ⊢
 generalize hC:(fun w:zar=>(w.tie=true->(w.a=a∧w.b≠b∧∃q,val s (true,b,w.b)=some q∧w.v=p.v+q)∨(w.b=b∧w.a≠a))∧(w.tie=false->w.v≤most-p.v∧∃f,F w.b=some f))=C
 have g1:zdw n (zbc (zbm F) .late at_ s):=zej g zhg
 have i1:Imp s (zbc (zbm F) .late at_ s):=zd6 _ _ _ _
 have T1:Add (fun w=>w.tie=true->w.b=b) s (zbc (zbm F) .late at_ s):=zh7 hp fun w e ht=>by
  unfold zbm at e
  split at e
  ·cases q:F p.b with
   | none=>rw [q] at e;cases e
   | some f=>rw [q] at e;cases e;cases ht
  ·cases e
 have A1:Add C s (zbc (zbm F) .late at_ s):=zh7 hp fun w e=>by
  subst hC
  unfold zbm at e
  split at e
  ·cases q:F p.b with
   | none=>rw [q] at e;cases e
   | some f=>
    rw [q] at e
    cases e
    have:=hF.num _ _ q
    exact ⟨(fun z=>nomatch z),fun _=>⟨by show f.2.2-p.v≤_;omega,f,q⟩⟩
  ·cases e
 generalize zbc (zbm F) .late at_ s=s1 at*
 have hp1:=za3 i1.1 hp
 have g2:zdw n (zbc (zbr F) .soon at_ s1):=zej g1 (zha hF)
 have i2:Imp s1 (zbc (zbr F) .soon at_ s1):=zd6 _ _ _ _
 have T2:Add (fun w=>w.tie=true->w.b=b) s1 (zbc (zbr F) .soon at_ s1):=zh7 hp1 fun w e _=>by
  unfold zbr at e
  split at e
  ·cases q:F p.a with
   | none=>rw [q] at e;cases e
   | some f=>rw [q] at e;cases e;exact pb
  ·cases e
 have A2:Add C s1 (zbc (zbr F) .soon at_ s1):=zh7 hp1 fun w e=>by
  subst hC
  unfold zbr at e
  split at e
  ·cases q:F p.a with
   | none=>rw [q] at e;cases e
   | some f=>
    rw [q] at e
    cases e
    refine ⟨fun _=>.inr ⟨pb,fun z=>?_⟩,(fun z=>nomatch z)⟩
    have z:f.1=a:=z
    have:=hF.own _ _ q
    rw [z,←pa,q] at this
    cases this
  ·cases e
 generalize zbc (zbr F) .soon at_ s1=s2 at*
 have hp2:=za3 i2.1 hp1
 have T12:=T1.trans i2.1 T2
 have keep2:∀z,z≠b->val s2 (true,b,z)=val s (true,b,z):=fun z hz=>ZAf fun hc=>by
  obtain ⟨j,w,hj,hw,hk,_⟩:=zlw g g2 (i1.1.trans i2.1) hc
  obtain ⟨kt,_,kb⟩:=zc8 hk
  have:=T12 j w hj hw kt
  exact hz (kb.symm.trans this)
 have i3:Imp s2 ((zbe n s2 true b).foldl (fun st j=>zaw za7 .sum at_ j st) s2):=zbl (fun _ _=>zco ..) _ _
 have g3:zdw n ((zbe n s2 true b).foldl (fun st j=>zaw za7 .sum at_ j st) s2):=zd0 (fun _ _ g=>zh6 g zlq) _ _ g2
 have i4:=zbl (f:=fun st j=>zaw za7 .sum j at_ st) (fun _ _=>zco ..) (zb5 n ((zbe n s2 true b).foldl (fun st j=>zaw za7 .sum at_ j st) s2) a) ((zbe n s2 true b).foldl (fun st j=>zaw za7 .sum at_ j st) s2)
 have i5:=zbl (f:=fun st j=>zaw (zay F) .back j at_ st) (fun _ _=>zco ..) (zbe n ((zb5 n ((zbe n s2 true b).foldl (fun st j=>zaw za7 .sum at_ j st) s2) a).foldl (fun st j=>zaw za7 .sum j at_ st) ((zbe n s2 true b).foldl (fun st j=>zaw za7 .sum at_ j st) s2)) false b) ((zb5 n ((zbe n s2 true b).foldl (fun st j=>zaw za7 .sum at_ j st) s2) a).foldl (fun st j=>zaw za7 .sum j at_ st) ((zbe n s2 true b).foldl (fun st j=>zaw za7 .sum at_ j st) s2))
 have b4:=ZAf fun z=>i5.1.bar z hbar
 have b3:=ZAf fun z=>i4.1.bar z b4
 have b2:=ZAf fun z=>i3.1.bar z b3
 have A3:Add C s2 ((zbe n s2 true b).foldl (fun st j=>zaw za7 .sum at_ j st) s2):=zd5 (f:=fun st j=>zaw za7 .sum at_ j st) (fun _ _=>zco ..) _ s2 s2 (Imp.refl _) fun j hj sx hx=>by
  subst hC
  obtain ⟨c,_,hbest⟩:=zh2 hj
  obtain ⟨q,hq,hk⟩:=g2.at_ _ _ hbest
  obtain ⟨_,qa,qb⟩:=zc8 hk
  have qne:=g2.ne b2 j q hq
  refine zqc (za3 hx.1 hp2) (za3 hx.1 hq) fun w e=>?_
  unfold za7 at e
  split at e
  ·cases e
   have hcb:c≠b:=fun z=>qne (by rw [qa,qb,z])
   refine ⟨fun _=>.inl ⟨pa,fun z=>qne (by rw [qa];exact z.symm),q.v,?_,rfl⟩,(fun z=>nomatch z)⟩
   show val s (true,b,q.b)=_
   rw [qb,←keep2 c hcb]
   exact zc2 hbest hq
  ·cases e
 generalize (zbe n s2 true b).foldl (fun st j=>zaw za7 .sum at_ j st) s2=s3 at*
 have hp3:=za3 i3.1 hp2
 have A4:Add C s3 ((zb5 n s3 a).foldl (fun st j=>zaw za7 .sum j at_ st) s3):=zd5 (f:=fun st j=>zaw za7 .sum j at_ st) (fun _ _=>zco ..) _ s3 s3 (Imp.refl _) fun j hj sx hx=>by
  subst hC
  obtain ⟨c,_,hbest⟩:=zfh hj
  obtain ⟨q,hq,hk⟩:=g3.at_ _ _ hbest
  obtain ⟨_,qa,qb⟩:=zc8 hk
  have qne:=g3.ne b3 j q hq
  refine zqc (za3 hx.1 hq) (za3 hx.1 hp3) fun w e=>?_
  unfold za7 at e
  split at e
  ·cases e
   exact ⟨fun _=>.inr ⟨pb,fun z=>qne (by rw [qb];exact z)⟩,(fun z=>nomatch z)⟩
  ·cases e
 generalize (zb5 n s3 a).foldl (fun st j=>zaw za7 .sum j at_ st) s3=s4 at*
 have hp4:=za3 i4.1 hp3
 have A5:Add C s4 ((zbe n s4 false b).foldl (fun st j=>zaw (zay F) .back j at_ st) s4):=zd5 (f:=fun st j=>zaw (zay F) .back j at_ st) (fun _ _=>zco ..) _ s4 s4 (Imp.refl _) fun j hj sx hx=>zex fun w e=>by
  subst hC
  cases e1:wat sx j with
  | none=>rw [e1] at e;cases e
  | some q=>
   rw [e1] at e
   have e:(wat sx at_).bind (fun p=>zay F q p)=some w:=e
   rw [za3 hx.1 hp4] at e
   have e:zay F q p=some w:=e
   unfold zay at e
   split at e
   ·cases z:F q.b with
    | none=>rw [z] at e;cases e
    | some f=>
     rw [z] at e
     cases e
     have:=hF.num _ _ z
     exact ⟨(fun z=>nomatch z),fun _=>⟨by show min q.v f.2.2-p.v≤_;omega,f,z⟩⟩
   ·cases e
 exact (((A1.trans i2.1 A2).trans i3.1 A3).trans i4.1 A4).trans i5.1 A5
theorem zn8 {s:St} {at_ a:Nat}:Add (fun w=>w.tie=false->∃f,F w.b=some f) s (zbg n F at_ a s):=by
 unfold zbg
 dsimp only
 have A1:Add (fun w:zar=>w.tie=false->∃f,F w.b=some f) s (zbc (zbh F) .sure at_ s):=zex fun w e ht=>by
  cases q:wat s at_ with
  | none=>rw [q] at e;cases e
  | some p=>
   rw [q] at e
   have e:zbh F p=some w:=e
   unfold zbh at e
   split at e
   ·cases z:F p.b with
    | none=>rw [z] at e;cases e
    | some f=>rw [z] at e;cases e;cases ht
   ·cases e
 have i1:Imp s (zbc (zbh F) .sure at_ s):=zd6 _ _ _ _
 generalize zbc (zbh F) .sure at_ s=s1 at*
 have A2:Add (fun w:zar=>w.tie=false->∃f,F w.b=some f) s1 (zbc (za2 F) .cross at_ s1):=zex fun w e ht=>by
  cases q:wat s1 at_ with
  | none=>rw [q] at e;cases e
  | some p=>
   rw [q] at e
   have e:za2 F p=some w:=e
   unfold za2 at e
   split at e
   ·cases z:F p.a with
    | none=>rw [z] at e;cases e
    | some o=>
     rw [z] at e
     have e:(F p.b).map (fun f=>(⟨false,o.1,p.b,min p.v f.2.2-o.2.1⟩:zar))=some w:=e
     cases z2:F p.b with
     | none=>rw [z2] at e;cases e
     | some f=>rw [z2] at e;cases e;exact ⟨f,z2⟩
   ·cases e
 have i2:Imp s1 (zbc (za2 F) .cross at_ s1):=zd6 _ _ _ _
 generalize zbc (za2 F) .cross at_ s1=s2 at*
 have A3:Add (fun w:zar=>w.tie=false->∃f,F w.b=some f) s2 ((zb5 n s2 a).foldl (fun st j=>zaw (zay F) .back at_ j st) s2):=zd5 (f:=fun st j=>zaw (zay F) .back at_ j st) (fun _ _=>zco ..) _ s2 s2 (Imp.refl _) fun j _ sx _=>zex fun w e ht=>by
  cases q1:wat sx at_ with
  | none=>rw [q1] at e;cases e
  | some p=>
   rw [q1] at e
   have e:(wat sx j).bind (fun q=>zay F p q)=some w:=e
   cases q2:wat sx j with
   | none=>rw [q2] at e;cases e
   | some q=>
    rw [q2] at e
    have e:zay F p q=some w:=e
    unfold zay at e
    split at e
    ·cases z:F p.b with
     | none=>rw [z] at e;cases e
     | some f=>rw [z] at e;cases e;exact ⟨f,z⟩
    ·cases e
 have i3:Imp s2 ((zb5 n s2 a).foldl (fun st j=>zaw (zay F) .back at_ j st) s2):=zbl (fun _ _=>zco ..) _ _
 exact (A1.trans i2.1 A2).trans i3.1 A3
theorem zb8 (st:St) (o:Option zar) (word:Wd) (used:List Nat):(put st o word used).rows.length≤st.rows.length+1:=by
 cases o with
 | none=>exact Nat.le_succ _
 | some w=>
  show (take st w word used).rows.length≤_
  by_cases c:zg6 st w
  ·rw [(zg9 c).2.2];exact ZAc _
  ·rw [zfk c];exact Nat.le_succ _
theorem zcl {f:St->Nat->St} (hf:∀s j,(f s j).rows.length≤s.rows.length+1):∀(l:List Nat) (s:St),(l.foldl f s).rows.length≤s.rows.length+l.length
 | [],s=>ZAc _
 | j::l,s=>by
  have h1:=zcl hf l (f s j)
  have h2:=hf s j
  rw [ZA5]
  show (l.foldl f (f s j)).rows.length≤_
  omega
theorem zgh {tie:Bool} {st:St} {a:Nat}:(zbe n st tie a).length≤n:=by
 have:=List.length_filterMap_le (fun b=>st.best (tie,a,b)) (List.range n)
 rw [List.length_range] at this
 exact this
theorem zfi {st:St} {b:Nat}:(zb5 n st b).length≤n:=by
 have:=List.length_filterMap_le (fun a=>st.best (true,a,b)) (List.range n)
 rw [List.length_range] at this
 exact this
theorem ztk {at_ a b:Nat} {s:St}:(zb4 n F at_ a b s).rows.length≤s.rows.length+(2+3*n):=by
 unfold zb4
 dsimp only
 have h1:(zbc (zbm F) .late at_ s).rows.length≤s.rows.length+1:=zb8 _ _ _ _
 generalize zbc (zbm F) .late at_ s=s1 at*
 have h2:(zbc (zbr F) .soon at_ s1).rows.length≤s1.rows.length+1:=zb8 _ _ _ _
 generalize zbc (zbr F) .soon at_ s1=s2 at*
 have h3:=zcl (f:=fun st j=>zaw za7 .sum at_ j st) (fun _ _=>zb8 _ _ _ _) (zbe n s2 true b) s2
 have k3:=zgh (n:=n) (tie:=true) (st:=s2) (a:=b)
 generalize (zbe n s2 true b).foldl (fun st j=>zaw za7 .sum at_ j st) s2=s3 at*
 have h4:=zcl (f:=fun st j=>zaw za7 .sum j at_ st) (fun _ _=>zb8 _ _ _ _) (zb5 n s3 a) s3
 have k4:=zfi (n:=n) (st:=s3) (b:=a)
 generalize (zb5 n s3 a).foldl (fun st j=>zaw za7 .sum j at_ st) s3=s4 at*
 have h5:=zcl (f:=fun st j=>zaw (zay F) .back j at_ st) (fun _ _=>zb8 _ _ _ _) (zbe n s4 false b) s4
 have k5:=zgh (n:=n) (tie:=false) (st:=s4) (a:=b)
 omega
theorem zmj {at_ a:Nat} {s:St}:(zbg n F at_ a s).rows.length≤s.rows.length+(2+n):=by
 unfold zbg
 dsimp only
 have h1:(zbc (zbh F) .sure at_ s).rows.length≤s.rows.length+1:=zb8 _ _ _ _
 generalize zbc (zbh F) .sure at_ s=s1 at*
 have h2:(zbc (za2 F) .cross at_ s1).rows.length≤s1.rows.length+1:=zb8 _ _ _ _
 generalize zbc (za2 F) .cross at_ s1=s2 at*
 have h3:=zcl (f:=fun st j=>zaw (zay F) .back at_ j st) (fun _ _=>zb8 _ _ _ _) (zb5 n s2 a) s2
 have k3:=zfi (n:=n) (st:=s2) (b:=a)
 omega
theorem zm2 {at_:Nat} {s:St} (h8:n≤8):(look n F at_ s).rows.length≤s.rows.length+26:=by
 unfold look
 split
 ·split
  ·split
   ·exact ZAw ztk (by omega)
   ·exact ZAw zmj (by omega)
  ·omega
 ·omega
noncomputable def pw (n:Nat) (F:za4) (s0:St) (t a b:Nat):Prop:=∃w,wat (run n F s0 t) t=some w∧w.tie=false∧w.a=a∧w.b=b∧(run n F s0 t).best (false,a,b)=some t
theorem step (n:Nat) (F:za4) (s0:St) {t:Nat} (hl:t<(run n F s0 t).rows.length):
 (∃p,wat (run n F s0 t) t=some p∧p.tie=true∧pt n F s0 t p.a p.b∧run n F s0 (t+1)=zb4 n F t p.a p.b (run n F s0 t))∨
 (∃p,wat (run n F s0 t) t=some p∧p.tie=false∧pw n F s0 t p.a p.b∧run n F s0 (t+1)=zbg n F t p.a (run n F s0 t))∨
 ((∀a b,¬pt n F s0 t a b)∧(∀a b,¬pw n F s0 t a b)∧run n F s0 (t+1)=run n F s0 t):=by
 obtain ⟨p,hp⟩:∃p,wat (run n F s0 t) t=some p:=⟨_,by unfold wat;rw [ZAd hl];rfl⟩
 have hl:run n F s0 (t+1)=look n F t (run n F s0 t):=rfl
 by_cases hb:(run n F s0 t).best p.key=some t
 ·cases pt':p.tie with
  | true=>
   have hb2:(run n F s0 t).best (true,p.a,p.b)=some t:=by rw [←hb];unfold zar.key;rw [pt']
   exact .inl ⟨p,hp,pt',⟨p,hp,pt',rfl,rfl,hb2⟩,hl.trans (zjs hp pt' rfl rfl hb2)⟩
  | false=>
   have hb2:(run n F s0 t).best (false,p.a,p.b)=some t:=by rw [←hb];unfold zar.key;rw [pt']
   exact .inr (.inl ⟨p,hp,pt',⟨p,hp,pt',rfl,rfl,hb2⟩,hl.trans (zk0 hp pt' hb)⟩)
 ·refine .inr (.inr ⟨fun a b h=>?_,fun a b h=>?_,hl.trans (zk1 hp hb)⟩)
  ·obtain ⟨w,h1,h2,h3,h4,h5⟩:=h
   rw [hp] at h1
   cases h1
   exact hb (by unfold zar.key;rw [h2,h3,h4];exact h5)
  ·obtain ⟨w,h1,h2,h3,h4,h5⟩:=h
   rw [hp] at h1
   cases h1
   exact hb (by unfold zar.key;rw [h2,h3,h4];exact h5)
end MU
namespace MU
variable {n:Nat} {F:za4} {most:Int} {s0:St}
theorem zg8 {s s':St} (e:Ext s s') {i:Nat} {w:zar} (hi:i<s.rows.length) (h:wat s' i=some w):wat s i=some w:=by
 obtain ⟨p,hp⟩:∃p,wat s i=some p:=⟨_,by unfold wat;rw [ZAd hi];rfl⟩
 rw [za3 e hp] at h
 cases h
 exact hp
theorem zmu (hF:FOk n F most) (g0:zdw n s0) (w0:∀a b,val s0 (false,a,b)=none) {T:Nat} (hl:∀t,t<T->t<(run n F s0 t).rows.length) (hb:∀t,t≤T->(run n F s0 t).bar=none):∀t,t≤T->∀i w,wat (run n F s0 t) i=some w->w.tie=false->∃f,F w.b=some f
 | 0,_,i,w,h,ht=>by
  obtain ⟨j,_,hj⟩:=g0.top i w h
  obtain ⟨u,hu,_⟩:=g0.at_ _ _ hj
  have:=zc2 hj hu
  have hk:w.key=(false,w.a,w.b):=by unfold zar.key;rw [ht]
  rw [hk,w0] at this
  cases this
 | t+1,hT,i,w,h,ht=>by
  have ih:=zmu hF g0 w0 hl hb t (by omega)
  have gd:=zhb hF g0 t
  by_cases hi:i<(run n F s0 t).rows.length
  ·exact ih i w (zg8 (zeb n F t (run n F s0 t)).1 hi h) ht
  ·rcases step n F s0 (hl t (by omega)) with ⟨p,hp,_,_,e⟩ | ⟨p,hp,_,_,e⟩ | ⟨_,_,e⟩
   ·have hbar:=hb (t+1) hT
    rw [e] at hbar h
    exact ((zja hF gd hp rfl rfl hbar i w (by omega) h).2 ht).2
   ·rw [e] at h
    exact zn8 i w (by omega) h ht
   ·rw [e] at h
    exact absurd (zem h) (by omega)
theorem zqx {s:St} {at_:Nat} {p:zar} (hp:wat s at_=some p):Add (fun w=>w.tie=true->w.a=p.a) s (zbg n F at_ p.a s):=by
 unfold zbg
 dsimp only
 have A1:Add (fun w:zar=>w.tie=true->w.a=p.a) s (zbc (zbh F) .sure at_ s):=zh7 hp fun w e ht=>by
  unfold zbh at e
  split at e
  ·cases z:F p.b with
   | none=>rw [z] at e;cases e
   | some f=>rw [z] at e;cases e;rfl
  ·cases e
 have i1:Imp s (zbc (zbh F) .sure at_ s):=zd6 _ _ _ _
 generalize zbc (zbh F) .sure at_ s=s1 at*
 have A2:Add (fun w:zar=>w.tie=true->w.a=p.a) s1 (zbc (za2 F) .cross at_ s1):=zex fun w e ht=>by
  cases q:wat s1 at_ with
  | none=>rw [q] at e;cases e
  | some p=>
   rw [q] at e
   have e:za2 F p=some w:=e
   unfold za2 at e
   split at e
   ·cases z:F p.a with
    | none=>rw [z] at e;cases e
    | some o=>
     rw [z] at e
     have e:(F p.b).map (fun f=>(⟨false,o.1,p.b,min p.v f.2.2-o.2.1⟩:zar))=some w:=e
     cases z2:F p.b with
     | none=>rw [z2] at e;cases e
     | some f=>rw [z2] at e;cases e;cases ht
   ·cases e
 have i2:Imp s1 (zbc (za2 F) .cross at_ s1):=zd6 _ _ _ _
 generalize zbc (za2 F) .cross at_ s1=s2 at*
 have A3:Add (fun w:zar=>w.tie=true->w.a=p.a) s2 ((zb5 n s2 p.a).foldl (fun st j=>zaw (zay F) .back at_ j st) s2):=zd5 (f:=fun st j=>zaw (zay F) .back at_ j st) (fun _ _=>zco ..) _ s2 s2 (Imp.refl _) fun j _ sx _=>zex fun w e ht=>by
  cases q1:wat sx at_ with
  | none=>rw [q1] at e;cases e
  | some p=>
   rw [q1] at e
   have e:(wat sx j).bind (fun q=>zay F p q)=some w:=e
   cases q2:wat sx j with
   | none=>rw [q2] at e;cases e
   | some q=>
    rw [q2] at e
    have e:zay F p q=some w:=e
    unfold zay at e
    split at e
    ·cases z:F p.b with
     | none=>rw [z] at e;cases e
     | some f=>rw [z] at e;cases e;cases ht
    ·cases e
 have i3:Imp s2 ((zb5 n s2 p.a).foldl (fun st j=>zaw (zay F) .back at_ j st) s2):=zbl (fun _ _=>zco ..) _ _
 exact (A1.trans i2.1 A2).trans i3.1 A3
theorem zvr {l mo:Nat} (h8:n≤8) (hF:FOk n F (mo:Int)) (g0:zdw n s0) (told:∀i,0<i->i<n->(∃v,v≤(l:Int)∧val s0 (true,0,i)=some v)∧∃v,v≤0∧val s0 (true,i,0)=some v) (w0:∀a b,val s0 (false,a,b)=none)
 {T:Nat} (hl:∀t,t<T->t<(run n F s0 t).rows.length) (hb:∀t,t≤T->(run n F s0 t).bar=none):
 MH.Bd n (l:Int) (mo:Int) T (fun t=>(run n F s0 t).rows.length) (fun t a b=>val (run n F s0 t) (true,a,b)) (fun t a b=>val (run n F s0 t) (false,a,b)) (pt n F s0) (pw n F s0):=by
 have gd:=zhb hF g0
 have goes:∀t a b,pt n F s0 t a b->∃w,wat (run n F s0 t) t=some w∧w.tie=true∧w.a=a∧w.b=b∧val (run n F s0 t) (true,a,b)=some w.v∧run n F s0 (t+1)=zb4 n F t a b (run n F s0 t):=fun t a b ⟨w,h1,h2,h3,h4,h5⟩=>⟨w,h1,h2,h3,h4,zc2 h5 h1,zjs h1 h2 h3 h4 h5⟩
 have goew:∀t a b,pw n F s0 t a b->∃w,wat (run n F s0 t) t=some w∧w.tie=false∧w.a=a∧w.b=b∧val (run n F s0 t) (false,a,b)=some w.v∧(run n F s0 t).best (false,a,b)=some t:=fun t a b ⟨w,h1,h2,h3,h4,h5⟩=>⟨w,h1,h2,h3,h4,zc2 h5 h1,h5⟩
 have ends:=zmu hF g0 w0 hl hb
 have wm:∀t a b v,t<T->val (run n F s0 t) (false,a,b)=some v->∃v',v≤v'∧val (run n F s0 (t+1)) (false,a,b)=some v':=fun t a b v ht h=>by
  have hne:=(zf7 (gd t) (hb t (by omega)) h).1
  obtain ⟨u',h1,h2⟩:=(zeb n F t (run n F s0 t)).2 (false,a,b) v hne h
  refine ⟨u',?_,h1⟩
  unfold zbs at h2
  simp at h2
  exact h2
 have wms:∀t a b v,val (run n F s0 t) (false,a,b)=some v->∀d,t+d≤T->∃v',v≤v'∧val (run n F s0 (t+d)) (false,a,b)=some v':=fun t a b v h d=>by
  induction d with
  | zero=>exact fun _=>⟨v,Int.le_refl _,h⟩
  | succ d ih=>
   intro hd
   obtain ⟨v1,h1,e1⟩:=ih (by omega)
   obtain ⟨v2,h2,e2⟩:=wm (t+d) a b v1 (by omega) e1
   exact ⟨v2,by omega,e2⟩
 have once:∀(k:Key) (t t':Nat) (x x':zar),t<t'->wat (run n F s0 t) t=some x->wat (run n F s0 t') t'=some x'->x'.key=k->(run n F s0 t).best k=some t->(run n F s0 t).rows.length≤t':=fun k t t' x x' htt hx hx' hk hbest=>by
  refine ZAf fun c=>?_
  have h1:=zg8 (zfl (n:=n) (F:=F) (s:=s0) (ZAr htt)).1 (by omega) hx'
  obtain ⟨j,hj,hbj⟩:=(gd t).top t' x' h1
  rw [hk,hbest] at hbj
  cases hbj
  omega
 exact
 { n8:=h8
   L0:=Int.natCast_nonneg _
   most0:=Int.natCast_nonneg _
   go:=hl
   lenm:=fun t _=>(zeb n F t (run n F s0 t)).1.len
   lt:=fun t a b v ht h=>by
    obtain ⟨x1,x2,x3⟩:=zf7 (gd t) (hb t ht) h
    exact ⟨x2,x3,x1⟩
   known:=fun t a b _ h=>by
    obtain ⟨w,_,_,_,_,h5,_⟩:=goes t a b h
    exact ⟨w.v,h5⟩
   wknown:=fun t a b ht h=>by
    obtain ⟨w,_,_,_,_,h5,_⟩:=goew t a b h
    obtain ⟨x1,x2,x3⟩:=zf7 (gd t) (hb t (by omega)) h5
    exact ⟨x2,x3,x1,w.v,h5⟩
   mono:=fun t a b v ht h=>by
    have hne:=(zf7 (gd t) (hb t (by omega)) h).1
    obtain ⟨u',h1,h2⟩:=(zeb n F t (run n F s0 t)).2 (true,a,b) v hne h
    refine ⟨u',?_,h1⟩
    unfold zbs at h2
    simp at h2
    exact h2
   wmono:=wm
   told:=told
   wnone:=w0
   sum:=fun t a b c v u ht h hv hu hac=>by
    obtain ⟨w,h1,h2,h3,h4,h5,h6⟩:=goes t a b h
    have hv:val (run n F s0 t) (true,a,b)=some v:=hv
    rw [hv] at h5
    cases h5
    have hbc:=zf7 (gd t) (hb t (by omega)) hu
    obtain ⟨x,hx,ex⟩:=(zoi hF (gd t) h1 h2 h3 h4 hu hbc.1 hbc.2.2).1 hac
    refine ⟨x,hx,?_⟩
    show val (run n F s0 (t+1)) _=_
    rw [h6]
    exact ex
   bar:=fun t a b v u ht h hv hu=>by
    obtain ⟨w,h1,h2,h3,h4,h5,h6⟩:=goes t a b h
    have hv:val (run n F s0 t) (true,a,b)=some v:=hv
    rw [hv] at h5
    cases h5
    have hbc:=zf7 (gd t) (hb t (by omega)) hu
    refine ZAf fun hc=>?_
    have:=(zoi hF (gd t) h1 h2 h3 h4 hu hbc.1 hbc.2.2).2 rfl (by omega)
    rw [←h6] at this
    exact this (hb (t+1) ht)
   one:=fun t a b a' b' _ h h'=>by
    obtain ⟨w,h1,_,h3,h4,_⟩:=goes t a b h
    obtain ⟨w',h1',_,h3',h4',_⟩:=goes t a' b' h'
    rw [h1] at h1'
    cases h1'
    exact ⟨h3.symm.trans h3',h4.symm.trans h4'⟩
   onew:=fun t a b a' b' _ h h'=>by
    obtain ⟨w,h1,_,h3,h4,_⟩:=goew t a b h
    obtain ⟨w',h1',_,h3',h4',_⟩:=goew t a' b' h'
    rw [h1] at h1'
    cases h1'
    exact ⟨h3.symm.trans h3',h4.symm.trans h4'⟩
   apart:=fun t a b a' b' _ h h'=>by
    obtain ⟨w,h1,h2,_⟩:=goes t a b h
    obtain ⟨w',h1',h2',_⟩:=goew t a' b' h'
    rw [h1] at h1'
    cases h1'
    rw [h2] at h2'
    cases h2'
   cause:=fun t a b ht h=>by
    have h:val (run n F s0 (t+1)) (true,a,b)≠val (run n F s0 t) (true,a,b):=h
    obtain ⟨j,w,hj,hw,hk,hv⟩:=zlw (gd t) (gd (t+1)) (zeb n F t (run n F s0 t)).1 (k:=(true,a,b)) h
    obtain ⟨kt,ka,kb⟩:=zc8 hk
    have hv:val (run n F s0 (t+1)) (true,a,b)=some w.v:=hv
    have hbar:=hb (t+1) ht
    rcases step n F s0 (hl t ht) with ⟨p,hp,ptie,hpt,e⟩ | ⟨p,hp,ptie,hpw,e⟩ | ⟨_,_,e⟩
    ·have hw:wat (run n F s0 (t+1)) j=some w:=hw
     rw [e] at hw hbar
     rcases (zja hF (gd t) hp rfl rfl hbar j w hj hw).1 kt with ⟨h1,h2,q,hq,hwv⟩ | ⟨h1,h2⟩
     ·rw [ka] at h1
      rw [kb] at h2 hq
      subst h1
      obtain ⟨w',k1,_,_,_,k5,_⟩:=goes t _ _ hpt
      rw [hp] at k1
      cases k1
      exact .inl ⟨p.b,p.v,q,w.v,hpt,Ne.symm h2,k5,hq,hv,by omega⟩
     ·rw [kb] at h1
      rw [ka] at h2
      subst h1
      exact .inr (.inl ⟨p.a,hpt,Ne.symm h2⟩)
    ·
     have hw:wat (run n F s0 (t+1)) j=some w:=hw
     have g':zdw n (zbg n F t p.a (run n F s0 t)):=by rw [←e];exact gd (t+1)
     have hbar':=hbar
     rw [e] at hw hbar'
     obtain ⟨B,hB0,hB⟩:∃B:Int,0≤B∧∀x v,val (zbg n F t p.a (run n F s0 t)) (true,x,p.a)=some v->-B≤v:=by
      have:∀k,∃B:Int,0≤B∧∀x v,x<k->val (zbg n F t p.a (run n F s0 t)) (true,x,p.a)=some v->-B≤v:=by
       intro k
       induction k with
       | zero=>exact ⟨0,Int.le_refl _,fun x v hx=>absurd hx (ZBm _)⟩
       | succ k ih=>
        obtain ⟨B,h0,h1⟩:=ih
        cases q:val (zbg n F t p.a (run n F s0 t)) (true,k,p.a) with
        | none=>
         refine ⟨B,h0,fun x v hx hv=>?_⟩
         by_cases e:x=k
         ·rw [e,q] at hv;cases hv
         ·exact h1 x v (by omega) hv
        | some u=>
         refine ⟨max B (-u),by omega,fun x v hx hv=>?_⟩
         by_cases e:x=k
         ·rw [e,q] at hv;cases hv;omega
         ·have:=h1 x v (by omega) hv
          omega
      obtain ⟨B,h0,h1⟩:=this n
      exact ⟨B,h0,fun x v hv=>h1 x v (zf7 g' hbar' hv).2.1 hv⟩
     have hlo:=(zmk hF (gd t) hp ptie rfl hB hB0 hbar' j w hj hw).1 kt
     have own:w.a=p.a:=by
      have:=zqx (F:=F) (n:=n) hp j w hj hw kt
      exact this
     rw [ka] at own
     subst own
     exact .inr (.inr ⟨p.b,w.v,hpw,hv,hlo⟩)
    ·have hw:wat (run n F s0 (t+1)) j=some w:=hw
     rw [e] at hw
     exact absurd (zem hw) (by omega)
   late:=fun t a b e v v' ht h hv hte heT hpw hv'=>by
    obtain ⟨w,h1,h2,h3,h4,h5,h6⟩:=goes t a b h
    have hv:val (run n F s0 t) (true,a,b)=some v:=hv
    rw [hv] at h5
    cases h5
    obtain ⟨x,k1,k2,k3,k4,_⟩:=goew e a b hpw
    obtain ⟨f,hf⟩:=ends e (by omega) e x k1 k2
    rw [k4] at hf
    have hne:=(zf7 (gd t) (hb t (by omega)) hv).1
    have hnum:=hF.num _ _ hf
    have hd:zbc (zbm F) .late t (run n F s0 t)=take (run n F s0 t) ⟨false,a,b,f.2.2-w.v⟩ .late [t]:=by
     unfold zbc
     rw [h1]
     show put _ (zbm F w) _ _=_
     unfold zbm
     rw [if_pos ⟨h2,by rw [h3,h4];exact hne⟩,h4,hf,h3]
     rfl
    obtain ⟨u,hu,nu⟩:=zgu (st:=run n F s0 t) (word:=.late) (used:=[t]) (w:=⟨false,a,b,f.2.2-w.v⟩) hne
    have iz:Imp (zbc (zbm F) .late t (run n F s0 t)) (zb4 n F t a b (run n F s0 t)):=by
     unfold zb4
     dsimp only
     exact (((zd6 _ _ _ _).trans (zbl (fun _ _=>zco ..) _ _)).trans (zbl (fun _ _=>zco ..) _ _)).trans (zbl (fun _ _=>zco ..) _ _)
    rw [hd] at iz
    obtain ⟨u2,hu2,nu2⟩:=iz.2 (false,a,b) u hne hu
    rw [←h6] at hu2
    have hte':t+1≤e∨t=e:=by omega
    rcases hte' with hte' | hte'
    ·obtain ⟨u3,l3,e3⟩:=wms (t+1) a b u2 hu2 (e-(t+1)) (by omega)
     rw [show t+1+(e-(t+1))=e by omega] at e3
     have hv':val (run n F s0 e) (false,a,b)=some v':=hv'
     rw [hv'] at e3
     cases e3
     unfold zbs at nu nu2
     simp at nu nu2
     omega
    ·subst hte'
     rw [h1] at k1
     cases k1
     rw [h2] at k2
     cases k2
   wcause:=fun t a b B ht hB0 hB h=>by
    have h:val (run n F s0 (t+1)) (false,a,b)≠val (run n F s0 t) (false,a,b):=h
    obtain ⟨j,w,hj,hw,hk,hv⟩:=zlw (gd t) (gd (t+1)) (zeb n F t (run n F s0 t)).1 (k:=(false,a,b)) h
    obtain ⟨kt,ka,kb⟩:=zc8 hk
    have hv:val (run n F s0 (t+1)) (false,a,b)=some w.v:=hv
    have hw:wat (run n F s0 (t+1)) j=some w:=hw
    have hbar:=hb (t+1) ht
    refine ⟨w.v,hv,?_⟩
    rcases step n F s0 (hl t ht) with ⟨p,hp,ptie,hpt,e⟩ | ⟨p,hp,ptie,hpw,e⟩ | ⟨_,_,e⟩
    ·have hpv: -B≤p.v:=by
      obtain ⟨w',k1,_,_,_,k5,_⟩:=goes t _ _ hpt
      rw [hp] at k1
      cases k1
      have hne:=(zf7 (gd t) (hb t (by omega)) k5).1
      obtain ⟨u',q1,q2⟩:=(zeb n F t (run n F s0 t)).2 (true,p.a,p.b) p.v hne k5
      have:=hB p.a p.b u' q1
      unfold zbs at q2
      simp at q2
      omega
     rw [e] at hw hbar
     have:=((zja hF (gd t) hp rfl rfl hbar j w hj hw).2 kt).1
     omega
    ·have hB':∀x v,val (zbg n F t p.a (run n F s0 t)) (true,x,p.a)=some v->-B≤v:=fun x v hx=>by
      rw [←e] at hx
      exact hB x p.a v hx
     rw [e] at hw hbar
     exact (zmk hF (gd t) hp ptie rfl hB' hB0 hbar j w hj hw).2 kt
    ·rw [e] at hw
     exact absurd (zem hw) (by omega)
   grow:=fun t _=>zm2 h8
   growW:=fun t ht hno=>by
    rcases step n F s0 (hl t ht) with ⟨p,hp,_,hpt,_⟩ | ⟨p,hp,_,_,e⟩ | ⟨_,_,e⟩
    ·exact absurd hpt (hno _ _)
    ·show (run n F s0 (t+1)).rows.length≤_
     rw [e]
     exact ZAw zmj (by show (run n F s0 t).rows.length+(2+n)≤(run n F s0 t).rows.length+10;omega)
    ·show (run n F s0 (t+1)).rows.length≤_
     rw [e]
     exact Nat.le_add_right _ _
   grow0:=fun t ht hno hnw=>by
    rcases step n F s0 (hl t ht) with ⟨p,hp,_,hpt,_⟩ | ⟨p,hp,_,hpw,_⟩ | ⟨_,_,e⟩
    ·exact absurd hpt (hno _ _)
    ·exact absurd hpw (hnw _ _)
    ·show (run n F s0 (t+1)).rows.length=_
     rw [e]
   stay:=fun t0 t a b v ht h0 h1 hv hv'=>by
    have hv:val (run n F s0 t0) (true,a,b)=some v:=hv
    have hv':val (run n F s0 t) (true,a,b)=some v:=hv'
    obtain ⟨j,w,hj,hw,hk,hwv⟩:=zhl (gd t0) hv
    obtain ⟨j',w',hj',hw',hk',hwv'⟩:=zhl (gd t) hv'
    have ejj:j=j':=ZAf fun c=>zmd h1 (gd t0) (gd t) (hb t ht) hj hj' c (hv'.trans hv.symm)
    subst ejj
    obtain ⟨kt,ka,kb⟩:=zc8 hk
    have hjl:=zem hw
    have hjt:j<t:=by
     have h0:(run n F s0 t0).rows.length≤t:=h0
     omega
    obtain ⟨p,hp⟩:∃p,wat (run n F s0 j) j=some p:=⟨_,by unfold wat;rw [ZAd (hl j (by omega))];rfl⟩
    have hp2:=za3 (zfl (n:=n) (F:=F) (s:=s0) (ZAr hjt)).1 hp
    rw [hw'] at hp2
    cases hp2
    obtain ⟨kt',ka',kb'⟩:=zc8 hk'
    obtain ⟨i,hi,hb2⟩:=(gd j).top j w' hp
    rw [hk'] at hb2
    have:=zli (ZAr hjt) (gd j) hb2 hj'
    have e:i=j:=by omega
    rw [e] at hb2
    exact ⟨j,hjt,⟨w',hp,kt',ka',kb',hb2⟩,by show val (run n F s0 j) (true,a,b)=some v;rw [zc2 hb2 hp,hwv']⟩
   drop:=fun t t' a b v v' htt hT h h' hv hv'=>by
    obtain ⟨w,h1,h2,h3,h4,h5,_⟩:=goes t a b h
    obtain ⟨w',h1',h2',h3',h4',h5',_⟩:=goes t' a b h'
    have hv:val (run n F s0 t) (true,a,b)=some v:=hv
    have hv':val (run n F s0 t') (true,a,b)=some v':=hv'
    rw [hv] at h5
    rw [hv'] at h5'
    cases h5
    cases h5'
    have:=(gd t').drop (hb t' (by omega)) t t' w w' (za3 (zfl (ZAr htt)).1 h1) h1' (by unfold zar.key;rw [h2,h3,h4,h2',h3',h4']) htt
    unfold zbs at this
    rw [h2] at this
    simp at this
    exact this
   wdrop:=fun t t' a b v v' htt hT h h' hv hv'=>by
    obtain ⟨w,h1,h2,h3,h4,h5,_⟩:=goew t a b h
    obtain ⟨w',h1',h2',h3',h4',h5',_⟩:=goew t' a b h'
    have hv:val (run n F s0 t) (false,a,b)=some v:=hv
    have hv':val (run n F s0 t') (false,a,b)=some v':=hv'
    rw [hv] at h5
    rw [hv'] at h5'
    cases h5
    cases h5'
    have:=(gd t').drop (hb t' (by omega)) t t' w w' (za3 (zfl (ZAr htt)).1 h1) h1' (by unfold zar.key;rw [h2,h3,h4,h2',h3',h4']) htt
    unfold zbs at this
    rw [h2] at this
    simp at this
    exact this
   once:=fun t t' a b htt hT h h'=>by
    obtain ⟨w,h1,h2,h3,h4,_,_⟩:=goes t a b h
    obtain ⟨w',h1',h2',h3',h4',_,_⟩:=goes t' a b h'
    obtain ⟨_,_,_,_,_,h5⟩:=h
    exact once (true,a,b) t t' w w' htt h1 h1' (by unfold zar.key;rw [h2',h3',h4']) h5
   wonce:=fun t t' a b htt hT h h'=>by
    obtain ⟨w,h1,h2,h3,h4,_,h5⟩:=goew t a b h
    obtain ⟨w',h1',h2',h3',h4',_,_⟩:=goew t' a b h'
    exact once (false,a,b) t t' w w' htt h1 h1' (by unfold zar.key;rw [h2',h3',h4']) h5 }
end MU
namespace MU
variable {n:Nat} {F:za4} {s0:St}
theorem zl5 (h8:n≤8) (hF:FOk n F ((60:Nat):Int)) (g0:zdw n s0) (told:∀i,0<i->i<n->(∃v,v≤((20:Nat):Int)∧val s0 (true,0,i)=some v)∧∃v,v≤0∧val s0 (true,i,0)=some v) (w0:∀a b,val s0 (false,a,b)=none) (h0:s0.rows.length≤1000):
 ∃T,((run n F s0 T).rows.length≤T∨(run n F s0 T).bar≠none)∧(∀t,t<T->t<(run n F s0 t).rows.length∧(run n F s0 t).bar=none)∧∀t,t≤T->(run n F s0 t).rows.length≤16000000:=by
 have key:∀T,(∀t,t<T->t<(run n F s0 t).rows.length∧(run n F s0 t).bar=none)->(run n F s0 T).rows.length≤15900000+26:=fun T h=>by
  cases T with
  | zero=>exact ZAw h0 (by decide)
  | succ T=>
   have b:=(zvr (l:=20) (mo:=60) h8 hF g0 told w0 (T:=T) (fun t ht=>(h t (by omega)).1) (fun t ht=>(h t (by omega)).2)).rows
   have b:(run n F s0 T).rows.length≤(run n F s0 0).rows.length+2304*(7*(8*(20+1)+8*(60+1)+1))+26*(64*(2*20+1))+10*((64*(2*20+1)+64*(60+20+1))*64+(64*(60+2*20+1)+64)):=b
   have e0:(run n F s0 0).rows.length=s0.rows.length:=rfl
   have l:=zm2 (n:=n) (F:=F) (at_:=T) (s:=run n F s0 T) h8
   have l:(run n F s0 (T+1)).rows.length≤(run n F s0 T).rows.length+26:=l
   rw [e0] at b
   omega
 have hex:∃T,(run n F s0 T).rows.length≤T∨(run n F s0 T).bar≠none:=ZAf fun hn=>by
  have all:∀t,t<(run n F s0 t).rows.length∧(run n F s0 t).bar=none:=fun t=>⟨ZAf fun c=>hn ⟨t,.inl (by omega)⟩,ZAf fun c=>hn ⟨t,.inr c⟩⟩
  have h1:=key 16000000 fun t _=>all t
  have h2:=(all 16000000).1
  omega
 have least:∀N,(∃T,T≤N∧((run n F s0 T).rows.length≤T∨(run n F s0 T).bar≠none)∧∀t,t<T->t<(run n F s0 t).rows.length∧(run n F s0 t).bar=none)∨∀t,t≤N->t<(run n F s0 t).rows.length∧(run n F s0 t).bar=none:=fun N=>by
  induction N with
  | zero=>
   by_cases c:(run n F s0 0).rows.length≤0∨(run n F s0 0).bar≠none
   ·exact .inl ⟨0,ZAc _,c,fun t ht=>absurd ht (ZBm _)⟩
   ·refine .inr fun t ht=>?_
    rw [show t=0 by omega]
    exact ⟨ZAf fun z=>c (.inl (by omega)),ZAf fun z=>c (.inr z)⟩
  | succ N ih=>
   rcases ih with ⟨T,h1,h2,h3⟩ | h
   ·exact .inl ⟨T,by omega,h2,h3⟩
   ·by_cases c:(run n F s0 (N+1)).rows.length≤N+1∨(run n F s0 (N+1)).bar≠none
    ·exact .inl ⟨N+1,ZAc _,c,fun t ht=>h t (by omega)⟩
    ·refine .inr fun t ht=>?_
     by_cases e:t=N+1
     ·rw [e]
      exact ⟨ZAf fun z=>c (.inl (by omega)),ZAf fun z=>c (.inr z)⟩
     ·exact h t (by omega)
 obtain ⟨T0,hT0⟩:=hex
 rcases least T0 with ⟨T,_,h2,h3⟩ | h
 ·exact ⟨T,h2,h3,fun t ht=>ZAw (key t fun s hs=>h3 s (by omega)) (by omega)⟩
 ·have:=h T0 (ZAc _)
  rcases hT0 with z | z
  ·omega
  ·exact absurd this.2 z
end MU
set_option maxRecDepth 100000
namespace L2
theorem zwg {c A B:Prop} [Decidable c] (hc:¬c) (h:A):if (!decide c)=true then A else B:=by
 rw [ZBp hc]
 exact zih h
end L2
namespace Y0
open PySem L2
noncomputable def zds (tie:Bool):Str:=if tie=true then "tie" else "wait"
noncomputable def zdx (x:MU.zar):List V:=[.str (zds x.tie),.int (x.a:Int),.int (x.b:Int),.int x.v]
noncomputable def zbf (H:Hp) (q:Addr) (x:MU.zar):Prop:=H q=some (.tup (zdx x))
theorem zbf.same {H H':Hp} {q:Addr} {x:MU.zar} (h:zbf H q x) (s:zbu H H'):zbf H' q x:=s _ _ h
structure zcw (H:Hp) (d:Addr) (F:MU.za4):Prop where
 at_:∃kvs:List (Key×V),H d=some (.dK kvs)∧kvs.length≤100∧(∀e:Nat,F e=none->zfg kvs (.inl (e:Int))=none)∧∀(e:Nat) f,F e=some f->∃p,zfg kvs (.inl (e:Int))=some (.ref p)∧H p=some (.tup [.int (f.1:Int),.int f.2.1,.int f.2.2])
theorem zcw.same {H H':Hp} {d:Addr} {F:MU.za4} (h:zcw H d F) (s:zbu H H'):zcw H' d F:=by
 obtain ⟨kvs,h1,h2,h3,h4⟩:=h.at_
 refine ⟨kvs,s _ _ h1,h2,h3,fun e f hf=>?_⟩
 obtain ⟨p,q1,q2⟩:=h4 e f hf
 exact ⟨p,q1,s _ _ q2⟩
noncomputable def zgr (H:Hp) (Q:VK) (o:Option MU.zar):Prop:=(o=none->∀H',zbu H H'->Q .non H')∧∀x,o=some x->∀r H',H r=none->zbu H H'->zbf H' r x->Q (.ref r) H'
theorem zgr.no {H:Hp} {Q:VK} {o:Option MU.zar} (h:zgr H Q o) (e:o=none):Q .non H:=h.1 e H (zbu.refl _)
theorem zgr.yes {H:Hp} {Q:VK} {o:Option MU.zar} (h:zgr H Q o) {x:MU.zar} (e:o=some x) {r:Addr} (hr:H r=none):Q (.ref r) (upd H r (.tup (zdx x))):=h.2 x e r _ hr (zad hr) zab
theorem zy3 {a b:Int}:decide (V.int a=V.int b)=decide (a=b):=decide_eq_decide.mpr ⟨fun q=>V.int.inj q,fun q=>by rw [q]⟩
theorem zln {a b:Nat}:decide (V.int (a:Int)=V.int (b:Int))=decide (a=b):=decide_eq_decide.mpr ⟨fun q=>Int.ofNat.inj (V.int.inj q),fun q=>by rw [q]⟩
structure zyl (mg:Str->Option Value):Prop where
 min:mg "min"=none
noncomputable def zss:Sp:=fun vs H Q _=>∃d q F x,vs=[.ref d,.ref q]∧zcw H d F∧zbf H q x∧x.tie=true∧zgr H Q (MU.zbm F x)
noncomputable def zsm:Sp:=fun vs H Q _=>∃d q F x,vs=[.ref d,.ref q]∧zcw H d F∧zbf H q x∧x.tie=true∧zgr H Q (MU.zbr F x)
noncomputable def zvi:Sp:=fun vs H Q _=>∃p q x y,vs=[.ref p,.ref q]∧zbf H p x∧zbf H q y∧x.tie=true∧y.tie=true∧zgr H Q (MU.za7 x y)
noncomputable def zsk:Sp:=fun vs H Q _=>∃d q F x fa,vs=[.ref d,.ref q]∧zcw H d F∧zbf H q x∧x.tie=false∧F x.b=some fa∧zgr H Q (MU.zbh F x)
noncomputable def zsy:Sp:=fun vs H Q _=>∃d p q F x y fa,vs=[.ref d,.ref p,.ref q]∧zcw H d F∧zbf H p x∧zbf H q y∧x.tie=false∧y.tie=true∧F x.b=some fa∧zgr H Q (MU.zay F x y)
noncomputable def zow:Sp:=fun vs H Q _=>∃d q F x fa,vs=[.ref d,.ref q]∧zcw H d F∧zbf H q x∧x.tie=false∧F x.b=some fa∧zgr H Q (MU.za2 F x)
noncomputable def zoy:Sp:=fun vs H Q _=>∃q x,vs=[.ref q]∧zbf H q x∧Q (.bl (decide (MU.zho x))) H
section
variable {P:Program} {w:World} {K:ZBq} {mg:Str->Option Value} {base:Heap}
theorem zyv:zat ["falls","tie","end"] ["falls","tie"] (zai sP_by_late):=⟨rfl,rfl,rfl,by decide+kernel,rfl,by decide+kernel,by decide+kernel⟩
theorem ok_late {f:Addr} {fd:FuncData} (F:Fn K mg "by_late" sP_by_late ["falls","tie"] f fd):zbj P w K mg base CX0 1 f fd ["falls","tie"] zss:=by
 refine F.F.ok zyv (fun vs H Q E h=>?_) (fun cdv A outer s H vs Q E hr h=>?_)
 ·obtain ⟨_,_,_,_,rfl,_⟩:=h
  rfl
 ·obtain ⟨d,q,Fa,x,rfl,FA,hw,ht,G⟩:=h
  have hu:=zfc hr
  refine ⟨_,zal (za0 (i:=2) zyv.nd rfl (Or.inl rfl) (ixT (pv 1)))
   (zal (zbk (PW.pt (zeg (zhu (zgb hu (pv 2) (pv 0)) (by with_unfolding_all rfl)) (zeo (zak zbv (ixT (pv 1)) (pv 2) (zam _))))) (zaf (zaq ze4)) zas)
   (zaf (zaq (za8 (zaa zax (zaa (ixT (pv 1)) (zaa (pv 2) (zaa (zbi zcj (za9 zbn (zc6 hu (pv 0) (pv 2) (fun _ _=>rfl)) zah (fun _ _=>rfl)) (ixT (pv 1))) zac)))))))),?_⟩
  obtain ⟨kvs,hd,hl,f0,f1⟩:=FA.at_
  refine ⟨_,rfl,rdT hw rfl ⟨_,rfl,_,rfl,d,_,rfl,ze7.k (k:=Sum.inl (x.b:Int)) hd,_,rfl,?_⟩⟩
  cases hf:Fa x.b with
  | none=>
   rw [f0 _ hf]
   refine zih (G.no ?_)
   unfold MU.zbm
   rw [hf]
   split<;>rfl
  | some fa=>
   obtain ⟨p,e1,e2⟩:=f1 _ _ hf
   rw [e1]
   refine zeh ⟨_,rfl,rdT hw rfl ⟨_,rfl,rfl,_,rfl,?_⟩⟩
   rw [zln]
   by_cases c:x.a=x.b
   ·refine zgi c (G.no ?_)
    unfold MU.zbm
    rw [if_neg fun z=>z.2 c]
   ·refine zep c ?_
    have hg:MU.zbm Fa x=some ⟨false,x.a,x.b,fa.2.2-x.v⟩:=by
     unfold MU.zbm
     rw [if_pos ⟨ht,c⟩,hf]
     rfl
    refine ⟨_,rfl,rdT hw rfl ⟨_,rfl,_,rfl,_,rfl,d,_,rfl,e1▸ze7.k (k:=Sum.inl (x.b:Int)) hd,?_⟩⟩
    refine rdT e2 rfl ⟨_,rfl,rdT hw rfl ⟨_,_,rfl,rfl,by show 4≤sizeLine;decide,fun r hr'=>G.yes hg hr'⟩⟩
theorem zvm:zat ["falls","tie","end"] ["falls","tie"] (zai sP_by_soon):=⟨rfl,rfl,rfl,by decide+kernel,rfl,by decide+kernel,by decide+kernel⟩
theorem ok_soon {f:Addr} {fd:FuncData} (F:Fn K mg "by_soon" sP_by_soon ["falls","tie"] f fd):zbj P w K mg base CX0 1 f fd ["falls","tie"] zsm:=by
 refine F.F.ok zvm (fun vs H Q E h=>?_) (fun cdv A outer s H vs Q E hr h=>?_)
 ·obtain ⟨_,_,_,_,rfl,_⟩:=h
  rfl
 ·obtain ⟨d,q,Fa,x,rfl,FA,hw,ht,G⟩:=h
  have hu:=zfc hr
  refine ⟨_,zal (za0 (i:=2) zvm.nd rfl (Or.inl rfl) (ixT (pv 1)))
   (zal (zbk (PW.pt (zeg (zhu (zgb hu (pv 2) (pv 0)) (by with_unfolding_all rfl)) (zeg (zak zbv (ixT (pv 1)) (pv 2) (zam _)) (zeo (zak zxt (ixT (pv 1)) zah (zam _)))))) (zaf (zaq ze4)) zas)
   (zaf (zaq (za8 (zaa zax (zaa (za9 zbn (zc6 hu (pv 0) (pv 2) (fun _ _=>rfl)) zah (fun _ _=>rfl)) (zaa (ixT (pv 1)) (zaa (zbi zcr (za9 zbn (zc6 hu (pv 0) (pv 2) (fun _ _=>rfl)) zah (fun _ _=>rfl)) (ixT (pv 1))) zac)))))))),?_⟩
  obtain ⟨kvs,hd,hl,f0,f1⟩:=FA.at_
  refine ⟨_,rfl,rdT hw rfl ⟨_,rfl,_,rfl,d,_,rfl,ze7.k (k:=Sum.inl (x.a:Int)) hd,_,rfl,?_⟩⟩
  cases hf:Fa x.a with
  | none=>
   rw [f0 _ hf]
   refine zih (G.no ?_)
   unfold MU.zbr
   rw [hf]
   split<;>rfl
  | some fa=>
   obtain ⟨p,e1,e2⟩:=f1 _ _ hf
   rw [e1]
   refine zeh ⟨_,rfl,rdT hw rfl ⟨_,rfl,rfl,_,rfl,?_⟩⟩
   rw [zln]
   by_cases c:x.b=x.a
   ·refine zgi c (G.no ?_)
    unfold MU.zbr
    rw [if_neg fun z=>z.2.1 c.symm]
   ·refine zep c ⟨_,rfl,rdT hw rfl ⟨_,_,rfl,rfl,_,rfl,?_⟩⟩
    by_cases c2:x.v<0
    ·refine zep (by omega) ?_
     have hg:MU.zbr Fa x=some ⟨true,fa.1,x.b,fa.2.1+x.v⟩:=by
      unfold MU.zbr
      rw [if_pos ⟨ht,fun z=>c z.symm,c2⟩,hf]
      rfl
     refine ⟨_,rfl,_,rfl,d,_,rfl,e1▸ze7.k (k:=Sum.inl (x.a:Int)) hd,?_⟩
     refine rdT e2 rfl ⟨_,rfl,rdT hw rfl ⟨_,rfl,_,rfl,d,_,rfl,e1▸ze7.k (k:=Sum.inl (x.a:Int)) hd,?_⟩⟩
     refine rdT e2 rfl ⟨_,rfl,rdT hw rfl ⟨_,_,rfl,rfl,by show 4≤sizeLine;decide,fun r hr'=>G.yes hg hr'⟩⟩
    ·refine zgi (by omega) (G.no ?_)
     unfold MU.zbr
     rw [if_neg fun z=>c2 z.2.2]
theorem zvl:zat ["first","second"] ["first","second"] (zai sP_by_sum):=⟨rfl,rfl,rfl,by decide+kernel,rfl,by decide+kernel,by decide+kernel⟩
theorem ok_sum {f:Addr} {fd:FuncData} (F:Fn K mg "by_sum" sP_by_sum ["first","second"] f fd):zbj P w K mg base CX0 1 f fd ["first","second"] zvi:=by
 refine F.F.ok zvl (fun vs H Q E h=>?_) (fun cdv A outer s H vs Q E hr h=>?_)
 ·obtain ⟨_,_,_,_,rfl,_⟩:=h
  rfl
 ·obtain ⟨p,q,x,y,rfl,hx,hy,tx,ty,G⟩:=h
  refine ⟨_,zal (zbk (zak zgc (ixT (pv 0)) (ixT (pv 1)) (zam _)) (zaf (zaq ze4)) zas)
   (zaf (zaq (za8 (zaa zax (zaa (ixT (pv 0)) (zaa (ixT (pv 1)) (zaa (zbi zcr (ixT (pv 0)) (ixT (pv 1))) zac))))))),?_⟩
  refine ⟨_,rfl,rdT hx rfl ⟨_,rfl,rdT hy rfl ⟨rfl,_,rfl,?_⟩⟩⟩
  rw [zln]
  by_cases c:x.b=y.a
  ·refine zk5 c ?_
   have hg:MU.za7 x y=some ⟨true,x.a,y.b,x.v+y.v⟩:=if_pos ⟨tx,ty,c⟩
   exact ⟨_,rfl,rdT hx rfl ⟨_,rfl,rdT hy rfl ⟨_,rfl,rdT hx rfl ⟨_,rfl,rdT hy rfl ⟨_,_,rfl,rfl,by show 4≤sizeLine;decide,fun r hr'=>G.yes hg hr'⟩⟩⟩⟩⟩
  ·exact zwg c (G.no (if_neg fun z=>c z.2.2))
theorem zpo {a b:Int}:(if b<a then b else a)=min a b:=by
 rw [Int.min_def]
 by_cases c:b<a
 ·rw [if_pos c,if_neg (by omega)]
 ·rw [if_neg c,if_pos (by omega)]
theorem zo1:zat ["falls","wait","fall"] ["falls","wait"] (zai sP_by_sure):=⟨rfl,rfl,rfl,by decide+kernel,rfl,by decide+kernel,by decide+kernel⟩
theorem ok_sure {f:Addr} {fd:FuncData} (F:Fn K mg "by_sure" sP_by_sure ["falls","wait"] f fd) (T:zyl mg):zbj P w K mg base CX0 1 f fd ["falls","wait"] zsk:=by
 refine F.F.ok zo1 (fun vs H Q E h=>?_) (fun cdv A outer s H vs Q E hr h=>?_)
 ·obtain ⟨_,_,_,_,_,rfl,_⟩:=h
  rfl
 ·obtain ⟨d,q,Fa,x,fa,rfl,FA,hw,ht,hf,G⟩:=h
  have hu:=zfc hr
  refine ⟨_,zal (za0 (i:=2) zo1.nd rfl (Or.inl rfl) (zc6 hu (pv 0) (ixT (pv 1)) (fun _ _=>rfl)))
   (zaf (zaq (za8 (zaa zax (zaa (ixT (pv 1)) (zaa (ixT (pv 2)) (zaa (zlv zhp (zau (zdq rfl) (by rfl) T.min (by decide+kernel) (zaa (ixT (pv 1)) (zaa (ixT (pv 2)) zac)))) zac))))))),?_⟩
  obtain ⟨kvs,hd,hl,f0,f1⟩:=FA.at_
  obtain ⟨p,e1,e2⟩:=f1 _ _ hf
  have hg:MU.zbh Fa x=some ⟨true,x.a,fa.1,-min x.v fa.2.1⟩:=by
   unfold MU.zbh
   rw [if_pos ht,hf]
   rfl
  refine ⟨_,rfl,_,rfl,rdT hw rfl ⟨d,_,rfl,e1▸ze7.k (k:=Sum.inl (x.b:Int)) hd,?_⟩⟩
  refine ⟨_,rfl,rdT hw rfl ⟨_,rfl,rdT e2 rfl ⟨_,rfl,rdT hw rfl ⟨_,rfl,rdT e2 rfl ⟨_,_,rfl,_,rfl,by show 4≤sizeLine;decide,fun r hr'=>?_⟩⟩⟩⟩⟩
  have:=G.yes hg hr'
  rw [zpo]
  exact this
theorem zo2:zat ["falls","wait","tie","end"] ["falls","wait","tie"] (zai sP_by_back):=⟨rfl,rfl,rfl,by decide+kernel,rfl,by decide+kernel,by decide+kernel⟩
theorem ok_back {f:Addr} {fd:FuncData} (F:Fn K mg "by_back" sP_by_back ["falls","wait","tie"] f fd) (T:zyl mg):zbj P w K mg base CX0 1 f fd ["falls","wait","tie"] zsy:=by
 refine F.F.ok zo2 (fun vs H Q E h=>?_) (fun cdv A outer s H vs Q E hr h=>?_)
 ·obtain ⟨_,_,_,_,_,_,_,rfl,_⟩:=h
  rfl
 ·obtain ⟨d,p,q,Fa,x,y,fa,rfl,FA,hx,hy,tx,ty,hf,G⟩:=h
  have hu:=zfc hr
  refine ⟨_,zal (za0 (i:=3) zo2.nd rfl (Or.inl rfl) (ixT (pv 1)))
   (zal (zbk (PW.pt (zeg (zak zgc (ixT (pv 2)) (ixT (pv 1)) (zam _)) (zeo (zak zbv (ixT (pv 2)) (pv 3) (zam _))))) (zaf (zaq ze4)) zas)
   (zaf (zaq (za8 (zaa zax (zaa (ixT (pv 2)) (zaa (pv 3) (zaa (zbi zcj (zau (zdq rfl) (by rfl) T.min (by decide+kernel) (zaa (ixT (pv 1)) (zaa (za9 zbn (zc6 hu (pv 0) (pv 3) (fun _ _=>rfl)) zah (fun _ _=>rfl)) zac))) (ixT (pv 2))) zac)))))))),?_⟩
  obtain ⟨kvs,hd,hl,f0,f1⟩:=FA.at_
  obtain ⟨pp,e1,e2⟩:=f1 _ _ hf
  refine ⟨_,rfl,rdT hx rfl ⟨_,rfl,rdT hy rfl ⟨_,rfl,rdT hx rfl ⟨rfl,_,rfl,?_⟩⟩⟩⟩
  rw [zln]
  by_cases c:y.b=x.a
  ·refine zk5 c ⟨_,rfl,rdT hy rfl ⟨_,rfl,rfl,_,rfl,?_⟩⟩
   rw [zln]
   by_cases c2:y.a=x.b
   ·exact zgi c2 (G.no (if_neg fun z=>z.2.2.2 c2))
   ·refine zep c2 ?_
    have hg:MU.zay Fa x y=some ⟨false,y.a,x.b,min x.v fa.2.2-y.v⟩:=by
     unfold MU.zay
     rw [if_pos ⟨tx,ty,c,c2⟩,hf]
     rfl
    refine ⟨_,rfl,rdT hy rfl ⟨_,rfl,_,rfl,rdT hx rfl ⟨_,rfl,_,rfl,d,_,rfl,e1▸ze7.k (k:=Sum.inl (x.b:Int)) hd,?_⟩⟩⟩
    refine rdT e2 rfl ⟨_,_,rfl,_,rfl,rdT hy rfl ⟨_,_,rfl,rfl,by show 4≤sizeLine;decide,fun r hr'=>?_⟩⟩
    have:=G.yes hg hr'
    rw [zpo]
    exact this
  ·exact zwg c (G.no (if_neg fun z=>c z.2.2.1))
theorem zjf:zat ["falls","wait","end","other"] ["falls","wait"] (zai sP_by_cross):=⟨rfl,rfl,rfl,by decide+kernel,rfl,by decide+kernel,by decide+kernel⟩
theorem ok_cross {f:Addr} {fd:FuncData} (F:Fn K mg "by_cross" sP_by_cross ["falls","wait"] f fd) (T:zyl mg):zbj P w K mg base CX0 1 f fd ["falls","wait"] zow:=by
 refine F.F.ok zjf (fun vs H Q E h=>?_) (fun cdv A outer s H vs Q E hr h=>?_)
 ·obtain ⟨_,_,_,_,_,rfl,_⟩:=h
  rfl
 ·obtain ⟨d,q,Fa,x,fa,rfl,FA,hw,ht,hf,G⟩:=h
  have hu:=zfc hr
  refine ⟨_,zal (za0 (i:=2) zjf.nd rfl (Or.inl rfl) (ixT (pv 1)))
   (zal (zbk (PW.pt (zeg (zhu (zgb hu (ixT (pv 1)) (pv 0)) (by with_unfolding_all rfl)) (zeg (zak zbv (ixT (pv 1)) (pv 2) (zam _)) (zeo (zak zfs (ixT (pv 1)) zah (zam _)))))) (zaf (zaq ze4)) zas)
   (zal (za0 (i:=3) zjf.nd rfl (Or.inl rfl) (zc6 hu (pv 0) (ixT (pv 1)) (fun _ _=>rfl)))
   (zaf (zaq (za8 (zaa zax (zaa (ixT (pv 3)) (zaa (pv 2) (zaa (zbi zcj (zau (zdq rfl) (by rfl) T.min (by decide+kernel) (zaa (ixT (pv 1)) (zaa (za9 zbn (zc6 hu (pv 0) (pv 2) (fun _ _=>rfl)) zah (fun _ _=>rfl)) zac))) (ixT (pv 3))) zac))))))))),?_⟩
  obtain ⟨kvs,hd,hl,f0,f1⟩:=FA.at_
  obtain ⟨pp,e1,e2⟩:=f1 _ _ hf
  refine ⟨_,rfl,rdT hw rfl ⟨_,rfl,rdT hw rfl ⟨_,rfl,d,_,rfl,ze7.k (k:=Sum.inl (x.a:Int)) hd,_,rfl,?_⟩⟩⟩
  cases ho:Fa x.a with
  | none=>
   rw [f0 _ ho]
   refine zih (G.no ?_)
   unfold MU.za2
   rw [ho]
   split<;>rfl
  | some oa=>
   obtain ⟨po,o1,o2⟩:=f1 _ _ ho
   rw [o1]
   refine zeh ⟨_,rfl,rdT hw rfl ⟨_,rfl,rfl,_,rfl,?_⟩⟩
   rw [zln]
   by_cases c:x.a=x.b
   ·refine zgi c (G.no ?_)
    unfold MU.za2
    rw [if_neg fun z=>z.2.1 c]
   ·refine zep c ⟨_,rfl,rdT hw rfl ⟨_,_,rfl,rfl,_,rfl,?_⟩⟩
    by_cases c2:0<x.v
    ·refine zep (by omega) ?_
     have hg:MU.za2 Fa x=some ⟨false,oa.1,x.b,min x.v fa.2.2-oa.2.1⟩:=by
      unfold MU.za2
      rw [if_pos ⟨ht,c,c2⟩,ho,hf]
      rfl
     refine ⟨_,rfl,_,rfl,rdT hw rfl ⟨d,_,rfl,o1▸ze7.k (k:=Sum.inl (x.a:Int)) hd,?_⟩⟩
     refine ⟨_,rfl,rdT o2 rfl ⟨_,rfl,_,rfl,rdT hw rfl ⟨_,rfl,_,rfl,d,_,rfl,e1▸ze7.k (k:=Sum.inl (x.b:Int)) hd,?_⟩⟩⟩
     refine rdT e2 rfl ⟨_,_,rfl,_,rfl,rdT o2 rfl ⟨_,_,rfl,rfl,by show 4≤sizeLine;decide,fun r hr'=>?_⟩⟩
     have:=G.yes hg hr'
     rw [zpo]
     exact this
    ·refine zgi (by omega) (G.no ?_)
     unfold MU.za2
     rw [if_neg fun z=>c2 z.2.2]
theorem zvp:zat ["what"] ["what"] (zai sP_bars_every_hand):=⟨rfl,rfl,rfl,by decide+kernel,rfl,by decide+kernel,by decide+kernel⟩
theorem zhh {t:Bool}:decide (V.str (zds t)=V.str "tie")=t:=by
 cases t
 ·exact ZBp fun q=>absurd (V.str.inj q) (by decide+kernel)
 ·exact ZBo rfl
theorem ok_bars {f:Addr} {fd:FuncData} (F:Fn K mg "bars_every_hand" sP_bars_every_hand ["what"] f fd):zbj P w K mg base CX0 1 f fd ["what"] zoy:=by
 refine F.F.ok zvp (fun vs H Q E h=>?_) (fun cdv A outer s H vs Q E hr h=>?_)
 ·obtain ⟨_,_,rfl,_⟩:=h
  rfl
 ·obtain ⟨q,x,rfl,hw,k⟩:=h
  refine ⟨_,zaf (zaq (ze5 (zcp zbv (ixT (pv 0)) zax (zam _)) (ze5 (zcp zbv (ixT (pv 0)) (ixT (pv 0)) (zam _)) (zhw (zcp zg4 (ixT (pv 0)) zah (zam _)))))),?_⟩
  have eb:∀b:Bool,b=decide (MU.zho x)->Q (.bl b) H:=fun b e=>by rw [e];exact k
  refine ⟨_,rfl,rdT hw rfl ⟨rfl,_,rfl,?_⟩⟩
  rw [zhh]
  cases ht:x.tie with
  | false=>exact zeh (eb _ (ZBp fun z=>by have:=z.1;rw [ht] at this;cases this).symm)
  | true=>
   refine zih ⟨_,rfl,rdT hw rfl ⟨_,rfl,rdT hw rfl ⟨rfl,_,rfl,?_⟩⟩⟩
   rw [zln]
   by_cases c:x.a=x.b
   ·refine zgi c ⟨_,rfl,rdT hw rfl ⟨_,_,rfl,rfl,eb _ ?_⟩⟩
    exact decide_eq_decide.mpr ⟨fun z=>⟨ht,c,z⟩,fun z=>z.2.2⟩
   ·exact zep c (eb _ (ZBp fun z=>c z.2.1).symm)
end
end Y0
namespace Y0
open PySem L2
noncomputable def zs5:List Int->Option (Nat×Int×Int)
 | [a,_,l,m]=>some (a.toNat,l,m)
 | _=>none
noncomputable def za6 (F:List (List Int)):MU.za4:=fun e=>(F.find? fun r=>decide (r[1]?=some (e:Int))).bind zs5
theorem zk9 {F:List (List Int)} {e:Nat} (h:∀r∈F,r[1]?≠some (e:Int)):za6 F e=none:=by
 unfold za6
 have:(F.find? fun r=>decide (r[1]?=some (e:Int)))=none:=List.find?_eq_none.mpr fun r hr=>by simpa using h r hr
 rw [this]
 rfl
theorem zcv.find {n la:Int} {T F:List (List Int)} (h:zcv n la T F) {e:Nat} {f:Nat×Int×Int} (hf:za6 F e=some f):∃a l m:Int,[a,(e:Int),l,m]∈F∧f=(a.toNat,l,m)∧0≤a∧a<n∧0<(e:Int)∧(e:Int)<n∧a≠(e:Int)∧1≤l∧l≤m∧m≤60:=by
 unfold za6 at hf
 cases q:F.find? fun r=>decide (r[1]?=some (e:Int)) with
 | none=>rw [q] at hf;cases hf
 | some r=>
  rw [q] at hf
  have hf:zs5 r=some f:=hf
  have hm:=List.mem_of_find?_eq_some q
  have hp:=List.find?_some q
  obtain ⟨a,b,l,m,rfl,x1,x2,x3,x4,x5,x6,x7,x8⟩:=h.f r hm
  have hb:some b=some (e:Int):=of_decide_eq_true hp
  cases hb
  cases hf
  exact ⟨a,l,m,hm,rfl,x1,x2,x3,x4,x5,x6,x7,x8⟩
theorem zcv.falls {n la:Int} {T F:List (List Int)} (h:zcv n la T F) {a l m:Int} {e:Nat} (hm:[a,(e:Int),l,m]∈F):za6 F e=some (a.toNat,l,m):=by
 obtain ⟨i,hi⟩:=List.mem_iff_getElem?.mp hm
 unfold za6
 cases q:F.find? fun r=>decide (r[1]?=some (e:Int)) with
 | none=>
  have:=List.find?_eq_none.mp q _ hm
  simp at this
 | some r=>
  have hm':=List.mem_of_find?_eq_some q
  obtain ⟨j,hj⟩:=List.mem_iff_getElem?.mp hm'
  have hp:r[1]?=some (e:Int):=of_decide_eq_true (List.find?_some (p:=fun r=>decide (r[1]?=some (e:Int))) q)
  have ij:=h.one i j _ _ hi hj (by rw [hp];rfl)
  subst ij
  rw [hi] at hj
  cases hj
  rfl
theorem zcv.fok {n:Nat} {la:Int} {T F:List (List Int)} (h:zcv (n:Int) la T F):MU.FOk n (za6 F) ((60:Nat):Int):=by
 refine ⟨fun e f hf=>?_,fun e f hf=>?_,fun e f hf=>?_⟩
 ·obtain ⟨a,l,m,hm,rfl,x1,x2,x3,x4,_⟩:=h.find hf
  exact ⟨by show a.toNat<n;omega,by omega⟩
 ·obtain ⟨a,l,m,hm,rfl,x1,x2,x3,x4,_⟩:=h.find hf
  refine zk9 fun r hr=>?_
  have:=h.own _ hm r hr
  show r[1]?≠some ((a.toNat:Nat):Int)
  rw [show ((a.toNat:Nat):Int)=a by omega]
  exact fun z=>this z.symm
 ·obtain ⟨a,l,m,hm,rfl,x1,x2,x3,x4,x5,x6,x7,x8⟩:=h.find hf
  exact ⟨x6,x7,x8⟩
noncomputable def zls (C:Addr):Sp:=fun vs H Q _=>∃p n la T F,vs=[.ref p]∧zf3 C H p n la T F∧zcv n la T F∧∀d H',H d=none->zbu H H'->zcw H' d (za6 F)->Q (.ref d) H'
section
variable {P:Program} {w:World} {K:ZBq} {mg:Str->Option Value} {base:Heap}
noncomputable abbrev nBe:List Str:=["web","found","one","other","least","most"]
theorem zu3:zat nBe ["web"] (zai sP_falls_by_end):=⟨rfl,rfl,rfl,by decide+kernel,rfl,by decide+kernel,by decide+kernel⟩
theorem ok_byEnd {f C fF:Addr} {fd fdF:FuncData} (F:Fn K mg "falls_by_end" sP_falls_by_end ["web"] f fd) (TC:zqq K mg C) (mF:zj6 K C "falls" fF) (bF:zdc K fdF ["self"] []) (GF:zbj P w K mg base CX0 1 fF fdF ["self"] (zou C fun _ F=>F)):
 zbj P w K mg base CX0 2 f fd ["web"] (zls C):=by
 refine F.F.ok zu3 (fun vs H Q E h=>?_) (fun cdv A outer s H vs Q E hr h=>?_)
 ·obtain ⟨_,_,_,_,_,rfl,_⟩:=h
  rfl
 ·obtain ⟨p,n,la,rT,rF,rfl,W0,hok,k⟩:=h
  have hu:=zfc hr
  refine ⟨_,zag (za0 (i:=1) zu3.nd rfl (Or.inl rfl) zmy)
   (zag (zcx PassesOwn.never rfl (zb2 (zhd (pv 0) TC.cl mF GF hr bF .nil za1))
    (ziw rfl (zbb (zap (i:=2) zu3.nd rfl (Or.inl rfl)) (zbb (zap (i:=3) zu3.nd rfl (Or.inl rfl)) (zbb (zap (i:=4) zu3.nd rfl (Or.inl rfl)) (zbb (zap (i:=5) zu3.nd rfl (Or.inl rfl)) zf1)))))
    (zaf (zjn hu (pv 1) (pv 3) (za8 (zaa (pv 2) (zaa (pv 4) (zaa (pv 5) zac)))) rfl)))
   (zaf (zaq (pv 1)))),?_⟩
  refine fun N1 c1 d hd=>c1 _ _ ?_
  have s1:=zad (o:=.dK []) hd
  have e1:upd H d (.dK []) d=some (.dK []):=zab
  generalize upd H d (.dK [])=H1 at*
  obtain ⟨dx,ta,fa,ep,_,_⟩:=id W0
  have nf:(zgs n la ta fa).lookup ("falls":Str)=none:=zw5 _ _ _ _ (by decide+kernel) (by decide+kernel) (by decide+kernel) (by decide+kernel)
  refine fun N2 c2=>⟨_,rfl,p,dx,_,rfl,s1 _ _ ep,nf,p,n,la,rT,rF,rfl,W0.same s1,fun l H2 hl s2 R2=>?_⟩
  obtain ⟨qs,R⟩:=R2
  have R:zci H2 l qs rF:=R
  refine ⟨l,rfl,⟨_,SqL.of R.1⟩,?_⟩
  have fl:=hok.fl
  have hdd:H2 d=some (.dK []):=s2 _ _ e1
  have hdH:H d=none:=hd
  refine zcf (K:=K) (a:=l) (xs:=qs.map V.ref) (fun i σ' H'=>∃v1 v2 v3 v4 kvs,σ'=[some (.ref p),some (.ref d),v1,v2,v3,v4]∧H' d=some (.dK kvs)∧kvs.length≤i∧(∀e:Nat,(∀r∈rF.take i,r[1]?≠some (e:Int))->zfg kvs (.inl (e:Int))=none)∧
   (∀a b le mo:Int,[a,b,le,mo]∈rF.take i->∃q,zfg kvs (.inl b)=some (.ref q)∧H' q=some (.tup [.int a,.int le,.int mo]))∧∀b o,H2 b=some o->b≠d->H' b=some o)
   ⟨none,none,none,none,[],rfl,hdd,ZAc _,(fun e _=>rfl),(fun a b le mo h=>by simp at h),fun b o e _=>e⟩ ?_ ?_ ?_
  ·rintro i σ' H3 _ ⟨v1,v2,v3,v4,kvs,rfl,_,_,_,_,kp⟩
   exact SqL.of (kp _ _ R.1 (zbp R.1 hdd (fun z=>nomatch z)))
  ·rintro i x σ' H3 hx ⟨v1,v2,v3,v4,kvs,rfl,ed,hlen,h0,h1,kp⟩
   obtain ⟨q,r,rfl,hq,hr',hqt⟩:=R.get hx
   obtain ⟨a',b',le,mo,rfl,x1,x2,x3,x4,_⟩:=hok.f r (ZAh hr')
   have hi:i<rF.length:=(ZAb.mp hr').1
   refine ⟨q,_,rfl,SqT.of (kp _ _ hqt (zbp hqt hdd (fun z=>nomatch z))),rfl,_,_,rfl,_,_,rfl,_,_,rfl,_,_,rfl,rfl,?_⟩
   refine ⟨_,rfl,_,rfl,_,rfl,by show 3≤sizeLine;decide,fun t ht=>?_⟩
   have td:t≠d:=Ne.symm (zae ed ht)
   refine ⟨_,rfl,_,rfl,d,_,rfl,zqs.k (k:=Sum.inl b') (by rw [zaj (Ne.symm td)];exact ed) (zaz (by omega)),?_⟩
   have tk:rF.take (i+1)=rF.take i++[[a',b',le,mo]]:=by rw [ZBa,hr'];rfl
   refine ⟨_,_,_,_,_,rfl,zab,ZAw (zdg _ _ _) (by omega),fun e he=>?_,fun a b l2 m2 hm=>?_,fun b o e ne=>?_⟩
   ·rw [tk] at he
    have hne:b'≠(e:Int):=fun z=>he [a',b',le,mo] (ZA3 _ ZAl) (by rw [←z];rfl)
    rw [zf8,if_neg (fun z=>hne (Sum.inl.inj z).symm)]
    exact h0 e fun r hr=>he r (List.mem_append_left _ hr)
   ·rw [tk] at hm
    rcases ZA4.mp hm with hm | hm
    ·have hbb:b≠b':=fun z=>by
      obtain ⟨j,hj⟩:=List.mem_iff_getElem?.mp hm
      have hjl:j<i:=by
       have:=(ZAb.mp hj).1
       rw [ZA1] at this
       omega
      have hj':rF[j]?=some [a,b,l2,m2]:=by
       rw [List.getElem?_take] at hj
       rw [if_pos hjl] at hj
       exact hj
      have:=hok.one j i _ _ hj' hr' (by rw [z];rfl)
      omega
     obtain ⟨q',hq1,hq2⟩:=h1 a b l2 m2 hm
     refine ⟨q',by rw [zf8,if_neg (fun z=>hbb (Sum.inl.inj z))];exact hq1,?_⟩
     rw [zaj (zbp hq2 ed (fun z=>nomatch z)),zaj (zae hq2 ht)]
     exact hq2
    ·have hm:=ZAt.mp hm
     cases hm
     refine ⟨t,by rw [zf8,if_pos rfl],?_⟩
     rw [zaj td,zab]
   ·rw [zaj ne,zaj (zae (kp _ _ e ne) ht)]
    exact kp _ _ e ne
  ·rintro σ' H3 ⟨v1,v2,v3,v4,kvs,rfl,ed,hlen,h0,h1,kp⟩
   have hle:rF.take (qs.map V.ref).length=rF:=by rw [ZAa,R.len];exact ZAy
   rw [hle] at h0 h1
   rw [ZAa,R.len] at hlen
   refine c2 _ _ ⟨_,rfl,k d H3 hd (fun b o e=>kp _ _ (s2 _ _ (s1 _ _ e)) (zae e hdH)) ⟨kvs,ed,by omega,fun e he=>h0 e fun r hr z=>?_,fun e f hf=>?_⟩⟩
   ·obtain ⟨a',b',le,mo,rfl,_⟩:=hok.f r hr
    have z:some b'=some (e:Int):=z
    cases z
    rw [hok.falls hr] at he
    cases he
   ·obtain ⟨a,l',m',hm,rfl,x1,_⟩:=hok.find hf
    obtain ⟨q,hq1,hq2⟩:=h1 _ _ _ _ hm
    refine ⟨q,hq1,?_⟩
    rw [hq2]
    show some (HO.tup [.int a,.int l',.int m'])=some (HO.tup [.int ((a.toNat:Nat):Int),.int l',.int m'])
    rw [show ((a.toNat:Nat):Int)=a by omega]
end
end Y0
namespace L2
open PySem PySem.Spec PyProof.Rows
noncomputable def ze6:List Value->List Str->Bool
 | [],[]=>true
 | .str x _::vs,s::ss=>decide (x=s) && ze6 vs ss
 | _,_=>false
theorem zir:∀{vs:List Value} {ss:List Str},ze6 vs ss=true->zcb (ss.map V.str) vs
 | [],[],_=>.nil
 | .str x t::vs,s::ss,h=>by
  have h:(decide (x=s) && ze6 vs ss)=true:=h
  rw [Bool.and_eq_true,ZBe] at h
  obtain ⟨e,h2⟩:=h
  subst e
  exact .cons ⟨t,rfl⟩ (zir h2)
 | [],_::_,h=>by cases h
 | .none::_,_,h=>by simp [ze6] at h
 | .bool _::_,_,h=>by simp [ze6] at h
 | .int _ _::_,_,h=>by simp [ze6] at h
 | .float _ _::_,_,h=>by simp [ze6] at h
 | .str _ _::_,[],h=>by simp [ze6] at h
 | .bytes _ _::_,_,h=>by simp [ze6] at h
 | .ref _::_,_,h=>by simp [ze6] at h
 | .builtin _::_,_,h=>by simp [ze6] at h
 | .type _::_,_,h=>by simp [ze6] at h
 | .ellipsis::_,_,h=>by simp [ze6] at h
 | .notImplemented::_,_,h=>by simp [ze6] at h
noncomputable def zof (K:ZBq) (ss:List Str):Value->Bool
 | .ref b=>match K.lookup b with
  | some o=>(o.cls==.type "tuple") && (match o.data with
   | .seq its _=>decide (its.size≤sizeLine) && ze6 its.toList ss
   | _=>false)
  | none=>false
 | _=>false
theorem zim {K:ZBq} {ss:List Str} {v:Value} (h:zof K ss v=true):∃b,v=.ref b∧∀H,SqT K H b (ss.map V.str):=by
 cases v with
 | ref b=>
  refine ⟨b,rfl,fun H=>.inr ?_⟩
  have h:(match K.lookup b with
   | some o=>(o.cls==.type "tuple") && (match o.data with
    | .seq its _=>decide (its.size≤sizeLine) && ze6 its.toList ss
    | _=>false)
   | none=>false)=true:=h
  cases q:K.lookup b with
  | none=>rw [q] at h;cases h
  | some o=>
   rw [q] at h
   have h:((o.cls==.type "tuple") && (match o.data with
    | .seq its _=>decide (its.size≤sizeLine) && ze6 its.toList ss
    | _=>false))=true:=h
   rw [Bool.and_eq_true] at h
   obtain ⟨h1,h2⟩:=h
   cases d:o.data with
   | seq its n=>
    rw [d] at h2
    have h2:(decide (its.size≤sizeLine) && ze6 its.toList ss)=true:=h2
    rw [Bool.and_eq_true,ZBe] at h2
    exact ⟨o,its,n,rfl,beq_iff_eq.mp h1,d,h2.1,zir h2.2⟩
   | _=>rw [d] at h2;cases h2
 | _=>cases h
noncomputable abbrev zyn (K:ZBq) (a:Addr) (D:List (Str×List Str)):Prop:=KTD.tabLook (fun d v=>zof K d v) (fun b=>List.lookup b K) a D=true
section
variable {prog:Program} {w:World} {A:Around} {E:Value->Shared->Prop} {s:Shared} {a:Addr} {δ:Type} {R:δ->Value->Prop} {D:List (Str×δ)} {k:Str} {tk:Tok}
theorem zma {Q:Option Value->Shared->Prop} (T:KTD.TabOf R s.heap a D) (h1:∀d v,KTD.datumAt k D=some d->R d v->Q (some v) { s with toks:=s.toks+1 }) (h2:KTD.datumAt k D=none->Q none { s with toks:=s.toks+1 }):
 wpAny (model prog w) A (dictGet a (.str k tk)) Q E s:=by
 obtain ⟨_,o,es,ep,ho,hc,hd,hr⟩:=T
 unfold dictGet
 try with_reducible refine wpAny_holding ?_
 refine wpAny_bind (wpAny_pyHash_str (wpAny_bind (KTD.kt_dictFind_strs (s:={ s with toks:=s.toks+1 }) ho hd (by obtain ⟨l⟩:=es;simpa using hr.exact) ?_)))
 have hq:Q (findBy (fun k v=>v.isStr k) es k) { s with toks:=s.toks+1 }:=by
  have hf:findBy (fun k v=>v.isStr k) es k=(es.toList.find? fun e=>e.key.isStr k).map (·.val):=by
   obtain ⟨l⟩:=es
   simp [findBy]
  rw [hf]
  cases hat:KTD.datumAt k D with
  | some d=>obtain ⟨v,hv,hfl⟩:=hr.find_some hat;rw [hv];exact h1 d v hat hfl
  | none=>rw [hr.find_none hat];exact h2 hat
 rw [findBy_of_findIdx?] at hq
 cases hi:es.findIdx? fun e=>e.key.isStr k with
 | none=>rw [hi] at hq;exact wpAny_pure hq
 | some i=>rw [hi] at hq;exact wpAny_bind (wpAny_dictEntries (s:={ s with toks:=s.toks+1 }) ho hd (wpAny_pure hq))
theorem znl:MeetsIn prog w (Builtin.«dict.get» ⟨[.ref a,.str k tk],[]⟩) (fun _ R' s=>KTD.TabOf R s.heap a D∧(∀d v,KTD.datumAt k D=some d->R d v->R' (.ok (.ret v)) { s with toks:=s.toks+1 })∧(KTD.datumAt k D=none->R' (.ok (.ret .none)) { s with toks:=s.toks+1 })):=
 .of_wp fun A R' s ⟨T,h1,h2⟩=>by
  show wpAny _ _ (dictGet a (.str k tk)>>=_) _ _ s
  refine wpAny_bind (zma T (fun d v ha hv=>wpAny_pure ⟨v,rfl,h1 d v ha hv⟩) fun hn=>?_)
  show wpAny _ _ (Builtin.Dict.missed a (.str k tk)>>=_) _ _ _
  exact wpAny_bind (wpAny_missed_other T.1 (wpAny_pure ⟨.none,rfl,h2 hn⟩))
end
noncomputable def ztn (K:ZBq) (D:List (Str×List Str)) (td ty:TE):TE:=fun σ H Q=>td σ H fun x H1=>∃a,x=.ref a∧zyn K a D∧ty σ H1 fun y H2=>∃z,y=.str z∧(∀ss,KTD.datumAt z D=some ss->∀b,(∀H',SqT K H' b (ss.map V.str))->Q (.ref b) H2)∧(KTD.datumAt z D=none->Q .non H2)
theorem zpc {X:Cx} {o e:Expr} {apos cpos:Pos} {td ty:TE} {D:List (Str×List Str)} (ho:PE X o td) (he:PE X e ty) (m:M1 X o "get" apos e cpos):PE X (.Call (.Attribute o "get" apos) [e] [] cpos) (ztn X.K D td ty):=by
 intro pins s σ H Q I h
 refine wpAny_Call_method m.base m.few m.line PySem.F.plainAttrs_dict PySem.F.slot_dict_get PySem.F.type_dict_get (thn (ho pins s σ H _ I h) fun u s1 zz=>?_)
 obtain ⟨x,H1,I1,rx,a,ex,d,q1⟩:=zz
 subst ex
 obtain rfl:u=Value.ref a:=rx
 have T:KTD.TabOf (fun (ss:List Str) v=>∃b,v=Value.ref b∧∀H,SqT X.K H b (ss.map V.str)) s1.heap a D:=KTD.tab_of_look (fun d v z=>zim z) I1.kIn d
 obtain ⟨hsm,ob,es,ep,hob,hc,hdd,hrows⟩:=id T
 refine ⟨⟨ob,hob,hc.1⟩,fun b e=>?_,?_⟩
 ·injection e with e
  subst e
  exact ⟨ob,hob,hc.2.1⟩
 rw [m.trees]
 refine Calls.callWith_builtin rfl (Calls.evalArgs_plain (Calls.spliced_cons (thn (he pins s1 σ H1 _ I1 q1) fun iv s2 zz=>Calls.spliced_nil ?_)))
 obtain ⟨y,H2,I2,ry,z,ey,g1,g2⟩:=zz
 subst ey
 obtain ⟨t,rfl⟩:=ry
 have T2:KTD.TabOf (fun (ss:List Str) v=>∃b,v=Value.ref b∧∀H,SqT X.K H b (ss.map V.str)) s2.heap a D:=KTD.tab_of_look (fun d v z=>zim z) I2.kIn d
 refine call_meetsIn PySem.F.slot_dict_get (show s2.TypeIs (.ref a) "dict" from ?_) PySem.F.entry_dict_get (PySem.F.args_dict_get_2 _ _) (znl (D:=D)) ⟨T2,fun ss v ha hv=>?_,fun hn=>?_⟩
 ·obtain ⟨_,ob2,_,_,hob2,hc2,_⟩:=id T2
  exact ⟨ob2,hob2,hc2.1⟩
 ·obtain ⟨b,rfl,hb⟩:=hv
  exact ⟨.ref b,H2,I2.tok _,rfl,g1 ss ha b hb⟩
 ·exact ⟨.non,H2,I2.tok _,rfl,g2 hn⟩
end L2
namespace L2
open PySem PySem.Spec PyProof.Rows
section
variable {X:Cx} {K:ZBq}
noncomputable def zzy (K:ZBq):R2:=fun x y H Q=>∃p q xs ys,x=.ref p∧y=.ref q∧SqT K H p xs∧SqT K H q ys∧xs.all zc0=true∧ys.all zc0=true∧xs.length=ys.length∧Q (.bl (!zsa xs ys)) H
theorem zv1 (hK:X.K=K) (hu:X.A.units+64<cLine):OpR X (compareOp .NotEq) (zzy K):=by
 subst hK
 intro pins s σ H x y v u Q I rx ry h
 obtain ⟨p,q,xs,ys,rfl,rfl,h1,h2,f1,f2,hl,hq⟩:=h
 cases rx
 cases ry
 obtain ⟨us,r1,p1,_⟩:=I.tuple h1
 obtain ⟨vs,r2,p2,_⟩:=I.tuple h2
 have l1:=r1.length
 have l2:=r2.length
 refine SeqAt.RcNeAt.tuples p1 p2 (by omega) (zjz r1 r2 f1 f2) _ _ _ _ ⟨.bl _,H,I,rfl,?_⟩
 rw [ZAi,ZAi,←l1,←l2,←hl,Nat.min_self,ZBn,Bool.and_true]
 exact hq
end
end L2
namespace L2
open PySem
theorem zrx:∀{x:V},zc0 x=true->eqV x x=true
 | .non,_=>rfl
 | .bl b,_=>(ZBn b:(b==b)=true)
 | .int i,_=>(ZBn i:(i==i)=true)
 | .str s,_=>(ZBn s:(s==s)=true)
 | .byt _,h=>by cases h
 | .flt _,h=>by cases h
 | .ref _,h=>by cases h
 | .ty _,h=>by cases h
theorem zi7 {xs:List V} (h:xs.all zc0=true):zsa xs xs=true:=by
 unfold zsa
 rw [ZBc]
 intro j hj
 have hj:=List.mem_range.mp hj
 refine zrx (zgk h (j:=j) ?_)
 rw [ZBg,ZAd hj]
 rfl
theorem zgj:∀{ss:List Str},(ss.map V.str).all zc0=true
 | []=>rfl
 | s::r=>by
  rw [ZAv,List.all_cons,zgj (ss:=r)]
  rfl
end L2
namespace Y0
open PySem L2
noncomputable abbrev zqy:List (Str×List Str):=[("sum",["tie","tie"]),("late",["tie"]),("soon",["tie"]),("sure",["wait"]),("back",["wait","tie"]),("cross",["wait"])]
structure TxtU (K:ZBq) (mg:Str->Option Value):Prop where
 at_:∃u,mg "USED_KINDS"=some (.ref u)∧zyn K u zqy
 tuple:mg "tuple"=none
noncomputable def zec (xs:List MU.zar):List Str:=xs.map fun x=>zds x.tie
inductive zda (F:MU.za4):Str->List MU.zar->Option MU.zar->Prop
 | sum (x y:MU.zar) (hx:x.tie=true) (hy:y.tie=true):zda F "sum" [x,y] (MU.za7 x y)
 | late (x:MU.zar) (hx:x.tie=true):zda F "late" [x] (MU.zbm F x)
 | soon (x:MU.zar) (hx:x.tie=true):zda F "soon" [x] (MU.zbr F x)
 | sure (x:MU.zar) (fa:Nat×Int×Int) (hx:x.tie=false) (hf:F x.b=some fa):zda F "sure" [x] (MU.zbh F x)
 | back (x y:MU.zar) (fa:Nat×Int×Int) (hx:x.tie=false) (hy:y.tie=true) (hf:F x.b=some fa):zda F "back" [x,y] (MU.zay F x y)
 | cross (x:MU.zar) (fa:Nat×Int×Int) (hx:x.tie=false) (hf:F x.b=some fa):zda F "cross" [x] (MU.za2 F x)
theorem zda.kinds {F:MU.za4} {word:Str} {xs:List MU.zar} {o:Option MU.zar} (h:zda F word xs o):PyProof.Rows.KTD.datumAt word zqy=some (zec xs)∧xs.length≤2:=by
 cases h with
 | sum x y hx hy=>refine ⟨?_,ZAc _⟩;unfold zec;rw [ZAv,ZAv,List.map_nil,hx,hy];decide+kernel
 | late x hx=>refine ⟨?_,Nat.le_succ 1⟩;unfold zec;rw [ZAv,List.map_nil,hx];decide+kernel
 | soon x hx=>refine ⟨?_,Nat.le_succ 1⟩;unfold zec;rw [ZAv,List.map_nil,hx];decide+kernel
 | sure x fa hx hf=>refine ⟨?_,Nat.le_succ 1⟩;unfold zec;rw [ZAv,List.map_nil,hx];decide+kernel
 | back x y fa hx hy hf=>refine ⟨?_,ZAc _⟩;unfold zec;rw [ZAv,ZAv,List.map_nil,hx,hy];decide+kernel
 | cross x fa hx hf=>refine ⟨?_,Nat.le_succ 1⟩;unfold zec;rw [ZAv,List.map_nil,hx];decide+kernel
noncomputable def zuq (H:Hp) (l:Addr) (ps:List Addr) (xs:List MU.zar):Prop:=H l=some (.lst (ps.map V.ref))∧Paired (zbf H) ps xs
noncomputable def zhs:Sp:=fun vs H Q _=>∃d word ul ps F xs o,vs=[.ref d,.str word,.ref ul]∧zcw H d F∧zuq H ul ps xs∧zda F word xs o∧zgr H Q o
theorem zgr.same {H H1:Hp} {Q:VK} {o:Option MU.zar} (g:zgr H Q o) (s:zbu H H1):zgr H1 Q o:=⟨fun e H' s'=>g.1 e H' (s.trans s'),fun x e r H' hr s' h=>g.2 x e r H' (s.free hr) (s.trans s') h⟩
section
variable {P:Program} {w:World} {K:ZBq} {mg:Str->Option Value} {base:Heap}
theorem zzl:zat ["falls","word","used"] ["falls","word","used"] (zai sP_what_follows):=⟨rfl,rfl,rfl,by decide+kernel,rfl,by decide+kernel,by decide+kernel⟩
theorem zAi:zcg (zai sP_what_follows) ["falls","word","used"] (fsc [(".0",.local),("what",.local)]) ["what"] [none]:=⟨rfl,by decide+kernel,by decide+kernel,by decide+kernel,rfl,by decide+kernel⟩
theorem zAb:(["what"]:List Str).Nodup:=by decide+kernel
section
seal L2.PE L2.PA L2.PT L2.PS L2.PSs L2.PG L2.PGs L2.PI L2.PO
theorem ok_follows {f f1 f2 f3 f4 f5 f6:Addr} {fd d1 d2 d3 d4 d5 d6:FuncData} (F:Fn K mg "what_follows" sP_what_follows ["falls","word","used"] f fd) (T:TxtU K mg)
 (F1:Fn K mg "by_sum" sP_by_sum ["first","second"] f1 d1) (G1:zbj P w K mg base CX0 1 f1 d1 ["first","second"] zvi)
 (F2:Fn K mg "by_late" sP_by_late ["falls","tie"] f2 d2) (G2:zbj P w K mg base CX0 1 f2 d2 ["falls","tie"] zss)
 (F3:Fn K mg "by_soon" sP_by_soon ["falls","tie"] f3 d3) (G3:zbj P w K mg base CX0 1 f3 d3 ["falls","tie"] zsm)
 (F4:Fn K mg "by_sure" sP_by_sure ["falls","wait"] f4 d4) (G4:zbj P w K mg base CX0 1 f4 d4 ["falls","wait"] zsk)
 (F5:Fn K mg "by_back" sP_by_back ["falls","wait","tie"] f5 d5) (G5:zbj P w K mg base CX0 1 f5 d5 ["falls","wait","tie"] zsy)
 (F6:Fn K mg "by_cross" sP_by_cross ["falls","wait"] f6 d6) (G6:zbj P w K mg base CX0 1 f6 d6 ["falls","wait"] zow):
 zbj P w K mg base CX0 2 f fd ["falls","word","used"] zhs:=by
 obtain ⟨u,mU,tabU⟩:=T.at_
 refine F.F.ok zzl (fun vs H Q E h=>?_) (fun cdv A outer s H vs Q E hr h=>?_)
 ·obtain ⟨_,_,_,_,_,_,_,rfl,_⟩:=h
  rfl
 ·obtain ⟨d,word,ul,ps,Fa,xs,o,rfl,FA,⟨hul,hpx⟩,ask,G⟩:=h
  refine ⟨_,zag (zbk (zak (zv1 (K:=K) rfl hr.units) (zd3 zgm (by rfl) T.tuple (by decide+kernel) (zaa (zc7 rfl (zb2 (pv 2)) zAi (fun cl ex s0 H0=>⟨zap (i:=0) zAb rfl (Or.inl rfl),zdi,ixT (pv 0)⟩)) zac))
   (zpc (D:=zqy) (zgv (v:=.ref u) rfl mU rfl) (pv 1) ⟨rfl,rfl,rfl,rfl⟩) (zam _)) zdo zas)
   (zag (zbk (zak zbv (pv 1) zax (zam _)) (zaf (zaq (zao G1 hr rfl F1.g F1.F.kp F1.b .nil za1 (zaa (za9 zav (pv 2) zah (fun _ _=>rfl)) (zaa (za9 zav (pv 2) zah (fun _ _=>rfl)) zac))))) zas)
   (zag (zbk (zak zbv (pv 1) zax (zam _)) (zaf (zaq (zao G2 hr rfl F2.g F2.F.kp F2.b .nil za1 (zaa (pv 0) (zaa (za9 zav (pv 2) zah (fun _ _=>rfl)) zac))))) zas)
   (zag (zbk (zak zbv (pv 1) zax (zam _)) (zaf (zaq (zao G3 hr rfl F3.g F3.F.kp F3.b .nil za1 (zaa (pv 0) (zaa (za9 zav (pv 2) zah (fun _ _=>rfl)) zac))))) zas)
   (zag (zbk (zak zbv (pv 1) zax (zam _)) (zaf (zaq (zao G4 hr rfl F4.g F4.F.kp F4.b .nil za1 (zaa (pv 0) (zaa (za9 zav (pv 2) zah (fun _ _=>rfl)) zac))))) zas)
   (zag (zbk (zak zbv (pv 1) zax (zam _)) (zaf (zaq (zao G5 hr rfl F5.g F5.F.kp F5.b .nil za1 (zaa (pv 0) (zaa (za9 zav (pv 2) zah (fun _ _=>rfl)) (zaa (za9 zav (pv 2) zah (fun _ _=>rfl)) zac)))))) zas)
   (zaf (zaq (zao G6 hr rfl F6.g F6.F.kp F6.b .nil za1 (zaa (pv 0) (zaa (za9 zav (pv 2) zah (fun _ _=>rfl)) zac)))))))))),?_⟩
  obtain ⟨hk,hl2⟩:=ask.kinds
  have hlen:ps.length=xs.length:=Paired.length hpx
  refine fun N1 c1=>⟨_,rfl,ul,rfl,⟨_,SqL.of hul⟩,fun Da hDa=>?_⟩
  refine zd7 (xs:=ps.map V.ref) (fun j σ' H'=>∃v,σ'=[v]∧H' Da=some (.lst ((zec (xs.take j)).map V.str))∧zbu H H') ⟨none,rfl,zab,zad hDa⟩ ?_ ?_ ?_
  ·rintro j σ' H2 _ ⟨v,rfl,_,s2⟩
   exact SqL.of (s2 _ _ hul)
  ·rintro j x σ' H2 hx ⟨v,rfl,e2,s2⟩
   rw [ZAg] at hx
   cases q:ps[j]? with
   | none=>rw [q] at hx;cases hx
   | some p=>
    rw [q] at hx
    cases hx
    obtain ⟨x,hxj,hw⟩:=paired_get hpx q
    have hj:j<xs.length:=(ZAb.mp hxj).1
    refine ⟨_,rfl,rdT (s2 _ _ hw) rfl ⟨_,e2,?_,_,rfl,?_,fun b o e=>?_⟩⟩
    ·unfold zec
     rw [ZAa,ZAa,ZA1]
     exact zaz (by omega)
    ·unfold zec
     rw [zab,ZBa,hxj,ZAp,ZAp]
     rfl
    ·rw [zaj (zae e hDa)]
     exact s2 _ _ e
  rintro σ' H2 ⟨v,rfl,e2,s2⟩
  have hall:xs.take (ps.map V.ref).length=xs:=by rw [ZAa,hlen];exact ZAy
  rw [hall] at e2
  refine ⟨Da,_,rfl,.inl ⟨SqL.of e2,fun t ht=>?_⟩⟩
  have s3:=s2.trans (zad (o:=.tup ((zec xs).map V.str)) ht)
  have e3:upd H2 t (.tup ((zec xs).map V.str)) t=some (.tup ((zec xs).map V.str)):=zab
  generalize upd H2 t (.tup ((zec xs).map V.str))=H3 at*
  refine ⟨u,rfl,tabU,_,rfl,word,rfl,fun ss hss b hb=>?_,fun hn=>by rw [hk] at hn;cases hn⟩
  rw [hk] at hss
  cases hss
  refine ⟨t,b,_,_,rfl,rfl,SqT.of e3,hb H3,zgj,zgj,rfl,_,rfl,zed (by rw [zi7 zgj];rfl) (c1 _ _ ?_)⟩
  clear c1 N1
  have FA3:=FA.same s3
  have G3':=G.same s3
  have hul3:=s3 _ _ hul
  have hpx3:Paired (zbf H3) ps xs:=zan hpx fun p x e=>e.same s3
  cases ask with
  | sum x y hx hy=>
   cases hpx3 with
   | cons w1 r=>cases r with
    | cons w2 r=>cases r
                 refine fun N1 c1=>⟨_,rfl,rfl,_,rfl,zct (by decide+kernel) ?_⟩
                 exact ⟨_,rfl,rdL hul3 (zby (j:=0) rfl) ⟨_,rfl,rdL hul3 (zby (j:=1) rfl) ⟨_,_,x,y,rfl,w1,w2,hx,hy,G3'⟩⟩⟩
  | late x hx=>
   cases hpx3 with
   | cons w1 r=>cases r
                refine fun N1 c1=>⟨_,rfl,rfl,_,rfl,zed (by decide+kernel) (c1 _ _ ?_)⟩
                refine fun N1 c1=>⟨_,rfl,rfl,_,rfl,zct (by decide+kernel) ?_⟩
                exact ⟨_,rfl,_,rfl,rdL hul3 (zby (j:=0) rfl) ⟨d,_,Fa,x,rfl,FA3,w1,hx,G3'⟩⟩
  | soon x hx=>
   cases hpx3 with
   | cons w1 r=>cases r
                refine fun N1 c1=>⟨_,rfl,rfl,_,rfl,zed (by decide+kernel) (c1 _ _ ?_)⟩
                refine fun N1 c1=>⟨_,rfl,rfl,_,rfl,zed (by decide+kernel) (c1 _ _ ?_)⟩
                refine fun N1 c1=>⟨_,rfl,rfl,_,rfl,zct (by decide+kernel) ?_⟩
                exact ⟨_,rfl,_,rfl,rdL hul3 (zby (j:=0) rfl) ⟨d,_,Fa,x,rfl,FA3,w1,hx,G3'⟩⟩
  | sure x fa hx hf=>
   cases hpx3 with
   | cons w1 r=>cases r
                refine fun N1 c1=>⟨_,rfl,rfl,_,rfl,zed (by decide+kernel) (c1 _ _ ?_)⟩
                refine fun N1 c1=>⟨_,rfl,rfl,_,rfl,zed (by decide+kernel) (c1 _ _ ?_)⟩
                refine fun N1 c1=>⟨_,rfl,rfl,_,rfl,zed (by decide+kernel) (c1 _ _ ?_)⟩
                refine fun N1 c1=>⟨_,rfl,rfl,_,rfl,zct (by decide+kernel) ?_⟩
                exact ⟨_,rfl,_,rfl,rdL hul3 (zby (j:=0) rfl) ⟨d,_,Fa,x,fa,rfl,FA3,w1,hx,hf,G3'⟩⟩
  | back x y fa hx hy hf=>
   cases hpx3 with
   | cons w1 r=>cases r with
    | cons w2 r=>cases r
                 refine fun N1 c1=>⟨_,rfl,rfl,_,rfl,zed (by decide+kernel) (c1 _ _ ?_)⟩
                 refine fun N1 c1=>⟨_,rfl,rfl,_,rfl,zed (by decide+kernel) (c1 _ _ ?_)⟩
                 refine fun N1 c1=>⟨_,rfl,rfl,_,rfl,zed (by decide+kernel) (c1 _ _ ?_)⟩
                 refine fun N1 c1=>⟨_,rfl,rfl,_,rfl,zed (by decide+kernel) (c1 _ _ ?_)⟩
                 refine fun N1 c1=>⟨_,rfl,rfl,_,rfl,zct (by decide+kernel) ?_⟩
                 exact ⟨_,rfl,_,rfl,rdL hul3 (zby (j:=0) rfl) ⟨_,rfl,rdL hul3 (zby (j:=1) rfl) ⟨d,_,_,Fa,x,y,fa,rfl,FA3,w1,w2,hx,hy,hf,G3'⟩⟩⟩
  | cross x fa hx hf=>
   cases hpx3 with
   | cons w1 r=>cases r
                refine fun N1 c1=>⟨_,rfl,rfl,_,rfl,zed (by decide+kernel) (c1 _ _ ?_)⟩
                refine fun N1 c1=>⟨_,rfl,rfl,_,rfl,zed (by decide+kernel) (c1 _ _ ?_)⟩
                refine fun N1 c1=>⟨_,rfl,rfl,_,rfl,zed (by decide+kernel) (c1 _ _ ?_)⟩
                refine fun N1 c1=>⟨_,rfl,rfl,_,rfl,zed (by decide+kernel) (c1 _ _ ?_)⟩
                refine fun N1 c1=>⟨_,rfl,rfl,_,rfl,zed (by decide+kernel) (c1 _ _ ?_)⟩
                exact ⟨_,rfl,_,rfl,rdL hul3 (zby (j:=0) rfl) ⟨d,_,Fa,x,fa,rfl,FA3,w1,hx,hf,G3'⟩⟩
end
end
end Y0
namespace L2
open PySem
theorem zb0 {f g:Str} {x v:V} {r:List (Str×V)} (h:¬g=f):zbz f v ((g,x)::r)=(g,x)::zbz f v r:=if_neg h
theorem zq9 {f:Str} {x v:V} {r:List (Str×V)}:zbz f v ((f,x)::r)=(f,v)::r:=if_pos rfl
end L2
namespace Y0
open PySem L2
structure zg5 (K:ZBq) (mg:Str->Option Value) (C:Addr):Prop where
 cl:Cls K C
 nM:zd9 K C "many"
 nB:zd9 K C "by_end"
 nR:zd9 K C "rows"
 nE:zd9 K C "best"
 nX:zd9 K C "bar"
 len:mg "len"=none
 range:mg "range"=none
noncomputable def zd8 (n:Nat) (be rl bd:Addr) (bar:V):List (Str×V):=[("many",.int (n:Int)),("by_end",.ref be),("rows",.ref rl),("best",.ref bd),("bar",bar)]
theorem cl1:(("by_end":Str)=="many")=false:=by decide+kernel
theorem cl2:(("rows":Str)=="many")=false:=by decide+kernel
theorem cl3:(("rows":Str)=="by_end")=false:=by decide+kernel
theorem cl4:(("best":Str)=="many")=false:=by decide+kernel
theorem cl5:(("best":Str)=="by_end")=false:=by decide+kernel
theorem cl6:(("best":Str)=="rows")=false:=by decide+kernel
theorem cl7:(("bar":Str)=="many")=false:=by decide+kernel
theorem cl8:(("bar":Str)=="by_end")=false:=by decide+kernel
theorem cl9:(("bar":Str)=="rows")=false:=by decide+kernel
theorem zAs:(("bar":Str)=="best")=false:=by decide+kernel
section
variable {n:Nat} {be rl bd:Addr} {bar:V}
theorem ztb:(zd8 n be rl bd bar).lookup ("many":Str)=some (.int (n:Int)):=by unfold zd8;rw [ZAo,ZBn]
theorem zwn:(zd8 n be rl bd bar).lookup ("by_end":Str)=some (.ref be):=by unfold zd8;rw [ZAo,cl1,ZAo,ZBn]
theorem zgn:(zd8 n be rl bd bar).lookup ("rows":Str)=some (.ref rl):=by unfold zd8;rw [ZAo,cl2,ZAo,cl3,ZAo,ZBn]
theorem zfw:(zd8 n be rl bd bar).lookup ("best":Str)=some (.ref bd):=by unfold zd8;rw [ZAo,cl4,ZAo,cl5,ZAo,cl6,ZAo,ZBn]
theorem zr4:(zd8 n be rl bd bar).lookup ("bar":Str)=some bar:=by unfold zd8;rw [ZAo,cl7,ZAo,cl8,ZAo,cl9,ZAo,zAs,ZAo,ZBn]
theorem znx {m:Str} (h1:(m=="many")=false) (h2:(m=="by_end")=false) (h3:(m=="rows")=false) (h4:(m=="best")=false) (h5:(m=="bar")=false):(zd8 n be rl bd bar).lookup m=none:=by
 unfold zd8
 rw [ZAo,h1,ZAo,h2,ZAo,h3,ZAo,h4,ZAo,h5]
 rfl
theorem zyh {v:V}:zbz "bar" v (zd8 n be rl bd bar)=zd8 n be rl bd v:=by
 unfold zd8
 rw [zb0 (by decide+kernel),zb0 (by decide+kernel),zb0 (by decide+kernel),zb0 (by decide+kernel),zq9]
end
noncomputable def zyk:Option Nat->V
 | none=>.non
 | some i=>.int (i:Int)
noncomputable def zdb:MU.Wd->Str
 | .told=>"told"
 | .sum=>"sum"
 | .late=>"late"
 | .soon=>"soon"
 | .sure=>"sure"
 | .back=>"back"
 | .cross=>"cross"
noncomputable def zc9 (k:MU.Key):List Key:=[.inr (zds k.1),.inl (k.2.1:Int),.inl (k.2.2:Int)]
theorem zk3 {a b:Bool} (h:zds a=zds b):a=b:=by
 revert h
 cases a<;>cases b<;>decide+kernel
theorem zm4 {k k':MU.Key} (h:zc9 k=zc9 k'):k=k':=by
 obtain ⟨t,a,b⟩:=k
 obtain ⟨t',a',b'⟩:=k'
 unfold zc9 at h
 injection h with h1 h
 injection h with h2 h
 injection h with h3 _
 have e1:=zk3 (Sum.inr.inj h1)
 have e2:=Int.ofNat.inj (Sum.inl.inj h2)
 have e3:=Int.ofNat.inj (Sum.inl.inj h3)
 have e1:t=t':=e1
 have e2:a=a':=e2
 have e3:b=b':=e3
 rw [e1,e2,e3]
noncomputable def zf4 (H:Hp) (q:Addr) (r:MU.Row):Prop:=∃pw pu,H q=some (.tup [.ref pw,.str (zdb r.word),.ref pu])∧zbf H pw r.what∧H pu=some (.tup (r.used.map fun i:Nat=>V.int (i:Int)))
theorem zf4.same {H H':Hp} {q:Addr} {r:MU.Row} (h:zf4 H q r) (s:zbu H H'):zf4 H' q r:=by
 obtain ⟨pw,pu,h1,h2,h3⟩:=h
 exact ⟨pw,pu,s _ _ h1,s _ _ h2,s _ _ h3⟩
structure Clo (C:Addr) (H:Hp) (p be rl bd:Addr) (n:Nat) (F:MU.za4) (st:MU.St):Prop where
 ins:∃dx,H p=some (.ins C dx (zd8 n be rl bd (zyk st.bar)))
 falls:zcw H be F
 rows:∃qs,H rl=some (.lst (qs.map V.ref))∧Paired (zf4 H) qs st.rows
 best:∃kvs,H bd=some (.dT kvs)∧(kvs.length≤st.rows.length∧∀kv∈kvs,∃k:MU.Key,kv.1=zc9 k)∧∀k:MU.Key,zfg kvs (zc9 k)=(st.best k).map fun i:Nat=>V.int (i:Int)
theorem Clo.same {C p be rl bd:Addr} {H H':Hp} {n:Nat} {F:MU.za4} {st:MU.St} (h:Clo C H p be rl bd n F st) (s:zbu H H'):Clo C H' p be rl bd n F st:=by
 obtain ⟨⟨dx,h1⟩,h2,⟨qs,h3,h4⟩,⟨kvs,h5,h6,h7⟩⟩:=h
 exact ⟨⟨dx,s _ _ h1⟩,h2.same s,⟨qs,s _ _ h3,zan h4 fun q r e=>e.same s⟩,⟨kvs,s _ _ h5,h6,h7⟩⟩
noncomputable def zb7 (p rl bd:Addr) (H H':Hp):Prop:=∀b o,H b=some o->b≠p->b≠rl->b≠bd->H' b=some o
theorem zb7.of {p rl bd:Addr} {H H':Hp} (s:zbu H H'):zb7 p rl bd H H':=fun b o e _ _ _=>s _ _ e
theorem zb7.trans {p rl bd:Addr} {H H1 H2:Hp} (a:zb7 p rl bd H H1) (b:zb7 p rl bd H1 H2):zb7 p rl bd H H2:=fun c o e h1 h2 h3=>b c o (a c o e h1 h2 h3) h1 h2 h3
open Classical in
noncomputable def zsq (C:Addr):Sp:=fun vs H Q _=>∃p be rl bd q n F st x,vs=[.ref p,.ref q]∧Clo C H p be rl bd n F st∧MU.zdw n st∧zbf H q x∧∀H',zbu H H'->Q (.bl (decide (MU.zg6 st x))) H'
theorem zjh {H:Hp} {qs:List Addr} {rows:List MU.Row} (h:Paired (zf4 H) qs rows) {i:Nat} {x:MU.zar} (hx:(rows[i]?).map (·.what)=some x):∃q r pw pu,qs[i]?=some q∧rows[i]?=some r∧r.what=x∧H q=some (.tup [.ref pw,.str (zdb r.word),.ref pu])∧zbf H pw x∧H pu=some (.tup (r.used.map fun i:Nat=>V.int (i:Int))):=by
 cases hr:rows[i]? with
 | none=>rw [hr] at hx;cases hx
 | some r=>
  rw [hr] at hx
  have hx:some r.what=some x:=hx
  cases hx
  have hl:=Paired.length h
  have hi:=(ZAb.mp hr).1
  obtain ⟨q,hq⟩:∃q,qs[i]?=some q:=⟨_,ZAd (by omega)⟩
  obtain ⟨r',hr',⟨pw,pu,e1,e2,e3⟩⟩:=paired_get h hq
  rw [hr] at hr'
  cases hr'
  exact ⟨q,r,pw,pu,hq,rfl,rfl,e1,e2,e3⟩
theorem zya {x:MU.zar}:znv (zdx x) none (some 3)=(zc9 x.key).map kV:=by
 unfold znv zdx
 rw [HT.sIx_none,show (some (3:Int))=some ((3:Nat):Int) from rfl,HT.sIx_nat]
 rfl
theorem zpn {x:MU.zar}:¬(HT.sIx (zdx x).length 0 none=0∧HT.sIx (zdx x).length (zdx x).length (some 3)=(zdx x).length):=fun z=>by
 have h:=z.2
 rw [show (some (3:Int))=some ((3:Nat):Int) from rfl,HT.sIx_nat] at h
 have e:(zdx x).length=4:=rfl
 rw [e] at h
 cases h
section
variable {P:Program} {w:World} {K:ZBq} {mg:Str->Option Value} {base:Heap}
theorem zxn:zat ["self","what","key","known"] ["self","what"] (zai sC_Closing_is_news):=⟨rfl,rfl,rfl,by decide+kernel,rfl,by decide+kernel,by decide+kernel⟩
section
seal L2.PE L2.PA L2.PT L2.PS L2.PSs L2.PG L2.PGs L2.PI L2.PO
theorem ok_news {f C:Addr} {fd:FuncData} (F:Fun K "is_news" "Closing.is_news" sC_Closing_is_news f fd) (T:zg5 K mg C):zbj P w K mg base CX0 1 f fd ["self","what"] (zsq C):=by
 refine F.ok zxn (fun vs H Q E h=>?_) (fun cdv A outer s H vs Q E hr h=>?_)
 ·obtain ⟨_,_,_,_,_,_,_,_,_,rfl,_⟩:=h
  rfl
 ·obtain ⟨p,be,rl,bd,q,n,Fa,st,x,rfl,c,g,hw,k⟩:=h
  have hu:=zfc hr
  refine ⟨_,zag (zbk (PW.pt (zce (zak zbv (ixT (pv 1)) zax (zam _)) (zde (zak zbv (ixT (pv 1)) (ixT (pv 1)) (zam _)))))
   (zaf (zaq (zcp zg4 (ixT (pv 1)) zah (zam _)))) zas)
   (zag (za0 (i:=2) zxn.nd rfl (Or.inl rfl) (zez zmt (pv 1) zf0 (zfz zah)))
   (zag (zbk (zhu (zgb hu (pv 2) (zcc (pv 0) rfl)) (by with_unfolding_all rfl)) (zaf (zaq ze1)) zas)
   (zag (za0 (i:=3) zxn.nd rfl (Or.inl rfl) (za9 zbn (za9 zav (zcc (pv 0) rfl) (zc6 hu (zcc (pv 0) rfl) (pv 2) (fun _ _=>rfl)) (fun _ _=>rfl)) zah (fun _ _=>rfl)))
   (zaf (zaq (zrd (zak zbv (ixT (pv 1)) zax (zam _)) (zcp zg4 (ixT (pv 1)) (ixT (pv 3)) (zam _)) (zcp zri (ixT (pv 1)) (ixT (pv 3)) (zam _)))))))),?_⟩
  obtain ⟨dx,hp⟩:=c.ins
  obtain ⟨qs,hrl,hrows⟩:=c.rows
  obtain ⟨kvs,hbd,hkl,hkv⟩:=c.best
  have kb:∀(H':Hp) (b:Bool),zbu H H'->(b=true↔MU.zg6 st x)->Q (.bl b) H':=fun H' b s' e=>by
   have:=k H' s'
   have e2:b=decide (MU.zg6 st x):=by
    by_cases z:MU.zg6 st x
    ·rw [e.mpr z];simp [z]
    ·cases b with
     | true=>exact absurd (e.mp rfl) z
     | false=>simp [z]
   rw [e2]
   exact this
  refine fun N1 c1=>⟨_,rfl,rdT hw rfl ⟨rfl,_,rfl,?_⟩⟩
  rw [zhh]
  have rest:¬(x.tie=true∧x.a=x.b)->N1 (L2.zdm ["self","what","key","known"] [.ref p,.ref q]) H:=fun hno=>by
   refine c1 _ _ ?_
   refine fun N2 c2=>⟨_,rfl,_,rfl,q,_,rfl,SqT.of hw,zpn,fun kt hkt=>c2 _ _ ?_⟩
   rw [zya]
   have s1:=zad (o:=.tup ((zc9 x.key).map kV)) hkt
   have e1:upd H kt (.tup ((zc9 x.key).map kV)) kt=some (.tup ((zc9 x.key).map kV)):=zab
   generalize upd H kt (.tup ((zc9 x.key).map kV))=H1 at*
   have dg:=ze7.t (k:=zc9 x.key) (s1 _ _ hbd) e1
   rw [hkv] at dg
   refine fun N3 c3=>⟨_,rfl,_,rfl,p,C,dx,_,_,rfl,s1 _ _ hp,T.cl,T.nE,zfw,bd,_,rfl,dg,_,rfl,?_⟩
   have nw:MU.zg6 st x↔∀u,MU.val st x.key=some u->MU.zbs x.tie x.v u:=by
    unfold MU.zg6
    rw [if_neg hno]
   cases hb:st.best x.key with
   | none=>
    refine zih (kb H1 true s1 ⟨fun _=>nw.mpr fun u hu'=>?_,fun _=>rfl⟩)
    unfold MU.val at hu'
    rw [hb] at hu'
    cases hu'
   | some i=>
    rw [hb] at dg
    refine zeh (c3 _ _ ?_)
    obtain ⟨u,hu1,hu2⟩:=g.at_ _ _ hb
    obtain ⟨q',r,pw,pu,g1,g2,g3,g4,g5,g6⟩:=zjh hrows hu1
    have hat:atI (qs.map V.ref) (i:Int)=some (.ref q'):=zby (by rw [ZAg,g1];rfl)
    refine fun N4 c4=>⟨_,rfl,p,C,dx,_,_,rfl,s1 _ _ hp,T.cl,T.nR,zgn,_,rfl,p,C,dx,_,_,rfl,s1 _ _ hp,T.cl,T.nE,zfw,_,rfl,bd,_,rfl,dg,?_⟩
    refine ⟨rl,_,_,_,rfl,rfl,s1 _ _ hrl,hat,rdT (s1 _ _ g4) rfl (c4 _ _ ?_)⟩
    have hv:=MU.zc2 hb hu1
    refine ⟨_,rfl,rdT (s1 _ _ hw) rfl ⟨rfl,_,rfl,?_⟩⟩
    rw [zhh]
    have nw2:MU.zg6 st x↔MU.zbs x.tie x.v u.v:=nw.trans ⟨fun z=>z _ hv,fun z u' hu'=>by rw [hv] at hu';cases hu';exact z⟩
    cases ht:x.tie with
    | true=>
     refine zih ⟨_,rfl,rdT (s1 _ _ hw) rfl ⟨_,rfl,rdT (s1 _ _ g5) rfl ⟨_,_,rfl,rfl,kb _ _ s1 ?_⟩⟩⟩
     rw [nw2,ht,ZBe]
     unfold MU.zbs
     rw [if_pos rfl]
    | false=>
     refine zeh ⟨_,rfl,rdT (s1 _ _ hw) rfl ⟨_,rfl,rdT (s1 _ _ g5) rfl ⟨_,_,rfl,rfl,kb _ _ s1 ?_⟩⟩⟩
     rw [nw2,ht,ZBe]
     unfold MU.zbs
     rw [if_neg (by decide)]
  cases ht:x.tie with
  | false=>exact zeh (zeh (rest fun z=>by rw [ht] at z;cases z.1))
  | true=>
   refine zih ⟨_,rfl,rdT hw rfl ⟨_,rfl,rdT hw rfl ⟨rfl,_,rfl,?_⟩⟩⟩
   rw [zln]
   by_cases e:x.a=x.b
   ·refine zgi e ⟨_,rfl,rdT hw rfl ⟨_,_,rfl,rfl,kb H _ (zbu.refl _) ?_⟩⟩
    rw [ZBe]
    unfold MU.zg6
    rw [if_pos ⟨ht,e⟩]
   ·exact zep e (rest fun z=>e z.2)
end
end
end Y0
namespace Y0
open PySem L2
noncomputable def zoo (C:Addr):Sp:=fun vs H Q _=>∃p be rl bd q pu n F st x wd us,vs=[.ref p,.ref q,.str (zdb wd),.ref pu]∧Clo C H p be rl bd n F st∧MU.zdw n st∧zbf H q x∧H pu=some (.tup (us.map fun i:Nat=>V.int (i:Int)))∧st.rows.length≤16500000∧
 ∀H',Clo C H' p be rl bd n F (MU.take st x wd us)->zb7 p rl bd H H'->Q .non H'
theorem zqk {o:Option Nat}:decide (zyk o=V.non)=decide (o=none):=by
 cases o with
 | none=>rfl
 | some i=>exact (ZBp fun z=>nomatch z).trans (ZBp fun z=>nomatch z).symm
theorem zqz {st:MU.St} {x:MU.zar} {wd:MU.Wd} {us:List Nat} (h:MU.zg6 st x):MU.take st x wd us={ rows:=st.rows++[⟨x,wd,us⟩],best:=fun k=>if k=x.key then some st.rows.length else st.best k,bar:=if st.bar=none∧MU.zho x then some st.rows.length else st.bar }:=by
 unfold MU.take
 rw [if_pos h]
theorem zrl {kvs:List (List Key×V)} {k:List Key} {v:V} {kv:List Key×V} (h:kv∈ze9 kvs k v):kv.1=k∨∃kv0∈kvs,kv.1=kv0.1:=by
 unfold ze9 at h
 split at h
 ·obtain ⟨kv0,h0,rfl⟩:=ZA7.mp h
  refine .inr ⟨kv0,h0,?_⟩
  split<;>rfl
 ·rcases ZA4.mp h with h | h
  ·exact .inr ⟨kv,h,rfl⟩
  ·rw [ZAt.mp h];exact .inl rfl
theorem zkp {n:Nat} (h:n≤16500000):n<sizeLine:=Nat.lt_of_le_of_lt h (by decide)
section
variable {P:Program} {w:World} {K:ZBq} {mg:Str->Option Value} {base:Heap}
theorem zzo:zat ["self","what","word","used"] ["self","what","word","used"] (zai sC_Closing_take):=⟨rfl,rfl,rfl,by decide+kernel,rfl,by decide+kernel,by decide+kernel⟩
section
seal L2.PE L2.PA L2.PT L2.PS L2.PSs L2.PG L2.PGs L2.PI L2.PO
theorem ok_take {f C fN fB:Addr} {fd fdN fdB:FuncData} (F:Fun K "take" "Closing.take" sC_Closing_take f fd) (T:zg5 K mg C)
 (mN:zj6 K C "is_news" fN) (bN:zdc K fdN ["self","what"] []) (GN:zbj P w K mg base CX0 1 fN fdN ["self","what"] (zsq C))
 (FB:Fn K mg "bars_every_hand" sP_bars_every_hand ["what"] fB fdB) (GB:zbj P w K mg base CX0 1 fB fdB ["what"] zoy):zbj P w K mg base CX0 2 f fd ["self","what","word","used"] (zoo C):=by
 refine F.ok zzo (fun vs H Q E h=>?_) (fun cdv A outer s H vs Q E hr h=>?_)
 ·obtain ⟨_,_,_,_,_,_,_,_,_,_,_,_,rfl,_⟩:=h
  rfl
 ·obtain ⟨p,be,rl,bd,q,pu,n,Fa,st,x,wd,us,rfl,c,g,hw,hpu,hlen,k⟩:=h
  have hu:=zfc hr
  refine ⟨_,zaf (zbk (zdv (zb9 (pv 0) T.cl mN GN hr bN .nil za1 (zaa (pv 1) zac)))
   (zag (zjn hu (zcc (pv 0) rfl) (zez zmt (pv 1) zf0 (zfz zah)) (zau za5 (by rfl) T.len PySem.boot_len (zaa (zcc (pv 0) rfl) zac)) rfl)
   (zag (ziv (zbk (PW.pt (zce (zak zs2 (zcc (pv 0) rfl) ze4 (zam _)) (zde (zdv (zao GB hr rfl FB.g FB.F.kp FB.b .nil za1 (zaa (pv 1) zac)))))) (zaf (zfv (pv 0) (zau za5 (by rfl) T.len PySem.boot_len (zaa (zcc (pv 0) rfl) zac)) rfl)) zas))
   (zaf (zbt (zjp PySem.F.plainAttrs_list PySem.F.slot_list_append PySem.F.type_list_append zcs (zcc (pv 0) rfl) (zaa (za8 (zaa (pv 1) (zaa (pv 2) (zaa (pv 3) zac)))) zac)))))) zas),?_⟩
  obtain ⟨dx,hp⟩:=c.ins
  refine ⟨_,rfl,p,dx,_,rfl,hp,znx (by decide+kernel) (by decide+kernel) (by decide+kernel) (by decide+kernel) (by decide+kernel),_,rfl,p,be,rl,bd,q,n,Fa,st,x,rfl,c,g,hw,fun H1 s1=>⟨_,rfl,?_⟩⟩
  by_cases hn:MU.zg6 st x
  ·refine zct (by simp [hn]) ?_
   have c1:=c.same s1
   have hw1:=s1 _ _ hw
   have hpu1:=s1 _ _ hpu
   obtain ⟨dx1,hp1⟩:=c1.ins
   obtain ⟨qs,hrl,hrows⟩:=c1.rows
   obtain ⟨kvs,hbd,hkl,hkv⟩:=c1.best
   have hql:qs.length=st.rows.length:=Paired.length hrows
   refine fun N2 c2=>⟨_,rfl,p,C,dx1,_,_,rfl,hp1,T.cl,T.nR,zgn,rl,_,rfl,.inl (SqL.of hrl),_,rfl,p,C,dx1,_,_,rfl,hp1,T.cl,T.nE,zfw,_,rfl,_,rfl,q,_,rfl,SqT.of hw1,zpn,fun kt hkt=>?_⟩
   rw [zya,ZAa,hql]
   have s2:=zad (o:=.tup ((zc9 x.key).map kV)) hkt
   have e2:upd H1 kt (.tup ((zc9 x.key).map kV)) kt=some (.tup ((zc9 x.key).map kV)):=zab
   generalize upd H1 kt (.tup ((zc9 x.key).map kV))=H2 at*
   refine ⟨bd,_,rfl,zqs.t (k:=zc9 x.key) (s2 _ _ hbd) e2 (zkp (by have:=hkl.1;omega)),c2 _ _ ?_⟩
   have k3:∀b o,H1 b=some o->b≠bd->upd H2 bd (.dT (ze9 kvs (zc9 x.key) (.int (st.rows.length:Int)))) b=some o:=fun b o e ne=>by
    rw [zaj ne]
    exact s2 _ _ e
   have e3:upd H2 bd (.dT (ze9 kvs (zc9 x.key) (.int (st.rows.length:Int)))) bd=some (.dT (ze9 kvs (zc9 x.key) (.int (st.rows.length:Int)))):=zab
   generalize upd H2 bd (.dT (ze9 kvs (zc9 x.key) (.int (st.rows.length:Int))))=H3 at*
   clear c2 N2
   have pbd:p≠bd:=zbp hp1 hbd (fun z=>nomatch z)
   have rbd:rl≠bd:=zbp hrl hbd (fun z=>nomatch z)
   have prl:p≠rl:=zbp hp1 hrl (fun z=>nomatch z)
   have hp3:=k3 _ _ hp1 pbd
   have hrl3:=k3 _ _ hrl rbd
   have hw3:=k3 _ _ hw1 (zbp hw1 hbd (fun z=>nomatch z))
   refine fun N4 c4=>⟨fun σ' H'=>σ'=L2.zdm ["self","what","word","used"] [.ref p,.ref q,.str (zdb wd),.ref pu]∧(∃dx',H' p=some (.ins C dx' (zd8 n be rl bd (zyk (if st.bar=none∧MU.zho x then some st.rows.length else st.bar)))))∧∀b o,H3 b=some o->b≠p->H' b=some o,?_,?_⟩
   ·refine ⟨_,rfl,p,C,dx1,_,_,rfl,hp3,T.cl,T.nX,zr4,rfl,_,rfl,?_⟩
    rw [zqk]
    by_cases hb:st.bar=none
    ·refine zgi hb ⟨_,rfl,q,x,rfl,hw3,_,rfl,?_⟩
     by_cases hB:MU.zho x
     ·refine zgi hB ?_
      refine ⟨_,rfl,p,C,dx1,_,_,rfl,hp3,T.cl,T.nR,zgn,rl,_,rfl,.inl (SqL.of hrl3),_,rfl,p,C,dx1,_,rfl,hp3,T.cl,T.nX,by show 5<1000;decide,rfl,⟨dx1,?_⟩,fun b o e ne=>?_⟩
      ·rw [zab,zyh,if_pos ⟨hb,hB⟩,ZAa,hql]
       rfl
      ·rw [zaj ne];exact e
     ·refine zep hB ⟨rfl,⟨dx1,?_⟩,fun b o e _=>e⟩
      rw [if_neg fun z=>hB z.2]
      exact hp3
    ·refine zep hb (zeh ⟨rfl,⟨dx1,?_⟩,fun b o e _=>e⟩)
     rw [if_neg fun z=>hb z.1]
     exact hp3
   ·rintro σ' H4 ⟨rfl,⟨dx4,hp4⟩,k4⟩
    refine c4 _ _ ?_
    have hrl4:=k4 _ _ hrl3 (Ne.symm prl)
    have hw4:=k4 _ _ hw3 (zbp hw3 hp3 (fun z=>nomatch z))
    have hpu3:=k3 _ _ hpu1 (zbp hpu1 hbd (fun z=>nomatch z))
    have hpu4:=k4 _ _ hpu3 (zbp hpu3 hp3 (fun z=>nomatch z))
    refine ⟨_,rfl,p,C,dx4,_,_,rfl,hp4,T.cl,T.nR,zgn,.inl ⟨rfl,_,SqL.of hrl4⟩,_,rfl,_,rfl,_,rfl,by show 3≤sizeLine;decide,fun rt hrt=>?_⟩
    have s5:=zad (o:=.tup [.ref q,.str (zdb wd),.ref pu]) hrt
    have e5:upd H4 rt (.tup [.ref q,.str (zdb wd),.ref pu]) rt=some (.tup [.ref q,.str (zdb wd),.ref pu]):=zab
    generalize upd H4 rt (.tup [.ref q,.str (zdb wd),.ref pu])=H5 at*
    refine ⟨rl,_,_,rfl,rfl,s5 _ _ hrl4,by rw [ZAa,hql];exact zkp (by omega),?_⟩
    have k6:∀b o,H5 b=some o->b≠rl->upd H5 rl (.lst (qs.map V.ref++[.ref rt])) b=some o:=fun b o e ne=>by rw [zaj ne];exact e
    have e6:upd H5 rl (.lst (qs.map V.ref++[.ref rt])) rl=some (.lst ((qs++[rt]).map V.ref)):=by rw [zab,ZAp];rfl
    generalize upd H5 rl (.lst (qs.map V.ref++[.ref rt]))=H6 at*
    have all:∀b o,H1 b=some o->b≠p->b≠rl->b≠bd->H6 b=some o:=fun b o e n1 n2 n3=>k6 _ _ (s5 _ _ (k4 _ _ (k3 _ _ e n3) n1)) n2
    have tup:∀b xs,H1 b=some (.tup xs)->H6 b=some (.tup xs):=fun b xs e=>all _ _ e (zbp e hp1 (fun z=>nomatch z)) (zbp e hrl (fun z=>nomatch z)) (zbp e hbd (fun z=>nomatch z))
    refine k H6 ?_ fun b o e n1 n2 n3=>all _ _ (s1 _ _ e) n1 n2 n3
    rw [zqz hn]
    refine ⟨⟨dx4,k6 _ _ (s5 _ _ hp4) prl⟩,?_,⟨qs++[rt],e6,?_⟩,⟨_,k6 _ _ (s5 _ _ (k4 _ _ e3 (Ne.symm pbd))) (Ne.symm rbd),?_,fun kk=>?_⟩⟩
    ·obtain ⟨fkv,f1,f2,f3,f4⟩:=c1.falls.at_
     refine ⟨fkv,all _ _ f1 (zbp f1 hp1 (fun z=>nomatch z)) (zbp f1 hrl (fun z=>nomatch z)) (zbp f1 hbd (fun z=>nomatch z)),f2,f3,fun e f hf=>?_⟩
     obtain ⟨pp,q1,q2⟩:=f4 e f hf
     exact ⟨pp,q1,tup _ _ q2⟩
    ·refine zbd (zan hrows fun qq r e=>?_) (.cons ?_ .nil)
     ·obtain ⟨pw,pu',r1,r2,r3⟩:=e
      exact ⟨pw,pu',tup _ _ r1,tup _ _ r2,tup _ _ r3⟩
     ·exact ⟨q,pu,k6 _ _ e5 (zbp e5 (s5 _ _ hrl4) (fun z=>nomatch z)),tup _ _ hw1,tup _ _ hpu1⟩
    ·refine ⟨?_,fun kv hkv'=>?_⟩
     ·show (ze9 kvs (zc9 x.key) _).length≤(st.rows++[_]).length
      have:=zdg kvs (zc9 x.key) (.int (st.rows.length:Int))
      have:=hkl.1
      rw [ZAj]
      show _≤st.rows.length+1
      omega
     ·rcases zrl hkv' with z | z
      ·exact ⟨x.key,z⟩
      ·obtain ⟨kv0,h0,e0⟩:=z
       obtain ⟨k0,e1⟩:=hkl.2 kv0 h0
       exact ⟨k0,e0.trans e1⟩
    ·show zfg (ze9 kvs (zc9 x.key) _) (zc9 kk)=(if kk=x.key then some st.rows.length else st.best kk).map _
     rw [zf8]
     by_cases ek:kk=x.key
     ·rw [if_pos (by rw [ek]),if_pos ek]
      rfl
     ·rw [if_neg fun z=>ek (zm4 z),if_neg ek]
      exact hkv kk
  ·refine zed (by simp [hn]) (k H1 ?_ (zb7.of s1))
   rw [MU.zfk hn]
   exact c.same s1
end
end
end Y0
namespace L2
open PySem PySem.Spec PyProof.Rows
theorem zee {js:List (Option Nat)} {g:TG} {tc:TT} {te:TE} {σ:St} {H:Hp} {D:Addr} {Q:VK} {K:ZBq} {a:Addr} {xs:List V} (Pv:Nat->St->Hp->Prop) (h0:Pv 0 (zfu js σ) (upd H D (.lst []))) (hl:∀i σ' H',i≤xs.length->Pv i σ' H'->SqT K H' a xs)
 (hs:∀i x σ' H',xs[i]?=some x->Pv i σ' H'->g x σ' H' fun σ3 H3=>tc σ3 H3 fun ok H4=>if ok=true then te σ3 H4 fun y H5=>∃ys,H5 D=some (.lst ys)∧ys.length<sizeLine∧Pv (i+1) σ3 (upd H5 D (.lst (ys++[y]))) else Pv (i+1) σ3 H4)
 (hd:∀σ' H',Pv xs.length σ' H'->Q (.ref D) H'):
 zgz js g tc te σ Q (Itt K a) H D:=by
 refine ⟨fun i m σ H=>m=xs.length-i∧i≤xs.length∧Pv i σ H,⟨xs.length,by simp,ZAq _,h0⟩,?_⟩
 rintro i m σ' H' ⟨rfl,hi,p⟩
 by_cases hlt:i<xs.length
 ·refine .inr ⟨⟨xs,_,hl i σ' H' hi p,ZAd hlt⟩,Pv (i+1),fun σ2 H2 p'=>⟨xs.length-(i+1),by omega,rfl,hlt,p'⟩,fun x H2 y=>?_⟩
  obtain ⟨e,y⟩:=y
  subst e
  exact hs i x σ' _ (y xs (hl i σ' _ hi p)) p
 ·have e:i=xs.length:=by omega
  subst e
  exact .inl ⟨⟨xs,hl _ σ' H' hi p,ZAc _⟩,hd σ' H' p⟩
theorem zfa {Y:Cx} {K:ZBq} {e:Expr} {f:Str} {pos:Pos} {ta:TE} (hK:Y.K=K) (he:PE Y e ta) (hb:attributeBase e f Y.env (eval e Y.env)=eval e Y.env):PE Y (.Attribute e f pos) (zyr K ta f):=by
 subst hK
 exact zcc he hb
end L2
namespace Y0
open PySem L2
noncomputable def zmr (C:Addr):Sp:=fun vs H Q _=>∃p be rl bd pu n F st wd us xs o,vs=[.ref p,.str (zdb wd),.ref pu]∧Clo C H p be rl bd n F st∧MU.zdw n st∧H pu=some (.tup (us.map fun i:Nat=>V.int (i:Int)))∧Paired (fun i x=>MU.wat st i=some x) us xs∧zda F (zdb wd) xs o∧st.rows.length≤16500000∧
 ∀H',Clo C H' p be rl bd n F (MU.put st o wd us)->zb7 p rl bd H H'->Q .non H'
section
variable {P:Program} {w:World} {K:ZBq} {mg:Str->Option Value} {base:Heap}
theorem zyy:zat ["self","word","used","what"] ["self","word","used"] (zai sC_Closing_draw):=⟨rfl,rfl,rfl,by decide+kernel,rfl,by decide+kernel,by decide+kernel⟩
theorem zAp:zcg (zai sC_Closing_draw) ["self","word","used","what"] (fsc [(".0",.local),("number",.local),("self",.free)]) ["number","self"] [none,some 0]:=⟨rfl,by decide+kernel,by decide+kernel,by decide+kernel,rfl,by decide+kernel⟩
theorem zz9:(["number","self"]:List Str).Nodup:=by decide+kernel
section
seal L2.PE L2.PA L2.PT L2.PS L2.PSs L2.PG L2.PGs L2.PI L2.PO
theorem ok_draw {f C fT fW:Addr} {fd fdT fdW:FuncData} (F:Fun K "draw" "Closing.draw" sC_Closing_draw f fd) (T:zg5 K mg C)
 (mT:zj6 K C "take" fT) (bT:zdc K fdT ["self","what","word","used"] []) (GT:zbj P w K mg base CX0 2 fT fdT ["self","what","word","used"] (zoo C))
 (FW:Fn K mg "what_follows" sP_what_follows ["falls","word","used"] fW fdW) (GW:zbj P w K mg base CX0 2 fW fdW ["falls","word","used"] zhs):zbj P w K mg base CX0 3 f fd ["self","word","used"] (zmr C):=by
 refine F.ok zyy (fun vs H Q E h=>?_) (fun cdv A outer s H vs Q E hr h=>?_)
 ·obtain ⟨_,_,_,_,_,_,_,_,_,_,_,_,rfl,_⟩:=h
  rfl
 ·obtain ⟨p,be,rl,bd,pu,n,Fa,st,wd,us,xs,o,rfl,c,g,hpu,hux,ask,hlen,k⟩:=h
  refine ⟨_,zag (za0 (i:=3) zyy.nd rfl (Or.inl rfl) (zao GW hr rfl FW.g FW.F.kp FW.b .nil za1 (zaa (zcc (pv 0) rfl) (zaa (pv 1) (zaa (zc7 rfl (zga (pv 2)) zAp (fun cl ex s0 H0=>⟨zap (i:=0) zz9 rfl (Or.inl rfl),zdi,za9 zbn (za9 zav (zfa (K:=K) rfl (pv 1) rfl) (pv 0) (fun _ _=>rfl)) zah (fun _ _=>rfl)⟩)) zac)))))
   (zaf (zbk (zak zpg (pv 3) ze4 (zam _)) (zaf (zbt (zb9 (pv 0) T.cl mT GT hr bT .nil za1 (zaa (pv 3) (zaa (pv 1) (zaa (pv 2) zac)))))) zas)),?_⟩
  obtain ⟨dx,hp⟩:=c.ins
  obtain ⟨qs,hrl,hrows⟩:=c.rows
  obtain ⟨hk,hx2⟩:=ask.kinds
  have hul:us.length=xs.length:=Paired.length hux
  refine fun N1 c1=>⟨_,rfl,p,C,dx,_,_,rfl,hp,T.cl,T.nB,zwn,_,rfl,_,rfl,pu,rfl,⟨_,SqT.of hpu⟩,fun Da hDa=>?_⟩
  refine zee (xs:=us.map fun i:Nat=>V.int (i:Int)) (fun j σ' H'=>∃v ps,σ'=[v,some (.ref p)]∧H' Da=some (.lst (ps.map V.ref))∧Paired (zbf H') ps (xs.take j)∧zbu H H') ⟨none,[],rfl,zab,.nil,zad hDa⟩ ?_ ?_ ?_
  ·rintro j σ' H2 _ ⟨v,ps,rfl,_,_,s2⟩
   exact SqT.of (s2 _ _ hpu)
  ·rintro j x σ' H2 hx ⟨v,ps,rfl,e2,hps,s2⟩
   rw [ZAg] at hx
   cases q:us[j]? with
   | none=>rw [q] at hx;cases hx
   | some i=>
    rw [q] at hx
    cases hx
    obtain ⟨y,hyj,hy⟩:=paired_get hux q
    obtain ⟨q',r,pw,pu',g1,g2,g3,g4,g5,g6⟩:=zjh hrows hy
    have hat:atI (qs.map V.ref) (i:Int)=some (.ref q'):=zby (by rw [ZAg,g1];rfl)
    have hj:j<xs.length:=(ZAb.mp hyj).1
    have hpl:ps.length=min j xs.length:=by rw [Paired.length hps,ZA1]
    refine ⟨_,rfl,p,C,dx,_,_,rfl,s2 _ _ hp,T.cl,T.nR,zgn,zqp rfl (s2 _ _ hrl) hat (rdT (s2 _ _ g4) rfl ⟨_,e2,?_,_,ps++[pw],rfl,?_,?_,fun b o e=>?_⟩)⟩
    ·rw [ZAa,hpl]
     exact zaz (by omega)
    ·rw [zab,ZAp]
     rfl
    ·have et:xs.take (j+1)=xs.take j++[y]:=by rw [ZBa,hyj];rfl
     rw [et]
     have keep:∀b x,zbf H2 b x->zbf (upd H2 Da (.lst (ps.map V.ref++[.ref pw]))) b x:=fun b x e=>by
      unfold zbf
      rw [zaj (zbp e e2 (fun z=>nomatch z))]
      exact e
     exact zbd (zan hps fun b x e=>keep b x e) (.cons (keep _ _ (s2 _ _ g5)) .nil)
    ·rw [zaj (zae e hDa)]
     exact s2 _ _ e
  rintro σ' H2 ⟨v,ps,rfl,e2,hps,s2⟩
  have hall:xs.take (us.map fun i:Nat=>V.int (i:Int)).length=xs:=by rw [ZAa,hul];exact ZAy
  rw [hall] at hps
  have c2:=c.same s2
  refine ⟨be,_,Da,ps,Fa,xs,o,rfl,c2.falls,⟨e2,hps⟩,ask,fun ho H3 s3=>c1 _ _ ?_,fun x ho r H3 hr' s3 hw=>c1 _ _ ?_⟩
  ·refine ⟨_,rfl,rfl,_,rfl,zed rfl ?_⟩
   refine k H3 ?_ (zb7.of (s2.trans s3))
   rw [ho]
   exact c2.same s3
  ·refine ⟨_,rfl,rfl,_,rfl,zct rfl ?_⟩
   have c3:=c2.same s3
   have s03:=s2.trans s3
   refine ⟨_,rfl,p,dx,_,rfl,s03 _ _ hp,znx (by decide+kernel) (by decide+kernel) (by decide+kernel) (by decide+kernel) (by decide+kernel),_,rfl,_,rfl,_,rfl,p,be,rl,bd,r,pu,n,Fa,st,x,wd,us,rfl,c3,g,hw,s03 _ _ hpu,hlen,fun H4 c4 k4=>?_⟩
   refine k H4 ?_ ((zb7.of s03).trans k4)
   rw [ho]
   exact c4
end
noncomputable def zcq (l:List Nat):List V:=l.map fun i:Nat=>V.int (i:Int)
noncomputable def zot (C:Addr):Sp:=fun vs H Q _=>∃(p be rl bd:Addr) (n:Nat) (F:MU.za4) (st:MU.St) (t:Bool) (a:Nat),vs=[.ref p,.str (zds t),.int (a:Int)]∧Clo C H p be rl bd n F st∧n≤8∧∀l H',H l=none->zbu H H'->H' l=some (.lst (zcq (MU.zbe n st t a)))->Q (.ref l) H'
noncomputable def zxk (C:Addr):Sp:=fun vs H Q _=>∃(p be rl bd:Addr) (n:Nat) (F:MU.za4) (st:MU.St) (b:Nat),vs=[.ref p,.int (b:Int)]∧Clo C H p be rl bd n F st∧n≤8∧∀l H',H l=none->zbu H H'->H' l=some (.lst (zcq (MU.zb5 n st b)))->Q (.ref l) H'
theorem zdk {α:Type} {f:Nat->Option α} {n:Nat}:(List.range (n+1)).filterMap f=(List.range n).filterMap f++(f n).toList:=by
 rw [List.range_succ,List.filterMap_append]
 cases h:f n with
 | none=>simp [h]
 | some x=>simp [h]
theorem zzq:zat ["self","kind","a"] ["self","kind","a"] (zai sC_Closing_known_of):=⟨rfl,rfl,rfl,by decide+kernel,rfl,by decide+kernel,by decide+kernel⟩
theorem zAn:zcg (zai sC_Closing_known_of) ["self","kind","a"] (fsc [(".0",.local),("b",.local),("a",.free),("kind",.free),("self",.free)]) ["b","a","kind","self"] [none,some 2,some 1,some 0]:=⟨rfl,by decide+kernel,by decide+kernel,by decide+kernel,rfl,by decide+kernel⟩
theorem zz7:(["b","a","kind","self"]:List Str).Nodup:=by decide+kernel
section
seal L2.PE L2.PA L2.PT L2.PS L2.PSs L2.PG L2.PGs L2.PI L2.PO
theorem ok_known {f C:Addr} {fd:FuncData} (F:Fun K "known_of" "Closing.known_of" sC_Closing_known_of f fd) (T:zg5 K mg C):zbj P w K mg base CX0 1 f fd ["self","kind","a"] (zot C):=by
 refine F.ok zzq (fun vs H Q E h=>?_) (fun cdv A outer s H vs Q E hr h=>?_)
 ·obtain ⟨_,_,_,_,_,_,_,_,_,rfl,_⟩:=h
  rfl
 ·obtain ⟨p,be,rl,bd,n,Fa,st,t,a,rfl,c,h8,k⟩:=h
  have hu:=zfc hr
  refine ⟨_,zaf (zaq (zc7 rfl (zd2 rfl T.range (zaa (zcc (pv 0) rfl) zac)) zAn (fun cl ex s0 H0=>⟨zap (i:=0) zz7 rfl (Or.inl rfl),zey (zhu (zpf hu (za8 (zaa (pv 2) (zaa (pv 1) (zaa (pv 0) zac)))) (zfa (K:=K) rfl (pv 3) rfl)) (by with_unfolding_all rfl)),zc6 hu (zfa (K:=K) rfl (pv 3) rfl) (za8 (zaa (pv 2) (zaa (pv 1) (zaa (pv 0) zac)))) (fun _ _=>rfl)⟩))),?_⟩
  obtain ⟨dx,hp⟩:=c.ins
  obtain ⟨kvs,hbd,hkl,hkv⟩:=c.best
  refine ⟨_,rfl,p,C,dx,_,_,rfl,hp,T.cl,T.nM,ztb,_,rfl,by omega,by omega,fun Da hDa=>?_⟩
  refine zgy (n:=((n:Int)).toNat) (fun i σ' H'=>∃v,σ'=[v,some (.int (a:Int)),some (.str (zds t)),some (.ref p)]∧H' Da=some (.lst (zcq ((List.range i).filterMap fun b=>st.best (t,a,b))))∧zbu H H') ⟨none,rfl,zab,zad hDa⟩ ?_ ?_
  ·rintro i σ' H2 hi ⟨v,rfl,e2,s2⟩
   have hin:i<n:=by omega
   have ei:((0:Int)+(i:Int))=(i:Int):=by omega
   refine ⟨_,rfl,_,rfl,_,rfl,by show 3≤sizeLine;decide,fun kt hkt=>?_⟩
   rw [ei]
   have s3:=zad (o:=.tup ((zc9 (t,a,i)).map kV)) hkt
   have e3:upd H2 kt (.tup ((zc9 (t,a,i)).map kV)) kt=some (.tup ((zc9 (t,a,i)).map kV)):=zab
   have ek:(HO.tup [V.str (zds t),V.int (a:Int),V.int (i:Int)])=.tup ((zc9 (t,a,i)).map kV):=rfl
   rw [ek]
   generalize upd H2 kt (.tup ((zc9 (t,a,i)).map kV))=H3 at*
   have s03:=s2.trans s3
   have dg:=ze7.t (k:=zc9 (t,a,i)) (s03 _ _ hbd) e3
   rw [hkv] at dg
   refine ⟨_,rfl,p,C,dx,_,_,rfl,s03 _ _ hp,T.cl,T.nE,zfw,bd,_,rfl,dg,_,rfl,?_⟩
   have fl:((List.range i).filterMap fun b=>st.best (t,a,b)).length≤i:=by
    have:=List.length_filterMap_le (fun b=>st.best (t,a,b)) (List.range i)
    rw [List.length_range] at this
    exact this
   cases hb:st.best (t,a,i) with
   | none=>
    refine zeh ⟨_,rfl,?_,s03⟩
    rw [zdk,hb]
    show H3 Da=some (.lst (zcq (_++[])))
    rw [List.append_nil]
    exact s3 _ _ e2
   | some j=>
    rw [hb] at dg
    refine zih ?_
    refine ⟨_,rfl,p,C,dx,_,_,rfl,s03 _ _ hp,T.cl,T.nE,zfw,_,rfl,_,rfl,_,rfl,by show 3≤sizeLine;decide,fun kt2 hkt2=>?_⟩
    have s4:=zad (o:=.tup ((zc9 (t,a,i)).map kV)) hkt2
    have e4:upd H3 kt2 (.tup ((zc9 (t,a,i)).map kV)) kt2=some (.tup ((zc9 (t,a,i)).map kV)):=zab
    rw [ek]
    generalize upd H3 kt2 (.tup ((zc9 (t,a,i)).map kV))=H4 at*
    have s04:=s03.trans s4
    have dg4:=ze7.t (k:=zc9 (t,a,i)) (s04 _ _ hbd) e4
    rw [hkv,hb] at dg4
    refine ⟨bd,_,rfl,dg4,_,s4 _ _ (s3 _ _ e2),?_,_,rfl,?_,fun b o e=>?_⟩
    ·unfold zcq
     rw [ZAa]
     exact zaz (by omega)
    ·rw [zab,zdk,hb]
     unfold zcq
     rw [ZAp]
     rfl
    ·rw [zaj (zae e hDa)]
     exact s04 _ _ e
  ·rintro σ' H2 ⟨v,rfl,e2,s2⟩
   exact k Da H2 hDa s2 e2
end
theorem zzm:zat ["self","b"] ["self","b"] (zai sC_Closing_ties_to):=⟨rfl,rfl,rfl,by decide+kernel,rfl,by decide+kernel,by decide+kernel⟩
theorem zAj:zcg (zai sC_Closing_ties_to) ["self","b"] (fsc [(".0",.local),("a",.local),("b",.free),("self",.free)]) ["a","b","self"] [none,some 1,some 0]:=⟨rfl,by decide+kernel,by decide+kernel,by decide+kernel,rfl,by decide+kernel⟩
theorem zz5:(["a","b","self"]:List Str).Nodup:=by decide+kernel
section
seal L2.PE L2.PA L2.PT L2.PS L2.PSs L2.PG L2.PGs L2.PI L2.PO
theorem ok_tiesTo {f C:Addr} {fd:FuncData} (F:Fun K "ties_to" "Closing.ties_to" sC_Closing_ties_to f fd) (T:zg5 K mg C):zbj P w K mg base CX0 1 f fd ["self","b"] (zxk C):=by
 refine F.ok zzm (fun vs H Q E h=>?_) (fun cdv A outer s H vs Q E hr h=>?_)
 ·obtain ⟨_,_,_,_,_,_,_,_,rfl,_⟩:=h
  rfl
 ·obtain ⟨p,be,rl,bd,n,Fa,st,b0,rfl,c,h8,k⟩:=h
  have hu:=zfc hr
  refine ⟨_,zaf (zaq (zc7 rfl (zd2 rfl T.range (zaa (zcc (pv 0) rfl) zac)) zAj (fun cl ex s0 H0=>⟨zap (i:=0) zz5 rfl (Or.inl rfl),zey (zhu (zpf hu (za8 (zaa zax (zaa (pv 0) (zaa (pv 1) zac)))) (zfa (K:=K) rfl (pv 2) rfl)) (by with_unfolding_all rfl)),zc6 hu (zfa (K:=K) rfl (pv 2) rfl) (za8 (zaa zax (zaa (pv 0) (zaa (pv 1) zac)))) (fun _ _=>rfl)⟩))),?_⟩
  obtain ⟨dx,hp⟩:=c.ins
  obtain ⟨kvs,hbd,hkl,hkv⟩:=c.best
  refine ⟨_,rfl,p,C,dx,_,_,rfl,hp,T.cl,T.nM,ztb,_,rfl,by omega,by omega,fun Da hDa=>?_⟩
  refine zgy (n:=((n:Int)).toNat) (fun i σ' H'=>∃v,σ'=[v,some (.int (b0:Int)),some (.ref p)]∧H' Da=some (.lst (zcq ((List.range i).filterMap fun a=>st.best (true,a,b0))))∧zbu H H') ⟨none,rfl,zab,zad hDa⟩ ?_ ?_
  ·rintro i σ' H2 hi ⟨v,rfl,e2,s2⟩
   have hin:i<n:=by omega
   have ei:((0:Int)+(i:Int))=(i:Int):=by omega
   refine ⟨_,rfl,_,rfl,by show 3≤sizeLine;decide,fun kt hkt=>?_⟩
   rw [ei]
   have s3:=zad (o:=.tup ((zc9 (true,i,b0)).map kV)) hkt
   have e3:upd H2 kt (.tup ((zc9 (true,i,b0)).map kV)) kt=some (.tup ((zc9 (true,i,b0)).map kV)):=zab
   have ek:(HO.tup [V.str "tie",V.int (i:Int),V.int (b0:Int)])=.tup ((zc9 (true,i,b0)).map kV):=rfl
   rw [ek]
   generalize upd H2 kt (.tup ((zc9 (true,i,b0)).map kV))=H3 at*
   have s03:=s2.trans s3
   have dg:=ze7.t (k:=zc9 (true,i,b0)) (s03 _ _ hbd) e3
   rw [hkv] at dg
   refine ⟨_,rfl,p,C,dx,_,_,rfl,s03 _ _ hp,T.cl,T.nE,zfw,bd,_,rfl,dg,_,rfl,?_⟩
   have fl:((List.range i).filterMap fun a=>st.best (true,a,b0)).length≤i:=by
    have:=List.length_filterMap_le (fun a=>st.best (true,a,b0)) (List.range i)
    rw [List.length_range] at this
    exact this
   cases hb:st.best (true,i,b0) with
   | none=>
    refine zeh ⟨_,rfl,?_,s03⟩
    rw [zdk,hb]
    show H3 Da=some (.lst (zcq (_++[])))
    rw [List.append_nil]
    exact s3 _ _ e2
   | some j=>
    rw [hb] at dg
    refine zih ?_
    refine ⟨_,rfl,p,C,dx,_,_,rfl,s03 _ _ hp,T.cl,T.nE,zfw,_,rfl,_,rfl,by show 3≤sizeLine;decide,fun kt2 hkt2=>?_⟩
    have s4:=zad (o:=.tup ((zc9 (true,i,b0)).map kV)) hkt2
    have e4:upd H3 kt2 (.tup ((zc9 (true,i,b0)).map kV)) kt2=some (.tup ((zc9 (true,i,b0)).map kV)):=zab
    rw [ek]
    generalize upd H3 kt2 (.tup ((zc9 (true,i,b0)).map kV))=H4 at*
    have s04:=s03.trans s4
    have dg4:=ze7.t (k:=zc9 (true,i,b0)) (s04 _ _ hbd) e4
    rw [hkv,hb] at dg4
    refine ⟨bd,_,rfl,dg4,_,s4 _ _ (s3 _ _ e2),?_,_,rfl,?_,fun b o e=>?_⟩
    ·unfold zcq
     rw [ZAa]
     exact zaz (by omega)
    ·rw [zab,zdk,hb]
     unfold zcq
     rw [ZAp]
     rfl
    ·rw [zaj (zae e hDa)]
     exact s04 _ _ e
  ·rintro σ' H2 ⟨v,rfl,e2,s2⟩
   exact k Da H2 hDa s2 e2
end
end
end Y0
namespace MU
noncomputable def zwu (F:za4) (st:St):Prop:=∀i w,wat st i=some w->w.tie=false->∃f,F w.b=some f
structure Sta (n:Nat) (F:za4) (st:St):Prop where
 good:zdw n st
 ends:zwu F st
noncomputable def zuy (n:Nat) (F:za4) (w:zar):Prop:=Fit n w∧(w.tie=false->∃f,F w.b=some f)
variable {n:Nat} {F:za4} {most:Int} {st:St}
theorem Sta.put (h:Sta n F st) {o:Option zar} {wd:Wd} {us:List Nat} (ho:∀w,o=some w->zuy n F w):Sta n F (put st o wd us):=by
 refine ⟨zjl h.good fun w e=>(ho w e).1,fun i w hw ht=>?_⟩
 by_cases hi:i<st.rows.length
 ·exact h.ends i w (zg8 (zew _ _ _ _) hi hw) ht
 ·exact (zex (C:=fun w=>w.tie=false->∃f,F w.b=some f) (fun w e=>(ho w e).2) i w (by omega) hw) ht
theorem zsh {p q w:zar} (h1:p.a<n) (h2:q.b<n) (h:za7 p q=some w):zuy n F w:=by
 unfold za7 at h
 split at h
 ·cases h;exact ⟨⟨h1,h2,fun z=>nomatch z⟩,fun z=>nomatch z⟩
 ·cases h
theorem zue {p w:zar} (h1:p.a<n) (h2:p.b<n) (h:zbm F p=some w):zuy n F w:=by
 refine ⟨zhg p w h1 h2 h,fun _=>?_⟩
 unfold zbm at h
 split at h
 ·cases q:F p.b with
  | none=>rw [q] at h;cases h
  | some f=>rw [q] at h;cases h;exact ⟨f,q⟩
 ·cases h
theorem ztv (hF:FOk n F most) {p w:zar} (h1:p.a<n) (h2:p.b<n) (h:zbr F p=some w):zuy n F w:=by
 refine ⟨zha hF p w h1 h2 h,fun ht=>?_⟩
 unfold zbr at h
 split at h
 ·cases q:F p.a with
  | none=>rw [q] at h;cases h
  | some f=>rw [q] at h;cases h;cases ht
 ·cases h
theorem zts (hF:FOk n F most) {p w:zar} (h1:p.a<n) (h2:p.b<n) (h:zbh F p=some w):zuy n F w:=by
 refine ⟨zjb hF p w h1 h2 h,fun ht=>?_⟩
 unfold zbh at h
 split at h
 ·cases q:F p.b with
  | none=>rw [q] at h;cases h
  | some f=>rw [q] at h;cases h;cases ht
 ·cases h
theorem zql {p q w:zar} (h1:p.a<n) (h2:p.b<n) (h3:q.a<n) (h4:q.b<n) (h:zay F p q=some w):zuy n F w:=by
 refine ⟨zj2 p q w h1 h2 h3 h4 h,fun _=>?_⟩
 unfold zay at h
 split at h
 ·cases e:F p.b with
  | none=>rw [e] at h;cases h
  | some f=>rw [e] at h;cases h;exact ⟨f,e⟩
 ·cases h
theorem zr3 (hF:FOk n F most) {p w:zar} (h1:p.a<n) (h2:p.b<n) (h:za2 F p=some w):zuy n F w:=by
 refine ⟨zh9 hF p w h1 h2 h,fun _=>?_⟩
 unfold za2 at h
 split at h
 ·cases e:F p.a with
  | none=>rw [e] at h;cases h
  | some o=>
   rw [e] at h
   have h:(F p.b).map (fun f=>(⟨false,o.1,p.b,min p.v f.2.2-o.2.1⟩:zar))=some w:=h
   cases e2:F p.b with
   | none=>rw [e2] at h;cases h
   | some f=>rw [e2] at h;cases h;exact ⟨f,e2⟩
 ·cases h
theorem zr2 {f:zar->Option zar} {wd:Wd} {i:Nat} {x:zar} (h:wat st i=some x):zbc f wd i st=put st (f x) wd [i]:=by
 unfold zbc
 rw [h]
 rfl
theorem zr1 {f:zar->zar->Option zar} {wd:Wd} {i j:Nat} {x y:zar} (h:wat st i=some x) (h':wat st j=some y):zaw f wd i j st=put st (f x y) wd [i,j]:=by
 unfold zaw
 rw [h]
 show put st ((wat st j).bind fun q=>f x q) wd [i,j]=_
 rw [h']
 rfl
theorem zfo {f:St->Nat->St} {l:List Nat} {i j:Nat} (h:l[i]?=some j):(l.take (i+1)).foldl f st=f ((l.take i).foldl f st) j:=by
 rw [ZBa,h,List.foldl_append]
 rfl
end MU
namespace Y0
open PySem L2
section
variable {C p be rl bd:Addr} {n:Nat} {F:MU.za4} {st:MU.St} {σ:L2.St} {H:Hp} {Q:VK} {E:XK}
theorem zww {at_:Nat} {i:Nat} {R:List V->Hp->Prop} (h1:σ[i]?=some (some (.int (at_:Int)))) (k:∀t,H t=none->R [.ref t] (upd H t (.tup ([at_].map fun i:Nat=>V.int (i:Int))))):zlp (zw6 (zlp (ztl i) zu1)) zu1 σ H R:=
 ⟨_,h1,by show 1≤sizeLine;decide,fun t ht=>k t ht⟩
theorem zwv {a b:Nat} {i j:Nat} {R:List V->Hp->Prop} (h1:σ[i]?=some (some (.int (a:Int)))) (h2:σ[j]?=some (some (.int (b:Int)))) (k:∀t,H t=none->R [.ref t] (upd H t (.tup ([a,b].map fun i:Nat=>V.int (i:Int))))):zlp (zw6 (zlp (ztl i) (zlp (ztl j) zu1))) zu1 σ H R:=
 ⟨_,h1,_,h2,by show 2≤sizeLine;decide,fun t ht=>k t ht⟩
theorem ze8 {us:List Nat} {xs:List MU.zar} {wd:MU.Wd} {o:Option MU.zar} {tu:TA} {word:Str} (hw:word=zdb wd) (h0:σ[0]?=some (some (.ref p))) (c:Clo C H p be rl bd n F st) (g:MU.zdw n st)
 (hu:∀R:List V->Hp->Prop,(∀t,H t=none->R [.ref t] (upd H t (.tup (us.map fun i:Nat=>V.int (i:Int)))))->tu σ H R) (hx:Paired (fun i x=>MU.wat st i=some x) us xs) (ask:zda F (zdb wd) xs o) (hlen:st.rows.length≤16500000)
 (k:∀H',Clo C H' p be rl bd n F (MU.put st o wd us)->zb7 p rl bd H H'->Q .non H'):ztp C "draw" (zmr C) [] E (ztl 0) (zlp (tC (.str word)) tu) σ H Q:=by
 subst hw
 obtain ⟨dx,hp⟩:=c.ins
 refine ⟨_,h0,p,dx,_,rfl,hp,znx (by decide+kernel) (by decide+kernel) (by decide+kernel) (by decide+kernel) (by decide+kernel),?_⟩
 refine hu _ fun t ht=>?_
 have s1:=zad (o:=.tup (us.map fun i:Nat=>V.int (i:Int))) ht
 exact ⟨p,be,rl,bd,t,n,F,st,wd,us,xs,o,rfl,c.same s1,g,zab,hx,ask,hlen,fun H' c' k'=>k H' c' ((zb7.of s1).trans k')⟩
end
theorem Clo.apart {C p be rl bd la:Addr} {H:Hp} {n:Nat} {F:MU.za4} {st:MU.St} (c:Clo C H p be rl bd n F st) (h:H la=none):la≠p∧la≠rl∧la≠bd:=by
 obtain ⟨dx,hp⟩:=c.ins
 obtain ⟨qs,hrl,_⟩:=c.rows
 obtain ⟨kvs,hbd,_⟩:=c.best
 exact ⟨Ne.symm (zae hp h),Ne.symm (zae hrl h),Ne.symm (zae hbd h)⟩
noncomputable def zkn (C:Addr):Sp:=fun vs H Q _=>∃(p be rl bd:Addr) (n:Nat) (F:MU.za4) (st:MU.St) (at_:Nat) (x:MU.zar),vs=[.ref p,.int (at_:Int),.int (x.a:Int),.int (x.b:Int)]∧Clo C H p be rl bd n F st∧MU.Sta n F st∧MU.FOk n F ((60:Nat):Int)∧MU.wat st at_=some x∧x.tie=true∧n≤8∧st.rows.length≤16000000∧
 ∀H',Clo C H' p be rl bd n F (MU.zb4 n F at_ x.a x.b st)->MU.Sta n F (MU.zb4 n F at_ x.a x.b st)->zb7 p rl bd H H'->Q .non H'
noncomputable def zis (C:Addr):Sp:=fun vs H Q _=>∃(p be rl bd:Addr) (n:Nat) (F:MU.za4) (st:MU.St) (at_:Nat) (x:MU.zar),vs=[.ref p,.int (at_:Int),.int (x.a:Int)]∧Clo C H p be rl bd n F st∧MU.Sta n F st∧MU.FOk n F ((60:Nat):Int)∧MU.wat st at_=some x∧x.tie=false∧n≤8∧st.rows.length≤16000000∧
 ∀H',Clo C H' p be rl bd n F (MU.zbg n F at_ x.a st)->MU.Sta n F (MU.zbg n F at_ x.a st)->zb7 p rl bd H H'->Q .non H'
section
variable {P:Program} {w:World} {K:ZBq} {mg:Str->Option Value} {base:Heap}
noncomputable abbrev nFt:List Str:=["self","at","a","b","number"]
theorem zw0:zat nFt ["self","at","a","b"] (zai sC_Closing_draw_from_tie):=⟨rfl,rfl,rfl,by decide+kernel,rfl,by decide+kernel,by decide+kernel⟩
noncomputable abbrev nFw:List Str:=["self","at","a","number"]
theorem zyx:zat nFw ["self","at","a"] (zai sC_Closing_draw_from_wait):=⟨rfl,rfl,rfl,by decide+kernel,rfl,by decide+kernel,by decide+kernel⟩
section
seal L2.PE L2.PA L2.PT L2.PS L2.PSs L2.PG L2.PGs L2.PI L2.PO
theorem ok_fromWait {f C fD fZ:Addr} {fd fdD fdZ:FuncData} (F:Fun K "draw_from_wait" "Closing.draw_from_wait" sC_Closing_draw_from_wait f fd) (T:zg5 K mg C)
 (mD:zj6 K C "draw" fD) (bD:zdc K fdD ["self","word","used"] []) (GD:zbj P w K mg base CX0 3 fD fdD ["self","word","used"] (zmr C))
 (mZ:zj6 K C "ties_to" fZ) (bZ:zdc K fdZ ["self","b"] []) (GZ:zbj P w K mg base CX0 1 fZ fdZ ["self","b"] (zxk C)):zbj P w K mg base CX0 4 f fd ["self","at","a"] (zis C):=by
 refine F.ok zyx (fun vs H Q E h=>?_) (fun cdv A outer s H vs Q E hr h=>?_)
 ·obtain ⟨_,_,_,_,_,_,_,_,_,rfl,_⟩:=h
  rfl
 ·obtain ⟨p,be,rl,bd,n,Fa,st,at_,x,rfl,c,S,hF,hx,ht,h8,hlen,k⟩:=h
  have hr1:zek 1 _:=hr.mono (by decide)
  refine ⟨_,zag (zbt (zb9 (pv 0) T.cl mD GD hr bD .nil za1 (zaa zax (zaa (za8 (zaa (pv 1) zac)) zac))))
   (zag (zbt (zb9 (pv 0) T.cl mD GD hr bD .nil za1 (zaa zax (zaa (za8 (zaa (pv 1) zac)) zac))))
   (zaf (zcx PassesOwn.never rfl (zb2 (zb9 (pv 0) T.cl mZ GZ hr1 bZ .nil za1 (zaa (pv 2) zac))) (zap (i:=3) zyx.nd rfl (Or.inl rfl))
    (zaf (zbt (zb9 (pv 0) T.cl mD GD hr bD .nil za1 (zaa zax (zaa (za8 (zaa (pv 1) (zaa (pv 3) zac))) zac)))))))),?_⟩
  obtain ⟨xa,xb⟩:=S.good.lt _ _ hx
  obtain ⟨fa,hfa⟩:=S.ends _ _ hx ht
  have d1:MU.zbc (MU.zbh Fa) .sure at_ st=MU.put st (MU.zbh Fa x) .sure [at_]:=MU.zr2 hx
  have S1:MU.Sta n Fa (MU.put st (MU.zbh Fa x) .sure [at_]):=S.put fun w e=>MU.zts hF xa xb e
  have hx1:MU.wat (MU.put st (MU.zbh Fa x) .sure [at_]) at_=some x:=MU.za3 (MU.zew _ _ _ _) hx
  have l1:=MU.zb8 st (MU.zbh Fa x) .sure [at_]
  have goal:MU.zbg n Fa at_ x.a st=(MU.zb5 n (MU.zbc (MU.za2 Fa) .cross at_ (MU.zbc (MU.zbh Fa) .sure at_ st)) x.a).foldl (fun st j=>MU.zaw (MU.zay Fa) .back at_ j st) (MU.zbc (MU.za2 Fa) .cross at_ (MU.zbc (MU.zbh Fa) .sure at_ st)):=rfl
  rw [d1] at goal
  refine fun N1 c1=>ze8 (wd:=.sure) rfl rfl c S.good (fun R z=>zww rfl z) (.cons hx .nil) (.sure x fa ht hfa) (by omega) fun H1 C1 k1=>c1 _ _ ?_
  generalize MU.put st (MU.zbh Fa x) .sure [at_]=st1 at*
  clear c1 N1
  have d2:MU.zbc (MU.za2 Fa) .cross at_ st1=MU.put st1 (MU.za2 Fa x) .cross [at_]:=MU.zr2 hx1
  have S2:MU.Sta n Fa (MU.put st1 (MU.za2 Fa x) .cross [at_]):=S1.put fun w e=>MU.zr3 hF xa xb e
  have hx2:MU.wat (MU.put st1 (MU.za2 Fa x) .cross [at_]) at_=some x:=MU.za3 (MU.zew _ _ _ _) hx1
  have l2:=MU.zb8 st1 (MU.za2 Fa x) .cross [at_]
  rw [d2] at goal
  refine fun N2 c2=>ze8 (wd:=.cross) rfl rfl C1 S1.good (fun R z=>zww rfl z) (.cons hx1 .nil) (.cross x fa ht hfa) (by omega) fun H2 C2 k2=>c2 _ _ ?_
  generalize MU.put st1 (MU.za2 Fa x) .cross [at_]=st2 at*
  clear c2 N2
  have k02:=k1.trans k2
  obtain ⟨dx,hp⟩:=C2.ins
  refine ⟨_,rfl,p,dx,_,rfl,hp,znx (by decide+kernel) (by decide+kernel) (by decide+kernel) (by decide+kernel) (by decide+kernel),_,rfl,p,be,rl,bd,n,Fa,st2,x.a,rfl,C2,h8,fun la H3 hla s3 e3=>?_⟩
  obtain ⟨n1,n2,n3⟩:=C2.apart hla
  have C3:=C2.same s3
  refine ⟨la,rfl,⟨_,SqL.of e3⟩,?_⟩
  have hmem:∀j∈MU.zb5 n st2 x.a,∃y,MU.wat st2 j=some y∧y.tie=true∧y.a<n∧y.b<n:=fun j hj=>by
   obtain ⟨cc,_,hb⟩:=MU.zfh hj
   obtain ⟨y,hy,hk⟩:=S2.good.at_ _ _ hb
   obtain ⟨q1,q2,q3⟩:=MU.zc8 hk
   exact ⟨y,hy,q1,S2.good.lt _ _ hy⟩
  have tl:=MU.zfi (n:=n) (st:=st2) (b:=x.a)
  generalize MU.zb5 n st2 x.a=L at*
  refine zcf (K:=K) (a:=la) (xs:=zcq L) (fun i σ' H'=>∃v,σ'=[some (.ref p),some (.int (at_:Int)),some (.int (x.a:Int)),v]∧Clo C H' p be rl bd n Fa ((L.take i).foldl (fun st j=>MU.zaw (MU.zay Fa) .back at_ j st) st2)∧MU.Sta n Fa ((L.take i).foldl (fun st j=>MU.zaw (MU.zay Fa) .back at_ j st) st2)∧MU.Ext st2 ((L.take i).foldl (fun st j=>MU.zaw (MU.zay Fa) .back at_ j st) st2)∧zb7 p rl bd H3 H') ⟨none,rfl,C3,S2,MU.Ext.refl _,zb7.of (zbu.refl _)⟩ ?_ ?_ ?_
  ·rintro i σ' H4 _ ⟨v,rfl,_,_,_,k4⟩
   exact SqL.of (k4 _ _ e3 n1 n2 n3)
  ·rintro i y σ' H4 hy ⟨v,rfl,C4,S4,x4,k4⟩
   unfold zcq at hy
   rw [ZAg] at hy
   cases q:L[i]? with
   | none=>rw [q] at hy;cases hy
   | some j=>
    rw [q] at hy
    cases hy
    obtain ⟨y,hyj,yt,ya,yb⟩:=hmem j (ZAh q)
    have fl:=MU.zcl (f:=fun st j=>MU.zaw (MU.zay Fa) .back at_ j st) (fun _ _=>MU.zb8 _ _ _ _) (L.take i) st2
    rw [ZA1] at fl
    rw [MU.zfo q]
    have hx4:=MU.za3 x4 hx2
    have hy4:=MU.za3 x4 hyj
    have e4:MU.zaw (MU.zay Fa) .back at_ j ((L.take i).foldl (fun st j=>MU.zaw (MU.zay Fa) .back at_ j st) st2)=MU.put ((L.take i).foldl (fun st j=>MU.zaw (MU.zay Fa) .back at_ j st) st2) (MU.zay Fa x y) .back [at_,j]:=MU.zr1 hx4 hy4
    rw [e4]
    generalize (L.take i).foldl (fun st j=>MU.zaw (MU.zay Fa) .back at_ j st) st2=st4 at*
    refine ze8 (wd:=.back) rfl rfl C4 S4.good (fun R z=>zwv rfl rfl z) (.cons hx4 (.cons hy4 .nil)) (.back x y fa ht yt hfa) (by omega) fun H5 C5 k5=>⟨_,rfl,C5,S4.put fun w e=>MU.zql xa xb ya yb e,x4.trans (MU.zew _ _ _ _),k4.trans k5⟩
  ·rintro σ' H4 ⟨v,rfl,C4,S4,x4,k4⟩
   have hall:L.take (zcq L).length=L:=by unfold zcq;rw [ZAa];exact ZAy
   rw [hall,←goal] at C4 S4
   exact k H4 C4 S4 ((k02.trans (zb7.of s3)).trans k4)
end
end
end Y0
namespace Y0
open PySem L2
section
variable {P:Program} {w:World} {K:ZBq} {mg:Str->Option Value} {base:Heap}
section
seal L2.PE L2.PA L2.PT L2.PS L2.PSs L2.PG L2.PGs L2.PI L2.PO
theorem ok_fromTie {f C fD fZ fK:Addr} {fd fdD fdZ fdK:FuncData} (F:Fun K "draw_from_tie" "Closing.draw_from_tie" sC_Closing_draw_from_tie f fd) (T:zg5 K mg C)
 (mD:zj6 K C "draw" fD) (bD:zdc K fdD ["self","word","used"] []) (GD:zbj P w K mg base CX0 3 fD fdD ["self","word","used"] (zmr C))
 (mZ:zj6 K C "ties_to" fZ) (bZ:zdc K fdZ ["self","b"] []) (GZ:zbj P w K mg base CX0 1 fZ fdZ ["self","b"] (zxk C))
 (mK:zj6 K C "known_of" fK) (bK:zdc K fdK ["self","kind","a"] []) (GK:zbj P w K mg base CX0 1 fK fdK ["self","kind","a"] (zot C)):zbj P w K mg base CX0 4 f fd ["self","at","a","b"] (zkn C):=by
 refine F.ok zw0 (fun vs H Q E h=>?_) (fun cdv A outer s H vs Q E hr h=>?_)
 ·obtain ⟨_,_,_,_,_,_,_,_,_,rfl,_⟩:=h
  rfl
 ·obtain ⟨p,be,rl,bd,n,Fa,st,at_,x,rfl,c,S,hF,hx,ht,h8,hlen,k⟩:=h
  have hr1:zek 1 _:=hr.mono (by decide)
  refine ⟨_,zag (zbt (zb9 (pv 0) T.cl mD GD hr bD .nil za1 (zaa zax (zaa (za8 (zaa (pv 1) zac)) zac))))
   (zag (zbt (zb9 (pv 0) T.cl mD GD hr bD .nil za1 (zaa zax (zaa (za8 (zaa (pv 1) zac)) zac))))
   (zag (zcx PassesOwn.never rfl (zb2 (zb9 (pv 0) T.cl mK GK hr1 bK .nil za1 (zaa zax (zaa (pv 3) zac)))) (zap (i:=4) zw0.nd rfl (Or.inl rfl))
    (zaf (zbt (zb9 (pv 0) T.cl mD GD hr bD .nil za1 (zaa zax (zaa (za8 (zaa (pv 1) (zaa (pv 4) zac))) zac))))))
   (zag (zcx PassesOwn.never rfl (zb2 (zb9 (pv 0) T.cl mZ GZ hr1 bZ .nil za1 (zaa (pv 2) zac))) (zap (i:=4) zw0.nd rfl (Or.inl rfl))
    (zaf (zbt (zb9 (pv 0) T.cl mD GD hr bD .nil za1 (zaa zax (zaa (za8 (zaa (pv 4) (zaa (pv 1) zac))) zac))))))
   (zaf (zcx PassesOwn.never rfl (zb2 (zb9 (pv 0) T.cl mK GK hr1 bK .nil za1 (zaa zax (zaa (pv 3) zac)))) (zap (i:=4) zw0.nd rfl (Or.inl rfl))
    (zaf (zbt (zb9 (pv 0) T.cl mD GD hr bD .nil za1 (zaa zax (zaa (za8 (zaa (pv 4) (zaa (pv 1) zac))) zac)))))))))),?_⟩
  obtain ⟨xa,xb⟩:=S.good.lt _ _ hx
  have d1:MU.zbc (MU.zbm Fa) .late at_ st=MU.put st (MU.zbm Fa x) .late [at_]:=MU.zr2 hx
  have S1:MU.Sta n Fa (MU.put st (MU.zbm Fa x) .late [at_]):=S.put fun w e=>MU.zue xa xb e
  have hx1:MU.wat (MU.put st (MU.zbm Fa x) .late [at_]) at_=some x:=MU.za3 (MU.zew _ _ _ _) hx
  have l1:=MU.zb8 st (MU.zbm Fa x) .late [at_]
  generalize hgoal:MU.zb4 n Fa at_ x.a x.b st=fin at*
  unfold MU.zb4 at hgoal
  dsimp only at hgoal
  rw [d1] at hgoal
  refine fun N1 c1=>ze8 (wd:=.late) rfl rfl c S.good (fun R z=>zww rfl z) (.cons hx .nil) (.late x ht) (by omega) fun H1 C1 k1=>c1 _ _ ?_
  generalize MU.put st (MU.zbm Fa x) .late [at_]=st1 at*
  clear c1 N1
  have d2:MU.zbc (MU.zbr Fa) .soon at_ st1=MU.put st1 (MU.zbr Fa x) .soon [at_]:=MU.zr2 hx1
  have S2:MU.Sta n Fa (MU.put st1 (MU.zbr Fa x) .soon [at_]):=S1.put fun w e=>MU.ztv hF xa xb e
  have hx2:MU.wat (MU.put st1 (MU.zbr Fa x) .soon [at_]) at_=some x:=MU.za3 (MU.zew _ _ _ _) hx1
  have l2:=MU.zb8 st1 (MU.zbr Fa x) .soon [at_]
  rw [d2] at hgoal
  refine fun N2 c2=>ze8 (wd:=.soon) rfl rfl C1 S1.good (fun R z=>zww rfl z) (.cons hx1 .nil) (.soon x ht) (by omega) fun H2 C2 k2=>c2 _ _ ?_
  generalize MU.put st1 (MU.zbr Fa x) .soon [at_]=st2 at*
  clear c2 N2
  have kA:=k1.trans k2
  clear k1 k2
  have v4:∃v:Option V,(none:Option V)=v:=⟨_,rfl⟩
  obtain ⟨v4,hv4⟩:=v4
  have lenA:st2.rows.length≤st.rows.length+2:=by omega
  refine fun N3 c3=>?_
  obtain ⟨dx,hp⟩:=C2.ins
  refine ⟨_,rfl,p,dx,_,rfl,hp,znx (by decide+kernel) (by decide+kernel) (by decide+kernel) (by decide+kernel) (by decide+kernel),_,rfl,p,be,rl,bd,n,Fa,st2,true,x.b,rfl,C2,h8,fun la H3 hla s3 e3=>?_⟩
  obtain ⟨n1,n2,n3⟩:=C2.apart hla
  have C3:=C2.same s3
  refine ⟨la,rfl,⟨_,SqL.of e3⟩,?_⟩
  have hmem:∀j∈MU.zbe n st2 true x.b,∃y,MU.wat st2 j=some y∧y.tie=true∧y.a<n∧y.b<n:=fun j hj=>by
   obtain ⟨cc,_,hb⟩:=MU.zh2 hj
   obtain ⟨y,hy,hk⟩:=S2.good.at_ _ _ hb
   obtain ⟨q1,q2,q3⟩:=MU.zc8 hk
   exact ⟨y,hy,q1,S2.good.lt _ _ hy⟩
  have tl:(MU.zbe n st2 true x.b).length≤n:=MU.zgh
  generalize MU.zbe n st2 true x.b=L at*
  refine zcf (K:=K) (a:=la) (xs:=zcq L) (fun i σ' H'=>∃v,σ'=[some (.ref p),some (.int (at_:Int)),some (.int (x.a:Int)),some (.int (x.b:Int)),v]∧Clo C H' p be rl bd n Fa ((L.take i).foldl (fun st j=>MU.zaw MU.za7 .sum at_ j st) st2)∧MU.Sta n Fa ((L.take i).foldl (fun st j=>MU.zaw MU.za7 .sum at_ j st) st2)∧MU.Ext st2 ((L.take i).foldl (fun st j=>MU.zaw MU.za7 .sum at_ j st) st2)∧zb7 p rl bd H3 H') ⟨_,rfl,C3,S2,MU.Ext.refl _,zb7.of (zbu.refl _)⟩ ?_ ?_ ?_
  ·rintro i σ' H4 _ ⟨v,rfl,_,_,_,k4⟩
   exact SqL.of (k4 _ _ e3 n1 n2 n3)
  ·rintro i y σ' H4 hy ⟨v,rfl,C4,S4,x4,k4⟩
   unfold zcq at hy
   rw [ZAg] at hy
   cases q:L[i]? with
   | none=>rw [q] at hy;cases hy
   | some j=>
    rw [q] at hy
    cases hy
    obtain ⟨y,hyj,yt,ya,yb⟩:=hmem j (ZAh q)
    have fl:=MU.zcl (f:=fun st j=>MU.zaw MU.za7 .sum at_ j st) (fun _ _=>MU.zb8 _ _ _ _) (L.take i) st2
    rw [ZA1] at fl
    rw [MU.zfo q]
    have hx4:=MU.za3 x4 hx2
    have hy4:=MU.za3 x4 hyj
    have e4:MU.zaw MU.za7 .sum at_ j ((L.take i).foldl (fun st j=>MU.zaw MU.za7 .sum at_ j st) st2)=MU.put ((L.take i).foldl (fun st j=>MU.zaw MU.za7 .sum at_ j st) st2) (MU.za7 x y) .sum [at_,j]:=MU.zr1 hx4 hy4
    rw [e4]
    generalize (L.take i).foldl (fun st j=>MU.zaw MU.za7 .sum at_ j st) st2=st4 at*
    refine ze8 (wd:=.sum) rfl rfl C4 S4.good (fun R z=>zwv rfl rfl z) (.cons hx4 (.cons hy4 .nil)) (.sum x y ht yt) (by omega) fun H5 C5 k5=>⟨_,rfl,C5,S4.put fun w e=>MU.zsh xa yb e,x4.trans (MU.zew _ _ _ _),k4.trans k5⟩
  rintro σ' H4 ⟨v1,rfl,C5,S5,x1,k4⟩
  have hall:L.take (zcq L).length=L:=by unfold zcq;rw [ZAa];exact ZAy
  rw [hall] at C5 S5 x1
  refine c3 _ _ ?_
  have kB:=(kA.trans (zb7.of s3)).trans k4
  have hx3:=MU.za3 x1 hx2
  have lenB:(L.foldl (fun st j=>MU.zaw MU.za7 .sum at_ j st) st2).rows.length≤st.rows.length+(2+1*n):=by
   have:=MU.zcl (f:=fun st j=>MU.zaw MU.za7 .sum at_ j st) (fun _ _=>MU.zb8 _ _ _ _) L st2
   omega
  generalize L.foldl (fun st j=>MU.zaw MU.za7 .sum at_ j st) st2=st3 at*
  clear hmem tl e3 n1 n2 n3 C3 hla s3 k4 hall x1 hp c3 N3
  refine fun N4 c4=>?_
  obtain ⟨dx,hp⟩:=C5.ins
  refine ⟨_,rfl,p,dx,_,rfl,hp,znx (by decide+kernel) (by decide+kernel) (by decide+kernel) (by decide+kernel) (by decide+kernel),_,rfl,p,be,rl,bd,n,Fa,st3,x.a,rfl,C5,h8,fun la H3 hla s3 e3=>?_⟩
  obtain ⟨n1,n2,n3⟩:=C5.apart hla
  have C3:=C5.same s3
  refine ⟨la,rfl,⟨_,SqL.of e3⟩,?_⟩
  have hmem:∀j∈MU.zb5 n st3 x.a,∃y,MU.wat st3 j=some y∧y.tie=true∧y.a<n∧y.b<n:=fun j hj=>by
   obtain ⟨cc,_,hb⟩:=MU.zfh hj
   obtain ⟨y,hy,hk⟩:=S5.good.at_ _ _ hb
   obtain ⟨q1,q2,q3⟩:=MU.zc8 hk
   exact ⟨y,hy,q1,S5.good.lt _ _ hy⟩
  have tl:(MU.zb5 n st3 x.a).length≤n:=MU.zfi
  generalize MU.zb5 n st3 x.a=L at*
  refine zcf (K:=K) (a:=la) (xs:=zcq L) (fun i σ' H'=>∃v,σ'=[some (.ref p),some (.int (at_:Int)),some (.int (x.a:Int)),some (.int (x.b:Int)),v]∧Clo C H' p be rl bd n Fa ((L.take i).foldl (fun st j=>MU.zaw MU.za7 .sum j at_ st) st3)∧MU.Sta n Fa ((L.take i).foldl (fun st j=>MU.zaw MU.za7 .sum j at_ st) st3)∧MU.Ext st3 ((L.take i).foldl (fun st j=>MU.zaw MU.za7 .sum j at_ st) st3)∧zb7 p rl bd H3 H') ⟨_,rfl,C3,S5,MU.Ext.refl _,zb7.of (zbu.refl _)⟩ ?_ ?_ ?_
  ·rintro i σ' H4 _ ⟨v,rfl,_,_,_,k4⟩
   exact SqL.of (k4 _ _ e3 n1 n2 n3)
  ·rintro i y σ' H4 hy ⟨v,rfl,C4,S4,x4,k4⟩
   unfold zcq at hy
   rw [ZAg] at hy
   cases q:L[i]? with
   | none=>rw [q] at hy;cases hy
   | some j=>
    rw [q] at hy
    cases hy
    obtain ⟨y,hyj,yt,ya,yb⟩:=hmem j (ZAh q)
    have fl:=MU.zcl (f:=fun st j=>MU.zaw MU.za7 .sum j at_ st) (fun _ _=>MU.zb8 _ _ _ _) (L.take i) st3
    rw [ZA1] at fl
    rw [MU.zfo q]
    have hx4:=MU.za3 x4 hx3
    have hy4:=MU.za3 x4 hyj
    have e4:MU.zaw MU.za7 .sum j at_ ((L.take i).foldl (fun st j=>MU.zaw MU.za7 .sum j at_ st) st3)=MU.put ((L.take i).foldl (fun st j=>MU.zaw MU.za7 .sum j at_ st) st3) (MU.za7 y x) .sum [j,at_]:=MU.zr1 hy4 hx4
    rw [e4]
    generalize (L.take i).foldl (fun st j=>MU.zaw MU.za7 .sum j at_ st) st3=st4 at*
    refine ze8 (wd:=.sum) rfl rfl C4 S4.good (fun R z=>zwv rfl rfl z) (.cons hy4 (.cons hx4 .nil)) (.sum y x yt ht) (by omega) fun H5 C5 k5=>⟨_,rfl,C5,S4.put fun w e=>MU.zsh ya xb e,x4.trans (MU.zew _ _ _ _),k4.trans k5⟩
  rintro σ' H4 ⟨v2,rfl,C6,S6,x2,k4⟩
  have hall:L.take (zcq L).length=L:=by unfold zcq;rw [ZAa];exact ZAy
  rw [hall] at C6 S6 x2
  refine c4 _ _ ?_
  have kC:=(kB.trans (zb7.of s3)).trans k4
  have hx4z:=MU.za3 x2 hx3
  have lenC:(L.foldl (fun st j=>MU.zaw MU.za7 .sum j at_ st) st3).rows.length≤st.rows.length+(2+2*n):=by
   have:=MU.zcl (f:=fun st j=>MU.zaw MU.za7 .sum j at_ st) (fun _ _=>MU.zb8 _ _ _ _) L st3
   omega
  generalize L.foldl (fun st j=>MU.zaw MU.za7 .sum j at_ st) st3=st4z at*
  clear hmem tl e3 n1 n2 n3 C3 hla s3 k4 hall x2 hp c4 N4
  obtain ⟨dx,hp⟩:=C6.ins
  refine ⟨_,rfl,p,dx,_,rfl,hp,znx (by decide+kernel) (by decide+kernel) (by decide+kernel) (by decide+kernel) (by decide+kernel),_,rfl,p,be,rl,bd,n,Fa,st4z,false,x.b,rfl,C6,h8,fun la H3 hla s3 e3=>?_⟩
  obtain ⟨n1,n2,n3⟩:=C6.apart hla
  have C3:=C6.same s3
  refine ⟨la,rfl,⟨_,SqL.of e3⟩,?_⟩
  have hmem:∀j∈MU.zbe n st4z false x.b,∃y,MU.wat st4z j=some y∧y.tie=false∧y.a<n∧y.b<n:=fun j hj=>by
   obtain ⟨cc,_,hb⟩:=MU.zh2 hj
   obtain ⟨y,hy,hk⟩:=S6.good.at_ _ _ hb
   obtain ⟨q1,q2,q3⟩:=MU.zc8 hk
   exact ⟨y,hy,q1,S6.good.lt _ _ hy⟩
  have tl:(MU.zbe n st4z false x.b).length≤n:=MU.zgh
  generalize MU.zbe n st4z false x.b=L at*
  refine zcf (K:=K) (a:=la) (xs:=zcq L) (fun i σ' H'=>∃v,σ'=[some (.ref p),some (.int (at_:Int)),some (.int (x.a:Int)),some (.int (x.b:Int)),v]∧Clo C H' p be rl bd n Fa ((L.take i).foldl (fun st j=>MU.zaw (MU.zay Fa) .back j at_ st) st4z)∧MU.Sta n Fa ((L.take i).foldl (fun st j=>MU.zaw (MU.zay Fa) .back j at_ st) st4z)∧MU.Ext st4z ((L.take i).foldl (fun st j=>MU.zaw (MU.zay Fa) .back j at_ st) st4z)∧zb7 p rl bd H3 H') ⟨_,rfl,C3,S6,MU.Ext.refl _,zb7.of (zbu.refl _)⟩ ?_ ?_ ?_
  ·rintro i σ' H4 _ ⟨v,rfl,_,_,_,k4⟩
   exact SqL.of (k4 _ _ e3 n1 n2 n3)
  ·rintro i y σ' H4 hy ⟨v,rfl,C4,S4,x4,k4⟩
   unfold zcq at hy
   rw [ZAg] at hy
   cases q:L[i]? with
   | none=>rw [q] at hy;cases hy
   | some j=>
    rw [q] at hy
    cases hy
    obtain ⟨y,hyj,yt,ya,yb⟩:=hmem j (ZAh q)
    have fl:=MU.zcl (f:=fun st j=>MU.zaw (MU.zay Fa) .back j at_ st) (fun _ _=>MU.zb8 _ _ _ _) (L.take i) st4z
    rw [ZA1] at fl
    rw [MU.zfo q]
    have hx4:=MU.za3 x4 hx4z
    have hy4:=MU.za3 x4 hyj
    have e4:MU.zaw (MU.zay Fa) .back j at_ ((L.take i).foldl (fun st j=>MU.zaw (MU.zay Fa) .back j at_ st) st4z)=MU.put ((L.take i).foldl (fun st j=>MU.zaw (MU.zay Fa) .back j at_ st) st4z) ((MU.zay Fa) y x) .back [j,at_]:=MU.zr1 hy4 hx4
    rw [e4]
    obtain ⟨yf,hyf⟩:=S4.ends _ _ hy4 yt
    generalize (L.take i).foldl (fun st j=>MU.zaw (MU.zay Fa) .back j at_ st) st4z=st4 at*
    refine ze8 (wd:=.back) rfl rfl C4 S4.good (fun R z=>zwv rfl rfl z) (.cons hy4 (.cons hx4 .nil)) (.back y x yf yt ht hyf) (by omega) fun H5 C5 k5=>⟨_,rfl,C5,S4.put fun w e=>MU.zql ya yb xa xb e,x4.trans (MU.zew _ _ _ _),k4.trans k5⟩
  ·rintro σ' H4 ⟨v,rfl,C4,S4,x4,k4⟩
   have hall:L.take (zcq L).length=L:=by unfold zcq;rw [ZAa];exact ZAy
   rw [hall,hgoal] at C4 S4
   exact k H4 C4 S4 ((kC.trans (zb7.of s3)).trans k4)
end
end
end Y0
namespace Y0
open PySem L2
structure zuz (n:Nat) (F:MU.za4) (s0:MU.St) (T:Nat):Prop where
 end_:(MU.run n F s0 T).rows.length≤T∨(MU.run n F s0 T).bar≠none
 first:∀t,t<T->t<(MU.run n F s0 t).rows.length∧(MU.run n F s0 t).bar=none
 few:∀t,t≤T->(MU.run n F s0 t).rows.length≤16000000
noncomputable def zvk (C:Addr):Sp:=fun vs H Q _=>∃(p be rl bd:Addr) (n:Nat) (F:MU.za4) (s0:MU.St) (T:Nat),vs=[.ref p]∧Clo C H p be rl bd n F s0∧MU.Sta n F s0∧MU.FOk n F ((60:Nat):Int)∧n≤8∧zuz n F s0 T∧
 ∀H',Clo C H' p be rl bd n F (MU.run n F s0 T)->MU.Sta n F (MU.run n F s0 T)->zb7 p rl bd H H'->Q .non H'
section
variable {P:Program} {w:World} {K:ZBq} {mg:Str->Option Value} {base:Heap}
theorem zw2:zat ["self","at","what"] ["self"] (zai sC_Closing_draw_all):=⟨rfl,rfl,rfl,by decide+kernel,rfl,by decide+kernel,by decide+kernel⟩
section
seal L2.PE L2.PA L2.PT L2.PS L2.PSs L2.PG L2.PGs L2.PI L2.PO
theorem ok_drawAll {f C fT fW:Addr} {fd fdT fdW:FuncData} (F:Fun K "draw_all" "Closing.draw_all" sC_Closing_draw_all f fd) (T:zg5 K mg C)
 (mT:zj6 K C "draw_from_tie" fT) (bT:zdc K fdT ["self","at","a","b"] []) (GT:zbj P w K mg base CX0 4 fT fdT ["self","at","a","b"] (zkn C))
 (mW:zj6 K C "draw_from_wait" fW) (bW:zdc K fdW ["self","at","a"] []) (GW:zbj P w K mg base CX0 4 fW fdW ["self","at","a"] (zis C)):zbj P w K mg base CX0 5 f fd ["self"] (zvk C):=by
 refine F.ok zw2 (fun vs H Q E h=>?_) (fun cdv A outer s H vs Q E hr h=>?_)
 ·obtain ⟨_,_,_,_,_,_,_,_,rfl,_⟩:=h
  rfl
 ·obtain ⟨p,be,rl,bd,n,Fa,s0,Te,rfl,c,S,hF,h8,hE,k⟩:=h
  have hu:=zfc hr
  refine ⟨_,zag (za0 (i:=1) zw2.nd rfl (Or.inl rfl) zah)
   (zaf (zra PassesOwn.never (PW.pt (zce (zak zg4 (pv 1) (zau za5 (by rfl) T.len PySem.boot_len (zaa (zcc (pv 0) rfl) zac)) (zam _)) (zde (zak zs2 (zcc (pv 0) rfl) ze4 (zam _)))))
    (zag (za0 (i:=2) zw2.nd rfl (Or.inl rfl) (za9 zbn (za9 zav (zcc (pv 0) rfl) (pv 1) (fun _ _=>rfl)) zah (fun _ _=>rfl)))
    (zag (ziv (zbk (zak zbv (zc6 hu (zcc (pv 0) rfl) (zez zmt (pv 2) zf0 (zfz zah)) (fun _ _=>rfl)) (pv 1) (zam _))
     (zaf (zbk (zak zbv (ixT (pv 2)) zax (zam _))
      (zaf (zbt (zb9 (pv 0) T.cl mT GT hr bT .nil za1 (zaa (pv 1) (zaa (ixT (pv 2)) (zaa (ixT (pv 2)) zac))))))
      (zaf (zbt (zb9 (pv 0) T.cl mW GW hr bW .nil za1 (zaa (pv 1) (zaa (ixT (pv 2)) zac))))))) zas))
    (zaf (zo8 (i:=1) zw2.nd rfl (Or.inl rfl) zah zpx)))))),?_⟩
  refine fun N1 c1=>c1 _ _ ?_
  refine ⟨fun m σ' H'=>∃t v,t+m=Te∧σ'=[some (.ref p),some (.int (t:Int)),v]∧Clo C H' p be rl bd n Fa (MU.run n Fa s0 t)∧MU.Sta n Fa (MU.run n Fa s0 t)∧zb7 p rl bd H H',⟨Te,0,none,by omega,rfl,c,S,zb7.of (zbu.refl _)⟩,?_⟩
  rintro m σ' H1 ⟨t,v,htm,rfl,C1,S1,k1⟩
  obtain ⟨dx,hp⟩:=C1.ins
  obtain ⟨qs,hrl,hrows⟩:=C1.rows
  obtain ⟨kvs,hbd,hkl,hkv⟩:=C1.best
  have hql:qs.length=(MU.run n Fa s0 t).rows.length:=Paired.length hrows
  refine ⟨_,rfl,_,rfl,p,C,dx,_,_,rfl,hp,T.cl,T.nR,zgn,rl,_,rfl,.inl (SqL.of hrl),_,_,rfl,rfl,_,rfl,?_⟩
  rw [ZAa,hql]
  have ending:∀b,(MU.run n Fa s0 t).rows.length≤t∨(MU.run n Fa s0 t).bar≠none->b=false->if b=true then (∃N:L2.St->Hp->Prop,(∀σ' H',N σ' H'->∃m',m'<m∧∃t v,t+m'=Te∧σ'=[some (.ref p),some (.int (t:Int)),v]∧Clo C H' p be rl bd n Fa (MU.run n Fa s0 t)∧MU.Sta n Fa (MU.run n Fa s0 t)∧zb7 p rl bd H H')∧False) else Q .non H1:=fun b hst hb=>by
   have e:t=Te:=ZAf fun z=>by
    have:=hE.first t (by omega)
    rcases hst with y | y
    ·omega
    ·exact y this.2
   rw [if_neg (by rw [hb];decide)]
   rw [e] at C1 S1
   exact k H1 C1 S1 k1
  by_cases hlt:t<(MU.run n Fa s0 t).rows.length
  ·refine zgi (by omega) ⟨_,rfl,p,C,dx,_,_,rfl,hp,T.cl,T.nX,zr4,rfl,_,rfl,?_⟩
   rw [zqk]
   by_cases hb:(MU.run n Fa s0 t).bar=none
   ·refine zgi hb ?_
    have htT:t<Te:=ZAf fun z=>by
     have e:t=Te:=by omega
     rcases hE.end_ with y | y
     ·rw [←e] at y;omega
     ·rw [←e] at y;exact y hb
    refine ⟨fun σ' H'=>∃m',m'<m∧∃t v,t+m'=Te∧σ'=[some (.ref p),some (.int (t:Int)),v]∧Clo C H' p be rl bd n Fa (MU.run n Fa s0 t)∧MU.Sta n Fa (MU.run n Fa s0 t)∧zb7 p rl bd H H',fun σ' H' z=>z,?_⟩
    obtain ⟨x,hx⟩:∃x,MU.wat (MU.run n Fa s0 t) t=some x:=⟨_,by unfold MU.wat;rw [ZAd hlt];rfl⟩
    obtain ⟨q',r,pw,pu,g1,g2,g3,g4,g5,g6⟩:=zjh hrows hx
    have hat:atI (qs.map V.ref) (t:Int)=some (.ref q'):=zby (by rw [ZAg,g1];rfl)
    refine fun N2 c2=>⟨_,rfl,p,C,dx,_,_,rfl,hp,T.cl,T.nR,zgn,zqp rfl hrl hat (rdT g4 rfl (c2 _ _ ?_))⟩
    clear c2 N2
    refine fun N3 c3=>⟨fun σ' H'=>σ'=[some (.ref p),some (.int (t:Int)),some (.ref pw)]∧Clo C H' p be rl bd n Fa (MU.run n Fa s0 (t+1))∧MU.Sta n Fa (MU.run n Fa s0 (t+1))∧zb7 p rl bd H1 H',?_,?_⟩
    ·refine ⟨_,rfl,p,C,dx,_,_,rfl,hp,T.cl,T.nE,zfw,_,rfl,_,rfl,pw,_,rfl,SqT.of g5,zpn,fun kt hkt=>?_⟩
     rw [zya]
     have s3:=zad (o:=.tup ((zc9 x.key).map kV)) hkt
     have e3:upd H1 kt (.tup ((zc9 x.key).map kV)) kt=some (.tup ((zc9 x.key).map kV)):=zab
     generalize upd H1 kt (.tup ((zc9 x.key).map kV))=H3 at*
     obtain ⟨j,hj,hbj⟩:=S1.good.top t x hx
     have dg:=ze7.t (k:=zc9 x.key) (s3 _ _ hbd) e3
     rw [hkv,hbj] at dg
     have C3:=C1.same s3
     have few:=hE.few t (by omega)
     have hl:MU.run n Fa s0 (t+1)=MU.look n Fa t (MU.run n Fa s0 t):=rfl
     refine ⟨bd,_,rfl,dg,_,rfl,rfl,_,rfl,?_⟩
     rw [zln]
     by_cases e:j=t
     ·rw [e] at hbj
      refine zgi e ⟨_,rfl,rdT (s3 _ _ g5) rfl ⟨rfl,_,rfl,?_⟩⟩
      rw [zhh]
      cases ht:x.tie with
      | true=>
       have el:=MU.zjs (n:=n) (F:=Fa) hx ht rfl rfl (by rw [←hbj];unfold MU.zar.key;rw [ht])
       rw [hl,el]
       refine zih ⟨_,rfl,p,dx,_,rfl,s3 _ _ hp,znx (by decide+kernel) (by decide+kernel) (by decide+kernel) (by decide+kernel) (by decide+kernel),_,rfl,_,rfl,rdT (s3 _ _ g5) rfl ⟨_,rfl,rdT (s3 _ _ g5) rfl ?_⟩⟩
       exact ⟨p,be,rl,bd,n,Fa,_,t,x,rfl,C3,S1,hF,hx,ht,h8,few,fun H4 C4 S4 k4=>⟨rfl,C4,S4,(zb7.of s3).trans k4⟩⟩
      | false=>
       have el:=MU.zk0 (n:=n) (F:=Fa) hx ht hbj
       rw [hl,el]
       refine zeh ⟨_,rfl,p,dx,_,rfl,s3 _ _ hp,znx (by decide+kernel) (by decide+kernel) (by decide+kernel) (by decide+kernel) (by decide+kernel),_,rfl,_,rfl,rdT (s3 _ _ g5) rfl ?_⟩
       exact ⟨p,be,rl,bd,n,Fa,_,t,x,rfl,C3,S1,hF,hx,ht,h8,few,fun H4 C4 S4 k4=>⟨rfl,C4,S4,(zb7.of s3).trans k4⟩⟩
     ·have el:=MU.zk1 (n:=n) (F:=Fa) hx (by rw [hbj];exact fun z=>e (ZAn z))
      rw [hl,el]
      exact zep e ⟨rfl,C3,S1,zb7.of s3⟩
    ·rintro σ' H4 ⟨rfl,C4,S4,k4⟩
     refine c3 _ _ ⟨_,rfl,_,_,rfl,rfl,m-1,by omega,t+1,some (.ref pw),by omega,?_,C4,S4,k1.trans k4⟩
     show [some (V.ref p),some (V.int ((t:Int)+1)),some (V.ref pw)]=[some (V.ref p),some (V.int ((t+1:Nat):Int)),some (V.ref pw)]
     rfl
   ·have:=ending false (.inr hb) rfl
    exact zep hb this
  ·have:=ending false (.inl (by omega)) rfl
   exact zep (by omega) (zeh this)
end
end
end Y0
namespace MU
noncomputable def empty:St:=⟨[],fun _=>none,none⟩
noncomputable def zfy (rows:List zar) (st:St):St:=rows.foldl (fun st w=>take st w .told []) st
variable {n:Nat} {F:za4} {st:St}
theorem zgx:zdw n empty:=by
 have nw:∀i w,wat empty i≠some w:=fun i w h=>by
  unfold wat empty at h
  simp at h
 exact ⟨fun k i h=>(nomatch h),fun i w h=>absurd h (nw i w),fun i w h=>absurd h (nw i w),fun _ i w h=>absurd h (nw i w),fun _ i j w w' h=>absurd h (nw i w)⟩
noncomputable def zym (n:Nat) (w:zar):Prop:=w.a<n∧w.b<n∧w.tie=true
theorem zfj:∀(rows:List zar) (st:St),zdw n st->(∀w∈rows,zym n w)->zdw n (zfy rows st)
 | [],_,g,_=>g
 | w::r,st,g,h=>zfj r _ (zki g (h w ZAl).1 (h w ZAl).2.1 fun z=>by rw [(h w ZAl).2.2] at z;cases z) fun w' hw'=>h w' (ZAk _ hw')
theorem zkg:∀(rows:List zar) (st:St),Imp st (zfy rows st)
 | [],st=>Imp.refl st
 | w::r,st=>(zmn st w _ _).trans (zkg r _)
theorem zhq:∀(rows:List zar) (st:St),(zfy rows st).rows.length≤st.rows.length+rows.length
 | [],st=>ZAc _
 | w::r,st=>by
  have h1:=zhq r (take st w .told [])
  have h2:=zb8 st (some w) .told []
  have h2:(take st w .told []).rows.length≤st.rows.length+1:=h2
  rw [ZA5]
  show (zfy r (take st w .told [])).rows.length≤_
  omega
theorem zgt:∀(rows:List zar) (st:St),(∀i w,wat st i=some w->w.tie=true)->(∀w∈rows,zym n w)->∀i w,wat (zfy rows st) i=some w->w.tie=true
 | [],_,h,_=>h
 | w::r,st,h,hw=>zgt r _ (fun i u hu=>by
  by_cases hi:i<st.rows.length
  ·exact h i u (zg8 (zf9 _ _ _ _) hi hu)
  ·exact zmo (C:=fun u=>u.tie=true) (hw w ZAl).2.2 i u (by omega) hu) fun w' hw'=>hw w' (ZAk _ hw')
theorem zfx:∀(rows:List zar) (st:St) (w:zar),w∈rows->w.a≠w.b->∃u,val (zfy rows st) w.key=some u∧¬zbs w.tie w.v u
 | [],_,w,h,_=>nomatch h
 | x::r,st,w,h,hne=>by
  rcases ZAu.mp h with e | h
  ·subst e
   obtain ⟨u,hu,nu⟩:=zgu (st:=st) (w:=w) (word:=.told) (used:=[]) hne
   obtain ⟨u',hu',nu'⟩:=(zkg r (take st w .told [])).2 w.key u hne hu
   exact ⟨u',hu',zgd nu nu'⟩
  ·exact zfx r _ w h hne
theorem zi4:∀i w,wat empty i=some w->w.tie=true:=fun i w h=>by
 unfold wat empty at h
 simp at h
theorem zub (g:zdw n st) (h:∀i w,wat st i=some w->w.tie=true) (a b:Nat):val st (false,a,b)=none:=by
 unfold val
 cases q:st.best (false,a,b) with
 | none=>rfl
 | some i=>
  obtain ⟨w,hw,hk⟩:=g.at_ _ _ q
  have:=h i w hw
  have e:=(zc8 hk).1
  rw [this] at e
  cases e
end MU
namespace Y0
open PySem L2
noncomputable def zj7:List Int->MU.zar
 | [a,b,v]=>⟨true,a.toNat,b.toNat,v⟩
 | _=>⟨true,0,0,0⟩
noncomputable def zw4 (n:Int) (rows:List (List Int)):Prop:=∀r∈rows,∃a b v:Int,r=[a,b,v]∧0≤a∧a<n∧0≤b∧b<n∧a≠b
theorem zkr {la:Int}:∀{k:Nat} {n:Int},(k:Int)+1≤n->zw4 n (zev la k)
 | 0,_,_=>fun r hr=>nomatch hr
 | k+1,n,h=>fun r hr=>by
  unfold zev at hr
  rcases ZA4.mp hr with hr | hr
  ·exact zkr (k:=k) (by omega) r hr
  ·rcases ZAu.mp hr with rfl | hr
   ·exact ⟨0,(k:Int)+1,la,rfl,by omega,by omega,by omega,by omega,by omega⟩
   ·rw [ZAt.mp hr]
    exact ⟨(k:Int)+1,0,0,rfl,by omega,by omega,by omega,by omega,by omega⟩
theorem zkl {n:Int} {rows:List (List Int)} (h:∀r∈rows,∃a b l m:Int,r=[a,b,l,m]∧0≤a∧a<n∧0≤b∧b<n∧a≠b):zw4 n (zeu rows):=fun r hr=>by
 unfold zeu at hr
 obtain ⟨x,hx,hrx⟩:=List.mem_flatten.mp hr
 obtain ⟨y,hy,rfl⟩:=ZA7.mp hx
 obtain ⟨a,b,l,m,rfl,h1,h2,h3,h4,h5⟩:=h y hy
 rcases ZAu.mp hrx with rfl | hrx
 ·exact ⟨a,b,m,rfl,h1,h2,h3,h4,h5⟩
 ·rw [ZAt.mp hrx]
  exact ⟨b,a,-l,rfl,h3,h4,h1,h2,Ne.symm h5⟩
theorem zcv.idxN {n la:Int} {T F:List (List Int)} (h:zcv n la T F):zw4 n (zgp n la T F):=fun r hr=>by
 unfold zgp at hr
 have n1:=h.n1
 rcases ZA4.mp hr with hr | hr
 ·rcases ZA4.mp hr with hr | hr
  ·exact zkr (by omega) r hr
  ·exact zkl (fun r hr=>by obtain ⟨a,b,l,m,e,x1,x2,x3,x4,x5,_⟩:=h.t r hr;exact ⟨a,b,l,m,e,x1,x2,x3,x4,x5⟩) r hr
 ·exact zkl (fun r hr=>by obtain ⟨a,b,l,m,e,x1,x2,x3,x4,x5,_⟩:=h.f r hr;exact ⟨a,b,l,m,e,x1,x2,by omega,x4,x5⟩) r hr
theorem zi8 {n la:Int} {T F:List (List Int)} (h:zcv n la T F):(zgp n la T F).length≤100:=by
 unfold zgp
 rw [ZAj,ZAj,zdn,zc5 h.fourT,zc5 h.fourF]
 have:=h.tl
 have:=h.fl
 have:=h.n2
 omega
noncomputable def zid (n la:Int) (T F:List (List Int)):MU.St:=MU.zfy ((zgp n la T F).map zj7) MU.empty
theorem zoh {n:Nat} {rows:List (List Int)} (h:zw4 (n:Int) rows):∀w∈rows.map zj7,MU.zym n w:=fun w hw=>by
 obtain ⟨r,hr,rfl⟩:=ZA7.mp hw
 obtain ⟨a,b,v,rfl,h1,h2,h3,h4,_⟩:=h r hr
 exact ⟨by show a.toNat<n;omega,by show b.toNat<n;omega,rfl⟩
theorem zlj {n:Nat} {la:Int} {T F:List (List Int)} (h:zcv (n:Int) la T F):MU.Sta n (za6 F) (zid n la T F):=by
 have g:=MU.zfj ((zgp (n:Int) la T F).map zj7) MU.empty MU.zgx (zoh h.idxN)
 refine ⟨g,fun i w hw ht=>?_⟩
 have:=MU.zgt (n:=n) _ _ MU.zi4 (zoh h.idxN) i w hw
 rw [ht] at this
 cases this
theorem zmv {la:Int} {i:Nat}:∀{k:Nat},i<k->[0,(i:Int)+1,la]∈zev la k∧[(i:Int)+1,0,0]∈zev la k
 | 0,h=>absurd h (ZBm _)
 | k+1,h=>by
  unfold zev
  by_cases e:i=k
  ·subst e
   exact ⟨ZA3 _ ZAl,ZA3 _ (ZAk _ ZAl)⟩
  ·obtain ⟨h1,h2⟩:=zmv (la:=la) (i:=i) (k:=k) (by omega)
   exact ⟨List.mem_append_left _ h1,List.mem_append_left _ h2⟩
theorem znz {n:Nat} {la:Int} {T F:List (List Int)} (h:zcv (n:Int) la T F) (hla:la≤20):∃Te,zuz n (za6 F) (zid n la T F) Te:=by
 have g:=MU.zfj ((zgp (n:Int) la T F).map zj7) MU.empty MU.zgx (zoh h.idxN)
 have ties:=MU.zgt (n:=n) _ _ MU.zi4 (zoh h.idxN)
 have n1:=h.n1
 have n2:=h.n2
 have hl:=MU.zhq ((zgp (n:Int) la T F).map zj7) MU.empty
 have hs:=zi8 h
 rw [ZAa] at hl
 have hl:(zid n la T F).rows.length≤0+(zgp (n:Int) la T F).length:=hl
 have told:∀i,0<i->i<n->(∃v,v≤((20:Nat):Int)∧MU.val (zid n la T F) (true,0,i)=some v)∧∃v,v≤0∧MU.val (zid n la T F) (true,i,0)=some v:=fun i h1 h2=>by
  have hk:i-1<((n:Int)-1).toNat:=by omega
  obtain ⟨m1,m2⟩:=zmv (la:=la) hk
  have ei:((i-1:Nat):Int)+1=(i:Int):=by omega
  rw [ei] at m1 m2
  have in1:(⟨true,0,i,la⟩:MU.zar)∈(zgp (n:Int) la T F).map zj7:=ZA7.mpr ⟨_,List.mem_append_left _ (List.mem_append_left _ m1),rfl⟩
  have in2:(⟨true,i,0,0⟩:MU.zar)∈(zgp (n:Int) la T F).map zj7:=ZA7.mpr ⟨_,List.mem_append_left _ (List.mem_append_left _ m2),rfl⟩
  obtain ⟨u1,v1,w1⟩:=MU.zfx _ MU.empty _ in1 (by show 0≠i;omega)
  obtain ⟨u2,v2,w2⟩:=MU.zfx _ MU.empty _ in2 (by show i≠0;omega)
  unfold MU.zbs at w1 w2
  simp at w1 w2
  exact ⟨⟨u1,by omega,v1⟩,⟨u2,w2,v2⟩⟩
 obtain ⟨Te,e1,e2,e3⟩:=MU.zl5 (n:=n) (F:=za6 F) (s0:=zid n la T F) (by omega) h.fok g told (MU.zub g ties) (by omega)
 exact ⟨Te,e1,e2,e3⟩
noncomputable def zox (C CW:Addr):Sp:=fun vs H Q _=>∃(p wb dx:Addr) (n:Nat) (la:Int) (T F:List (List Int)),vs=[.ref p,.ref wb]∧H p=some (.ins C dx [])∧zf3 CW H wb (n:Int) la T F∧zcv (n:Int) la T F∧
 ∀H' be rl bd,Clo C H' p be rl bd n (za6 F) (zid n la T F)->H be=none->H rl=none->H bd=none->zdl p H H'->Q .non H'
section
variable {P:Program} {w:World} {K:ZBq} {mg:Str->Option Value} {base:Heap}
noncomputable abbrev nCi:List Str:=["self","web","a","b","most"]
theorem zw1:zat nCi ["self","web"] (zai sC_Closing_init):=⟨rfl,rfl,rfl,by decide+kernel,rfl,by decide+kernel,by decide+kernel⟩
theorem km1:¬(("many":Str)="by_end"):=by decide+kernel
theorem km2:¬(("many":Str)="rows"):=by decide+kernel
theorem km3:¬(("by_end":Str)="rows"):=by decide+kernel
theorem km4:¬(("many":Str)="best"):=by decide+kernel
theorem km5:¬(("by_end":Str)="best"):=by decide+kernel
theorem km6:¬(("rows":Str)="best"):=by decide+kernel
theorem km7:¬(("many":Str)="bar"):=by decide+kernel
theorem km8:¬(("by_end":Str)="bar"):=by decide+kernel
theorem km9:¬(("rows":Str)="bar"):=by decide+kernel
theorem km0:¬(("best":Str)="bar"):=by decide+kernel
theorem zyi {n:Nat} {be rl bd:Addr} {v:V}:zbz "bar" v (zbz "best" (.ref bd) (zbz "rows" (.ref rl) (zbz "by_end" (.ref be) (zbz "many" (.int (n:Int)) []))))=zd8 n be rl bd v:=by
 have s1:zbz "by_end" (V.ref be) [(("many":Str),V.int (n:Int))]=[(("many":Str),V.int (n:Int)),("by_end",.ref be)]:=by rw [zb0 km1];rfl
 have s2:zbz "rows" (V.ref rl) [(("many":Str),V.int (n:Int)),("by_end",.ref be)]=[(("many":Str),V.int (n:Int)),("by_end",.ref be),("rows",.ref rl)]:=by rw [zb0 km2,zb0 km3];rfl
 have s3:zbz "best" (V.ref bd) [(("many":Str),V.int (n:Int)),("by_end",.ref be),("rows",.ref rl)]=[(("many":Str),V.int (n:Int)),("by_end",.ref be),("rows",.ref rl),("best",.ref bd)]:=by rw [zb0 km4,zb0 km5,zb0 km6];rfl
 have s4:zbz "bar" v [(("many":Str),V.int (n:Int)),("by_end",.ref be),("rows",.ref rl),("best",.ref bd)]=zd8 n be rl bd v:=by rw [zb0 km7,zb0 km8,zb0 km9,zb0 km0];rfl
 show zbz "bar" v (zbz "best" (.ref bd) (zbz "rows" (.ref rl) (zbz "by_end" (.ref be) [(("many":Str),V.int (n:Int))])))=_
 rw [s1,s2,s3,s4]
section
seal L2.PE L2.PA L2.PT L2.PS L2.PSs L2.PG L2.PGs L2.PI L2.PO
theorem ok_cinit {f C CW fT fE fB:Addr} {fd fdT fdE fdB:FuncData} (F:Fun K "__init__" "Closing.__init__" sC_Closing_init f fd) (T:zg5 K mg C) (TC:zqq K mg CW)
 (mT:zj6 K C "take" fT) (bT:zdc K fdT ["self","what","word","used"] []) (GT:zbj P w K mg base CX0 2 fT fdT ["self","what","word","used"] (zoo C))
 (FE:Fn K mg "falls_by_end" sP_falls_by_end ["web"] fE fdE) (GE:zbj P w K mg base CX0 2 fE fdE ["web"] (zls CW))
 (FB:Fn K mg "told_bounds" sP_told_bounds ["web"] fB fdB) (GB:zbj P w K mg base CX0 3 fB fdB ["web"] (zon CW)):zbj P w K mg base CX0 4 f fd ["self","web"] (zox C CW):=by
 refine F.ok zw1 (fun vs H Q E h=>?_) (fun cdv A outer s H vs Q E hr h=>?_)
 ·obtain ⟨_,_,_,_,_,_,_,rfl,_⟩:=h
  rfl
 ·obtain ⟨p,wb,dx,n,la,rT,rF,rfl,hp,W0,hok,k⟩:=h
  have hr2:zek 2 _:=hr.mono (by decide)
  have hr3:zek 3 _:=hr
  refine ⟨_,zag (zfv (pv 0) (zcc (pv 1) rfl) rfl)
   (zag (zfv (pv 0) (zao GE hr2 rfl FE.g FE.F.kp FE.b .nil za1 (zaa (pv 1) zac)) rfl)
   (zag (zfv (pv 0) (zcy zac) rfl)
   (zag (zfv (pv 0) zre rfl)
   (zag (zfv (pv 0) ze4 rfl)
   (zaf (zcx PassesOwn.never rfl (zb2 (zao GB hr3 rfl FB.g FB.F.kp FB.b .nil za1 (zaa (pv 1) zac)))
    (ziw rfl (zbb (zap (i:=2) zw1.nd rfl (Or.inl rfl)) (zbb (zap (i:=3) zw1.nd rfl (Or.inl rfl)) (zbb (zap (i:=4) zw1.nd rfl (Or.inl rfl)) zf1))))
    (zaf (zbt (zb9 (pv 0) T.cl mT GT hr2 bT .nil za1 (zaa (za8 (zaa zax (zaa (pv 2) (zaa (pv 3) (zaa (pv 4) zac))))) (zaa zax (zaa (za8 zac) zac)))))))))))),?_⟩
  obtain ⟨wdx,wta,wfa,hwb,wr1,wr2⟩:=id W0
  have pw:p≠wb:=fun z=>by
   rw [z,hwb] at hp
   have:=HO.ins.inj (ZAn hp)
   exact absurd this.2.2 (fun z=>by unfold zgs zbz at z;cases z)
  refine fun N1 c1=>⟨_,rfl,wb,CW,wdx,_,_,rfl,hwb,TC.cl,TC.nM,zsf _ _ _ _,_,rfl,p,C,dx,_,rfl,hp,T.cl,T.nM,by show 0<1000;decide,c1 _ _ ?_⟩
  have kp:∀{Hx:Hp} {fs:List (Str×V)} {o:HO},Hx p=some (.ins C dx fs)->zdl p Hx (upd Hx p o):=fun {Hx fs o} e b o' e' ne=>by rw [zaj ne];exact e'
  have k1:zdl p H (upd H p (.ins C dx (zbz "many" (.int (n:Int)) []))):=kp hp
  have p1:upd H p (.ins C dx (zbz "many" (.int (n:Int)) [])) p=some (.ins C dx (zbz "many" (.int (n:Int)) [])):=zab
  generalize upd H p (.ins C dx (zbz "many" (.int (n:Int)) []))=H1 at*
  clear c1 N1
  have W1:zf3 CW H1 wb (n:Int) la rT rF:=⟨wdx,wta,wfa,k1 _ _ hwb (Ne.symm pw),by
   obtain ⟨ps,R⟩:=wr1
   exact ⟨ps,k1 _ _ R.1 (zbp R.1 hp (fun z=>nomatch z)),zan R.2 fun _ _ e=>k1 _ _ e (zbp e hp (fun z=>nomatch z))⟩,by
   obtain ⟨ps,R⟩:=wr2
   exact ⟨ps,k1 _ _ R.1 (zbp R.1 hp (fun z=>nomatch z)),zan R.2 fun _ _ e=>k1 _ _ e (zbp e hp (fun z=>nomatch z))⟩⟩
  refine fun N2 c2=>⟨_,rfl,wb,(n:Int),la,rT,rF,rfl,W1,hok,fun be H2 hbe s2 FA2=>⟨_,rfl,p,C,dx,_,rfl,s2 _ _ p1,T.cl,T.nB,by show 1<1000;decide,c2 _ _ ?_⟩⟩
  have k2:zdl p H2 (upd H2 p (.ins C dx (zbz "by_end" (.ref be) (zbz "many" (.int (n:Int)) [])))):=kp (s2 _ _ p1)
  have p2:upd H2 p (.ins C dx (zbz "by_end" (.ref be) (zbz "many" (.int (n:Int)) []))) p=some (.ins C dx (zbz "by_end" (.ref be) (zbz "many" (.int (n:Int)) []))):=zab
  have p2':=s2 _ _ p1
  have FA3:zcw (upd H2 p (.ins C dx (zbz "by_end" (.ref be) (zbz "many" (.int (n:Int)) [])))) be (za6 rF):=by
   obtain ⟨fkv,f1,f2,f3,f4⟩:=FA2.at_
   refine ⟨fkv,k2 _ _ f1 (zbp f1 p2' (fun z=>nomatch z)),f2,f3,fun e f hf=>?_⟩
   obtain ⟨pp,q1,q2⟩:=f4 e f hf
   exact ⟨pp,q1,k2 _ _ q2 (zbp q2 p2' (fun z=>nomatch z))⟩
  generalize upd H2 p (.ins C dx (zbz "by_end" (.ref be) (zbz "many" (.int (n:Int)) [])))=H3 at*
  clear c2 N2
  have K3:zdl p H H3:=fun b o e ne=>k2 _ _ (s2 _ _ (k1 _ _ e ne)) ne
  have free:∀{Hx:Hp} {b:Addr},zdl p H Hx->Hx b=none->b≠p->H b=none:=fun {Hx b} kk e ne=>by
   cases q:H b with
   | none=>rfl
   | some o=>rw [kk _ _ q ne] at e;cases e
  have beH:H be=none:=free k1 hbe (Ne.symm (zae p1 hbe))
  refine fun N3 c3=>⟨ZAq _,fun rl hrl=>⟨_,rfl,p,C,dx,_,rfl,zad hrl _ _ p2,T.cl,T.nR,by show 2<1000;decide,c3 _ _ ?_⟩⟩
  have s4:=zad (o:=.lst []) hrl
  have r4:upd H3 rl (.lst []) rl=some (.lst []):=zab
  have FA4:=FA3.same s4
  have p4:=s4 _ _ p2
  generalize upd H3 rl (.lst [])=H4 at*
  have prl:p≠rl:=zae p2 hrl
  have rlH:H rl=none:=free K3 hrl (Ne.symm prl)
  have k5:zdl p H4 (upd H4 p (.ins C dx (zbz "rows" (.ref rl) (zbz "by_end" (.ref be) (zbz "many" (.int (n:Int)) []))))):=kp p4
  have p5:upd H4 p (.ins C dx (zbz "rows" (.ref rl) (zbz "by_end" (.ref be) (zbz "many" (.int (n:Int)) [])))) p=some (.ins C dx (zbz "rows" (.ref rl) (zbz "by_end" (.ref be) (zbz "many" (.int (n:Int)) [])))):=zab
  have r5:=k5 _ _ r4 (Ne.symm prl)
  generalize upd H4 p (.ins C dx (zbz "rows" (.ref rl) (zbz "by_end" (.ref be) (zbz "many" (.int (n:Int)) []))))=H5 at*
  clear c3 N3
  have K5:zdl p H H5:=fun b o e ne=>k5 _ _ (s4 _ _ (K3 _ _ e ne)) ne
  refine fun N4 c4 bd hbd=>⟨_,rfl,p,C,dx,_,rfl,zad hbd _ _ p5,T.cl,T.nE,by show 3<1000;decide,c4 _ _ ?_⟩
  have s6:=zad (o:=.dT []) hbd
  have b6:upd H5 bd (.dT []) bd=some (.dT []):=zab
  have p6:=s6 _ _ p5
  have r6:=s6 _ _ r5
  generalize upd H5 bd (.dT [])=H6 at*
  have pbd:p≠bd:=zae p5 hbd
  have bdH:H bd=none:=free K5 hbd (Ne.symm pbd)
  have k7:zdl p H6 (upd H6 p (.ins C dx (zbz "best" (.ref bd) (zbz "rows" (.ref rl) (zbz "by_end" (.ref be) (zbz "many" (.int (n:Int)) [])))))):=kp p6
  have p7:upd H6 p (.ins C dx (zbz "best" (.ref bd) (zbz "rows" (.ref rl) (zbz "by_end" (.ref be) (zbz "many" (.int (n:Int)) []))))) p=some (.ins C dx (zbz "best" (.ref bd) (zbz "rows" (.ref rl) (zbz "by_end" (.ref be) (zbz "many" (.int (n:Int)) []))))):=zab
  have r7:=k7 _ _ r6 (Ne.symm prl)
  have b7:=k7 _ _ b6 (Ne.symm pbd)
  generalize upd H6 p (.ins C dx (zbz "best" (.ref bd) (zbz "rows" (.ref rl) (zbz "by_end" (.ref be) (zbz "many" (.int (n:Int)) [])))))=H7 at*
  clear c4 N4
  refine fun N5 c5=>⟨_,rfl,p,C,dx,_,rfl,p7,T.cl,T.nX,by show 4<1000;decide,c5 _ _ ?_⟩
  rw [zyi]
  have k8:zdl p H7 (upd H7 p (.ins C dx (zd8 n be rl bd .non))):=kp p7
  have p8:upd H7 p (.ins C dx (zd8 n be rl bd .non)) p=some (.ins C dx (zd8 n be rl bd .non)):=zab
  have r8:=k8 _ _ r7 (Ne.symm prl)
  have b8:=k8 _ _ b7 (Ne.symm pbd)
  generalize upd H7 p (.ins C dx (zd8 n be rl bd .non))=H8 at*
  clear c5 N5
  have k38:zdl p H4 H8:=fun b o e ne=>k8 _ _ (k7 _ _ (s6 _ _ (k5 _ _ e ne)) ne) ne
  have K8:zdl p H H8:=fun b o e ne=>k38 _ _ (s4 _ _ (K3 _ _ e ne)) ne
  have FA8:zcw H8 be (za6 rF):=by
   obtain ⟨fkv,f1,f2,f3,f4⟩:=FA4.at_
   refine ⟨fkv,k38 _ _ f1 (zbp f1 p4 (fun z=>nomatch z)),f2,f3,fun e f hf=>?_⟩
   obtain ⟨pp,q1,q2⟩:=f4 e f hf
   exact ⟨pp,q1,k38 _ _ q2 (zbp q2 p4 (fun z=>nomatch z))⟩
  have C8:Clo C H8 p be rl bd n (za6 rF) MU.empty:=⟨⟨dx,p8⟩,FA8,⟨[],r8,.nil⟩,⟨[],b8,⟨ZAc _,fun _ z=>nomatch z⟩,fun k=>rfl⟩⟩
  have W8:zf3 CW H8 wb (n:Int) la rT rF:=⟨wdx,wta,wfa,K8 _ _ hwb (Ne.symm pw),by
   obtain ⟨ps,R⟩:=wr1
   exact ⟨ps,K8 _ _ R.1 (zbp R.1 hp (fun z=>nomatch z)),zan R.2 fun _ _ e=>K8 _ _ e (zbp e hp (fun z=>nomatch z))⟩,by
   obtain ⟨ps,R⟩:=wr2
   exact ⟨ps,K8 _ _ R.1 (zbp R.1 hp (fun z=>nomatch z)),zan R.2 fun _ _ e=>K8 _ _ e (zbp e hp (fun z=>nomatch z))⟩⟩
  refine ⟨_,rfl,wb,(n:Int),la,rT,rF,rfl,W8,hok,fun l H9 hl s9 R9=>?_⟩
  obtain ⟨qs,R⟩:=R9
  have C9:=C8.same s9
  obtain ⟨n1,n2,n3⟩:=C8.apart hl
  have idx:=hok.idxN
  have sh:=zi8 hok
  refine ⟨l,rfl,⟨_,SqL.of R.1⟩,?_⟩
  have stays:∀{H':Hp},zb7 p rl bd H9 H'->H' l=some (.lst (qs.map V.ref)):=fun kk=>kk _ _ R.1 n1 n2 n3
  obtain ⟨dx9,p9⟩:=C9.ins
  obtain ⟨q9,r9,_⟩:=C9.rows
  obtain ⟨kv9,b9,_⟩:=C9.best
  have tups:∀{H':Hp} {b:Addr} {xs:List V},zb7 p rl bd H9 H'->H9 b=some (.tup xs)->H' b=some (.tup xs):=fun kk e=>kk _ _ e (zbp e p9 (fun z=>nomatch z)) (zbp e r9 (fun z=>nomatch z)) (zbp e b9 (fun z=>nomatch z))
  generalize hB:zgp (n:Int) la rT rF=B at*
  refine zcf (K:=K) (a:=l) (xs:=qs.map V.ref) (fun i σ' H'=>∃v2 v3 v4,σ'=[some (.ref p),some (.ref wb),v2,v3,v4]∧Clo C H' p be rl bd n (za6 rF) (MU.zfy ((B.take i).map zj7) MU.empty)∧zb7 p rl bd H9 H') ⟨none,none,none,rfl,C9,zb7.of (zbu.refl _)⟩ ?_ ?_ ?_
  ·rintro i σ' H' _ ⟨v2,v3,v4,rfl,_,kk⟩
   exact SqL.of (stays kk)
  ·rintro i y σ' H10 hy ⟨v2,v3,v4,rfl,C10,kk⟩
   obtain ⟨q,r,rfl,hq,hr',hqt⟩:=R.get hy
   obtain ⟨a,b,v,rfl,x1,x2,x3,x4,x5⟩:=idx r (ZAh hr')
   have hi:i<B.length:=(ZAb.mp hr').1
   refine ⟨q,_,rfl,SqT.of (tups kk hqt),rfl,_,_,rfl,_,_,rfl,_,_,rfl,rfl,?_⟩
   obtain ⟨dx10,p10⟩:=C10.ins
   have gi:=MU.zfj ((B.take i).map zj7) MU.empty (MU.zgx (n:=n)) (zoh fun r hr=>idx r (List.mem_of_mem_take hr))
   have li:=MU.zhq ((B.take i).map zj7) MU.empty
   rw [ZAa,ZA1] at li
   have li:(MU.zfy ((B.take i).map zj7) MU.empty).rows.length≤0+min i B.length:=li
   have et:MU.zfy ((B.take (i+1)).map zj7) MU.empty=MU.take (MU.zfy ((B.take i).map zj7) MU.empty) (zj7 [a,b,v]) .told []:=by
    unfold MU.zfy
    rw [ZBa,hr',ZAp,List.foldl_append]
    rfl
   rw [et]
   generalize MU.zfy ((B.take i).map zj7) MU.empty=sti at*
   refine ⟨_,rfl,p,dx10,_,rfl,p10,znx (by decide+kernel) (by decide+kernel) (by decide+kernel) (by decide+kernel) (by decide+kernel),_,rfl,_,rfl,_,rfl,by show 4≤sizeLine;decide,fun t ht=>⟨ZAq _,fun u hu'=>?_⟩⟩
   have s11:=zad (o:=.tup [V.str "tie",V.int a,V.int b,V.int v]) ht
   have w11:zbf (upd H10 t (.tup [V.str "tie",V.int a,V.int b,V.int v])) t (zj7 [a,b,v]):=by
    unfold zbf
    rw [zab]
    show some (HO.tup [V.str "tie",V.int a,V.int b,V.int v])=some (HO.tup [V.str "tie",V.int ((a.toNat:Nat):Int),V.int ((b.toNat:Nat):Int),V.int v])
    rw [show ((a.toNat:Nat):Int)=a by omega,show ((b.toNat:Nat):Int)=b by omega]
   generalize upd H10 t (.tup [V.str "tie",V.int a,V.int b,V.int v])=H11 at*
   have s12:=zad (o:=.tup []) hu'
   refine ⟨p,be,rl,bd,t,u,n,_,_,zj7 [a,b,v],.told,[],rfl,(C10.same s11).same s12,gi,w11.same s12,zab,by omega,fun H13 C13 k13=>⟨_,_,_,rfl,C13,?_⟩⟩
   exact (kk.trans (zb7.of (s11.trans s12))).trans k13
  ·rintro σ' H10 ⟨v2,v3,v4,rfl,C10,kk⟩
   have hall:B.take (qs.map V.ref).length=B:=by rw [ZAa,R.len];exact ZAy
   rw [hall] at C10
   refine k H10 be rl bd ?_ beH rlH bdH fun b o e ne=>kk _ _ (s9 _ _ (K8 _ _ e ne)) ne (zae e rlH) (zae e bdH)
   unfold zid
   rw [hB]
   exact C10
end
end
end Y0
namespace L2
open PySem PySem.Spec PyProof.Rows
section
variable {prog:Program} {w:World} {A:Around} {E:Value->Shared->Prop} {s:Shared}
theorem zq7 {d:Addr} {o:Obj} {es:Array DictEntry} {ep:Nat} {Q:Value->Shared->Prop} (hd:(d==sysModules)=false) (ho:s.heap.get? d=some o) (hc:o.ExactDict) (hdat:o.data=.dict es ep)
 (hQ:Q (.ref s.heap.objs.size) { s with heap:=s.heap.push { cls:=.type "dict_keyiterator",data:=.fields #[.ref d,.int 0 0,.int es.size 0,.int ep 0] } }):
 wpAny (model prog w) A (pyIter (.ref d)) Q E s:=by
 have hT:s.TypeIs (.ref d) "dict":=⟨o,ho,hc.1⟩
 refine wpAny_pyIter_slot hT F.slot_dict_iter (wpAny_call_entry F.slot_dict_iter hT F.entry_dict_iter ?_ (F.args_dict_iter_1 _))
 unfold Builtin.«dict.__iter__» Builtin.Dict.dictSlotNone
 refine wpAny_bind (wpAny_bind (wpAny_notOrdered_dict hT (show wpAny _ _ (pure (Value.ref d)) _ _ s from wpAny_pure ?_)))
 refine (show wpAny _ _ (Builtin.Dict.showsAll d>>=_) _ _ s from ?_)
 unfold Builtin.Dict.showsAll
 rw [if_neg (by rw [hd];exact ZAm)]
 refine wpAny_bind (wpAny_pure (wpAny_bind (wpAny_dictEntries ho hdat (wpAny_bind (wpAny_dictEpoch ho hdat (wpAny_bind (wpAny_newObj_type (wpAny_pure ⟨_,rfl,"dict_keyiterator",_,⟨_,ZAx _ rfl,rfl⟩,F.slot_dict_keyiterator_next.lookup,?_⟩))))))))
 simpa [rawInt] using hQ
theorem zq6 {it d:Addr} {i ep:Nat} {od:Obj} {es:Array DictEntry} {e:DictEntry} {Q:Option Value->Shared->Prop} (hit:s.heap.IsKeyIter it d i es.size ep) (hod:s.heap.get? d=some od) (hdd:od.data=.dict es ep) (hx:es[i]?=some e)
 (hQ:∀h',h'.IsKeyIter it d (i+1) es.size ep->Heap.SameBut it s.heap h'->Q (some e.key) { s with heap:=h' }):wpAny (model prog w) A (pyNext (.ref it)) Q E s:=by
 obtain ⟨o,ho,hc,hd⟩:=id hit
 unfold pyNext
 refine wpAny_bind (wpAny_attempt (wpAny_callSpecial?_slot (name:=Str.ofString "__next__") hit.typeIs F.slot_dict_keyiterator_next (wpAny_call_entry F.slot_dict_keyiterator_next hit.typeIs F.entry_dict_keyiterator_next ?_ (F.args_dict_keyiterator_next_1 _))))
 refine wpAny_bind (wpAny_pure (wpAny_bind (wpAny_bind ?_)))
 first | refine wpAny_bind (wpAny_typeNameOfWhole_keyiter hit.typeIs (wpAny_pure (wpAny_bind (wpAny_fieldsOf ho hd ?_)))) | refine wpAny_bind (wpAny_typeNameOf_keyiter hit.typeIs (wpAny_pure (wpAny_bind (wpAny_fieldsOf ho hd ?_))))
 simp only [show Builtin.Dict_items.ownsTuple "dict_keyiterator"=false by decide,Bool.false_eq_true,if_false]
 refine (show wpAny _ _ (if (Value.ref d==Value.none)=true then _ else _) _ _ s from ?_)
 rw [if_neg (show ¬((Value.ref d==Value.none)=true) from ZAm)]
 refine wpAny_bind (wpAny_pure (wpAny_bind (wpAny_dictEntries hod hdd ?_)))
 rw [if_neg (by simp)]
 refine wpAny_bind (wpAny_pure (wpAny_bind (wpAny_dictEpoch hod hdd ?_)))
 rw [if_neg (by simp)]
 refine wpAny_pure ?_
 simp only [show ¬((i:Int)<0) from by omega,if_false,ZBd,hx]
 refine wpAny_bind ?_
 first | refine wpAny_bind (wpAny_typeNameOfWhole_keyiter hit.typeIs (wpAny_pure (wpAny_bind (wpAny_isOneOf_keyiter hit.typeIs ?_)))) | refine wpAny_bind (wpAny_typeNameOf_keyiter hit.typeIs (wpAny_pure (wpAny_bind (wpAny_isOneOf_keyiter hit.typeIs ?_))))
 refine (show wpAny _ _ (setField (.ref it) 1 (rawInt ((i:Int)+1))>>=_) _ _ s from wpAny_bind (wpAny_setField ho hd (by simp) ?_))
 have hit':(s.heap.update it (Obj.mapFields (·.setIfInBounds 1 (rawInt ((i:Int)+1))))).IsKeyIter it d (i+1) es.size ep:=
  ⟨_,Heap.get?_update_self _ ho (Obj.isFreed_of_fields (Obj.data_mapFields hd _)),(Obj.cls_mapFields ..).trans hc,by rw [Obj.data_mapFields hd];simp [rawInt]⟩
 refine wpAny_bind (wpAny_holding (wpAny_bind (wpAny_isOneOf_keyiter (s:={ s with heap:=s.heap.update it (Obj.mapFields (·.setIfInBounds 1 (rawInt ((i:Int)+1)))) }) hit'.typeIs (show wpAny _ _ (pure e.key) _ _ _ from wpAny_pure (wpAny_pure ⟨_,rfl,wpAny_pure (hQ _ hit' (Heap.SameBut.update ..))⟩)))))
theorem zt0 {it d:Addr} {i ep:Nat} {od:Obj} {es:Array DictEntry} {Q:Option Value->Shared->Prop} (q:Hd A s.heap) (hit:s.heap.IsKeyIter it d i es.size ep) (hod:s.heap.get? d=some od) (hdd:od.data=.dict es ep) (hx:es.size≤i)
 (hQ:∀h',Heap.ExtBut it s.heap h'->Q none { s with heap:=h' }):wpAny (model prog w) A (pyNext (.ref it)) Q E s:=by
 obtain ⟨o,ho,hc,hd⟩:=id hit
 unfold pyNext
 refine wpAny_bind (wpAny_attempt (wpAny_callSpecial?_slot (name:=Str.ofString "__next__") hit.typeIs F.slot_dict_keyiterator_next (wpAny_call_entry F.slot_dict_keyiterator_next hit.typeIs F.entry_dict_keyiterator_next ?_ (F.args_dict_keyiterator_next_1 _))))
 refine wpAny_bind (wpAny_pure (wpAny_bind (wpAny_bind ?_)))
 first | refine wpAny_bind (wpAny_typeNameOfWhole_keyiter hit.typeIs (wpAny_pure (wpAny_bind (wpAny_fieldsOf ho hd ?_)))) | refine wpAny_bind (wpAny_typeNameOf_keyiter hit.typeIs (wpAny_pure (wpAny_bind (wpAny_fieldsOf ho hd ?_))))
 simp only [show Builtin.Dict_items.ownsTuple "dict_keyiterator"=false by decide,Bool.false_eq_true,if_false]
 refine (show wpAny _ _ (if (Value.ref d==Value.none)=true then _ else _) _ _ s from ?_)
 rw [if_neg (show ¬((Value.ref d==Value.none)=true) from ZAm)]
 refine wpAny_bind (wpAny_pure (wpAny_bind (wpAny_dictEntries hod hdd ?_)))
 rw [if_neg (by simp)]
 refine wpAny_bind (wpAny_pure (wpAny_bind (wpAny_dictEpoch hod hdd ?_)))
 rw [if_neg (by simp)]
 refine wpAny_pure ?_
 simp only [show ¬((i:Int)<0) from by omega,if_false,ZBd,Array.getElem?_eq_none hx]
 refine wpAny_bind ?_
 first | refine wpAny_bind (wpAny_typeNameOfWhole_keyiter hit.typeIs (wpAny_pure ?_)) | refine wpAny_bind (wpAny_typeNameOf_keyiter hit.typeIs (wpAny_pure ?_))
 refine (show wpAny _ _ (setField (.ref it) 0 .none>>=_) _ _ s from wpAny_bind (wpAny_setField ho hd (by simp) ?_))
 have other:∀b o,b≠it->s.heap.get? b=some o->(s.heap.update it (Obj.mapFields (·.setIfInBounds 0 Value.none))).get? b=some o:=fun b o hb e=>(Heap.get?_update_other _ _ (Ne.symm hb)).trans e
 refine zjd (A:=A.in1) (s:={ s with heap:=s.heap.update it (Obj.mapFields (·.setIfInBounds 0 Value.none)) }) (Hd.keep (A:=A.in1) q fun b C dx t tb e=>other b _ (fun z=>?_) e) fun e h' kk te=>?_
 ·rw [z,ho] at e
  cases e
  cases hc
 ·refine wpAny_bind (wpAny_mono (zj1 (s0:=s) (fun b o hb z=>kk b o (other b o hb z)) te hQ) (fun b s' z=>?_) fun _ _ z=>z)
  obtain ⟨rfl,z⟩:=z
  exact wpAny_pure z
end
end L2
namespace L2
open PySem PySem.Spec PyProof.Rows
section
variable {X:Cx} {pins:List (Addr×Obj)} {σ:St} {H:Hp} {s:Shared} {a:Addr} {o:Obj} {u:HO}
theorem Inv.freeze (I:Inv X pins σ H s) (hu:H a=some u) (mu:Mut (some u)) (ho:s.heap.get? a=some o):Inv X pins σ (upd H a (.frz o u)) s:=by
 have ntup:∀b xs,H b=some (.tup xs)->b≠a:=fun b xs r z=>by subst z;rw [hu] at r;cases r;exact mu
 have nown:∀b y,H b=some (.own y)->b≠a:=fun b y r z=>by subst z;rw [hu] at r;cases r;exact mu
 exact I.write (h':=s.heap) (t':=s.toks) (x:=a) (e:=a) (by rw [hu];exact mu) (.inl rfl) (fun b v _ e=>e) ⟨o,ho⟩
  ⟨ho,(I.hok a u hu).stay (fun b v _ e=>e) (fun b e=>by rw [zaj (nown b a e)];exact e) fun b xs e=>by rw [zaj (ntup b xs e)];exact e⟩
theorem Inv.thaw (I:Inv X pins σ H s) (hu:H a=some (.frz o u)) (h0:∀o u,X.H₀ a≠some (.frz o u)):Inv X pins σ (upd H a u) s:=by
 have ne:∀{b:Addr} {x:Option HO},H b=x->(∀o u,x≠some (.frz o u))->b≠a:=fun {b x} e hx z=>by subst z;rw [hu] at e;exact hx _ _ e.symm
 have st:∀b v,zcd X.prog X.w H s.heap b v->zcd X.prog X.w (upd H a u) s.heap b v:=fun b v x=>
  x.stay (fun c v _ e=>e) (fun c e=>by rw [zaj (ne e fun _ _ z=>nomatch z)];exact e) fun c xs e=>by rw [zaj (ne e fun _ _ z=>nomatch z)];exact e
 refine ⟨I.ok,I.os,I.bare,⟨I.base.keep,I.base.slot,fun b v q n hx=>?_,I.base.there,fun b xs q=>?_,fun b ob v q=>?_,fun b ps q=>?_⟩,I.loc,I.cell,?_,fun x c e=>?_,fun p hp=>?_,fun b v q=>?_,I.len⟩
 ·have e:=I.base.free b v q n hx
  rw [zaj (ne e fun _ _ z=>nomatch z)];exact e
 ·have e:=I.base.tups b xs q
  rw [zaj (ne e fun _ _ z=>nomatch z)];exact e
 ·have e:=I.base.frzs b ob v q
  rw [zaj (fun z=>by subst z;exact h0 ob v q)];exact e
 ·obtain ⟨more,e⟩:=I.base.tbls b ps q
  exact ⟨more,by rw [zaj (ne e fun _ _ z=>nomatch z)];exact e⟩
 ·rw [zaj (ne I.free fun _ _ z=>nomatch z)];exact I.free
 ·rw [zaj (ne (I.freeC x c e) fun _ _ z=>nomatch z)];exact I.freeC x c e
 ·obtain ⟨p1,p2,p3⟩:=I.pin p hp
  exact ⟨p1,by rw [zaj (ne p2 fun _ _ z=>nomatch z)];exact p2,p3⟩
 ·by_cases hb:b=a
  ·subst hb
   rw [zab] at q
   cases q
   exact st b u (I.hok b _ hu).2
  ·rw [zaj hb] at q
   exact st b v (I.hok b v q)
end
noncomputable def zw7 (H₀:Hp) (t:TE):TE:=fun σ H Q=>t σ H fun x H1=>∃a o u,H1 a=some (.frz o u)∧(∀o u,H₀ a≠some (.frz o u))∧Q x (upd H1 a u)
theorem zt9 {X:Cx} {e:Expr} {t:TE} (he:PE X e t):PE X e (zw7 X.H₀ t):=by
 intro pins s σ H Q I h
 refine thn (he pins s σ H _ I h) fun v s1 zz=>?_
 obtain ⟨x,H1,I1,r1,q1⟩:=zz
 obtain ⟨a,o,u,e1,e2,q⟩:=q1
 exact ⟨x,_,I1.thaw e1 e2,r1,q⟩
noncomputable def Itk (a:Addr) (o:Obj) (kvs:List (List Key×V)):It:=
 ⟨fun i H=>H a=some (.frz o (.dT kvs))∧i<kvs.length,fun i H x H'=>H'=H∧∃q k v,x=.ref q∧kvs[i]?=some (k,v)∧H q=some (.tup (k.map kV)),fun i H=>H a=some (.frz o (.dT kvs))∧kvs.length≤i⟩
theorem zkw {α β:Type} {F:α->β->Prop} {l:List α} {m:List β} (h:Paired F l m) {i:Nat} {x:α} (hx:l[i]?=some x):∃y,m[i]?=some y∧F x y:=by
 induction h generalizing i with
 | nil=>simp at hx
 | cons r _ ih=>
  cases i with
  | zero=>simp at hx;subst hx;exact ⟨_,rfl,r⟩
  | succ i=>simpa using ih (by simpa using hx)
theorem zhx {α β γ:Type} {F:α×β->α×γ->Prop}:∀{l:List (α×β)} {m:List (α×γ)},Paired F l m->(∀p q,F p q->p.1=q.1)->l.map (·.1)=m.map (·.1)
 | _,_,.nil,_=>rfl
 | _,_,.cons r t,h=>by rw [ZAv,ZAv,zhx t h,h _ _ r]
theorem zm7 {X:Cx} {pins:List (Addr×Obj)} {σ:St} {H:Hp} {s:Shared} {a:Addr} {o:Obj} {kvs:List (List Key×V)} {es:Array DictEntry} {ep:Nat} (I:Inv X pins σ H s) (h:H a=some (.frz o (.dT kvs))) (hd:o.data=.dict es ep):
 s.heap.get? a=some o∧es.size=kvs.length∧∀(i:Nat) (k:List Key) (v:V),kvs[i]?=some (k,v)->∃(e:DictEntry) (q:Addr),es[i]?=some e∧e.key=Value.ref q∧H q=some (.tup (k.map kV)):=by
 obtain ⟨ho,_,_,xs,hp,o',es',ep',ho',hc,hd',he,hn⟩:=(show zcd X.prog X.w H s.heap a (.frz o (.dT kvs)) from I.hok a _ h)
 rw [ho] at ho'
 cases ho'
 rw [hd] at hd'
 cases hd'
 refine ⟨ho,?_,fun i k v hx=>?_⟩
 ·rw [←Array.length_toList,he,ZAa,Paired.length hp]
 ·obtain ⟨x,hx',r1,r2,r3⟩:=zkw hp hx
  refine ⟨_,x.2.1,by rw [←Array.getElem?_toList,he,ZAg,hx'];rfl,rfl,?_⟩
  exact r2
theorem zod {P:Program} {w:World} {K:ZBq} {tg:Expr} (a it:Addr) (o:Obj) (kvs:List (List Key×V)) {es:Array DictEntry} {ep:Nat} (hd:o.data=.dict es ep):
 zus P w K tg (Itk a o kvs) [it] it (fun i h=>h.IsKeyIter it a i es.size ep) where
 mem:=by simp
 obj:=fun i h st b hb=>by
  have e:b=it:=by simpa using hb
  subst e
  obtain ⟨o,e,c,d⟩:=st
  exact ⟨o,e,fun v z=>by rw [d] at z;cases z⟩
 keep:=fun i h h' st k=>st.at fun o e=>k it (by simp) o e
 item:=by
  intro X hP hw hK hc i pins s σ H E I hf st hg
  subst hP hw hK
  obtain ⟨hfz,hi⟩:=hg
  obtain ⟨ho,hsz,hat⟩:=zm7 I hfz hd
  obtain ⟨⟨k,v⟩,hx⟩:∃p,kvs[i]?=some p:=⟨kvs[i],by simp [hi]⟩
  obtain ⟨e,q,he,hk,hq⟩:=hat i k v hx
  obtain ⟨f0,f1,f2,f3,f4,f5⟩:=hf it (by simp)
  refine zq6 st ho hd he fun h' st' sb=>?_
  have I1:Inv X pins σ H { s with heap:=h' }:=I.turned (t':=s.toks) (fun b o hb e=>(sb.2 b hb).trans e) f0 f1 f3 f4 f5
  rw [hk]
  exact ⟨_,rfl,letGo_keyiter (s':={ s with heap:=h' }) st' ⟨.ref q,H,I1,rfl,⟨rfl,q,k,v,rfl,hx,hq⟩,st',fun b hb=>(hf b hb).1⟩⟩
 done:=by
  intro X hP hw hK hc i pins s σ H E I hf st hg
  subst hP hw hK
  obtain ⟨hfz,hi⟩:=hg
  obtain ⟨ho,hsz,_⟩:=zm7 I hfz hd
  obtain ⟨f0,f1,f2,f3,f4,f5⟩:=hf it (by simp)
  exact zt0 (znt hc I) st ho hd (by omega) fun h' eb=>⟨rfl,I.turned (t':=s.toks) (fun b o hb e=>eb b o hb e) f0 f1 f3 f4 f5⟩
 self:=fun _ _ _ _ _ st h=>wpAny_pyIter_keyiter st h
section
variable {X:Cx} {tg:Expr}
noncomputable def zx5 (td:TE):TI:=fun σ H R=>td σ H fun x H1=>∃a kvs,x=.ref a∧H1 a=some (.dT kvs)∧((kvs.map (·.1)).Nodup->∀o,R (Itk a o kvs) (upd H1 a (.frz o (.dT kvs))))
theorem zt6 {d:Expr} {td:TE} (hl:PE X d td):PI X tg d (zx5 td):=by
 intro pins s σ H R I h
 refine thn (hl pins s σ H _ I h) fun v s1 zz=>?_
 obtain ⟨x,H1,I1,r1,q1⟩:=zz
 obtain ⟨a,kvs,e,hq,q⟩:=q1
 subst e
 cases r1
 obtain ⟨_,hs,xs,hp,o,es,ep,ho,hc,hd,he,hn⟩:=(show zcd X.prog X.w H1 s1.heap a (.dT kvs) from I1.hok a _ hq)
 have hnd:(kvs.map (·.1)).Nodup:=by rw [zhx hp fun _ _ z=>z.1];exact hn
 refine zq7 hs ho hc hd ?_
 have I2:=I1.freeze hq trivial ho
 refine ⟨s1.heap.objs.size,[s1.heap.objs.size],_,_,_,rfl,I2.kept (t':=s1.toks) fun b o e=>ZAe _ e,zod a _ o kvs hd,⟨_,ZAx _ rfl,rfl,rfl⟩,fun b hb=>?_,q hnd o⟩
 have e:b=s1.heap.objs.size:=by simpa using hb
 subst e
 exact I2.fpOk (ZAc _) (I2.hok.fresh (ZAc _))
end
theorem zqd {js:List (Option Nat)} {g:TG} {tc:TT} {te:TE} {σ:St} {H:Hp} {D:Addr} {Q:VK} {a:Addr} {o:Obj} {kvs:List (List Key×V)} (Pv:Nat->St->Hp->Prop) (h0:Pv 0 (zfu js σ) (upd H D (.lst [])))
 (hl:∀i σ' H',i≤kvs.length->Pv i σ' H'->H' a=some (.frz o (.dT kvs)))
 (hs:∀i k v q σ' H',kvs[i]?=some (k,v)->H' q=some (.tup (k.map kV))->Pv i σ' H'->g (.ref q) σ' H' fun σ3 H3=>tc σ3 H3 fun ok H4=>if ok=true then te σ3 H4 fun y H5=>∃ys,H5 D=some (.lst ys)∧ys.length<sizeLine∧Pv (i+1) σ3 (upd H5 D (.lst (ys++[y]))) else Pv (i+1) σ3 H4)
 (hd:∀σ' H',Pv kvs.length σ' H'->Q (.ref D) H'):
 zgz js g tc te σ Q (Itk a o kvs) H D:=by
 refine ⟨fun i m σ H=>m=kvs.length-i∧i≤kvs.length∧Pv i σ H,⟨kvs.length,by simp,ZAq _,h0⟩,?_⟩
 rintro i m σ' H' ⟨rfl,hi,p⟩
 by_cases hlt:i<kvs.length
 ·refine .inr ⟨⟨hl i σ' H' hi p,hlt⟩,Pv (i+1),fun σ2 H2 p'=>⟨kvs.length-(i+1),by omega,rfl,hlt,p'⟩,fun x H2 y=>?_⟩
  obtain ⟨e,q,k,v,rfl,hx,hq⟩:=y
  subst e
  exact hs i k v q σ' _ hx hq p
 ·have e:i=kvs.length:=by omega
  subst e
  exact .inl ⟨⟨hl _ σ' H' hi p,ZAc _⟩,hd σ' H' p⟩
end L2
namespace TS
open PySem PyProof PyProof.Rows
noncomputable def gal:Bool->Keyed->Array Keyed->Nat->Nat->Nat->StateT SortSt Sem (Option Nat):=sortPriv% PySem.Builtin.gallop
class SK where
 num:Keyed->Int
 ok:Keyed->Prop
 kind:SortKind
noncomputable def N [SK] (p:Keyed):Int:=SK.num p
noncomputable def isN [SK] (p:Keyed):Prop:=SK.ok p
noncomputable def K [SK] (xs:Array Keyed) (i:Nat):Int:=match xs[i]? with
 | some p=>N p
 | none=>0
class LtOk [SK] (prog:Program) (w:World) (A:Around) (E:Value->Shared->Prop) (s:Shared):Prop where
 lt:∀{st:SortSt} {p q:Keyed} {Q:Option Bool->SortSt->Prop},kindOf st=SK.kind->isN p->isN q->Q (some (decide (N p<N q))) st->wpS (model prog w) A E s (lt' p q) Q st
section
variable [SK]
theorem zf5 {xs ys:Array Keyed} {i j:Nat} (h:xs[i]?=ys[j]?):K xs i=K ys j:=by unfold K;rw [h]
theorem zsc {xs:Array Keyed} {src d:Nat} (hs:src<xs.size) (hd:d≤src) (k:Nat):
 K (bubble xs src d) k=if k=src-d then K xs src else if src-d<k∧k≤src then K xs (k-1) else K xs k:=by
 have e:=getElem?_bubble hs d hd k
 by_cases h1:k=src-d
 ·rw [if_pos h1] at*;exact zf5 e
 rw [if_neg h1] at*
 by_cases h2:src-d<k∧k≤src
 ·rw [if_pos h2] at*;exact zf5 e
 ·rw [if_neg h2] at*;exact zf5 e
theorem zhn {xs:Array Keyed} {i j:Nat} (hj:j≤xs.size) (k:Nat):K (mirror xs i j ((j-i) / 2)) k=if i≤k∧k<j then K xs (i+j-1-k) else K xs k:=by
 have e:=getElem?_mirror_all (i:=i) hj k
 by_cases h1:i≤k∧k<j
 ·rw [if_pos h1] at*;exact zf5 e
 ·rw [if_neg h1] at*;exact zf5 e
theorem zel {xs:Array Keyed} {i j:Nat} (hj:j≤xs.size) (he:∀k,i≤k->k<j->K xs k=K xs (j-1)) (k:Nat):K (mirror xs i j ((j-i) / 2)) k=K xs k:=by
 rw [zhn hj];split
 ·rename_i h;rw [he k h.1 h.2,he (i+j-1-k) (by omega) (by omega)]
 ·rfl
end
noncomputable def Bey (left:Bool) (kv x:Int):Bool:=if left then decide (x<kv) else !decide (kv<x)
theorem zgo {l:Bool} {kv x y:Int} (h:x≤y) (hy:Bey l kv y=true):Bey l kv x=true:=by
 unfold Bey at*;cases l<;>simp_all<;>omega
theorem zqj {l:Bool} {kv x y:Int} (h:x≤y) (hy:Bey l kv x=false):Bey l kv y=false:=by
 cases e:Bey l kv y with
 | false=>rfl
 | true=>rw [zgo h e] at hy;exact hy
section
variable [SK] {prog:Program} {w:World} {A:Around} {E:Value->Shared->Prop} {s:Shared} [LtOk prog w A E s] {st:SortSt}
theorem zbx {a:Array Keyed} {i:Nat} {p:Keyed} {Q:Keyed->SortSt->Prop} (he:a[i]?=some p) (h:Q p st):
 wpS (model prog w) A E s (elem' a i) Q st:=by
 rw [elem'_eq,he];exact wpS_pure h
theorem zn6 {p q:Keyed} {Q:Option Bool->SortSt->Prop} (hk:kindOf st=SK.kind) (hp:isN p) (hq:isN q)
 (h:Q (some (decide (N p<N q))) st):wpS (model prog w) A E s (lt' p q) Q st:=LtOk.lt hk hp hq h
theorem zka {l:Bool} {key p:Keyed} {a:Array Keyed} {i:Nat} {Q:Option Bool->SortSt->Prop} (hk:kindOf st=SK.kind)
 (he:a[i]?=some p) (hp:isN p) (hq:isN key) (h:Q (some (Bey l (N key) (N p))) st):
 wpS (model prog w) A E s (do
  let x ←elem' a i
  if l=true then lt' x key else do
   let r ←lt' key x
   pure (Option.map (fun x=> !x) r)) Q st:=by
 refine wpS_bind (zbx he ?_)
 cases l
 ·exact wpS_bind (zn6 hk hq hp (wpS_pure h))
 ·exact zn6 hk hp hq h
theorem ze2 {a:Array Keyed} (hI:∀p,p∈a.toList->isN p) {i:Nat} (hi:i<a.size):∃p,a[i]?=some p∧isN p∧K a i=N p:=
 ⟨a[i],getElem?_pos _ i hi,hI _ (by simp),by unfold K;rw [getElem?_pos a i hi]⟩
noncomputable abbrev BSt:=Option (Option Nat)×Nat×Nat
theorem zij {P:Nat->Bool} {n lo hi:Nat} {f:Nat->BSt->StateT SortSt Sem (ForInStep BSt)}
 (hP:∀i j,i≤j->j<n->P j=true->P i=true)
 (hf:∀x lo hi,hi≤n->∀Q:ForInStep BSt->SortSt->Prop,(hi≤lo->Q (.done (none,lo,hi)) st)->
  (lo<hi->P (lo+(hi-lo) / 2)=true->Q (.yield (none,lo+(hi-lo) / 2+1,hi)) st)->
  (lo<hi->P (lo+(hi-lo) / 2)=false->Q (.yield (none,lo,lo+(hi-lo) / 2)) st)->
  wpS (model prog w) A E s (f x (none,lo,hi)) Q st)
 (hlo:lo≤hi) (hhi:hi≤n) (h1:∀i,i<lo->P i=true) (h2:∀i,hi≤i->i<n->P i=false):
 wpS (model prog w) A E s (forIn [:n] ((none,lo,hi):BSt) f)
  (fun c st'=>st'=st∧∃k,c=(none,k,k)∧k≤n∧(∀i,i<k->P i=true)∧(∀i,k≤i->i<n->P i=false)) st:=by
 refine wpS_forRange
  (I:=fun x c st'=>st'=st∧∃lo hi,c=(none,lo,hi)∧lo≤hi∧hi≤n∧hi-lo≤n-x∧
   (∀i,i<lo->P i=true)∧(∀i,hi≤i->i<n->P i=false))
  ?_ ?_ ⟨rfl,lo,hi,rfl,hlo,hhi,by omega,h1,h2⟩
 ·rintro x c st' _ hx ⟨rfl,lo,hi,rfl,a1,a2,a3,a4,a5⟩
  refine hf x lo hi a2 _ (fun hge=>?_) (fun hlt hm=>?_) (fun hlt hm=>?_)
  ·obtain rfl:lo=hi:=by omega
   exact ⟨rfl,lo,rfl,a2,a4,a5⟩
  ·exact ⟨rfl,_,hi,rfl,by omega,a2,by omega,fun i hi'=>hP i _ (by omega) (by omega) hm,a5⟩
  ·refine ⟨rfl,lo,_,rfl,by omega,by omega,by omega,a4,fun i hi' hin=>?_⟩
   cases e:P i with
   | false=>rfl
   | true=>rw [hP _ i hi' hin e] at hm;exact hm
 ·rintro c st' ⟨rfl,lo,hi,rfl,a1,a2,a3,a4,a5⟩
  obtain rfl:lo=hi:=by simp at a3;omega
  exact ⟨rfl,lo,rfl,a2,a4,a5⟩
theorem zmi {l:Bool} {key:Keyed} {a:Array Keyed} {b n hint:Nat} {Q:Option Nat->SortSt->Prop} (hk:kindOf st=SK.kind)
 (hI:∀p,p∈a.toList->isN p) (hq:isN key) (hn:b+n≤a.size) (hs:∀i j,i≤j->j<n->K a (b+i)≤K a (b+j)) (hh:hint<n)
 (h:∀k,k≤n->(∀i,i<k->Bey l (N key) (K a (b+i))=true)->(∀i,k≤i->i<n->Bey l (N key) (K a (b+i))=false)->Q (some k) st):
 wpS (model prog w) A E s (gal l key a b n hint) Q st:=by
 refine wpS_bind ?_
 obtain ⟨p,e1,e2,e3⟩:=ze2 hI (i:=b+hint) (by omega)
 refine zka hk e1 e2 hq ?_
 rw [←e3]
 cases e:Bey l (N key) (K a (b+hint)) with
 | true=>
  dsimp only
  rw [if_pos rfl]
  refine wpS_bind (wpS_mono (wpS_forRange
   (I:=fun x c st'=>st'=st∧∃lo ofs,c=(none,lo,ofs)∧lo<ofs∧x<ofs∧hint+lo<n∧Bey l (N key) (K a (b+(hint+lo)))=true)
   (Q:=fun c st'=>st'=st∧∃lo ofs,c=(none,lo,ofs)∧lo<ofs∧hint+lo<n∧Bey l (N key) (K a (b+(hint+lo)))=true∧
    (hint+ofs<n->Bey l (N key) (K a (b+(hint+ofs)))=false))
   ?_ ?_ ⟨rfl,0,1,rfl,by omega,by omega,by omega,e⟩) ?_)
  ·rintro x c st' _ hx ⟨rfl,lo,ofs,rfl,a1,a2,a3,a4⟩
   dsimp only
   by_cases hge:ofs≥n-hint
   ·rw [if_pos hge]
    exact wpS_pure ⟨rfl,lo,ofs,rfl,a1,a3,a4,fun h=>absurd h (by omega)⟩
   ·rw [if_neg hge]
    obtain ⟨p,e1,e2,e3⟩:=ze2 hI (i:=b+(hint+ofs)) (by omega)
    refine wpS_bind (zka hk e1 e2 hq ?_)
    rw [←e3]
    cases e':Bey l (N key) (K a (b+(hint+ofs))) with
    | true=>exact wpS_pure ⟨rfl,ofs,2*ofs+1,rfl,by omega,by omega,by omega,e'⟩
    | false=>exact wpS_pure ⟨rfl,lo,ofs,rfl,a1,a3,a4,fun _=>e'⟩
  ·rintro c st' ⟨rfl,lo,ofs,rfl,a1,a2,a3,a4⟩
   exact ⟨rfl,lo,ofs,rfl,a1,a3,a4,fun h=>absurd h (by simp at a2;omega)⟩
  ·rintro c st' ⟨rfl,lo,ofs,rfl,a1,a3,a4,a5⟩
   dsimp only
   refine wpS_bind (wpS_mono (zij (P:=fun i=>Bey l (N key) (K a (b+i))) (fun i j hij hj e=>zgo (hs i j hij hj) e)
    ?_ (by omega) (by omega) (fun i hi=>?_) (fun i hi hin=>?_)) ?_)
   ·intro x lo hi hhn Q' c1 c2 c3
    dsimp only
    by_cases hge:lo≥hi
    ·rw [if_pos hge];exact wpS_pure (c1 hge)
    ·rw [if_neg hge]
     obtain ⟨p,e1,e2,e3⟩:=ze2 hI (i:=b+(lo+(hi-lo) / 2)) (by omega)
     refine wpS_bind (zka hk e1 e2 hq ?_)
     rw [←e3]
     cases e':Bey l (N key) (K a (b+(lo+(hi-lo) / 2))) with
     | true=>exact wpS_pure (c2 (by omega) e')
     | false=>exact wpS_pure (c3 (by omega) e')
   ·exact zgo (hs i (hint+lo) (by omega) (by omega)) a4
   ·exact zqj (hs (hint+ofs) i (by omega) (by omega)) (a5 (by omega))
   ·rintro c st' ⟨rfl,k,rfl,b1,b2,b3⟩
    exact wpS_pure (h k b1 b2 b3)
 | false=>
  dsimp only
  rw [if_neg (by decide)]
  refine wpS_bind (wpS_mono (wpS_forRange
   (I:=fun x c st'=>st'=st∧∃lo ofs,c=(none,lo,ofs)∧lo<ofs∧x<ofs∧lo≤hint∧Bey l (N key) (K a (b+(hint-lo)))=false)
   (Q:=fun c st'=>st'=st∧∃lo ofs,c=(none,lo,ofs)∧lo<ofs∧lo≤hint∧Bey l (N key) (K a (b+(hint-lo)))=false∧
    (ofs≤hint->Bey l (N key) (K a (b+(hint-ofs)))=true))
   ?_ ?_ ⟨rfl,0,1,rfl,by omega,by omega,by omega,e⟩) ?_)
  ·rintro x c st' _ hx ⟨rfl,lo,ofs,rfl,a1,a2,a3,a4⟩
   dsimp only
   by_cases hge:ofs≥hint+1
   ·rw [if_pos hge]
    exact wpS_pure ⟨rfl,lo,ofs,rfl,a1,a3,a4,fun h=>absurd h (by omega)⟩
   ·rw [if_neg hge]
    obtain ⟨p,e1,e2,e3⟩:=ze2 hI (i:=b+(hint-ofs)) (by omega)
    refine wpS_bind (zka hk e1 e2 hq ?_)
    rw [←e3]
    cases e':Bey l (N key) (K a (b+(hint-ofs))) with
    | true=>exact wpS_pure ⟨rfl,lo,ofs,rfl,a1,a3,a4,fun _=>e'⟩
    | false=>exact wpS_pure ⟨rfl,ofs,2*ofs+1,rfl,by omega,by omega,by omega,e'⟩
  ·rintro c st' ⟨rfl,lo,ofs,rfl,a1,a2,a3,a4⟩
   exact ⟨rfl,lo,ofs,rfl,a1,a3,a4,fun h=>absurd h (by simp at a2;omega)⟩
  ·rintro c st' ⟨rfl,lo,ofs,rfl,a1,a3,a4,a5⟩
   dsimp only
   refine wpS_bind (wpS_mono (zij (P:=fun i=>Bey l (N key) (K a (b+i))) (fun i j hij hj e=>zgo (hs i j hij hj) e)
    ?_ (by omega) (by omega) (fun i hi=>?_) (fun i hi hin=>?_)) ?_)
   ·intro x lo hi hhn Q' c1 c2 c3
    dsimp only
    by_cases hge:lo≥hi
    ·rw [if_pos hge];exact wpS_pure (c1 hge)
    ·rw [if_neg hge]
     obtain ⟨p,e1,e2,e3⟩:=ze2 hI (i:=b+(lo+(hi-lo) / 2)) (by omega)
     refine wpS_bind (zka hk e1 e2 hq ?_)
     rw [←e3]
     cases e':Bey l (N key) (K a (b+(lo+(hi-lo) / 2))) with
     | true=>exact wpS_pure (c2 (by omega) e')
     | false=>exact wpS_pure (c3 (by omega) e')
   ·exact zgo (hs i (hint-ofs) (by omega) (by omega)) (a5 (by omega))
   ·exact zqj (hs (hint-lo) i (by omega) (by omega)) a4
   ·rintro c st' ⟨rfl,k,rfl,b1,b2,b3⟩
    exact wpS_pure (h k b1 b2 b3)
end
end TS
namespace TS
open PySem PyProof PyProof.Rows
structure Iv (r:Keyed->Keyed->Prop) (W O X Y:List Keyed):Prop where
 perm:(O++(X++Y)).Perm W
 srt:O.Pairwise r
 sx:X.Pairwise r
 sy:Y.Pairwise r
 lx:∀p∈O,∀q∈X,r p q
 ly:∀p∈O,∀q∈Y,r p q
noncomputable def Out (r:Keyed->Keyed->Prop) (W R:List Keyed):Prop:=R.Perm W∧R.Pairwise r
theorem Iv.symm {r W O X Y} (h:Iv r W O X Y):Iv r W O Y X:=
 ⟨((List.perm_append_comm (l₁:=Y) (l₂:=X)).append_left O).trans h.perm,h.srt,h.sy,h.sx,h.ly,h.lx⟩
theorem Iv.stepX {r W O u v Y} (h:Iv r W O (u++v) Y) (hc:∀p∈u,∀q∈Y,r p q):Iv r W (O++u) v Y:=by
 have hp:=List.pairwise_append.mp h.sx
 refine ⟨by simpa [List.append_assoc] using h.perm,?_,hp.2.1,h.sy,?_,?_⟩
 ·exact List.pairwise_append.mpr ⟨h.srt,hp.1,fun p hp' q hq=>h.lx p hp' q (List.mem_append_left _ hq)⟩
 ·intro p hp' q hq
  rcases ZA4.mp hp' with h' | h'
  ·exact h.lx p h' q (ZA3 _ hq)
  ·exact hp.2.2 p h' q hq
 ·intro p hp' q hq
  rcases ZA4.mp hp' with h' | h'
  ·exact h.ly p h' q hq
  ·exact hc p h' q hq
theorem Iv.stepY {r W O X u v} (h:Iv r W O X (u++v)) (hc:∀p∈u,∀q∈X,r p q):Iv r W (O++u) X v:=(h.symm.stepX hc).symm
theorem Iv.fin {r W O X Y R} (h:Iv r W O X Y) (hp:R.Perm (X++Y)) (hs:R.Pairwise r):Out r W (O++R):=by
 refine ⟨(hp.append_left O).trans h.perm,List.pairwise_append.mpr ⟨h.srt,hs,fun p hp' q hq=>?_⟩⟩
 rcases ZA4.mp (hp.mem_iff.mp hq) with h' | h'
 ·exact h.lx p hp' q h'
 ·exact h.ly p hp' q h'
section
variable [SK]
noncomputable def le (p q:Keyed):Prop:=N p≤N q
noncomputable def ge (p q:Keyed):Prop:=N q≤N p
theorem zd1 {a:Array Keyed} {i k:Nat} (h:i+k≤a.size):a.toList.drop i=(a.extract i (i+k)).toList++a.toList.drop (i+k):=by
 rw [Array.toList_extract,List.extract_eq_take_drop,Nat.add_sub_cancel_left,←List.drop_drop,List.take_append_drop]
theorem zlb {a:Array Keyed} {i:Nat} {p:Keyed} (h:a[i]?=some p):a.toList.drop i=[p]++a.toList.drop (i+1):=by
 obtain ⟨hi,rfl⟩:=Array.getElem?_eq_some_iff.mp h
 rw [List.drop_eq_getElem_cons (by simpa using hi)];simp
theorem zh0 {a:Array Keyed} {i j:Nat} {p:Keyed} (h:p∈(a.extract i j).toList):∃m,i≤m∧m<j∧m<a.size∧K a m=N p:=by
 obtain ⟨m,hm,e⟩:=ZA8 h
 simp only [Array.length_toList,Array.size_extract] at hm
 refine ⟨i+m,by omega,by omega,by omega,?_⟩
 have:a[i+m]?=some p:=by
  rw [getElem?_pos a (i+m) (by omega)]
  simp only [Array.getElem_toList,Array.getElem_extract] at e
  rw [e]
 unfold K;rw [this]
theorem zgq {a:Array Keyed} {i:Nat} {p:Keyed} (h:a[i]?=some p):K a i=N p:=by unfold K;rw [h]
theorem znd {a:Array Keyed} (hs:a.toList.Pairwise le) {i j:Nat} (hij:i≤j) (hj:j<a.size):K a i≤K a j:=by
 rcases Nat.lt_or_eq_of_le hij with h | rfl
 ·have e1:=getElem?_pos a i (by omega)
  have e2:=getElem?_pos a j hj
  rw [zgq e1,zgq e2]
  have:=ZA9.mp hs i j (by simp;omega) (by simp;omega) h
  exact (by simpa using this:le a[i] a[j])
 ·exact Int.le_refl _
theorem zdz {a:Array Keyed} {i:Nat} {p:Keyed} (h:p∈a.toList.drop i):∃m,i≤m∧m<a.size∧K a m=N p:=by
 obtain ⟨m,hm,e⟩:=ZA8 h
 simp only [List.length_drop,Array.length_toList] at hm
 refine ⟨i+m,by omega,by omega,zgq ?_⟩
 rw [getElem?_pos a (i+m) (by omega)]
 simpa using e
theorem zdy {a:Array Keyed} {i:Nat} {p:Keyed} (h:p∈a.toList.take i):∃m,m<i∧m<a.size∧K a m=N p:=by
 obtain ⟨m,hm,e⟩:=ZA8 h
 simp only [ZA1,Array.length_toList] at hm
 refine ⟨m,by omega,by omega,zgq ?_⟩
 rw [getElem?_pos a m (by omega)]
 simpa using e
section lo
variable {a b out:Array Keyed} {ia ib:Nat} {W:List Keyed}
noncomputable abbrev Fv (W:List Keyed) (a b out:Array Keyed) (ia ib:Nat):Prop:=Iv le W out.toList (a.toList.drop ia) (b.toList.drop ib)
theorem Fv.runA (h:Fv W a b out ia ib) {k:Nat} (hk:ia+k≤a.size) (hc:∀p∈(a.extract ia (ia+k)).toList,∀q∈b.toList.drop ib,le p q):
 Fv W a b (out++a.extract ia (ia+k)) (ia+k) ib:=by
 unfold Fv at*;rw [zd1 hk] at h;rw [Array.toList_append];exact h.stepX hc
theorem Fv.runB (h:Fv W a b out ia ib) {k:Nat} (hk:ib+k≤b.size) (hc:∀p∈(b.extract ib (ib+k)).toList,∀q∈a.toList.drop ia,le p q):
 Fv W a b (out++b.extract ib (ib+k)) ia (ib+k):=by
 unfold Fv at*;rw [zd1 hk] at h;rw [Array.toList_append];exact h.stepY hc
theorem Fv.oneA (h:Fv W a b out ia ib) {p:Keyed} (e:a[ia]?=some p) (hc:∀q∈b.toList.drop ib,le p q):Fv W a b (out.push p) (ia+1) ib:=by
 unfold Fv at*;rw [zlb e] at h;rw [Array.toList_push];exact h.stepX (by simpa using hc)
theorem Fv.oneB (h:Fv W a b out ia ib) {p:Keyed} (e:b[ib]?=some p) (hc:∀q∈a.toList.drop ia,le p q):Fv W a b (out.push p) ia (ib+1):=by
 unfold Fv at*;rw [zlb e] at h;rw [Array.toList_push];exact h.stepY (by simpa using hc)
theorem zji (a:Array Keyed) (i:Nat):(a.extract i a.size).toList=a.toList.drop i:=by
 rw [Array.toList_extract,List.extract_eq_take_drop];exact List.take_of_length_le (by simp)
theorem Fv.end1 (h:Fv W a b out ia ib) (he:ia=a.size∨ib=b.size):Out le W (out++a.extract ia a.size++b.extract ib b.size).toList:=by
 rw [Array.toList_append,Array.toList_append,zji,zji,List.append_assoc]
 refine h.fin (List.Perm.refl _) ?_
 rcases he with rfl | rfl
 ·rw [List.drop_of_length_le (by simp)];exact h.sy
 ·rw [show b.toList.drop b.size=[] from List.drop_of_length_le (by simp),List.append_nil];exact h.sx
theorem Fv.end2 (h:Fv W a b out ia ib) (hc:∀p∈b.toList.drop ib,∀q∈a.toList.drop ia,le p q):Out le W (out++b.extract ib b.size++a.extract ia a.size).toList:=by
 rw [Array.toList_append,Array.toList_append,zji,zji,List.append_assoc]
 exact h.fin List.perm_append_comm (List.pairwise_append.mpr ⟨h.sy,h.sx,hc⟩)
end lo
section hi
variable {a b out:Array Keyed} {na nb:Nat} {W:List Keyed}
noncomputable abbrev Bv (W:List Keyed) (a b out:Array Keyed) (na nb:Nat):Prop:=Iv ge W out.toList (a.toList.take na).reverse (b.toList.take nb).reverse
theorem zio {a:Array Keyed} {i n:Nat} (h:i≤n):(a.toList.take n).reverse=(a.extract i n).reverse.toList++(a.toList.take i).reverse:=by
 rw [Array.toList_reverse,Array.toList_extract,List.extract_eq_take_drop,←List.reverse_append]
 congr 1
 rw [←List.drop_take,]
 conv=>lhs;rw [←List.take_append_drop i (a.toList.take n)]
 rw [List.take_take,Nat.min_eq_left h]
theorem zkj {a:Array Keyed} {i:Nat} {p:Keyed} (h:a[i]?=some p):(a.toList.take (i+1)).reverse=[p]++(a.toList.take i).reverse:=by
 obtain ⟨hi,rfl⟩:=Array.getElem?_eq_some_iff.mp h
 rw [List.take_succ_eq_append_getElem (by simpa using hi),List.reverse_append];simp
theorem Bv.runA (h:Bv W a b out na nb) {i:Nat} (hi:i≤na) (hc:∀p∈(a.extract i na).toList,∀q∈b.toList.take nb,ge p q):
 Bv W a b (out++(a.extract i na).reverse) i nb:=by
 unfold Bv at*;rw [zio hi] at h;rw [Array.toList_append];exact h.stepX (by simpa using hc)
theorem Bv.runB (h:Bv W a b out na nb) {i:Nat} (hi:i≤nb) (hc:∀p∈(b.extract i nb).toList,∀q∈a.toList.take na,ge p q):
 Bv W a b (out++(b.extract i nb).reverse) na i:=by
 unfold Bv at*;rw [zio hi] at h;rw [Array.toList_append];exact h.stepY (by simpa using hc)
theorem Bv.oneA (h:Bv W a b out (na+1) nb) {p:Keyed} (e:a[na]?=some p) (hc:∀q∈b.toList.take nb,ge p q):Bv W a b (out.push p) na nb:=by
 unfold Bv at*;rw [zkj e] at h;rw [Array.toList_push];exact h.stepX (by simpa using hc)
theorem Bv.oneB (h:Bv W a b out na (nb+1)) {p:Keyed} (e:b[nb]?=some p) (hc:∀q∈a.toList.take na,ge p q):Bv W a b (out.push p) na nb:=by
 unfold Bv at*;rw [zkj e] at h;rw [Array.toList_push];exact h.stepY (by simpa using hc)
theorem zhi (a:Array Keyed) (i:Nat):(a.extract 0 i).toList=a.toList.take i:=by
 rw [Array.toList_extract,List.extract_eq_take_drop];simp
theorem Out.rev {R:List Keyed} (h:Out ge W R):Out le W R.reverse:=⟨(List.reverse_perm R).trans h.1,List.pairwise_reverse.mpr h.2⟩
theorem Bv.end1 (h:Bv W a b out na nb) (he:na=0∨nb=0):Out le W (a.extract 0 na++b.extract 0 nb++out.reverse).toList:=by
 have:(a.extract 0 na++b.extract 0 nb++out.reverse).toList=(out.toList++((b.toList.take nb).reverse++(a.toList.take na).reverse)).reverse:=by
  rw [Array.toList_append,Array.toList_append,zhi,zhi,Array.toList_reverse];simp
 rw [this]
 refine (h.fin List.perm_append_comm ?_).rev
 rcases he with rfl | rfl
 ·simpa using h.sy
 ·simpa using h.sx
theorem Bv.end2 (h:Bv W a b out na nb) (hc:∀p∈a.toList.take na,∀q∈b.toList.take nb,ge p q):Out le W (b.extract 0 nb++a.extract 0 na++out.reverse).toList:=by
 have:(b.extract 0 nb++a.extract 0 na++out.reverse).toList=(out.toList++((a.toList.take na).reverse++(b.toList.take nb).reverse)).reverse:=by
  rw [Array.toList_append,Array.toList_append,zhi,zhi,Array.toList_reverse];simp
 rw [this]
 exact (h.fin (List.Perm.refl _) (List.pairwise_append.mpr ⟨h.sx,h.sy,by simpa using hc⟩)).rev
end hi
end
end TS
namespace TS
open PySem PyProof PyProof.Rows
noncomputable def mlo:Array Keyed->Array Keyed->StateT SortSt Sem (Array Keyed):=sortPriv% PySem.Builtin.mergeLo
noncomputable def mhi:Array Keyed->Array Keyed->StateT SortSt Sem (Array Keyed):=sortPriv% PySem.Builtin.mergeHi
structure Sm (st st':SortSt):Prop where
 kind:kindOf st'=kindOf st
 arr:arrOf st'=arrOf st
 pend:pendingOf st'=pendingOf st
 fail:failedOf st'=failedOf st
theorem Sm.refl (st:SortSt):Sm st st:=⟨rfl,rfl,rfl,rfl⟩
noncomputable def smg:Nat->StateT SortSt Sem Unit:=sortPriv% PySem.Builtin.setMinGallop
section
variable [SK] {prog:Program} {w:World} {A:Around} {E:Value->Shared->Prop} {s:Shared} [LtOk prog w A E s] {st st₀:SortSt} {a b:Array Keyed}
theorem zbo {α:Type} {c:Prop} {inst:Decidable c} {m n:StateT SortSt Sem α} {Q:α->SortSt->Prop} (hc:c) (h:wpS (model prog w) A E s m Q st):
 wpS (model prog w) A E s (@ite _ c inst m n) Q st:=by rw [if_pos hc];exact h
theorem zch {α:Type} {c:Prop} {inst:Decidable c} {m n:StateT SortSt Sem α} {Q:α->SortSt->Prop} (hc:¬c) (h:wpS (model prog w) A E s n Q st):
 wpS (model prog w) A E s (@ite _ c inst m n) Q st:=by rw [if_neg hc];exact h
theorem zmh {g:Nat} {Q:Unit->SortSt->Prop} (hm:Sm st₀ st) (h:∀st',Sm st₀ st'->Q () st'):wpS (model prog w) A E s (smg g) Q st:=
 wpS_modify (h _ ⟨hm.kind,hm.arr,hm.pend,hm.fail⟩)
theorem zy5 {l:Bool} {key:Keyed} {i:Nat} {Q:Option Nat->SortSt->Prop} (hk:kindOf st=SK.kind)
 (hI:∀p,p∈a.toList->isN p) (hs:a.toList.Pairwise le) (hq:isN key) (hi:i<a.size)
 (h:∀k,i+k≤a.size->(∀m,i≤m->m<i+k->Bey l (N key) (K a m)=true)->(∀m,i+k≤m->m<a.size->Bey l (N key) (K a m)=false)->Q (some k) st):
 wpS (model prog w) A E s (gal l key a i (a.size-i) 0) Q st:=by
 refine zmi hk hI hq (by omega) (fun x y hxy hy=>znd hs (by omega) (by omega)) (by omega) fun k h1 h2 h3=>?_
 refine h k (by omega) (fun m m1 m2=>?_) (fun m m1 m2=>?_)
 ·have:=h2 (m-i) (by omega);rwa [show i+(m-i)=m by omega] at this
 ·have:=h3 (m-i) (by omega) (by omega);rwa [show i+(m-i)=m by omega] at this
noncomputable def SQ {β:Type} (Q I:β->SortSt->Prop):ForInStep β->SortSt->Prop
 | .done c,st=>Q c st
 | .yield c,st=>I c st
theorem zef {β:Type} {n:Nat} {f:Nat->β->StateT SortSt Sem (ForInStep β)} (I:Nat->β->SortSt->Prop) {Q:β->SortSt->Prop}
 (hstep:∀i c st,i<n->I i c st->wpS (model prog w) A E s (f i c) (SQ Q (I (i+1))) st)
 (hend:∀c st,I n c st->Q c st) {c:β} {st:SortSt} (h:I 0 c st):wpS (model prog w) A E s (forIn [:n] c f) Q st:=
 wpS_forRange I (fun i c st _ hi hI=>wpS_mono (hstep i c st hi hI) fun r st' h'=>by cases r<;>exact h')
  (fun c st h'=>hend c st (by rwa [Nat.max_eq_right (ZAq _)] at h')) h
theorem zu5 {Q:Array Keyed->SortSt->Prop} {W:List Keyed} (hW:W=a.toList++b.toList) (hk:kindOf st=SK.kind)
 (ha:∀p,p∈a.toList->isN p) (hb:∀p,p∈b.toList->isN p) (sa:a.toList.Pairwise le) (sb:b.toList.Pairwise le)
 (na:0<a.size) (nb:0<b.size) (h0:K b 0≤K a 0) (hl:K b (b.size-1)≤K a (a.size-1))
 (h:∀r st',Sm st st'->Out le W r.toList->Q r st'):wpS (model prog w) A E s (mlo a b) Q st:=by
 have hlast:∀{i j:Nat},i+1=a.size->∀p∈b.toList.drop j,∀q∈a.toList.drop i,le p q:=by
  intro i j hi p hp q hq
  obtain ⟨x,x1,x2,x3⟩:=zdz hp
  obtain ⟨y,y1,y2,y3⟩:=zdz hq
  unfold le
  rw [←x3,←y3,show y=a.size-1 by omega]
  exact Int.le_trans (znd sb (by omega) (by omega)) hl
 let J:Array Keyed->Nat->Nat->SortSt->Prop:=fun out ia ib st'=>Fv W a b out ia ib∧ia+1<a.size∧ib<b.size∧Sm st st'
 let F:Array Keyed->SortSt->Prop:=fun r st'=>Out le W r.toList∧Sm st st'
 refine wpS_bind (wpS_lift (wpAny_rule ⟨rfl,?_⟩))
 obtain ⟨y0,e0,i0,k0⟩:=ze2 hb (i:=0) nb
 refine wpS_bind (zbx e0 ?_)
 have zdm:Fv W a b #[y0] 0 1:=by
  have:Fv W a b #[] 0 0:=⟨by simp [hW],List.Pairwise.nil,sa,sb,by simp,by simp⟩
  refine this.oneB e0 fun q hq=>?_
  obtain ⟨m,m1,m2,m3⟩:=zdz hq
  unfold le;rw [←m3,←k0]
  exact Int.le_trans h0 (znd sa (ZAq _) m2)
 by_cases c1:1=b.size
 ·refine zbo (c:=(1==b.size)=true) (by simpa using c1) ?_
  exact wpS_pure (h _ _ (Sm.refl st) (zdm.end1 (.inr c1)))
 refine zch (c:=(1==b.size)=true) (by simpa using c1) ?_
 by_cases c2:0+1=a.size
 ·refine zbo (c:=(0+1==a.size)=true) (by simpa using c2) ?_
  exact wpS_pure (h _ _ (Sm.refl st) (zdm.end2 (hlast c2)))
 refine zch (c:=(0+1==a.size)=true) (by simpa using c2) ?_
 refine wpS_bind (wpS_get ?_)
 refine wpS_bind (wpS_mono (zef
  (I:=fun x c st'=>∃out ia ib mg,c=(none,out,ia,ib,mg)∧J out ia ib st'∧x≤ia+ib)
  (Q:=fun c st'=>∃r,c.1=some r∧F r st') ?outer ?oend ⟨_,_,_,_,rfl,⟨zdm,by omega,by omega,Sm.refl st⟩,by omega⟩) ?post)
 case post=>
  rintro ⟨c1,c2⟩ st' ⟨r,rfl,hF⟩
  exact wpS_pure (h r st' hF.2 hF.1)
 case oend=>
  rintro c st' ⟨out,ia,ib,mg,rfl,⟨_,j2,j3,_⟩,hx⟩
  exfalso
  omega
 case outer=>
  rintro x c st' hx ⟨out,ia,ib,mg,rfl,hJ,hxx⟩
  generalize ht0:ia+ib=t0 at hxx
  refine wpS_bind (wpS_mono (zef
   (I:=fun x c st'=>∃out ia ib ac bc,c=(none,out,ia,ib,ac,bc)∧J out ia ib st'∧t0+x≤ia+ib)
   (Q:=fun c st'=>(∃r,c.1=some r∧F r st')∨∃out ia ib ac bc,c=(none,out,ia,ib,ac,bc)∧J out ia ib st'∧t0+1≤ia+ib)
   ?one ?oneEnd ⟨out,ia,ib,0,0,rfl,hJ,by omega⟩) ?two)
  case oneEnd=>
   rintro c st' ⟨out,ia,ib,ac,bc,rfl,j,hx'⟩
   exact .inr ⟨out,ia,ib,ac,bc,rfl,j,by omega⟩
  case one=>
   rintro x' c st' _ ⟨out,ia,ib,ac,bc,rfl,⟨j1,j2,j3,j4⟩,hx'⟩
   obtain ⟨y,ey,iy,ky⟩:=ze2 hb (i:=ib) j3
   obtain ⟨z,ez,iz,kz⟩:=ze2 ha (i:=ia) (by omega)
   refine wpS_bind (zbx ey (wpS_bind (zbx ez (wpS_bind (zn6 (j4.kind.trans hk) iy iz ?_)))))
   by_cases hlt:N y<N z
   ·rw [ZBo hlt]
    refine wpS_bind (zbx ey ?_)
    have j1':=j1.oneB ey (fun q hq=>by
     obtain ⟨m,m1,m2,m3⟩:=zdz hq
     unfold le;rw [←m3]
     exact Int.le_trans (Int.le_of_lt hlt) (kz▸znd sa m1 m2))
    by_cases c3:ib+1=b.size
    ·refine zbo (c:=(ib+1==b.size)=true) (by simpa using c3) ?_
     exact wpS_pure (.inl ⟨_,rfl,j1'.end1 (.inr c3),j4⟩)
    refine zch (c:=(ib+1==b.size)=true) (by simpa using c3) ?_
    have jj:J (out.push y) ia (ib+1) st':=⟨j1',j2,by omega,j4⟩
    by_cases c4:bc+1≥mg
    ·refine zbo c4 ?_
     exact wpS_pure (.inr ⟨_,ia,ib+1,_,_,rfl,jj,by omega⟩)
    ·refine zch c4 ?_
     exact wpS_pure ⟨_,ia,ib+1,_,_,rfl,jj,by omega⟩
   ·rw [ZBp hlt]
    refine wpS_bind (zbx ez ?_)
    have j1':=j1.oneA ez (fun q hq=>by
     obtain ⟨m,m1,m2,m3⟩:=zdz hq
     unfold le;rw [←m3]
     exact Int.le_trans (Int.not_lt.mp hlt) (ky▸znd sb m1 m2))
    by_cases c3:ia+1+1=a.size
    ·refine zbo (c:=(ia+1+1==a.size)=true) (by simpa using c3) ?_
     exact wpS_pure (.inl ⟨_,rfl,j1'.end2 (hlast c3),j4⟩)
    refine zch (c:=(ia+1+1==a.size)=true) (by simpa using c3) ?_
    have jj:J (out.push z) (ia+1) ib st':=⟨j1',by omega,j3,j4⟩
    by_cases c4:ac+1≥mg
    ·refine zbo c4 ?_
     exact wpS_pure (.inr ⟨_,ia+1,ib,_,_,rfl,jj,by omega⟩)
    ·refine zch c4 ?_
     exact wpS_pure ⟨_,ia+1,ib,_,_,rfl,jj,by omega⟩
  case two=>
   rintro ⟨c1,c2⟩ st2 (⟨r,rfl,hF⟩ | ⟨out,ia,ib,ac,bc,e,hJ',ht⟩)
   ·exact wpS_pure ⟨r,rfl,hF⟩
   cases e
   refine wpS_bind (wpS_lift (wpAny_rule ⟨rfl,?_⟩))
   refine wpS_bind (wpS_mono (zef
    (I:=fun x c st'=>∃out ia ib mg ac bc,c=(none,out,ia,ib,mg,ac,bc)∧J out ia ib st'∧t0+1≤ia+ib)
    (Q:=fun c st'=>(∃r,c.1=some r∧F r st')∨∃out ia ib mg ac bc,c=(none,out,ia,ib,mg,ac,bc)∧J out ia ib st'∧t0+1≤ia+ib)
    ?gal ?galEnd ⟨_,_,_,_,_,_,rfl,hJ',ht⟩) ?three)
   case galEnd=>exact fun c st' hh=>.inr hh
   case three=>
    rintro ⟨c1,c2⟩ st3 (⟨r,rfl,hF⟩ | ⟨out,ia,ib,mg,ac,bc,e,⟨j1,j2,j3,j4⟩,ht⟩)
    ·exact wpS_pure ⟨r,rfl,hF⟩
    cases e
    exact wpS_bind (zmh j4 fun st4 j4'=>wpS_pure ⟨out,ia,ib,_,rfl,⟨j1,j2,j3,j4'⟩,by omega⟩)
   case gal=>
    rintro x' c st3 _ ⟨out,ia,ib,mg,ac,bc,rfl,⟨j1,j2,j3,j4⟩,ht⟩
    extract_lets-underBinder+onlyGivenNames s1 out1 s2 ia1 s3 ib1 s4 mg1 s5 ac1 bc1 jp
    let R:ForInStep (Option (Array Keyed)×Array Keyed×Nat×Nat×Nat×Nat×Nat)->SortSt->Prop:=
     SQ (fun c st'=>(∃r,c.1=some r∧F r st')∨∃out ia ib mg ac bc,c=(none,out,ia,ib,mg,ac,bc)∧J out ia ib st'∧t0+1≤ia+ib)
      (fun c st'=>∃out ia ib mg ac bc,c=(none,out,ia,ib,mg,ac,bc)∧J out ia ib st'∧t0+1≤ia+ib)
    have hjp:∀(u:Unit) (g:Nat),wpS (model prog w) A E s (jp u g) R st3:=by
     intro u g
     refine wpS_bind (zmh j4 fun st4 j4'=>?_)
     obtain ⟨y,ey,iy,ky⟩:=ze2 hb (i:=ib) j3
     refine wpS_bind (zbx ey (wpS_bind (zy5 (j4'.kind.trans hk) ha sa iy (i:=ia) (by omega) fun k g1 g2 g3=>?_)))
     dsimp-zeta only
     extract_lets-underBinder+onlyGivenNames ac2 jp2
     have hrun:=j1.runA g1 (fun p hp q hq=>by
      obtain ⟨m,m1,m2,m3,m4⟩:=zh0 hp
      obtain ⟨m',n1,n2,n3⟩:=zdz hq
      have:=g2 m m1 m2
      unfold le;rw [←m4,←n3]
      exact Int.le_trans (by simpa [Bey] using this) (ky▸znd sb n1 n2))
     have hjp2:∀(u:Unit) (out:Array Keyed) (i:Nat),Fv W a b out i ib->i+1<a.size->ia≤i->(∀m,i≤m->m<a.size->N y<K a m)->
      wpS (model prog w) A E s (jp2 u out i) R st4:=by
      intro u out i f1 f2 f3 f4
      refine wpS_bind (zbx ey ?_)
      have f5:=f1.oneB ey (fun q hq=>by
       obtain ⟨m',n1,n2,n3⟩:=zdz hq
       unfold le;rw [←n3];exact Int.le_of_lt (f4 m' n1 n2))
      by_cases c3:ib+1=b.size
      ·refine zbo (c:=(ib+1==b.size)=true) (by simpa using c3) ?_
       exact wpS_pure (.inl ⟨_,rfl,f5.end1 (.inr c3),j4'⟩)
      refine zch (c:=(ib+1==b.size)=true) (by simpa using c3) ?_
      obtain ⟨z,ez,iz,kz⟩:=ze2 ha (i:=i) (by omega)
      refine wpS_bind (zbx ez (wpS_bind (zy5 (j4'.kind.trans hk) hb sb iz (i:=ib+1) (by omega) fun k' g1' g2' g3'=>?_)))
      dsimp-zeta only
      extract_lets-underBinder+onlyGivenNames bc2 jp3
      have hrun':=f5.runB g1' (fun p hp q hq=>by
       obtain ⟨m,m1,m2,m3,m4⟩:=zh0 hp
       obtain ⟨m',n1,n2,n3⟩:=zdz hq
       have:=g2' m m1 m2
       unfold le;rw [←m4,←n3]
       exact Int.le_trans (Int.le_of_lt (by simpa [Bey] using this)) (kz▸znd sa n1 n2))
      have hjp3:∀(u:Unit) (out:Array Keyed) (j:Nat),Fv W a b out i j->j<b.size->ib+1≤j->(∀m,j≤m->m<b.size->N z≤K b m)->
       wpS (model prog w) A E s (jp3 u out j) R st4:=by
       intro u out j d1 d2 d3 d4
       refine wpS_bind (zbx ez ?_)
       have d5:=d1.oneA ez (fun q hq=>by
        obtain ⟨m',n1,n2,n3⟩:=zdz hq
        unfold le;rw [←n3];exact d4 m' n1 n2)
       by_cases c4:i+1+1=a.size
       ·refine zbo (c:=(i+1+1==a.size)=true) (by simpa using c4) ?_
        exact wpS_pure (.inl ⟨_,rfl,d5.end2 (hlast c4),j4'⟩)
       refine zch (c:=(i+1+1==a.size)=true) (by simpa using c4) ?_
       have jj:J (out.push z) (i+1) j st4:=⟨d5,by omega,d2,j4'⟩
       by_cases c5:(decide (k<7) && decide (k'<7))=true
       ·refine zbo c5 ?_
        exact wpS_pure (.inr ⟨_,i+1,j,_,_,_,rfl,jj,by omega⟩)
       ·refine zch c5 ?_
        exact wpS_pure ⟨_,i+1,j,_,_,_,rfl,jj,by omega⟩
      by_cases c4:k'>0
      ·refine zbo c4 ?_
       by_cases c5:ib+1+k'=b.size
       ·refine zbo (c:=(ib+1+k'==b.size)=true) (by simpa using c5) ?_
        exact wpS_pure (.inl ⟨_,rfl,hrun'.end1 (.inr c5),j4'⟩)
       refine zch (c:=(ib+1+k'==b.size)=true) (by simpa using c5) ?_
       exact hjp3 () _ (ib+1+k') hrun' (by omega) (by omega) fun m m1 m2=>by simpa [Bey] using g3' m m1 m2
      ·refine zch c4 ?_
       obtain rfl:k'=0:=by omega
       exact hjp3 () _ (ib+1) f5 (by omega) (by omega) fun m m1 m2=>by simpa [Bey] using g3' m m1 m2
     by_cases c4:k>0
     ·refine zbo c4 ?_
      by_cases c5:ia+k+1=a.size
      ·refine zbo (c:=(ia+k+1==a.size)=true) (by simpa using c5) ?_
       exact wpS_pure (.inl ⟨_,rfl,hrun.end2 (hlast c5),j4'⟩)
      refine zch (c:=(ia+k+1==a.size)=true) (by simpa using c5) ?_
      by_cases c6:ia+k=a.size
      ·refine zbo (c:=(ia+k==a.size)=true) (by simpa using c6) ?_
       exact wpS_pure (.inl ⟨_,rfl,hrun.end1 (.inl c6),j4'⟩)
      refine zch (c:=(ia+k==a.size)=true) (by simpa using c6) ?_
      exact hjp2 () _ (ia+k) hrun (by omega) (by omega) fun m m1 m2=>by simpa [Bey] using g3 m m1 m2
     ·refine zch c4 ?_
      obtain rfl:k=0:=by omega
      exact hjp2 () _ ia j1 (by omega) (by omega) fun m m1 m2=>by simpa [Bey] using g3 m m1 m2
    by_cases c5:mg>1
    ·refine zbo c5 ?_
     exact hjp () (mg-1)
    ·refine zch c5 ?_
     exact hjp () mg
end
end TS
namespace TS
open PySem PyProof PyProof.Rows
section
variable [SK] {prog:Program} {w:World} {A:Around} {E:Value->Shared->Prop} {s:Shared} [LtOk prog w A E s] {st st₀:SortSt} {a b:Array Keyed}
theorem zy4 {l:Bool} {key:Keyed} {n:Nat} {Q:Option Nat->SortSt->Prop} (hk:kindOf st=SK.kind)
 (hI:∀p,p∈a.toList->isN p) (hs:a.toList.Pairwise le) (hq:isN key) (hn:n≤a.size) (h0:0<n)
 (h:∀k,k≤n->(∀m,m<k->Bey l (N key) (K a m)=true)->(∀m,k≤m->m<n->Bey l (N key) (K a m)=false)->Q (some k) st):
 wpS (model prog w) A E s (gal l key a 0 n (n-1)) Q st:=by
 refine zmi hk hI hq (by omega) (fun x y hxy hy=>znd hs (by omega) (by omega)) (by omega) fun k h1 h2 h3=>?_
 refine h k h1 (fun m m1=>?_) (fun m m1 m2=>?_)
 ·have:=h2 m m1;rwa [Nat.zero_add] at this
 ·have:=h3 m m1 m2;rwa [Nat.zero_add] at this
theorem zu6 {Q:Array Keyed->SortSt->Prop} {W:List Keyed} (hW:W=a.toList++b.toList) (hk:kindOf st=SK.kind)
 (ha:∀p,p∈a.toList->isN p) (hb:∀p,p∈b.toList->isN p) (sa:a.toList.Pairwise le) (sb:b.toList.Pairwise le)
 (pa:0<a.size) (pb:0<b.size) (h0:K b 0≤K a 0) (hl:K b (b.size-1)≤K a (a.size-1))
 (h:∀r st',Sm st st'->Out le W r.toList->Q r st'):wpS (model prog w) A E s (mhi a b) Q st:=by
 have hfirst:∀{i j:Nat},j=1->∀p∈a.toList.take i,∀q∈b.toList.take j,ge p q:=by
  intro i j hj p hp q hq
  obtain ⟨x,x1,x2,x3⟩:=zdy hp
  obtain ⟨y,y1,y2,y3⟩:=zdy hq
  unfold ge
  rw [←x3,←y3,show y=0 by omega]
  exact Int.le_trans h0 (znd sa (by omega) (by omega))
 let J:Array Keyed->Nat->Nat->SortSt->Prop:=fun out na nb st'=>Bv W a b out na nb∧0<na∧na≤a.size∧1<nb∧nb≤b.size∧Sm st st'
 let F:Array Keyed->SortSt->Prop:=fun r st'=>Out le W r.toList∧Sm st st'
 refine wpS_bind (wpS_lift (wpAny_rule ⟨rfl,?_⟩))
 obtain ⟨y0,e0,i0,k0⟩:=ze2 ha (i:=a.size-1) (by omega)
 refine wpS_bind (zbx e0 ?_)
 have zdm:Bv W a b #[y0] (a.size-1) b.size:=by
  have:Bv W a b #[] (a.size-1+1) b.size:=by
   rw [show a.size-1+1=a.size by omega]
   unfold Bv
   rw [List.take_of_length_le (by simp),List.take_of_length_le (by simp)]
   refine ⟨?_,List.Pairwise.nil,List.pairwise_reverse.mpr sa,List.pairwise_reverse.mpr sb,by simp,by simp⟩
   rw [hW]
   exact (List.reverse_perm _).append (List.reverse_perm _)
  refine this.oneA e0 fun q hq=>?_
  obtain ⟨m,m1,m2,m3⟩:=zdy hq
  unfold ge;rw [←m3,←k0]
  exact Int.le_trans (znd sb (by omega) (by omega)) hl
 by_cases c1:a.size-1=0
 ·refine zbo (c:=(a.size-1==0)=true) (by simpa using c1) ?_
  exact wpS_pure (h _ _ (Sm.refl st) (zdm.end1 (.inl c1)))
 refine zch (c:=(a.size-1==0)=true) (by simpa using c1) ?_
 by_cases c2:b.size=1
 ·refine zbo (c:=(b.size==1)=true) (by simpa using c2) ?_
  exact wpS_pure (h _ _ (Sm.refl st) (zdm.end2 (hfirst c2)))
 refine zch (c:=(b.size==1)=true) (by simpa using c2) ?_
 refine wpS_bind (wpS_get ?_)
 refine wpS_bind (wpS_mono (zef
  (I:=fun x c st'=>∃na nb out mg,c=(none,na,nb,out,mg)∧J out na nb st'∧na+nb+x≤a.size+b.size)
  (Q:=fun c st'=>∃r,c.1=some r∧F r st') ?outer ?oend ⟨a.size-1,b.size,_,_,rfl,⟨zdm,by omega,by omega,by omega,by omega,Sm.refl st⟩,by omega⟩) ?post)
 case post=>
  rintro ⟨c1,c2⟩ st' ⟨r,rfl,hF⟩
  exact wpS_pure (h r st' hF.2 hF.1)
 case oend=>
  rintro c st' ⟨na,nb,out,mg,rfl,⟨_,j2,j3,j4,j5,_⟩,hx⟩
  exfalso
  omega
 case outer=>
  rintro x c st' hx ⟨na,nb,out,mg,rfl,hJ,hxx⟩
  obtain ⟨t0,ht0⟩:∃t0,na+nb=t0:=⟨_,rfl⟩
  refine wpS_bind (wpS_mono (zef
   (I:=fun x c st'=>∃na nb out ac bc,c=(none,na,nb,out,ac,bc)∧J out na nb st'∧na+nb+x≤t0)
   (Q:=fun c st'=>(∃r,c.1=some r∧F r st')∨∃na nb out ac bc,c=(none,na,nb,out,ac,bc)∧J out na nb st'∧na+nb+1≤t0)
   ?one ?oneEnd ⟨na,nb,out,0,0,rfl,hJ,by omega⟩) ?two)
  case oneEnd=>
   rintro c st' ⟨na,nb,out,ac,bc,rfl,j,hx'⟩
   exact .inr ⟨na,nb,out,ac,bc,rfl,j,by omega⟩
  case one=>
   rintro x' c st' _ ⟨na,nb,out,ac,bc,rfl,⟨j1,j2,j3,j4,j5,j6⟩,hx'⟩
   obtain ⟨y,ey,iy,ky⟩:=ze2 hb (i:=nb-1) (by omega)
   obtain ⟨z,ez,iz,kz⟩:=ze2 ha (i:=na-1) (by omega)
   refine wpS_bind (zbx ey (wpS_bind (zbx ez (wpS_bind (zn6 (j6.kind.trans hk) iy iz ?_)))))
   by_cases hlt:N y<N z
   ·rw [ZBo hlt]
    refine wpS_bind (zbx ez ?_)
    have j1':Bv W a b (out.push z) (na-1) nb:=Bv.oneA (by rwa [show na-1+1=na by omega]) ez (fun q hq=>by
     obtain ⟨m,m1,m2,m3⟩:=zdy hq
     unfold ge;rw [←m3]
     exact Int.le_trans (ky▸znd sb (by omega) (by omega)) (Int.le_of_lt hlt))
    by_cases c3:na-1=0
    ·refine zbo (c:=(na-1==0)=true) (by simpa using c3) ?_
     exact wpS_pure (.inl ⟨_,rfl,j1'.end1 (.inl c3),j6⟩)
    refine zch (c:=(na-1==0)=true) (by simpa using c3) ?_
    have jj:J (out.push z) (na-1) nb st':=⟨j1',by omega,by omega,j4,j5,j6⟩
    by_cases c4:ac+1≥mg
    ·refine zbo c4 ?_
     exact wpS_pure (.inr ⟨na-1,nb,_,_,_,rfl,jj,by omega⟩)
    ·refine zch c4 ?_
     exact wpS_pure ⟨na-1,nb,_,_,_,rfl,jj,by omega⟩
   ·rw [ZBp hlt]
    refine wpS_bind (zbx ey ?_)
    have j1':Bv W a b (out.push y) na (nb-1):=Bv.oneB (by rwa [show nb-1+1=nb by omega]) ey (fun q hq=>by
     obtain ⟨m,m1,m2,m3⟩:=zdy hq
     unfold ge;rw [←m3]
     exact Int.le_trans (kz▸znd sa (by omega) (by omega)) (Int.not_lt.mp hlt))
    by_cases c3:nb-1=1
    ·refine zbo (c:=(nb-1==1)=true) (by simpa using c3) ?_
     exact wpS_pure (.inl ⟨_,rfl,j1'.end2 (hfirst c3),j6⟩)
    refine zch (c:=(nb-1==1)=true) (by simpa using c3) ?_
    have jj:J (out.push y) na (nb-1) st':=⟨j1',j2,j3,by omega,by omega,j6⟩
    by_cases c4:bc+1≥mg
    ·refine zbo c4 ?_
     exact wpS_pure (.inr ⟨na,nb-1,_,_,_,rfl,jj,by omega⟩)
    ·refine zch c4 ?_
     exact wpS_pure ⟨na,nb-1,_,_,_,rfl,jj,by omega⟩
  case two=>
   rintro ⟨c1,c2⟩ st2 (⟨r,rfl,hF⟩ | ⟨na,nb,out,ac,bc,e,hJ',ht⟩)
   ·exact wpS_pure ⟨r,rfl,hF⟩
   cases e
   refine wpS_bind (wpS_lift (wpAny_rule ⟨rfl,?_⟩))
   refine wpS_bind (wpS_mono (zef
    (I:=fun x c st'=>∃na nb out mg ac bc,c=(none,na,nb,out,mg,ac,bc)∧J out na nb st'∧na+nb+1≤t0)
    (Q:=fun c st'=>(∃r,c.1=some r∧F r st')∨∃na nb out mg ac bc,c=(none,na,nb,out,mg,ac,bc)∧J out na nb st'∧na+nb+1≤t0)
    ?gal ?galEnd ⟨_,_,_,_,_,_,rfl,hJ',ht⟩) ?three)
   case galEnd=>exact fun c st' hh=>.inr hh
   case three=>
    rintro ⟨c1,c2⟩ st3 (⟨r,rfl,hF⟩ | ⟨na,nb,out,mg,ac,bc,e,⟨j1,j2,j3,j4,j5,j6⟩,ht⟩)
    ·exact wpS_pure ⟨r,rfl,hF⟩
    cases e
    exact wpS_bind (zmh j6 fun st4 j6'=>wpS_pure ⟨na,nb,out,_,rfl,⟨j1,j2,j3,j4,j5,j6'⟩,by omega⟩)
   case gal=>
    rintro x' c st3 _ ⟨na,nb,out,mg,ac,bc,rfl,⟨j1,j2,j3,j4,j5,j6⟩,ht⟩
    extract_lets-underBinder+onlyGivenNames s1 na1 s2 nb1 s3 out1 s4 mg1 s5 ac1 bc1 jp
    let R:ForInStep (Option (Array Keyed)×Nat×Nat×Array Keyed×Nat×Nat×Nat)->SortSt->Prop:=
     SQ (fun c st'=>(∃r,c.1=some r∧F r st')∨∃na nb out mg ac bc,c=(none,na,nb,out,mg,ac,bc)∧J out na nb st'∧na+nb+1≤t0)
      (fun c st'=>∃na nb out mg ac bc,c=(none,na,nb,out,mg,ac,bc)∧J out na nb st'∧na+nb+1≤t0)
    have hjp:∀(u:Unit) (g:Nat),wpS (model prog w) A E s (jp u g) R st3:=by
     intro u g
     refine wpS_bind (zmh j6 fun st4 j6'=>?_)
     obtain ⟨y,ey,iy,ky⟩:=ze2 hb (i:=nb-1) (by omega)
     refine wpS_bind (zbx ey (wpS_bind (zy4 (j6'.kind.trans hk) ha sa iy (n:=na) j3 j2 fun k g1 g2 g3=>?_)))
     dsimp-zeta only
     extract_lets-underBinder+onlyGivenNames kk ac2 jp2
     have hrun:=j1.runA g1 (fun p hp q hq=>by
      obtain ⟨m,m1,m2,m3,m4⟩:=zh0 hp
      obtain ⟨m',n1,n2,n3⟩:=zdy hq
      have:=g3 m m1 m2
      unfold ge;rw [←m4,←n3]
      exact Int.le_trans (ky▸znd sb (i:=m') (j:=nb-1) (by omega) (by omega)) (Int.le_of_lt (by simpa [Bey] using this)))
     have hjp2:∀(u:Unit) (i:Nat) (out:Array Keyed),Bv W a b out i nb->0<i->i≤na->(∀m,m<i->K a m≤N y)->
      wpS (model prog w) A E s (jp2 u i out) R st4:=by
      intro u i out f1 f2 f3 f4
      refine wpS_bind (zbx ey ?_)
      have f5:Bv W a b (out.push y) i (nb-1):=Bv.oneB (by rwa [show nb-1+1=nb by omega]) ey (fun q hq=>by
       obtain ⟨m',n1,n2,n3⟩:=zdy hq
       unfold ge;rw [←n3];exact f4 m' n1)
      by_cases c3:nb-1=1
      ·refine zbo (c:=(nb-1==1)=true) (by simpa using c3) ?_
       exact wpS_pure (.inl ⟨_,rfl,f5.end2 (hfirst c3),j6'⟩)
      refine zch (c:=(nb-1==1)=true) (by simpa using c3) ?_
      obtain ⟨z,ez,iz,kz⟩:=ze2 ha (i:=i-1) (by omega)
      refine wpS_bind (zbx ez (wpS_bind (zy4 (j6'.kind.trans hk) hb sb iz (n:=nb-1) (by omega) (by omega) fun k' g1' g2' g3'=>?_)))
      dsimp-zeta only
      extract_lets-underBinder+onlyGivenNames kk2 bc2 jp3
      have hrun':=f5.runB g1' (fun p hp q hq=>by
       obtain ⟨m,m1,m2,m3,m4⟩:=zh0 hp
       obtain ⟨m',n1,n2,n3⟩:=zdy hq
       have:=g3' m m1 m2
       unfold ge;rw [←m4,←n3]
       exact Int.le_trans (kz▸znd sa (i:=m') (j:=i-1) (by omega) (by omega)) (by simpa [Bey] using this))
      have hjp3:∀(u:Unit) (j:Nat) (out:Array Keyed),Bv W a b out i j->1<j->j≤nb-1->(∀m,m<j->K b m≤N z)->
       wpS (model prog w) A E s (jp3 u j out) R st4:=by
       intro u j out d1 d2 d3 d4
       refine wpS_bind (zbx ez ?_)
       have d5:Bv W a b (out.push z) (i-1) j:=Bv.oneA (by rwa [show i-1+1=i by omega]) ez (fun q hq=>by
        obtain ⟨m',n1,n2,n3⟩:=zdy hq
        unfold ge;rw [←n3];exact d4 m' n1)
       by_cases c4:i-1=0
       ·refine zbo (c:=(i-1==0)=true) (by simpa using c4) ?_
        exact wpS_pure (.inl ⟨_,rfl,d5.end1 (.inl c4),j6'⟩)
       refine zch (c:=(i-1==0)=true) (by simpa using c4) ?_
       have jj:J (out.push z) (i-1) j st4:=⟨d5,by omega,by omega,d2,by omega,j6'⟩
       by_cases c5:(decide (na-k<7) && decide (nb-1-k'<7))=true
       ·refine zbo c5 ?_
        exact wpS_pure (.inr ⟨i-1,j,_,_,_,_,rfl,jj,by omega⟩)
       ·refine zch c5 ?_
        exact wpS_pure ⟨i-1,j,_,_,_,_,rfl,jj,by omega⟩
      have hz:∀m,m<k'->K b m≤N z:=fun m m1=>Int.le_of_lt (by simpa [Bey] using g2' m m1)
      by_cases c4:nb-1-k'>0
      ·refine zbo c4 ?_
       by_cases c5:k'=1
       ·refine zbo (c:=(k'==1)=true) (by simpa using c5) ?_
        exact wpS_pure (.inl ⟨_,rfl,hrun'.end2 (hfirst c5),j6'⟩)
       refine zch (c:=(k'==1)=true) (by simpa using c5) ?_
       by_cases c6:k'=0
       ·refine zbo (c:=(k'==0)=true) (by simpa using c6) ?_
        exact wpS_pure (.inl ⟨_,rfl,hrun'.end1 (.inr c6),j6'⟩)
       refine zch (c:=(k'==0)=true) (by simpa using c6) ?_
       exact hjp3 () k' _ hrun' (by omega) (by omega) hz
      ·refine zch c4 ?_
       obtain rfl:k'=nb-1:=by omega
       exact hjp3 () (nb-1) _ f5 (by omega) (by omega) hz
     have hy:∀m,m<k->K a m≤N y:=fun m m1=>by simpa [Bey] using g2 m m1
     by_cases c4:na-k>0
     ·refine zbo c4 ?_
      by_cases c5:k=0
      ·refine zbo (c:=(k==0)=true) (by simpa using c5) ?_
       exact wpS_pure (.inl ⟨_,rfl,hrun.end1 (.inl c5),j6'⟩)
      refine zch (c:=(k==0)=true) (by simpa using c5) ?_
      exact hjp2 () k _ hrun (by omega) (by omega) hy
     ·refine zch c4 ?_
      obtain rfl:k=na:=by omega
      exact hjp2 () k _ j1 (by omega) (by omega) hy
    by_cases c5:mg>1
    ·refine zbo c5 ?_
     exact hjp () (mg-1)
    ·refine zch c5 ?_
     exact hjp () mg
end
end TS
namespace TS
open PySem PyProof PyProof.Rows
section
variable [SK]
noncomputable def Srt (xs:Array Keyed) (a b:Nat):Prop:=∀i j,a≤i->i≤j->j<b->K xs i≤K xs j
theorem zj9 (sa:Nat):∀(l:List Keyed) (n:Nat) (xs:Array Keyed),sa+n+l.length≤xs.size->
 ((l.zipIdx n).foldl (fun a (pj:Keyed×Nat)=>a.setIfInBounds (sa+pj.2) pj.1) xs).toList
   =xs.toList.take (sa+n)++(l++xs.toList.drop (sa+n+l.length))
 | [],n,xs,_=>by simp
 | p::t,n,xs,h=>by
  simp only [ZA5] at h
  rw [List.zipIdx_cons,List.foldl_cons,zj9 sa t (n+1) _ (by simp;omega)]
  simp only [Array.toList_setIfInBounds]
  rw [show sa+(n+1)=sa+n+1 by omega,List.drop_set_of_lt (by omega),ZA5,
   show sa+n+1+t.length=sa+n+(t.length+1) by omega]
  have:(xs.toList.set (sa+n) p).take (sa+n+1)=xs.toList.take (sa+n)++[p]:=by
   rw [List.take_succ_eq_append_getElem (by simp;omega),List.take_set_of_le (ZAc _)]
   simp
  rw [this];simp
section seg
variable {xs ys:Array Keyed} {a b:Nat} {M:List Keyed}
theorem zxl (h:ys.toList=xs.toList.take a++(M++xs.toList.drop (a+M.length))) (hs:a+M.length≤xs.size):
 (∀m,m<a∨a+M.length≤m->K ys m=K xs m)∧∀m,(hm:m<M.length)->K ys (a+m)=N M[m]:=by
 have hl:(xs.toList.take a).length=a:=by simp;omega
 refine ⟨fun m hm=>?_,fun m hm=>?_⟩
 ·refine zf5 ?_
  rw [←Array.getElem?_toList,←Array.getElem?_toList,h]
  rcases hm with hm | hm
  ·rw [ZA6 (by omega),List.getElem?_take_of_lt hm]
  ·rw [ZA0 (by omega),hl,ZA0 (by omega),List.getElem?_drop]
   congr 1;omega
 ·refine zgq ?_
  rw [←Array.getElem?_toList,h,ZA0 (by omega),hl,Nat.add_sub_cancel_left,ZA6 hm,ZAd hm]
theorem zq3 (h:ys.toList=xs.toList.take a++(M++xs.toList.drop (a+M.length))) (hM:M.Perm (xs.extract a b).toList) (hb:b≤xs.size) (hab:a≤b):ys.Perm xs:=by
 have hl:M.length=b-a:=by rw [hM.length_eq];simp;omega
 refine Array.perm_iff_toList_perm.mpr ?_
 rw [h]
 have e:xs.toList=xs.toList.take a++((xs.extract a b).toList++xs.toList.drop (a+M.length)):=by
  conv=>lhs;rw [←List.take_append_drop a xs.toList]
  congr 1
  have:=zd1 (a:=xs) (i:=a) (k:=b-a) (by omega)
  rw [show a+(b-a)=b by omega] at this
  rw [this,show a+M.length=b by omega]
 conv=>rhs;rw [e]
 exact (hM.append_right _).append_left _
end seg
structure Bs (a₀:Array Keyed) (st:SortSt):Prop where
 perm:(arrOf st).Perm a₀
 kind:kindOf st=SK.kind
 fail:failedOf st=none
theorem Bs.size {a₀:Array Keyed} {st:SortSt} (h:Bs a₀ st):(arrOf st).size=a₀.size:=h.perm.size_eq
theorem Bs.nums {a₀:Array Keyed} {st:SortSt} (h:Bs a₀ st) (h0:∀p,p∈a₀.toList->isN p):∀p,p∈(arrOf st).toList->isN p:=
 fun p hp=>h0 p ((Array.perm_iff_toList_perm.mp h.perm).mem_iff.mp hp)
theorem zmz {xs:Array Keyed} {a b:Nat} (hs:Srt xs a b) (hb:b≤xs.size):(xs.extract a b).toList.Pairwise le:=by
 rw [ZA9]
 intro i j hi hj hij
 simp only [Array.length_toList,Array.size_extract] at hi hj
 simp only [Array.getElem_toList,Array.getElem_extract]
 have:=hs (a+i) (a+j) (by omega) (by omega) (by omega)
 rw [zgq (getElem?_pos xs (a+i) (by omega)),zgq (getElem?_pos xs (a+j) (by omega))] at this
 exact this
theorem zsb {xs:Array Keyed} {a b m:Nat} (hm:a+m<b) (_hb:b≤xs.size):K (xs.extract a b) m=K xs (a+m):=by
 refine zf5 ?_
 rw [Array.getElem?_extract,if_pos (by omega)]
end
section
variable [SK] {prog:Program} {w:World} {A:Around} {E:Value->Shared->Prop} {s:Shared} [LtOk prog w A E s] {st:SortSt} {a₀:Array Keyed}
theorem ztg {st':SortSt} {Q:PUnit->SortSt->Prop} (h:Q ⟨⟩ st'):wpS (model prog w) A E s (set st':StateT SortSt Sem PUnit) Q st:=by
 unfold wpS;rw [StateT.run_set];exact wpAny_pure ⟨rfl,h⟩
theorem zu7 {i:Nat} {L T:List (Nat×Nat×Nat)} {sa na p sb nb p':Nat} {Q:Bool->SortSt->Prop} (h0:∀p,p∈a₀.toList->isN p) (hB:Bs a₀ st)
 (hp:pendingOf st=(L++(sa,na,p)::(sb,nb,p')::T).toArray) (hi:i=L.length) (hadj:sb=sa+na) (hna:1≤na) (hnb:1≤nb)
 (hsz:sb+nb≤a₀.size) (s1:Srt (arrOf st) sa sb) (s2:Srt (arrOf st) sb (sb+nb))
 (h:∀st',Bs a₀ st'->pendingOf st'=(L++(sa,na+nb,p)::T).toArray->Srt (arrOf st') sa (sb+nb)->
  (∀m,m<sa∨sb+nb≤m->K (arrOf st') m=K (arrOf st) m)->Q true st'):
 wpS (model prog w) A E s (mergeAt' i) Q st:=by
 subst hi
 have hI:=hB.nums h0
 have hsize:=hB.size
 refine wpS_bind (wpS_get ?_)
 have g1:(pendingOf st)[L.length]?=some (sa,na,p):=by rw [hp];simp
 have g2:(pendingOf st)[L.length+1]?=some (sb,nb,p'):=by rw [hp];simp
 have g3:((pendingOf st).setIfInBounds L.length (sa,na+nb,p)).eraseIdxIfInBounds (L.length+1)=(L++(sa,na+nb,p)::T).toArray:=by
  rw [hp]
  apply Array.toList_inj.mp
  simp [List.eraseIdx_append_of_length_le]
 refine (show ((pendingOf st)[L.length]?,(pendingOf st)[L.length+1]?)=(some (sa,na,p),some (sb,nb,p')) by rw [g1,g2]).symm▸?_
 refine wpS_bind (ztg (g3.symm▸?_))
 refine (fun (H:∀st1:SortSt,st1=SortSt.mk' (kindOf st) (arrOf st) ((L++(sa,na+nb,p)::T).toArray) (gallopOf st) (failedOf st)->
  wpS (model prog w) A E s _ Q st1)=>H _ rfl) ?_
 intro st1 e1
 have b1:Bs a₀ st1:=by rw [e1];exact ⟨hB.perm,hB.kind,hB.fail⟩
 have x1:arrOf st1=arrOf st:=by rw [e1]
 have p1:pendingOf st1=(L++(sa,na+nb,p)::T).toArray:=by rw [e1]
 have keep:Srt (arrOf st) sa (sb+nb)->Q true st1:=fun hs=>h st1 b1 p1 (by rw [x1];exact hs) (fun m _=>by rw [x1])
 clear e1
 obtain ⟨y,ey,iy,ky⟩:=ze2 hI (i:=sb) (by omega)
 refine wpS_bind (zbx ey (wpS_bind (zmi (a:=arrOf st) b1.kind hI iy (n:=na) (by omega) (fun i j hij hj=>s1 _ _ (by omega) (by omega) (by omega)) (by omega)
  fun k k1 k2 k3=>?_)))
 have k2':∀m,sa≤m->m<sa+k->K (arrOf st) m≤K (arrOf st) sb:=fun m m1 m2=>by
  have:=k2 (m-sa) (by omega);rw [show sa+(m-sa)=m by omega] at this
  rw [ky];simpa [Bey] using this
 have k3':∀m,sa+k≤m->m<sb->K (arrOf st) sb<K (arrOf st) m:=fun m m1 m2=>by
  have:=k3 (m-sa) (by omega) (by omega);rw [show sa+(m-sa)=m by omega] at this
  rw [ky];simpa [Bey] using this
 dsimp-zeta only
 by_cases c1:na-k=0
 ·refine zbo (c:=(na-k==0)=true) (by simpa using c1) ?_
  refine wpS_pure (keep fun i j h1 h2 h3=>?_)
  by_cases hj:j<sb
  ·exact s1 i j h1 h2 hj
  by_cases hi:sb≤i
  ·exact s2 i j hi h2 h3
  exact Int.le_trans (k2' i h1 (by omega)) (s2 sb j (ZAc _) (by omega) h3)
 refine zch (c:=(na-k==0)=true) (by simpa using c1) ?_
 obtain ⟨z,ez,iz,kz⟩:=ze2 hI (i:=sa+k+(na-k)-1) (by omega)
 have esb:sa+k+(na-k)-1=sb-1:=by omega
 refine wpS_bind (zbx ez (wpS_bind (zmi (a:=arrOf st) b1.kind hI iz (b:=sb) (n:=nb) (by omega) (fun i j hij hj=>s2 _ _ (by omega) (by omega) (by omega)) (by omega)
  fun nb' q1 q2 q3=>?_)))
 rw [esb] at kz
 have q2':∀m,sb≤m->m<sb+nb'->K (arrOf st) m<K (arrOf st) (sb-1):=fun m m1 m2=>by
  have:=q2 (m-sb) (by omega);rw [show sb+(m-sb)=m by omega] at this
  rw [kz];simpa [Bey] using this
 have q3':∀m,sb+nb'≤m->m<sb+nb->K (arrOf st) (sb-1)≤K (arrOf st) m:=fun m m1 m2=>by
  have:=q3 (m-sb) (by omega) (by omega);rw [show sb+(m-sb)=m by omega] at this
  rw [kz];simpa [Bey] using this
 dsimp-zeta only
 by_cases c2:nb'=0
 ·refine zbo (c:=(nb'==0)=true) (by simpa using c2) ?_
  refine wpS_pure (keep fun i j h1 h2 h3=>?_)
  by_cases hj:j<sb
  ·exact s1 i j h1 h2 hj
  by_cases hi:sb≤i
  ·exact s2 i j hi h2 h3
  exact Int.le_trans (s1 i (sb-1) h1 (by omega) (by omega)) (q3' j (by omega) h3)
 refine zch (c:=(nb'==0)=true) (by simpa using c2) ?_
 extract_lets-underBinder+onlyGivenNames x y' jp
 have szx:x.size=na-k:=by show ((arrOf st).extract (sa+k) sb).size=_;rw [Array.size_extract];omega
 have szy:y'.size=nb':=by show ((arrOf st).extract sb (sb+nb')).size=_;rw [Array.size_extract];omega
 have hx:∀q,q∈x.toList->isN q:=fun q hq=>hI q (by
  have:q∈((arrOf st).extract (sa+k) sb).toList:=hq
  rw [Array.toList_extract,List.extract_eq_take_drop] at this
  exact List.mem_of_mem_drop (List.mem_of_mem_take this))
 have hy:∀q,q∈y'.toList->isN q:=fun q hq=>hI q (by
  have:q∈((arrOf st).extract sb (sb+nb')).toList:=hq
  rw [Array.toList_extract,List.extract_eq_take_drop] at this
  exact List.mem_of_mem_drop (List.mem_of_mem_take this))
 have ox:x.toList.Pairwise le:=zmz (xs:=arrOf st) (fun i j h1 h2 h3=>s1 i j (by omega) h2 h3) (by omega)
 have oy:y'.toList.Pairwise le:=zmz (xs:=arrOf st) (fun i j h1 h2 h3=>s2 i j h1 h2 (by omega)) (by omega)
 have hf:K y' 0≤K x 0:=by
  show K ((arrOf st).extract sb (sb+nb')) 0≤K ((arrOf st).extract (sa+k) sb) 0
  rw [zsb (by omega) (by omega),zsb (by omega) (by omega)]
  exact Int.le_of_lt (k3' _ (by omega) (by omega))
 have hl:K y' (y'.size-1)≤K x (x.size-1):=by
  rw [szx,szy]
  show K ((arrOf st).extract sb (sb+nb')) _≤K ((arrOf st).extract (sa+k) sb) _
  rw [zsb (by omega) (by omega),zsb (by omega) (by omega),show sa+k+(na-k-1)=sb-1 by omega]
  exact Int.le_of_lt (q2' _ (by omega) (by omega))
 have hW:x.toList++y'.toList=((arrOf st).extract (sa+k) (sb+nb')).toList:=by
  have e1:=zd1 (a:=(arrOf st)) (i:=sa+k) (k:=na-k) (by omega)
  have e2:=zd1 (a:=(arrOf st)) (i:=sb) (k:=nb') (by omega)
  have e3:=zd1 (a:=(arrOf st)) (i:=sa+k) (k:=na-k+nb') (by omega)
  rw [show sa+k+(na-k)=sb by omega] at e1
  rw [show sa+k+(na-k+nb')=sb+nb' by omega] at e3
  rw [e2] at e1
  rw [e3,←List.append_assoc] at e1
  exact (List.append_cancel_right e1).symm
 have hjp:∀r st2,Sm st1 st2->Out le (x.toList++y'.toList) r.toList->wpS (model prog w) A E s (jp r) Q st2:=by
  intro r st2 hm hO
  rw [hW] at hO
  have rl:r.toList.length=na-k+nb':=by rw [hO.1.length_eq];simp;omega
  refine wpS_bind (wpS_modify (wpS_bind (wpS_get (wpS_pure ?_))))
  have hY:=zj9 (sa+k) r.toList 0 (arrOf st2) (by rw [hm.arr,x1];omega)
  rw [hm.arr,x1,Nat.add_zero] at hY
  have hKs:=zxl hY (by omega)
  have hP:=zq3 hY hO.1 (by omega) (by omega)
  have hmem:∀m,sa+k≤m->m<sb+nb'->∀v,v=K (List.foldl (fun a (pj:Keyed×Nat)=>a.setIfInBounds (sa+k+pj.2) pj.1) (arrOf st) (r.toList.zipIdx 0)) m->K (arrOf st) sb≤v∧v≤K (arrOf st) (sb-1):=by
   rintro m m1 m2 v rfl
   have:=hKs.2 (m-(sa+k)) (by omega)
   rw [show sa+k+(m-(sa+k))=m by omega] at this
   rw [this]
   obtain ⟨m',n1,n2,n3,n4⟩:=zh0 (hO.1.mem_iff.mp (ZBj (l:=r.toList) (n:=m-(sa+k)) (by omega)))
   rw [←n4]
   by_cases hc:m'<sb
   ·exact ⟨Int.le_of_lt (k3' m' n1 hc),s1 _ _ (by omega) (by omega) (by omega)⟩
   ·exact ⟨s2 _ _ (by omega) (by omega) (by omega),Int.le_of_lt (q2' m' (by omega) n2)⟩
  have hfail:(failedOf st2).isNone=true:=by rw [hm.fail,b1.fail];rfl
  have hfold:List.foldl (fun a x=>match x with | (p,j)=>a.setIfInBounds (sa+k+j) p) (arrOf st2) r.toList.zipIdx
   =List.foldl (fun a (pj:Keyed×Nat)=>a.setIfInBounds (sa+k+pj.2) pj.1) (arrOf st) (r.toList.zipIdx 0):=by rw [hm.arr,x1]
  generalize List.foldl (fun a (pj:Keyed×Nat)=>a.setIfInBounds (sa+k+pj.2) pj.1) (arrOf st) (r.toList.zipIdx 0)=Y at hfold hY hKs hP hmem
  refine (show Q (failedOf st2).isNone (SortSt.mk' (kindOf st2) (List.foldl (fun a x=>match x with | (p,j)=>a.setIfInBounds (sa+k+j) p) (arrOf st2) r.toList.zipIdx) (pendingOf st2) (gallopOf st2) (failedOf st2)) from ?_)
  rw [hfold,hfail]
  refine h _ ⟨hP.trans hB.perm,hm.kind.trans b1.kind,hm.fail.trans b1.fail⟩ (hm.pend.trans p1) ?_ ?_
  ·show Srt Y sa (sb+nb)
   have out1:∀m,m<sa+k->K Y m=K (arrOf st) m:=fun m m1=>hKs.1 m (.inl m1)
   have out2:∀m,sb+nb'≤m->K Y m=K (arrOf st) m:=fun m m1=>hKs.1 m (.inr (by omega))
   intro i j h1 h2 h3
   by_cases i1:i<sa+k
   ·rw [out1 i i1]
    by_cases j1:j<sa+k
    ·rw [out1 j j1];exact s1 i j h1 h2 (by omega)
    have:=k2' i h1 i1
    by_cases j2:j<sb+nb'
    ·exact Int.le_trans this (hmem j (by omega) j2 _ rfl).1
    ·rw [out2 j (by omega)];exact Int.le_trans this (s2 _ _ (ZAc _) (by omega) h3)
   by_cases i2:i<sb+nb'
   ·by_cases j2:j<sb+nb'
    ·rcases Nat.lt_or_eq_of_le h2 with hij | rfl
     ·have e1:=hKs.2 (i-(sa+k)) (by omega)
      have e2:=hKs.2 (j-(sa+k)) (by omega)
      rw [show sa+k+(i-(sa+k))=i by omega] at e1
      rw [show sa+k+(j-(sa+k))=j by omega] at e2
      rw [e1,e2]
      exact ZA9.mp hO.2 _ _ _ _ (by omega)
     ·exact Int.le_refl _
    ·rw [out2 j (by omega)]
     exact Int.le_trans (hmem i (by omega) i2 _ rfl).2 (q3' j (by omega) h3)
   ·rw [out2 i (by omega),out2 j (by omega)];exact s2 i j (by omega) h2 h3
  ·intro m hm'
   exact hKs.1 m (by omega)
 by_cases c3:na-k≤nb'
 ·refine zbo c3 ?_
  exact wpS_bind (zu5 rfl b1.kind hx hy ox oy (by omega) (by omega) hf hl fun r st2 hm hO=>hjp r st2 hm hO)
 ·refine zch c3 ?_
  exact wpS_bind (zu6 rfl b1.kind hx hy ox oy (by omega) (by omega) hf hl fun r st2 hm hO=>hjp r st2 hm hO)
end
end TS
namespace TS
open PySem PyProof PyProof.Rows
section
variable [SK]
noncomputable def Dec (xs:Array Keyed) (a b:Nat):Prop:=∀i j,a≤i->i≤j->j<b->K xs j≤K xs i
structure Go (a₀:Array Keyed) (lo:Nat) (st st':SortSt):Prop where
 base:Bs a₀ st'
 pend:pendingOf st'=pendingOf st
 low:∀m,m<lo->K (arrOf st') m=K (arrOf st) m
theorem Go.refl {a₀:Array Keyed} {lo:Nat} {st:SortSt} (h:Bs a₀ st):Go a₀ lo st st:=⟨h,rfl,fun _ _=>rfl⟩
theorem Go.put {a₀:Array Keyed} {lo:Nat} {st st':SortSt} (h:Go a₀ lo st st') {xs:Array Keyed} (hp:xs.Perm (arrOf st')) (hl:∀m,m<lo->K xs m=K (arrOf st') m):
 Go a₀ lo st (setArr st' xs):=⟨⟨hp.trans h.base.perm,h.base.kind,h.base.fail⟩,h.pend,fun m hm=>(hl m hm).trans (h.low m hm)⟩
theorem Srt.snoc {xs:Array Keyed} {a b:Nat} (h:Srt xs a b) (hl:a<b->K xs (b-1)≤K xs b):Srt xs a (b+1):=by
 intro i j h1 h2 h3
 by_cases hj:j<b
 ·exact h i j h1 h2 hj
 obtain rfl:j=b:=by omega
 by_cases hi:i=j
 ·rw [hi];exact Int.le_refl _
 ·exact Int.le_trans (h i (j-1) h1 (by omega) (by omega)) (hl (by omega))
theorem Dec.snoc {xs:Array Keyed} {a b:Nat} (h:Dec xs a b) (hl:a<b->K xs b≤K xs (b-1)):Dec xs a (b+1):=by
 intro i j h1 h2 h3
 by_cases hj:j<b
 ·exact h i j h1 h2 hj
 obtain rfl:j=b:=by omega
 by_cases hi:i=j
 ·rw [hi];exact Int.le_refl _
 ·exact Int.le_trans (hl (by omega)) (h i (j-1) h1 (by omega) (by omega))
theorem Srt.one (xs:Array Keyed) (a:Nat):Srt xs a (a+1):=fun i j h1 h2 h3=>by
 obtain rfl:i=j:=by omega
 exact Int.le_refl _
theorem Dec.rev {xs:Array Keyed} {a b:Nat} (h:Dec xs a b) (hb:b≤xs.size):Srt (mirror xs a b ((b-a) / 2)) a b:=by
 intro i j h1 h2 h3
 rw [zhn hb,zhn hb,if_pos ⟨h1,by omega⟩,if_pos ⟨by omega,h3⟩]
 exact h _ _ (by omega) (by omega) (by omega)
end
section
variable [SK] {prog:Program} {w:World} {A:Around} {E:Value->Shared->Prop} {s:Shared} [LtOk prog w A E s] {st:SortSt} {a₀:Array Keyed}
theorem zg7 {β:Type} {a n:Nat} {f:Nat->β->StateT SortSt Sem (ForInStep β)} (I:Nat->β->SortSt->Prop) {Q:β->SortSt->Prop} (han:a≤n)
 (hstep:∀i c st,a≤i->i<n->I i c st->wpS (model prog w) A E s (f i c) (SQ Q (I (i+1))) st)
 (hend:∀c st,I n c st->Q c st) {c:β} {st:SortSt} (h:I a c st):wpS (model prog w) A E s (forIn [a:n] c f) Q st:=
 wpS_forRange I (fun i c st hai hi hI=>wpS_mono (hstep i c st hai hi hI) fun r st' h'=>by cases r<;>exact h')
  (fun c st h'=>hend c st (by rwa [Nat.max_eq_right han] at h')) h
theorem zne {i j:Nat} {Q:Option Bool->SortSt->Prop} (h0:∀p,p∈a₀.toList->isN p) (hB:Bs a₀ st) (hi:i<a₀.size) (hj:j<a₀.size)
 (h:Q (some (decide (K (arrOf st) i<K (arrOf st) j))) st):wpS (model prog w) A E s (ltAt' i j) Q st:=by
 have hI:=hB.nums h0
 obtain ⟨p,e1,i1,k1⟩:=ze2 hI (i:=i) (by rw [hB.size];exact hi)
 obtain ⟨q,e2,i2,k2⟩:=ze2 hI (i:=j) (by rw [hB.size];exact hj)
 rw [ltAt'_eq]
 refine wpS_bind (wpS_get (wpS_bind (zbx e1 (wpS_bind (zbx e2 (zn6 hB.kind i1 i2 ?_))))))
 rwa [k1,k2] at h
theorem zqu {lo nrem:Nat} {Q:Option Nat->SortSt->Prop} (h0:∀p,p∈a₀.toList->isN p) (hB:Bs a₀ st) (hn:lo+nrem≤a₀.size) (h1:1≤nrem)
 (h:∀m st',1≤m->m≤nrem->Go a₀ lo st st'->Srt (arrOf st') lo (lo+m)->Q (some m) st'):
 wpS (model prog w) A E s (countRun' lo nrem) Q st:=by
 refine wpS_bind (wpS_mono (zg7
  (I:=fun x c st'=>st'=st∧c=(none,x)∧Srt (arrOf st) lo (lo+x))
  (Q:=fun c st'=>st'=st∧∃n,c=(none,n)∧1≤n∧n≤nrem∧Srt (arrOf st) lo (lo+n)∧(n=nrem∨K (arrOf st) (lo+n)<K (arrOf st) (lo+n-1)))
  h1 ?_ ?_ ⟨rfl,rfl,Srt.one _ _⟩) ?_)
 ·rintro x c st' hx1 hx2 ⟨rfl,rfl,hs⟩
  refine wpS_bind (zne h0 hB (by show lo+x<_;omega) (by show lo+x-1<_;omega) ?_)
  by_cases hlt:K (arrOf st') (lo+x)<K (arrOf st') (lo+x-1)
  ·rw [ZBo hlt]
   exact wpS_pure ⟨rfl,x,rfl,hx1,by omega,hs,.inr hlt⟩
  ·rw [ZBp hlt]
   exact wpS_pure ⟨rfl,rfl,hs.snoc fun _=>Int.not_lt.mp hlt⟩
 ·rintro c st' ⟨rfl,rfl,hs⟩
  exact ⟨rfl,nrem,rfl,h1,ZAc _,hs,.inl rfl⟩
 rintro c st' ⟨rfl,n,rfl,n1,n2,hs,hor⟩
 refine (fun (H:wpS (model prog w) A E s (ite ((n==nrem)=true) _ _) Q st')=>H) ?_
 by_cases c1:n=nrem
 ·rw [if_pos (by simpa using c1)]
  exact wpS_pure (h n _ n1 n2 (Go.refl hB) hs)
 rw [if_neg (by simpa using c1)]
 have hlt:=hor.resolve_left c1
 extract_lets-underBinder+onlyGivenNames jp
 have hjp:∀u st2,Go a₀ lo st' st2->Dec (arrOf st2) lo (lo+(n+1))->wpS (model prog w) A E s (jp u) Q st2:=by
  intro u st2 hg hd
  refine wpS_bind (wpS_lift (wpAny_rule ⟨rfl,?_⟩))
  refine wpS_bind (wpS_mono (zg7
   (I:=fun x c st3=>∃neq,c=(none,x,neq)∧Go a₀ lo st' st3∧Dec (arrOf st3) lo (lo+x)∧neq+1≤x∧∀i,lo+x-(neq+1)≤i->i<lo+x->K (arrOf st3) i=K (arrOf st3) (lo+x-1))
   (Q:=fun c st3=>∃x neq,c=(none,x,neq)∧n+1≤x∧x≤nrem∧Go a₀ lo st' st3∧Dec (arrOf st3) lo (lo+x)∧neq+1≤x∧∀i,lo+x-(neq+1)≤i->i<lo+x->K (arrOf st3) i=K (arrOf st3) (lo+x-1))
   (show n+1≤nrem by omega) ?_ ?_ ⟨0,rfl,hg,hd,by omega,fun i i1 i2=>by congr 1;omega⟩) ?_)
  ·rintro x c st3 x1 x2 ⟨neq,rfl,hg,hd,hq,he⟩
   have hsz:lo+x≤(arrOf st3).size:=by rw [hg.base.size];omega
   refine wpS_bind (zne h0 hg.base (by show lo+x<_;omega) (by show lo+x-1<_;omega) ?_)
   by_cases hlt:K (arrOf st3) (lo+x)<K (arrOf st3) (lo+x-1)
   ·rw [ZBo hlt]
    dsimp only
    rw [if_pos rfl]
    by_cases hneq:neq>0
    ·rw [if_pos hneq]
     have hK:=zel (i:=lo+x-(neq+1)) hsz he
     refine wpS_bind (wpS_reverse (wpS_pure ⟨0,rfl,hg.put (mirror_perm _ _ _ _) (fun m _=>hK m),?_,by omega,fun i i1 i2=>by congr 1;omega⟩))
     intro i j i1 i2 i3
     show K (mirror (arrOf st3) _ _ _) j≤K (mirror (arrOf st3) _ _ _) i
     rw [hK,hK]
     exact (hd.snoc fun _=>Int.le_of_lt hlt) i j i1 i2 (by omega)
    ·rw [if_neg hneq]
     exact wpS_pure ⟨0,rfl,hg,hd.snoc fun _=>Int.le_of_lt hlt,by omega,fun i i1 i2=>by congr 1;omega⟩
   ·rw [ZBp hlt]
    dsimp only
    rw [if_neg (by decide)]
    refine wpS_bind (zne h0 hg.base (by omega) (by omega) ?_)
    by_cases hgt:K (arrOf st3) (lo+x-1)<K (arrOf st3) (lo+x)
    ·rw [ZBo hgt]
     exact wpS_pure ⟨x,neq,rfl,by omega,by omega,hg,hd,hq,he⟩
    ·rw [ZBp hgt]
     have heq:K (arrOf st3) (lo+x)=K (arrOf st3) (lo+x-1):=by omega
     refine wpS_pure ⟨neq+1,rfl,hg,hd.snoc fun _=>by omega,by omega,fun i i1 i2=>?_⟩
     rw [show lo+(x+1)-1=lo+x by omega]
     by_cases hi:i=lo+x
     ·rw [hi]
     ·rw [heq];exact he i (by omega) (by omega)
  ·rintro c st3 ⟨neq,rfl,hg,hd,hq,he⟩
   exact ⟨nrem,neq,rfl,by omega,ZAc _,hg,hd,hq,he⟩
  rintro c st3 ⟨x,neq,rfl,x1,x2,hg,hd,hq,he⟩
  have hsz:lo+x≤(arrOf st3).size:=by rw [hg.base.size];omega
  refine (fun (H:wpS (model prog w) A E s _ Q st3)=>H) ?_
  extract_lets-underBinder+onlyGivenNames r0 s0 xx nn
  dsimp-zeta only [r0]
  extract_lets-underBinder+onlyGivenNames jp2
  have hjp2:∀u st4,Go a₀ lo st' st4->Dec (arrOf st4) lo (lo+x)->wpS (model prog w) A E s (jp2 u) Q st4:=by
   intro u st4 hg hd
   have hsz:lo+x≤(arrOf st4).size:=by rw [hg.base.size];omega
   refine wpS_bind (wpS_reverse ?_)
   have hg5:Go a₀ lo st' (setArr st4 (mirror (arrOf st4) lo (lo+x) ((lo+x-lo) / 2))):=
    hg.put (mirror_perm _ _ _ _) (fun m hm=>by rw [zhn hsz,if_neg (by omega)])
   have hs5:Srt (arrOf (setArr st4 (mirror (arrOf st4) lo (lo+x) ((lo+x-lo) / 2)))) lo (lo+x):=hd.rev hsz
   refine (fun (H:∀st5,Go a₀ lo st' st5->Srt (arrOf st5) lo (lo+x)->wpS (model prog w) A E s _ Q st5)=>H _ hg5 hs5) ?_
   intro st5 hg5 hs5
   refine wpS_bind (wpS_mono (zg7
    (I:=fun y c st6=>st6=st5∧c=(none,y)∧Srt (arrOf st5) lo (lo+y))
    (Q:=fun c st6=>st6=st5∧∃y,c=(none,y)∧1≤y∧y≤nrem∧Srt (arrOf st5) lo (lo+y)) x2 ?_ ?_ ⟨rfl,rfl,hs5⟩) ?_)
   ·rintro y c st6 y1 y2 ⟨rfl,rfl,hs⟩
    refine wpS_bind (zne h0 hg5.base (by show lo+y<_;omega) (by show lo+y-1<_;omega) ?_)
    by_cases hlt:K (arrOf st6) (lo+y)<K (arrOf st6) (lo+y-1)
    ·rw [ZBo hlt]
     exact wpS_pure ⟨rfl,y,rfl,by omega,by omega,hs⟩
    ·rw [ZBp hlt]
     exact wpS_pure ⟨rfl,rfl,hs.snoc fun _=>Int.not_lt.mp hlt⟩
   ·rintro c st6 ⟨rfl,rfl,hs⟩
    exact ⟨rfl,nrem,rfl,h1,ZAc _,hs⟩
   ·rintro c st6 ⟨rfl,y,rfl,y1,y2,hs⟩
    exact wpS_pure (h y _ y1 y2 hg5 hs)
  by_cases hneq:neq>0
  ·refine zbo (c:=neq>0) hneq ?_
   have hK:=zel (i:=lo+x-(neq+1)) hsz he
   refine wpS_bind (wpS_reverse (hjp2 () _ (hg.put (mirror_perm _ _ _ _) (fun m _=>hK m)) ?_))
   intro i j i1 i2 i3
   show K (mirror (arrOf st3) _ _ _) j≤K (mirror (arrOf st3) _ _ _) i
   rw [hK,hK]
   exact hd i j i1 i2 i3
  ·refine zch (c:=neq>0) hneq ?_
   exact hjp2 () _ hg hd
 have hsz:lo+n≤(arrOf st').size:=by rw [hB.size];omega
 by_cases c2:n>1
 ·refine zbo (c:=n>1) c2 ?_
  refine wpS_bind (zne h0 hB (by omega) (by show lo+n-1<_;omega) ?_)
  by_cases hr:K (arrOf st') lo<K (arrOf st') (lo+n-1)
  ·rw [ZBo hr]
   exact wpS_pure (h n _ n1 n2 (Go.refl hB) hs)
  ·rw [ZBp hr]
   have hall:∀k,lo≤k->k<lo+n->K (arrOf st') k=K (arrOf st') (lo+n-1):=fun k k1 k2=>by
    have a1:=hs lo k (ZAc _) k1 k2
    have a2:=hs k (lo+n-1) k1 (by omega) (by omega)
    omega
   have hK:=zel hsz hall
   refine wpS_bind (wpS_reverse (hjp () _ ((Go.refl hB).put (mirror_perm _ _ _ _) (fun m _=>hK m)) ?_))
   have hd:Dec (arrOf st') lo (lo+n):=fun i j i1 i2 i3=>by rw [hall i i1 (by omega),hall j (by omega) i3];exact Int.le_refl _
   intro i j i1 i2 i3
   show K (mirror (arrOf st') _ _ _) j≤K (mirror (arrOf st') _ _ _) i
   rw [hK,hK]
   exact (hd.snoc fun _=>Int.le_of_lt hlt) i j i1 i2 (by omega)
 ·refine zch (c:=n>1) c2 ?_
  obtain rfl:n=1:=by omega
  have hd:Dec (arrOf st') lo (lo+1):=fun i j i1 i2 i3=>by
   obtain rfl:i=j:=by omega
   exact Int.le_refl _
  exact hjp () _ (Go.refl hB) (hd.snoc fun _=>Int.le_of_lt hlt)
end
end TS
namespace TS
open PySem PyProof PyProof.Rows
section
variable [SK] {prog:Program} {w:World} {A:Around} {E:Value->Shared->Prop} {s:Shared} [LtOk prog w A E s] {st:SortSt} {a₀:Array Keyed}
theorem ztf {lo n ok:Nat} {Q:Bool->SortSt->Prop} (h0:∀p,p∈a₀.toList->isN p) (hB:Bs a₀ st) (hn:lo+n≤a₀.size) (h1:1≤ok) (hok:ok≤n)
 (hs:Srt (arrOf st) lo (lo+ok)) (h:∀st',Go a₀ lo st st'->Srt (arrOf st') lo (lo+n)->Q true st'):
 wpS (model prog w) A E s (binarySort' lo n ok) Q st:=by
 refine wpS_bind (wpS_mono (zg7
  (I:=fun k c st'=>c=(none,())∧Go a₀ lo st st'∧Srt (arrOf st') lo (lo+k))
  (Q:=fun c st'=>c=(none,())∧Go a₀ lo st st'∧Srt (arrOf st') lo (lo+n)) (show max ok 1≤n by omega) ?_ ?_
  ⟨rfl,Go.refl hB,by rw [Nat.max_eq_left h1];exact hs⟩) ?_)
 ·rintro k c st' k1 k2 ⟨rfl,hg,hs'⟩
  have hsz:lo+k<(arrOf st').size:=by rw [hg.base.size];omega
  refine wpS_bind (wpS_mono (zef
   (I:=fun x c st2=>st2=st'∧∃l r,c=(none,l,r)∧l≤r∧r≤k∧r-l≤k-x∧(∀i,i<l->K (arrOf st') (lo+i)≤K (arrOf st') (lo+k))∧
    ∀i,r≤i->i<k->K (arrOf st') (lo+k)≤K (arrOf st') (lo+i))
   (Q:=fun c st2=>st2=st'∧∃l,c=(none,l,l)∧l≤k∧(∀i,i<l->K (arrOf st') (lo+i)≤K (arrOf st') (lo+k))∧
    ∀i,l≤i->i<k->K (arrOf st') (lo+k)≤K (arrOf st') (lo+i)) ?_ ?_ ⟨rfl,0,k,rfl,by omega,by omega,by omega,fun i hi=>by omega,fun i i1 i2=>by omega⟩) ?_)
  ·rintro x c st2 hx ⟨rfl,l,r,rfl,a1,a2,a3,a4,a5⟩
   dsimp only
   by_cases hge:l≥r
   ·rw [if_pos hge]
    obtain rfl:l=r:=by omega
    exact wpS_pure ⟨rfl,l,rfl,a2,a4,a5⟩
   rw [if_neg hge]
   generalize hm:(l+r) / 2=m
   refine wpS_bind (zne h0 hg.base (i:=lo+k) (j:=lo+m) (by omega) (by omega) ?_)
   by_cases hlt:K (arrOf st2) (lo+k)<K (arrOf st2) (lo+m)
   ·rw [ZBo hlt]
    refine wpS_pure ⟨rfl,l,m,rfl,by omega,by omega,by omega,a4,fun i i1 i2=>?_⟩
    exact Int.le_trans (Int.le_of_lt hlt) (hs' _ _ (by omega) (by omega) (by omega))
   ·rw [ZBp hlt]
    refine wpS_pure ⟨rfl,m+1,r,rfl,by omega,by omega,by omega,fun i i1=>?_,a5⟩
    exact Int.le_trans (hs' _ (lo+m) (by omega) (by omega) (by omega)) (Int.not_lt.mp hlt)
  ·rintro c st2 ⟨rfl,l,r,rfl,a1,a2,a3,a4,a5⟩
   obtain rfl:l=r:=by omega
   exact ⟨rfl,l,rfl,a2,a4,a5⟩
  ·rintro c st2 ⟨rfl,l,rfl,a2,a4,a5⟩
   refine (fun (H:wpS (model prog w) A E s (do moveDown' (lo+k) (lo+l);pure (ForInStep.yield (none,()))) _ st2)=>H) ?_
   rw [moveDown'_eq]
   have hKb:=fun m=>zsc (d:=lo+k-(lo+l)) hsz (by omega) m
   refine wpS_bind (wpS_modify (wpS_pure ⟨rfl,hg.put (bubble_perm _ _ _) (fun m hm=>?_),?_⟩))
   ·rw [hKb,if_neg (by omega),if_neg (by omega)]
   ·intro i j i1 i2 i3
    show K (bubble (arrOf st2) (lo+k) (lo+k-(lo+l))) i≤K (bubble (arrOf st2) (lo+k) (lo+k-(lo+l))) j
    have low:∀m,lo≤m->m<lo+l->K (arrOf st2) m≤K (arrOf st2) (lo+k):=fun m m1 m2=>by
     have:=a4 (m-lo) (by omega);rwa [show lo+(m-lo)=m by omega] at this
    have high:∀m,lo+l≤m->m<lo+k->K (arrOf st2) (lo+k)≤K (arrOf st2) m:=fun m m1 m2=>by
     have:=a5 (m-lo) (by omega) (by omega);rwa [show lo+(m-lo)=m by omega] at this
    rw [hKb,hKb]
    repeat' split
    all_goals first
     | (exfalso;omega)
     | exact Int.le_refl _
     | exact low _ (by omega) (by omega)
     | exact high _ (by omega) (by omega)
     | exact hs' _ _ (by omega) (by omega) (by omega)
 ·rintro c st' ⟨hc,hg,hs'⟩
  exact ⟨hc,hg,hs'⟩
 ·rintro c st' ⟨rfl,hg,hs'⟩
  exact wpS_pure (h st' hg hs')
end
end TS
namespace TS
open PySem PyProof PyProof.Rows
noncomputable def Run [SK] (xs:Array Keyed):Nat->List (Nat×Nat×Nat)->Nat->Prop
 | s,[],e=>s=e
 | s,r::t,e=>r.1=s∧1≤r.2.1∧Srt xs s (s+r.2.1)∧Run xs (s+r.2.1) t e
section run
variable [SK] {X Y:Array Keyed}
theorem Run.le:∀{rs s e},Run X s rs e->s+rs.length≤e
 | [],s,e,h=>by unfold Run at h;simp;omega
 | r::t,s,e,⟨_,h1,_,h2⟩=>by have:=h2.le;simp only [ZA5];omega
theorem Run.congr:∀{rs s e},Run X s rs e->(∀m,s≤m->m<e->K Y m=K X m)->Run Y s rs e
 | [],_,_,h,_=>h
 | r::t,s,e,⟨h0,h1,h2,h3⟩,hk=>by
  have:=h3.le
  refine ⟨h0,h1,fun i j a1 a2 a3=>?_,h3.congr fun m m1 m2=>hk m (by omega) m2⟩
  rw [hk i a1 (by omega),hk j (by omega) (by omega)]
  exact h2 i j a1 a2 a3
theorem Run.app:∀{l r s e},Run X s (l++r) e↔∃m,Run X s l m∧Run X m r e
 | [],r,s,e=>⟨fun h=>⟨s,rfl,h⟩,fun ⟨m,h1,h2⟩=>by unfold Run at h1;subst h1;exact h2⟩
 | a::l,r,s,e=>⟨fun ⟨h0,h1,h2,h3⟩=>by
  obtain ⟨m,a1,a2⟩:=Run.app.mp h3
  exact ⟨m,⟨h0,h1,h2,a1⟩,a2⟩,fun ⟨m,⟨h0,h1,h2,h3⟩,h4⟩=>⟨h0,h1,h2,Run.app.mpr ⟨m,h3,h4⟩⟩⟩
theorem Run.same:∀{rs rs' s e},Run X s rs e->rs.map (fun r=>(r.1,r.2.1))=rs'.map (fun r=>(r.1,r.2.1))->Run X s rs' e
 | [],[],_,_,h,_=>h
 | a::t,b::t',s,e,⟨h0,h1,h2,h3⟩,hm=>by
  simp only [ZAv,List.cons.injEq,Prod.mk.injEq] at hm
  obtain ⟨⟨e1,e2⟩,e3⟩:=hm
  refine ⟨e1▸h0,e2▸h1,e2▸h2,?_⟩
  rw [←e2];exact h3.same e3
 | [],_::_,_,_,_,hm=>by simp at hm
 | _::_,[],_,_,_,hm=>by simp at hm
end run
theorem zhz {α β:Type} {f:α->α} {g:α->β} (h:∀x,g (f x)=g x):∀(l:List α) (i:Nat),(l.modify i f).map g=l.map g
 | [],i=>by simp
 | a::t,0=>by simp [h]
 | a::t,i+1=>by simp [zhz h t i]
section
variable [SK] {prog:Program} {w:World} {A:Around} {E:Value->Shared->Prop} {s:Shared} [LtOk prog w A E s] {st:SortSt} {a₀:Array Keyed}
structure Pd (a₀:Array Keyed) (lo:Nat) (rs:List (Nat×Nat×Nat)) (st:SortSt):Prop where
 base:Bs a₀ st
 pend:pendingOf st=rs.toArray
 run:Run (arrOf st) 0 rs lo
 top:lo≤a₀.size
theorem zn5 {lo i:Nat} {rs:List (Nat×Nat×Nat)} {Q:Bool->SortSt->Prop} (h0:∀p,p∈a₀.toList->isN p) (hP:Pd a₀ lo rs st) (hi:i+1<rs.length)
 (h:∀rs' st',Pd a₀ lo rs' st'->rs'.length+1=rs.length->(∀m,lo≤m->K (arrOf st') m=K (arrOf st) m)->Q true st'):
 wpS (model prog w) A E s (mergeAt' i) Q st:=by
 obtain ⟨L,r1,r2,T,e,hL⟩:∃L r1 r2 T,rs=L++r1::r2::T∧i=L.length:=by
  refine ⟨rs.take i,rs[i],rs[i+1],rs.drop (i+2),?_,by simp;omega⟩
  rw [←List.drop_eq_getElem_cons,←List.drop_eq_getElem_cons,List.take_append_drop]
 obtain ⟨sa,na,p⟩:=r1
 obtain ⟨sb,nb,p'⟩:=r2
 have hr:=hP.run
 rw [e] at hr
 obtain ⟨m,hl,rfl,b1,b2,rfl,c1,c2,ht⟩:=Run.app.mp hr
 dsimp only at b1 b2 c1 c2 ht
 have t1:=ht.le
 have t2:=hP.top
 refine zu7 h0 hP.base (e▸hP.pend) hL rfl b1 c1 (by omega) b2 c2 fun st' d1 d2 d3 d4=>?_
 refine h _ st' ⟨d1,d2,Run.app.mpr ⟨sa,hl.congr fun m _ m2=>d4 m (.inl m2),rfl,by show 1≤na+nb;omega,?_,?_⟩,t2⟩ (by rw [e];simp;omega)
  (fun m m1=>d4 m (.inr (by omega)))
 ·show Srt _ sa (sa+(na+nb));rw [←Nat.add_assoc];exact d3
 ·show Run _ (sa+(na+nb)) T lo;rw [←Nat.add_assoc];exact ht.congr fun m m1 _=>d4 m (.inr m1)
theorem zte {Q:Unit->SortSt->Prop} (h0:∀p,p∈a₀.toList->isN p) (hB:Bs a₀ st) (hp:pendingOf st= #[]) (h2:2≤a₀.size)
 (h:∀st',(arrOf st').Perm a₀->failedOf st'=none->Srt (arrOf st') 0 a₀.size->Q () st'):wpS (model prog w) A E s sortRuns' Q st:=by
 refine wpS_bind (wpS_get ?_)
 have hsize:=hB.size
 refine wpS_bind (wpS_mono (zef
  (I:=fun x c st'=>∃lo rs,c=(none,lo)∧Pd a₀ lo rs st'∧(x≤lo∨lo=a₀.size))
  (Q:=fun c st'=>∃rs,c=(none,a₀.size)∧Pd a₀ a₀.size rs st') ?big ?bigEnd ⟨0,[],rfl,⟨hB,hp,rfl,ZAq _⟩,.inl (ZAc _)⟩) ?after)
 case bigEnd=>
  rintro c st' ⟨lo,rs,rfl,hP,hx⟩
  have:=hP.top
  change (arrOf st).size≤lo∨lo=a₀.size at hx
  obtain rfl:lo=a₀.size:=by omega
  exact ⟨rs,rfl,hP⟩
 case big=>
  rintro x c st' hx ⟨lo,rs,rfl,hP,hxx⟩
  refine (fun (H:wpS (model prog w) A E s (ite (lo≥(arrOf st).size) _ _) _ st')=>H) ?_
  by_cases c1:lo≥(arrOf st).size
  ·rw [if_pos c1]
   have:=hP.top
   obtain rfl:lo=a₀.size:=by omega
   exact wpS_pure ⟨rs,rfl,hP⟩
  rw [if_neg c1]
  refine wpS_bind (zqu h0 hP.base (by show lo+((arrOf st).size-lo)≤_;omega) (by show 1≤(arrOf st).size-lo;omega) fun m st2 m1 m2 hg hs=>?_)
  change m≤(arrOf st).size-lo at m2
  change Go a₀ lo st' st2 at hg
  change Srt (arrOf st2) lo (lo+m) at hs
  have hP2:Pd a₀ lo rs st2:=⟨hg.base,hg.pend.trans hP.pend,hP.run.congr fun m _ m2=>hg.low m m2,hP.top⟩
  refine (fun (H:wpS (model prog w) A E s _ _ st2)=>H) ?_
  dsimp-zeta only
  extract_lets-underBinder+onlyGivenNames n0 jp
  have hjp:∀(u:Unit) n st3,1≤n->lo+n≤a₀.size->Pd a₀ lo rs st3->Srt (arrOf st3) lo (lo+n)->
   wpS (model prog w) A E s (jp u n) (SQ (fun c st'=>∃rs,c=(none,a₀.size)∧Pd a₀ a₀.size rs st')
    (fun c st'=>∃lo rs,c=(none,lo)∧Pd a₀ lo rs st'∧(x+1≤lo∨lo=a₀.size))) st3:=by
   intro u n st3 n1 n2 hP3 hs3
   refine wpS_bind (wpS_get ?_)
   extract_lets-underBinder+onlyGivenNames jp2
   have hjp2:∀(u:Unit) st4 rs',Pd a₀ lo rs' st4->Srt (arrOf st4) lo (lo+n)->
    wpS (model prog w) A E s (jp2 u) (SQ (fun c st'=>∃rs,c=(none,a₀.size)∧Pd a₀ a₀.size rs st')
     (fun c st'=>∃lo rs,c=(none,lo)∧Pd a₀ lo rs st'∧(x+1≤lo∨lo=a₀.size))) st4:=by
    intro u st4 rs' hP4 hs4
    refine wpS_bind (wpS_modify (wpS_pure ⟨lo+n,rs'++[(lo,n,0)],rfl,⟨⟨hP4.base.perm,hP4.base.kind,hP4.base.fail⟩,?_,?_,n2⟩,by omega⟩))
    ·show (pendingOf st4).push (lo,n,0)=_
     rw [hP4.pend];simp
    ·exact Run.app.mpr ⟨lo,hP4.run,rfl,n1,hs4,rfl⟩
   cases hb:(pendingOf st3).back? with
   | none=>
    exact hjp2 () st3 rs hP3 hs3
   | some r=>
    obtain ⟨s1,l1,p1⟩:=r
    refine wpS_bind (wpS_mono (zef
     (I:=fun x c st4=>c=(none,())∧∃rs',Pd a₀ lo rs' st4∧Srt (arrOf st4) lo (lo+n))
     (Q:=fun c st4=>c=(none,())∧∃rs',Pd a₀ lo rs' st4∧Srt (arrOf st4) lo (lo+n)) ?_ (fun c st4 hh=>hh) ⟨rfl,rs,hP3,hs3⟩) ?_)
    ·rintro x' c st4 _ ⟨rfl,rs',hP4,hs4⟩
     refine wpS_bind (wpS_get ?_)
     have hsz:(pendingOf st4).size=rs'.length:=by rw [hP4.pend];simp
     dsimp only
     by_cases c2:(pendingOf st4).size>1
     ·rw [if_pos c2]
      cases hq:(pendingOf st4)[(pendingOf st4).size-2]? with
      | none=>exact wpS_pure ⟨rfl,rs',hP4,hs4⟩
      | some r=>
       obtain ⟨x1,x2,older⟩:=r
       dsimp only
       split
       ·exact wpS_pure ⟨rfl,rs',hP4,hs4⟩
       ·refine wpS_bind (zn5 h0 hP4 (by show (pendingOf st4).size-2+1<_;omega) fun rs5 st5 hP5 _ hk=>?_)
        refine wpS_pure ⟨rfl,rs5,hP5,fun i j i1 i2 i3=>?_⟩
        rw [hk i i1,hk j (by omega)];exact hs4 i j i1 i2 i3
     ·rw [if_neg c2]
      exact wpS_pure ⟨rfl,rs',hP4,hs4⟩
    ·rintro c st4 ⟨rfl,rs',hP4,hs4⟩
     refine wpS_bind (wpS_modify (hjp2 () _ (rs'.modify (rs'.length-1) fun r=>(r.1,r.2.1,power' (arrOf st).size (2*s1+l1) (2*s1+l1+l1+n) (arrOf st).size)) ⟨⟨hP4.base.perm,hP4.base.kind,hP4.base.fail⟩,?_,?_,hP4.top⟩ hs4))
     ·refine (fun (H:(pendingOf st4).modify ((pendingOf st4).size-1) (fun r=>(r.1,r.2.1,power' (arrOf st).size (2*s1+l1) (2*s1+l1+l1+n) (arrOf st).size))=_)=>H) ?_
      rw [hP4.pend]
      apply Array.toList_inj.mp
      simp
     ·exact hP4.run.same (zhz (f:=fun r=>(r.1,r.2.1,power' (arrOf st).size (2*s1+l1) (2*s1+l1+l1+n) (arrOf st).size)) (fun _=>rfl) _ _).symm
  by_cases c2:m<minRun' (arrOf st).size (arrOf st).size 0
  ·refine zbo (c:=m<minRun' (arrOf st).size (arrOf st).size 0) c2 ?_
   refine wpS_bind (wpS_lift (wpAny_rule ⟨rfl,?_⟩))
   refine wpS_bind (ztf h0 hg.base (n:=min ((arrOf st).size-lo) (minRun' (arrOf st).size (arrOf st).size 0)) (by omega) m1 (by omega) hs fun st3 hg3 hs3=>?_)
   exact hjp () (min ((arrOf st).size-lo) (minRun' (arrOf st).size (arrOf st).size 0)) st3 (by omega) (by omega) ⟨hg3.base,hg3.pend.trans hP2.pend,hP2.run.congr fun m _ m2=>hg3.low m m2,hP2.top⟩ hs3
  ·refine zch (c:=m<minRun' (arrOf st).size (arrOf st).size 0) c2 ?_
   exact hjp () m st2 m1 (by omega) hP2 hs
 case after=>
  rintro c st' ⟨rs,rfl,hP⟩
  refine (fun (H:wpS (model prog w) A E s _ Q st')=>H) ?_
  dsimp only
  have hlen:=hP.run.le
  refine wpS_bind (wpS_mono (zef
   (I:=fun x c st4=>c=(none,())∧∃rs',Pd a₀ a₀.size rs' st4∧(rs'.length+x≤a₀.size∨rs'.length≤1))
   (Q:=fun c st4=>c=(none,())∧∃rs',Pd a₀ a₀.size rs' st4∧rs'.length≤1) ?_ ?_ ⟨rfl,rs,hP,.inl (by omega)⟩) ?_)
  ·rintro x' c st4 _ ⟨rfl,rs',hP4,hl4⟩
   refine wpS_bind (wpS_get ?_)
   have hsz:(pendingOf st4).size=rs'.length:=by rw [hP4.pend];simp
   by_cases c2:(pendingOf st4).size≤1
   ·rw [if_pos c2]
    exact wpS_pure ⟨rfl,rs',hP4,by omega⟩
   rw [if_neg c2]
   refine wpS_bind (zn5 h0 hP4 ?_ fun rs5 st5 hP5 hl5 _=>wpS_pure ⟨rfl,rs5,hP5,by omega⟩)
   have key:∀j,j≤(pendingOf st4).size-2->j+1<rs'.length:=by omega
   refine key _ ?_
   repeat' split
   all_goals first
    | exact ZAc _
    | exact Nat.sub_le _ _
  ·rintro c st4 ⟨rfl,rs',hP4,hl4⟩
   change rs'.length+(arrOf st).size≤a₀.size∨rs'.length≤1 at hl4
   exact ⟨rfl,rs',hP4,by omega⟩
  ·rintro c st4 ⟨rfl,rs',hP4,hl4⟩
   refine wpS_pure (h st4 hP4.base.perm hP4.base.fail ?_)
   have hr:=hP4.run
   match rs',hl4,hr with
   | [],_,hr=>unfold Run at hr;omega
   | [r],_,⟨_,_,e1,e2⟩=>
    unfold Run at e2
    intro i j i0 i1 i2
    exact e1 i j i0 i1 (by omega)
end
end TS
namespace TS
open PySem PyProof PyProof.Rows
section
variable {prog:Program} {w:World} {k:Type} [DecidableEq k] {knd:KeyKind prog w k} {A:Around} {E:Value->Shared->Prop} {s:Shared}
theorem zlc {d:Addr} {kvs:List (k×Value)} {ep:Nat} {Q:List Value->Shared->Prop} (hh:A.handled=none) (hd:(d==sysModules)=false) (hm:s.heap.DictAt knd d kvs ep) (hn:kvs.length≤sizeLine)
 (hQ:∀s' acc,(∀b o,s.heap.get? b=some o->s'.heap.get? b=some o)->s'.gens=s.gens->s'.drawn=s.drawn->s'.os=s.os->s.toks≤s'.toks->
  ItemsOf (fun i v=>∃key x,kvs[i]?=some (key,x)∧knd.is key v=true) acc kvs.length->Q acc.toList s'):wpAny (model prog w) A (collect (.ref d)) Q E s:=by
 let L:Obj:={ cls:=.type "list",data:=.seq ([]:List Value).toArray }
 have hdlt:=hm.lt_size
 have hSd:s.heap.objs.size≠d:=Nat.ne_of_gt hdlt
 unfold collect
 refine wpAny_bind (wpAny_runValue (codeAny_builtin F.entry_proto_collect ?_))
 rw [Around.under_plainId F.plain_proto_collect _]
 refine (show wpAny _ A.in1 (newList []>>=fun l=>again (.builtin "list.__iadd__" ⟨[l,.ref d],[]⟩)) _ _ s from wpAny_bind (wpAny_newObj_type (wpAny_pure ⟨plainId_quiet F.plain_list_iadd _,codeAny_builtin F.entry_list_iadd ?_⟩)))
 rw [Around.under_plainId F.plain_list_iadd _]
 have hm1:(s.heap.push L).DictAt knd d kvs ep:=hm.push _
 have hT:({ s with heap:=s.heap.push L }:Shared).TypeIs (.ref d) "dict":=hm1.dictOf.typeIs (s:={ s with heap:=s.heap.push L })
 have hS:(s.heap.push L).get? s.heap.objs.size=some L:=ZAx _ rfl
 refine (show wpAny _ A.in1 (Builtin.List.listExtendWith (.ref s.heap.objs.size) (.ref d) (.ref s.heap.objs.size)) _ _ { s with heap:=s.heap.push L } from ?_)
 unfold Builtin.List.listExtendWith
 refine wpAny_bind (wpAny_typeOf hT ?_)
 rw [if_neg (by rw [show Builtin.List.listSameRef (.ref s.heap.objs.size) (.ref d)=false by simp [Builtin.List.listSameRef,hSd]];decide)]
 refine wpAny_bind (wpAny_pyIter_dict hd hm1 (wpAny_bind (wpAny_holding ?_)))
 unfold Builtin.List.listLengthHint
 let I:Addr:=(s.heap.push L).objs.size
 let h2:Heap:=(s.heap.push L).push { cls:=.type "dict_keyiterator",data:=.fields #[.ref d,.int 0 0,.int kvs.length 0,.int ep 0] }
 have hm2:h2.DictAt knd d kvs ep:=hm1.push _
 have hT2:({ s with heap:=h2 }:Shared).TypeIs (.ref d) "dict":=hm2.dictOf.typeIs (s:={ s with heap:=h2 })
 refine wpAny_bind (wpAny_specialOf (name:=Str.ofString "__len__") hT2 F.slot_dict_len.lookup ?_)
 generalize hid:("dict.__len__":String)=id0
 (fail_if_success (clear hid id0))
 wp_delta
 rw [show splitId id0=some ("dict","__len__") from by subst hid;decide+kernel]
 subst hid
 refine wpAny_bind (wpAny_isInstance (b:=true) hT2 (by rw [isSubtype_type];kernel_rfl) ?_)
 rw [if_neg (by decide)]
 refine (fun (H:wpAny (model prog w) A.in1 (ite _ _ _) _ _ _)=>H) ?_
 rw [if_pos (by decide+kernel)]
 refine wpAny_bind (wpAny_typeOf hT2 (wpAny_pure ?_))
 rw [if_pos (by decide+kernel)]
 let S:Addr:=s.heap.objs.size
 have hSI:S≠I:=ZAz (show s.heap.objs.size<(s.heap.push L).objs.size by rw [size_push'];exact Nat.lt_succ_self _)
 have hdI:d≠I:=ZAz (show d<(s.heap.push L).objs.size by rw [size_push'];exact Nat.lt_succ_of_lt hdlt)
 have hS2:h2.get? S=some L:=ZAe _ hS
 have hS3:=Heap.get?_update_self (Obj.mapSeq (·.push Value.none)) hS2 rfl
 have hS4:=Heap.get?_update_self (Obj.mapSeq (·.pop)) hS3 rfl
 have oth:∀b o,b≠S->h2.get? b=some o->((h2.update S (Obj.mapSeq (·.push Value.none))).update S (Obj.mapSeq (·.pop))).get? b=some o:=
  fun b o hb e=>(Heap.get?_update_other _ _ (Ne.symm hb)).trans ((Heap.get?_update_other _ _ (Ne.symm hb)).trans e)
 have W:=(Walks.dictKeys (knd:=knd) (prog:=prog) (w:=w) (A:=A.in1) hh I d hdI kvs ep).toS
 have hit2:h2.IsKeyIter I d 0 kvs.length ep:=⟨_,ZAx _ rfl,rfl,rfl⟩
 refine wpAny_bind (wpAny_rule (wpAny_bind (show wpAny _ A.in1 (updateSeq S (·.push .none)>>=fun _=>updateSeq S (·.pop)) _ _ { s with heap:=h2 } from wpAny_bind (wpAny_updateSeq (s:={ s with heap:=h2 }) hS2 rfl (wpAny_updateSeq (s:={ s with heap:=h2.update S (Obj.mapSeq (·.push Value.none)) }) hS3 rfl ?_)))))
 refine wpAny_pure ⟨plainId_quiet F.plain_extend_loop _,codeAny_extend_loopS W hn S (fun z=>(ZAu.mp z).elim hSI fun z=>hSd (ZAt.mp z)) _ kvs.length 0 _ _ _ rfl (ZAq _)
  ⟨hit2.at fun o e=>oth _ _ (Ne.symm hSI) e,hm2.at' fun o e=>oth _ _ (Ne.symm hSd) e⟩ hS4 (ItemsOf.nil _) fun s' acc c hmv hS' hacc=>?_⟩
 refine (show wpAny _ A (load S>>=_) _ _ s' from wpAny_bind (wpAny_load hS' (wpAny_pure (hQ s' acc (fun b o e=>?_) hmv.gens hmv.drawn hmv.os hmv.toks hacc))))
 have hb:b<s.heap.objs.size:=ZAs e
 refine hmv.heap b o (fun z=>?_) (oth b o (ZAz hb) (ZAe _ (ZAe _ e)))
 rcases ZAu.mp z with z | z
 ·exact ZAz hb z
 ·have z:=ZAt.mp z
  have e2:I=s.heap.objs.size+1:=size_push' _ _
  exact ZBi _ (ZA2 hb (by rw [z,e2];exact Nat.le_succ _))
end
end TS
namespace TS
open PySem PyProof PyProof.Rows
theorem zmg (vs:List Value):(vs.toArray.zip vs.toArray).toList=vs.map fun v=>(v,v):=by
 rw [Array.toList_zip]
 show vs.zip vs=_
 induction vs with
 | nil=>rfl
 | cons v r ih=>simp [ih]
section
variable [SK] {prog:Program} {w:World} {A:Around} {E:Value->Shared->Prop} {s:Shared}
theorem zv0 {vs:List Value} {X:Array Keyed} (hp:X.Perm (vs.toArray.zip vs.toArray)) (hs:Srt X 0 (vs.toArray.zip vs.toArray).size):
 (X.map (·.2)).toList.Perm vs∧(X.map (·.2)).toList.Pairwise fun u v=>N (u,u)≤N (v,v):=by
 have hpl:=Array.perm_iff_toList_perm.mp hp
 rw [zmg] at hpl
 have hsz:X.size=(vs.toArray.zip vs.toArray).size:=hp.size_eq
 have hdiag:∀p∈X.toList,p=(p.2,p.2):=fun p hm=>by
  obtain ⟨v,_,rfl⟩:=ZA7.mp (hpl.mem_iff.mp hm)
  rfl
 rw [Array.toList_map]
 refine ⟨by simpa [List.map_map,Function.comp_def] using hpl.map (·.2),?_⟩
 rw [List.pairwise_map,ZA9]
 intro i j hi hj hij
 have hi':i<X.size:=by simpa using hi
 have hj':j<X.size:=by simpa using hj
 have:=hs i j (ZAq _) (ZAr hij) (hsz▸hj')
 rw [zgq (getElem?_pos X i hi'),zgq (getElem?_pos X j hj')] at this
 rw [←hdiag _ (ZBj hi),←hdiag _ (ZBj hj)]
 exact this
theorem zjt {a:Addr} {vs:List Value} {n:Nat} {P:PySem.Fin->Shared->Prop} (ho:s.heap.get? a=some (seqObj "list" vs.toArray n)) (hz:vs.length≤sizeLine)
 (hkind:2≤vs.length->∀(h':Heap) (Q:SortKind->Shared->Prop),(∀b o,b≠a->s.heap.get? b=some o->h'.get? b=some o)->Q SK.kind { s with heap:=h' }->
  wpAny (model prog w) A (keyKind' vs.toArray) Q E { s with heap:=h' })
 (hlt:∀h':Heap,(∀b o,b≠a->s.heap.get? b=some o->h'.get? b=some o)->LtOk prog w A E { s with heap:=h' })
 (hok:∀v∈vs,isN (v,v))
 (h:∀out:Array Value,out.toList.Perm vs->(out.toList.Pairwise fun u v=>N (u,u)≤N (v,v))->P (.done (.ret .none)) { s with heap:=sortedHeap s.heap a vs out }):
 wpAny (model prog w) A (Builtin.«list.sort» ⟨[.ref a],[]⟩) P E s:=by
 rw [list_sort_plain]
 have ha:a<s.heap.objs.size:=ZAs ho
 obtain ⟨e1,ho1⟩:∃e1,(s.heap.update a (Obj.mapSeq fun _=> #[])).get? a=some (seqObj "list" #[] e1):=⟨_,get?_update_seq ho (fun _=> #[])⟩
 let h3:Heap:=((s.heap.update a (Obj.mapSeq fun _=> #[])).push (seqObj "tuple" vs.toArray 0)).push (seqObj "list" #[] 0)
 have keep:∀b o,b≠a->s.heap.get? b=some o->h3.get? b=some o:=fun b o hb e=>
  ZAe _ (ZAe _ ((Heap.get?_update_other _ _ (Ne.symm hb)).trans e))
 have ho3:h3.get? a=some (seqObj "list" #[] e1):=ZAe _ (ZAe _ ho1)
 have hsz:vs.toArray.size=vs.length:=by simp
 refine wpAny_bind (listItems_at ho rfl (wpAny_bind (listUpdate_at ho rfl (wpAny_bind (seqEpoch_at ho1 rfl (wpAny_bind (wpAny_newTuple (wpAny_bind (wpAny_newList (wpAny_holding ?_) (ZAq _))) hz)))) (by rw [hsz];exact hz) (ZAq _))))
 have fin:∀st':SortSt,(arrOf st').Perm (vs.toArray.zip vs.toArray)->failedOf st'=none->Srt (arrOf st') 0 (vs.toArray.zip vs.toArray).size->
  wpAny (model prog w) A (do
   let touched:=(←seqEpoch a) !=e1
   Builtin.List.listUpdate (.ref a) fun _=>(arrOf st').map (·.2)
   if let some e:=failedOf st' then rule "list.sort.comparison-raised";throw e
   if touched then rule "list.sort.modified";raiseError "ValueError" "list modified during sort"
   ret .none) P E { s with heap:=h3 }:=by
  intro st' hp hf hs
  obtain ⟨o1,o2⟩:=zv0 hp hs
  refine wpAny_bind (seqEpoch_at ho3 rfl (wpAny_bind (listUpdate_at ho3 rfl ?_ (ZAq _) ?_)))
  ·rw [hf]
   simp only [bne_self_eq_false,Bool.false_eq_true,if_false]
   exact wpAny_pure (h _ o1 o2)
  ·have:=o1.length_eq
   rw [Array.length_toList] at this
   exact Nat.le_succ_of_le (this▸hz)
 refine (show wpAny (model prog w) A _ P E { s with heap:=h3 } from ?_)
 by_cases h2:vs.toArray.size<2
 ·dsimp only
  rw [if_pos h2,if_pos h2]
  refine wpAny_bind (wpAny_pure ?_)
  rw [StateT.run_pure]
  refine wpAny_bind (wpAny_pure (fin (SortSt.mk' general' (vs.toArray.zip vs.toArray) #[] 7 none) (Array.Perm.refl _) rfl ?_))
  intro i j _ hij hj
  obtain rfl:i=j:=by simp at hj;omega
  exact Int.le_refl _
 ·dsimp only
  rw [if_neg h2,if_neg h2]
  refine wpAny_bind (hkind (by omega) h3 _ keep ?_)
  have:=hlt h3 keep
  refine wpAny_bind (wpAny_mono (zte (s:={ s with heap:=h3 }) (a₀:=vs.toArray.zip vs.toArray) (st:=SortSt.mk' SK.kind (vs.toArray.zip vs.toArray) #[] 7 none)
   (Q:=fun _ st'=>(arrOf st').Perm (vs.toArray.zip vs.toArray)∧failedOf st'=none∧Srt (arrOf st') 0 (vs.toArray.zip vs.toArray).size)
   (fun p hp=>?_) ⟨Array.Perm.refl _,rfl,rfl⟩ rfl (by simp;omega) fun st' a1 a2 a3=>⟨a1,a2,a3⟩) ?_ fun _ _ e=>e)
  ·rw [zmg] at hp
   obtain ⟨v,hv,rfl⟩:=ZA7.mp hp
   exact hok v hv
  ·rintro ⟨⟨⟩,st'⟩ s' ⟨rfl,hp,hf,hs⟩
   exact fin st' hp hf hs
end
section
variable {prog:Program} {w:World} {A:Around} {E:Value->Shared->Prop} {s:Shared}
theorem zit {x:Value} {Q:Value->Shared->Prop} {R:Shared->List Value->Prop}
 (hc:wpAny (model prog w) A.in1 (collect x) (fun vs s1=>R s1 vs) E s)
 (h:∀s1 vs,R s1 vs->wpAny (model prog w) A.in1 (newList vs>>=fun l=>holding [l] (call (.builtin "list.sort") [l])>>=fun _=>ret l) (fun fin s'=>∃r,fin=.done (.ret r)∧Q r s') E s1):
 wpAny (model prog w) A (call (.builtin "sorted") [x]) Q E s:=by
 refine Calls.call_function_entry kind_sorted plain_sorted entry_sorted (args_sorted1 _) ?_
 unfold Builtin.«sorted»
 refine wpAny_bind (m:=checkCount "sorted" 1 1 _) (wpAny_pure ?_)
 refine wpAny_bind (wpAny_mono hc (fun vs s1 hr=>h s1 vs hr) fun _ _ e=>e)
end
end TS
namespace TS
open PySem PyProof PyProof.Rows
@[reducible] noncomputable def skI:SK:=⟨fun p=>numOf p.1,fun p=>∃n t,p.1=.int n t,oneType'⟩
theorem ltI {prog:Program} {w:World} {A:Around} {E:Value->Shared->Prop} {s:Shared}: @LtOk skI prog w A E s:=by
 refine @LtOk.mk skI prog w A E s ?_
 rintro st p q Q hk ⟨n,t,hp⟩ ⟨n',t',hq⟩ h
 have e1: @N skI p=n:=by show numOf p.1=n;rw [hp];rfl
 have e2: @N skI q=n':=by show numOf q.1=n';rw [hq];rfl
 rw [e1,e2] at h
 rw [lt'_eq,hp,hq]
 refine wpS_bind (wpS_get ?_)
 rw [show kindOf st=oneType' from hk,keyLt'_oneType]
 exact wpS_bind (wpS_lift (wpAny_attempt (oneLt_int ⟨rfl,wpS_pure h⟩)))
theorem zx0 {prog:Program} {w:World} {A:Around} {E:Value->Shared->Prop} {s:Shared} {vs:List Value} {ns:List Int} {Q:SortKind->Shared->Prop} (hI:IntsAre vs ns) (h2:2≤vs.length) (h:Q oneType' s):wpAny (model prog w) A (keyKind' vs.toArray) Q E s:=by
 match vs,h2,hI with
 | v₁::v₂::r,_,hI=>rw [keyKind_ints hI];exact wpAny_pure h
section
variable [SK] {prog:Program} {w:World} {A:Around} {E:Value->Shared->Prop} {s:Shared}
theorem zms {vs:List Value} {Q:Value->Shared->Prop} (hz:vs.length≤sizeLine)
 (hkind:2≤vs.length->∀(A:Around) (E:Value->Shared->Prop) (h':Heap) (Q:SortKind->Shared->Prop),(∀b o,s.heap.get? b=some o->h'.get? b=some o)->Q SK.kind { s with heap:=h' }->
  wpAny (model prog w) A (keyKind' vs.toArray) Q E { s with heap:=h' })
 (hlt:∀(A:Around) (E:Value->Shared->Prop) (h':Heap),(∀b o,s.heap.get? b=some o->h'.get? b=some o)->LtOk prog w A E { s with heap:=h' })
 (hok:∀v∈vs,isN (v,v))
 (h:∀(out:Array Value) (h':Heap),out.toList.Perm vs->(out.toList.Pairwise fun u v=>N (u,u)≤N (v,v))->(∀b o,s.heap.get? b=some o->h'.get? b=some o)->
  (∃e,h'.get? s.heap.objs.size=some (seqObj "list" out e))->Q (.ref s.heap.objs.size) { s with heap:=h' }):
 wpAny (model prog w) A (newList vs>>=fun l=>holding [l] (call (.builtin "list.sort") [l])>>=fun _=>ret l) (fun fin s'=>∃r,fin=.done (.ret r)∧Q r s') E s:=by
 let h1:Heap:=s.heap.push (seqObj "list" vs.toArray 0)
 have hoL:h1.get? s.heap.objs.size=some (seqObj "list" vs.toArray 0):=ZAx _ rfl
 have up:∀(h':Heap),(∀b o,b≠s.heap.objs.size->h1.get? b=some o->h'.get? b=some o)->∀b o,s.heap.get? b=some o->h'.get? b=some o:=fun h' hk b o e=>
  hk b o (ZAz (ZAs e)) (ZAe _ e)
 refine wpAny_bind (wpAny_newList ?_ hz)
 refine wpAny_bind (wpAny_holding (wpAny_call_entry (s:={ s with heap:=h1 }) slot_list_sort ⟨_,hoL,rfl⟩ entry_list_sort (zjt hoL hz (fun h2 h' Q hk hq=>hkind h2 _ _ h' Q (up h' hk) hq) (fun h' hk=>hlt _ _ h' (up h' hk)) hok fun out o1 o2=>⟨_,rfl,?_⟩) (args_list_sort _)))
 refine wpAny_pure ⟨_,rfl,h out _ o1 o2 (fun b o e=>?_) (sortedHeap_at hoL)⟩
 have hb:b<s.heap.objs.size:=ZAs e
 rw [sortedHeap_old (ZAz hb) (show b<h1.objs.size by show b<(s.heap.push _).objs.size;rw [size_push'];exact Nat.lt_succ_of_lt hb)]
 exact ZAe _ e
end
end TS
namespace L2
open PySem PySem.Spec PyProof.Rows TS
theorem zm6:∀{us:List Value} {ns:List Int},us.length=ns.length->(∀(j:Nat) v i,us[j]?=some v->ns[j]?=some i->∃t,v=.int i t)->IntsAre us ns
 | [],[],_,_=>.nil
 | u::us,n::ns,hl,h=>by
  obtain ⟨t,rfl⟩:=h 0 u n rfl rfl
  exact .cons _ _ (zm6 (by simpa using hl) fun j v i e1 e2=>h (j+1) v i (by simpa using e1) (by simpa using e2))
 | [],_::_,hl,_=>by simp at hl
 | _::_,[],hl,_=>by simp at hl
theorem zfb:∀{us:List Value} {ns:List Int},IntsAre us ns->us.map numOf=ns∧∀u∈us,∃n t,u=.int n t
 | _,_,.nil=>⟨rfl,fun _ h=>nomatch h⟩
 | _,_,.cons n t h=>by
  obtain ⟨a,b⟩:=zfb h
  refine ⟨by rw [ZAv,a];rfl,fun u hu=>?_⟩
  rcases ZAu.mp hu with rfl | hu
  ·exact ⟨n,t,rfl⟩
  ·exact b u hu
theorem zkd:∀{us:List Value},(∀u∈us,∃n t,u=.int n t)->zcb ((us.map numOf).map V.int) us
 | [],_=>.nil
 | u::us,h=>by
  obtain ⟨n,t,rfl⟩:=h u ZAl
  exact .cons ⟨t,rfl⟩ (zkd fun v hv=>h v (ZAk _ hv))
theorem Inv.at_ {X:Cx} {pins:List (Addr×Obj)} {σ:St} {H:Hp} {s s1:Shared} (I:Inv X pins σ H s) (k:∀b o,s.heap.get? b=some o->s1.heap.get? b=some o) (hg:s1.gens=s.gens) (hd:s1.drawn=s.drawn) (ho:s1.os=s.os):Inv X pins σ H s1:=by
 have e:s1={ s with heap:=s1.heap,toks:=s1.toks }:=by
  obtain ⟨h1,g1,d1,t1,o1⟩:=s1
  cases hg;cases hd;cases ho
  rfl
 rw [e]
 exact I.kept (t':=s1.toks) k
section
variable {X:Cx}
theorem zld (hc:X.calm=true):zig X (.builtin "sorted") (fun xs H Q=>∃(p:Addr) (kvs:List (Key×V)) (ns:List Int),xs=[.ref p]∧H p=some (.dK kvs)∧kvs.map (·.1)=ns.map Sum.inl∧
 ∀(l:Addr) (ns':List Int),H l=none->ns'.Perm ns->ns'.Pairwise (·≤·)->Q (.ref l) (upd H l (.lst (ns'.map V.int)))):=by
 intro pins s σ H xs us Q I r h
 obtain ⟨p,kvs,ns,rfl,hp,hns,q⟩:=h
 obtain ⟨u,rfl,ru⟩:=znf r
 cases ru
 obtain ⟨hz,hs,vs,hv,hD⟩:=(show zcd X.prog X.w H s.heap p (.dK kvs) from I.hok p _ hp)
 obtain ⟨ep,hat⟩:=hD.dictAt
 have hlv:kvs.length=vs.length:=Paired.length hv
 have hln:kvs.length=ns.length:=by have:=congrArg List.length hns;simpa using this
 refine zit (R:=fun s1 us=>Inv X pins σ H s1∧(∀b o,s.heap.get? b=some o->s1.heap.get? b=some o)∧IntsAre us ns) (zlc (I.ok.hd hc) hs hat (by omega) fun s1 acc k hg hd ho ht hi=>?_) ?_
 ·refine ⟨I.at_ k hg hd ho,k,zm6 (by rw [Array.length_toList,hi.1];omega) fun j v i e1 e2=>?_⟩
  obtain ⟨key,x,g1,g2⟩:=hi.2 j v (by simpa using e1)
  have hk:(kvs.map (·.1))[j]?=some (Sum.inl i):=by rw [hns,ZAg,e2];rfl
  rw [ZAg] at hk
  cases hkv:kvs[j]? with
  | none=>rw [hkv] at hk;cases hk
  | some kv=>
   rw [hkv] at hk
   obtain ⟨y,hy,ey,_⟩:=zkw hv hkv
   rw [g1] at hy
   cases hy
   have e:kv.1=Sum.inl i:=ZAn hk
   rw [e] at ey
   subst ey
   rcases zb3 (show zl2 (Sum.inl i) v=true from g2) with ⟨i',t,e3,rfl⟩ | ⟨x',t,e3,rfl⟩
   ·cases e3;exact ⟨t,rfl⟩
   ·cases e3
 ·rintro s1 us ⟨I1,k1,hI⟩
  have hul:us.length=ns.length:=by rw [←(zfb hI).1];simp
  refine @zms skI X.prog X.w _ _ s1 us _ (by omega) (fun h2 A E h' Q hk hq=>zx0 (s:={ s1 with heap:=h' }) hI h2 hq) (fun A E h' hk=>ltI) (fun v hv=>?_) fun out h' o1 o2 k2 he=>?_
  ·obtain ⟨n,t,e⟩:=(zfb hI).2 v hv
   exact ⟨n,t,e⟩
  ·obtain ⟨e,he⟩:=he
   have hall:∀u∈out.toList,∃n t,u=Value.int n t:=fun u hu=>(zfb hI).2 u (o1.mem_iff.mp hu)
   have fr:H s1.heap.objs.size=none:=I1.hok.fresh (ZAc _)
   have hpm:(out.toList.map numOf).Perm ns:=by rw [←(zfb hI).1];exact o1.map numOf
   refine ⟨.ref s1.heap.objs.size,_,I1.laid (t':=s1.toks) k2 (ZAc _) (show zcd X.prog X.w _ h' _ (.lst ((out.toList.map numOf).map V.int)) from ⟨?_,out.toList,e,zkd hall,by rw [he]⟩),rfl,q _ _ fr hpm ?_⟩
   ·rw [ZAa,hpm.length_eq];omega
   ·rw [List.pairwise_map];exact o2
end
end L2
namespace L2
open PySem PySem.Spec PyProof.Rows TS
noncomputable def tri (a b m:Int):HO:=.tup [.int a,.int b,.int m]
noncomputable def cod (H:Hp):Value->Int
 | .ref q=>match H q with
  | some (.tup [.int a,.int b,_])=>a*64+b
  | _=>0
 | _=>0
@[reducible] noncomputable def skT (H:Hp) (g:Int->Int->Int):SK:=
 ⟨fun p=>cod H p.1,fun p=>∃q a b,p.1=.ref q∧H q=some (tri a b (g a b))∧0≤a∧a<64∧0≤b∧b<64,tuples' true⟩
theorem zia {H:Hp} {q:Addr} {a b m:Int} (h:H q=some (tri a b m)):cod H (.ref q)=a*64+b:=by
 show (match H q with | some (.tup [.int a,.int b,_])=>a*64+b | _=>0)=_
 rw [h];rfl
section
variable {prog:Program} {w:World} {A:Around} {E:Value->Shared->Prop} {s:Shared} {H:Hp} {g:Int->Int->Int}
noncomputable def zut (H:Hp) (h:Heap):Prop:=∀q a b m,H q=some (tri a b m)->∃t1 t2 t3 o n,h.get? q=some o∧o.cls=.type "tuple"∧o.data=.seq #[.int a t1,.int b t2,.int m t3] n
theorem zut.keep {h h':Heap} (x:zut H h) (k:∀b o,h.get? b=some o->h'.get? b=some o):zut H h':=fun q a b m e=>
 let ⟨t1,t2,t3,o,n,e1,e2⟩:=x q a b m e;⟨t1,t2,t3,o,n,k _ _ e1,e2⟩
theorem ztj {P:Program} {w:World} {h:Heap} (ok:HOk P w H h):zut H h:=fun q a b m e=>by
 obtain ⟨_,its,hv,o,e1,e2,n,e3⟩:=(show zcd P w H h q (tri a b m) from ok q _ e)
 rcases hv with _ | ⟨⟨t1,rfl⟩,hv⟩
 rcases hv with _ | ⟨⟨t2,rfl⟩,hv⟩
 rcases hv with _ | ⟨⟨t3,rfl⟩,hv⟩
 cases hv
 exact ⟨t1,t2,t3,o,n,e1,e2,e3⟩
theorem ltT (ht:zut H s.heap): @LtOk (skT H g) prog w A E s:=by
 refine @LtOk.mk (skT H g) prog w A E s ?_
 rintro st p q Q hk ⟨x,a,b,hp,hx,a0,a1,b0,b1⟩ ⟨y,a',b',hq,hy,a0',a1',b0',b1'⟩ h
 have e1: @N (skT H g) p=a*64+b:=by show cod H p.1=_;rw [hp,zia hx]
 have e2: @N (skT H g) q=a'*64+b':=by show cod H q.1=_;rw [hq,zia hy]
 rw [e1,e2] at h
 obtain ⟨t1,t2,t3,ox,n,ox1,_,ox2⟩:=ht x _ _ _ hx
 obtain ⟨u1,u2,u3,oy,n',oy1,_,oy2⟩:=ht y _ _ _ hy
 rw [lt'_eq,hp,hq]
 refine wpS_bind (wpS_get ?_)
 rw [show kindOf st=tuples' true from hk]
 refine wpS_bind (wpS_lift (wpAny_attempt (PySem.W.kat_lt ox1 ox2 oy1 oy2 ?_)))
 show PySem.W.KatLex prog w A true (decide (3<3)) _ [(.int a t1,.int a' u1),(.int b t2,.int b' u2),(.int (g a b) t3,.int (g a' b') u3)] 0 s
 refine PySem.W.kat_cons (wpAny_eqBool_int (PySem.W.kat_go (fun e=>PySem.W.kat_yes ?_) fun e=>PySem.W.kat_no ?_))
 ·have ea:a=a':=by simpa using e
  subst ea
  refine PySem.W.kat_cons (wpAny_eqBool_int (PySem.W.kat_go (fun e=>PySem.W.kat_yes ?_) fun e=>PySem.W.kat_no ?_))
  ·have eb:b=b':=by simpa using e
   subst eb
   refine PySem.W.kat_cons (wpAny_eqBool_int (PySem.W.kat_go (fun e=>PySem.W.kat_yes (PySem.W.kat_nil ⟨rfl,wpS_pure ?_⟩)) fun e=>absurd e (by simp)))
   have:decide (a*64+b<a*64+b)=decide (3<3):=by simp
   rw [←this];exact h
  ·have:decide (a*64+b<a*64+b')=decide (b<b'):=by
    by_cases hb:b<b'
    ·rw [ZBo hb,ZBo (by omega)]
    ·rw [ZBp hb,ZBp (by omega)]
   rw [this] at h
   exact PySem.W.kat_one _ _ (lt_int (show _ from ⟨rfl,wpS_pure h⟩))
 ·have ea:a≠a':=by simpa using e
  have:decide (a*64+b<a'*64+b')=decide (a<a'):=by
   by_cases hb:a<a'
   ·rw [ZBo hb,ZBo (by omega)]
   ·rw [ZBp hb,ZBp (by omega)]
  rw [this] at h
  exact oneLt_int ⟨rfl,wpS_pure h⟩
theorem zk2 (ht:zut H s.heap) {vs:List Value} {Q:SortKind->Shared->Prop} (hv:∀v∈vs,@isN (skT H g) (v,v)) (h2:2≤vs.length) (h:Q (tuples' true) s):wpAny (model prog w) A (keyKind' vs.toArray) Q E s:=by
 have key:∀l:List Value,(∀v∈l,@isN (skT H g) (v,v))->∃fs,PySem.W.KatTups s.heap l fs∧fs.length=l.length∧∀f∈fs,∃n t,f=Value.int n t:=by
  intro l
  induction l with
  | nil=>exact fun _=>⟨[],PySem.W.KatTups.nil,rfl,fun _ h=>nomatch h⟩
  | cons v r ih=>
   intro hl
   obtain ⟨fs,k1,k2,k3⟩:=ih fun v hv=>hl v (ZAk _ hv)
   obtain ⟨q,a,b,e,hq,_⟩:=hl v ZAl
   obtain rfl:v=.ref q:=e
   obtain ⟨t1,t2,t3,o,n,e1,e2,e3⟩:=ht q _ _ _ hq
   refine ⟨.int a t1::fs,PySem.W.KatTups.cons e1 e2 e3 rfl k1,by simp [k2],fun f hf=>?_⟩
   rcases ZAu.mp hf with rfl | hf
   ·exact ⟨a,t1,rfl⟩
   ·exact k3 f hf
 obtain ⟨fs,k1,k2,k3⟩:=key vs hv
 exact PySem.W.kat_kind (T:=.type "int") k1 (by omega) (fun v hv=>by obtain ⟨n,t,rfl⟩:=k3 v hv;exact PySem.W.Looks.of_pure rfl) (by decide) h
end
section
variable {X:Cx}
theorem zo5:∀{ps:List Addr} {us:List Value},zcb (ps.map V.ref) us->us=ps.map Value.ref
 | [],_,.nil=>rfl
 | p::ps,_,.cons r t=>by
  have e:=zo5 t
  cases r
  rw [ZAv,e]
theorem zkc:∀(ps:List Addr),zcb (ps.map V.ref) (ps.map Value.ref)
 | []=>.nil
 | p::ps=>.cons rfl (zkc ps)
theorem zfd:zig X (.builtin "sorted") (fun xs H Q=>∃(p:Addr) (ps:List Addr) (g:Int->Int->Int),xs=[.ref p]∧H p=some (.lst (ps.map V.ref))∧
 (∀q∈ps,∃a b,H q=some (tri a b (g a b))∧0≤a∧a<64∧0≤b∧b<64)∧
 ∀(l:Addr) (ps':List Addr),H l=none->ps'.Perm ps->(ps'.Pairwise fun x y=>cod H (.ref x)≤cod H (.ref y))->Q (.ref l) (upd H l (.lst (ps'.map V.ref)))):=by
 intro pins s σ H xs us Q I r h
 obtain ⟨p,ps,g,rfl,hp,hps,q⟩:=h
 obtain ⟨u,rfl,ru⟩:=znf r
 cases ru
 obtain ⟨hz,its,n,rv,e0⟩:=(show zcd X.prog X.w H s.heap p (.lst (ps.map V.ref)) from I.hok p _ hp)
 rw [ZAa] at hz
 obtain rfl:=zo5 rv
 refine zit (R:=fun s1 us=>Inv X pins σ H s1∧us=ps.map Value.ref) (collect_list (vs:=ps.map Value.ref) ⟨_,e0,rfl,n,rfl⟩ ⟨I.at_ (s1:={ s with heap:=_ }) (fun b o e=>?_) rfl rfl rfl,rfl⟩ (by simpa using hz)) ?_
 ·have hb:b<s.heap.objs.size:=ZAs e
  rw [Heap.get?_update_ne _ _ _ _ (ZAz hb)]
  exact ZAe _ e
 ·rintro s1 us ⟨I1,rfl⟩
  have ht:zut H s1.heap:=ztj I1.hok
  have hok:∀v∈ps.map Value.ref,@isN (skT H g) (v,v):=fun v hv=>by
   obtain ⟨x,hx,rfl⟩:=ZA7.mp hv
   obtain ⟨a,b,h1,h2⟩:=hps x hx
   exact ⟨x,a,b,rfl,h1,h2⟩
  refine @zms (skT H g) X.prog X.w _ _ s1 _ _ (by simpa using hz) (fun h2 A E h' Q hk hq=>zk2 (s:={ s1 with heap:=h' }) (ht.keep hk) hok h2 hq) (fun A E h' hk=>ltT (s:={ s1 with heap:=h' }) (ht.keep hk)) hok fun out h' o1 o2 k2 he=>?_
  obtain ⟨e,he⟩:=he
  obtain ⟨ps',hps'⟩:∃ps':List Addr,out.toList=ps'.map Value.ref:=by
   have:∀l:List Value,(∀v∈l,v∈ps.map Value.ref)->∃ps':List Addr,l=ps'.map Value.ref:=by
    intro l
    induction l with
    | nil=>exact fun _=>⟨[],rfl⟩
    | cons v r ih=>
     intro hl
     obtain ⟨ps',e⟩:=ih fun v hv=>hl v (ZAk _ hv)
     obtain ⟨x,_,e1⟩:=ZA7.mp (hl v ZAl)
     exact ⟨x::ps',by rw [ZAv,e,e1]⟩
   exact this _ fun v hv=>o1.mem_iff.mp hv
  rw [hps'] at o1 o2
  have hinj:Function.Injective Value.ref:=fun a b e=>by cases e;rfl
  have hpm:ps'.Perm ps:=by
   have:=o1.map (fun v:Value=>match v with | .ref a=>a | _=>0)
   simpa [List.map_map,Function.comp_def] using this
  have fr:H s1.heap.objs.size=none:=I1.hok.fresh (ZAc _)
  refine ⟨.ref s1.heap.objs.size,_,I1.laid (t':=s1.toks) k2 (ZAc _) (show zcd X.prog X.w _ h' _ (.lst (ps'.map V.ref)) from ⟨?_,out.toList,e,by rw [hps'];exact zkc ps',by rw [he]⟩),rfl,q _ _ fr hpm ?_⟩
  ·rw [ZAa,hpm.length_eq];exact hz
  ·rw [List.pairwise_map] at o2;exact o2
end
end L2
namespace L2
open PySem PySem.Spec PyProof.Rows
noncomputable def zxq:V->Option Int->Option Int->Hp->VK->Prop:=fun x lo hi H Q=>∃a xs,x=.ref a∧H a=some (.tup xs)∧
 ¬(HT.sIx xs.length 0 lo=0∧HT.sIx xs.length xs.length hi=xs.length)∧∀p,H p=none->Q (.ref p) (upd H p (.tup (znv xs lo hi)))
theorem zlt {X:Cx}:SlR X zxq:=by
 intro pins s σ H x v vl vu lo hi sl Q I rx hs pl pu h
 obtain ⟨a,xs,e,h1,h2,q⟩:=h
 exact zmt pins s σ H x v vl vu lo hi sl Q I rx hs pl pu ⟨a,xs,e,SqT.of h1,h2,q⟩
end L2
namespace Y0
open PySem L2
noncomputable abbrev Tri:=Nat×Nat×Int
noncomputable def zc1 (H:Hp) (q:Addr) (x:Tri):Prop:=H q=some (tri x.1 x.2.1 x.2.2)
theorem zc1.same {H H':Hp} {q:Addr} {x:Tri} (h:zc1 H q x) (s:zbu H H'):zc1 H' q x:=s _ _ h
noncomputable def zta (H:Hp) (q:Addr):Tri:=match H q with
 | some (.tup [.int a,.int b,.int v])=>(a.toNat,b.toNat,v)
 | _=>(0,0,0)
theorem zp9 {H:Hp} {q:Addr} {x:Tri} (h:zc1 H q x):zta H q=x:=by
 unfold zta
 rw [h]
 obtain ⟨a,b,v⟩:=x
 rfl
theorem zmm {H:Hp}:∀{ps:List Addr} {L:List Tri},Paired (zc1 H) ps L->L=ps.map (zta H)
 | _,_,.nil=>rfl
 | _,_,.cons r t=>by rw [ZAv,←zmm t,zp9 r]
theorem zog {H:Hp}:∀{ps:List Addr},(∀q∈ps,zc1 H q (zta H q))->Paired (zc1 H) ps (ps.map (zta H))
 | [],_=>.nil
 | q::ps,h=>.cons (h q ZAl) (zog fun r hr=>h r (ZAk _ hr))
theorem zix {α β:Type} {F:α->β->Prop}:∀{l:List α} {m:List β},Paired F l m->∀x∈l,∃y∈m,F x y
 | _,_,.nil,_,h=>nomatch h
 | _,_,.cons r t,x,h=>by
  rcases ZAu.mp h with rfl | h
  ·exact ⟨_,ZAl,r⟩
  ·obtain ⟨y,hy,ry⟩:=zix t x h
   exact ⟨y,ZAk _ hy,ry⟩
noncomputable def zt5 (st:MU.St) (t:Bool) (k:MU.Key):Option Tri:=if k.1=t then (MU.val st k).map fun v=>(k.2.1,k.2.2,v) else none
structure zqt (st:MU.St) (t:Bool) (L:List Tri):Prop where
 up:L.Pairwise fun x y=>((x.1:Int)*64+x.2.1)≤((y.1:Int)*64+y.2.1)
 has:∀a b v,(a,b,v)∈L↔MU.val st (t,a,b)=some v
 once:(L.map fun x=>(x.1,x.2.1)).Nodup
noncomputable def zsx (C:Addr):Sp:=fun vs H Q _=>∃(p be rl bd:Addr) (n:Nat) (F:MU.za4) (st:MU.St) (t:Bool),vs=[.ref p,.str (zds t)]∧Clo C H p be rl bd n F st∧MU.zdw n st∧n≤8∧st.rows.length≤16500000∧
 ∀l H' ps L,H l=none->zbu H H'->H' l=some (.lst (ps.map V.ref))->Paired (zc1 H') ps L->zqt st t L->Q (.ref l) H'
theorem zuh {kvs:List (List Key×V)} (h:∀kv∈kvs,∃k:MU.Key,kv.1=zc9 k):∃ks:List MU.Key,kvs.map (·.1)=ks.map zc9:=by
 induction kvs with
 | nil=>exact ⟨[],rfl⟩
 | cons kv r ih=>
  obtain ⟨ks,e⟩:=ih fun kv hkv=>h kv (ZAk _ hkv)
  obtain ⟨k,e1⟩:=h kv ZAl
  exact ⟨k::ks,by rw [ZAv,ZAv,e,e1]⟩
theorem zyb {x:MU.zar}:znv (zdx x) (some 1) none=[V.int (x.a:Int),V.int (x.b:Int),V.int x.v]:=by
 unfold znv zdx
 rw [HT.sIx_none,show (some (1:Int))=some ((1:Nat):Int) from rfl,HT.sIx_nat]
 rfl
theorem zv6 {x:MU.zar}:¬(HT.sIx (zdx x).length 0 (some 1)=0∧HT.sIx (zdx x).length (zdx x).length none=(zdx x).length):=fun z=>by
 have h:=z.1
 rw [show (some (1:Int))=some ((1:Nat):Int) from rfl,HT.sIx_nat] at h
 have e:(zdx x).length=4:=rfl
 rw [e] at h
 cases h
theorem zg2 {α β:Type} {f:α->β}:∀{l:List α},(l.map f).Nodup->l.Nodup
 | [],_=>List.nodup_nil
 | a::l,h=>by
  rw [ZAv,List.nodup_cons] at h
  exact List.nodup_cons.mpr ⟨fun z=>h.1 (List.mem_map_of_mem z),zg2 h.2⟩
theorem zx1 {a b:Bool}:decide (V.str (zds a)=V.str (zds b))=decide (a=b):=decide_eq_decide.mpr ⟨fun q=>zk3 (V.str.inj q),fun q=>by rw [q]⟩
section
variable {P:Program} {w:World} {K:ZBq} {mg:Str->Option Value} {base:Heap}
theorem zzu:zat ["self","kind"] ["self","kind"] (zai sC_Closing_best_drawn):=⟨rfl,rfl,rfl,by decide+kernel,rfl,by decide+kernel,by decide+kernel⟩
theorem zAq:zcg (zai sC_Closing_best_drawn) ["self","kind"] (fsc [(".0",.local),("key",.local),("kind",.free),("self",.free)]) ["key","kind","self"] [none,some 1,some 0]:=⟨rfl,by decide+kernel,by decide+kernel,by decide+kernel,rfl,by decide+kernel⟩
theorem zAa:(["key","kind","self"]:List Str).Nodup:=by decide+kernel
section
seal L2.PE L2.PA L2.PT L2.PS L2.PSs L2.PG L2.PGs L2.PI L2.PO
theorem ok_best {f C:Addr} {fd:FuncData} (F:Fun K "best_drawn" "Closing.best_drawn" sC_Closing_best_drawn f fd) (T:zg5 K mg C) (hS:mg "sorted"=none):zbj P w K mg base CX0 1 f fd ["self","kind"] (zsx C):=by
 refine F.ok zzu (fun vs H Q E h=>?_) (fun cdv A outer s H vs Q E hr h=>?_)
 ·obtain ⟨_,_,_,_,_,_,_,_,rfl,_⟩:=h
  rfl
 ·obtain ⟨p,be,rl,bd,n,Fa,st,t,rfl,c,g,h8,hlen,k⟩:=h
  have hu:=zfc hr
  refine ⟨_,zaf (zaq (zau zfd (by rfl) hS PyProof.Rows.boot_sorted (zaa (zt9 (zc7 rfl (zt6 (zcc (pv 0) rfl)) zAq (fun cl ex s0 H0=>⟨zap (i:=0) zAa rfl (Or.inl rfl),zey (zak zbv (ixT (pv 0)) (pv 1) (zam _)),zez zlt (za9 zbn (za9 zav (zfa (K:=K) rfl (pv 2) rfl) (zc6 hu (zfa (K:=K) rfl (pv 2) rfl) (pv 0) (fun _ _=>rfl)) (fun _ _=>rfl)) zah (fun _ _=>rfl)) (zfz zah) zf0⟩))) zac))),?_⟩
  obtain ⟨dx,hp⟩:=c.ins
  obtain ⟨qs,hrl,hrows⟩:=c.rows
  obtain ⟨kvs,hbd,hkl,hkv⟩:=c.best
  obtain ⟨ks,hks⟩:=zuh hkl.2
  have hkn:kvs.length=ks.length:=by have:=congrArg List.length hks;simpa using this
  refine ⟨_,rfl,p,C,dx,_,_,rfl,hp,T.cl,T.nE,zfw,bd,kvs,rfl,hbd,fun hnd o Da hDa=>?_⟩
  rw [hks] at hnd
  have knd:ks.Nodup:=zg2 hnd
  have known:∀kk∈ks,∃j x,st.best kk=some j∧MU.wat st j=some x∧x.key=kk:=fun kk hk=>by
   have:(zfg kvs (zc9 kk)).isSome=true:=by
    rw [←zet]
    have hm:zc9 kk∈kvs.map (·.1):=by rw [hks];exact List.mem_map_of_mem hk
    obtain ⟨kv,h1,h2⟩:=ZA7.mp hm
    exact List.any_eq_true.mpr ⟨kv,h1,by simpa using h2⟩
   rw [hkv] at this
   cases hb:st.best kk with
   | none=>rw [hb] at this;cases this
   | some j=>
    obtain ⟨x,h1,h2⟩:=g.at_ _ _ hb
    exact ⟨j,x,rfl,h1,h2⟩
  have bdp:bd≠p:=zbp hbd hp (fun z=>nomatch z)
  have bdr:bd≠rl:=zbp hbd hrl (fun z=>nomatch z)
  have Dbd:Da≠bd:=fun z=>by rw [z,zab] at hDa;cases hDa
  have hDH:H Da=none:=by rwa [zaj Dbd] at hDa
  refine zqd (a:=bd) (o:=o) (kvs:=kvs) (fun i σ' H'=>∃v ps L,σ'=[v,some (.str (zds t)),some (.ref p)]∧H' Da=some (.lst (ps.map V.ref))∧Paired (zc1 H') ps L∧L=(ks.take i).filterMap (zt5 st t)∧ps.length≤i∧H' bd=some (.frz o (.dT kvs))∧∀b x,H b=some x->b≠bd->H' b=some x)
   ⟨none,[],[],rfl,zab,.nil,rfl,ZAq _,by rw [zaj (Ne.symm Dbd),zab],fun b x e ne=>by rw [zaj (zae e hDH),zaj ne];exact e⟩ ?_ ?_ ?_
  ·rintro i σ' H2 _ ⟨v,ps,L,rfl,_,_,_,_,e,_⟩
   exact e
  ·rintro i kx vx q σ' H2 hi hq ⟨v,ps,L,rfl,e2,hps,hL,hpl,eb,kp⟩
   obtain ⟨kk,hkk,rfl⟩:∃kk,ks[i]?=some kk∧kx=zc9 kk:=by
    have:=congrArg (fun l=>l[i]?) hks
    simp only [ZAg,hi] at this
    cases hk:ks[i]? with
    | none=>rw [hk] at this;cases this
    | some kk=>rw [hk] at this;exact ⟨kk,rfl,ZAn this⟩
   have hil:i<ks.length:=(ZAb.mp hkk).1
   have et:ks.take (i+1)=ks.take i++[kk]:=by rw [ZBa,hkk];rfl
   obtain ⟨tt,a,b⟩:=kk
   obtain ⟨j,x,hbj,hx,hxk⟩:=known _ (ZAh hkk)
   have hval:MU.val st (tt,a,b)=some x.v:=by unfold MU.val;rw [hbj];show (MU.wat st j).map _=_;rw [hx];rfl
   refine ⟨_,rfl,rdT hq rfl ⟨_,rfl,rfl,_,rfl,?_⟩⟩
   refine (show if decide (V.str (zds tt)=V.str (zds t))=true then _ else _ from ?_)
   rw [zx1]
   by_cases ht:tt=t
   ·refine zgi ht ?_
    obtain ⟨q',r,pw,pu,g1,g2,g3,g4,g5,g6⟩:=zjh hrows hx
    have hat:atI (qs.map V.ref) (j:Int)=some (.ref q'):=zby (by rw [ZAg,g1];rfl)
    have dg:ze7 H2 bd (.ref q) (some (.int (j:Int))):=.inr ⟨kvs,_,q,.inr ⟨o,eb⟩,rfl,hq,by rw [hkv,hbj];rfl⟩
    have tupk:∀{b:Addr} {xs:List V},H b=some (.tup xs)->H2 b=some (.tup xs):=fun e=>kp _ _ e (zbp e hbd (fun z=>nomatch z))
    refine ⟨_,rfl,p,C,dx,_,_,rfl,kp _ _ hp (Ne.symm bdp),T.cl,T.nR,zgn,_,rfl,p,C,dx,_,_,rfl,kp _ _ hp (Ne.symm bdp),T.cl,T.nE,zfw,_,rfl,bd,_,rfl,dg,rl,_,_,_,rfl,rfl,kp _ _ hrl (Ne.symm bdr),hat,rdT (tupk g4) rfl ⟨_,rfl,pw,_,rfl,tupk g5,zv6,fun kt hkt=>?_⟩⟩
    rw [zyb]
    have hk2:=MU.zc8 hxk
    have e3:upd H2 kt (.tup [V.int (x.a:Int),V.int (x.b:Int),V.int x.v]) kt=some (.tup [V.int (x.a:Int),V.int (x.b:Int),V.int x.v]):=zab
    have s3:=zad (o:=.tup [V.int (x.a:Int),V.int (x.b:Int),V.int x.v]) hkt
    generalize upd H2 kt (.tup [V.int (x.a:Int),V.int (x.b:Int),V.int x.v])=H3 at*
    have e2':=s3 _ _ e2
    have nD:∀{b:Addr} {o:HO},H3 b=some o->o≠.lst (ps.map V.ref)->upd H3 Da (.lst (ps.map V.ref++[.ref kt])) b=some o:=fun {b o} e ne=>by rw [zaj (zbp e e2' ne)];exact e
    have keep:∀b y,zc1 H2 b y->zc1 (upd H3 Da (.lst (ps.map V.ref++[.ref kt]))) b y:=fun b y e=>nD (s3 _ _ e) (fun z=>nomatch z)
    refine ⟨_,e2',?_,_,ps++[kt],L++[(a,b,x.v)],rfl,?_,?_,?_,?_,?_,fun b' y e ne=>?_⟩
    ·rw [ZAa]
     have:=hkl.1
     exact Nat.lt_of_le_of_lt (show ps.length≤16500000 by omega) (by decide)
    ·rw [zab,ZAp]
     rfl
    ·refine zbd (zan hps keep) (.cons ?_ .nil)
     have:zc1 H3 kt (a,b,x.v):=by
      unfold zc1 tri
      rw [e3,hk2.2.1,hk2.2.2]
     exact nD this (fun z=>nomatch z)
    ·rw [et,List.filterMap_append,hL]
     have:zt5 st t (tt,a,b)=some (a,b,x.v):=by
      unfold zt5
      rw [if_pos ht,hval]
      rfl
     simp [this]
    ·rw [ZAj];show ps.length+1≤i+1;omega
    ·exact nD (s3 _ _ eb) (fun z=>nomatch z)
    ·rw [zaj (zae e hDH)]
     exact s3 _ _ (kp _ _ e ne)
   ·refine zep ht ⟨_,ps,L,rfl,e2,hps,?_,by omega,eb,kp⟩
    rw [et,List.filterMap_append,hL]
    have:zt5 st t (tt,a,b)=none:=if_neg ht
    simp [this]
  ·rintro σ' H2 ⟨v,ps,L,rfl,e2,hps,hL,hpl,eb,kp⟩
   refine ⟨bd,o,_,eb,fun o u z=>?_,?_⟩
   ·have z:H bd=some (.frz o u):=z
    rw [hbd] at z
    cases z
   have s3:zbu H (upd H2 bd (.dT kvs)):=fun b x e=>by
    by_cases hb:b=bd
    ·subst hb;rw [hbd] at e;cases e;exact zab
    ·rw [zaj hb];exact kp _ _ e hb
   have nb:∀{b:Addr} {x:HO},H2 b=some x->x≠.frz o (.dT kvs)->upd H2 bd (.dT kvs) b=some x:=fun {b x} e ne=>by rw [zaj (zbp e eb ne)];exact e
   have e3:=nb e2 (fun z=>nomatch z)
   have hps3:Paired (zc1 (upd H2 bd (.dT kvs))) ps L:=zan hps fun b y e=>nb e (fun z=>nomatch z)
   generalize upd H2 bd (.dT kvs)=H3 at*
   have hall:ks.take kvs.length=ks:=by rw [hkn];exact ZAy
   rw [hall] at hL
   have inL:∀a b v,(a,b,v)∈L↔MU.val st (t,a,b)=some v:=fun a b v=>by
    rw [hL,List.mem_filterMap]
    constructor
    ·rintro ⟨kk,hk,e⟩
     unfold zt5 at e
     by_cases hkt:kk.1=t
     ·rw [if_pos hkt] at e
      cases hv:MU.val st kk with
      | none=>rw [hv] at e;cases e
      | some v'=>
       rw [hv] at e
       cases e
       obtain ⟨t',a',b'⟩:=kk
       cases hkt
       exact hv
     ·rw [if_neg hkt] at e;cases e
    ·intro hv
     have hb:∃j,st.best (t,a,b)=some j:=by
      unfold MU.val at hv
      cases hq:st.best (t,a,b) with
      | none=>rw [hq] at hv;cases hv
      | some j=>exact ⟨j,rfl⟩
     obtain ⟨j,hj⟩:=hb
     have:(zfg kvs (zc9 (t,a,b))).isSome=true:=by rw [hkv,hj];rfl
     rw [←zet] at this
     obtain ⟨kv,h1,h2⟩:=List.any_eq_true.mp this
     have hm:zc9 (t,a,b)∈ks.map zc9:=by rw [←hks];exact ZA7.mpr ⟨kv,h1,by simpa using h2⟩
     obtain ⟨kk,h3,h4⟩:=ZA7.mp hm
     refine ⟨(t,a,b),zm4 h4▸h3,?_⟩
     unfold zt5
     rw [if_pos rfl,hv]
     rfl
   have small:∀q∈ps,∃x∈L,zc1 H3 q x∧x.1<8∧x.2.1<8:=fun q hq=>by
    obtain ⟨x,hx,hqx⟩:=zix hps3 q hq
    refine ⟨x,hx,hqx,?_⟩
    obtain ⟨a,b,v⟩:=x
    have hv:=(inL a b v).mp hx
    unfold MU.val at hv
    cases hq:st.best (t,a,b) with
    | none=>rw [hq] at hv;cases hv
    | some j=>
     obtain ⟨w',h1,h2⟩:=g.at_ _ _ hq
     have h3:=g.lt _ _ h1
     have h4:=MU.zc8 h2
     exact ⟨by show a<8;have:=h4.2.1;omega,by show b<8;have:=h4.2.2;omega⟩
   refine ⟨Da,ps,fun a b=>(MU.val st (t,a.toNat,b.toNat)).getD 0,rfl,e3,fun q hq=>?_,fun l ps' hl hpm hup=>?_⟩
   ·obtain ⟨⟨a,b,v⟩,hx,hqx,ha,hb⟩:=small q hq
    have ha:a<8:=ha
    have hb:b<8:=hb
    refine ⟨a,b,?_,by omega,by omega,by omega,by omega⟩
    show H3 q=some (tri a b ((MU.val st (t,((a:Int)).toNat,((b:Int)).toNat)).getD 0))
    rw [ZBd,ZBd,(inL a b v).mp hx]
    exact hqx
   ·have hlH:H l=none:=by
     cases q:H l with
     | none=>rfl
     | some x=>rw [s3 _ _ q] at hl;cases hl
    have s4:=zad (o:=.lst (ps'.map V.ref)) hl
    have hdec:∀q∈ps',zc1 H3 q (zta H3 q):=fun q hq=>by
     obtain ⟨x,_,hqx,_⟩:=small q (hpm.mem_iff.mp hq)
     rw [zp9 hqx]
     exact hqx
    have hLp:(ps'.map (zta H3)).Perm L:=by rw [zmm hps3];exact hpm.map _
    refine k l _ ps' (ps'.map (zta H3)) hlH (s3.trans s4) zab (zan (zog hdec) fun q x e=>e.same s4) ⟨?_,fun a b v=>?_,?_⟩
    ·rw [List.pairwise_map]
     refine List.Pairwise.imp_of_mem (fun {x y} hx hy e=>?_) hup
     rw [zia (hdec x hx),zia (hdec y hy)] at e
     exact e
    ·rw [hLp.mem_iff]
     exact inL a b v
    ·refine ((hLp.map _).nodup_iff).mpr ?_
     rw [hL]
     unfold List.Nodup
     rw [List.pairwise_map]
     refine List.Pairwise.filterMap _ (fun a a' hne b hb b' hb' e=>hne ?_) knd
     unfold zt5 at hb hb'
     by_cases h1:a.1=t
     ·by_cases h2:a'.1=t
      ·rw [if_pos h1] at hb
       rw [if_pos h2] at hb'
       cases hv:MU.val st a with
       | none=>rw [hv] at hb;cases hb
       | some v1=>
        cases hv':MU.val st a' with
        | none=>rw [hv'] at hb';cases hb'
        | some v2=>
         rw [hv] at hb
         rw [hv'] at hb'
         cases hb
         cases hb'
         have e:(a.2.1,a.2.2)=(a'.2.1,a'.2.2):=e
         exact Prod.ext (h1.trans h2.symm) e
      ·rw [if_neg h2] at hb';cases hb'
     ·rw [if_neg h1] at hb;cases hb
end
end
end Y0
namespace MU
noncomputable def zhm (st:St):Prop:=(∀(i:Nat) (r:Row),st.rows[i]?=some r->r.used.length≤2∧∀j∈r.used,j<i)∧∀b,st.bar=some b->∃r,st.rows[b]?=some r∧zho r.what
theorem zkh {st:St} {w:zar} {word:Wd} {us:List Nat} (h:zhm st) (hu:us.length≤2∧∀j∈us,j<st.rows.length):zhm (take st w word us):=by
 unfold take
 split
 ·refine ⟨fun i r hr=>?_,fun b hb=>?_⟩
  ·have hr:(st.rows++[⟨w,word,us⟩])[i]?=some r:=hr
   by_cases hi:i<st.rows.length
   ·rw [ZA6 hi] at hr
    exact h.1 i r hr
   ·rw [ZA0 (by omega)] at hr
    cases hk:i-st.rows.length with
    | zero=>
     rw [hk] at hr
     cases hr
     exact ⟨hu.1,fun j hj=>by have:=hu.2 j hj;omega⟩
    | succ k=>rw [hk] at hr;cases hr
  ·have hb:(if st.bar=none∧zho w then some st.rows.length else st.bar)=some b:=hb
   show ∃r,(st.rows++[(⟨w,word,us⟩:Row)])[b]?=some r∧zho r.what
   by_cases hc:st.bar=none∧zho w
   ·rw [if_pos hc] at hb
    cases hb
    exact ⟨_,by rw [ZA0 (ZAc _),Nat.sub_self];rfl,hc.2⟩
   ·rw [if_neg hc] at hb
    obtain ⟨r,hr,hB⟩:=h.2 b hb
    exact ⟨r,by rw [ZA6 (ZAb.mp hr).1];exact hr,hB⟩
 ·exact h
theorem zmx {st:St} {o:Option zar} {word:Wd} {us:List Nat} (h:zhm st) (hu:∀x,o=some x->us.length≤2∧∀j∈us,j<st.rows.length):zhm (put st o word us):=by
 cases o with
 | none=>exact h
 | some x=>exact zkh h (hu x rfl)
theorem zfr {f:zar->Option zar} {word:Wd} {i:Nat} {st:St} (h:zhm st):zhm (zbc f word i st):=by
 refine zmx h fun x hx=>⟨by show 1≤2;omega,fun j hj=>?_⟩
 cases hw:wat st i with
 | none=>rw [hw] at hx;cases hx
 | some y=>rw [ZAt.mp hj];exact zem hw
theorem zfq {f:zar->zar->Option zar} {word:Wd} {i j:Nat} {st:St} (h:zhm st):zhm (zaw f word i j st):=by
 refine zmx h fun x hx=>⟨ZAc 2,fun k hk=>?_⟩
 cases hw:wat st i with
 | none=>rw [hw] at hx;cases hx
 | some y=>
  rw [hw] at hx
  cases hw':wat st j with
  | none=>rw [show ((some y).bind fun p=>(wat st j).bind fun q=>f p q)=(wat st j).bind fun q=>f y q from rfl,hw'] at hx;cases hx
  | some z=>
   rcases ZAu.mp hk with rfl | hk
   ·exact zem hw
   ·rw [ZAt.mp hk];exact zem hw'
theorem zer {α:Type} {g:St->α->St} (hg:∀st a,zhm st->zhm (g st a)):∀(l:List α) (st:St),zhm st->zhm (l.foldl g st)
 | [],_,h=>h
 | a::l,st,h=>zer hg l _ (hg st a h)
theorem zin (rows:List zar) (st:St) (h:zhm st):zhm (zfy rows st):=zer (fun st w h=>zkh h ⟨ZAq _,fun j hj=>absurd hj (by simp)⟩) rows st h
theorem zi3:zhm empty:=⟨fun i r h=>by simp [empty] at h,fun b h=>by simp [empty] at h⟩
theorem zk7 {n:Nat} {F:za4} {at_ a b:Nat} {st:St} (h:zhm st):zhm (zb4 n F at_ a b st):=
 zer (fun _ _ h=>zfq h) _ _ (zer (fun _ _ h=>zfq h) _ _ (zer (fun _ _ h=>zfq h) _ _ (zfr (zfr h))))
theorem zjy {n:Nat} {F:za4} {at_ a:Nat} {st:St} (h:zhm st):zhm (zbg n F at_ a st):=
 zer (fun _ _ h=>zfq h) _ _ (zfr (zfr h))
theorem zjg {n:Nat} {F:za4} {st:St} (h:zhm st):∀t,zhm (run n F st t)
 | 0=>h
 | t+1=>by
  have ih:=zjg (n:=n) (F:=F) h t
  show zhm (look n F t (run n F st t))
  unfold look
  split
  ·split
   ·split
    ·exact zk7 ih
    ·exact zjy ih
   ·exact ih
  ·exact ih
end MU
namespace L2
open PySem PySem.Spec PyProof.Rows
noncomputable def Itd (hi:Int) (n:Nat):It:=⟨fun i _=>i<n,fun i H x H'=>H'=H∧x=.int (hi-i),fun i _=>n≤i⟩
theorem zjk {prog:Program} {w:World} {A:Around} {E:Value->Shared->Prop} {s:Shared} {it:Addr} {lo:Int} {i n:Nat} {Q:Option Value->Shared->Prop} (hi:i<n) (st:IsRangeIter s.heap it (lo-(i:Nat)) ((n:Int)-(i:Nat)) (-1))
 (hQ:∀(t:Tok) h' tk,IsRangeIter h' it (lo-((i+1:Nat):Int)) ((n:Int)-((i+1:Nat):Int)) (-1)->(∀b o,b∉[it]->s.heap.get? b=some o->h'.get? b=some o)->Q (some (.int (lo-(i:Nat)) t)) { s with heap:=h',toks:=tk }):
 wpAny (model prog w) A (pyNext (.ref it)) Q E s:=by
 refine wpAny_pyNext_range_item st (by omega) fun h' st' sb=>?_
 refine hQ _ h' _ ?_ fun b o hb e=>sb.extBut b o (fun z=>hb (by simp [z])) e
 have e1:lo-((i+1:Nat):Int)=lo-(i:Int)+ -1:=by omega
 have e2:(n:Int)-((i+1:Nat):Int)=(n:Int)-(i:Int)-1:=by omega
 rw [e1,e2]
 exact st'
theorem zoe {P:Program} {w:World} {K:ZBq} {tg:Expr} (it:Addr) (lo:Int) (n:Nat):zus P w K tg (Itd lo n) [it] it (fun i h=>IsRangeIter h it (lo-(i:Nat)) ((n:Int)-(i:Nat)) (-1)) where
 mem:=by simp
 obj:=fun i h st b hb=>by
  have e:b=it:=by simpa using hb
  subst e
  exact ⟨_,st,fun v z=>by
   have z':Data.fields _=Data.cell v:=z
   cases z'⟩
 keep:=fun i h h' st k=>k it (by simp) _ st
 item:=by
  intro X hP hw hK hc i pins s σ H E I hf st hg
  subst hP hw hK
  obtain ⟨f0,f1,f2,f3,f4,f5⟩:=hf it (by simp)
  refine zjk hg st fun t h' tk st' kk=>?_
  have I1:Inv X pins σ H { s with heap:=h',toks:=tk }:=I.turned (fun b o hb e=>kk b o (by simpa using hb) e) f0 f1 f3 f4 f5
  exact ⟨_,rfl,zru (s:={ s with heap:=h',toks:=tk }) (n:="range_iterator") st' rfl rfl (by decide) ⟨.int (lo-i),H,I1,⟨t,rfl⟩,⟨rfl,rfl⟩,st',fun b hb=>(hf b hb).1⟩⟩
 done:=by
  intro X hP hw hK hc i pins s σ H E I hf st hg
  subst hP hw hK
  obtain ⟨f0,f1,f2,f3,f4,f5⟩:=hf it (by simp)
  exact zg1 (znt hc I) st (by have:n≤i:=hg;omega) fun h' eb=>⟨rfl,I.turned (t':=s.toks) (fun b o hb e=>eb b o hb e) f0 f1 f3 f4 f5⟩
 self:=fun _ _ _ _ _ st h=>wpAny_pyIter_rangeiter st h
theorem zrw {lo:Int} {n:Nat} {g:TG} {tb:TS} {D:zse} {σ:St} {H:Hp} (Pv:Nat->St->Hp->Prop) (h0:Pv 0 σ H)
 (hs:∀i σ H,i<n->Pv i σ H->g (.int (lo-i)) σ H fun σ2 H2=>tb { D with nx:=Pv (i+1),ct:=Pv (i+1),bk:=D.nx } σ2 H2) (hd:∀σ H,Pv n σ H->D.nx σ H):
 ∃W:Nat->Nat->St->Hp->Prop,(∃m,W 0 m σ H)∧∀i m σ H,W i m σ H->
  ((Itd lo n).stop i H∧D.nx σ H)∨((Itd lo n).go i H∧∃N:St->Hp->Prop,(∀σ' H',N σ' H'->∃m',m'<m∧W (i+1) m' σ' H')∧∀x H',(Itd lo n).yld i H x H'->g x σ H' fun σ2 H2=>tb { D with nx:=N,ct:=N,bk:=D.nx } σ2 H2):=by
 refine ⟨fun i m σ H=>m=n-i∧i≤n∧Pv i σ H,⟨n,by simp,ZAq _,h0⟩,?_⟩
 rintro i m σ H ⟨rfl,hi,p⟩
 by_cases hlt:i<n
 ·refine .inr ⟨hlt,Pv (i+1),fun σ' H' p'=>⟨n-(i+1),by omega,rfl,hlt,p'⟩,fun x H' y=>?_⟩
  obtain ⟨e,y⟩:=y
  subst e y
  exact hs i σ _ hlt p
 ·have e:i=n:=by omega
  subst e
  exact .inl ⟨ZAc _,hd σ H p⟩
theorem zoz (n:Nat):Builtin.Range.rangeSize ((n:Int)-1) (-1) (-1)=(n:Int):=by
 unfold Builtin.Range.rangeSize
 rw [if_neg (by decide)]
 by_cases h:0<n
 ·rw [if_pos (by omega)]
  show ((n:Int)-1- -1-1) / 1+1=n
  rw [Int.ediv_one]
  omega
 ·rw [if_neg (by omega)]
  omega
theorem zq1 {n:Nat} (h:n≤20000000):Builtin.Range.small ((n:Int)-1) (-1) (-1)=true:=by
 unfold Builtin.Range.small
 rw [zoz]
 simp [Builtin.Range.rangeFitsLong]
 omega
section
variable {X:Cx} {tg:Expr}
noncomputable def iDn (ta:TA):TI:=fun σ H R=>ta σ H fun vs H1=>∃n:Nat,vs=[.int ((n:Int)-1),.int (-1),.int (-1)]∧n≤20000000∧R (Itd ((n:Int)-1) n) H1
theorem zpb {a b c:Expr} {ta:TA} {p pos:Pos} (hg:Gl X "range") (hm:X.mg "range"=none) (ha:PA X [a,b,c] ta) (hs:starEach [a,b,c] X.env=[(false,eval a X.env),(false,eval b X.env),(false,eval c X.env)]:=by rfl) (hs2:starEach [b,c] X.env=[(false,eval b X.env),(false,eval c X.env)]:=by rfl):
 PI X tg (.Call (.Name "range" p) [a,b,c] [] pos) (iDn ta):=by
 intro pins s σ H R I h
 refine Call_ (ziy I hg hm boot_range (PyProof.Rows.callWith_type1 (thn (ha pos pins s σ H _ I h) fun us s1 zz=>?_) (by rw [hs,hs2]) (by rw [hs2];rfl)))
 obtain ⟨vs,H1,I1,r1,q1⟩:=zz
 obtain ⟨n,e,hn,q⟩:=q1
 subst e
 cases r1 with
 | cons r rr=>
  cases rr with
  | cons r' rr=>
   cases rr with
   | cons r'' rr=>
    cases rr
    obtain ⟨t,rfl⟩:=r
    obtain ⟨t',rfl⟩:=r'
    obtain ⟨t'',rfl⟩:=r''
    refine call_range_3 (by decide) ?_ (Or.inl (PyProof.noPylong_small (by omega)))
    refine wpAny_pyIter_range (IsRange.new ..) (zq1 hn) ?_
    have I2:Inv X pins σ H1 { s1 with heap:=s1.heap.push { cls:=.type "range",data:=.fields #[.int ((n:Int)-1) t,.int (-1) t',.int (-1) t''] },toks:=s1.toks }:=I1.kept fun b o e=>ZAe _ e
    refine ⟨(s1.heap.push { cls:=.type "range",data:=.fields #[.int ((n:Int)-1) t,.int (-1) t',.int (-1) t''] }).objs.size,[(s1.heap.push { cls:=.type "range",data:=.fields #[.int ((n:Int)-1) t,.int (-1) t',.int (-1) t''] }).objs.size],_,_,H1,rfl,
     I2.kept (t':=s1.toks) fun b o e=>ZAe _ e,zoe _ ((n:Int)-1) n,?_,fun b hb=>?_,q⟩
    ·show IsRangeIter _ _ (((n:Int)-1)-((0:Nat):Int)) ((n:Int)-((0:Nat):Int)) (-1)
     rw [show ((n:Int)-1)-((0:Nat):Int)=(n:Int)-1 by omega,show (n:Int)-((0:Nat):Int)=Builtin.Range.rangeSize ((n:Int)-1) (-1) (-1) by rw [zoz];omega]
     exact ZAx _ rfl
    ·have e:b=(s1.heap.push { cls:=.type "range",data:=.fields #[.int ((n:Int)-1) t,.int (-1) t',.int (-1) t''] }).objs.size:=by simpa using hb
     subst e
     exact I2.fpOk (ZAc _) (I2.hok.fresh (ZAc _))
end
end L2
namespace Y0
open PySem L2
noncomputable def zur (rows:List MU.Row):Prop:=∀(i:Nat) (r:MU.Row),rows[i]?=some r->r.used.length≤2∧∀j∈r.used,j<i
structure zwq (rows:List MU.Row) (last:Nat) (ns:List Nat):Prop where
 up:ns.Pairwise (·<·)
 le:∀i∈ns,i≤last
 has:last∈ns
 uses:∀i∈ns,∀r,rows[i]?=some r->∀j∈r.used,j∈ns
 why:∀i∈ns,i=last∨∃k∈ns,∃r,rows[k]?=some r∧i∈r.used
structure NI (rows:List MU.Row) (last:Nat) (P:Nat->Prop) (ks:List Nat):Prop where
 once:ks.Nodup
 le:∀k∈ks,k≤last
 has:last∈ks
 why:∀i∈ks,i=last∨∃k∈ks,∃r,rows[k]?=some r∧i∈r.used
 fin:∀k∈ks,P k->∀r,rows[k]?=some r->∀j∈r.used,j∈ks
noncomputable def zup (ks:List Nat) (j:Nat):List Nat:=if j∈ks then ks else ks++[j]
theorem zdj {ks:List Nat} {j k:Nat}:k∈zup ks j↔k∈ks∨k=j:=by
 unfold zup
 split
 ·exact ⟨.inl,fun h=>h.elim id fun e=>e▸‹j∈ks›⟩
 ·simp
theorem NI.add {rows:List MU.Row} {last m j:Nat} {P:Nat->Prop} {ks:List Nat} {r:MU.Row} (h:NI rows last P ks) (hm:m∈ks) (hr:rows[m]?=some r) (hj:j∈r.used) (hjm:j≤m) (hP:¬P j):NI rows last P (zup ks j):=by
 refine ⟨?_,fun k hk=>?_,zdj.mpr (.inl h.has),fun i hi=>?_,fun k hk hp r' hr' j' hj'=>?_⟩
 ·unfold zup
  split
  ·exact h.once
  ·rename_i hn
   exact List.nodup_append.mpr ⟨h.once,List.nodup_cons.mpr ⟨fun z=>(nomatch z),List.nodup_nil⟩,fun a ha b hb e=>hn (by rw [ZAt.mp hb] at e;rw [←e];exact ha)⟩
 ·rcases zdj.mp hk with hk | rfl
  ·exact h.le k hk
  ·have:=h.le m hm
   omega
 ·rcases zdj.mp hi with hi | rfl
  ·rcases h.why i hi with e | ⟨k,hk,r',h1,h2⟩
   ·exact .inl e
   ·exact .inr ⟨k,zdj.mpr (.inl hk),r',h1,h2⟩
  ·exact .inr ⟨m,zdj.mpr (.inl hm),r,hr,hj⟩
 ·rcases zdj.mp hk with hk | rfl
  ·exact zdj.mpr (.inl (h.fin k hk hp r' hr' j' hj'))
  ·exact absurd hp hP
noncomputable def zrq (ks:List Nat):List Key:=ks.map fun i:Nat=>Sum.inl (i:Int)
theorem zjv {ks:List Nat} {j:Nat}:(Sum.inl (j:Int):Key)∈zrq ks↔j∈ks:=by
 unfold zrq
 rw [ZA7]
 constructor
 ·rintro ⟨k,hk,e⟩
  have:=Int.ofNat.inj (Sum.inl.inj e)
  exact this▸hk
 ·exact fun h=>⟨j,h,rfl⟩
theorem zrp {kvs:List (Key×V)} {ks:List Nat} {j:Nat} {v:V} (h:kvs.map (·.1)=zrq ks):(ze9 kvs (Sum.inl (j:Int)) v).map (·.1)=zrq (zup ks j):=by
 have hm:(kvs.any fun kv=>decide (kv.1=Sum.inl (j:Int)))=true↔j∈ks:=by
  rw [List.any_eq_true,←zjv,←h,ZA7]
  constructor
  ·rintro ⟨kv,h1,h2⟩
   exact ⟨kv,h1,by simpa using h2⟩
  ·rintro ⟨kv,h1,h2⟩
   exact ⟨kv,h1,by simpa using h2⟩
 unfold ze9 zup
 by_cases hj:j∈ks
 ·rw [if_pos (hm.mpr hj),if_pos hj,←h,List.map_map]
  refine List.map_congr_left fun kv _=>?_
  show (if kv.1=Sum.inl (j:Int) then (kv.1,v) else kv).1=kv.1
  split<;>rfl
 ·rw [if_neg (fun z=>hj (hm.mp z)),if_neg hj,ZAp,h]
  unfold zrq
  rw [ZAp]
  rfl
theorem zng {kvs:List (Key×V)} {ks:List Nat} {j:Nat} (h:kvs.map (·.1)=zrq ks):(zfg kvs (Sum.inl (j:Int))).isSome=decide (j∈ks):=by
 rw [←zet]
 by_cases hj:j∈ks
 ·rw [ZBo hj]
  have:(Sum.inl (j:Int):Key)∈kvs.map (·.1):=by rw [h];exact zjv.mpr hj
  obtain ⟨kv,h1,h2⟩:=ZA7.mp this
  exact List.any_eq_true.mpr ⟨kv,h1,by simpa using h2⟩
 ·rw [ZBp hj]
  refine List.any_eq_false.mpr fun kv h1=>?_
  intro z
  have:(Sum.inl (j:Int):Key)∈kvs.map (·.1):=ZA7.mpr ⟨kv,h1,by simpa using z⟩
  rw [h] at this
  exact hj (zjv.mp this)
noncomputable def zsr:Sp:=fun vs H Q _=>∃(rl:Addr) (qs:List Addr) (rows:List MU.Row) (last:Nat),vs=[.ref rl,.int (last:Int)]∧H rl=some (.lst (qs.map V.ref))∧Paired (zf4 H) qs rows∧zur rows∧last<rows.length∧rows.length≤16500000∧
 ∀l H' ns,H l=none->zbu H H'->H' l=some (.lst (zcq ns))->zwq rows last ns->Q (.ref l) H'
section
variable {P:Program} {w:World} {K:ZBq} {mg:Str->Option Value} {base:Heap}
noncomputable abbrev nNn:List Str:=["rows","last","needed","at","number"]
theorem zwy:zat nNn ["rows","last"] (zai sP_numbers_needed):=⟨rfl,rfl,rfl,by decide+kernel,rfl,by decide+kernel,by decide+kernel⟩
section
seal L2.PE L2.PA L2.PT L2.PS L2.PSs L2.PG L2.PGs L2.PI L2.PO
theorem ok_needed {f:Addr} {fd:FuncData} (F:Fn K mg "numbers_needed" sP_numbers_needed ["rows","last"] f fd) (hR:mg "range"=none) (hS:mg "sorted"=none):zbj P w K mg base CX0 1 f fd ["rows","last"] zsr:=by
 refine F.F.ok zwy (fun vs H Q E h=>?_) (fun cdv A outer s H vs Q E hr h=>?_)
 ·obtain ⟨_,_,_,_,rfl,_⟩:=h
  rfl
 ·obtain ⟨rl,qs,rows,last,rfl,hrl,hrows,hU,hlast,hlen,k⟩:=h
  have hu:=zfc hr
  refine ⟨_,zag (za0 (i:=2) zwy.nd rfl (Or.inl rfl) (zpe (zjo (pv 1) ze1 zo9) rfl rfl (by simp) (by simp)))
   (zag (zcx PassesOwn.never rfl (zpb rfl hR (zaa (pv 1) (zaa (zlv zhp zah) (zaa (zlv zhp zah) zac)))) (zap (i:=3) zwy.nd rfl (Or.inl rfl))
    (zaf (zbk (zhu (zpf hu (pv 3) (pv 2)) (by with_unfolding_all rfl))
     (zaf (zcx PassesOwn.never rfl (zga (za9 zbn (za9 zav (pv 0) (pv 3) (fun _ _=>rfl)) zah (fun _ _=>rfl))) (zap (i:=4) zwy.nd rfl (Or.inl rfl))
      (zaf (zjn hu (pv 2) (pv 4) ze1 rfl)))) zas)))
   (zaf (zaq (zau (zld rfl) (by rfl) hS PyProof.Rows.boot_sorted (zaa (pv 2) zac))))),?_⟩
  refine fun N1 c1 d hd=>⟨_,rfl,zab,[(Sum.inl (last:Int),.bl true)],rfl,by simp,c1 _ _ ?_⟩
  rw [zlo]
  have hql:qs.length=rows.length:=Paired.length hrows
  have e1:upd H d (.dK (zgf [] [(Sum.inl (last:Int),.bl true)])) d=some (.dK [(Sum.inl (last:Int),.bl true)]):=zab
  have s1:=zad (o:=.dK (zgf [] [(Sum.inl (last:Int),.bl true)])) hd
  generalize upd H d (.dK (zgf [] [(Sum.inl (last:Int),.bl true)]))=H1 at*
  clear c1 N1
  have ev:[V.int (last:Int),V.int (-1),V.int (-1)]=[V.int (((last+1:Nat):Int)-1),V.int (-1),V.int (-1)]:=by rw [show ((last+1:Nat):Int)-1=(last:Int) by omega]
  have dr:d≠rl:=Ne.symm (zae hrl hd)
  refine fun N2 c2=>⟨_,rfl,_,rfl,_,rfl,last+1,ev,by omega,?_⟩
  refine zrw (fun i σ' H'=>∃v3 v4 kvs ks,σ'=[some (.ref rl),some (.int (last:Int)),some (.ref d),v3,v4]∧H' d=some (.dK kvs)∧kvs.map (·.1)=zrq ks∧NI rows last (fun k=>last<k+i) ks∧∀b o,H b=some o->H' b=some o)
   ⟨none,none,_,[last],rfl,e1,rfl,⟨List.nodup_cons.mpr ⟨fun z=>(nomatch z),List.nodup_nil⟩,fun k hk=>by rw [ZAt.mp hk];exact ZAc _,ZAt.mpr rfl,fun k hk=>.inl (ZAt.mp hk),fun k hk hp=>by have:=ZAt.mp hk;omega⟩,fun b o e=>s1 _ _ e⟩ ?_ ?_
  ·rintro i σ' H2 hi ⟨v3,v4,kvs,ks,rfl,ed,hkv,hN,kp⟩
   obtain ⟨at_,hat⟩:∃at_,at_+i=last:=⟨last-i,by omega⟩
   have ex:V.int ((((last+1:Nat):Int)-1)-(i:Int))=V.int (at_:Int):=by rw [show (((last+1:Nat):Int)-1)-(i:Int)=(at_:Int) by omega]
   rw [ex]
   have dg:ze7 H2 d (.int (at_:Int)) (zfg kvs (Sum.inl (at_:Int))):=ze7.k (k:=Sum.inl (at_:Int)) ed
   refine ⟨_,rfl,_,rfl,d,_,rfl,dg,_,rfl,?_⟩
   rw [zng hkv]
   by_cases hin:at_∈ks
   ·refine zgi hin ?_
    obtain ⟨q,hq⟩:∃q,qs[at_]?=some q:=⟨_,ZAd (by omega)⟩
    obtain ⟨r,hr',pw,pu,g4,g5,g6⟩:=paired_get hrows hq
    have hatI:atI (qs.map V.ref) (at_:Int)=some (.ref q):=zby (by rw [ZAg,hq];rfl)
    refine ⟨_,rfl,zqp rfl (kp _ _ hrl) hatI (rdT (kp _ _ g4) rfl ⟨pu,rfl,⟨_,SqT.of (kp _ _ g6)⟩,?_⟩)⟩
    refine zuk (K:=K) (a:=pu) (xs:=r.used.map fun i:Nat=>V.int (i:Int)) (fun m σ' H'=>∃v4 kvs ks,σ'=[some (.ref rl),some (.int (last:Int)),some (.ref d),some (.int (at_:Int)),v4]∧H' d=some (.dK kvs)∧kvs.map (·.1)=zrq ks∧NI rows last (fun k=>last<k+i) ks∧at_∈ks∧(∀j∈r.used.take m,j∈ks)∧∀b o,H b=some o->H' b=some o)
     ⟨v4,kvs,ks,rfl,ed,hkv,hN,hin,fun j hj=>by simp at hj,kp⟩ ?_ ?_ ?_
    ·rintro m σ' H3 _ ⟨_,_,_,rfl,_,_,_,_,_,kp3⟩
     exact SqT.of (kp3 _ _ g6)
    ·rintro m x σ' H3 hx ⟨v4,kvs,ks,rfl,ed,hkv,hN,hin,hm,kp3⟩
     rw [ZAg] at hx
     cases hj:r.used[m]? with
     | none=>rw [hj] at hx;cases hx
     | some j=>
      rw [hj] at hx
      cases hx
      have hjm:=ZAh hj
      have hja:=(hU at_ r hr').2 j hjm
      have hl:kvs.length≤last+1:=by
       have h1:=congrArg List.length hkv
       unfold zrq at h1
       rw [ZAa,ZAa] at h1
       have:=MH.zea (last+1) ks hN.once fun z hz=>by have:=hN.le z hz;omega
       omega
      refine ⟨_,rfl,_,rfl,d,_,rfl,zqs.k (k:=Sum.inl (j:Int)) ed (zkp (by omega)),?_⟩
      refine ⟨_,_,zup ks j,rfl,zab,zrp hkv,hN.add hin hr' hjm (ZAr hja) (by omega),zdj.mpr (.inl hin),fun j' hj'=>?_,fun b o e=>?_⟩
      ·rw [ZBa,hj] at hj'
       rcases ZA4.mp hj' with hj' | hj'
       ·exact zdj.mpr (.inl (hm j' hj'))
       ·exact zdj.mpr (.inr (by simpa using hj'))
      ·rw [zaj (zae e hd)]
       exact kp3 _ _ e
    ·rintro σ' H3 ⟨v4,kvs,ks,rfl,ed,hkv,hN,hin,hm,kp3⟩
     have hall:r.used.take (r.used.map fun i:Nat=>V.int (i:Int)).length=r.used:=by rw [ZAa];exact ZAy
     rw [hall] at hm
     refine ⟨_,_,kvs,ks,rfl,ed,hkv,⟨hN.once,hN.le,hN.has,hN.why,fun k hk hp r' hr2 j hj=>?_⟩,kp3⟩
     by_cases e:k=at_
     ·subst e
      rw [hr'] at hr2
      cases hr2
      exact hm j hj
     ·exact hN.fin k hk (by omega) r' hr2 j hj
   ·refine zep hin ⟨_,_,kvs,ks,rfl,ed,hkv,⟨hN.once,hN.le,hN.has,hN.why,fun k hk hp r' hr2 j hj=>?_⟩,kp⟩
    exact hN.fin k hk (by have:k≠at_:=fun e=>hin (e▸hk);omega) r' hr2 j hj
  ·rintro σ' H2 ⟨v3,v4,kvs,ks,rfl,ed,hkv,hN,kp⟩
   refine c2 _ _ ⟨_,rfl,d,kvs,ks.map fun i:Nat=>(i:Int),rfl,ed,by rw [hkv,List.map_map];rfl,fun l ns' hl hpm hup=>?_⟩
   have hlH:H l=none:=by
    cases q:H l with
    | none=>rfl
    | some x=>rw [kp _ _ q] at hl;cases hl
   have hback:∀{l:List Int},(∀z∈l,0≤z)->(l.map Int.toNat).map (fun i:Nat=>(i:Int))=l:=fun {l} h=>by
    rw [List.map_map]
    conv=>rhs;rw [←List.map_id l]
    exact List.map_congr_left fun z hz=>Int.toNat_of_nonneg (h z hz)
   have hnn:∀z∈ns',0≤z:=fun z hz=>by
    obtain ⟨k,_,rfl⟩:=ZA7.mp (hpm.mem_iff.mp hz)
    omega
   have hpn:(ns'.map Int.toNat).Perm ks:=by
    have:=hpm.map Int.toNat
    rw [List.map_map] at this
    have e:ks.map (Int.toNat ∘ fun i:Nat=>(i:Int))=ks:=by
     conv=>rhs;rw [←List.map_id ks]
     exact List.map_congr_left fun z _=>ZBd z
    rw [e] at this
    exact this
   have s3:zbu H (upd H2 l (.lst (ns'.map V.int))):=fun b o e=>by rw [zaj (zae (kp _ _ e) hl)];exact kp _ _ e
   refine k l _ (ns'.map Int.toNat) hlH s3 ?_ ⟨?_,fun i hi=>hN.le i (hpn.mem_iff.mp hi),hpn.mem_iff.mpr hN.has,fun i hi r' hr' j hj=>?_,fun i hi=>?_⟩
   ·rw [zab]
    unfold zcq
    have e:ns'.map V.int=(ns'.map Int.toNat).map fun i:Nat=>V.int (i:Int):=by
     conv=>lhs;rw [←hback hnn]
     rw [List.map_map]
     rfl
    rw [e]
   ·have hnd:(ns'.map Int.toNat).Nodup:=hpn.nodup_iff.mpr hN.once
    have h1:(ns'.map Int.toNat).Pairwise (·≤·):=by
     rw [List.pairwise_map]
     exact hup.imp fun h=>Int.toNat_le_toNat h
    exact h1.imp₂ (fun a b h h'=>Nat.lt_of_le_of_ne h h') hnd
   ·have hi':=hpn.mem_iff.mp hi
    have:=hN.le i hi'
    exact hpn.mem_iff.mpr (hN.fin i hi' (by omega) r' hr' j hj)
   ·rcases hN.why i (hpn.mem_iff.mp hi) with e | ⟨k',hk',r',h1,h2⟩
    ·exact .inl e
    ·exact .inr ⟨k',hpn.mem_iff.mpr hk',r',h1,h2⟩
end
end
end Y0
namespace Y0
open PySem L2
noncomputable def zcu (rows:List MU.Row) (ns:List Nat) (i:Nat):Option MU.Row:=(rows[i]?).map fun r=>⟨r.what,r.word,r.used.map fun j=>ns.idxOf j⟩
noncomputable def zdf (rows:List MU.Row) (ns:List Nat):List MU.Row:=ns.filterMap (zcu rows ns)
theorem zp1 {ns:List Nat} {m x:Nat} (hn:ns.Nodup) (h:ns[m]?=some x):ns.idxOf x=m:=by
 obtain ⟨hm,rfl⟩:=ZAb.mp h
 exact List.Nodup.idxOf_getElem hn m hm
theorem zi9 {ns:List Nat} (h:ns.Pairwise (·<·)):ns.Nodup:=h.imp fun h=>ZAz h
theorem zoa {ns:List Nat} (h:ns.Pairwise (·<·)) {m x j:Nat} (hx:ns[m]?=some x) (hj:j∈ns) (hlt:j<x):j∈ns.take m:=by
 obtain ⟨i,hi,e⟩:=ZA8 hj
 obtain ⟨hm,e'⟩:=ZAb.mp hx
 have him:i<m:=ZAf fun z=>by
  rcases Nat.lt_or_eq_of_le (Nat.le_of_not_lt z) with z | z
  ·have:=ZA9.mp h m i hm hi z
   omega
  ·subst z
   omega
 rw [←e]
 exact List.mem_take_iff_getElem.mpr ⟨i,by omega,rfl⟩
noncomputable def zop:Sp:=fun vs H Q _=>∃(rl:Addr) (qs:List Addr) (rows:List MU.Row) (last:Nat),vs=[.ref rl,.int (last:Int)]∧H rl=some (.lst (qs.map V.ref))∧Paired (zf4 H) qs rows∧zur rows∧last<rows.length∧rows.length≤16500000∧
 ∀l H' ns ps,H l=none->zbu H H'->zwq rows last ns->H' l=some (.lst (ps.map V.ref))->Paired (zf4 H') ps (zdf rows ns)->Q (.ref l) H'
section
variable {P:Program} {w:World} {K:ZBq} {mg:Str->Option Value} {base:Heap}
noncomputable abbrev nPu:List Str:=["rows","last","places","paper","number","row"]
theorem zvn:zat nPu ["rows","last"] (zai sP_paper_up_to):=⟨rfl,rfl,rfl,by decide+kernel,rfl,by decide+kernel,by decide+kernel⟩
theorem zAk:zcg (zai sP_paper_up_to) nPu (fsc [(".0",.local),("used",.local),("places",.free)]) ["used","places"] [none,some 2]:=⟨rfl,by decide+kernel,by decide+kernel,by decide+kernel,rfl,by decide+kernel⟩
theorem zz6:(["used","places"]:List Str).Nodup:=by decide+kernel
section
seal L2.PE L2.PA L2.PT L2.PS L2.PSs L2.PG L2.PGs L2.PI L2.PO
theorem ok_paperUp {f fN:Addr} {fd fdN:FuncData} (F:Fn K mg "paper_up_to" sP_paper_up_to ["rows","last"] f fd) (hL:mg "len"=none) (hT:mg "tuple"=none)
 (FN:Fn K mg "numbers_needed" sP_numbers_needed ["rows","last"] fN fdN) (GN:zbj P w K mg base CX0 1 fN fdN ["rows","last"] zsr):zbj P w K mg base CX0 2 f fd ["rows","last"] zop:=by
 refine F.F.ok zvn (fun vs H Q E h=>?_) (fun cdv A outer s H vs Q E hr h=>?_)
 ·obtain ⟨_,_,_,_,rfl,_⟩:=h
  rfl
 ·obtain ⟨rl,qs,rows,last,rfl,hrl,hrows,hU,hlast,hlen,k⟩:=h
  have hu:=zfc hr
  refine ⟨_,zag (za0 (i:=2) zvn.nd rfl (Or.inr rfl) zmy)
   (zag (za0 (i:=3) zvn.nd rfl (Or.inl rfl) (zcy zac))
   (zag (zcx PassesOwn.never rfl (zb2 (zao GN hr rfl FN.g FN.F.kp FN.b .nil za1 (zaa (pv 0) (zaa (pv 1) zac)))) (zap (i:=4) zvn.nd rfl (Or.inl rfl))
    (zag (za0 (i:=5) zvn.nd rfl (Or.inl rfl) (za9 zav (pv 0) (pv 4) (fun _ _=>rfl)))
    (zag (zjn hu (pv 2) (pv 4) (zau za5 (by rfl) hL PySem.boot_len (zaa (pv 3) zac)) rfl)
    (zaf (zbt (zjp PySem.F.plainAttrs_list PySem.F.slot_list_append PySem.F.type_list_append zcs (pv 3) (zaa (za8 (zaa (ixT (pv 5)) (zaa (ixT (pv 5)) (zaa (zd3 zgm (by rfl) hT (by decide+kernel) (zaa (zc7 rfl (zga (ixT (pv 5))) zAk (fun cl ex s0 H0=>⟨zap (i:=0) zz6 rfl (Or.inl rfl),zdi,zc6 hu (pv 1) (pv 0) (fun _ _=>rfl)⟩)) zac)) zac)))) zac)))))))
   (zaf (zaq (pv 3))))),?_⟩
  refine fun N1 c1 d hd=>c1 _ _ ?_
  have s1:=zad (o:=.dK []) hd
  have e1:upd H d (.dK []) d=some (.dK []):=zab
  generalize upd H d (.dK [])=H1 at*
  clear c1 N1
  refine fun N2 c2=>⟨ZAq _,fun pl hpl=>c2 _ _ ?_⟩
  have s2:=zad (o:=.lst []) hpl
  have e2:upd H1 pl (.lst []) pl=some (.lst []):=zab
  have plH:H pl=none:=by
   cases q:H pl with
   | none=>rfl
   | some x=>rw [s1 _ _ q] at hpl;cases hpl
  have dpl:d≠pl:=zae e1 hpl
  generalize upd H1 pl (.lst [])=H2 at*
  clear c2 N2
  have s02:=s1.trans s2
  have hql:qs.length=rows.length:=Paired.length hrows
  refine fun N3 c3=>⟨_,rfl,_,rfl,rl,qs,rows,last,rfl,s02 _ _ hrl,zan hrows fun q r e=>e.same s02,hU,hlast,hlen,fun l H3 ns hl s3 el hN=>?_⟩
  have hnd:=zi9 hN.up
  have hnl:ns.length≤last+1:=MH.zea (last+1) ns hnd fun z hz=>by have:=hN.le z hz;omega
  have s03:=s02.trans s3
  have ed3:=s3 _ _ (s2 _ _ e1)
  have ep3:=s3 _ _ e2
  have lH:H l=none:=by
   cases q:H l with
   | none=>rfl
   | some x=>rw [s02 _ _ q] at hl;cases hl
  have ld:l≠d:=Ne.symm (zae (s2 _ _ e1) hl)
  have lp:l≠pl:=Ne.symm (zae e2 hl)
  refine ⟨l,rfl,⟨_,SqL.of el⟩,?_⟩
  refine zcf (K:=K) (a:=l) (xs:=zcq ns) (fun m σ' H'=>∃v4 v5 kvs ps,σ'=[some (.ref rl),some (.int (last:Int)),some (.ref d),some (.ref pl),v4,v5]∧H' d=some (.dK kvs)∧kvs.length≤m∧
   (∀j:Nat,j∈ns.take m->zfg kvs (Sum.inl (j:Int))=some (.int (ns.idxOf j:Int)))∧H' pl=some (.lst (ps.map V.ref))∧ps.length=m∧Paired (zf4 H') ps ((ns.take m).filterMap (zcu rows ns))∧H' l=some (.lst (zcq ns))∧zbu H H')
   ⟨none,none,[],[],rfl,ed3,ZAc _,fun j hj=>by simp at hj,ep3,rfl,.nil,el,s03⟩ ?_ ?_ ?_
  ·rintro m σ' H4 _ ⟨_,_,_,_,rfl,_,_,_,_,_,_,e,_⟩
   exact SqL.of e
  ·rintro m x σ' H4 hx ⟨v4,v5,kvs,ps,rfl,ed,hkl,hkv,ep,hpl',hps,el4,s4⟩
   unfold zcq at hx
   rw [ZAg] at hx
   cases hj:ns[m]? with
   | none=>rw [hj] at hx;cases hx
   | some num=>
    rw [hj] at hx
    cases hx
    have hmn:m<ns.length:=(ZAb.mp hj).1
    have hnum:=hN.le num (ZAh hj)
    obtain ⟨q,hq⟩:∃q,qs[num]?=some q:=⟨_,ZAd (by omega)⟩
    obtain ⟨r,hr',pw,pu,g4,g5,g6⟩:=paired_get hrows hq
    have hat:atI (qs.map V.ref) (num:Int)=some (.ref q):=zby (by rw [ZAg,hq];rfl)
    refine fun N5 c5=>⟨_,rfl,zqp rfl (s4 _ _ hrl) hat (c5 _ _ ?_)⟩
    clear c5 N5
    refine fun N6 c6=>⟨_,rfl,pl,_,rfl,.inl (SqL.of ep),_,rfl,_,rfl,d,_,rfl,zqs.k (k:=Sum.inl (num:Int)) ed (zkp (by omega)),c6 _ _ ?_⟩
    rw [ZAa,hpl']
    clear c6 N6
    have kd:∀{b:Addr} {o:HO},H4 b=some o->b≠d->upd H4 d (.dK (ze9 kvs (Sum.inl (num:Int)) (.int (m:Int)))) b=some o:=fun e ne=>by rw [zaj ne];exact e
    have ed5:upd H4 d (.dK (ze9 kvs (Sum.inl (num:Int)) (.int (m:Int)))) d=some (.dK (ze9 kvs (Sum.inl (num:Int)) (.int (m:Int)))):=zab
    have s5:zbu H (upd H4 d (.dK (ze9 kvs (Sum.inl (num:Int)) (.int (m:Int))))):=fun b o e=>kd (s4 _ _ e) (zae e hd)
    have ep5:=kd ep (Ne.symm dpl)
    have el5:=kd el4 ld
    have hps5:Paired (zf4 (upd H4 d (.dK (ze9 kvs (Sum.inl (num:Int)) (.int (m:Int)))))) ps ((ns.take m).filterMap (zcu rows ns)):=zan hps fun q r ⟨pw,pu,h1,h2,h3⟩=>
     ⟨pw,pu,kd h1 (zbp h1 ed (fun z=>nomatch z)),kd h2 (zbp h2 ed (fun z=>nomatch z)),kd h3 (zbp h3 ed (fun z=>nomatch z))⟩
    generalize upd H4 d (.dK (ze9 kvs (Sum.inl (num:Int)) (.int (m:Int))))=H5 at*
    have et:ns.take (m+1)=ns.take m++[num]:=by rw [ZBa,hj];rfl
    have hkv5:∀j:Nat,j∈ns.take (m+1)->zfg (ze9 kvs (Sum.inl (num:Int)) (.int (m:Int))) (Sum.inl (j:Int))=some (.int (ns.idxOf j:Int)):=fun j hj'=>by
     rw [zf8]
     by_cases e:j=num
     ·subst e
      rw [if_pos rfl,zp1 hnd hj]
     ·rw [if_neg (show ¬((Sum.inl (j:Int):Key)=Sum.inl (num:Int)) from fun z=>e (Int.ofNat.inj (Sum.inl.inj z)))]
      rw [et] at hj'
      rcases ZA4.mp hj' with h | h
      ·exact hkv j h
      ·exact absurd (ZAt.mp h) e
    have hu2:=hU num r hr'
    refine ⟨_,rfl,.inl ⟨rfl,_,SqL.of ep5⟩,_,rfl,rdT (s5 _ _ g4) rfl ⟨_,rfl,rdT (s5 _ _ g4) rfl ⟨_,rfl,rdT (s5 _ _ g4) rfl ⟨pu,rfl,⟨_,SqT.of (s5 _ _ g6)⟩,fun Da hDa=>?_⟩⟩⟩⟩
    refine zee (xs:=r.used.map fun i:Nat=>V.int (i:Int)) (fun a σ' H'=>∃v,σ'=[v,some (.ref d)]∧H' Da=some (.lst (((r.used.take a).map fun j=>ns.idxOf j).map fun i:Nat=>V.int (i:Int)))∧zbu H5 H') ⟨none,rfl,zab,zad hDa⟩ ?_ ?_ ?_
    ·rintro a σ' H6 _ ⟨v,rfl,_,s6⟩
     exact SqT.of (s6 _ _ (s5 _ _ g6))
    ·rintro a x σ' H6 hx ⟨v,rfl,e6,s6⟩
     rw [ZAg] at hx
     cases hj2:r.used[a]? with
     | none=>rw [hj2] at hx;cases hx
     | some j=>
      rw [hj2] at hx
      cases hx
      have hjm:=ZAh hj2
      have hjn:=hN.uses num (ZAh hj) r hr' j hjm
      have hin:j∈ns.take (m+1):=by rw [et];exact List.mem_append_left _ (zoa hN.up hj hjn (hu2.2 j hjm))
      have dg:ze7 H6 d (.int (j:Int)) (some (.int (ns.idxOf j:Int))):=by
       have:=ze7.k (k:=Sum.inl (j:Int)) (s6 _ _ ed5)
       rw [hkv5 j hin] at this
       exact this
      refine ⟨_,rfl,_,rfl,d,_,rfl,dg,_,e6,?_,_,rfl,?_,fun b o e=>?_⟩
      ·rw [ZAa,ZAa,ZA1]
       exact zaz (by omega)
      ·rw [zab,ZBa,hj2,ZAp,ZAp]
       rfl
      ·rw [zaj (zae e hDa)]
       exact s6 _ _ e
    ·rintro σ' H6 ⟨v,rfl,e6,s6⟩
     have hall:r.used.take (r.used.map fun i:Nat=>V.int (i:Int)).length=r.used:=by rw [ZAa];exact ZAy
     rw [hall] at e6
     refine ⟨Da,_,rfl,.inl ⟨SqL.of e6,fun tu htu=>⟨by show 3≤sizeLine;decide,fun rt hrt=>?_⟩⟩⟩
     have s7:=zad (o:=.tup ((r.used.map fun j=>ns.idxOf j).map fun i:Nat=>V.int (i:Int))) htu
     have e7:upd H6 tu (.tup ((r.used.map fun j=>ns.idxOf j).map fun i:Nat=>V.int (i:Int))) tu=some (.tup ((r.used.map fun j=>ns.idxOf j).map fun i:Nat=>V.int (i:Int))):=zab
     generalize upd H6 tu (.tup ((r.used.map fun j=>ns.idxOf j).map fun i:Nat=>V.int (i:Int)))=H7 at*
     have s8:=zad (o:=.tup [.ref pw,.str (zdb r.word),.ref tu]) hrt
     have e8:upd H7 rt (.tup [.ref pw,.str (zdb r.word),.ref tu]) rt=some (.tup [.ref pw,.str (zdb r.word),.ref tu]):=zab
     generalize upd H7 rt (.tup [.ref pw,.str (zdb r.word),.ref tu])=H8 at*
     have s58:=(s6.trans s7).trans s8
     have ep8:=s58 _ _ ep5
     refine ⟨pl,_,_,rfl,rfl,ep8,by rw [ZAa,hpl'];exact zkp (by omega),?_⟩
     have kp:∀{b:Addr} {o:HO},H8 b=some o->b≠pl->upd H8 pl (.lst (ps.map V.ref++[.ref rt])) b=some o:=fun e ne=>by rw [zaj ne];exact e
     have tup:∀{b:Addr} {xs:List V},H8 b=some (.tup xs)->upd H8 pl (.lst (ps.map V.ref++[.ref rt])) b=some (.tup xs):=fun e=>kp e (zbp e ep8 (fun z=>nomatch z))
     refine ⟨_,_,_,ps++[rt],rfl,kp (s58 _ _ ed5) dpl,ZAw (zdg _ _ _) (by omega),hkv5,?_,by rw [ZAj,hpl'];rfl,?_,kp (s58 _ _ el5) lp,fun b o e=>kp (s58 _ _ (s5 _ _ e)) (zae e plH)⟩
     ·rw [zab,ZAp]
      rfl
     ·rw [et,List.filterMap_append]
      refine zbd (zan hps5 fun q r' ⟨pw',pu',h1,h2,h3⟩=>⟨pw',pu',tup (s58 _ _ h1),tup (s58 _ _ h2),tup (s58 _ _ h3)⟩) ?_
      have er:zcu rows ns num=some ⟨r.what,r.word,r.used.map fun j=>ns.idxOf j⟩:=by unfold zcu;rw [hr'];rfl
      rw [show [num].filterMap (zcu rows ns)=[⟨r.what,r.word,r.used.map fun j=>ns.idxOf j⟩] by simp [er]]
      exact .cons ⟨pw,tu,tup e8,tup (s58 _ _ (s5 _ _ g5)),tup (s8 _ _ e7)⟩ .nil
  ·rintro σ' H4 ⟨v4,v5,kvs,ps,rfl,ed,hkl,hkv,ep,hpl',hps,el4,s4⟩
   have hall:ns.take (zcq ns).length=ns:=by unfold zcq;rw [ZAa];exact ZAy
   rw [hall] at hps
   exact c3 _ _ ⟨_,rfl,k pl H4 ns ps plH s4 hN ep hps⟩
end
end
end Y0
namespace MU
variable {n:Nat} {F:za4} {s fs:St} {at_ a b:Nat} {p:zar}
section
variable (hp:wat s at_=some p) (hZ:Imp (zb4 n F at_ a b s) fs)
end
end MU
namespace MU
variable {n:Nat} {F:za4} {most:Int} {s0:St} {T:Nat}
end MU
namespace MU
noncomputable def ztc (F:za4) (D:zar->Prop) (st:St) (r:Row):Prop:=
 (r.word=.told∧r.used=[]∧D r.what)∨
 (r.word=.late∧∃i p,r.used=[i]∧wat st i=some p∧zbm F p=some r.what)∨
 (r.word=.soon∧∃i p,r.used=[i]∧wat st i=some p∧zbr F p=some r.what)∨
 (r.word=.sure∧∃i p,r.used=[i]∧wat st i=some p∧zbh F p=some r.what)∨
 (r.word=.cross∧∃i p,r.used=[i]∧wat st i=some p∧za2 F p=some r.what)∨
 (r.word=.sum∧∃i j p q,r.used=[i,j]∧wat st i=some p∧wat st j=some q∧za7 p q=some r.what)∨
 (r.word=.back∧∃i j p q,r.used=[i,j]∧wat st i=some p∧wat st j=some q∧zay F p q=some r.what)
variable {F:za4} {D:zar->Prop} {n:Nat}
theorem ztc.ext {s s':St} {r:Row} (h:ztc F D s r) (e:Ext s s'):ztc F D s' r:=by
 have o:∀{f:zar->Option zar},(∃i p,r.used=[i]∧wat s i=some p∧f p=some r.what)->∃i p,r.used=[i]∧wat s' i=some p∧f p=some r.what:=fun ⟨i,p,h1,h2,h3⟩=>⟨i,p,h1,za3 e h2,h3⟩
 have t:∀{f:zar->zar->Option zar},(∃i j p q,r.used=[i,j]∧wat s i=some p∧wat s j=some q∧f p q=some r.what)->∃i j p q,r.used=[i,j]∧wat s' i=some p∧wat s' j=some q∧f p q=some r.what:=fun ⟨i,j,p,q,h1,h2,h3,h4⟩=>⟨i,j,p,q,h1,za3 e h2,za3 e h3,h4⟩
 rcases h with h | ⟨w,h⟩ | ⟨w,h⟩ | ⟨w,h⟩ | ⟨w,h⟩ | ⟨w,h⟩ | ⟨w,h⟩
 ·exact .inl h
 ·exact .inr (.inl ⟨w,o h⟩)
 ·exact .inr (.inr (.inl ⟨w,o h⟩))
 ·exact .inr (.inr (.inr (.inl ⟨w,o h⟩)))
 ·exact .inr (.inr (.inr (.inr (.inl ⟨w,o h⟩))))
 ·exact .inr (.inr (.inr (.inr (.inr (.inl ⟨w,t h⟩)))))
 ·exact .inr (.inr (.inr (.inr (.inr (.inr ⟨w,t h⟩)))))
noncomputable def Drawn (F:za4) (D:zar->Prop) (st:St):Prop:=∀(i:Nat) (r:Row),st.rows[i]?=some r->ztc F D st r
theorem ziq {st:St} {w:zar} {word:Wd} {us:List Nat} (h:Drawn F D st) (hr:ztc F D st ⟨w,word,us⟩):Drawn F D (take st w word us):=fun i r hi=>by
 have e:=zf9 st w word us
 unfold take at hi
 split at hi
 ·have hi:(st.rows++[(⟨w,word,us⟩:Row)])[i]?=some r:=hi
  by_cases hl:i<st.rows.length
  ·rw [ZA6 hl] at hi
   exact (h i r hi).ext e
  ·rw [ZA0 (by omega)] at hi
   cases hk:i-st.rows.length with
   | zero=>rw [hk] at hi;cases hi;exact hr.ext e
   | succ k=>rw [hk] at hi;cases hi
 ·exact (h i r hi).ext e
theorem zks {st:St} {o:Option zar} {word:Wd} {us:List Nat} (h:Drawn F D st) (hr:∀w,o=some w->ztc F D st ⟨w,word,us⟩):Drawn F D (put st o word us):=by
 cases o with
 | none=>exact h
 | some w=>exact ziq h (hr w rfl)
theorem zhj {f:zar->Option zar} {word:Wd} {i:Nat} {st:St} (h:Drawn F D st) (hr:∀w,(∃i' p,[i]=[i']∧wat st i'=some p∧f p=some w)->ztc F D st ⟨w,word,[i]⟩):Drawn F D (zbc f word i st):=zks h fun w e=>by
 cases hp:wat st i with
 | none=>rw [hp] at e;cases e
 | some p=>rw [hp] at e;exact hr w ⟨i,p,rfl,hp,e⟩
theorem zm9 {f:zar->zar->Option zar} {word:Wd} {i j:Nat} {st:St} (h:Drawn F D st) (hr:∀w,(∃i' j' p q,[i,j]=[i',j']∧wat st i'=some p∧wat st j'=some q∧f p q=some w)->ztc F D st ⟨w,word,[i,j]⟩):Drawn F D (zaw f word i j st):=zks h fun w e=>by
 cases hp:wat st i with
 | none=>rw [hp] at e;cases e
 | some p=>
  rw [hp] at e
  have e:((wat st j).bind fun q=>f p q)=some w:=e
  cases hq:wat st j with
  | none=>rw [hq] at e;cases e
  | some q=>rw [hq] at e;exact hr w ⟨i,j,p,q,rfl,hp,hq,e⟩
theorem zes {g:St->Nat->St} (hg:∀s j,Drawn F D s->Drawn F D (g s j)):∀(l:List Nat) (s:St),Drawn F D s->Drawn F D (l.foldl g s)
 | [],_,h=>h
 | a::l,s,h=>zes hg l _ (hg s a h)
theorem zkq {s:St} (h:Drawn F D s):∀t,Drawn F D (run n F s t)
 | 0=>h
 | t+1=>by
  have ih:=zkq h t
  show Drawn F D (look n F t (run n F s t))
  unfold look
  have sum:∀i j s,Drawn F D s->Drawn F D (zaw za7 .sum i j s):=fun i j s h=>zm9 h fun w e=>.inr (.inr (.inr (.inr (.inr (.inl ⟨rfl,e⟩)))))
  have back:∀i j s,Drawn F D s->Drawn F D (zaw (zay F) .back i j s):=fun i j s h=>zm9 h fun w e=>.inr (.inr (.inr (.inr (.inr (.inr ⟨rfl,e⟩)))))
  split
  ·split
   ·split
    ·exact zes (fun s j h=>back j t s h) _ _ (zes (fun s j h=>sum j t s h) _ _ (zes (fun s j h=>sum t j s h) _ _ (zhj (zhj ih fun w e=>.inr (.inl ⟨rfl,e⟩)) fun w e=>.inr (.inr (.inl ⟨rfl,e⟩)))))
    ·exact zes (fun s j h=>back t j s h) _ _ (zhj (zhj ih fun w e=>.inr (.inr (.inr (.inl ⟨rfl,e⟩)))) fun w e=>.inr (.inr (.inr (.inr (.inl ⟨rfl,e⟩)))))
   ·exact ih
  ·exact ih
theorem zhr:∀(rows:List zar) (s:St),Drawn F D s->(∀w∈rows,D w)->Drawn F D (zfy rows s)
 | [],_,h,_=>h
 | w::r,s,h,hw=>zhr r _ (ziq h (.inl ⟨rfl,rfl,hw w ZAl⟩)) fun w' hw'=>hw w' (ZAk _ hw')
theorem zl6:Drawn F D empty:=fun i r h=>by simp [empty] at h
end MU
namespace Y0
open PySem L2
theorem zp5 {α β:Type} {f:α->Option β}:∀{l:List α} {m:Nat},(∀a∈l,(f a).isSome=true)->(l.filterMap f)[m]?=(l[m]?).bind f
 | [],m,_=>by simp
 | a::l,m,h=>by
  obtain ⟨b,hb⟩:=Option.isSome_iff_exists.mp (h a ZAl)
  rw [ZBh hb]
  cases m with
  | zero=>exact hb.symm
  | succ m=>exact zp5 (l:=l) (m:=m) fun x hx=>h x (ZAk _ hx)
theorem zs4 {α β:Type} {f:α->Option β}:∀{l:List α},(∀a∈l,(f a).isSome=true)->(l.filterMap f).length=l.length
 | [],_=>rfl
 | a::l,h=>by
  obtain ⟨b,hb⟩:=Option.isSome_iff_exists.mp (h a ZAl)
  rw [ZBh hb,ZA5,ZA5,zs4 fun x hx=>h x (ZAk _ hx)]
noncomputable def zn4 (F:MU.za4) (D:MU.zar->Prop) (p:List MU.Row) (m:Nat) (r:MU.Row):Prop:=
 (r.word=.told∧r.used=[]∧D r.what)∨
 (r.word≠.told∧∃i ri,r.used=[i]∧i<m∧p[i]?=some ri∧zda F (zdb r.word) [ri.what] (some r.what))∨
 (r.word≠.told∧∃i j ri rj,r.used=[i,j]∧i<m∧j<m∧p[i]?=some ri∧p[j]?=some rj∧zda F (zdb r.word) [ri.what,rj.what] (some r.what))
structure zj5 (F:MU.za4) (D:MU.zar->Prop) (p:List MU.Row):Prop where
 row:∀m r,p[m]?=some r->zn4 F D p m r
 last:∃r,p[p.length-1]?=some r∧MU.zho r.what
theorem zun {F:MU.za4} {x y z:MU.zar} (h:MU.za7 x y=some z):zda F "sum" [x,y] (some z):=by
 have hc:x.tie=true∧y.tie=true∧x.b=y.a:=ZAf fun c=>by unfold MU.za7 at h;rw [if_neg c] at h;cases h
 rw [←h]
 exact .sum x y hc.1 hc.2.1
theorem zr8 {F:MU.za4} {x z:MU.zar} (h:MU.zbm F x=some z):zda F "late" [x] (some z):=by
 have hc:x.tie=true∧x.a≠x.b:=ZAf fun c=>by unfold MU.zbm at h;rw [if_neg c] at h;cases h
 rw [←h]
 exact .late x hc.1
theorem zr7 {F:MU.za4} {x z:MU.zar} (h:MU.zbr F x=some z):zda F "soon" [x] (some z):=by
 have hc:x.tie=true∧x.a≠x.b∧x.v<0:=ZAf fun c=>by unfold MU.zbr at h;rw [if_neg c] at h;cases h
 rw [←h]
 exact .soon x hc.1
theorem zr6 {F:MU.za4} {x z:MU.zar} (h:MU.zbh F x=some z):zda F "sure" [x] (some z):=by
 have hc:x.tie=false:=ZAf fun c=>by unfold MU.zbh at h;rw [if_neg c] at h;cases h
 cases hf:F x.b with
 | none=>unfold MU.zbh at h;rw [if_pos hc,hf] at h;cases h
 | some f=>rw [←h];exact .sure x f hc hf
theorem zr9 {F:MU.za4} {x y z:MU.zar} (h:MU.zay F x y=some z):zda F "back" [x,y] (some z):=by
 have hc:x.tie=false∧y.tie=true∧y.b=x.a∧y.a≠x.b:=ZAf fun c=>by unfold MU.zay at h;rw [if_neg c] at h;cases h
 cases hf:F x.b with
 | none=>unfold MU.zay at h;rw [if_pos hc,hf] at h;cases h
 | some f=>rw [←h];exact .back x y f hc.1 hc.2.1 hf
theorem zqo {F:MU.za4} {x z:MU.zar} (h:MU.za2 F x=some z):zda F "cross" [x] (some z):=by
 have hc:x.tie=false∧x.a≠x.b∧0<x.v:=ZAf fun c=>by unfold MU.za2 at h;rw [if_neg c] at h;cases h
 cases hf:F x.b with
 | none=>
  unfold MU.za2 at h
  rw [if_pos hc,hf] at h
  cases hg:F x.a with
  | none=>rw [hg] at h;cases h
  | some g=>rw [hg] at h;cases h
 | some f=>rw [←h];exact .cross x f hc.1 hf
theorem zrh {F:MU.za4} {D:MU.zar->Prop} {st:MU.St} {b:Nat} {ns:List Nat} {rb:MU.Row} (hD:MU.Drawn F D st) (hU:zur st.rows) (hN:zwq st.rows b ns) (hb:st.rows[b]?=some rb) (bars:MU.zho rb.what):zj5 F D (zdf st.rows ns):=by
 have hbl:=(ZAb.mp hb).1
 have hs:∀i∈ns,∃r,st.rows[i]?=some r:=fun i hi=>by
  have:=hN.le i hi
  exact ⟨_,ZAd (by omega)⟩
 have hsome:∀i∈ns,(zcu st.rows ns i).isSome=true:=fun i hi=>by
  obtain ⟨r,hr⟩:=hs i hi
  unfold zcu
  rw [hr]
  rfl
 have nd:=zi9 hN.up
 have at_:∀{j:Nat} {r:MU.Row},j∈ns->st.rows[j]?=some r->(zdf st.rows ns)[ns.idxOf j]?=some ⟨r.what,r.word,r.used.map fun j=>ns.idxOf j⟩:=fun {j r} hj hr=>by
  unfold zdf
  rw [zp5 hsome]
  have hi:=List.idxOf_lt_length_iff.mpr hj
  rw [ZAd hi,List.getElem_idxOf hi]
  show zcu st.rows ns j=_
  unfold zcu
  rw [hr]
  rfl
 refine ⟨fun m r hm=>?_,?_⟩
 ·unfold zdf at hm
  rw [zp5 hsome] at hm
  cases hx:ns[m]? with
  | none=>rw [hx] at hm;cases hm
  | some x=>
   rw [hx] at hm
   have hxm:x∈ns:=ZAh hx
   obtain ⟨r0,hr0⟩:=hs x hxm
   have hm:zcu st.rows ns x=some r:=hm
   unfold zcu at hm
   rw [hr0] at hm
   have hm:(⟨r0.what,r0.word,r0.used.map fun j=>ns.idxOf j⟩:MU.Row)=r:=ZAn hm
   subst hm
   have hu:=hN.uses x hxm r0 hr0
   have hlt:=(hU x r0 hr0).2
   have idx:∀j∈r0.used,ns.idxOf j<m:=fun j hj=>by
    have h1:=zoa hN.up hx (hu j hj) (hlt j hj)
    obtain ⟨i,hi,e⟩:=List.mem_take_iff_getElem.mp h1
    have:ns[i]?=some j:=by rw [ZAd (by omega),e]
    rw [zp1 nd this]
    omega
   have one:∀{f:MU.zar->Option MU.zar} {wd:MU.Wd},r0.word=wd->wd≠.told->(∃i p,r0.used=[i]∧MU.wat st i=some p∧f p=some r0.what)->(∀p,f p=some r0.what->zda F (zdb wd) [p] (some r0.what))->zn4 F D (zdf st.rows ns) m ⟨r0.what,r0.word,r0.used.map fun j=>ns.idxOf j⟩:=fun {f wd} e1 e2 ⟨i,p,h1,h2,h3⟩ h4=>by
    have hi:i∈r0.used:=by rw [h1];exact ZAt.mpr rfl
    unfold MU.wat at h2
    cases hq:st.rows[i]? with
    | none=>rw [hq] at h2;cases h2
    | some ri=>
     rw [hq] at h2
     have h2:ri.what=p:=ZAn h2
     have h5:=at_ (hu i hi) hq
     refine .inr (.inl ⟨by rw [e1];exact e2,ns.idxOf i,_,by rw [h1];rfl,idx i hi,h5,?_⟩)
     rw [e1]
     show zda F (zdb wd) [ri.what] (some r0.what)
     rw [h2]
     exact h4 p h3
   have two:∀{f:MU.zar->MU.zar->Option MU.zar} {wd:MU.Wd},r0.word=wd->wd≠.told->(∃i j p q,r0.used=[i,j]∧MU.wat st i=some p∧MU.wat st j=some q∧f p q=some r0.what)->(∀p q,f p q=some r0.what->zda F (zdb wd) [p,q] (some r0.what))->zn4 F D (zdf st.rows ns) m ⟨r0.what,r0.word,r0.used.map fun j=>ns.idxOf j⟩:=fun {f wd} e1 e2 ⟨i,j,p,q,h1,h2,h3,h6⟩ h4=>by
    have hi:i∈r0.used:=by rw [h1];exact ZAl
    have hj:j∈r0.used:=by rw [h1];exact ZAk _ (ZAt.mpr rfl)
    unfold MU.wat at h2 h3
    cases hq:st.rows[i]? with
    | none=>rw [hq] at h2;cases h2
    | some ri=>
     cases hq':st.rows[j]? with
     | none=>rw [hq'] at h3;cases h3
     | some rj=>
      rw [hq] at h2
      rw [hq'] at h3
      have h2:ri.what=p:=ZAn h2
      have h3:rj.what=q:=ZAn h3
      have h5:=at_ (hu i hi) hq
      have h7:=at_ (hu j hj) hq'
      refine .inr (.inr ⟨by rw [e1];exact e2,ns.idxOf i,ns.idxOf j,_,_,by rw [h1];rfl,idx i hi,idx j hj,h5,h7,?_⟩)
      rw [e1]
      show zda F (zdb wd) [ri.what,rj.what] (some r0.what)
      rw [h2,h3]
      exact h4 p q h6
   rcases hD x r0 hr0 with ⟨w,u,d⟩ | ⟨w,h⟩ | ⟨w,h⟩ | ⟨w,h⟩ | ⟨w,h⟩ | ⟨w,h⟩ | ⟨w,h⟩
   ·exact .inl ⟨w,by show r0.used.map _=[];rw [u];rfl,d⟩
   ·exact one w (fun z=>nomatch z) h fun p=>zr8
   ·exact one w (fun z=>nomatch z) h fun p=>zr7
   ·exact one w (fun z=>nomatch z) h fun p=>zr6
   ·exact one w (fun z=>nomatch z) h fun p=>zqo
   ·exact two w (fun z=>nomatch z) h fun p q=>zun
   ·exact two w (fun z=>nomatch z) h fun p q=>zr9
 ·
  have hlen:(zdf st.rows ns).length=ns.length:=zs4 hsome
  have h1:=at_ hN.has hb
  obtain ⟨i,hi,e⟩:=ZA8 hN.has
  have hib:ns.idxOf b=i:=zp1 nd (by rw [ZAd hi,e])
  have hlast:i=ns.length-1:=ZAf fun c=>by
   have hm:ns.length-1<ns.length:=by omega
   have h2:=ZA9.mp hN.up i (ns.length-1) hi hm (by omega)
   have h3:=hN.le ns[ns.length-1] (ZBj hm)
   omega
  rw [hlen,←hlast,←hib]
  exact ⟨_,h1,bars⟩
end Y0
namespace L2
open PySem PySem.Spec PyProof.Rows
section
variable {X:Cx} {K:ZBq}
noncomputable def zvt (K:ZBq):R2:=fun x y H Q=>∃p q xs,x=.ref p∧y=.ref q∧SqL K H p xs∧SqL K H q []∧Q (.bl (!xs.isEmpty)) H
theorem zjq (hK:X.K=K) (hu:X.A.units+64<cLine):OpR X (compareOp .NotEq) (zvt K):=by
 subst hK
 intro pins s σ H x y v u Q I rx ry h
 obtain ⟨p,q,xs,rfl,rfl,h1,h2,hq⟩:=h
 cases rx
 cases ry
 obtain ⟨us,r1,p1,_⟩:=I.list h1
 obtain ⟨vs,r2,p2,_⟩:=I.list h2
 have l1:=r1.length
 have l2:=r2.length
 have v0:vs=[]:=List.length_eq_zero_iff.mp l2.symm
 subst v0
 cases xs with
 | nil=>
  have u0:us=[]:=List.length_eq_zero_iff.mp l1.symm
  subst u0
  exact SeqAt.RcNeAt.lists (e:=fun _=>true) p1.isList p2.isList rfl (by omega) (fun j h1 _=>absurd h1 (ZBm _)) _ _ _ _ ⟨.bl _,H,I,rfl,hq⟩
 | cons a t=>
  refine SeqAt.RcNeAt.lists_lengths p1.isList p2.isList ?_ (by omega) _ _ _ _ ⟨.bl _,H,I,rfl,hq⟩
  rw [ZAi,←l1]
  rfl
end
end L2
namespace L2
open PySem PySem.Spec PyProof.Rows
noncomputable def zii (xs ys:List V):Bool:=((List.range (min xs.length ys.length)).all fun j=>eqV (xs.getD j .non) (ys.getD j .non)) && xs.length==ys.length
noncomputable def eqR (H:Hp) (xs:List V):Value->Bool
 | .ref b=>match H b with
  | some (.tup ys)=>zii ys xs
  | _=>false
 | _=>false
theorem zry:∀{x:V},zc0 x=true->eqV x x=true
 | .non,_=>rfl
 | .bl b,_=>(ZBn b:(b==b)=true)
 | .int i,_=>(ZBn i:(i==i)=true)
 | .str s,_=>(ZBn s:(s==s)=true)
 | .byt _,h=>by cases h
 | .flt _,h=>by cases h
 | .ref _,h=>by cases h
 | .ty _,h=>by cases h
theorem zfp {xs:List V} (f:xs.all zc0=true):zii xs xs=true:=by
 unfold zii
 rw [ZBn,Bool.and_true,ZBc]
 intro j hj
 have hj:=List.mem_range.mp hj
 rw [Nat.min_self] at hj
 have g:xs[j]?=some (xs.getD j .non):=by rw [ZBg,ZAd hj];rfl
 exact zry (zgk f g)
section
variable {X:Cx}
theorem zrz {pins:List (Addr×Obj)} {σ:St} {H:Hp} {s:Shared} {A:Around} {p b:Addr} {xs ys:List V} (I:Inv X pins σ H s) (hu:A.units<cLine) (hp:H p=some (.tup xs)) (hb:H b=some (.tup ys)) (f1:xs.all zc0=true) (f2:ys.all zc0=true):
 SeqAt.EqAt A s (.ref b) (.ref p) (zii ys xs):=by
 by_cases e:b=p
 ·subst e
  rw [hp] at hb
  cases hb
  rw [zfp f1]
  exact SeqAt.EqAt.same _
 ·obtain ⟨us,r1,p1,_⟩:=I.tuple (SqT.of hb)
  obtain ⟨vs,r2,p2,_⟩:=I.tuple (SqT.of hp)
  have h:=SeqAt.RcAt.tuples (A:=A) p1 p2 hu (zjz r1 r2 f2 f1)
  have l1:=r1.length
  have l2:=r2.length
  rw [ZAi,ZAi,←l1,←l2] at h
  exact SeqAt.EqAt.of_refs e h
theorem zj3 {H:Hp} {xs:List V}:∀{ps:List Addr} {us:List Value},zcb (ps.map V.ref) us->us.any (eqR H xs)=ps.any fun b=>eqR H xs (.ref b)
 | [],_,.nil=>rfl
 | p::ps,_,.cons r t=>by
  cases r
  rw [List.any_cons,List.any_cons,zj3 t]
theorem zm1 {u:Value}:∀{ps:List Addr} {us:List Value},zcb (ps.map V.ref) us->u∈us->∃b∈ps,u=.ref b
 | [],_,.nil,h=>by cases h
 | p::ps,_,.cons r t,h=>by
  cases r
  rcases ZAu.mp h with e | h
  ·exact ⟨p,ZAl,e⟩
  ·obtain ⟨b,h1,h2⟩:=zm1 t h
   exact ⟨b,ZAk _ h1,h2⟩
noncomputable def zyz (neg:Bool):R2:=fun x y H Q=>∃(p:Addr) (xs:List V) (l:Addr) (ps:List Addr),x=.ref p∧y=.ref l∧H p=some (.tup xs)∧xs.all zc0=true∧H l=some (.lst (ps.map V.ref))∧(∀b∈ps,∃ys,H b=some (.tup ys)∧ys.all zc0=true)∧
 Q (.bl (if neg then !(ps.any fun b=>eqR H xs (.ref b)) else ps.any fun b=>eqR H xs (.ref b))) H
theorem zwi {pins:List (Addr×Obj)} {σ:St} {H:Hp} {s:Shared} {p:Addr} {xs:List V} {ps:List Addr} {us:List Value} (I:Inv X pins σ H s) (hu:X.A.units+64<cLine) (hp:H p=some (.tup xs)) (f:xs.all zc0=true) (hb:∀b∈ps,∃ys,H b=some (.tup ys)∧ys.all zc0=true) (r:zcb (ps.map V.ref) us):
 ∀y,y∈us.toArray->SeqAt.EqAt X.A.in1 s y (.ref p) (eqR H xs y):=fun y hy=>by
 obtain ⟨b,h1,rfl⟩:=zm1 r (by simpa using hy)
 obtain ⟨ys,h2,h3⟩:=hb b h1
 have:=zrz (A:=X.A.in1) I (show X.A.units+1<cLine by omega) hp h2 f h3
 rw [show eqR H xs (.ref b)=zii ys xs by show (match H b with | some (.tup ys)=>zii ys xs | _=>false)=_;rw [h2]]
 exact this
theorem zv4 (hu:X.A.units+64<cLine):OpR X (compareOp .In) (zyz false):=by
 intro pins s σ H x y v u Q I rx ry h
 obtain ⟨p,xs,l,ps,rfl,rfl,hp,f,hl,hb,q⟩:=h
 cases rx
 cases ry
 obtain ⟨us,r,pl,_⟩:=I.list (SqL.of hl)
 refine SeqAt.in_listAt (eqR H xs) pl.isList (zwi I hu hp f hb r) ⟨.bl _,H,I,rfl,?_⟩
 rw [show us.toArray.any (eqR H xs)=us.any (eqR H xs) by simp,zj3 r]
 exact q
theorem zph (hu:X.A.units+64<cLine):OpR X (compareOp .NotIn) (zyz true):=by
 intro pins s σ H x y v u Q I rx ry h
 obtain ⟨p,xs,l,ps,rfl,rfl,hp,f,hl,hb,q⟩:=h
 cases rx
 cases ry
 obtain ⟨us,r,pl,_⟩:=I.list (SqL.of hl)
 refine SeqAt.notIn_listAt (eqR H xs) pl.isList (zwi I hu hp f hb r) ⟨.bl _,H,I,rfl,?_⟩
 rw [show us.toArray.any (eqR H xs)=us.any (eqR H xs) by simp,zj3 r]
 exact q
noncomputable def zxs:R2:=fun x y H Q=>∃p q xs ys,x=.ref p∧y=.ref q∧H p=some (.tup xs)∧H q=some (.tup ys)∧xs.all zc0=true∧ys.all zc0=true∧Q (.bl (!zii xs ys)) H
theorem zpi (hu:X.A.units+64<cLine):OpR X (compareOp .NotEq) zxs:=by
 intro pins s σ H x y v u Q I rx ry h
 obtain ⟨p,q,xs,ys,rfl,rfl,h1,h2,f1,f2,hq⟩:=h
 cases rx
 cases ry
 obtain ⟨us,r1,p1,_⟩:=I.tuple (SqT.of h1)
 obtain ⟨vs,r2,p2,_⟩:=I.tuple (SqT.of h2)
 have l1:=r1.length
 have l2:=r2.length
 refine SeqAt.RcNeAt.tuples p1 p2 (by omega) (zjz r1 r2 f1 f2) _ _ _ _ ⟨.bl _,H,I,rfl,?_⟩
 rw [ZAi,ZAi,←l1,←l2]
 exact hq
noncomputable def zt1:R2:=fun x y H Q=>∃(p q:Addr) (ps:List Addr),x=.ref p∧y=.ref q∧H p=some (.lst (ps.map V.ref))∧H q=some (.lst (ps.map V.ref))∧Q (.bl false) H
theorem zo6:∀{ps:List Addr} {us vs:List Value},zcb (ps.map V.ref) us->zcb (ps.map V.ref) vs->us=vs
 | [],_,_,.nil,.nil=>rfl
 | p::ps,_,_,.cons r t,.cons r' t'=>by
  cases r
  cases r'
  rw [zo6 t t']
theorem zky (hu:X.A.units+64<cLine):OpR X (compareOp .NotEq) zt1:=by
 intro pins s σ H x y v u Q I rx ry h
 obtain ⟨p,q,ps,rfl,rfl,h1,h2,hq⟩:=h
 cases rx
 cases ry
 obtain ⟨us,r1,p1,_⟩:=I.list (SqL.of h1)
 obtain ⟨vs,r2,p2,_⟩:=I.list (SqL.of h2)
 obtain rfl:=zo6 r1 r2
 refine SeqAt.RcNeAt.lists (e:=fun _=>true) p1.isList p2.isList rfl (by omega) (fun j h1 h2=>SeqAt.EqAt.same _) _ _ _ _ ⟨.bl _,H,I,rfl,?_⟩
 rw [show ((List.range us.toArray.size).all fun _=>true)=true from ZBc.mpr fun _ _=>rfl]
 exact hq
end
end L2
namespace L2
open PySem PySem.Spec PyProof.Rows
theorem zqi:∀{bs:List Bool} {us:List Value} {i:Nat} {v:Value},zcb (bs.map V.bl) us->us[i]?=some v->∃b,bs[i]?=some b∧v=.bool b
 | [],_,i,v,h,e=>by cases h;simp at e
 | b::r,_,0,v,h,e=>by
  cases h with
  | cons q tl=>simp at e;subst e;exact ⟨b,rfl,q⟩
 | b::r,_,i+1,v,h,e=>by
  cases h with
  | cons q tl=>simp at e;simpa using zqi tl e
section
variable {X:Cx}
theorem zqh (hc:X.calm=true):zig X (.builtin "all") (fun xs H Q=>∃(p:Addr) (bs:List Bool),xs=[.ref p]∧H p=some (.lst (bs.map V.bl))∧Q (.bl (bs.all id)) H):=by
 intro pins s σ H xs us Q I r h
 obtain ⟨p,bs,rfl,hp,q⟩:=h
 obtain ⟨u,rfl,ru⟩:=znf r
 obtain rfl:u=Value.ref p:=ru
 obtain ⟨hz,its,n,rv,e⟩:=I.hok p _ hp
 have hl:s.heap.IsList p its.toArray:=⟨_,e,rfl,n,rfl⟩
 have hlt:p<s.heap.objs.size:=ZAs e
 have hh:=I.ok.hd hc
 have hlen:its.length=bs.length:=by rw [←rv.length,ZAa]
 refine call_all_walk (wpAny_pyIter_list hl ?_)
 refine ⟨s.heap.objs.size,[s.heap.objs.size,p],[s.heap.objs.size],its.toArray.size,_,_,fun i=>(bs[i]?).getD true,rfl,Walks.list (A:=X.A.in1) hh _ p (ZAz hlt) its.toArray,
  ⟨⟨_,ZAx _ rfl,rfl,rfl⟩,hl.push _⟩,fun i v s' Q' E' hP hQ=>?_,fun h' tk hk=>?_⟩
 ·obtain ⟨b,e,rfl⟩:=zqi rv (by simpa using hP)
  simp only [e,Option.getD_some] at hQ
  exact wpAny_truthy_bool hQ
 ·have e:((List.range its.toArray.size).all fun i=>(bs[i]?).getD true)=bs.all id:=by
   rw [ZAi,hlen];exact PyProof.Rows.LSm.range_all bs
  rw [e]
  exact ⟨.bl (bs.all id),H,I.kept (PyProof.Rows.LSm.kept_iter hk),rfl,q⟩
end
end L2
namespace Y0
open PySem L2
theorem zn4.uses {F:MU.za4} {D:MU.zar->Prop} {p:List MU.Row} {m:Nat} {r:MU.Row} (h:zn4 F D p m r) (hw:r.word≠.told):∃xs,Paired (fun (i:Nat) (x:MU.zar)=>i<m∧∃ri,p[i]?=some ri∧ri.what=x) r.used xs∧zda F (zdb r.word) xs (some r.what):=by
 rcases h with h | ⟨_,i,ri,h1,h2,h3,h4⟩ | ⟨_,i,j,ri,rj,h1,h2,h3,h4,h5,h6⟩
 ·exact absurd h.1 hw
 ·exact ⟨_,by rw [h1];exact .cons ⟨h2,ri,h3,rfl⟩ .nil,h4⟩
 ·exact ⟨_,by rw [h1];exact .cons ⟨h2,ri,h4,rfl⟩ (.cons ⟨h3,rj,h5,rfl⟩ .nil),h6⟩
theorem zn4.told {F:MU.za4} {D:MU.zar->Prop} {p:List MU.Row} {m:Nat} {r:MU.Row} (h:zn4 F D p m r) (hw:r.word=.told):r.used=[]∧D r.what:=by
 rcases h with h | h | h
 ·exact h.2
 ·exact absurd hw h.1
 ·exact absurd hw h.1
theorem zn4.below {F:MU.za4} {D:MU.zar->Prop} {p:List MU.Row} {m:Nat} {r:MU.Row} (h:zn4 F D p m r):∀i∈r.used,i<m:=by
 rcases h with h | ⟨_,i,ri,h1,h2,h3,h4⟩ | ⟨_,i,j,ri,rj,h1,h2,h3,h4,h5,h6⟩
 ·rw [h.2.1];exact fun i hi=>nomatch hi
 ·rw [h1];exact fun k hk=>by rw [ZAt.mp hk];exact h2
 ·rw [h1];exact fun k hk=>by
   rcases ZAu.mp hk with e | hk
   ·rw [e];exact h2
   ·rw [ZAt.mp hk];exact h3
theorem zn4.few {F:MU.za4} {D:MU.zar->Prop} {p:List MU.Row} {m:Nat} {r:MU.Row} (h:zn4 F D p m r):r.used.length≤2:=by
 rcases h with h | ⟨_,i,ri,h1,_⟩ | ⟨_,i,j,ri,rj,h1,_⟩
 ·rw [h.2.1];exact ZAq _
 ·rw [h1];exact Nat.le_succ 1
 ·rw [h1];exact ZAc _
theorem zik {wd:MU.Wd} (h:wd=.told):decide (V.str (zdb wd)=V.str ("told":Str))=true:=by
 subst h
 decide+kernel
theorem zkb {wd:MU.Wd} (h:wd≠.told):decide (V.str (zdb wd)=V.str ("told":Str))=false:=by
 cases wd with
 | told=>exact absurd rfl h
 | _=>decide+kernel
noncomputable def InB (B:List (List Int)) (x:MU.zar):Prop:=x.tie=true∧[(x.a:Int),(x.b:Int),x.v]∈B
noncomputable def zso:Sp:=fun vs H Q _=>∃(tl d rl:Addr) (B:List (List Int)) (F:MU.za4) (qs:List Addr) (p:List MU.Row) (m:Nat) (r:MU.Row),vs=[.ref tl,.ref d,.ref rl,.int (m:Int)]∧zbq H tl B∧zcw H d F∧
 H rl=some (.lst (qs.map V.ref))∧Paired (zf4 H) qs p∧p[m]?=some r∧zn4 F (InB B) p m r∧∀H',zbu H H'->Q (.bl true) H'
section
variable {P:Program} {w:World} {K:ZBq} {mg:Str->Option Value} {base:Heap}
noncomputable abbrev nRf:List Str:=["told","falls","rows","at","row"]
theorem zyt:zat nRf ["told","falls","rows","at"] (zai sP_row_follows):=⟨rfl,rfl,rfl,by decide+kernel,rfl,by decide+kernel,by decide+kernel⟩
theorem zyd:zcg (zai sP_row_follows) nRf (fsc [(".0",.local),("number",.local),("at",.free)]) ["number","at"] [none,some 3]:=⟨rfl,by decide+kernel,by decide+kernel,by decide+kernel,rfl,by decide+kernel⟩
theorem zyc:zcg (zai sP_row_follows) nRf (fsc [(".0",.local),("number",.local),("rows",.free)]) ["number","rows"] [none,some 2]:=⟨rfl,by decide+kernel,by decide+kernel,by decide+kernel,rfl,by decide+kernel⟩
theorem zxv:(["number","at"]:List Str).Nodup:=by decide+kernel
theorem zxu:(["number","rows"]:List Str).Nodup:=by decide+kernel
section
seal L2.PE L2.PA L2.PT L2.PS L2.PSs L2.PG L2.PGs L2.PI L2.PO
theorem ok_rowF {f fW:Addr} {fd fdW:FuncData} (F:Fn K mg "row_follows" sP_row_follows ["told","falls","rows","at"] f fd) (hall:mg "all"=none) (hlen:mg "len"=none)
 (FW:Fn K mg "what_follows" sP_what_follows ["falls","word","used"] fW fdW) (GW:zbj P w K mg base CX0 2 fW fdW ["falls","word","used"] zhs):zbj P w K mg base CX0 3 f fd ["told","falls","rows","at"] zso:=by
 refine F.F.ok zyt (fun vs H Q E h=>?_) (fun cdv A outer s H vs Q E hr h=>?_)
 ·obtain ⟨_,_,_,_,_,_,_,_,_,rfl,_⟩:=h
  rfl
 ·obtain ⟨tl,d,rl,B,Fa,qs,p,m,r,rfl,hB,hF,hrl,hrows,hm,hp,k⟩:=h
  have hu:=zfc hr
  refine ⟨_,zag (za0 (i:=4) zyt.nd rfl (Or.inl rfl) (za9 zav (pv 2) (pv 3) (fun _ _=>rfl)))
   (zag (zbk (zdd (zdv (zau (zqh rfl) (by rfl) hall (by decide+kernel) (zaa (zc7 rfl (zga (ixT (pv 4))) zyd (fun cl ex s0 H0=>⟨zap (i:=0) zxv rfl (Or.inl rfl),zdi,zhe zfs zg4 zah (pv 0) (pv 1)⟩)) zac)))) (zaf (zaq ze1)) zas)
   (zag (zbk (zak zbv (ixT (pv 4)) zax (zam _))
    (zaf (zaq (ze5 (zcp zbv (zau za5 (by rfl) hlen PySem.boot_len (zaa (ixT (pv 4)) zac)) zah (zam _))
     (ze5 (zcp zbv (za9 zbn (ixT (pv 4)) zah (fun _ _=>rfl)) zax (zam _))
     (zhw (zcp (zv4 hr.units) (zez zlt (ixT (pv 4)) (zfz zah) zf0) (pv 0) (by with_unfolding_all rfl))))))) zas)
   (zaf (zaq (zcp (zv5 (K:=K) rfl hr.units) (zao GW hr rfl FW.g FW.F.kp FW.b .nil za1 (zaa (pv 1) (zaa (ixT (pv 4)) (zaa (zc7 rfl (zga (ixT (pv 4))) zyc (fun cl ex s0 H0=>⟨zap (i:=0) zxu rfl (Or.inl rfl),zdi,za9 zbn (za9 zav (pv 1) (pv 0) (fun _ _=>rfl)) zah (fun _ _=>rfl)⟩)) zac)))) (ixT (pv 4)) (zam _)))))),?_⟩
  obtain ⟨q,hq⟩:∃q,qs[m]?=some q:=⟨_,ZAd (by have:=(ZAb.mp hm).1;rw [Paired.length hrows];exact this)⟩
  obtain ⟨r',hr',hrow⟩:=paired_get hrows hq
  rw [hm] at hr'
  cases hr'
  obtain ⟨pw,pu,g1,g2,g3⟩:=hrow
  have hat:atI (qs.map V.ref) (m:Int)=some (.ref q):=zby (by rw [ZAg,hq];rfl)
  refine fun N1 c1=>⟨_,rfl,zqp rfl hrl hat (c1 _ _ ?_)⟩
  clear c1 N1
  have hb:=hp.below
  have few:=hp.few
  refine fun N1 c1=>⟨_,rfl,rdT g1 rfl ⟨pu,rfl,⟨_,SqT.of g3⟩,fun Da hDa=>?_⟩⟩
  refine zee (xs:=r.used.map fun i:Nat=>V.int (i:Int)) (fun j σ' H'=>∃v,σ'=[v,some (.int (m:Int))]∧H' Da=some (.lst ((List.replicate j true).map V.bl))∧zbu H H') ⟨none,rfl,zab,zad hDa⟩ ?_ ?_ ?_
  ·rintro j σ' H2 _ ⟨v,rfl,_,s2⟩
   exact SqT.of (s2 _ _ g3)
  ·rintro j x σ' H2 hx ⟨v,rfl,e2,s2⟩
   rw [ZAg] at hx
   cases q2:r.used[j]? with
   | none=>rw [q2] at hx;cases hx
   | some i=>
    rw [q2] at hx
    cases hx
    have hj:=(ZAb.mp q2).1
    have hi:=hb i (ZAh q2)
    refine ⟨_,rfl,_,_,rfl,rfl,_,rfl,zgi (by omega) ⟨_,rfl,_,_,rfl,rfl,_,e2,?_,_,rfl,?_,fun b o e=>?_⟩⟩
    ·rw [ZAa,ZBb];exact zaz (by omega)
    ·rw [zab,List.replicate_succ',ZAp]
     show some (HO.lst (_++[V.bl (decide ((i:Int)<(m:Int)))]))=_
     rw [ZBo (show (i:Int)<(m:Int) by omega)]
     rfl
    ·rw [zaj (zae e hDa)];exact s2 _ _ e
  ·rintro σ' H2 ⟨v,rfl,e2,s2⟩
   refine ⟨Da,_,rfl,e2,_,rfl,?_⟩
   have ha:(List.replicate (r.used.map fun i:Nat=>V.int (i:Int)).length true).all id=true:=ZBc.mpr fun b hb=>(List.mem_replicate.mp hb).2
   rw [ha]
   refine zeh (c1 _ _ ?_)
   clear c1 N1
   have g1':=s2 _ _ g1
   have g2':H2 pw=some (.tup (zdx r.what)):=s2 _ _ g2
   have g3':=s2 _ _ g3
   refine fun N1 c1=>⟨_,rfl,rdT g1' rfl ⟨rfl,_,rfl,?_⟩⟩
   by_cases hw:r.word=.told
   ·clear c1
    obtain ⟨u0,ht,hin⟩:=hp.told hw
    refine zct (zik hw) ⟨_,rfl,rdT g1' rfl ⟨pu,_,rfl,.inr (SqT.of g3'),rfl,_,rfl,?_⟩⟩
    rw [u0]
    refine zih ⟨_,rfl,rdT g1' rfl (rdT g2' rfl ⟨rfl,_,rfl,?_⟩)⟩
    have ek:zds r.what.tie="tie":=by unfold zds;rw [if_pos ht]
    rw [ek]
    refine zih ⟨_,rfl,rdT g1' rfl ⟨_,rfl,pw,_,rfl,g2',?_,fun sl hsl=>?_⟩⟩
    ·exact fun z=>absurd z.1 (show ¬HT.sIx 4 0 (some 1)=0 by decide)
    rw [zyb]
    refine ⟨_,rfl,?_⟩
    have s3:=zad (o:=.tup [V.int (r.what.a:Int),V.int (r.what.b:Int),V.int r.what.v]) hsl
    obtain ⟨ps,hps⟩:=hB
    refine ⟨sl,_,tl,ps,rfl,rfl,zab,rfl,s3 _ _ (s2 _ _ hps.1),fun b hb'=>?_,?_⟩
    ·obtain ⟨i,hi,eb⟩:=ZA8 hb'
     obtain ⟨row,hrow,hb2⟩:=paired_get hps.2 (show ps[i]?=some b by rw [ZAd hi,eb])
     refine ⟨_,s3 _ _ (s2 _ _ hb2),?_⟩
     rw [List.all_map]
     exact ZBc.mpr fun _ _=>rfl
    ·refine zmc (k _ (s2.trans s3)) (Eq.symm ?_)
     show (ps.any fun b=>_)=true
     rw [List.any_eq_true]
     obtain ⟨i,hi,e⟩:=ZA8 hin
     have hpl:=Paired.length hps.2
     obtain ⟨b,hb'⟩:∃b,ps[i]?=some b:=⟨_,ZAd (by omega)⟩
     obtain ⟨row,hrow,hb2⟩:=paired_get hps.2 hb'
     rw [ZAd hi,e] at hrow
     cases hrow
     refine ⟨b,ZAh hb',?_⟩
     have hb3:=s3 _ _ (s2 _ _ hb2)
     show (match upd H2 sl _ b with | some (.tup ys)=>zii ys _ | _=>false)=true
     rw [hb3]
     exact zfp rfl
   ·refine zed (zkb hw) (c1 _ _ ?_)
    clear c1 N1
    obtain ⟨xs,hux,ask⟩:=hp.uses hw
    have hul:r.used.length=xs.length:=Paired.length hux
    refine ⟨_,rfl,_,rfl,rdT g1' rfl ⟨_,rfl,rdT g1' rfl ⟨pu,rfl,⟨_,SqT.of g3'⟩,fun Db hDb=>?_⟩⟩⟩
    refine zee (xs:=r.used.map fun i:Nat=>V.int (i:Int)) (fun j σ' H'=>∃v ps,σ'=[v,some (.ref rl)]∧H' Db=some (.lst (ps.map V.ref))∧Paired (zbf H') ps (xs.take j)∧ps.length=j∧zbu H2 H') ⟨none,[],rfl,zab,.nil,rfl,zad hDb⟩ ?_ ?_ ?_
    ·rintro j σ' H3 _ ⟨v,ps,rfl,_,_,_,s3⟩
     exact SqT.of (s3 _ _ g3')
    ·rintro j x σ' H3 hx ⟨v,ps,rfl,e3,hps,hpl,s3⟩
     rw [ZAg] at hx
     cases q2:r.used[j]? with
     | none=>rw [q2] at hx;cases hx
     | some i=>
      rw [q2] at hx
      cases hx
      have hj:=(ZAb.mp q2).1
      obtain ⟨x,hxj,hi,ri,hri,ex⟩:=paired_get hux q2
      obtain ⟨qi,hqi⟩:∃q,qs[i]?=some q:=⟨_,ZAd (by have:=(ZAb.mp hri).1;rw [Paired.length hrows];exact this)⟩
      obtain ⟨ri',hri',pwi,pui,k1,k2,k3⟩:=paired_get hrows hqi
      rw [hri] at hri'
      cases hri'
      subst ex
      have hati:atI (qs.map V.ref) (i:Int)=some (.ref qi):=zby (by rw [ZAg,hqi];rfl)
      have s03:=s2.trans s3
      refine ⟨_,rfl,zqp rfl (s03 _ _ hrl) hati (rdT (s03 _ _ k1) rfl ⟨_,e3,?_,_,ps++[pwi],rfl,?_,?_,?_,fun b o e=>?_⟩)⟩
      ·rw [ZAa];exact zaz (by omega)
      ·rw [zab,ZAp];rfl
      ·have et:xs.take (j+1)=xs.take j++[ri.what]:=by rw [ZBa,hxj];rfl
       rw [et]
       have kp:∀b y,zbf H3 b y->zbf (upd H3 Db (.lst (ps.map V.ref++[.ref pwi]))) b y:=fun b y e=>by
        unfold zbf
        rw [zaj (zbp e e3 (fun z=>nomatch z))]
        exact e
       exact zbd (zan hps kp) (.cons (kp _ _ (zbf.same k2 s03)) .nil)
      ·rw [ZAj,hpl];rfl
      ·rw [zaj (zae e hDb)];exact s3 _ _ e
    ·rintro σ' H3 ⟨v,ps,rfl,e3,hps,hpl,s3⟩
     rw [ZAa,hul,ZAy] at hps
     have s03:=s2.trans s3
     refine ⟨d,_,Db,ps,Fa,xs,_,rfl,hF.same s03,⟨e3,hps⟩,ask,⟨fun z=>(nomatch z),fun x ex rr H4 hrr s4 hx=>?_⟩⟩
     cases ex
     have s34:=s3.trans s4
     refine ⟨_,rfl,rdT (s34 _ _ g1') rfl ⟨rr,pw,_,_,rfl,rfl,SqT.of hx,SqT.of (s34 _ _ g2'),rfl,rfl,rfl,?_⟩⟩
     refine zmc (k _ (s2.trans s34)) (Eq.symm (zi7 rfl))
end
end
end Y0
namespace L2
theorem zr5 {α:Type} {xs:List α} {x:α} (h:xs[xs.length-1]?=some x):atI xs (-1)=some x:=by
 have hl:=(ZAb.mp h).1
 unfold atI ixN
 rw [if_neg (by decide),if_pos (by omega)]
 show xs[(-1+(xs.length:Int)).toNat]?=some x
 rw [show (-1+(xs.length:Int)).toNat=xs.length-1 by omega]
 exact h
end L2
namespace Y0
open PySem L2
noncomputable def zvj (C:Addr):Sp:=fun vs H Q _=>∃(wb rl:Addr) (n la:Int) (T F:List (List Int)) (qs:List Addr) (p:List MU.Row),vs=[.ref wb,.ref rl]∧zf3 C H wb n la T F∧zcv n la T F∧H rl=some (.lst (qs.map V.ref))∧Paired (zf4 H) qs p∧
 zj5 (za6 F) (InB (zgp n la T F)) p∧p.length≤16500000∧∀H',zbu H H'->Q (.bl true) H'
section
variable {P:Program} {w:World} {K:ZBq} {mg:Str->Option Value} {base:Heap}
noncomputable abbrev nIp:List Str:=["web","rows","told","falls","at"]
theorem zwz:zat nIp ["web","rows"] (zai sP_is_paper):=⟨rfl,rfl,rfl,by decide+kernel,rfl,by decide+kernel,by decide+kernel⟩
section
seal L2.PE L2.PA L2.PT L2.PS L2.PSs L2.PG L2.PGs L2.PI L2.PO
theorem ok_isPaper {f C fB fE fR fS:Addr} {fd fdB fdE fdR fdS:FuncData} (F:Fn K mg "is_paper" sP_is_paper ["web","rows"] f fd) (hrange:mg "range"=none) (hlen:mg "len"=none)
 (FB:Fn K mg "told_bounds" sP_told_bounds ["web"] fB fdB) (GB:zbj P w K mg base CX0 3 fB fdB ["web"] (zon C))
 (FE:Fn K mg "falls_by_end" sP_falls_by_end ["web"] fE fdE) (GE:zbj P w K mg base CX0 2 fE fdE ["web"] (zls C))
 (FR:Fn K mg "row_follows" sP_row_follows ["told","falls","rows","at"] fR fdR) (GR:zbj P w K mg base CX0 3 fR fdR ["told","falls","rows","at"] zso)
 (FS:Fn K mg "bars_every_hand" sP_bars_every_hand ["what"] fS fdS) (GS:zbj P w K mg base CX0 1 fS fdS ["what"] zoy):zbj P w K mg base CX0 4 f fd ["web","rows"] (zvj C):=by
 refine F.F.ok zwz (fun vs H Q E h=>?_) (fun cdv A outer s H vs Q E hr h=>?_)
 ·obtain ⟨_,_,_,_,_,_,_,_,rfl,_⟩:=h
  rfl
 ·obtain ⟨wb,rl,n,la,rT,rF,qs,p,rfl,W0,hok,hrl,hrows,hp,few,k⟩:=h
  have hr1:zek 1 _:=hr.mono (by decide)
  have hr2:zek 2 _:=hr.mono (by decide)
  refine ⟨_,zag (za0 (i:=2) zwz.nd rfl (Or.inl rfl) (zao GB hr rfl FB.g FB.F.kp FB.b .nil za1 (zaa (pv 0) zac)))
   (zag (za0 (i:=3) zwz.nd rfl (Or.inl rfl) (zao GE hr2 rfl FE.g FE.F.kp FE.b .nil za1 (zaa (pv 0) zac)))
   (zag (zcx PassesOwn.never rfl (zd2 (by rfl) hrange (zaa (zau za5 (by rfl) hlen PySem.boot_len (zaa (pv 1) zac)) zac)) (zap (i:=4) zwz.nd rfl (Or.inl rfl))
    (zaf (zbk (zdd (zdv (zao GR hr rfl FR.g FR.F.kp FR.b .nil za1 (zaa (pv 2) (zaa (pv 3) (zaa (pv 1) (zaa (pv 4) zac))))))) (zaf (zaq ze1)) zas)))
   (zaf (zaq (ze5 (zcp zri (zau za5 (by rfl) hlen PySem.boot_len (zaa (pv 1) zac)) zah (zam _))
    (zhw (zao GS hr1 rfl FS.g FS.F.kp FS.b .nil za1 (zaa (za9 zbn (za9 zav (pv 1) (zlv zhp zah) (fun _ _=>rfl)) zah (fun _ _=>rfl)) zac)))))))),?_⟩
  have hql:qs.length=p.length:=Paired.length hrows
  refine fun N1 c1=>⟨_,rfl,wb,n,la,rT,rF,rfl,W0,hok,fun tl H1 htl s1 hB=>c1 _ _ ?_⟩
  clear c1 N1
  refine fun N1 c1=>⟨_,rfl,wb,n,la,rT,rF,rfl,W0.same s1,hok,fun d H2 hd s2 hF=>c1 _ _ ?_⟩
  clear c1 N1
  have s02:=s1.trans s2
  have hrl2:=s02 _ _ hrl
  refine fun N1 c1=>⟨_,rfl,rl,_,rfl,.inl (SqL.of hrl2),_,rfl,?_,?_,?_⟩
  ·rw [ZAa];omega
  ·rw [ZAa];omega
  refine zeq (n:=(((qs.map V.ref).length:Nat):Int).toNat) (fun i σ' H'=>∃v,σ'=[some (.ref wb),some (.ref rl),some (.ref tl),some (.ref d),v]∧zbu H2 H') ⟨none,rfl,zbu.refl _⟩ ?_ ?_
  ·rintro i σ' H3 hi ⟨v,rfl,s3⟩
   rw [ZBd,ZAa] at hi
   have ei:(0:Int)+(i:Int)=(i:Int):=by omega
   rw [ei]
   have s03:=s02.trans s3
   obtain ⟨r,hr'⟩:∃r,p[i]?=some r:=⟨_,ZAd (by omega)⟩
   refine ⟨_,rfl,_,rfl,_,rfl,_,rfl,tl,d,rl,_,_,qs,p,i,r,rfl,hB.same (s2.trans s3),hF.same s3,s03 _ _ hrl,zan hrows fun q r e=>e.same s03,hr',hp.row i r hr',fun H4 s4=>⟨_,rfl,zeh ⟨_,rfl,s3.trans s4⟩⟩⟩
  ·rintro σ' H3 ⟨v,rfl,s3⟩
   refine c1 _ _ ?_
   have s03:=s02.trans s3
   obtain ⟨r,hlast,bars⟩:=hp.last
   have hpl:=(ZAb.mp hlast).1
   obtain ⟨q,hq⟩:∃q,qs[qs.length-1]?=some q:=⟨_,ZAd (by omega)⟩
   obtain ⟨r',hr',pw,pu,g1,g2,g3⟩:=paired_get hrows hq
   rw [hql,hlast] at hr'
   cases hr'
   have hat:atI (qs.map V.ref) (-1)=some (.ref q):=zr5 (by rw [ZAa,ZAg,hq];rfl)
   refine ⟨_,rfl,rl,_,rfl,.inl (SqL.of (s03 _ _ hrl)),_,_,rfl,rfl,_,rfl,zgi (by rw [ZAa];omega) ?_⟩
   refine ⟨_,rfl,_,rfl,rl,_,_,_,rfl,rfl,s03 _ _ hrl,hat,rdT (s03 _ _ g1) rfl ⟨pw,r.what,rfl,zbf.same g2 s03,?_⟩⟩
   exact zmc (k _ s03) (ZBo bars).symm
end
end
end Y0
namespace L2
open PySem
theorem zci.two {H1:Hp} {l p1 p2 q:Addr} {ps:List Addr} {rows:List (List Int)} (r1 r2:List Int) (R:zci H1 l ps rows) (hp1:H1 p1=none) (hp2:upd H1 p1 (.tup (r1.map V.int)) p2=none) (hq:upd (upd H1 p1 (.tup (r1.map V.int))) p2 (.tup (r2.map V.int)) q=none):
 upd (upd (upd H1 p1 (.tup (r1.map V.int))) p2 (.tup (r2.map V.int))) q (.lst [V.ref p1,V.ref p2]) l=some (.lst (ps.map V.ref))∧zbu H1 (upd (upd (upd H1 p1 (.tup (r1.map V.int))) p2 (.tup (r2.map V.int))) q (.lst [V.ref p1,V.ref p2]))∧
 ∀p,upd (upd (upd H1 p1 (.tup (r1.map V.int))) p2 (.tup (r2.map V.int))) q (.lst [V.ref p1,V.ref p2]) p=none->zci (upd (upd (upd (upd H1 p1 (.tup (r1.map V.int))) p2 (.tup (r2.map V.int))) q (.lst [V.ref p1,V.ref p2])) p (.lst (ps.map V.ref++[V.ref p1,V.ref p2]))) p (ps++[p1,p2]) (rows++[r1,r2]):=by
 have sA:=zad (o:=.tup (r1.map V.int)) hp1
 have sB:=zad (o:=.tup (r2.map V.int)) hp2
 have sC:=zad (o:=.lst [V.ref p1,V.ref p2]) hq
 have e1:=sC _ _ (sB _ _ (zab (H:=H1) (a:=p1) (o:=.tup (r1.map V.int))))
 have e2:=sC _ _ (zab (H:=upd H1 p1 (.tup (r1.map V.int))) (a:=p2) (o:=.tup (r2.map V.int)))
 have R':=((R.same sA).same sB).same sC
 have R2:zci (upd (upd (upd H1 p1 (.tup (r1.map V.int))) p2 (.tup (r2.map V.int))) q (.lst [V.ref p1,V.ref p2])) q [p1,p2] [r1,r2]:=⟨zab,.cons e1 (.cons e2 .nil)⟩
 exact ⟨R'.1,(sA.trans sB).trans sC,fun p hp=>R'.cat R2 hp⟩
end L2
namespace Y0
open PySem L2
structure TxtL (K:ZBq) (mg:Str->Option Value):Prop where
 range:mg "range"=none
 isi:mg "isinstance"=none
 int:mg "int"=none
 bool:mg "bool"=none
 ib:PySem.W.kitOne K (.type "int") (.type "bool")=some false
theorem zwa {K:ZBq}:PySem.W.kitOne K (.type "int") (.type "int")=some true:=by
 unfold PySem.W.kitOne
 rw [if_pos (by decide+kernel)]
noncomputable def zlr:Sp:=fun vs H Q _=>∃i:Int,vs=[.int i]∧Q (.bl true) H
structure zfe (H:Hp) (wp ta fa:Addr) (n la:Int) (T F:List (List Int)):Prop where
 tup:H wp=some (.tup [.int n,.int la,.ref ta,.ref fa])
 t:zbq H ta T
 f:zbq H fa F
theorem zfe.same {H H':Hp} {wp ta fa:Addr} {n la:Int} {T F:List (List Int)} (h:zfe H wp ta fa n la T F) (k:zbu H H'):zfe H' wp ta fa n la T F:=⟨k _ _ h.tup,h.t.same k,h.f.same k⟩
noncomputable def zkm:Sp:=fun vs H Q _=>∃wp ta fa n la T F,vs=[.ref wp]∧zfe H wp ta fa n la T F∧zcv n la T F∧∀l H',H l=none->zbu H H'->zbq H' l (zgp n la T F)->Q (.ref l) H'
theorem zg0 (a b:List (List Int)):zeu (a++b)=zeu a++zeu b:=by unfold zeu;rw [ZAp,List.flatten_append]
section
variable {P:Program} {w:World} {K:ZBq} {mg:Str->Option Value} {base:Heap}
theorem zzk:zat ["_law_found"] ["_law_found"] (zai sWhole):=⟨rfl,rfl,rfl,by decide+kernel,rfl,by decide+kernel,by decide+kernel⟩
theorem ok_whole {f:Addr} {fd:FuncData} (F:Fn K mg "_law_whole" sWhole ["_law_found"] f fd) (T:TxtL K mg):zn2 P w K mg base CX0 1 f fd ["_law_found"] zlr:=by
 refine F.F.okH zzk (fun vs H Q E h=>?_) (fun cdv A outer s H vs Q E hr hh h=>?_)
 ·obtain ⟨i,rfl,_⟩:=h
  rfl
 ·obtain ⟨i,rfl,k⟩:=h
  refine ⟨_,zaf (zaq (ze5 (zau zca (by rfl) T.isi (by decide+kernel) (zaa (pv 0) (zaa (ze0 (v:=.ty "int") rfl T.int (by decide+kernel) rfl) zac)))
   (zhw (zvy (zau zca (by rfl) T.isi (by decide+kernel) (zaa (pv 0) (zaa (ze0 (v:=.ty "bool") rfl T.bool (by decide+kernel) rfl) zac))))))),?_⟩
  refine ⟨_,rfl,_,_,_,true,rfl,.int i,zwa,_,rfl,zih ?_⟩
  exact ⟨_,rfl,_,_,_,false,rfl,.int i,T.ib,_,rfl,k⟩
noncomputable abbrev nLb:List Str:=["_law_w","_law_bounds_here","_law_moment","_law_one","_law_other","_law_least","_law_most"]
theorem zq4:zat nLb ["_law_w"] (zai sL_bounds):=⟨rfl,rfl,rfl,by decide+kernel,rfl,by decide+kernel,by decide+kernel⟩
theorem ok_lbounds {f:Addr} {fd:FuncData} (F:Fn K mg "_law_bounds" sL_bounds ["_law_w"] f fd) (T:TxtL K mg):zn2 P w K mg base CX0 1 f fd ["_law_w"] zkm:=by
 refine F.F.okH zq4 (fun vs H Q E h=>?_) (fun cdv A outer s H vs Q E hr hh h=>?_)
 ·obtain ⟨wp,_,_,_,_,_,_,rfl,_⟩:=h
  rfl
 ·obtain ⟨wp,ta,fa,n,la,rT,rF,rfl,D0,hok,k⟩:=h
  refine ⟨_,zal (za0 (i:=1) zq4.nd rfl (Or.inl rfl) (zcy zac))
   (zal (zlu PassesOwn.never (.inr hh) (zkv rfl T.range (zaa zah (zaa (ixT (pv 0)) zac))) (zap (i:=2) zq4.nd rfl (Or.inl rfl))
    (zaf (za0 (i:=1) zq4.nd rfl (Or.inl rfl) (zbi zhy (pv 1) (zcy (zaa (za8 (zaa zah (zaa (pv 2) (zaa (ixT (pv 0)) zac)))) (zaa (za8 (zaa (pv 2) (zaa zah (zaa zah zac)))) zac)))))))
   (zal (zlu PassesOwn.never (.inr hh) (zb2 (zbi zhy (ixT (pv 0)) (ixT (pv 0))))
    (zt8 (K:=K) (n:=4) rfl (.inr hh) (zbb (zap (i:=3) zq4.nd rfl (Or.inl rfl)) (zbb (zap (i:=4) zq4.nd rfl (Or.inl rfl)) (zbb (zap (i:=5) zq4.nd rfl (Or.inl rfl)) (zbb (zap (i:=6) zq4.nd rfl (Or.inl rfl)) zf1)))))
    (zaf (za0 (i:=1) zq4.nd rfl (Or.inl rfl) (zbi zhy (pv 1) (zcy (zaa (za8 (zaa (pv 3) (zaa (pv 4) (zaa (pv 6) zac)))) (zaa (za8 (zaa (pv 4) (zaa (pv 3) (zaa (zbi zcj zah (pv 5)) zac)))) zac)))))))
   (zaf (zaq (pv 1))))),?_⟩
  have n1:=hok.n1
  have n2:=hok.n2
  refine ⟨ZAq _,fun l0 hl0=>?_⟩
  have s0:=zad (o:=.lst []) hl0
  refine ⟨_,rfl,rdT (s0 _ _ D0.tup) rfl ⟨1,n,rfl,⟨by decide,by decide,by omega,by omega⟩,?_⟩⟩
  refine zeq (n:=(n-1).toNat) (fun i σ' H'=>∃v l ps,σ'=[some (.ref wp),some (.ref l),v,none,none,none,none]∧zci H' l ps (zev la i)∧zbu H H'∧H l=none) ⟨none,l0,[],rfl,⟨zab,.nil⟩,s0,hl0⟩ ?_ ?_
  ·rintro i σ' H1 hi ⟨v,l,ps,rfl,R1,s1,hl⟩
   have e:zev la (i+1)=zev la i++[[0,1+(i:Int),la],[1+(i:Int),0,0]]:=by
    rw [Int.add_comm 1 (i:Int)]
    rfl
   rw [e]
   refine ⟨_,rfl,_,rfl,_,rfl,rdT (s1 _ _ D0.tup) rfl ⟨by show 3≤sizeLine;decide,fun p1 hp1=>?_⟩⟩
   refine ⟨_,rfl,by show 3≤sizeLine;decide,fun p2 hp2=>?_⟩
   refine ⟨by show 2≤sizeLine;decide,fun q hq=>?_⟩
   obtain ⟨f1,f2,f3⟩:=R1.two [0,1+(i:Int),la] [1+(i:Int),0,0] hp1 hp2 hq
   refine ⟨l,q,_,_,rfl,rfl,f1,zab,?_,fun p hp=>?_⟩
   ·rw [ZAa,R1.len,zdn]
    exact ZAr (zaz (by show 2*i+2≤1000;omega))
   ·have s2:=s1.trans f2
    exact ⟨_,p,_,rfl,f3 p hp,s2.trans (zad hp),s2.free hp⟩
  ·rintro σ' H1 ⟨v,l,ps,rfl,R1,s1,hl⟩
   have D1:=D0.same s1
   obtain ⟨pt,Rt⟩:=D1.t
   obtain ⟨pf,Rf⟩:=D1.f
   have tl:=hok.tl
   have fl:=hok.fl
   refine ⟨_,rfl,rdT D1.tup rfl ⟨_,rfl,rdT D1.tup rfl ⟨ta,fa,_,_,rfl,rfl,Rt.1,Rf.1,?_,fun sl hsl=>⟨sl,rfl,⟨_,SqL.of zab⟩,?_⟩⟩⟩⟩
   ·rw [ZAa,ZAa,Rt.len,Rf.len]
    exact ZAr (zaz (by omega))
   have RS:=Rt.cat Rf hsl
   have s2:=zad (o:=.lst (pt.map V.ref++pf.map V.ref)) hsl
   have R2:=R1.same s2
   have s12:=s1.trans s2
   generalize upd H1 sl (.lst (pt.map V.ref++pf.map V.ref))=H2 at*
   have four:ztd (rT++rF):=fun r hr=>(ZA4.mp hr).elim (hok.fourT r) (hok.fourF r)
   refine zcf (K:=K) (a:=sl) (xs:=(pt++pf).map V.ref) (fun i σ' H'=>∃v3 v4 v5 v6 l ps,σ'=[some (.ref wp),some (.ref l),v,v3,v4,v5,v6]∧zci H' l ps (zev la (n-1).toNat++zeu ((rT++rF).take i))∧zbu H2 H'∧H l=none)
    ⟨none,none,none,none,l,ps,rfl,by rw [List.take_zero];show zci _ _ _ (_++[]);rw [List.append_nil];exact R2,zbu.refl _,hl⟩ ?_ ?_ ?_
   ·rintro i σ' H3 _ ⟨v3,v4,v5,v6,l,ps,rfl,_,s3,_⟩
    exact SqL.of (s3 _ _ RS.1)
   ·rintro i x σ' H3 hx ⟨v3,v4,v5,v6,l,ps,rfl,R3,s3,hl3⟩
    obtain ⟨q,r,rfl,hq,hr',hqt⟩:=RS.get hx
    obtain ⟨a',b',le,mo,e4⟩:=four r (ZAh hr')
    subst e4
    have hi:i<(rT++rF).length:=(ZAb.mp hr').1
    have h4':ztd ((rT++rF).take i):=fun r hr=>four r (List.mem_of_mem_take hr)
    have e:zev la (n-1).toNat++zeu ((rT++rF).take (i+1))=zev la (n-1).toNat++zeu ((rT++rF).take i)++[[a',b',mo],[b',a',0-le]]:=by
     rw [ZBa,hr',zg0,List.append_assoc,Int.zero_sub]
     rfl
    rw [e]
    refine ⟨q,_,rfl,SqT.of (s3 _ _ hqt),rfl,_,_,rfl,_,_,rfl,_,_,rfl,_,_,rfl,rfl,?_⟩
    refine ⟨_,rfl,_,rfl,_,rfl,_,rfl,by show 3≤sizeLine;decide,fun p1 hp1=>?_⟩
    refine ⟨_,rfl,_,rfl,_,rfl,_,_,rfl,rfl,by show 3≤sizeLine;decide,fun p2 hp2=>?_⟩
    refine ⟨by show 2≤sizeLine;decide,fun q' hq'=>?_⟩
    obtain ⟨f1,f2,f3⟩:=R3.two [a',b',mo] [b',a',0-le] hp1 hp2 hq'
    refine ⟨l,q',_,_,rfl,rfl,f1,zab,?_,fun p hp=>?_⟩
    ·rw [ZAa,R3.len,ZAj,zdn,zc5 h4',ZA1]
     refine ZAr (zaz ?_)
     rw [ZAj] at*
     show 2*(n-1).toNat+2*min i (rT.length+rF.length)+2≤1000
     omega
    ·have s4:=s3.trans f2
     exact ⟨_,_,_,_,p,_,rfl,f3 p hp,s4.trans (zad hp),s12.free (s4.free hp)⟩
   ·rintro σ' H3 ⟨v3,v4,v5,v6,l,ps,rfl,R3,s3,hl3⟩
    have hle:(rT++rF).take ((pt++pf).map V.ref).length=rT++rF:=by
     rw [ZAa,RS.len]
     exact ZAy
    rw [hle,zg0,←List.append_assoc] at R3
    exact ⟨_,rfl,k l _ hl3 (s12.trans s3) ⟨ps,R3⟩⟩
end
end Y0
namespace Y0
open PySem L2
theorem zi2 {n la:Int} {T F:List (List Int)} (hok:zcv n la T F) {e:Nat} {f:Nat×Int×Int} (h:za6 F e=some f):∃t,(F.filter fun r=>decide (r[1]?=some (e:Int)))=[(f.1:Int),(e:Int),f.2.1,f.2.2]::t:=by
 unfold za6 at h
 cases q:F.find? fun r=>decide (r[1]?=some (e:Int)) with
 | none=>rw [q] at h;cases h
 | some r=>
  rw [q] at h
  have hm:=List.mem_of_find?_eq_some q
  have hp:=List.find?_some q
  obtain ⟨a,b,l,m,rfl,h0,_⟩:=hok.f r hm
  have hp:decide ((some b:Option Int)=some (e:Int))=true:=hp
  rw [ZBe,ZBf] at hp
  subst hp
  have h:some (a.toNat,l,m)=some f:=h
  cases h
  rw [←List.head?_filter] at q
  cases hf:F.filter fun r=>decide (r[1]?=some (e:Int)) with
  | nil=>rw [hf] at q;cases q
  | cons x t=>
   rw [hf] at q
   have q:some x=some [a,(e:Int),l,m]:=q
   cases q
   refine ⟨t,?_⟩
   show _=[((a.toNat:Nat):Int),(e:Int),l,m]::t
   rw [Int.toNat_of_nonneg h0]
theorem at0 {x:V} {xs:List V}:atI (x::xs) 0=some x:=zby (j:=0) rfl
theorem at1 {x y:V} {xs:List V}:atI (x::y::xs) 1=some y:=zby (j:=1) rfl
theorem zda.cons {F:MU.za4} {word:Str} {xs:List MU.zar} {o:Option MU.zar} (h:zda F word xs o):∃x0 xr,xs=x0::xr:=by cases h<;>exact ⟨_,_,rfl⟩
theorem zlk {F:MU.za4} {word:Str} {xs:List MU.zar} {o:Option MU.zar} {y:MU.zar} (h:zda F word xs o) (e:o=some y):
 (word="sum"∧∃x z,xs=[x,z]∧x.tie=true∧z.tie=true∧x.b=z.a∧y=⟨true,x.a,z.b,x.v+z.v⟩)∨
 (word="late"∧∃x f,xs=[x]∧x.tie=true∧x.a≠x.b∧F x.b=some f∧y=⟨false,x.a,x.b,f.2.2-x.v⟩)∨
 (word="soon"∧∃x f,xs=[x]∧x.tie=true∧x.a≠x.b∧x.v<0∧F x.a=some f∧y=⟨true,f.1,x.b,f.2.1+x.v⟩)∨
 (word="sure"∧∃x f,xs=[x]∧x.tie=false∧F x.b=some f∧y=⟨true,x.a,f.1,-min x.v f.2.1⟩)∨
 (word="back"∧∃x z f,xs=[x,z]∧x.tie=false∧z.tie=true∧z.b=x.a∧z.a≠x.b∧F x.b=some f∧y=⟨false,z.a,x.b,min x.v f.2.2-z.v⟩)∨
 (word="cross"∧∃x g f,xs=[x]∧x.tie=false∧x.a≠x.b∧0<x.v∧F x.a=some g∧F x.b=some f∧y=⟨false,g.1,x.b,min x.v f.2.2-g.2.1⟩):=by
 cases h with
 | sum x z hx hz=>
  unfold MU.za7 at e
  by_cases c:x.tie=true∧z.tie=true∧x.b=z.a
  ·rw [if_pos c] at e
   cases e
   exact .inl ⟨rfl,x,z,rfl,hx,hz,c.2.2,rfl⟩
  ·rw [if_neg c] at e;cases e
 | late x hx=>
  unfold MU.zbm at e
  by_cases c:x.tie=true∧x.a≠x.b
  ·rw [if_pos c] at e
   cases hf:F x.b with
   | none=>rw [hf] at e;cases e
   | some f=>rw [hf] at e;cases e;exact .inr (.inl ⟨rfl,x,f,rfl,hx,c.2,hf,rfl⟩)
  ·rw [if_neg c] at e;cases e
 | soon x hx=>
  unfold MU.zbr at e
  by_cases c:x.tie=true∧x.a≠x.b∧x.v<0
  ·rw [if_pos c] at e
   cases hf:F x.a with
   | none=>rw [hf] at e;cases e
   | some f=>rw [hf] at e;cases e;exact .inr (.inr (.inl ⟨rfl,x,f,rfl,hx,c.2.1,c.2.2,hf,rfl⟩))
  ·rw [if_neg c] at e;cases e
 | sure x f hx hf=>
  unfold MU.zbh at e
  rw [if_pos hx,hf] at e
  cases e
  exact .inr (.inr (.inr (.inl ⟨rfl,x,f,rfl,hx,hf,rfl⟩)))
 | back x z f hx hz hf=>
  unfold MU.zay at e
  by_cases c:x.tie=false∧z.tie=true∧z.b=x.a∧z.a≠x.b
  ·rw [if_pos c,hf] at e
   cases e
   exact .inr (.inr (.inr (.inr (.inl ⟨rfl,x,z,f,rfl,hx,hz,c.2.2.1,c.2.2.2,hf,rfl⟩))))
  ·rw [if_neg c] at e;cases e
 | cross x f hx hf=>
  unfold MU.za2 at e
  by_cases c:x.tie=false∧x.a≠x.b∧0<x.v
  ·rw [if_pos c,hf] at e
   cases hg:F x.a with
   | none=>rw [hg] at e;cases e
   | some g=>rw [hg] at e;cases e;exact .inr (.inr (.inr (.inr (.inr ⟨rfl,x,g,f,rfl,hx,c.2.1,c.2.2,hg,hf,rfl⟩))))
  ·rw [if_neg c] at e;cases e
theorem zxz {i j:Int}:(if j<i then j else i)=min i j:=by
 split<;>omega
theorem zol {a b:Str} (h:a≠b):decide (V.str a=V.str b)=false:=ZBp fun e=>h (V.str.inj e)
noncomputable def zsu:Sp:=fun vs H Q _=>∃(wp ta fa ul:Addr) (n la:Int) (T F:List (List Int)) (ps:List Addr) (xs:List MU.zar) (word:Str) (y:MU.zar),vs=[.ref wp,.str word,.ref ul]∧zfe H wp ta fa n la T F∧zcv n la T F∧H ul=some (.lst (ps.map V.ref))∧Paired (zbf H) ps xs∧
 zda (za6 F) word xs (some y)∧∀r H',H r=none->zbu H H'->zbf H' r y->Q (.ref r) H'
section
variable {P:Program} {w:World} {K:ZBq} {mg:Str->Option Value} {base:Heap}
noncomputable abbrev nLf:List Str:=["_law_w","_law_word","_law_used","_law_first","_law_falls_here","_law_mine","_law_other"]
theorem zvo:zat nLf ["_law_w","_law_word","_law_used"] (zai sL_follows):=⟨rfl,rfl,rfl,by decide+kernel,rfl,by decide+kernel,by decide+kernel⟩
theorem zy7:zcg (zai sL_follows) nLf (fsc [(".0",.local),("_law_fall",.local),("_law_first",.free)]) ["_law_fall","_law_first"] [none,some 3]:=⟨rfl,by decide+kernel,by decide+kernel,by decide+kernel,rfl,by decide+kernel⟩
theorem zy2:(["_law_fall","_law_first"]:List Str).Nodup:=by decide+kernel
theorem zk2 {x:MU.zar} (h:x.tie=true):zds x.tie="tie":=by unfold zds;rw [if_pos h]
theorem zug {x:MU.zar} (h:x.tie=false):zds x.tie="wait":=by unfold zds;rw [if_neg (by rw [h];exact ZAm)]
section
seal L2.PE L2.PA L2.PT L2.PS L2.PSs L2.PG L2.PGs L2.PI L2.PO
theorem ok_lfollows {f:Addr} {fd:FuncData} (Fn0:Fn K mg "_law_follows" sL_follows ["_law_w","_law_word","_law_used"] f fd) (hmin:mg "min"=none) (hlen:mg "len"=none):zbj P w K mg base CX0 1 f fd ["_law_w","_law_word","_law_used"] zsu:=by
 refine Fn0.F.ok zvo (fun vs H Q E h=>?_) (fun cdv A outer s H vs Q E hr h=>?_)
 ·obtain ⟨_,_,_,_,_,_,_,_,_,_,_,_,rfl,_⟩:=h
  rfl
 ·obtain ⟨wp,ta,fa,ul,n,la,T,F,ps,xs,word,y,rfl,D0,hok,hul,hps,ask,k⟩:=h
  refine ⟨_,zag (za0 (i:=3) zvo.nd rfl (Or.inr rfl) (za9 zav (pv 2) zah (fun _ _=>rfl)))
   (zag (zhv (i:=4) zvo.nd rfl rfl rfl (zb2 (ixT (pv 0))) zy7 (fun cl ex s0 H0=>⟨zap (i:=0) zy2 rfl (Or.inl rfl),zey (zak zbv (ixT (pv 0)) (ixT (pv 1)) (zam _)),pv 0⟩))
   (zag (zbk (PW.pt (zce (zak zbv (pv 1) zax (zam _)) (zce (zak zbv (ixT (pv 3)) zax (zam _)) (zce (zak (zjq (K:=K) rfl hr.units) (pv 4) (zcy zac) (zam _)) (zde (zak zgc (ixT (pv 3)) (ixT (pv 3)) (zam _)))))))
    (zaf (zaq (za8 (zaa zax (zaa (ixT (pv 3)) (zaa (ixT (pv 3)) (zaa (zbi zcj (za9 zbn (za9 zav (pv 4) zah (fun _ _=>rfl)) zah (fun _ _=>rfl)) (ixT (pv 3))) zac))))))) zas)
   (zag (zbk (PW.pt (zce (zak zbv (pv 1) zax (zam _)) (zde (zak zbv (ixT (pv 3)) zax (zam _)))))
    (zaf (zaq (za8 (zaa zax (zaa (ixT (pv 3)) (zaa (za9 zbn (za9 zav (pv 4) zah (fun _ _=>rfl)) zah (fun _ _=>rfl)) (zaa (zbi zcj zah (zau (zdq rfl) (by rfl) hmin (by decide+kernel) (zaa (ixT (pv 3)) (zaa (za9 zbn (za9 zav (pv 4) zah (fun _ _=>rfl)) zah (fun _ _=>rfl)) zac)))) zac))))))) zas)
   (zag (zhv (i:=5) zvo.nd rfl rfl rfl (zb2 (ixT (pv 0))) zy7 (fun cl ex s0 H0=>⟨zap (i:=0) zy2 rfl (Or.inl rfl),zey (zak zbv (ixT (pv 0)) (ixT (pv 1)) (zam _)),pv 0⟩))
   (zag (zbk (PW.pt (zce (zak zbv (pv 1) zax (zam _)) (zce (zak zbv (ixT (pv 3)) zax (zam _)) (zce (zak (zjq (K:=K) rfl hr.units) (pv 5) (zcy zac) (zam _)) (zce (zak zg4 (ixT (pv 3)) zah (zam _)) (zde (zak zgc (ixT (pv 3)) (ixT (pv 3)) (zam _))))))))
    (zaf (zaq (za8 (zaa zax (zaa (za9 zbn (za9 zav (pv 5) zah (fun _ _=>rfl)) zah (fun _ _=>rfl)) (zaa (ixT (pv 3)) (zaa (zbi zcr (za9 zbn (za9 zav (pv 5) zah (fun _ _=>rfl)) zah (fun _ _=>rfl)) (ixT (pv 3))) zac))))))) zas)
   (zag (zbk (PW.pt (zce (zak zbv (pv 1) zax (zam _)) (zce (zak zbv (ixT (pv 3)) zax (zam _)) (zce (zak (zjq (K:=K) rfl hr.units) (pv 5) (zcy zac) (zam _)) (zce (zak zri (ixT (pv 3)) zah (zam _)) (zde (zak zgc (ixT (pv 3)) (ixT (pv 3)) (zam _))))))))
    (zaf (zaq (za8 (zaa zax (zaa (za9 zbn (za9 zav (pv 5) zah (fun _ _=>rfl)) zah (fun _ _=>rfl)) (zaa (ixT (pv 3)) (zaa (zbi zcj (zau (zdq rfl) (by rfl) hmin (by decide+kernel) (zaa (ixT (pv 3)) (zaa (za9 zbn (za9 zav (pv 4) zah (fun _ _=>rfl)) zah (fun _ _=>rfl)) zac))) (za9 zbn (za9 zav (pv 5) zah (fun _ _=>rfl)) zah (fun _ _=>rfl))) zac))))))) zas)
   (zag (zbk (PW.pt (zeg (zak zg4 (zau za5 (by rfl) hlen PySem.boot_len (zaa (pv 2) zac)) zah (zam _)) (zeo (zak zgc (za9 zbn (za9 zav (pv 2) zah (fun _ _=>rfl)) zah (fun _ _=>rfl)) zax (zam _))))) (zaf (zaq ze4)) zas)
   (zag (za0 (i:=6) zvo.nd rfl (Or.inl rfl) (za9 zav (pv 2) zah (fun _ _=>rfl)))
   (zag (zbk (PW.pt (zce (zak zbv (pv 1) zax (zam _)) (zce (zak zbv (ixT (pv 3)) zax (zam _)) (zde (zak zbv (ixT (pv 3)) (ixT (pv 6)) (zam _))))))
    (zaf (zaq (za8 (zaa zax (zaa (ixT (pv 3)) (zaa (ixT (pv 6)) (zaa (zbi zcr (ixT (pv 3)) (ixT (pv 6))) zac))))))) zas)
   (zag (zbk (PW.pt (zce (zak zbv (pv 1) zax (zam _)) (zce (zak zbv (ixT (pv 3)) zax (zam _)) (zce (zak zbv (ixT (pv 6)) (ixT (pv 3)) (zam _)) (zde (zak zgc (ixT (pv 6)) (ixT (pv 3)) (zam _)))))))
    (zaf (zaq (za8 (zaa zax (zaa (ixT (pv 6)) (zaa (ixT (pv 3)) (zaa (zbi zcj (zau (zdq rfl) (by rfl) hmin (by decide+kernel) (zaa (ixT (pv 3)) (zaa (za9 zbn (za9 zav (pv 4) zah (fun _ _=>rfl)) zah (fun _ _=>rfl)) zac))) (ixT (pv 6))) zac))))))) zas)
   (zaf (zaq ze4)))))))))))),?_⟩
  obtain ⟨x0,xr,rfl⟩:∃x0 xr,xs=x0::xr:=ask.cons
  obtain ⟨q0,qr,rfl,hq0,hqr⟩:∃q0 qr,ps=q0::qr∧zbf H q0 x0∧Paired (zbf H) qr xr:=by
   cases hps with
   | cons h t=>exact ⟨_,_,rfl,h,t⟩
  have hq0:H q0=some (.tup [.str (zds x0.tie),.int (x0.a:Int),.int (x0.b:Int),.int x0.v]):=hq0
  refine fun N0 c0=>⟨_,rfl,rdL hul at0 (c0 _ _ ?_)⟩
  clear c0 N0
  obtain ⟨fs,hfa⟩:=D0.f
  refine fun NA cA=>⟨_,rfl,rdT ((zbu.refl H) _ _ D0.tup) rfl ⟨fa,rfl,⟨_,SqL.of ((zbu.refl H) _ _ hfa.1)⟩,fun DA hDA=>?_⟩⟩
  refine zd7 (K:=K) (a:=fa) (xs:=fs.map V.ref) (fun j σ' H'=>∃v qs',σ'=[v,some (.ref q0)]∧H' DA=some (.lst (qs'.map V.ref))∧Paired (fun q r=>H' q=some (.tup (r.map V.int))) qs' ((F.take j).filter fun r=>decide (r[1]?=some (x0.b:Int)))∧qs'.length≤j∧zbu H H') ⟨none,[],rfl,zab,.nil,ZAc _,zad hDA⟩ ?_ ?_ ?_
  ·rintro j σ' H' _ ⟨v,qs',rfl,_,_,_,s'⟩
   exact SqL.of (s' _ _ ((zbu.refl H) _ _ hfa.1))
  ·rintro j y σ' H' hy ⟨v,qs',rfl,e',hqs,hl',s'⟩
   rw [ZAg] at hy
   cases hq:fs[j]? with
   | none=>rw [hq] at hy;cases hy
   | some q=>
    rw [hq] at hy
    cases hy
    obtain ⟨r,hr',hqr⟩:=paired_get hfa.2 hq
    have hj:j<F.length:=(ZAb.mp hr').1
    obtain ⟨a1,b1,l1,m1,er,_⟩:=hok.f r (ZAh hr')
    subst er
    have hqr':=s' _ _ ((zbu.refl H) _ _ hqr)
    have et:F.take (j+1)=F.take j++[[a1,b1,l1,m1]]:=by rw [ZBa,hr'];rfl
    refine ⟨_,rfl,rdT hqr' rfl ⟨_,rfl,rdT (s' _ _ ((zbu.refl H) _ _ hq0)) rfl ⟨rfl,_,rfl,?_⟩⟩⟩
    rw [zy3]
    have hfl:([[a1,b1,l1,m1]]:List (List Int)).filter (fun r=>decide (r[1]?=some (x0.b:Int)))=if b1=(x0.b:Int) then [[a1,b1,l1,m1]] else []:=by
     by_cases c:b1=(x0.b:Int)
     ·rw [if_pos c,List.filter_cons_of_pos (by show decide (some b1=some (x0.b:Int))=true;rw [c];exact ZBo rfl)];rfl
     ·rw [if_neg c,List.filter_cons_of_neg (by show ¬decide (some b1=some (x0.b:Int))=true;rw [ZBe,ZBf];exact c)];rfl
    by_cases c:b1=(x0.b:Int)
    ·refine zgi c ⟨_,rfl,_,e',?_,_,qs'++[q],rfl,?_,?_,?_,fun b o e=>?_⟩
     ·rw [ZAa];have:=hok.fl;exact zaz (by omega)
     ·rw [zab,ZAp];rfl
     ·rw [et,List.filter_append,hfl,if_pos c]
      have kp:∀b (z:List Int),H' b=some (.tup (z.map V.int))->upd H' DA (.lst (qs'.map V.ref++[.ref q])) b=some (.tup (z.map V.int)):=fun b z e=>by
       rw [zaj (zbp e e' (fun z=>nomatch z))]
       exact e
      exact zbd (zan hqs kp) (.cons (kp _ _ hqr') .nil)
     ·rw [ZAj];show qs'.length+1≤j+1;omega
     ·rw [zaj (zae e hDA)];exact s' _ _ e
    ·refine zep c ⟨_,qs',rfl,e',?_,by omega,s'⟩
     rw [et,List.filter_append,hfl,if_neg c,List.append_nil]
     exact hqs
  rintro σ' HA ⟨vA,qsA,rfl,eA,hqsA,hlA,sA⟩
  refine cA _ _ ?_
  clear cA NA
  have hallA:F.take (fs.map V.ref).length=F:=by rw [ZAa,Paired.length hfa.2];exact ZAy
  rw [hallA] at hqsA
  have pickA:∀f,za6 F x0.b=some f->∃q t,qsA=q::t∧HA q=some (.tup [.int (f.1:Int),.int (x0.b:Int),.int f.2.1,.int f.2.2]):=fun f hf=>by
   obtain ⟨t,et⟩:=zi2 hok hf
   rw [et] at hqsA
   cases hqsA with
   | cons h t'=>exact ⟨_,_,rfl,h⟩
  have hk:=zlk ask rfl
  have sw:∀{a b:Str} {P:Prop},word=a->word=b->a≠b->P:=fun e1 e2 ne=>absurd (e1.symm.trans e2) ne
  have hq0A:=sA _ _ hq0
  by_cases w1:word="late"
  ·rcases hk with ⟨e,_⟩ | ⟨_,x,f,ex,ht,hne,hf,ey⟩ | ⟨e,_⟩ | ⟨e,_⟩ | ⟨e,_⟩ | ⟨e,_⟩
   ·exact sw e w1 (by decide+kernel)
   ·cases ex
    obtain ⟨q,t,rfl,hq⟩:=pickA f hf
    rw [zk2 ht] at hq0A
    subst w1
    refine fun N c=>⟨_,rfl,rfl,_,rfl,zct (by decide+kernel) ⟨_,rfl,rdT hq0A rfl ⟨rfl,_,rfl,zct (by decide+kernel) ⟨_,rfl,ZAq _,fun E0 hE0=>⟨DA,E0,_,rfl,rfl,SqL.of (zad hE0 _ _ eA),SqL.of zab,_,rfl,zih ?_⟩⟩⟩⟩⟩
    have sE:=zad (o:=.lst []) hE0
    have h0:=sE _ _ hq0A
    refine ⟨_,rfl,rdT h0 rfl ⟨_,rfl,rdT h0 rfl ⟨rfl,_,rfl,zct ?_ ⟨_,rfl,rdT h0 rfl ⟨_,rfl,rdT h0 rfl ⟨_,rfl,rdL (sE _ _ eA) at0 (rdT (sE _ _ hq) rfl ⟨_,rfl,rdT h0 rfl ⟨_,_,rfl,rfl,by show 4≤sizeLine;decide,fun r hr'=>?_⟩⟩)⟩⟩⟩⟩⟩⟩
    ·rw [zln,ZBp hne];rfl
    ·rw [ey] at k
     exact k r _ ((sA.trans sE).free hr') ((sA.trans sE).trans (zad hr')) zab
   ·exact sw e w1 (by decide+kernel)
   ·exact sw e w1 (by decide+kernel)
   ·exact sw e w1 (by decide+kernel)
   ·exact sw e w1 (by decide+kernel)
  refine fun N c=>⟨_,rfl,rfl,_,rfl,zed (zol w1) (zeh (c _ _ ?_))⟩
  clear c N
  by_cases w2:word="sure"
  ·rcases hk with ⟨e,_⟩ | ⟨e,_⟩ | ⟨e,_⟩ | ⟨_,x,f,ex,ht,hf,ey⟩ | ⟨e,_⟩ | ⟨e,_⟩
   ·exact sw e w2 (by decide+kernel)
   ·exact sw e w2 (by decide+kernel)
   ·exact sw e w2 (by decide+kernel)
   ·cases ex
    obtain ⟨q,t,rfl,hq⟩:=pickA f hf
    rw [zug ht] at hq0A
    subst w2
    refine fun N c=>⟨_,rfl,rfl,_,rfl,zct (by decide+kernel) ⟨_,rfl,rdT hq0A rfl ⟨rfl,_,rfl,zct (by decide+kernel) ?_⟩⟩⟩
    refine ⟨_,rfl,rdT hq0A rfl ⟨_,rfl,rdL eA at0 (rdT hq rfl ⟨_,rfl,rdT hq0A rfl ⟨_,rfl,rdL eA at0 (rdT hq rfl ⟨_,_,rfl,_,_,rfl,rfl,by show 4≤sizeLine;decide,fun r hr'=>?_⟩)⟩⟩)⟩⟩
    rw [ey] at k
    refine k r _ (sA.free hr') (sA.trans (zad hr')) (zab.trans ?_)
    show some (HO.tup [V.str "tie",.int (x0.a:Int),.int (f.1:Int),.int (0-(if f.2.1<x0.v then f.2.1 else x0.v))])=some (HO.tup [V.str "tie",.int (x0.a:Int),.int (f.1:Int),.int (-min x0.v f.2.1)])
    rw [zxz,Int.zero_sub]
   ·exact sw e w2 (by decide+kernel)
   ·exact sw e w2 (by decide+kernel)
  refine fun N c=>⟨_,rfl,rfl,_,rfl,zed (zol w2) (zeh (c _ _ ?_))⟩
  clear c N
  refine fun NB cB=>⟨_,rfl,rdT (sA _ _ D0.tup) rfl ⟨fa,rfl,⟨_,SqL.of (sA _ _ hfa.1)⟩,fun DB hDB=>?_⟩⟩
  refine zd7 (K:=K) (a:=fa) (xs:=fs.map V.ref) (fun j σ' H'=>∃v qs',σ'=[v,some (.ref q0)]∧H' DB=some (.lst (qs'.map V.ref))∧Paired (fun q r=>H' q=some (.tup (r.map V.int))) qs' ((F.take j).filter fun r=>decide (r[1]?=some (x0.a:Int)))∧qs'.length≤j∧zbu HA H') ⟨none,[],rfl,zab,.nil,ZAc _,zad hDB⟩ ?_ ?_ ?_
  ·rintro j σ' H' _ ⟨v,qs',rfl,_,_,_,s'⟩
   exact SqL.of (s' _ _ (sA _ _ hfa.1))
  ·rintro j y σ' H' hy ⟨v,qs',rfl,e',hqs,hl',s'⟩
   rw [ZAg] at hy
   cases hq:fs[j]? with
   | none=>rw [hq] at hy;cases hy
   | some q=>
    rw [hq] at hy
    cases hy
    obtain ⟨r,hr',hqr⟩:=paired_get hfa.2 hq
    have hj:j<F.length:=(ZAb.mp hr').1
    obtain ⟨a1,b1,l1,m1,er,_⟩:=hok.f r (ZAh hr')
    subst er
    have hqr':=s' _ _ (sA _ _ hqr)
    have et:F.take (j+1)=F.take j++[[a1,b1,l1,m1]]:=by rw [ZBa,hr'];rfl
    refine ⟨_,rfl,rdT hqr' rfl ⟨_,rfl,rdT (s' _ _ (sA _ _ hq0)) rfl ⟨rfl,_,rfl,?_⟩⟩⟩
    rw [zy3]
    have hfl:([[a1,b1,l1,m1]]:List (List Int)).filter (fun r=>decide (r[1]?=some (x0.a:Int)))=if b1=(x0.a:Int) then [[a1,b1,l1,m1]] else []:=by
     by_cases c:b1=(x0.a:Int)
     ·rw [if_pos c,List.filter_cons_of_pos (by show decide (some b1=some (x0.a:Int))=true;rw [c];exact ZBo rfl)];rfl
     ·rw [if_neg c,List.filter_cons_of_neg (by show ¬decide (some b1=some (x0.a:Int))=true;rw [ZBe,ZBf];exact c)];rfl
    by_cases c:b1=(x0.a:Int)
    ·refine zgi c ⟨_,rfl,_,e',?_,_,qs'++[q],rfl,?_,?_,?_,fun b o e=>?_⟩
     ·rw [ZAa];have:=hok.fl;exact zaz (by omega)
     ·rw [zab,ZAp];rfl
     ·rw [et,List.filter_append,hfl,if_pos c]
      have kp:∀b (z:List Int),H' b=some (.tup (z.map V.int))->upd H' DB (.lst (qs'.map V.ref++[.ref q])) b=some (.tup (z.map V.int)):=fun b z e=>by
       rw [zaj (zbp e e' (fun z=>nomatch z))]
       exact e
      exact zbd (zan hqs kp) (.cons (kp _ _ hqr') .nil)
     ·rw [ZAj];show qs'.length+1≤j+1;omega
     ·rw [zaj (zae e hDB)];exact s' _ _ e
    ·refine zep c ⟨_,qs',rfl,e',?_,by omega,s'⟩
     rw [et,List.filter_append,hfl,if_neg c,List.append_nil]
     exact hqs
  rintro σ' HB ⟨vB,qsB,rfl,eB,hqsB,hlB,sB⟩
  refine cB _ _ ?_
  clear cB NB
  have hallB:F.take (fs.map V.ref).length=F:=by rw [ZAa,Paired.length hfa.2];exact ZAy
  rw [hallB] at hqsB
  have pickB:∀f,za6 F x0.a=some f->∃q t,qsB=q::t∧HB q=some (.tup [.int (f.1:Int),.int (x0.a:Int),.int f.2.1,.int f.2.2]):=fun f hf=>by
   obtain ⟨t,et⟩:=zi2 hok hf
   rw [et] at hqsB
   cases hqsB with
   | cons h t'=>exact ⟨_,_,rfl,h⟩
  have sAB:=sA.trans sB
  have eAB:=sB _ _ eA
  have hq0B:=sB _ _ hq0A
  by_cases w3:word="soon"
  ·rcases hk with ⟨e,_⟩ | ⟨e,_⟩ | ⟨_,x,f,ex,ht,hne,hv,hf,ey⟩ | ⟨e,_⟩ | ⟨e,_⟩ | ⟨e,_⟩
   ·exact sw e w3 (by decide+kernel)
   ·exact sw e w3 (by decide+kernel)
   ·cases ex
    obtain ⟨q,t,rfl,hq⟩:=pickB f hf
    rw [zk2 ht] at hq0B
    subst w3
    refine fun N c=>⟨_,rfl,rfl,_,rfl,zct (by decide+kernel) ⟨_,rfl,rdT hq0B rfl ⟨rfl,_,rfl,zct (by decide+kernel) ⟨_,rfl,ZAq _,fun E0 hE0=>⟨DB,E0,_,rfl,rfl,SqL.of (zad hE0 _ _ eB),SqL.of zab,_,rfl,zih ?_⟩⟩⟩⟩⟩
    have sE:=zad (o:=.lst []) hE0
    have h0:=sE _ _ hq0B
    refine ⟨_,rfl,rdT h0 rfl ⟨_,_,rfl,rfl,_,rfl,zgi hv ⟨_,rfl,rdT h0 rfl ⟨_,rfl,rdT h0 rfl ⟨rfl,_,rfl,zct ?_ ⟨_,rfl,rdL (sE _ _ eB) at0 (rdT (sE _ _ hq) rfl ⟨_,rfl,rdT h0 rfl ⟨_,rfl,rdL (sE _ _ eB) at0 (rdT (sE _ _ hq) rfl ⟨_,rfl,rdT h0 rfl ⟨_,_,rfl,rfl,by show 4≤sizeLine;decide,fun r hr'=>?_⟩⟩)⟩⟩)⟩⟩⟩⟩⟩⟩
    ·rw [zln,ZBp hne];rfl
    ·rw [ey] at k
     exact k r _ ((sAB.trans sE).free hr') ((sAB.trans sE).trans (zad hr')) zab
   ·exact sw e w3 (by decide+kernel)
   ·exact sw e w3 (by decide+kernel)
   ·exact sw e w3 (by decide+kernel)
  refine fun N c=>⟨_,rfl,rfl,_,rfl,zed (zol w3) (zeh (c _ _ ?_))⟩
  clear c N
  by_cases w4:word="cross"
  ·rcases hk with ⟨e,_⟩ | ⟨e,_⟩ | ⟨e,_⟩ | ⟨e,_⟩ | ⟨e,_⟩ | ⟨_,x,g,f,ex,ht,hne,hv,hg,hf,ey⟩
   ·exact sw e w4 (by decide+kernel)
   ·exact sw e w4 (by decide+kernel)
   ·exact sw e w4 (by decide+kernel)
   ·exact sw e w4 (by decide+kernel)
   ·exact sw e w4 (by decide+kernel)
   ·cases ex
    obtain ⟨q,t,rfl,hq⟩:=pickB g hg
    obtain ⟨q',t',rfl,hq'⟩:=pickA f hf
    have hq':=sB _ _ hq'
    rw [zug ht] at hq0B
    subst w4
    refine fun N c=>⟨_,rfl,rfl,_,rfl,zct (by decide+kernel) ⟨_,rfl,rdT hq0B rfl ⟨rfl,_,rfl,zct (by decide+kernel) ⟨_,rfl,ZAq _,fun E0 hE0=>⟨DB,E0,_,rfl,rfl,SqL.of (zad hE0 _ _ eB),SqL.of zab,_,rfl,zih ?_⟩⟩⟩⟩⟩
    have sE:=zad (o:=.lst []) hE0
    have h0:=sE _ _ hq0B
    refine ⟨_,rfl,rdT h0 rfl ⟨_,_,rfl,rfl,_,rfl,zgi hv ⟨_,rfl,rdT h0 rfl ⟨_,rfl,rdT h0 rfl ⟨rfl,_,rfl,zct ?_ ⟨_,rfl,rdL (sE _ _ eB) at0 (rdT (sE _ _ hq) rfl ⟨_,rfl,rdT h0 rfl ⟨_,rfl,rdT h0 rfl ⟨_,rfl,rdL (sE _ _ eAB) at0 (rdT (sE _ _ hq') rfl ⟨_,_,rfl,_,rfl,rdL (sE _ _ eB) at0 (rdT (sE _ _ hq) rfl ⟨_,_,rfl,rfl,by show 4≤sizeLine;decide,fun r hr'=>?_⟩)⟩)⟩⟩⟩)⟩⟩⟩⟩⟩⟩
    ·rw [zln,ZBp hne];rfl
    ·rw [ey] at k
     refine k r _ ((sAB.trans sE).free hr') ((sAB.trans sE).trans (zad hr')) (zab.trans ?_)
     show some (HO.tup [V.str "wait",.int (g.1:Int),.int (x0.b:Int),.int ((if f.2.2<x0.v then f.2.2 else x0.v)-g.2.1)])=some (HO.tup [V.str "wait",.int (g.1:Int),.int (x0.b:Int),.int (min x0.v f.2.2-g.2.1)])
     rw [zxz]
  refine fun N c=>⟨_,rfl,rfl,_,rfl,zed (zol w4) (zeh (c _ _ ?_))⟩
  clear c N
  obtain ⟨z,rfl,zt⟩:∃z,xr=[z]∧z.tie=true:=by
   rcases hk with ⟨_,x,z,ex,_,hz,_⟩ | ⟨e,_⟩ | ⟨e,_⟩ | ⟨e,_⟩ | ⟨_,x,z,f,ex,_,hz,_⟩ | ⟨e,_⟩
   ·cases ex;exact ⟨z,rfl,hz⟩
   ·exact absurd e w1
   ·exact absurd e w3
   ·exact absurd e w2
   ·cases ex;exact ⟨z,rfl,hz⟩
   ·exact absurd e w4
  obtain ⟨q1,rfl,hq1⟩:∃q1,qr=[q1]∧zbf H q1 z:=by
   cases hqr with
   | cons h t=>cases t;exact ⟨_,rfl,h⟩
  have hq1:H q1=some (.tup [.str (zds z.tie),.int (z.a:Int),.int (z.b:Int),.int z.v]):=hq1
  rw [zk2 zt] at hq1
  have hq1B:=sAB _ _ hq1
  have hulB:=sAB _ _ hul
  refine fun N c=>⟨_,rfl,ul,_,rfl,.inl (SqL.of hulB),_,_,rfl,rfl,_,rfl,zep (by show ¬((2:Nat):Int)<2;omega) ⟨_,rfl,rdL hulB at1 (rdT hq1B rfl ⟨rfl,_,rfl,zed (by decide+kernel) (c _ _ ?_)⟩)⟩⟩
  clear c N
  refine fun N c=>⟨_,rfl,rdL hulB at1 (c _ _ ?_)⟩
  clear c N
  by_cases w5:word="sum"
  ·rcases hk with ⟨_,x,z',ex,ht,hz,hxz,ey⟩ | ⟨e,_⟩ | ⟨e,_⟩ | ⟨e,_⟩ | ⟨e,_⟩ | ⟨e,_⟩
   ·cases ex
    rw [zk2 ht] at hq0B
    subst w5
    refine fun N c=>⟨_,rfl,rfl,_,rfl,zct (by decide+kernel) ⟨_,rfl,rdT hq0B rfl ⟨rfl,_,rfl,zct (by decide+kernel) ⟨_,rfl,rdT hq0B rfl ⟨_,rfl,rdT hq1B rfl ⟨rfl,_,rfl,zct (by rw [zln,ZBo hxz]) ?_⟩⟩⟩⟩⟩⟩
    refine ⟨_,rfl,rdT hq0B rfl ⟨_,rfl,rdT hq1B rfl ⟨_,rfl,rdT hq0B rfl ⟨_,rfl,rdT hq1B rfl ⟨_,_,rfl,rfl,by show 4≤sizeLine;decide,fun r hr'=>?_⟩⟩⟩⟩⟩
    rw [ey] at k
    exact k r _ (sAB.free hr') (sAB.trans (zad hr')) zab
   ·exact absurd e w1
   ·exact absurd e w3
   ·exact absurd e w2
   ·exact sw e w5 (by decide+kernel)
   ·exact absurd e w4
  refine fun N c=>⟨_,rfl,rfl,_,rfl,zed (zol w5) (zeh (c _ _ ?_))⟩
  clear c N
  rcases hk with ⟨e,_⟩ | ⟨e,_⟩ | ⟨e,_⟩ | ⟨e,_⟩ | ⟨w6,x,z',f,ex,ht,hz,hzb,hza,hf,ey⟩ | ⟨e,_⟩
  ·exact absurd e w5
  ·exact absurd e w1
  ·exact absurd e w3
  ·exact absurd e w2
  ·cases ex
   obtain ⟨q,t,rfl,hq⟩:=pickA f hf
   have hq:=sB _ _ hq
   rw [zug ht] at hq0B
   subst w6
   refine fun N c=>⟨_,rfl,rfl,_,rfl,zct (by decide+kernel) ⟨_,rfl,rdT hq0B rfl ⟨rfl,_,rfl,zct (by decide+kernel) ⟨_,rfl,rdT hq1B rfl ⟨_,rfl,rdT hq0B rfl ⟨rfl,_,rfl,zct (by rw [zln,ZBo hzb]) ⟨_,rfl,rdT hq1B rfl ⟨_,rfl,rdT hq0B rfl ⟨rfl,_,rfl,zct (by rw [zln,ZBp hza];rfl) ?_⟩⟩⟩⟩⟩⟩⟩⟩⟩
   refine ⟨_,rfl,rdT hq1B rfl ⟨_,rfl,rdT hq0B rfl ⟨_,rfl,rdT hq0B rfl ⟨_,rfl,rdL eAB at0 (rdT hq rfl ⟨_,_,rfl,_,rfl,rdT hq1B rfl ⟨_,_,rfl,rfl,by show 4≤sizeLine;decide,fun r hr'=>?_⟩⟩)⟩⟩⟩⟩
   rw [ey] at k
   refine k r _ (sAB.free hr') (sAB.trans (zad hr')) (zab.trans ?_)
   show some (HO.tup [V.str "wait",.int (z.a:Int),.int (x0.b:Int),.int ((if f.2.2<x0.v then f.2.2 else x0.v)-z.v)])=some (HO.tup [V.str "wait",.int (z.a:Int),.int (x0.b:Int),.int (min x0.v f.2.2-z.v)])
   rw [zxz]
  ·exact absurd e w4
end
end
end Y0
namespace L2
open PySem PySem.Spec PyProof.Rows
section
variable {X:Cx}
theorem zrk {K:ZBq} (h:X.K=K):OpR X (binaryOp .Add) (zvv K):=by subst h;exact zpl
noncomputable def zvu:R2:=fun x y H Q=>∃(p q:Addr) (xs:List V),x=.ref p∧y=.ref q∧H p=some (.lst xs)∧H q=some (.lst [])∧Q (.bl xs.isEmpty) H
theorem zrj (hu:X.A.units+64<cLine):OpR X (compareOp .Eq) zvu:=by
 intro pins s σ H x y v u Q I rx ry h
 obtain ⟨p,q,xs,rfl,rfl,h1,h2,hq⟩:=h
 cases rx
 cases ry
 obtain ⟨us,r1,p1,_⟩:=I.list (SqL.of h1)
 obtain ⟨vs,r2,p2,_⟩:=I.list (SqL.of h2)
 have l1:=r1.length
 have l2:=r2.length
 have v0:vs=[]:=List.length_eq_zero_iff.mp l2.symm
 subst v0
 cases xs with
 | nil=>
  have u0:us=[]:=List.length_eq_zero_iff.mp l1.symm
  subst u0
  exact SeqAt.eq_listAt (e:=fun _=>true) p1.isList p2.isList rfl (by omega) (fun j h1 _=>absurd h1 (ZBm _)) ⟨.bl _,H,I,rfl,hq⟩
 | cons a t=>
  refine SeqAt.eq_list_lengthsAt p1.isList p2.isList ?_ (by omega) ⟨.bl _,H,I,rfl,hq⟩
  rw [ZAi,←l1]
  rfl
end
end L2
namespace Y0
open PySem L2
noncomputable def mn:MU.Wd->Nat
 | .sum=>2
 | .back=>2
 | _=>1
theorem zuo {F:MU.za4} {wd:MU.Wd} {xs:List MU.zar} {y:MU.zar} (h:zda F (zdb wd) xs (some y)):xs.length=mn wd:=by
 rcases zlk h rfl with ⟨e,x,z,rfl,_⟩ | ⟨e,x,f,rfl,_⟩ | ⟨e,x,f,rfl,_⟩ | ⟨e,x,f,rfl,_⟩ | ⟨e,x,z,f,rfl,_⟩ | ⟨e,x,g,f,rfl,_⟩<;>cases wd<;>first | rfl | exact absurd e (by decide+kernel)
noncomputable abbrev zud:List (Key×V):=zgf [] [(Sum.inr "sum",V.int 2),(Sum.inr "back",V.int 2)]
theorem zuc {wd:MU.Wd}:(zfg zud (Sum.inr (zdb wd))).getD (V.int 1)=V.int (mn wd:Int):=by
 cases wd<;>with_unfolding_all rfl
noncomputable def zst:Sp:=fun vs H Q _=>∃(wp ta fa rl:Addr) (n la:Int) (T F:List (List Int)) (qs:List Addr) (p:List MU.Row),vs=[.ref wp,.ref rl]∧zfe H wp ta fa n la T F∧zcv n la T F∧H rl=some (.lst (qs.map V.ref))∧Paired (zf4 H) qs p∧
 zj5 (za6 F) (InB (zgp n la T F)) p∧p.length≤16500000∧∀H',zbu H H'->Q (.bl true) H'
section
variable {P:Program} {w:World} {K:ZBq} {mg:Str->Option Value} {base:Heap}
noncomputable abbrev nLi:List Str:=["_law_w","_law_rows","_law_told","_law_at","_law_said","_law_word","_law_used","_law_many","_law_last"]
theorem zsz:zat nLi ["_law_w","_law_rows"] (zai sL_is_paper):=⟨rfl,rfl,rfl,by decide+kernel,rfl,by decide+kernel,by decide+kernel⟩
theorem zyg:zcg (zai sL_is_paper) nLi (fsc [(".0",.local),("_law_bound",.local)]) ["_law_bound"] [none]:=⟨rfl,by decide+kernel,by decide+kernel,by decide+kernel,rfl,by decide+kernel⟩
theorem zyf:zcg (zai sL_is_paper) nLi (fsc [(".0",.local),("_law_row",.local),("_law_at",.free)]) ["_law_row","_law_at"] [none,some 3]:=⟨rfl,by decide+kernel,by decide+kernel,by decide+kernel,rfl,by decide+kernel⟩
theorem zye:zcg (zai sL_is_paper) nLi (fsc [(".0",.local),("_law_row",.local),("_law_rows",.free)]) ["_law_row","_law_rows"] [none,some 1]:=⟨rfl,by decide+kernel,by decide+kernel,by decide+kernel,rfl,by decide+kernel⟩
theorem zxy:(["_law_bound"]:List Str).Nodup:=by decide+kernel
theorem zxx:(["_law_row","_law_at"]:List Str).Nodup:=by decide+kernel
theorem zxw:(["_law_row","_law_rows"]:List Str).Nodup:=by decide+kernel
section
seal L2.PE L2.PA L2.PT L2.PS L2.PSs L2.PG L2.PGs L2.PI L2.PO
theorem ok_lisP {f fB fF:Addr} {fd fdB fdF:FuncData} (Fn0:Fn K mg "_law_is_paper" sL_is_paper ["_law_w","_law_rows"] f fd) (hrange:mg "range"=none) (hlen:mg "len"=none)
 (FB:Fn K mg "_law_bounds" sL_bounds ["_law_w"] fB fdB) (GB:zbj P w K mg base CX0 1 fB fdB ["_law_w"] zkm)
 (FF:Fn K mg "_law_follows" sL_follows ["_law_w","_law_word","_law_used"] fF fdF) (GF:zbj P w K mg base CX0 1 fF fdF ["_law_w","_law_word","_law_used"] zsu):zbj P w K mg base CX0 2 f fd ["_law_w","_law_rows"] zst:=by
 refine Fn0.F.ok zsz (fun vs H Q E h=>?_) (fun cdv A outer s H vs Q E hr h=>?_)
 ·obtain ⟨_,_,_,_,_,_,_,_,_,_,rfl,_⟩:=h
  rfl
 ·obtain ⟨wp,ta,fa,rl,n,la,T,F,qs,p,rfl,D0,hok,hrl,hrows,hp,few,k⟩:=h
  have hu:=zfc hr
  refine ⟨_,zag (zhv (i:=2) zsz.nd rfl rfl rfl (zb2 (zao GB hr rfl FB.g FB.F.kp FB.b .nil za1 (zaa (pv 0) zac))) zyg (fun cl ex s0 H0=>⟨zap (i:=0) zxy rfl (Or.inl rfl),zdi,zbi (zrk (K:=K) rfl) (za8 (zaa zax zac)) (pv 0)⟩))
   (zag (zcx PassesOwn.never rfl (zd2 (by rfl) hrange (zaa (zau za5 (by rfl) hlen PySem.boot_len (zaa (pv 1) zac)) zac)) (zap (i:=3) zsz.nd rfl (Or.inr rfl))
    (zag (zs1 (za9 zav (pv 1) (pv 3) (fun _ _=>rfl)) (zt7 (K:=K) (n:=3) rfl rfl (zbb (zap (i:=4) zsz.nd rfl (Or.inl rfl)) (zbb (zap (i:=5) zsz.nd rfl (Or.inl rfl)) (zbb (zap (i:=6) zsz.nd rfl (Or.inl rfl)) zf1)))))
    (zaf (zbk (zak zbv (pv 5) zax (zam _))
     (zaf (zbk (PW.pt (zeg (zak (zph hr.units) (pv 4) (pv 2) (by with_unfolding_all rfl)) (zeo (zak (zpi hr.units) (pv 6) (za8 zac) (zam _))))) (zaf (zaq ze1)) zas))
     (zag (za0 (i:=7) zsz.nd rfl (Or.inl rfl) (zrf hu (zpe (zjo zax zah (zjo zax zah zo9)) rfl rfl (by simp) (by simp)) (pv 5) zah ⟨by rfl,by rfl,by rfl,by rfl⟩))
     (zag (zbk (PW.pt (zeg (zak zgc (zau za5 (by rfl) hlen PySem.boot_len (zaa (pv 6) zac)) (pv 7) (zam _)) (zeo (zak (zpj hr.units) (zc7 rfl (zga (pv 6)) zyf (fun cl ex s0 H0=>⟨zap (i:=0) zxx rfl (Or.inl rfl),zey (zdd (zjm zfs zg4 zah (pv 0) (pv 1))),pv 0⟩)) (zcy zac) (zam _))))) (zaf (zaq ze1)) zas)
     (zaf (zbk (zak (zpi hr.units) (zao GF hr rfl FF.g FF.F.kp FF.b .nil za1 (zaa (pv 0) (zaa (pv 5) (zaa (zc7 rfl (zga (pv 6)) zye (fun cl ex s0 H0=>⟨zap (i:=0) zxw rfl (Or.inl rfl),zdi,za9 zbn (za9 zav (pv 1) (pv 0) (fun _ _=>rfl)) zah (fun _ _=>rfl)⟩)) zac)))) (pv 4) (zam _)) (zaf (zaq ze1)) zas))))))))
   (zag (zbk (zak (zrj hr.units) (pv 1) (zcy zac) (zam _)) (zaf (zaq ze1)) zas)
   (zag (za0 (i:=8) zsz.nd rfl (Or.inl rfl) (za9 zbn (za9 zav (pv 1) (zbi zcj (zau za5 (by rfl) hlen PySem.boot_len (zaa (pv 1) zac)) zah) (fun _ _=>rfl)) zah (fun _ _=>rfl)))
   (zaf (zaq (ze5 (zcp zbv (ixT (pv 8)) zax (zam _)) (ze5 (zcp zbv (ixT (pv 8)) (ixT (pv 8)) (zam _)) (zhw (zcp zg4 (ixT (pv 8)) zah (zam _)))))))))),?_⟩
  have hql:qs.length=p.length:=Paired.length hrows
  refine fun N1 c1=>⟨_,rfl,wp,ta,fa,n,la,T,F,rfl,D0,hok,fun bl H1 hbl s1 R1=>?_⟩
  obtain ⟨bs,hbs⟩:=R1
  refine ⟨bl,rfl,⟨_,SqL.of hbs.1⟩,fun tl htl=>?_⟩
  have hbn:(zgp n la T F).length≤100:=by
   unfold zgp
   rw [ZAj,ZAj,zdn,zc5 hok.fourT,zc5 hok.fourF]
   have:=hok.tl
   have:=hok.fl
   have:=hok.n2
   omega
  have hbl2:bs.length=(zgp n la T F).length:=Paired.length hbs.2
  refine zd7 (K:=K) (a:=bl) (xs:=bs.map V.ref) (fun j σ' H'=>∃v ts,σ'=[v]∧H' tl=some (.lst (ts.map V.ref))∧Paired (fun q (r:List Int)=>H' q=some (.tup (V.str "tie"::r.map V.int))) ts ((zgp n la T F).take j)∧ts.length=j∧zbu H1 H') ⟨none,[],rfl,zab,.nil,rfl,zad htl⟩ ?_ ?_ ?_
  ·rintro j σ' H2 _ ⟨v,ts,rfl,_,_,_,s2⟩
   exact SqL.of (s2 _ _ hbs.1)
  ·rintro j y σ' H2 hy ⟨v,ts,rfl,e2,hts,htl',s2⟩
   rw [ZAg] at hy
   cases hq:bs[j]? with
   | none=>rw [hq] at hy;cases hy
   | some q=>
    rw [hq] at hy
    cases hy
    obtain ⟨r,hr',hqr⟩:=paired_get hbs.2 hq
    have hj:j<(zgp n la T F).length:=(ZAb.mp hr').1
    have et:(zgp n la T F).take (j+1)=(zgp n la T F).take j++[r]:=by rw [ZBa,hr'];rfl
    obtain ⟨a1,b1,v1,er,_⟩:=hok.idxN r (ZAh hr')
    subst er
    refine ⟨by show 1≤sizeLine;decide,fun t1 ht1=>⟨_,rfl,t1,q,_,_,rfl,rfl,SqT.of zab,SqT.of (zad ht1 _ _ (s2 _ _ hqr)),(fun z=>nomatch z),by show 1+3≤sizeLine;decide,(fun z=>nomatch z),fun _ t2 ht2=>?_⟩⟩
    have s3:=zad (o:=.tup [V.str "tie"]) ht1
    have s4:=zad (o:=.tup ([V.str "tie"]++[a1,b1,v1].map V.int)) ht2
    have s34:=s3.trans s4
    have e4:=s34 _ _ e2
    refine ⟨_,e4,?_,_,ts++[t2],rfl,?_,?_,?_,fun b o e=>?_⟩
    ·rw [ZAa];exact zaz (by omega)
    ·rw [zab,ZAp];rfl
    ·rw [et]
     have kp:∀b (z:List Int),upd (upd H2 t1 (.tup [V.str "tie"])) t2 (.tup ([V.str "tie"]++[a1,b1,v1].map V.int)) b=some (.tup (V.str "tie"::z.map V.int))->upd (upd (upd H2 t1 (.tup [V.str "tie"])) t2 (.tup ([V.str "tie"]++[a1,b1,v1].map V.int))) tl (.lst (ts.map V.ref++[.ref t2])) b=some (.tup (V.str "tie"::z.map V.int)):=fun b z e=>by
      rw [zaj (zbp e e4 (fun z=>nomatch z))]
      exact e
     exact zbd (zan hts fun b z e=>kp b z (s34 _ _ e)) (.cons (kp _ _ zab) .nil)
    ·rw [ZAj,htl'];rfl
    ·rw [zaj (zae e htl)];exact s34 _ _ (s2 _ _ e)
  rintro σ' H2 ⟨v,ts,rfl,e2,hts,_,s2⟩
  refine c1 _ _ ?_
  clear c1 N1
  rw [ZAa,hbl2,ZAy] at hts
  have s02:=s1.trans s2
  have hrl2:=s02 _ _ hrl
  refine fun N1 c1=>⟨_,rfl,rl,_,rfl,.inl (SqL.of hrl2),_,rfl,?_,?_,?_⟩
  ·rw [ZAa];omega
  ·rw [ZAa];omega
  refine zeq (n:=(((qs.map V.ref).length:Nat):Int).toNat) (fun i σ' H'=>∃v3 v4 v5 v6 v7,σ'=[some (.ref wp),some (.ref rl),some (.ref tl),v3,v4,v5,v6,v7,none]∧zbu H2 H') ⟨none,none,none,none,none,rfl,zbu.refl _⟩ ?_ ?_
  ·rintro i σ' H3 hi ⟨v3,v4,v5,v6,v7,rfl,s3⟩
   rw [ZBd,ZAa] at hi
   have ei:(0:Int)+(i:Int)=(i:Int):=by omega
   rw [ei]
   have s03:=s02.trans s3
   obtain ⟨q,hq⟩:∃q,qs[i]?=some q:=⟨_,ZAd hi⟩
   obtain ⟨r,hr',pw,pu,g1,g2,g3⟩:=paired_get hrows hq
   have hrow:=hp.row i r hr'
   have hat:atI (qs.map V.ref) (i:Int)=some (.ref q):=zby (by rw [ZAg,hq];rfl)
   have g1':=s03 _ _ g1
   have g2':H3 pw=some (.tup (zdx r.what)):=s03 _ _ g2
   have g3':=s03 _ _ g3
   refine fun N2 c2=>⟨_,rfl,zqp rfl (s03 _ _ hrl) hat ⟨q,_,rfl,SqT.of g1',rfl,_,_,rfl,_,_,rfl,_,_,rfl,rfl,c2 _ _ ?_⟩⟩
   clear c2 N2
   refine ⟨_,rfl,rfl,_,rfl,?_⟩
   by_cases hw:r.word=.told
   ·obtain ⟨u0,ht,hin⟩:=hrow.told hw
    have ew:zdx r.what=V.str "tie"::[(r.what.a:Int),(r.what.b:Int),r.what.v].map V.int:=by
     unfold zdx
     rw [zk2 ht]
     rfl
    rw [ew] at g2'
    rw [u0] at g3'
    refine zct (zik hw) ⟨_,rfl,_,rfl,pw,_,tl,ts,rfl,rfl,g2',rfl,s3 _ _ e2,fun b hb=>?_,_,rfl,zed ?_ ?_⟩
    ·obtain ⟨j,hj,eb⟩:=ZA8 hb
     obtain ⟨row,hrow',hb2⟩:=paired_get hts (show ts[j]?=some b by rw [ZAd hj,eb])
     refine ⟨_,s3 _ _ hb2,?_⟩
     rw [List.all_cons,List.all_map]
     exact ZBc.mpr fun _ _=>rfl
    ·show (!(ts.any fun b=>_))=false
     have:(ts.any fun b=>eqR H3 (V.str "tie"::[(r.what.a:Int),(r.what.b:Int),r.what.v].map V.int) (.ref b))=true:=by
      rw [List.any_eq_true]
      obtain ⟨j,hj,e⟩:=ZA8 hin
      have hpl:=Paired.length hts
      obtain ⟨b,hb'⟩:∃b,ts[j]?=some b:=⟨_,ZAd (by omega)⟩
      obtain ⟨row,hrow',hb2⟩:=paired_get hts hb'
      rw [ZAd hj,e] at hrow'
      cases hrow'
      refine ⟨b,ZAh hb',?_⟩
      have hb3:=s3 _ _ hb2
      show (match H3 b with | some (.tup ys)=>zii ys _ | _=>false)=true
      rw [hb3]
      exact zfp rfl
     rw [this]
     rfl
    ·refine ⟨_,rfl,ZAq _,fun E0 hE0=>⟨pu,E0,_,_,rfl,rfl,zad hE0 _ _ g3',zab,rfl,rfl,_,rfl,zeh ⟨_,_,_,_,_,rfl,s3.trans (zad hE0)⟩⟩⟩
   ·refine zed (zkb hw) ?_
    obtain ⟨xs,hux,ask⟩:=hrow.uses hw
    have hul:r.used.length=xs.length:=Paired.length hux
    have hml:=zuo ask
    have hb:=hrow.below
    have few2:=hrow.few
    refine fun N2 c2 d hd=>⟨zab,[(Sum.inr "sum",V.int 2),(Sum.inr "back",V.int 2)],rfl,by simp,d,rfl,.inl ⟨_,.inl zab⟩,_,rfl,_,ze7.k (k:=Sum.inr (zdb r.word)) zab,c2 _ _ ?_⟩
    clear c2 N2
    rw [zlo,zuc]
    have s4:=zad (o:=.dK zud) hd
    have g1':=s4 _ _ g1'
    have g2':=s4 _ _ g2'
    have g3':=s4 _ _ g3'
    have s34:=s3.trans s4
    have s04:=s03.trans s4
    generalize upd H3 d (.dK zud)=H4 at*
    refine fun N2 c2=>⟨_,rfl,pu,_,rfl,.inr (SqT.of g3'),_,rfl,rfl,_,rfl,zed ?_ ⟨_,rfl,pu,rfl,⟨_,SqT.of g3'⟩,fun Da hDa=>?_⟩⟩
    ·rw [ZAa,hul,hml,ZBo rfl];rfl
    refine zee (xs:=r.used.map fun i:Nat=>V.int (i:Int)) (fun j σ' H'=>∃v,σ'=[v,some (.int (i:Int))]∧H' Da=some (.lst (([]:List Int).map V.int))∧zbu H4 H') ⟨none,rfl,zab,zad hDa⟩ ?_ ?_ ?_
    ·rintro j σ' H5 _ ⟨v,rfl,_,s5⟩
     exact SqT.of (s5 _ _ g3')
    ·rintro j y σ' H5 hy ⟨v,rfl,e5,s5⟩
     rw [ZAg] at hy
     cases q2:r.used[j]? with
     | none=>rw [q2] at hy;cases hy
     | some z=>
      rw [q2] at hy
      cases hy
      have hz:=hb z (ZAh q2)
      refine ⟨_,rfl,_,_,rfl,rfl,_,rfl,zgi (by omega) ⟨_,rfl,_,_,rfl,rfl,_,rfl,zed ?_ ⟨_,rfl,e5,s5⟩⟩⟩
      show (!decide ((z:Int)<(i:Int)))=false
      rw [ZBo (by omega)]
      rfl
    rintro σ' H5 ⟨v,rfl,e5,s5⟩
    refine ⟨ZAq _,fun E0 hE0=>⟨Da,E0,[],[],rfl,rfl,SqL.of (zad hE0 _ _ e5),SqL.of zab,_,rfl,zed (by decide) (c2 _ _ ?_)⟩⟩
    clear c2 N2
    have s6:=s5.trans (zad (o:=.lst []) hE0)
    have g1':=s6 _ _ g1'
    have g2':=s6 _ _ g2'
    have g3':=s6 _ _ g3'
    have s36:=s34.trans s6
    have s06:=s04.trans s6
    generalize upd H5 E0 (.lst [])=H6 at*
    refine ⟨_,rfl,_,rfl,_,rfl,pu,rfl,⟨_,SqT.of g3'⟩,fun Db hDb=>?_⟩
    refine zee (xs:=r.used.map fun i:Nat=>V.int (i:Int)) (fun j σ' H'=>∃v ps,σ'=[v,some (.ref rl)]∧H' Db=some (.lst (ps.map V.ref))∧Paired (zbf H') ps (xs.take j)∧ps.length=j∧zbu H6 H') ⟨none,[],rfl,zab,.nil,rfl,zad hDb⟩ ?_ ?_ ?_
    ·rintro j σ' H7 _ ⟨v,ps,rfl,_,_,_,s7⟩
     exact SqT.of (s7 _ _ g3')
    ·rintro j x σ' H7 hx ⟨v,ps,rfl,e7,hps,hpl,s7⟩
     rw [ZAg] at hx
     cases q2:r.used[j]? with
     | none=>rw [q2] at hx;cases hx
     | some z=>
      rw [q2] at hx
      cases hx
      have hj:=(ZAb.mp q2).1
      obtain ⟨x,hxj,hz,ri,hri,ex⟩:=paired_get hux q2
      obtain ⟨qi,hqi⟩:∃q,qs[z]?=some q:=⟨_,ZAd (by have:=(ZAb.mp hri).1;omega)⟩
      obtain ⟨ri',hri',pwi,pui,k1,k2,k3⟩:=paired_get hrows hqi
      rw [hri] at hri'
      cases hri'
      subst ex
      have hati:atI (qs.map V.ref) (z:Int)=some (.ref qi):=zby (by rw [ZAg,hqi];rfl)
      have s07:=s06.trans s7
      refine ⟨_,rfl,zqp rfl (s07 _ _ hrl) hati (rdT (s07 _ _ k1) rfl ⟨_,e7,?_,_,ps++[pwi],rfl,?_,?_,?_,fun b o e=>?_⟩)⟩
      ·rw [ZAa];exact zaz (by omega)
      ·rw [zab,ZAp];rfl
      ·have et:xs.take (j+1)=xs.take j++[ri.what]:=by rw [ZBa,hxj];rfl
       rw [et]
       have kp:∀b y,zbf H7 b y->zbf (upd H7 Db (.lst (ps.map V.ref++[.ref pwi]))) b y:=fun b y e=>by
        unfold zbf
        rw [zaj (zbp e e7 (fun z=>nomatch z))]
        exact e
       exact zbd (zan hps kp) (.cons (kp _ _ (zbf.same k2 s07)) .nil)
      ·rw [ZAj,hpl];rfl
      ·rw [zaj (zae e hDb)];exact s7 _ _ e
    rintro σ' H7 ⟨v,ps,rfl,e7,hps,hpl,s7⟩
    rw [ZAa,hul,ZAy] at hps
    have s07:=s06.trans s7
    refine ⟨wp,ta,fa,Db,n,la,T,F,ps,xs,_,_,rfl,D0.same s07,hok,e7,hps,ask,fun rr H8 hrr s8 hx=>?_⟩
    have s78:=s7.trans s8
    refine ⟨_,rfl,rr,pw,_,_,rfl,rfl,hx,s78 _ _ g2',rfl,rfl,_,rfl,zed ?_ ⟨_,_,_,_,_,rfl,s36.trans s78⟩⟩
    show (!zii (zdx r.what) (zdx r.what))=false
    rw [zfp rfl]
    rfl
  ·rintro σ' H3 ⟨v3,v4,v5,v6,v7,rfl,s3⟩
   refine c1 _ _ ?_
   clear c1 N1
   have s03:=s02.trans s3
   obtain ⟨r,hlast,bars⟩:=hp.last
   have hpl:=(ZAb.mp hlast).1
   obtain ⟨q,hq⟩:∃q,qs[p.length-1]?=some q:=⟨_,ZAd (by omega)⟩
   obtain ⟨r',hr',pw,pu,g1,g2,g3⟩:=paired_get hrows hq
   rw [hlast] at hr'
   cases hr'
   refine fun N2 c2=>⟨_,rfl,ZAq _,fun E0 hE0=>⟨rl,E0,_,rfl,rfl,zad hE0 _ _ (s03 _ _ hrl),zab,_,rfl,zed ?_ (c2 _ _ ?_)⟩⟩
   ·cases qs with
    | nil=>exact absurd hql (by rw [ZBk];omega)
    | cons a t=>rfl
   clear c2 N2
   have s4:=s03.trans (zad (o:=.lst []) hE0)
   generalize upd H3 E0 (.lst [])=H4 at*
   have hat:atI (qs.map V.ref) (((qs.map V.ref).length:Int)-1)=some (.ref q):=by
    rw [ZAa,show ((qs.length:Nat):Int)-1=((p.length-1:Nat):Int) by omega]
    exact zby (by rw [ZAg,hq];rfl)
   have g2':H4 pw=some (.tup (zdx r.what)):=s4 _ _ g2
   obtain ⟨b1,b2,b3⟩:=bars
   refine fun N2 c2=>⟨_,rfl,_,rfl,rl,_,rfl,.inl (SqL.of (s4 _ _ hrl)),_,_,rfl,rfl,rl,_,_,_,rfl,rfl,s4 _ _ hrl,hat,rdT (s4 _ _ g1) rfl (c2 _ _ ?_)⟩
   clear c2 N2
   refine ⟨_,rfl,rdT g2' rfl ⟨rfl,_,rfl,?_⟩⟩
   rw [zk2 b1]
   refine zct (by decide+kernel) ⟨_,rfl,rdT g2' rfl ⟨_,rfl,rdT g2' rfl ⟨rfl,_,rfl,zct (by rw [zln,ZBo b2]) ⟨_,rfl,rdT g2' rfl ⟨_,_,rfl,rfl,?_⟩⟩⟩⟩⟩
   exact zmc (k _ s4) (ZBo b3).symm
end
end
end Y0
namespace Y0
open PySem L2
theorem ziz {K:ZBq}:PySem.W.kitOne K (.type "tuple") (.type "tuple")=some true:=by
 unfold PySem.W.kitOne
 rw [if_pos (by decide+kernel)]
theorem zv9 {K:ZBq}:PySem.W.kitOne K (.type "list") (.type "list")=some true:=by
 unfold PySem.W.kitOne
 rw [if_pos (by decide+kernel)]
theorem zv8 {K:ZBq}:PySem.W.kitOne K (.type "str") (.type "str")=some true:=by
 unfold PySem.W.kitOne
 rw [if_pos (by decide+kernel)]
structure TxtF (mg:Str->Option Value):Prop where
 isi:mg "isinstance"=none
 list:mg "list"=none
 tuple:mg "tuple"=none
 str:mg "str"=none
 len:mg "len"=none
theorem zuf {t:Bool}:inV (V.str (zds t)) [V.str "tie",V.str "wait"]=true:=by
 cases t<;>with_unfolding_all rfl
noncomputable def zos:Sp:=fun vs H Q _=>∃(rl:Addr) (qs:List Addr) (p:List MU.Row),vs=[.ref rl]∧H rl=some (.lst (qs.map V.ref))∧Paired (zf4 H) qs p∧(∀r∈p,r.used.length≤2)∧∀H',zbu H H'->Q (.bl true) H'
section
variable {P:Program} {w:World} {K:ZBq} {mg:Str->Option Value} {base:Heap}
noncomputable abbrev nLo:List Str:=["_law_rows","_law_row"]
theorem zyu:zat nLo ["_law_rows"] (zai sL_is_form):=⟨rfl,rfl,rfl,by decide+kernel,rfl,by decide+kernel,by decide+kernel⟩
theorem zAl:zcg (zai sL_is_form) nLo (fsc [(".0",.local),("_law_number",.local),("_law_whole",.globalImplicit)]) ["_law_number"] [none]:=⟨rfl,by decide+kernel,by decide+kernel,by decide+kernel,rfl,by decide+kernel⟩
theorem zy1:(["_law_number"]:List Str).Nodup:=by decide+kernel
section
seal L2.PE L2.PA L2.PT L2.PS L2.PSs L2.PG L2.PGs L2.PI L2.PO
theorem ok_lform {f fW:Addr} {fd fdW:FuncData} (Fn0:Fn K mg "_law_is_form" sL_is_form ["_law_rows"] f fd) (T:TxtF mg)
 (FW:Fn K mg "_law_whole" sWhole ["_law_found"] fW fdW) (GW:zbj P w K mg base CX0 1 fW fdW ["_law_found"] zlr):zbj P w K mg base CX0 2 f fd ["_law_rows"] zos:=by
 refine Fn0.F.ok zyu (fun vs H Q E h=>?_) (fun cdv A outer s H vs Q E hr h=>?_)
 ·obtain ⟨_,_,_,rfl,_⟩:=h
  rfl
 ·obtain ⟨rl,qs,p,rfl,hrl,hrows,few,k⟩:=h
  refine ⟨_,zag (zbk (zdd (zdv (zau zca (by rfl) T.isi (by decide+kernel) (zaa (pv 0) (zaa (ze0 (v:=.ty "list") rfl T.list (by decide+kernel) rfl) zac))))) (zaf (zaq ze1)) zas)
   (zag (zcx PassesOwn.never rfl (zb2 (pv 0)) (zap (i:=1) zyu.nd rfl (Or.inl rfl))
    (zag (zbk (PW.pt (zeg (zdd (zdv (zau zca (by rfl) T.isi (by decide+kernel) (zaa (pv 1) (zaa (ze0 (v:=.ty "tuple") rfl T.tuple (by decide+kernel) rfl) zac)))))
     (zeg (zak zgc (zau za5 (by rfl) T.len PySem.boot_len (zaa (pv 1) zac)) zah (zam _))
     (zeg (zdd (zdv (zau zca (by rfl) T.isi (by decide+kernel) (zaa (ixT (pv 1)) (zaa (ze0 (v:=.ty "tuple") rfl T.tuple (by decide+kernel) rfl) zac)))))
     (zeo (zak zgc (zau za5 (by rfl) T.len PySem.boot_len (zaa (ixT (pv 1)) zac)) zah (zam _))))))) (zaf (zaq ze1)) zas)
    (zag (zbk (PW.pt (zeg (zak zkx (za9 zbn (ixT (pv 1)) zah (fun _ _=>rfl)) (za8 (zaa zax (zaa zax zac))) (by with_unfolding_all rfl))
     (zeg (zdd (zdv (zau zca (by rfl) T.isi (by decide+kernel) (zaa (ixT (pv 1)) (zaa (ze0 (v:=.ty "str") rfl T.str (by decide+kernel) rfl) zac)))))
     (zeo (zdd (zdv (zau zca (by rfl) T.isi (by decide+kernel) (zaa (ixT (pv 1)) (zaa (ze0 (v:=.ty "tuple") rfl T.tuple (by decide+kernel) rfl) zac))))))))) (zaf (zaq ze1)) zas)
    (zaf (zbk (zak (zpj hr.units) (zc7 rfl (zga (zvz (zbi zpl (zez zlt (ixT (pv 1)) (zfz zah) zf0) (ixT (pv 1))))) zAl (fun cl ex s0 H0=>⟨zap (i:=0) zy1 rfl (Or.inl rfl),zey (zdd (zdv (zao GW hr rfl FW.g FW.F.kp FW.b .nil za1 (zaa (pv 0) zac)))),pv 0⟩)) (zcy zac) (zam _)) (zaf (zaq ze1)) zas)))))
   (zaf (zaq ze1))),?_⟩
  refine fun N1 c1=>⟨_,rfl,_,_,_,_,rfl,.lst hrl,zv9,_,rfl,zeh (c1 _ _ ?_)⟩
  clear c1 N1
  refine fun N1 c1=>⟨_,rfl,rl,rfl,⟨_,SqL.of hrl⟩,?_⟩
  refine zcf (K:=K) (a:=rl) (xs:=qs.map V.ref) (fun i σ' H'=>∃v,σ'=[some (.ref rl),v]∧zbu H H') ⟨none,rfl,zbu.refl _⟩ ?_ ?_ ?_
  ·rintro i σ' H2 _ ⟨v,rfl,s2⟩
   exact SqL.of (s2 _ _ hrl)
  ·rintro i x σ' H2 hx ⟨v,rfl,s2⟩
   rw [ZAg] at hx
   cases hq:qs[i]? with
   | none=>rw [hq] at hx;cases hx
   | some q=>
    rw [hq] at hx
    cases hx
    obtain ⟨r,hr',pw,pu,g1,g2,g3⟩:=paired_get hrows hq
    have few:=few r (ZAh hr')
    have g1':=s2 _ _ g1
    have g2':H2 pw=some (.tup (zdx r.what)):=s2 _ _ g2
    have g3':=s2 _ _ g3
    refine fun N2 c2=>⟨_,rfl,_,_,_,_,rfl,.tup g1',ziz,_,rfl,zeh ⟨_,rfl,q,_,rfl,.inr (SqT.of g1'),rfl,_,rfl,zed (show (!decide (V.int ((3:Nat):Int)=V.int 3))=false by decide+kernel) ⟨_,rfl,rdT g1' rfl ⟨_,_,_,_,rfl,.tup g2',ziz,_,rfl,zeh ⟨_,rfl,rdT g1' rfl ⟨pw,_,rfl,.inr (SqT.of g2'),rfl,_,rfl,zed (show (!decide (V.int ((4:Nat):Int)=V.int 4))=false by decide+kernel) (c2 _ _ ?_)⟩⟩⟩⟩⟩⟩
    clear c2 N2
    refine fun N2 c2=>⟨_,rfl,rdT g1' rfl (rdT g2' rfl ⟨by show 2≤sizeLine;decide,fun t1 ht1=>⟨t1,_,rfl,.inr (SqT.of zab),rfl,rfl,_,rfl,zed ?_ ?_⟩⟩)⟩
    ·show (!inV (V.str (zds r.what.tie)) [V.str "tie",V.str "wait"])=false
     rw [zuf]
     rfl
    have st:=zad (o:=.tup [V.str "tie",V.str "wait"]) ht1
    have s3:=s2.trans st
    have g1':=st _ _ g1'
    have g2':=st _ _ g2'
    have g3':=st _ _ g3'
    generalize upd H2 t1 (.tup [V.str "tie",V.str "wait"])=H3 at*
    refine ⟨_,rfl,rdT g1' rfl ⟨_,_,_,_,rfl,.str _,zv8,_,rfl,zeh ⟨_,rfl,rdT g1' rfl ⟨_,_,_,_,rfl,.tup g3',ziz,_,rfl,zeh (c2 _ _ ?_)⟩⟩⟩⟩
    clear c2 N2
    refine ⟨fun v H'=>∃a zs,v=.ref a∧H' a=some (.tup ((zs:List Int).map V.int))∧zs.length≤5∧zbu H3 H',?_,fun v H4 hv=>?_⟩
    ·refine ⟨_,rfl,rdT g1' rfl ⟨_,rfl,pw,_,rfl,g2',?_,fun sl hsl=>?_⟩⟩
     ·exact fun z=>absurd z.1 (show ¬HT.sIx 4 0 (some 1)=0 by decide)
     rw [zyb]
     have s4:=zad (o:=.tup [V.int (r.what.a:Int),V.int (r.what.b:Int),V.int r.what.v]) hsl
     refine ⟨_,rfl,rdT (s4 _ _ g1') rfl ⟨sl,pu,_,_,rfl,rfl,SqT.of zab,SqT.of (s4 _ _ g3'),(fun z=>nomatch z),?_,fun _=>⟨sl,[(r.what.a:Int),(r.what.b:Int),r.what.v],rfl,zab,by show 3≤5;decide,s4⟩,fun _ t2 ht2=>⟨t2,[(r.what.a:Int),(r.what.b:Int),r.what.v]++r.used.map fun i:Nat=>(i:Int),rfl,?_,?_,s4.trans (zad ht2)⟩⟩⟩
     ·rw [ZAa];exact ZAw (show 3+r.used.length≤5 by omega) (by decide)
     ·rw [zab,ZAp,List.map_map];rfl
     ·rw [ZAj,ZAa];show 3+r.used.length≤5;omega
    ·obtain ⟨a,zs,rfl,ha,hz,s4⟩:=hv
     refine ⟨a,rfl,⟨_,SqT.of ha⟩,fun Da hDa=>?_⟩
     refine zee (xs:=zs.map V.int) (fun j σ' H'=>∃v,σ'=[v]∧H' Da=some (.lst (([]:List Int).map V.int))∧zbu H4 H') ⟨none,rfl,zab,zad hDa⟩ ?_ ?_ ?_
     ·rintro j σ' H5 _ ⟨v,rfl,_,s5⟩
      exact SqT.of (s5 _ _ ha)
     ·rintro j y σ' H5 hy ⟨v,rfl,e5,s5⟩
      rw [ZAg] at hy
      cases q2:zs[j]? with
      | none=>rw [q2] at hy;cases hy
      | some z=>
       rw [q2] at hy
       cases hy
       exact ⟨_,rfl,_,rfl,_,rfl,zeh ⟨_,rfl,e5,s5⟩⟩
     ·rintro σ' H5 ⟨v,rfl,e5,s5⟩
      exact ⟨ZAq _,fun E0 hE0=>⟨Da,E0,[],[],rfl,rfl,SqL.of (zad hE0 _ _ e5),SqL.of zab,_,rfl,zed (by decide) ⟨_,rfl,((s3.trans s4).trans s5).trans (zad hE0)⟩⟩⟩
  ·rintro σ' H2 ⟨v,rfl,s2⟩
   exact c1 _ _ (k _ s2)
end
end
end Y0
namespace Y0
open PySem L2
noncomputable def zen (F:MU.za4) (x:Tri):Bool:=match F x.2.1 with
 | some f=>decide (f.2.1<x.2.2) && decide (x.2.2≤f.2.2)
 | none=>false
noncomputable def zom:Sp:=fun vs H Q _=>∃(d q:Addr) (F:MU.za4) (x:Tri) (f:Nat×Int×Int),vs=[.ref d,.ref q]∧zcw H d F∧zc1 H q x∧F x.2.1=some f∧Q (.bl (zen F x)) H
section
variable {P:Program} {w:World} {K:ZBq} {mg:Str->Option Value} {base:Heap}
theorem zyw:zat ["by_end","wait","fall"] ["by_end","wait"] (zai sP_is_told):=⟨rfl,rfl,rfl,by decide+kernel,rfl,by decide+kernel,by decide+kernel⟩
theorem ok_isTold {f:Addr} {fd:FuncData} (F:Fn K mg "is_told" sP_is_told ["by_end","wait"] f fd):zbj P w K mg base CX0 1 f fd ["by_end","wait"] zom:=by
 refine F.F.ok zyw (fun vs H Q E h=>?_) (fun cdv A outer s H vs Q E hr h=>?_)
 ·obtain ⟨_,_,_,_,_,rfl,_⟩:=h
  rfl
 ·obtain ⟨d,q,Fa,x,fa,rfl,FA,hw,hf,k⟩:=h
  have hu:=zfc hr
  refine ⟨_,zal (za0 (i:=2) zyw.nd rfl (Or.inl rfl) (zc6 hu (pv 0) (ixT (pv 1)) (fun _ _=>rfl)))
   (zaf (zaq (zhe zg4 zfs (ixT (pv 2)) (ixT (pv 1)) (ixT (pv 2))))),?_⟩
  obtain ⟨kvs,hd,hl,f0,f1⟩:=FA.at_
  obtain ⟨p,e1,e2⟩:=f1 _ _ hf
  have ev:zen Fa x=(decide (fa.2.1<x.2.2) && decide (x.2.2≤fa.2.2)):=by unfold zen;rw [hf]
  rw [ev] at k
  refine ⟨_,rfl,_,rfl,rdT hw rfl ⟨d,_,rfl,e1▸ze7.k (k:=Sum.inl (x.2.1:Int)) hd,?_⟩⟩
  refine ⟨_,rfl,rdT e2 rfl ⟨_,rfl,rdT hw rfl ⟨_,_,rfl,rfl,_,rfl,?_⟩⟩⟩
  by_cases c:fa.2.1<x.2.2
  ·rw [ZBo c] at k
   refine zgi c ⟨_,rfl,rdT e2 rfl ⟨_,_,rfl,rfl,?_⟩⟩
   exact k
  ·rw [ZBp c] at k
   exact zep c k
noncomputable def zwo (H:Hp) (r:Addr) (st:MU.St) (F:MU.za4):Prop:=∃lt lw ps qs L M,H r=some (.tup [.str "rule",.ref lt,.ref lw])∧H lt=some (.lst (ps.map V.ref))∧Paired (zc1 H) ps L∧zqt st true L∧
 H lw=some (.lst (qs.map V.ref))∧Paired (zc1 H) qs (M.filter (zen F))∧zqt st false M
noncomputable def zuw (H:Hp) (r:Addr) (st:MU.St) (b:Nat):Prop:=∃l ns ps,H r=some (.tup [.str "paper",.ref l])∧H l=some (.lst (ps.map V.ref))∧Paired (zf4 H) ps (zdf st.rows ns)∧zwq st.rows b ns
noncomputable def zcz (n:Nat) (la:Int) (T F:List (List Int)) (Te:Nat):MU.St:=MU.run n (za6 F) (zid n la T F) Te
noncomputable def zsv (CW:Addr):Sp:=fun vs H Q _=>∃(wb:Addr) (n:Nat) (la:Int) (T F:List (List Int)) (Te:Nat),vs=[.ref wb]∧zf3 CW H wb (n:Int) la T F∧zcv (n:Int) la T F∧zuz n (za6 F) (zid n la T F) Te∧
 ∀r H',H r=none->zbu H H'->(∀b,(zcz n la T F Te).bar=some b->zuw H' r (zcz n la T F Te) b->Q (.ref r) H')∧((zcz n la T F Te).bar=none->zwo H' r (zcz n la T F Te) (za6 F)->Q (.ref r) H')
theorem zxo:zat ["web","closing","waits"] ["web"] (zai sP_kept):=⟨rfl,rfl,rfl,by decide+kernel,rfl,by decide+kernel,by decide+kernel⟩
theorem zAo:zcg (zai sP_kept) ["web","closing","waits"] (fsc [(".0",.local),("wait",.local),("is_told",.globalImplicit),("closing",.free)]) ["wait","closing"] [none,some 1]:=⟨rfl,by decide+kernel,by decide+kernel,by decide+kernel,rfl,by decide+kernel⟩
theorem zz8:(["wait","closing"]:List Str).Nodup:=by decide+kernel
section
seal L2.PE L2.PA L2.PT L2.PS L2.PSs L2.PG L2.PGs L2.PI L2.PO
theorem ok_kept {f C CW fI fA fB fP fT:Addr} {fd fdI fdA fdB fdP fdT:FuncData} (F:Fn K mg "kept" sP_kept ["web"] f fd) (T:zg5 K mg C) (M:Mk K C fI) (hC:mg "Closing"=some (.ref C))
 (bI:zdc K fdI ["self","web"] []) (GI:zbj P w K mg base CX0 4 fI fdI ["self","web"] (zox C CW))
 (mA:zj6 K C "draw_all" fA) (bA:zdc K fdA ["self"] []) (GA:zbj P w K mg base CX0 5 fA fdA ["self"] (zvk C))
 (mB:zj6 K C "best_drawn" fB) (bB:zdc K fdB ["self","kind"] []) (GB:zbj P w K mg base CX0 1 fB fdB ["self","kind"] (zsx C))
 (FP:Fn K mg "paper_up_to" sP_paper_up_to ["rows","last"] fP fdP) (GP:zbj P w K mg base CX0 2 fP fdP ["rows","last"] zop)
 (FT:Fn K mg "is_told" sP_is_told ["by_end","wait"] fT fdT) (GT:zbj P w K mg base CX0 1 fT fdT ["by_end","wait"] zom):zbj P w K mg base CX0 6 f fd ["web"] (zsv CW):=by
 refine F.F.ok zxo (fun vs H Q E h=>?_) (fun cdv A outer s H vs Q E hr h=>?_)
 ·obtain ⟨_,_,_,_,_,_,rfl,_⟩:=h
  rfl
 ·obtain ⟨wb,n,la,rT,rF,Te,rfl,W0,hok,hE,k⟩:=h
  have hr1:zek 1 _:=hr.mono (by decide)
  have hr2:zek 2 _:=hr.mono (by decide)
  refine ⟨_,zag (za0 (i:=1) zxo.nd rfl (Or.inr rfl) (zpd M GI hr rfl hC bI .nil za1 (zaa (pv 0) zac)))
   (zag (zbt (zhd (pv 1) T.cl mA GA hr bA .nil za1))
   (zag (zbk (zak zpg (zcc (pv 1) rfl) ze4 (zam _)) (zaf (zaq (za8 (zaa zax (zaa (zao GP hr2 rfl FP.g FP.F.kp FP.b .nil za1 (zaa (zcc (pv 1) rfl) (zaa (zcc (pv 1) rfl) zac))) zac))))) zas)
   (zag (zhv (i:=2) zxo.nd rfl rfl rfl (zb2 (zb9 (pv 1) T.cl mB GB hr1 bB .nil za1 (zaa zax zac))) zAo (fun cl ex s0 H0=>⟨zap (i:=0) zz8 rfl (Or.inl rfl),zey (zdv (zao GT hr1 rfl FT.g FT.F.kp FT.b .nil za1 (zaa (zfa (K:=K) rfl (pv 1) rfl) (zaa (pv 0) zac)))),pv 0⟩))
   (zaf (zaq (za8 (zaa zax (zaa (zb9 (pv 1) T.cl mB GB hr1 bB .nil za1 (zaa zax zac)) (zaa (pv 2) zac))))))))),?_⟩
  have n1:=hok.n1
  have n2:=hok.n2
  refine fun N1 c1=>⟨_,rfl,fun p dx hp hdx hne=>?_⟩
  have W1:zf3 CW (upd (upd H dx (.own p)) p (.ins C dx [])) wb (n:Int) la rT rF:=W0.same fun b o e=>by rw [zaj (zae e hp),zaj (zae e hdx)];exact e
  have keep0:∀b o,H b=some o->upd (upd H dx (.own p)) p (.ins C dx []) b=some o:=fun b o e=>by rw [zaj (zae e hp),zaj (zae e hdx)];exact e
  refine ⟨p,wb,dx,n,la,rT,rF,rfl,zab,W1,hok,fun H2 be rl bd c2 hbe hrl hbd k2=>⟨rfl,c1 _ _ ?_⟩⟩
  have s2:zbu H H2:=fun b o e=>k2 _ _ (keep0 _ _ e) (zae e hp)
  have none0:∀{b:Addr},upd (upd H dx (.own p)) p (.ins C dx []) b=none->H b=none:=fun {b} e=>by
   cases q:H b with
   | none=>rfl
   | some x=>rw [keep0 _ _ q] at e;cases e
  have rlH:=none0 hrl
  have bdH:=none0 hbd
  clear c1 N1
  obtain ⟨dx2,hp2⟩:=c2.ins
  refine fun N2 c2'=>⟨_,rfl,p,dx2,_,rfl,hp2,znx (by decide+kernel) (by decide+kernel) (by decide+kernel) (by decide+kernel) (by decide+kernel),p,be,rl,bd,n,_,_,Te,rfl,c2,zlj hok,hok.fok,by omega,hE,fun H3 c3 S3 k3=>c2' _ _ ?_⟩
  clear c2'
  have hcl:MU.run n (za6 rF) (zid n la rT rF) Te=zcz n la rT rF Te:=rfl
  rw [hcl] at c3 S3
  have s3:zbu H H3:=fun b o e=>k3 _ _ (s2 _ _ e) (zae e hp) (zae e rlH) (zae e bdH)
  have hU:MU.zhm (zcz n la rT rF Te):=MU.zjg (MU.zin _ _ MU.zi3) Te
  have few:(zcz n la rT rF Te).rows.length≤16000000:=hE.few Te (ZAc _)
  generalize zcz n la rT rF Te=st at*
  obtain ⟨dx3,hp3⟩:=c3.ins
  obtain ⟨qs,hrl3,hrows⟩:=c3.rows
  refine fun N3 c3'=>⟨_,rfl,p,C,dx3,_,_,rfl,hp3,T.cl,T.nX,zr4,rfl,_,rfl,?_⟩
  have lastH:∀{H':Hp} {b:Addr},zbu H H'->H' b=none->H b=none:=fun {H' b} ss e=>by
   cases q:H b with
   | none=>rfl
   | some x=>rw [ss _ _ q] at e;cases e
  cases hbar:st.bar with
  | some b=>
   obtain ⟨r0,hr0,_⟩:=hU.2 b hbar
   have hb:=(ZAb.mp hr0).1
   refine zct rfl ⟨_,rfl,p,C,dx3,_,_,rfl,hp3,T.cl,T.nR,zgn,_,rfl,p,C,dx3,_,_,rfl,hp3,T.cl,T.nX,zr4,rl,qs,st.rows,b,by rw [hbar];rfl,hrl3,hrows,hU.1,hb,by omega,fun l H4 ns ps hl s4 hN el hps=>⟨by show 2≤sizeLine;decide,fun r hr'=>?_⟩⟩
   have s5:=zad (o:=.tup [.str "paper",.ref l]) hr'
   have s35:=(s3.trans s4).trans s5
   exact (k r _ (lastH (s3.trans s4) hr') s35).1 b hbar ⟨l,ns,ps,zab,s5 _ _ el,zan hps fun q r e=>e.same s5,hN⟩
  | none=>
   refine zed rfl (c3' _ _ ?_)
   clear c3' N3
   have inB:∀{tt:Bool} {L:List Tri},zqt st tt L->L.length≤64∧∀x∈L,∃w',w'.tie=tt∧w'.b=x.2.1∧∃j,MU.wat st j=some w':=fun {tt L} hB=>by
    have mem:∀x∈L,∃w',w'.tie=tt∧w'.a=x.1∧w'.b=x.2.1∧∃j,MU.wat st j=some w':=fun x hx=>by
     obtain ⟨a,b,v⟩:=x
     have hv:=(hB.has a b v).mp hx
     unfold MU.val at hv
     cases hq:st.best (tt,a,b) with
     | none=>rw [hq] at hv;cases hv
     | some j=>
      obtain ⟨w',h1,h2⟩:=S3.good.at_ _ _ hq
      have h4:=MU.zc8 h2
      exact ⟨w',h4.1,h4.2.1,h4.2.2,j,h1⟩
    refine ⟨?_,fun x hx=>?_⟩
    ·have hnd:(L.map fun x=>x.1*8+x.2.1).Nodup:=by
      have h0:=hB.once
      unfold List.Nodup at h0 ⊢
      rw [List.pairwise_map] at h0 ⊢
      refine List.Pairwise.imp_of_mem (fun {x y} hx hy e z=>e ?_) h0
      obtain ⟨w1,_,a1,b1,j1,e1⟩:=mem x hx
      obtain ⟨w2,_,a2,b2,j2,e2⟩:=mem y hy
      have l1:=S3.good.lt _ _ e1
      have l2:=S3.good.lt _ _ e2
      exact Prod.ext (by show x.1=y.1;omega) (by show x.2.1=y.2.1;omega)
     have:=MH.zea 64 _ hnd fun z hz=>by
      obtain ⟨x,hx,rfl⟩:=ZA7.mp hz
      obtain ⟨w1,_,a1,b1,j1,e1⟩:=mem x hx
      have l1:=S3.good.lt _ _ e1
      show x.1*8+x.2.1<64
      omega
     rwa [ZAa] at this
    ·obtain ⟨w1,h1,_,h2,h3⟩:=mem x hx
     exact ⟨w1,h1,h2,h3⟩
   refine fun N4 c4=>⟨_,rfl,p,dx3,_,rfl,hp3,znx (by decide+kernel) (by decide+kernel) (by decide+kernel) (by decide+kernel) (by decide+kernel),p,be,rl,bd,n,_,st,false,rfl,c3,S3.good,by omega,by omega,fun l H4 ps M hl s4 el hps hM=>⟨l,rfl,⟨_,SqL.of el⟩,fun Da hDa=>?_⟩⟩
   obtain ⟨hM64,hMw⟩:=inB hM
   have hpl:ps.length=M.length:=Paired.length hps
   have c4s:=c3.same s4
   refine zd7 (K:=K) (a:=l) (xs:=ps.map V.ref) (fun i σ' H'=>∃v ps',σ'=[v,some (.ref p)]∧H' Da=some (.lst (ps'.map V.ref))∧Paired (zc1 H') ps' ((M.take i).filter (zen (za6 rF)))∧ps'.length≤i∧zbu H4 H') ⟨none,[],rfl,zab,.nil,ZAc _,zad hDa⟩ ?_ ?_ ?_
   ·rintro i σ' H5 _ ⟨v,ps',rfl,_,_,_,s5⟩
    exact SqL.of (s5 _ _ el)
   ·rintro i y σ' H5 hy ⟨v,ps',rfl,e5,hps',hl',s5⟩
    rw [ZAg] at hy
    cases hq:ps[i]? with
    | none=>rw [hq] at hy;cases hy
    | some q=>
     rw [hq] at hy
     cases hy
     obtain ⟨x,hx,hqx⟩:=paired_get hps hq
     have hi:i<M.length:=(ZAb.mp hx).1
     obtain ⟨w1,t1,b1,j1,g1⟩:=hMw x (ZAh hx)
     obtain ⟨fa,hfa⟩:=S3.ends j1 w1 g1 t1
     rw [b1] at hfa
     have c5:=c4s.same s5
     obtain ⟨dx5,hp5⟩:=c5.ins
     have et:M.take (i+1)=M.take i++[x]:=by rw [ZBa,hx];rfl
     refine ⟨_,rfl,p,C,dx5,_,_,rfl,hp5,T.cl,T.nB,zwn,_,rfl,be,q,_,x,fa,rfl,c5.falls,hqx.same s5,hfa,_,rfl,?_⟩
     cases ht:zen (za6 rF) x with
     | true=>
      refine zih ⟨_,rfl,_,e5,?_,_,ps'++[q],rfl,?_,?_,?_,fun b o e=>?_⟩
      ·rw [ZAa];exact zaz (by omega)
      ·rw [zab,ZAp];rfl
      ·rw [et,List.filter_append]
       have kp:∀b y,zc1 H5 b y->zc1 (upd H5 Da (.lst (ps'.map V.ref++[.ref q]))) b y:=fun b y e=>by
        unfold zc1
        rw [zaj (zbp e e5 (fun z=>nomatch z))]
        exact e
       refine zbd (zan hps' kp) ?_
       rw [show [x].filter (zen (za6 rF))=[x] by simp [ht]]
       exact .cons (kp _ _ (hqx.same s5)) .nil
      ·rw [ZAj];show ps'.length+1≤i+1;omega
      ·rw [zaj (zae e hDa)];exact s5 _ _ e
     | false=>
      refine zeh ⟨_,ps',rfl,e5,?_,by omega,s5⟩
      rw [et,List.filter_append]
      rw [show [x].filter (zen (za6 rF))=[] by simp [ht],List.append_nil]
      exact hps'
   ·rintro σ' H5 ⟨v,ps',rfl,e5,hps',hl',s5⟩
    have hall:M.take (ps.map V.ref).length=M:=by rw [ZAa,hpl];exact ZAy
    rw [hall] at hps'
    refine c4 _ _ ?_
    have c5:=c4s.same s5
    obtain ⟨dx5,hp5⟩:=c5.ins
    have s35:=(s3.trans s4).trans s5
    refine ⟨_,rfl,p,dx5,_,rfl,hp5,znx (by decide+kernel) (by decide+kernel) (by decide+kernel) (by decide+kernel) (by decide+kernel),p,be,rl,bd,n,_,st,true,rfl,c5,S3.good,by omega,by omega,fun l6 H6 ps6 L hl6 s6 el6 hps6 hL=>⟨_,rfl,by show 3≤sizeLine;decide,fun r hr'=>?_⟩⟩
    have s7:=zad (o:=.tup [.str "rule",.ref l6,.ref Da]) hr'
    have s67:=s6.trans s7
    exact (k r _ (lastH (s35.trans s6) hr') (s35.trans s67)).2 hbar ⟨l6,Da,ps6,ps',L,M,zab,s7 _ _ el6,zan hps6 fun q x e=>e.same s7,hL,s67 _ _ e5,zan hps' fun q x e=>e.same s67,hM⟩
end
end
end Y0
namespace L2
open PySem PySem.Spec PyProof.Rows
theorem zv3 {X:Cx}:OpR X (compareOp .Is) (fun x y H Q=>∃b b',x=.bl b∧y=.bl b'∧Q (.bl (b==b')) H):=by
 intro pins s σ H x y v u Q I rx ry h
 obtain ⟨b,b',rfl,rfl,q⟩:=h
 cases rx
 cases ry
 refine wpAny_is_plain (by cases b<;>cases b'<;>rfl) (zbw I q ?_)
 cases b<;>cases b'<;>rfl
end L2
namespace Y0
open PySem L2
theorem scr_of {K:ZBq} {H:Hp} {a:Addr} {ns:List Int} (o:zwp H) (h:SqL K H a (ns.map V.int)):zie K H a ns:=by
 rcases h with (h | h) | h
 ·rcases o a with z | ⟨ob,xs,z⟩
  ·rw [z] at h;cases h
  ·rw [z] at h;cases h
 ·exact .inl h
 ·exact .inr h
noncomputable def spLaw (K:ZBq):Sp:=fun vs H Q _=>∃a ns,vs=[.ref a]∧zie K H a ns∧∀H',Q (.bl true) H'
theorem zui {n la:Int} {T F:List (List Int)} (hok:zcv n la T F):∀w∈(zgp n la T F).map zj7,InB (zgp n la T F) w:=fun w hw=>by
 obtain ⟨r,hr,rfl⟩:=ZA7.mp hw
 obtain ⟨a,b,v,rfl,h1,h2,h3,h4,_⟩:=hok.idxN r hr
 refine ⟨rfl,?_⟩
 show [((a.toNat:Nat):Int),((b.toNat:Nat):Int),v]∈zgp n la T F
 rw [Int.toNat_of_nonneg (by omega),Int.toNat_of_nonneg (by omega)]
 exact hr
theorem znq {n:Nat} {la:Int} {T F:List (List Int)} {Te b:Nat} {ns:List Nat} (hok:zcv (n:Int) la T F) (hbar:(zcz n la T F Te).bar=some b) (hN:zwq (zcz n la T F Te).rows b ns):
 zj5 (za6 F) (InB (zgp (n:Int) la T F)) (zdf (zcz n la T F Te).rows ns)∧(zdf (zcz n la T F Te).rows ns).length≤(zcz n la T F Te).rows.length:=by
 have hU:MU.zhm (zcz n la T F Te):=MU.zjg (MU.zin _ _ MU.zi3) Te
 obtain ⟨rb,hrb,bars⟩:=hU.2 b hbar
 have hD:MU.Drawn (za6 F) (InB (zgp (n:Int) la T F)) (zcz n la T F Te):=MU.zkq (MU.zhr _ _ MU.zl6 (zui hok)) Te
 refine ⟨zrh hD hU.1 hN hrb bars,?_⟩
 have hb:=(ZAb.mp hrb).1
 have h1:ns.length≤b+1:=MH.zea (b+1) ns (zi9 hN.up) fun z hz=>by have:=hN.le z hz;omega
 have h2:(zdf (zcz n la T F Te).rows ns).length≤ns.length:=List.length_filterMap_le _ _
 omega
theorem zqt.lt {n:Nat} {st:MU.St} {t:Bool} {L:List Tri} (h:zqt st t L) (g:MU.zdw n st):∀x∈L,x.1<n∧x.2.1<n:=fun x hx=>by
 obtain ⟨a,b,v⟩:=x
 have hv:=(h.has a b v).mp hx
 unfold MU.val at hv
 cases hq:st.best (t,a,b) with
 | none=>rw [hq] at hv;cases hv
 | some j=>
  obtain ⟨w',h1,h2⟩:=g.at_ _ _ hq
  have h4:=MU.zc8 h2
  have h5:=g.lt _ _ h1
  have e1:=h4.2.1
  have e2:=h4.2.2
  show a<n∧b<n
  omega
theorem zqt.len {n:Nat} {st:MU.St} {t:Bool} {L:List Tri} (h:zqt st t L) (g:MU.zdw n st) (h8:n≤8):L.length≤64:=by
 have hl:=h.lt g
 have hnd:(L.map fun x=>x.1*8+x.2.1).Nodup:=by
  have h0:=h.once
  unfold List.Nodup at h0 ⊢
  rw [List.pairwise_map] at h0 ⊢
  refine List.Pairwise.imp_of_mem (fun {x y} hx hy e z=>e ?_) h0
  have l1:=hl x hx
  have l2:=hl y hy
  exact Prod.ext (by show x.1=y.1;omega) (by show x.2.1=y.2.1;omega)
 have:=MH.zea 64 _ hnd fun z hz=>by
  obtain ⟨x,hx,rfl⟩:=ZA7.mp hz
  have l1:=hl x hx
  show x.1*8+x.2.1<64
  omega
 rwa [ZAa] at this
theorem zht {H:Hp} {ps ps':List Addr} {L:List Tri} (hps:Paired (zc1 H) ps L) (up:L.Pairwise fun x y=>((x.1:Int)*64+x.2.1)≤((y.1:Int)*64+y.2.1)) (once:(L.map fun x=>(x.1,x.2.1)).Nodup) (lt:∀x∈L,x.1<64∧x.2.1<64)
 (perm:ps'.Perm ps) (srt:ps'.Pairwise fun x y=>cod H (.ref x)≤cod H (.ref y)):ps'=ps:=by
 have hl:ps.length=L.length:=Paired.length hps
 have at_:∀{i:Nat} {q:Addr},ps[i]?=some q->∃x,L[i]?=some x∧cod H (.ref q)=(x.1:Int)*64+x.2.1:=fun {i q} e=>by
  obtain ⟨x,hx,hq⟩:=paired_get hps e
  exact ⟨x,hx,zia hq⟩
 refine List.Perm.eq_of_pairwise (le:=fun x y=>cod H (.ref x)≤cod H (.ref y)) (fun a b ha hb h1 h2=>?_) srt ?_ perm
 ·have ha:=perm.mem_iff.mp ha
  obtain ⟨i,hi,ei⟩:=ZA8 ha
  obtain ⟨j,hj,ej⟩:=ZA8 hb
  obtain ⟨x,hx,cx⟩:=at_ (show ps[i]?=some a by rw [ZAd hi,ei])
  obtain ⟨y,hy,cy⟩:=at_ (show ps[j]?=some b by rw [ZAd hj,ej])
  have l1:=lt x (ZAh hx)
  have l2:=lt y (ZAh hy)
  have e1:x.1=y.1:=by omega
  have e2:x.2.1=y.2.1:=by omega
  have hij:i=j:=ZAf fun c=>by
   have hil:i<(L.map fun x=>(x.1,x.2.1)).length:=by rw [ZAa];omega
   have hjl:j<(L.map fun x=>(x.1,x.2.1)).length:=by rw [ZAa];omega
   have gi:(L.map fun x=>(x.1,x.2.1))[i]?=some (x.1,x.2.1):=by rw [ZAg,hx];rfl
   have gj:(L.map fun x=>(x.1,x.2.1))[j]?=some (x.1,x.2.1):=by rw [ZAg,hy,e1,e2];rfl
   rw [ZAd hil] at gi
   rw [ZAd hjl] at gj
   have hh:=ZA9.mp once
   rcases Nat.lt_or_gt_of_ne c with c | c
   ·exact hh i j hil hjl c ((ZAn gi).trans (ZAn gj).symm)
   ·exact hh j i hjl hil c ((ZAn gj).trans (ZAn gi).symm)
  subst hij
  rw [←ei,←ej]
 ·rw [ZA9]
  intro i j hi hj hij
  obtain ⟨x,hx,cx⟩:=at_ (ZAd hi)
  obtain ⟨y,hy,cy⟩:=at_ (ZAd hj)
  rw [cx,cy]
  have h1:=(ZAb.mp hx)
  have h2:=(ZAb.mp hy)
  obtain ⟨h1,rfl⟩:=h1
  obtain ⟨h2,rfl⟩:=h2
  exact ZA9.mp up i j h1 h2 hij
theorem zvb {st:MU.St} {t:Bool} {H:Hp} {ps:List Addr} {L M:List Tri} {n:Nat} (hB:zqt st t M) (g:MU.zdw n st) (h8:n≤8) (sub:∀x∈L,x∈M) (hps:Paired (zc1 H) ps L):
 ∀q∈ps,∃a b,H q=some (tri a b (((MU.val st (t,a.toNat,b.toNat)).getD 0)))∧0≤a∧a<64∧0≤b∧b<64:=fun q hq=>by
 obtain ⟨i,hi,e⟩:=ZA8 hq
 obtain ⟨x,hx,hqx⟩:=paired_get hps (show ps[i]?=some q by rw [ZAd hi,e])
 have hm:=sub x (ZAh hx)
 have hv:=(hB.has x.1 x.2.1 x.2.2).mp hm
 have hl:=hB.lt g x hm
 refine ⟨(x.1:Int),(x.2.1:Int),?_,by omega,by omega,by omega,by omega⟩
 rw [ZBd,ZBd,hv]
 exact hqx
section
variable {P:Program} {w:World} {K:ZBq} {mg:Str->Option Value} {base:Heap}
noncomputable abbrev n09:List Str:=["_law_script","_law_d","_law_w","_law_web_here","_law_found","_law_rows","_law_row"]
theorem ztz:zat n09 ["_law_script"] (zai sLaw):=⟨rfl,rfl,rfl,by decide+kernel,rfl,by decide+kernel,by decide+kernel⟩
theorem zAr:zcg (zai sLaw) n09 (fsc [(".0",.local),("_law_number",.local),("_law_whole",.globalImplicit)]) ["_law_number"] [none]:=⟨rfl,by decide+kernel,by decide+kernel,by decide+kernel,rfl,by decide+kernel⟩
section
seal L2.PE L2.PA L2.PT L2.PS L2.PSs L2.PG L2.PGs L2.PI L2.PO
theorem ok_law {f C fW fI fK fWh fFo fIp fP:Addr} {fd fdW fdI fdK fdWh fdFo fdIp fdP:FuncData} (Fn0:Fn K mg "law" sLaw ["_law_script"] f fd) (T:TxtF mg) (hS:mg "sorted"=none) (TC:zqq K mg C)
 (FW:Fn K mg "_law_web" sWeb ["_law_d","_law_most","_law_last","_law_wide"] fW fdW) (GW:zbj P w K mg base CX0 3 fW fdW ["_law_d","_law_most","_law_last","_law_wide"] (zvh K))
 (M:Mk K C fI) (bI:zdc K fdI ["self","many","last","ties","falls"] []) (GI:zbj P w K mg base CX0 3 fI fdI ["self","many","last","ties","falls"] (zsw C))
 (FK:Fn K mg "kept" sP_kept ["web"] fK fdK) (GK:zbj P w K mg base CX0 6 fK fdK ["web"] (zsv C))
 (FWh:Fn K mg "_law_whole" sWhole ["_law_found"] fWh fdWh) (GWh:zbj P w K mg base CX0 1 fWh fdWh ["_law_found"] zlr)
 (FFo:Fn K mg "_law_is_form" sL_is_form ["_law_rows"] fFo fdFo) (GFo:zbj P w K mg base CX0 2 fFo fdFo ["_law_rows"] zos)
 (FIp:Fn K mg "_law_is_paper" sL_is_paper ["_law_w","_law_rows"] fIp fdIp) (GIp:zbj P w K mg base CX0 2 fIp fdIp ["_law_w","_law_rows"] zst)
 (FP:Fn K mg "is_paper" sP_is_paper ["web","rows"] fP fdP) (GP:zbj P w K mg base CX0 4 fP fdP ["web","rows"] (zvj C)):
 zbj P w K mg base CX0 7 f fd ["_law_script"] (spLaw K):=by
 refine Fn0.F.ok ztz (fun vs H Q E h=>?_) (fun cdv A outer s H vs Q E hr h=>?_)
 ·obtain ⟨a,ns,rfl,_⟩:=h
  rfl
 ·obtain ⟨a,ns,rfl,hS0,k⟩:=h
  have hr1:zek 1 _:=hr.mono (by decide)
  have hr2:zek 2 _:=hr.mono (by decide)
  have hr3:zek 3 _:=hr.mono (by decide)
  have hr4:zek 4 _:=hr.mono (by decide)
  refine ⟨_,zag (za0 (i:=1) ztz.nd rfl (Or.inl rfl) (zcy (zaa (pv 0) (zaa zah zac))))
   (zag (za0 (i:=2) ztz.nd rfl (Or.inl rfl) (zao GW hr3 rfl FW.g FW.F.kp FW.b .nil za1 (zaa (pv 1) (zaa zah (zaa zah (zaa zah zac))))))
   (zag (za0 (i:=3) ztz.nd rfl (Or.inl rfl) (zpd M GI hr4 rfl TC.mgC bI .nil za1 (zaa (ixT (pv 2)) (zaa (ixT (pv 2)) (zaa (ixT (pv 2)) (zaa (ixT (pv 2)) zac))))))
   (zag (za0 (i:=4) ztz.nd rfl (Or.inl rfl) (zao GK hr rfl FK.g FK.F.kp FK.b .nil za1 (zaa (pv 3) zac)))
   (zag (zbk (zdd (zdv (zau zca (by rfl) T.isi (by decide+kernel) (zaa (pv 4) (zaa (ze0 (v:=.ty "tuple") rfl T.tuple (by decide+kernel) rfl) zac))))) (zaf (zaq ze1)) zas)
   (zag (zbk (PW.pt (zce (zak zbv (ixT (pv 4)) zax (zam _)) (zde (zak zbv (zau za5 (by rfl) T.len PySem.boot_len (zaa (pv 4) zac)) zah (zam _)))))
    (zag (za0 (i:=5) ztz.nd rfl (Or.inl rfl) (ixT (pv 4)))
    (zaf (zaq (ze5 (zao GFo hr2 rfl FFo.g FFo.F.kp FFo.b .nil za1 (zaa (pv 5) zac)) (ze5 (zao GIp hr2 rfl FIp.g FIp.F.kp FIp.b .nil za1 (zaa (pv 2) (zaa (pv 5) zac)))
     (zhw (zcp zv3 (zao GP hr4 rfl FP.g FP.F.kp FP.b .nil za1 (zaa (pv 3) (zaa (zd3 zdr (by rfl) T.list (by decide+kernel) (zaa (pv 5) zac)) zac))) ze1 (zam _)))))))) zas)
   (zag (zbk (PW.pt (zeg (zak zgc (ixT (pv 4)) zax (zam _)) (zeg (zak zgc (zau za5 (by rfl) T.len PySem.boot_len (zaa (pv 4) zac)) zah (zam _))
    (zeg (zak (zky hr.units) (ixT (pv 4)) (zau zfd (by rfl) hS PyProof.Rows.boot_sorted (zaa (ixT (pv 4)) zac)) (zam _))
    (zeo (zak (zky hr.units) (ixT (pv 4)) (zau zfd (by rfl) hS PyProof.Rows.boot_sorted (zaa (ixT (pv 4)) zac)) (zam _))))))) (zaf (zaq ze1)) zas)
   (zag (zcx PassesOwn.never rfl (zb2 (zbi zhy (ixT (pv 4)) (ixT (pv 4)))) (zap (i:=6) ztz.nd rfl (Or.inl rfl))
    (zaf (zbk (PW.pt (zeg (zdd (zdv (zau zca (by rfl) T.isi (by decide+kernel) (zaa (pv 6) (zaa (ze0 (v:=.ty "tuple") rfl T.tuple (by decide+kernel) rfl) zac)))))
     (zeg (zak zgc (zau za5 (by rfl) T.len PySem.boot_len (zaa (pv 6) zac)) zah (zam _))
     (zeo (zak (zpj hr.units) (zc7 rfl (zga (pv 6)) zAr (fun cl ex s0 H0=>⟨zap (i:=0) zy1 rfl (Or.inl rfl),zey (zdd (zdv (zao GWh hr1 rfl FWh.g FWh.F.kp FWh.b .nil za1 (zaa (pv 0) zac)))),pv 0⟩)) (zcy zac) (zam _)))))) (zaf (zaq ze1)) zas)))
   (zaf (zaq ze1))))))))),?_⟩
  refine fun N1 c1=>⟨_,rfl,by show 2≤sizeLine;decide,fun d hd=>c1 _ _ ?_⟩
  have D1:zft K a (upd H d (.lst [.ref a,.int 0])) d:=⟨⟨0,zab⟩,⟨ns,hS0.same (zad hd)⟩⟩
  generalize upd H d (.lst [.ref a,.int 0])=H1 at*
  clear c1 N1
  refine fun N1 c1=>⟨_,rfl,d,a,8,20,8,rfl,D1,by decide,by decide,by decide,by decide,by decide,by decide,fun wp ta fa n la rT rF H2 etup RT RF hok n2 nm lm D2 k2 tad fad few=>c1 _ _ ?_⟩
  clear c1 N1
  obtain ⟨N,rfl⟩:∃N:Nat,n=N:=⟨n.toNat,by omega⟩
  refine fun N1 c1=>⟨_,rfl,rdT etup rfl ⟨_,rfl,rdT etup rfl ⟨_,rfl,rdT etup rfl ⟨_,rfl,rdT etup rfl fun x dx nx ndx nex=>?_⟩⟩⟩⟩
  have s3:zbu H2 (upd (upd H2 dx (.own x)) x (.ins C dx [])):=fun b o e=>by
   rw [zaj (zae e nx),zaj (zae e ndx)]
   exact e
  refine ⟨x,dx,_,la,ta,fa,rT,rF,rfl,zab,RT.same s3,RF.same s3,hok,fun H4 W4 k4=>⟨rfl,c1 _ _ ?_⟩⟩
  clear c1 N1
  have s4:zbu H2 H4:=fun b o e=>k4 b o (s3 b o e) (zae e nx)
  have DA4:zfe H4 wp ta fa (N:Int) la rT rF:=zfe.same ⟨etup,RT,RF⟩ s4
  obtain ⟨Te,hE⟩:=znz hok (by omega)
  have n8:=hok.n2
  have good:MU.zdw N (zcz N la rT rF Te):=MU.zhb hok.fok (zlj hok).good Te
  have hfew:(zcz N la rT rF Te).rows.length≤16000000:=hE.few Te (ZAc _)
  refine fun N1 c1=>⟨_,rfl,x,N,la,rT,rF,Te,rfl,W4,hok,hE,fun r H5 hr5 s5=>⟨fun b hb hP=>c1 _ _ ?_,fun hb hR=>c1 _ _ ?_⟩⟩
  ·clear c1 N1
   obtain ⟨l,nn,ps,g1,g2,g3,hN⟩:=hP
   obtain ⟨hPO,hPl⟩:=znq hok hb hN
   have hPl:(zdf (zcz N la rT rF Te).rows nn).length≤16500000:=by omega
   refine fun N2 c2=>⟨_,rfl,_,_,_,_,rfl,.tup g1,ziz,_,rfl,zeh (c2 _ _ ?_)⟩
   clear c2 N2
   refine fun N2 c2=>⟨_,rfl,rdT g1 rfl ⟨rfl,_,rfl,zct (by decide+kernel) ⟨_,rfl,r,_,rfl,.inr (SqT.of g1),rfl,_,rfl,zct (show decide (V.int ((2:Nat):Int)=V.int 2)=true by decide+kernel) ?_⟩⟩⟩
   clear c2
   refine fun N3 c3=>⟨_,rfl,rdT g1 rfl (c3 _ _ ?_)⟩
   clear c3 N3
   refine ⟨_,rfl,l,ps,_,rfl,g2,g3,fun r' hr'=>?_,fun H6 s6=>⟨_,rfl,zih ⟨_,rfl,_,rfl,wp,ta,fa,l,_,la,rT,rF,ps,_,rfl,DA4.same (s5.trans s6),hok,s6 _ _ g2,zan g3 fun q r e=>e.same s6,hPO,hPl,fun H7 s7=>⟨_,rfl,zih ?_⟩⟩⟩⟩
   ·obtain ⟨i,hi,e⟩:=ZA8 hr'
    exact (hPO.row i r' (by rw [ZAd hi,e])).few
   have s67:=s6.trans s7
   refine ⟨_,rfl,_,rfl,l,_,rfl,.inl (SqL.of (s67 _ _ g2)),fun cp hcp=>?_⟩
   have s8:=zad (o:=.lst (ps.map V.ref)) hcp
   have s68:=s67.trans s8
   refine ⟨x,cp,_,la,rT,rF,ps,_,rfl,W4.same (s5.trans s68),hok,zab,zan g3 fun q r e=>e.same s68,hPO,hPl,fun H9 s9=>⟨_,_,rfl,rfl,?_⟩⟩
   exact zmc (k _) rfl
  ·clear c1 N1
   obtain ⟨lt,lw,ps,qs,L,MM,g1,g2,g3,hL,g4,g5,hM⟩:=hR
   refine fun N2 c2=>⟨_,rfl,_,_,_,_,rfl,.tup g1,ziz,_,rfl,zeh (c2 _ _ ?_)⟩
   clear c2 N2
   refine fun N2 c2=>⟨_,rfl,rdT g1 rfl ⟨rfl,_,rfl,zed (by decide+kernel) (zeh (c2 _ _ ?_))⟩⟩
   clear c2 N2
   have sub:∀x∈MM.filter (zen (za6 rF)),x∈MM:=fun x hx=>(List.mem_filter.mp hx).1
   have l64:∀{t:Bool} {M:List Tri},zqt (zcz N la rT rF Te) t M->∀x∈M,x.1<64∧x.2.1<64:=fun {t M} hB x hx=>by
    have:=hB.lt good x hx
    omega
   have lenL:=hL.len good (by omega)
   have lenM:=hM.len good (by omega)
   have lenF:(MM.filter (zen (za6 rF))).length≤MM.length:=List.length_filter_le _ _
   have lps:ps.length=L.length:=Paired.length g3
   have lqs:qs.length=(MM.filter (zen (za6 rF))).length:=Paired.length g5
   refine fun N2 c2=>⟨_,rfl,rdT g1 rfl ⟨rfl,_,rfl,zed (by decide+kernel) ⟨_,rfl,r,_,rfl,.inr (SqT.of g1),rfl,_,rfl,zed (show (!decide (V.int ((3:Nat):Int)=V.int 3))=false by decide+kernel) ⟨_,rfl,rdT g1 rfl ⟨_,rfl,rdT g1 rfl ⟨lt,ps,_,rfl,g2,zvb hL good (by omega) (fun x hx=>hx) g3,fun l1 ps' hl1 perm srt=>?_⟩⟩⟩⟩⟩⟩
   obtain rfl:=zht g3 hL.up hL.once (l64 hL) perm srt
   have t1:=zad (o:=.lst (ps'.map V.ref)) hl1
   refine ⟨lt,l1,ps',rfl,rfl,t1 _ _ g2,zab,_,rfl,zeh ?_⟩
   have g1:=t1 _ _ g1
   have g2:=t1 _ _ g2
   have g4:=t1 _ _ g4
   have g3:Paired (zc1 _) ps' L:=zan g3 fun q x e=>e.same t1
   have g5:Paired (zc1 _) qs _:=zan g5 fun q x e=>e.same t1
   generalize upd H5 l1 (.lst (ps'.map V.ref))=H6 at*
   have upF:(MM.filter (zen (za6 rF))).Pairwise fun x y=>((x.1:Int)*64+x.2.1)≤((y.1:Int)*64+y.2.1):=hM.up.sublist List.filter_sublist
   have onF:((MM.filter (zen (za6 rF))).map fun x=>(x.1,x.2.1)).Nodup:=hM.once.sublist (List.Sublist.map _ List.filter_sublist)
   refine ⟨_,rfl,rdT g1 rfl ⟨_,rfl,rdT g1 rfl ⟨lw,qs,_,rfl,g4,zvb hM good (by omega) sub g5,fun l2 qs' hl2 perm2 srt2=>?_⟩⟩⟩
   obtain rfl:=zht g5 upF onF (fun x hx=>l64 hM x (sub x hx)) perm2 srt2
   have t2:=zad (o:=.lst (qs'.map V.ref)) hl2
   refine ⟨lw,l2,qs',rfl,rfl,t2 _ _ g4,zab,_,rfl,zeh (c2 _ _ ?_)⟩
   clear c2 N2
   have g1:=t2 _ _ g1
   have g2:=t2 _ _ g2
   have g4:=t2 _ _ g4
   have g3:Paired (zc1 _) ps' L:=zan g3 fun q x e=>e.same t2
   have g5:Paired (zc1 _) qs' _:=zan g5 fun q x e=>e.same t2
   generalize upd H6 l2 (.lst (qs'.map V.ref))=H7 at*
   refine fun N2 c2=>⟨_,rfl,rdT g1 rfl ⟨_,rfl,rdT g1 rfl ⟨lt,lw,_,_,rfl,rfl,g2,g4,?_,fun cc hcc=>⟨cc,rfl,⟨_,SqL.of zab⟩,?_⟩⟩⟩⟩
   ·rw [ZAa,ZAa];exact ZAr (zaz (by omega))
   rw [←ZAp]
   have t3:=zad (o:=.lst ((ps'++qs').map V.ref)) hcc
   have g6:Paired (zc1 _) (ps'++qs') _:=zan (zbd g3 g5) fun q x e=>e.same t3
   have ec:upd H7 cc (.lst ((ps'++qs').map V.ref)) cc=some (.lst ((ps'++qs').map V.ref)):=zab
   generalize upd H7 cc (.lst ((ps'++qs').map V.ref))=H8 at*
   refine zcf (K:=K) (a:=cc) (xs:=(ps'++qs').map V.ref) (fun i σ' H'=>∃v5 v6,σ'=[some (.ref a),some (.ref d),some (.ref wp),some (.ref x),some (.ref r),v5,v6]∧zbu H8 H') ⟨none,none,rfl,zbu.refl _⟩ ?_ ?_ ?_
   ·rintro i σ' H9 _ ⟨v5,v6,rfl,s9⟩
    exact SqL.of (s9 _ _ ec)
   ·rintro i y σ' H9 hy ⟨v5,v6,rfl,s9⟩
    rw [ZAg] at hy
    cases hq:(ps'++qs')[i]? with
    | none=>rw [hq] at hy;cases hy
    | some q=>
     rw [hq] at hy
     cases hy
     obtain ⟨z,hz,hqz⟩:=paired_get g6 hq
     have hqz:H9 q=some (.tup ([(z.1:Int),(z.2.1:Int),z.2.2].map V.int)):=s9 _ _ hqz
     refine ⟨_,rfl,_,_,_,_,rfl,.tup hqz,ziz,_,rfl,zeh ⟨_,rfl,q,_,rfl,.inr (SqT.of hqz),rfl,_,rfl,zed (show (!decide (V.int ((3:Nat):Int)=V.int 3))=false by decide+kernel) ⟨_,rfl,q,rfl,⟨_,SqT.of hqz⟩,fun Da hDa=>?_⟩⟩⟩
     refine zee (xs:=[(z.1:Int),(z.2.1:Int),z.2.2].map V.int) (fun j σ' H'=>∃v,σ'=[v]∧H' Da=some (.lst (([]:List Int).map V.int))∧zbu H9 H') ⟨none,rfl,zab,zad hDa⟩ ?_ ?_ ?_
     ·rintro j σ' H10 _ ⟨v,rfl,_,s10⟩
      exact SqT.of (s10 _ _ hqz)
     ·rintro j y σ' H10 hy ⟨v,rfl,e10,s10⟩
      rw [ZAg] at hy
      cases q2:[(z.1:Int),(z.2.1:Int),z.2.2][j]? with
      | none=>rw [q2] at hy;cases hy
      | some zz=>
       rw [q2] at hy
       cases hy
       exact ⟨_,rfl,_,rfl,_,rfl,zeh ⟨_,rfl,e10,s10⟩⟩
     ·rintro σ' H10 ⟨v,rfl,e10,s10⟩
      exact ⟨ZAq _,fun E0 hE0=>⟨Da,E0,[],[],rfl,rfl,SqL.of (zad hE0 _ _ e10),SqL.of zab,_,rfl,zed (by decide) ⟨_,_,rfl,(s9.trans s10).trans (zad hE0)⟩⟩⟩
   ·rintro σ' H9 ⟨v5,v6,rfl,s9⟩
    exact c2 _ _ (k _)
end
end
end Y0
namespace Y0
open PySem L2
section
variable {K:ZBq} {mg:Str->Option Value} {h:Heap}
theorem fn_mk {x:Str} {st:Stmt} {ps:List Str} {f:Addr} {oc:Value} {od an:Option Addr} {osl:Array (Option Value)} {kV doc pm cdv ct:Value} (X:K.In h) (G:h.Ns mainGlobals mg) (a:PySem.W.nsIn K mainGlobals x=some (some (.ref f)))
 (l:K.lookup f=some ⟨oc,od,.func (PySem.W.fnOf x x (zei st) (zdt st) (zai st) .none kV doc pm an cdv ct),osl⟩) (c:PySem.W.codeIn K cdv x=true) (k:PySem.W.keepIn K (.ref f)=true)
 (hb:∀(kV doc pm:Value) (an:Option Addr) (cdv ct:Value) (us:List Value),us.length=ps.length->bindArgs (PySem.W.fnOf x x (zei st) (zdt st) (zai st) .none kV doc pm an cdv ct) ⟨us,[]⟩=pure (ps.zip us)):
 Fn K mg x st ps f (PySem.W.fnOf x x (zei st) (zdt st) (zai st) .none kV doc pm an cdv ct):=
 have F:=zs3 (st:=st) l c k
 ⟨F,F.binds hb,PySem.W.mg_of X G a⟩
structure MtK (K:ZBq) (C:Addr) (m q:Str) (st:Stmt) (ps:List Str) (f:Addr) (fd:FuncData):Prop where
 F:Fun K m q st f fd
 b:zdc K fd ps []
 a:PySem.W.findIn K (.ref C) m=some (some (.ref f))
 i:PySem.W.isFn K (.ref f)=true
theorem MtK.meth {C f:Addr} {m q:Str} {st:Stmt} {ps:List Str} {fd:FuncData} (h:MtK K C m q st ps f fd):zj6 K C m f:=⟨h.a,h.i,h.F.kp⟩
theorem mt_mk {C:Addr} {x q:Str} {st:Stmt} {ps:List Str} {f:Addr} {oc:Value} {od an:Option Addr} {osl:Array (Option Value)} {kV doc pm cdv ct:Value} (a:PySem.W.findIn K (.ref C) x=some (some (.ref f))) (i:PySem.W.isFn K (.ref f)=true)
 (l:K.lookup f=some ⟨oc,od,.func (PySem.W.fnOf x q (zei st) (zdt st) (zai st) .none kV doc pm an cdv ct),osl⟩) (c:PySem.W.codeIn K cdv q=true) (k:PySem.W.keepIn K (.ref f)=true)
 (hb:∀(kV doc pm:Value) (an:Option Addr) (cdv ct:Value) (us:List Value),us.length=ps.length->bindArgs (PySem.W.fnOf x q (zei st) (zdt st) (zai st) .none kV doc pm an cdv ct) ⟨us,[]⟩=pure (ps.zip us)):
 MtK K C x q st ps f (PySem.W.fnOf x q (zei st) (zdt st) (zai st) .none kV doc pm an cdv ct):=
 have F:=zs3 (st:=st) l c k
 ⟨F,F.binds hb,a,i⟩
structure WebK (K:ZBq) (mg:Str->Option Value) (C:Addr):Prop where
 tc:zqq K mg C
 mk_:PySem.W.makesIn K C=true
 kc:PySem.W.keepIn K (.ref C)=true
theorem web_mk {C:Addr} (X:K.In h) (G:h.Ns mainGlobals mg) (aC:PySem.W.nsIn K mainGlobals "Web"=some (some (.ref C))) (pg:PySem.W.plainGet K C Str.empty=true) (hd:PySem.W.hasDictIn K C=true) (po:PySem.W.plainOver K C=true)
 (sa:PySem.W.findIn K (.ref C) "__setattr__"=some (some (.builtin "object.__setattr__"))) (mk:PySem.W.makesIn K C=true) (kc:PySem.W.keepIn K (.ref C)=true)
 (n1:PySem.W.findIn K (.ref C) "many"=some none) (n2:PySem.W.findIn K (.ref C) "last"=some none) (n3:PySem.W.findIn K (.ref C) "told_ties"=some none) (n4:PySem.W.findIn K (.ref C) "told_falls"=some none):WebK K mg C:=
 ⟨⟨⟨pg,hd,po,sa⟩,n1,n2,n3,n4,PySem.W.mg_of X G aC⟩,mk,kc⟩
theorem txtW_mk {t1 t2 t3 t4:Tok} (X:K.In h) (G:h.Ns mainGlobals mg) (m1:PySem.W.nsIn K mainGlobals "MOST_MOMENTS"=some (some (.int 8 t1))) (m2:PySem.W.nsIn K mainGlobals "LATEST_LAST"=some (some (.int 60 t2)))
 (m3:PySem.W.nsIn K mainGlobals "WIDEST_SPAN"=some (some (.int 60 t3))) (m4:PySem.W.nsIn K mainGlobals "LONGEST_FALL"=some (some (.int 60 t4))) (z:PySem.W.nsIn K mainGlobals "list"=some none):TxtW mg:=
 ⟨⟨t1,PySem.W.mg_of X G m1⟩,⟨t2,PySem.W.mg_of X G m2⟩,⟨t3,PySem.W.mg_of X G m3⟩,⟨t4,PySem.W.mg_of X G m4⟩,PySem.W.mg_none_of X G z⟩
structure CloK (K:ZBq) (mg:Str->Option Value) (C:Addr):Prop where
 tc:zg5 K mg C
 mk_:PySem.W.makesIn K C=true
 kc:PySem.W.keepIn K (.ref C)=true
 g:mg "Closing"=some (.ref C)
theorem clo_mk {C:Addr} (X:K.In h) (G:h.Ns mainGlobals mg) (aC:PySem.W.nsIn K mainGlobals "Closing"=some (some (.ref C))) (pg:PySem.W.plainGet K C Str.empty=true) (hd:PySem.W.hasDictIn K C=true) (po:PySem.W.plainOver K C=true)
 (sa:PySem.W.findIn K (.ref C) "__setattr__"=some (some (.builtin "object.__setattr__"))) (mk:PySem.W.makesIn K C=true) (kc:PySem.W.keepIn K (.ref C)=true)
 (n1:PySem.W.findIn K (.ref C) "many"=some none) (n2:PySem.W.findIn K (.ref C) "by_end"=some none) (n3:PySem.W.findIn K (.ref C) "rows"=some none) (n4:PySem.W.findIn K (.ref C) "best"=some none) (n5:PySem.W.findIn K (.ref C) "bar"=some none)
 (z1:PySem.W.nsIn K mainGlobals "len"=some none) (z2:PySem.W.nsIn K mainGlobals "range"=some none):CloK K mg C:=
 ⟨⟨⟨pg,hd,po,sa⟩,n1,n2,n3,n4,n5,PySem.W.mg_none_of X G z1,PySem.W.mg_none_of X G z2⟩,mk,kc,PySem.W.mg_of X G aC⟩
theorem txtU_mk {u:Addr} (X:K.In h) (G:h.Ns mainGlobals mg) (a:PySem.W.nsIn K mainGlobals "USED_KINDS"=some (some (.ref u))) (t:zyn K u zqy) (z:PySem.W.nsIn K mainGlobals "tuple"=some none):TxtU K mg:=
 ⟨⟨u,PySem.W.mg_of X G a,t⟩,PySem.W.mg_none_of X G z⟩
end
end Y0
namespace L2
theorem zl0 {α:Type} {n:Nat}:∀{us:List α},us.length=n+1->∃a t,us=a::t∧t.length=n
 | a::t,h=>⟨a,t,rfl,Nat.succ.inj h⟩
theorem znp {α:Type} (us:List α) (h:us.length=1):∃a,us=[a]:=by
 obtain ⟨a,t0,rfl,h0⟩:=zl0 h
 obtain rfl:=List.eq_nil_of_length_eq_zero h0
 exact ⟨a,rfl⟩
theorem zju {α:Type} (us:List α) (h:us.length=2):∃a b,us=[a,b]:=by
 obtain ⟨a,t0,rfl,h0⟩:=zl0 h
 obtain ⟨b,t1,rfl,h1⟩:=zl0 h0
 obtain rfl:=List.eq_nil_of_length_eq_zero h1
 exact ⟨a,b,rfl⟩
theorem zrn {α:Type} (us:List α) (h:us.length=3):∃a b c,us=[a,b,c]:=by
 obtain ⟨a,t0,rfl,h0⟩:=zl0 h
 obtain ⟨b,t1,rfl,h1⟩:=zl0 h0
 obtain ⟨c,t2,rfl,h2⟩:=zl0 h1
 obtain rfl:=List.eq_nil_of_length_eq_zero h2
 exact ⟨a,b,c,rfl⟩
theorem zv7 {α:Type} (us:List α) (h:us.length=4):∃a b c d,us=[a,b,c,d]:=by
 obtain ⟨a,t0,rfl,h0⟩:=zl0 h
 obtain ⟨b,t1,rfl,h1⟩:=zl0 h0
 obtain ⟨c,t2,rfl,h2⟩:=zl0 h1
 obtain ⟨d,t3,rfl,h3⟩:=zl0 h2
 obtain rfl:=List.eq_nil_of_length_eq_zero h3
 exact ⟨a,b,c,d,rfl⟩
theorem zAc {α:Type} (us:List α) (h:us.length=5):∃a b c d e,us=[a,b,c,d,e]:=by
 obtain ⟨a,t0,rfl,h0⟩:=zl0 h
 obtain ⟨b,t1,rfl,h1⟩:=zl0 h0
 obtain ⟨c,t2,rfl,h2⟩:=zl0 h1
 obtain ⟨d,t3,rfl,h3⟩:=zl0 h2
 obtain ⟨e,t4,rfl,h4⟩:=zl0 h3
 obtain rfl:=List.eq_nil_of_length_eq_zero h4
 exact ⟨a,b,c,d,e,rfl⟩
end L2
noncomputable def PySem.W.Fast.tw15276466041336216605:Unit:=()
noncomputable def PySem.W.Fast.tw14315727764624405403:Unit:=()
noncomputable def PySem.W.Fast.tw13487215734814564133:Unit:=()
noncomputable def PySem.W.Fast.tw11416556164345423829:Unit:=()
noncomputable def PySem.W.Fast.tw9501873086773230755:Unit:=()
noncomputable def PySem.W.Fast.tw15810967627250977636:Unit:=()
noncomputable def PySem.W.Fast.tw9765795444433167758:Unit:=()
noncomputable def PySem.W.Fast.tw8574581976991278884:Unit:=()
noncomputable def PySem.W.Fast.tw4529731636267072916:Unit:=()
noncomputable def PySem.W.Fast.tw6373422209532024771:Unit:=()
noncomputable def PySem.W.Fast.tw6136684965486934135:Unit:=()
noncomputable def PySem.W.Fast.tw9999754364256892416:Unit:=()
noncomputable def PySem.W.Fast.tw15589380859692271567:Unit:=()
noncomputable def PySem.W.Fast.tw1428359862942030887:Unit:=()
noncomputable def PySem.W.Fast.tw2983483283095345537:Unit:=()
noncomputable def PySem.W.Fast.tw13816799066727614992:Unit:=()
noncomputable def PySem.W.Fast.tw1340304976316635152:Unit:=()
noncomputable def PySem.W.Fast.tw14458165246977794738:Unit:=()
noncomputable def PySem.W.Fast.tw2705217665782849451:Unit:=()
noncomputable def PySem.W.Fast.tw1711717801410685755:Unit:=()
noncomputable def PySem.W.Fast.tw11353004280758649732:Unit:=()
noncomputable def PySem.W.Fast.tw6037296971863802017:Unit:=()
noncomputable def PySem.W.Fast.tw14548799847887313507:Unit:=()
noncomputable def PySem.W.Fast.tw6740383742895947567:Unit:=()
noncomputable def PySem.W.Fast.tw17747280263081762573:Unit:=()
noncomputable def PySem.W.Fast.tw5424425791944413111:Unit:=()
noncomputable def PySem.W.Fast.tw6551294790967009907:Unit:=()
noncomputable def PySem.W.Fast.tw7038889712249862262:Unit:=()
noncomputable def PySem.W.Fast.tw715870269566593794:Unit:=()
noncomputable def PySem.W.Fast.tw1285670155340834679:Unit:=()
noncomputable def PySem.W.Fast.tw14534597737176477315:Unit:=()
noncomputable def PySem.W.Fast.tw4690090305182576474:Unit:=()
noncomputable def PySem.W.Fast.tw12878072837431017431:Unit:=()
noncomputable def PySem.W.Fast.tw3062649487637674367:Unit:=()
noncomputable def PySem.W.Fast.tw955571045790602008:Unit:=()
noncomputable def PySem.W.Fast.tw1033197619051045634:Unit:=()
noncomputable def PySem.W.Fast.tw18390799974351134569:Unit:=()
noncomputable def PySem.W.Fast.tw6706367126046960508:Unit:=()
noncomputable def PySem.W.Fast.tw3838421038056444905:Unit:=()
noncomputable def PySem.W.Fast.tw6809915340851933067:Unit:=()
noncomputable def PySem.W.Fast.tw767641998736096492:Unit:=()
noncomputable def PySem.W.Fast.tw6767576244358575491:Unit:=()
noncomputable def PySem.W.Fast.tw5202301045300025378:Unit:=()
noncomputable def PySem.W.Fast.tw18074402629574994229:Unit:=()
noncomputable def PySem.W.Fast.tw13925559842911180280:Unit:=()
noncomputable def PySem.W.Fast.tw14962097826121036588:Unit:=()
noncomputable def PySem.W.Fast.tw671607238484144959:Unit:=()
noncomputable def PySem.W.Fast.tw17616512254698548201:Unit:=()
noncomputable def PySem.W.Fast.tw4657226750418339925:Unit:=()
noncomputable def PySem.W.Fast.tw9011959764241146416:Unit:=()
noncomputable def PySem.W.Fast.tw15856004076829820048:Unit:=()
noncomputable def PySem.W.Fast.tw17305451173504134132:Unit:=()
noncomputable def PySem.W.Fast.tw7790173524556887033:Unit:=()
noncomputable def PySem.W.Fast.tw15968311535254479466:Unit:=()
noncomputable def PySem.W.Fast.tw13929664242736085519:Unit:=()
noncomputable def PySem.W.Fast.tw7559929894420881074:Unit:=()
noncomputable def PySem.W.Fast.tw244790333518408924:Unit:=()
noncomputable def PySem.W.Fast.tw4236336219731271823:Unit:=()
noncomputable def PySem.W.Fast.tw5187270794055665640:Unit:=()
noncomputable def PySem.W.Fast.tw14213176337408712005:Unit:=()
noncomputable def PySem.W.Fast.tw17653122744775757091:Unit:=()
noncomputable def PySem.W.Fast.tw9980124547875199267:Unit:=()
noncomputable def PySem.W.Fast.tw18287760802343304468:Unit:=()
noncomputable def PySem.W.Fast.tw5789813659023295291:Unit:=()
noncomputable def PySem.W.Fast.tw17059483633146334239:Unit:=()
noncomputable def PySem.W.Fast.tw13671026377875799856:Unit:=()
noncomputable def PySem.W.Fast.tw1063292001898612209:Unit:=()
noncomputable def PySem.W.Fast.tw11395613440039054698:Unit:=()
noncomputable def PySem.W.Fast.tw4911293357281603677:Unit:=()
noncomputable def PySem.W.Fast.tw1604888156392725230:Unit:=()
noncomputable def PySem.W.Fast.tw9833630520383484158:Unit:=()
noncomputable def PySem.W.Fast.tw13590128438129877994:Unit:=()
noncomputable def PySem.W.Fast.tw18110028991111331436:Unit:=()
noncomputable def PySem.W.Fast.tw242780687813683907:Unit:=()
noncomputable def PySem.W.Fast.tw3455878072658651427:Unit:=()
noncomputable def PySem.W.Fast.tw15452873881591685393:Unit:=()
noncomputable def PySem.W.Fast.tw4242740005531839881:Unit:=()
noncomputable def PySem.W.Fast.tw8649767247319771450:Unit:=()
noncomputable def PySem.W.Fast.tw1234634796179835238:Unit:=()
noncomputable def PySem.W.Fast.tw1016806530167172171:Unit:=()
noncomputable def PySem.W.Fast.tw5577948357226468834:Unit:=()
noncomputable def PySem.W.Fast.tw14297458617185863002:Unit:=()
noncomputable def PySem.W.Fast.tw16781419121404974407:Unit:=()
noncomputable def PySem.W.Fast.tw5204432174489784245:Unit:=()
noncomputable def PySem.W.Fast.tw1777530840375376669:Unit:=()
noncomputable def PySem.W.Fast.tw8657094656819164622:Unit:=()
noncomputable def PySem.W.Fast.tw17145653934617670806:Unit:=()
noncomputable def PySem.W.Fast.tw4722830907864540508:Unit:=()
noncomputable def PySem.W.Fast.tw10203170966997552516:Unit:=()
noncomputable def PySem.W.Fast.tw17296856542807302362:Unit:=()
noncomputable def PySem.W.Fast.tw6202403751299909329:Unit:=()
noncomputable def PySem.W.Fast.tw14045348182110550202:Unit:=()
noncomputable def PySem.W.Fast.tw5270085196769195054:Unit:=()
noncomputable def PySem.W.Fast.tw12791961054524405102:Unit:=()
noncomputable def PySem.W.Fast.tw4403095747250514958:Unit:=()
noncomputable def PySem.W.Fast.tw9354158486127273879:Unit:=()
noncomputable def PySem.W.Fast.tw18238790775754126647:Unit:=()
noncomputable def PySem.W.Fast.tw9067477551011757951:Unit:=()
noncomputable def PySem.W.Fast.tw14533850666936526994:Unit:=()
noncomputable def PySem.W.Fast.tw7235501431056064181:Unit:=()
noncomputable def PySem.W.Fast.tw4250905187755484437:Unit:=()
noncomputable def PySem.W.Fast.tw14361242342931294663:Unit:=()
noncomputable def PySem.W.Fast.tw15242419125204287401:Unit:=()
noncomputable def PySem.W.Fast.tw11263310322272423070:Unit:=()
noncomputable def PySem.W.Fast.tw18122698796729807806:Unit:=()
noncomputable def PySem.W.Fast.tw10372328025714834882:Unit:=()
noncomputable def PySem.W.Fast.tw12454872386245322275:Unit:=()
noncomputable def PySem.W.Fast.tw5589263630972862354:Unit:=()
noncomputable def PySem.W.Fast.tw9955975145167262851:Unit:=()
noncomputable def PySem.W.Fast.tw9697858259339624986:Unit:=()
noncomputable def PySem.W.Fast.tw11536027688752058584:Unit:=()
noncomputable def PySem.W.Fast.tw12451511201200797886:Unit:=()
noncomputable def PySem.W.Fast.tw15402375922753779059:Unit:=()
noncomputable def PySem.W.Fast.tw13938144582684563064:Unit:=()
noncomputable def PySem.W.Fast.tw4289297842754720306:Unit:=()
noncomputable def PySem.W.Fast.tw16741884509431810151:Unit:=()
noncomputable def PySem.W.Fast.tw10075021640661422116:Unit:=()
open PySem PySem.W PyProof.Rows
set_option maxRecDepth 100000 in
set_option maxHeartbeats 0 in
theorem PySem.Challenge.cw_momentties_k09_whole_papers_show_holds : PySem.Challenge.rw_momentties_k09_whole_papers_show.Holds := by
 w_on;o_law;k_head;(case hw=>w_witness2)
 k_fill
 refine L2.zqw (l:=PySem.Challenge.rw_momentties_k09_whole_papers_show) (n:=63) (k:=7) (x:="_law_script") (CX:=L2.CX0) (sp:=Y0.spLaw) rfl (by decide) rfl ⟨rfl,by decide,by decide⟩ (fun w h Y=>PySem.W.kIn_of Y) ?F (fun K H a ns hl hO hS=>⟨a,ns,rfl,Y0.scr_of hO hS,fun _=>rfl⟩) (fun _ _ _ _ z=>z)
 case F=>
  intro w mg fa h KX G hmg
  have F_room_bounds:∃f fd,Y0.Fn (L2.KOf KX) mg "room_bounds" Y0.sP_room_bounds ["web"] f fd:=by
   dsimp only [L2.KOf]
   refine' ⟨_,_,Y0.fn_mk KX G ?a ?l ?c ?k ?b⟩
   (case a=>k_is);(case l=>k_is);(case c=>k_is);(case k=>k_is);(case b=>exact fun _ _ _ _ _ _ us hl=>by obtain ⟨a,rfl⟩:=L2.znp us hl;rfl)
  obtain ⟨f_room_bounds,d_room_bounds,F_room_bounds⟩:=F_room_bounds
  have F_span_bounds:∃f fd,Y0.Fn (L2.KOf KX) mg "span_bounds" Y0.sP_span_bounds ["spans"] f fd:=by
   dsimp only [L2.KOf]
   refine' ⟨_,_,Y0.fn_mk KX G ?a ?l ?c ?k ?b⟩
   (case a=>k_is);(case l=>k_is);(case c=>k_is);(case k=>k_is);(case b=>exact fun _ _ _ _ _ _ us hl=>by obtain ⟨a,rfl⟩:=L2.znp us hl;rfl)
  obtain ⟨f_span_bounds,d_span_bounds,F_span_bounds⟩:=F_span_bounds
  have F_bounds_with:∃f fd,Y0.Fn (L2.KOf KX) mg "bounds_with" Y0.sP_bounds_with ["web","ties"] f fd:=by
   dsimp only [L2.KOf]
   refine' ⟨_,_,Y0.fn_mk KX G ?a ?l ?c ?k ?b⟩
   (case a=>k_is);(case l=>k_is);(case c=>k_is);(case k=>k_is);(case b=>exact fun _ _ _ _ _ _ us hl=>by obtain ⟨a,b,rfl⟩:=L2.zju us hl;rfl)
  obtain ⟨f_bounds_with,d_bounds_with,F_bounds_with⟩:=F_bounds_with
  have F_told_bounds:∃f fd,Y0.Fn (L2.KOf KX) mg "told_bounds" Y0.sP_told_bounds ["web"] f fd:=by
   dsimp only [L2.KOf]
   refine' ⟨_,_,Y0.fn_mk KX G ?a ?l ?c ?k ?b⟩
   (case a=>k_is);(case l=>k_is);(case c=>k_is);(case k=>k_is);(case b=>exact fun _ _ _ _ _ _ us hl=>by obtain ⟨a,rfl⟩:=L2.znp us hl;rfl)
  obtain ⟨f_told_bounds,d_told_bounds,F_told_bounds⟩:=F_told_bounds
  have F_falls_by_end:∃f fd,Y0.Fn (L2.KOf KX) mg "falls_by_end" Y0.sP_falls_by_end ["web"] f fd:=by
   dsimp only [L2.KOf]
   refine' ⟨_,_,Y0.fn_mk KX G ?a ?l ?c ?k ?b⟩
   (case a=>k_is);(case l=>k_is);(case c=>k_is);(case k=>k_is);(case b=>exact fun _ _ _ _ _ _ us hl=>by obtain ⟨a,rfl⟩:=L2.znp us hl;rfl)
  obtain ⟨f_falls_by_end,d_falls_by_end,F_falls_by_end⟩:=F_falls_by_end
  have F_by_sum:∃f fd,Y0.Fn (L2.KOf KX) mg "by_sum" Y0.sP_by_sum ["first","second"] f fd:=by
   dsimp only [L2.KOf]
   refine' ⟨_,_,Y0.fn_mk KX G ?a ?l ?c ?k ?b⟩
   (case a=>k_is);(case l=>k_is);(case c=>k_is);(case k=>k_is);(case b=>exact fun _ _ _ _ _ _ us hl=>by obtain ⟨a,b,rfl⟩:=L2.zju us hl;rfl)
  obtain ⟨f_by_sum,d_by_sum,F_by_sum⟩:=F_by_sum
  have F_by_late:∃f fd,Y0.Fn (L2.KOf KX) mg "by_late" Y0.sP_by_late ["falls","tie"] f fd:=by
   dsimp only [L2.KOf]
   refine' ⟨_,_,Y0.fn_mk KX G ?a ?l ?c ?k ?b⟩
   (case a=>k_is);(case l=>k_is);(case c=>k_is);(case k=>k_is);(case b=>exact fun _ _ _ _ _ _ us hl=>by obtain ⟨a,b,rfl⟩:=L2.zju us hl;rfl)
  obtain ⟨f_by_late,d_by_late,F_by_late⟩:=F_by_late
  have F_by_soon:∃f fd,Y0.Fn (L2.KOf KX) mg "by_soon" Y0.sP_by_soon ["falls","tie"] f fd:=by
   dsimp only [L2.KOf]
   refine' ⟨_,_,Y0.fn_mk KX G ?a ?l ?c ?k ?b⟩
   (case a=>k_is);(case l=>k_is);(case c=>k_is);(case k=>k_is);(case b=>exact fun _ _ _ _ _ _ us hl=>by obtain ⟨a,b,rfl⟩:=L2.zju us hl;rfl)
  obtain ⟨f_by_soon,d_by_soon,F_by_soon⟩:=F_by_soon
  have F_by_sure:∃f fd,Y0.Fn (L2.KOf KX) mg "by_sure" Y0.sP_by_sure ["falls","wait"] f fd:=by
   dsimp only [L2.KOf]
   refine' ⟨_,_,Y0.fn_mk KX G ?a ?l ?c ?k ?b⟩
   (case a=>k_is);(case l=>k_is);(case c=>k_is);(case k=>k_is);(case b=>exact fun _ _ _ _ _ _ us hl=>by obtain ⟨a,b,rfl⟩:=L2.zju us hl;rfl)
  obtain ⟨f_by_sure,d_by_sure,F_by_sure⟩:=F_by_sure
  have F_by_back:∃f fd,Y0.Fn (L2.KOf KX) mg "by_back" Y0.sP_by_back ["falls","wait","tie"] f fd:=by
   dsimp only [L2.KOf]
   refine' ⟨_,_,Y0.fn_mk KX G ?a ?l ?c ?k ?b⟩
   (case a=>k_is);(case l=>k_is);(case c=>k_is);(case k=>k_is);(case b=>exact fun _ _ _ _ _ _ us hl=>by obtain ⟨a,b,c,rfl⟩:=L2.zrn us hl;rfl)
  obtain ⟨f_by_back,d_by_back,F_by_back⟩:=F_by_back
  have F_by_cross:∃f fd,Y0.Fn (L2.KOf KX) mg "by_cross" Y0.sP_by_cross ["falls","wait"] f fd:=by
   dsimp only [L2.KOf]
   refine' ⟨_,_,Y0.fn_mk KX G ?a ?l ?c ?k ?b⟩
   (case a=>k_is);(case l=>k_is);(case c=>k_is);(case k=>k_is);(case b=>exact fun _ _ _ _ _ _ us hl=>by obtain ⟨a,b,rfl⟩:=L2.zju us hl;rfl)
  obtain ⟨f_by_cross,d_by_cross,F_by_cross⟩:=F_by_cross
  have F_what_follows:∃f fd,Y0.Fn (L2.KOf KX) mg "what_follows" Y0.sP_what_follows ["falls","word","used"] f fd:=by
   dsimp only [L2.KOf]
   refine' ⟨_,_,Y0.fn_mk KX G ?a ?l ?c ?k ?b⟩
   (case a=>k_is);(case l=>k_is);(case c=>k_is);(case k=>k_is);(case b=>exact fun _ _ _ _ _ _ us hl=>by obtain ⟨a,b,c,rfl⟩:=L2.zrn us hl;rfl)
  obtain ⟨f_what_follows,d_what_follows,F_what_follows⟩:=F_what_follows
  have F_bars_every_hand:∃f fd,Y0.Fn (L2.KOf KX) mg "bars_every_hand" Y0.sP_bars_every_hand ["what"] f fd:=by
   dsimp only [L2.KOf]
   refine' ⟨_,_,Y0.fn_mk KX G ?a ?l ?c ?k ?b⟩
   (case a=>k_is);(case l=>k_is);(case c=>k_is);(case k=>k_is);(case b=>exact fun _ _ _ _ _ _ us hl=>by obtain ⟨a,rfl⟩:=L2.znp us hl;rfl)
  obtain ⟨f_bars_every_hand,d_bars_every_hand,F_bars_every_hand⟩:=F_bars_every_hand
  have F_row_follows:∃f fd,Y0.Fn (L2.KOf KX) mg "row_follows" Y0.sP_row_follows ["told","falls","rows","at"] f fd:=by
   dsimp only [L2.KOf]
   refine' ⟨_,_,Y0.fn_mk KX G ?a ?l ?c ?k ?b⟩
   (case a=>k_is);(case l=>k_is);(case c=>k_is);(case k=>k_is);(case b=>exact fun _ _ _ _ _ _ us hl=>by obtain ⟨a,b,c,d,rfl⟩:=L2.zv7 us hl;rfl)
  obtain ⟨f_row_follows,d_row_follows,F_row_follows⟩:=F_row_follows
  have F_is_paper:∃f fd,Y0.Fn (L2.KOf KX) mg "is_paper" Y0.sP_is_paper ["web","rows"] f fd:=by
   dsimp only [L2.KOf]
   refine' ⟨_,_,Y0.fn_mk KX G ?a ?l ?c ?k ?b⟩
   (case a=>k_is);(case l=>k_is);(case c=>k_is);(case k=>k_is);(case b=>exact fun _ _ _ _ _ _ us hl=>by obtain ⟨a,b,rfl⟩:=L2.zju us hl;rfl)
  obtain ⟨f_is_paper,d_is_paper,F_is_paper⟩:=F_is_paper
  have C_Closing:∃C,Y0.CloK (L2.KOf KX) mg C∧PySem.W.nsIn (L2.KOf KX) mainGlobals "Closing"=some (some (.ref C)):=by
   dsimp only [L2.KOf]
   refine' ⟨_,Y0.clo_mk KX G ?aC ?pg ?hd ?po ?sa ?mk ?kc ?n1 ?n2 ?n3 ?n4 ?n5 ?z1 ?z2,?aD⟩
   (case aC=>k_is);(case pg=>k_is);(case hd=>k_is);(case po=>k_is);(case sa=>k_is);(case mk=>k_is);(case kc=>k_is);(case n1=>k_is);(case n2=>k_is);(case n3=>k_is);(case n4=>k_is);(case n5=>k_is);(case z1=>k_is);(case z2=>k_is);(case aD=>k_is)
  obtain ⟨c_Closing,C_Closing,a_Closing⟩:=C_Closing
  have N_init:∃f fd,Y0.MtK (L2.KOf KX) c_Closing "__init__" "Closing.__init__" Y0.sC_Closing_init ["self","web"] f fd:=by
   have e:∃C f fd,PySem.W.nsIn (L2.KOf KX) mainGlobals "Closing"=some (some (.ref C))∧Y0.MtK (L2.KOf KX) C "__init__" "Closing.__init__" Y0.sC_Closing_init ["self","web"] f fd:=by
    dsimp only [L2.KOf]
    refine' ⟨_,_,_,?aC,Y0.mt_mk ?a ?i ?l ?c ?k ?b⟩
    (case aC=>k_is);(case a=>k_is);(case i=>k_is);(case l=>k_is);(case c=>k_is);(case k=>k_is);(case b=>exact fun _ _ _ _ _ _ us hl=>by obtain ⟨a,b,rfl⟩:=L2.zju us hl;rfl)
   obtain ⟨C,f,fd,e1,e2⟩:=e
   rw [a_Closing] at e1
   cases e1
   exact ⟨f,fd,e2⟩
  obtain ⟨n_init,o_init,N_init⟩:=N_init
  have N_is_news:∃f fd,Y0.MtK (L2.KOf KX) c_Closing "is_news" "Closing.is_news" Y0.sC_Closing_is_news ["self","what"] f fd:=by
   have e:∃C f fd,PySem.W.nsIn (L2.KOf KX) mainGlobals "Closing"=some (some (.ref C))∧Y0.MtK (L2.KOf KX) C "is_news" "Closing.is_news" Y0.sC_Closing_is_news ["self","what"] f fd:=by
    dsimp only [L2.KOf]
    refine' ⟨_,_,_,?aC,Y0.mt_mk ?a ?i ?l ?c ?k ?b⟩
    (case aC=>k_is);(case a=>k_is);(case i=>k_is);(case l=>k_is);(case c=>k_is);(case k=>k_is);(case b=>exact fun _ _ _ _ _ _ us hl=>by obtain ⟨a,b,rfl⟩:=L2.zju us hl;rfl)
   obtain ⟨C,f,fd,e1,e2⟩:=e
   rw [a_Closing] at e1
   cases e1
   exact ⟨f,fd,e2⟩
  obtain ⟨n_is_news,o_is_news,N_is_news⟩:=N_is_news
  have N_take:∃f fd,Y0.MtK (L2.KOf KX) c_Closing "take" "Closing.take" Y0.sC_Closing_take ["self","what","word","used"] f fd:=by
   have e:∃C f fd,PySem.W.nsIn (L2.KOf KX) mainGlobals "Closing"=some (some (.ref C))∧Y0.MtK (L2.KOf KX) C "take" "Closing.take" Y0.sC_Closing_take ["self","what","word","used"] f fd:=by
    dsimp only [L2.KOf]
    refine' ⟨_,_,_,?aC,Y0.mt_mk ?a ?i ?l ?c ?k ?b⟩
    (case aC=>k_is);(case a=>k_is);(case i=>k_is);(case l=>k_is);(case c=>k_is);(case k=>k_is);(case b=>exact fun _ _ _ _ _ _ us hl=>by obtain ⟨a,b,c,d,rfl⟩:=L2.zv7 us hl;rfl)
   obtain ⟨C,f,fd,e1,e2⟩:=e
   rw [a_Closing] at e1
   cases e1
   exact ⟨f,fd,e2⟩
  obtain ⟨n_take,o_take,N_take⟩:=N_take
  have N_draw:∃f fd,Y0.MtK (L2.KOf KX) c_Closing "draw" "Closing.draw" Y0.sC_Closing_draw ["self","word","used"] f fd:=by
   have e:∃C f fd,PySem.W.nsIn (L2.KOf KX) mainGlobals "Closing"=some (some (.ref C))∧Y0.MtK (L2.KOf KX) C "draw" "Closing.draw" Y0.sC_Closing_draw ["self","word","used"] f fd:=by
    dsimp only [L2.KOf]
    refine' ⟨_,_,_,?aC,Y0.mt_mk ?a ?i ?l ?c ?k ?b⟩
    (case aC=>k_is);(case a=>k_is);(case i=>k_is);(case l=>k_is);(case c=>k_is);(case k=>k_is);(case b=>exact fun _ _ _ _ _ _ us hl=>by obtain ⟨a,b,c,rfl⟩:=L2.zrn us hl;rfl)
   obtain ⟨C,f,fd,e1,e2⟩:=e
   rw [a_Closing] at e1
   cases e1
   exact ⟨f,fd,e2⟩
  obtain ⟨n_draw,o_draw,N_draw⟩:=N_draw
  have N_known_of:∃f fd,Y0.MtK (L2.KOf KX) c_Closing "known_of" "Closing.known_of" Y0.sC_Closing_known_of ["self","kind","a"] f fd:=by
   have e:∃C f fd,PySem.W.nsIn (L2.KOf KX) mainGlobals "Closing"=some (some (.ref C))∧Y0.MtK (L2.KOf KX) C "known_of" "Closing.known_of" Y0.sC_Closing_known_of ["self","kind","a"] f fd:=by
    dsimp only [L2.KOf]
    refine' ⟨_,_,_,?aC,Y0.mt_mk ?a ?i ?l ?c ?k ?b⟩
    (case aC=>k_is);(case a=>k_is);(case i=>k_is);(case l=>k_is);(case c=>k_is);(case k=>k_is);(case b=>exact fun _ _ _ _ _ _ us hl=>by obtain ⟨a,b,c,rfl⟩:=L2.zrn us hl;rfl)
   obtain ⟨C,f,fd,e1,e2⟩:=e
   rw [a_Closing] at e1
   cases e1
   exact ⟨f,fd,e2⟩
  obtain ⟨n_known_of,o_known_of,N_known_of⟩:=N_known_of
  have N_ties_to:∃f fd,Y0.MtK (L2.KOf KX) c_Closing "ties_to" "Closing.ties_to" Y0.sC_Closing_ties_to ["self","b"] f fd:=by
   have e:∃C f fd,PySem.W.nsIn (L2.KOf KX) mainGlobals "Closing"=some (some (.ref C))∧Y0.MtK (L2.KOf KX) C "ties_to" "Closing.ties_to" Y0.sC_Closing_ties_to ["self","b"] f fd:=by
    dsimp only [L2.KOf]
    refine' ⟨_,_,_,?aC,Y0.mt_mk ?a ?i ?l ?c ?k ?b⟩
    (case aC=>k_is);(case a=>k_is);(case i=>k_is);(case l=>k_is);(case c=>k_is);(case k=>k_is);(case b=>exact fun _ _ _ _ _ _ us hl=>by obtain ⟨a,b,rfl⟩:=L2.zju us hl;rfl)
   obtain ⟨C,f,fd,e1,e2⟩:=e
   rw [a_Closing] at e1
   cases e1
   exact ⟨f,fd,e2⟩
  obtain ⟨n_ties_to,o_ties_to,N_ties_to⟩:=N_ties_to
  have N_draw_from_tie:∃f fd,Y0.MtK (L2.KOf KX) c_Closing "draw_from_tie" "Closing.draw_from_tie" Y0.sC_Closing_draw_from_tie ["self","at","a","b"] f fd:=by
   have e:∃C f fd,PySem.W.nsIn (L2.KOf KX) mainGlobals "Closing"=some (some (.ref C))∧Y0.MtK (L2.KOf KX) C "draw_from_tie" "Closing.draw_from_tie" Y0.sC_Closing_draw_from_tie ["self","at","a","b"] f fd:=by
    dsimp only [L2.KOf]
    refine' ⟨_,_,_,?aC,Y0.mt_mk ?a ?i ?l ?c ?k ?b⟩
    (case aC=>k_is);(case a=>k_is);(case i=>k_is);(case l=>k_is);(case c=>k_is);(case k=>k_is);(case b=>exact fun _ _ _ _ _ _ us hl=>by obtain ⟨a,b,c,d,rfl⟩:=L2.zv7 us hl;rfl)
   obtain ⟨C,f,fd,e1,e2⟩:=e
   rw [a_Closing] at e1
   cases e1
   exact ⟨f,fd,e2⟩
  obtain ⟨n_draw_from_tie,o_draw_from_tie,N_draw_from_tie⟩:=N_draw_from_tie
  have N_draw_from_wait:∃f fd,Y0.MtK (L2.KOf KX) c_Closing "draw_from_wait" "Closing.draw_from_wait" Y0.sC_Closing_draw_from_wait ["self","at","a"] f fd:=by
   have e:∃C f fd,PySem.W.nsIn (L2.KOf KX) mainGlobals "Closing"=some (some (.ref C))∧Y0.MtK (L2.KOf KX) C "draw_from_wait" "Closing.draw_from_wait" Y0.sC_Closing_draw_from_wait ["self","at","a"] f fd:=by
    dsimp only [L2.KOf]
    refine' ⟨_,_,_,?aC,Y0.mt_mk ?a ?i ?l ?c ?k ?b⟩
    (case aC=>k_is);(case a=>k_is);(case i=>k_is);(case l=>k_is);(case c=>k_is);(case k=>k_is);(case b=>exact fun _ _ _ _ _ _ us hl=>by obtain ⟨a,b,c,rfl⟩:=L2.zrn us hl;rfl)
   obtain ⟨C,f,fd,e1,e2⟩:=e
   rw [a_Closing] at e1
   cases e1
   exact ⟨f,fd,e2⟩
  obtain ⟨n_draw_from_wait,o_draw_from_wait,N_draw_from_wait⟩:=N_draw_from_wait
  have N_draw_all:∃f fd,Y0.MtK (L2.KOf KX) c_Closing "draw_all" "Closing.draw_all" Y0.sC_Closing_draw_all ["self"] f fd:=by
   have e:∃C f fd,PySem.W.nsIn (L2.KOf KX) mainGlobals "Closing"=some (some (.ref C))∧Y0.MtK (L2.KOf KX) C "draw_all" "Closing.draw_all" Y0.sC_Closing_draw_all ["self"] f fd:=by
    dsimp only [L2.KOf]
    refine' ⟨_,_,_,?aC,Y0.mt_mk ?a ?i ?l ?c ?k ?b⟩
    (case aC=>k_is);(case a=>k_is);(case i=>k_is);(case l=>k_is);(case c=>k_is);(case k=>k_is);(case b=>exact fun _ _ _ _ _ _ us hl=>by obtain ⟨a,rfl⟩:=L2.znp us hl;rfl)
   obtain ⟨C,f,fd,e1,e2⟩:=e
   rw [a_Closing] at e1
   cases e1
   exact ⟨f,fd,e2⟩
  obtain ⟨n_draw_all,o_draw_all,N_draw_all⟩:=N_draw_all
  have N_best_drawn:∃f fd,Y0.MtK (L2.KOf KX) c_Closing "best_drawn" "Closing.best_drawn" Y0.sC_Closing_best_drawn ["self","kind"] f fd:=by
   have e:∃C f fd,PySem.W.nsIn (L2.KOf KX) mainGlobals "Closing"=some (some (.ref C))∧Y0.MtK (L2.KOf KX) C "best_drawn" "Closing.best_drawn" Y0.sC_Closing_best_drawn ["self","kind"] f fd:=by
    dsimp only [L2.KOf]
    refine' ⟨_,_,_,?aC,Y0.mt_mk ?a ?i ?l ?c ?k ?b⟩
    (case aC=>k_is);(case a=>k_is);(case i=>k_is);(case l=>k_is);(case c=>k_is);(case k=>k_is);(case b=>exact fun _ _ _ _ _ _ us hl=>by obtain ⟨a,b,rfl⟩:=L2.zju us hl;rfl)
   obtain ⟨C,f,fd,e1,e2⟩:=e
   rw [a_Closing] at e1
   cases e1
   exact ⟨f,fd,e2⟩
  obtain ⟨n_best_drawn,o_best_drawn,N_best_drawn⟩:=N_best_drawn
  have F_numbers_needed:∃f fd,Y0.Fn (L2.KOf KX) mg "numbers_needed" Y0.sP_numbers_needed ["rows","last"] f fd:=by
   dsimp only [L2.KOf]
   refine' ⟨_,_,Y0.fn_mk KX G ?a ?l ?c ?k ?b⟩
   (case a=>k_is);(case l=>k_is);(case c=>k_is);(case k=>k_is);(case b=>exact fun _ _ _ _ _ _ us hl=>by obtain ⟨a,b,rfl⟩:=L2.zju us hl;rfl)
  obtain ⟨f_numbers_needed,d_numbers_needed,F_numbers_needed⟩:=F_numbers_needed
  have F_paper_up_to:∃f fd,Y0.Fn (L2.KOf KX) mg "paper_up_to" Y0.sP_paper_up_to ["rows","last"] f fd:=by
   dsimp only [L2.KOf]
   refine' ⟨_,_,Y0.fn_mk KX G ?a ?l ?c ?k ?b⟩
   (case a=>k_is);(case l=>k_is);(case c=>k_is);(case k=>k_is);(case b=>exact fun _ _ _ _ _ _ us hl=>by obtain ⟨a,b,rfl⟩:=L2.zju us hl;rfl)
  obtain ⟨f_paper_up_to,d_paper_up_to,F_paper_up_to⟩:=F_paper_up_to
  have F_is_told:∃f fd,Y0.Fn (L2.KOf KX) mg "is_told" Y0.sP_is_told ["by_end","wait"] f fd:=by
   dsimp only [L2.KOf]
   refine' ⟨_,_,Y0.fn_mk KX G ?a ?l ?c ?k ?b⟩
   (case a=>k_is);(case l=>k_is);(case c=>k_is);(case k=>k_is);(case b=>exact fun _ _ _ _ _ _ us hl=>by obtain ⟨a,b,rfl⟩:=L2.zju us hl;rfl)
  obtain ⟨f_is_told,d_is_told,F_is_told⟩:=F_is_told
  have F_kept:∃f fd,Y0.Fn (L2.KOf KX) mg "kept" Y0.sP_kept ["web"] f fd:=by
   dsimp only [L2.KOf]
   refine' ⟨_,_,Y0.fn_mk KX G ?a ?l ?c ?k ?b⟩
   (case a=>k_is);(case l=>k_is);(case c=>k_is);(case k=>k_is);(case b=>exact fun _ _ _ _ _ _ us hl=>by obtain ⟨a,rfl⟩:=L2.znp us hl;rfl)
  obtain ⟨f_kept,d_kept,F_kept⟩:=F_kept
  have F_are_two_moments:∃f fd,Y0.Fn (L2.KOf KX) mg "are_two_moments" Y0.sP_are_two_moments ["many","one","other"] f fd:=by
   dsimp only [L2.KOf]
   refine' ⟨_,_,Y0.fn_mk KX G ?a ?l ?c ?k ?b⟩
   (case a=>k_is);(case l=>k_is);(case c=>k_is);(case k=>k_is);(case b=>exact fun _ _ _ _ _ _ us hl=>by obtain ⟨a,b,c,rfl⟩:=L2.zrn us hl;rfl)
  obtain ⟨f_are_two_moments,d_are_two_moments,F_are_two_moments⟩:=F_are_two_moments
  have F_look_over_size:∃f fd,Y0.Fn (L2.KOf KX) mg "look_over_size" Y0.sP_look_over_size ["many","last"] f fd:=by
   dsimp only [L2.KOf]
   refine' ⟨_,_,Y0.fn_mk KX G ?a ?l ?c ?k ?b⟩
   (case a=>k_is);(case l=>k_is);(case c=>k_is);(case k=>k_is);(case b=>exact fun _ _ _ _ _ _ us hl=>by obtain ⟨a,b,rfl⟩:=L2.zju us hl;rfl)
  obtain ⟨f_look_over_size,d_look_over_size,F_look_over_size⟩:=F_look_over_size
  have F_look_over_ties:∃f fd,Y0.Fn (L2.KOf KX) mg "look_over_ties" Y0.sP_look_over_ties ["many","ties"] f fd:=by
   dsimp only [L2.KOf]
   refine' ⟨_,_,Y0.fn_mk KX G ?a ?l ?c ?k ?b⟩
   (case a=>k_is);(case l=>k_is);(case c=>k_is);(case k=>k_is);(case b=>exact fun _ _ _ _ _ _ us hl=>by obtain ⟨a,b,rfl⟩:=L2.zju us hl;rfl)
  obtain ⟨f_look_over_ties,d_look_over_ties,F_look_over_ties⟩:=F_look_over_ties
  have F_look_over_falls:∃f fd,Y0.Fn (L2.KOf KX) mg "look_over_falls" Y0.sP_look_over_falls ["many","falls"] f fd:=by
   dsimp only [L2.KOf]
   refine' ⟨_,_,Y0.fn_mk KX G ?a ?l ?c ?k ?b⟩
   (case a=>k_is);(case l=>k_is);(case c=>k_is);(case k=>k_is);(case b=>exact fun _ _ _ _ _ _ us hl=>by obtain ⟨a,b,rfl⟩:=L2.zju us hl;rfl)
  obtain ⟨f_look_over_falls,d_look_over_falls,F_look_over_falls⟩:=F_look_over_falls
  have C_Web:∃C,Y0.WebK (L2.KOf KX) mg C∧PySem.W.nsIn (L2.KOf KX) mainGlobals "Web"=some (some (.ref C)):=by
   dsimp only [L2.KOf]
   refine' ⟨_,Y0.web_mk KX G ?aC ?pg ?hd ?po ?sa ?mk ?kc ?n1 ?n2 ?n3 ?n4,?aD⟩
   (case aC=>k_is);(case pg=>k_is);(case hd=>k_is);(case po=>k_is);(case sa=>k_is);(case mk=>k_is);(case kc=>k_is);(case n1=>k_is);(case n2=>k_is);(case n3=>k_is);(case n4=>k_is);(case aD=>k_is)
  obtain ⟨c_Web,C_Web,a_Web⟩:=C_Web
  have M_init:∃f fd,Y0.MtK (L2.KOf KX) c_Web "__init__" "Web.__init__" Y0.sC_Web_init ["self","many","last","ties","falls"] f fd:=by
   have e:∃C f fd,PySem.W.nsIn (L2.KOf KX) mainGlobals "Web"=some (some (.ref C))∧Y0.MtK (L2.KOf KX) C "__init__" "Web.__init__" Y0.sC_Web_init ["self","many","last","ties","falls"] f fd:=by
    dsimp only [L2.KOf]
    refine' ⟨_,_,_,?aC,Y0.mt_mk ?a ?i ?l ?c ?k ?b⟩
    (case aC=>k_is);(case a=>k_is);(case i=>k_is);(case l=>k_is);(case c=>k_is);(case k=>k_is);(case b=>exact fun _ _ _ _ _ _ us hl=>by obtain ⟨a,b,c,d,e,rfl⟩:=L2.zAc us hl;rfl)
   obtain ⟨C,f,fd,e1,e2⟩:=e
   rw [a_Web] at e1
   cases e1
   exact ⟨f,fd,e2⟩
  obtain ⟨m_init,e_init,M_init⟩:=M_init
  have M_ties:∃f fd,Y0.MtK (L2.KOf KX) c_Web "ties" "Web.ties" Y0.sC_Web_ties ["self"] f fd:=by
   have e:∃C f fd,PySem.W.nsIn (L2.KOf KX) mainGlobals "Web"=some (some (.ref C))∧Y0.MtK (L2.KOf KX) C "ties" "Web.ties" Y0.sC_Web_ties ["self"] f fd:=by
    dsimp only [L2.KOf]
    refine' ⟨_,_,_,?aC,Y0.mt_mk ?a ?i ?l ?c ?k ?b⟩
    (case aC=>k_is);(case a=>k_is);(case i=>k_is);(case l=>k_is);(case c=>k_is);(case k=>k_is);(case b=>exact fun _ _ _ _ _ _ us hl=>by obtain ⟨a,rfl⟩:=L2.znp us hl;rfl)
   obtain ⟨C,f,fd,e1,e2⟩:=e
   rw [a_Web] at e1
   cases e1
   exact ⟨f,fd,e2⟩
  obtain ⟨m_ties,e_ties,M_ties⟩:=M_ties
  have M_falls:∃f fd,Y0.MtK (L2.KOf KX) c_Web "falls" "Web.falls" Y0.sC_Web_falls ["self"] f fd:=by
   have e:∃C f fd,PySem.W.nsIn (L2.KOf KX) mainGlobals "Web"=some (some (.ref C))∧Y0.MtK (L2.KOf KX) C "falls" "Web.falls" Y0.sC_Web_falls ["self"] f fd:=by
    dsimp only [L2.KOf]
    refine' ⟨_,_,_,?aC,Y0.mt_mk ?a ?i ?l ?c ?k ?b⟩
    (case aC=>k_is);(case a=>k_is);(case i=>k_is);(case l=>k_is);(case c=>k_is);(case k=>k_is);(case b=>exact fun _ _ _ _ _ _ us hl=>by obtain ⟨a,rfl⟩:=L2.znp us hl;rfl)
   obtain ⟨C,f,fd,e1,e2⟩:=e
   rw [a_Web] at e1
   cases e1
   exact ⟨f,fd,e2⟩
  obtain ⟨m_falls,e_falls,M_falls⟩:=M_falls
  have F_law_next:∃f fd,Y0.Fn (L2.KOf KX) mg "_law_next" Y0.sNext ["_law_dice","_law_many"] f fd:=by
   dsimp only [L2.KOf]
   refine' ⟨_,_,Y0.fn_mk KX G ?a ?l ?c ?k ?b⟩
   (case a=>k_is);(case l=>k_is);(case c=>k_is);(case k=>k_is);(case b=>exact fun _ _ _ _ _ _ us hl=>by obtain ⟨a,b,rfl⟩:=L2.zju us hl;rfl)
  obtain ⟨f_law_next,d_law_next,F_law_next⟩:=F_law_next
  have F_law_whole:∃f fd,Y0.Fn (L2.KOf KX) mg "_law_whole" Y0.sWhole ["_law_found"] f fd:=by
   dsimp only [L2.KOf]
   refine' ⟨_,_,Y0.fn_mk KX G ?a ?l ?c ?k ?b⟩
   (case a=>k_is);(case l=>k_is);(case c=>k_is);(case k=>k_is);(case b=>exact fun _ _ _ _ _ _ us hl=>by obtain ⟨a,rfl⟩:=L2.znp us hl;rfl)
  obtain ⟨f_law_whole,d_law_whole,F_law_whole⟩:=F_law_whole
  have F_law_named:∃f fd,Y0.Fn (L2.KOf KX) mg "_law_named" Y0.sNamed ["_law_moment","_law_many","_law_turn"] f fd:=by
   dsimp only [L2.KOf]
   refine' ⟨_,_,Y0.fn_mk KX G ?a ?l ?c ?k ?b⟩
   (case a=>k_is);(case l=>k_is);(case c=>k_is);(case k=>k_is);(case b=>exact fun _ _ _ _ _ _ us hl=>by obtain ⟨a,b,c,rfl⟩:=L2.zrn us hl;rfl)
  obtain ⟨f_law_named,d_law_named,F_law_named⟩:=F_law_named
  have F_law_falls:∃f fd,Y0.Fn (L2.KOf KX) mg "_law_falls" Y0.sFalls ["_law_d","_law_many","_law_wide"] f fd:=by
   dsimp only [L2.KOf]
   refine' ⟨_,_,Y0.fn_mk KX G ?a ?l ?c ?k ?b⟩
   (case a=>k_is);(case l=>k_is);(case c=>k_is);(case k=>k_is);(case b=>exact fun _ _ _ _ _ _ us hl=>by obtain ⟨a,b,c,rfl⟩:=L2.zrn us hl;rfl)
  obtain ⟨f_law_falls,d_law_falls,F_law_falls⟩:=F_law_falls
  have F_law_ties:∃f fd,Y0.Fn (L2.KOf KX) mg "_law_ties" Y0.sTies ["_law_d","_law_many","_law_last","_law_wide"] f fd:=by
   dsimp only [L2.KOf]
   refine' ⟨_,_,Y0.fn_mk KX G ?a ?l ?c ?k ?b⟩
   (case a=>k_is);(case l=>k_is);(case c=>k_is);(case k=>k_is);(case b=>exact fun _ _ _ _ _ _ us hl=>by obtain ⟨a,b,c,d,rfl⟩:=L2.zv7 us hl;rfl)
  obtain ⟨f_law_ties,d_law_ties,F_law_ties⟩:=F_law_ties
  have F_law_web:∃f fd,Y0.Fn (L2.KOf KX) mg "_law_web" Y0.sWeb ["_law_d","_law_most","_law_last","_law_wide"] f fd:=by
   dsimp only [L2.KOf]
   refine' ⟨_,_,Y0.fn_mk KX G ?a ?l ?c ?k ?b⟩
   (case a=>k_is);(case l=>k_is);(case c=>k_is);(case k=>k_is);(case b=>exact fun _ _ _ _ _ _ us hl=>by obtain ⟨a,b,c,d,rfl⟩:=L2.zv7 us hl;rfl)
  obtain ⟨f_law_web,d_law_web,F_law_web⟩:=F_law_web
  have F_law_bounds:∃f fd,Y0.Fn (L2.KOf KX) mg "_law_bounds" Y0.sL_bounds ["_law_w"] f fd:=by
   dsimp only [L2.KOf]
   refine' ⟨_,_,Y0.fn_mk KX G ?a ?l ?c ?k ?b⟩
   (case a=>k_is);(case l=>k_is);(case c=>k_is);(case k=>k_is);(case b=>exact fun _ _ _ _ _ _ us hl=>by obtain ⟨a,rfl⟩:=L2.znp us hl;rfl)
  obtain ⟨f_law_bounds,d_law_bounds,F_law_bounds⟩:=F_law_bounds
  have F_law_follows:∃f fd,Y0.Fn (L2.KOf KX) mg "_law_follows" Y0.sL_follows ["_law_w","_law_word","_law_used"] f fd:=by
   dsimp only [L2.KOf]
   refine' ⟨_,_,Y0.fn_mk KX G ?a ?l ?c ?k ?b⟩
   (case a=>k_is);(case l=>k_is);(case c=>k_is);(case k=>k_is);(case b=>exact fun _ _ _ _ _ _ us hl=>by obtain ⟨a,b,c,rfl⟩:=L2.zrn us hl;rfl)
  obtain ⟨f_law_follows,d_law_follows,F_law_follows⟩:=F_law_follows
  have F_law_is_paper:∃f fd,Y0.Fn (L2.KOf KX) mg "_law_is_paper" Y0.sL_is_paper ["_law_w","_law_rows"] f fd:=by
   dsimp only [L2.KOf]
   refine' ⟨_,_,Y0.fn_mk KX G ?a ?l ?c ?k ?b⟩
   (case a=>k_is);(case l=>k_is);(case c=>k_is);(case k=>k_is);(case b=>exact fun _ _ _ _ _ _ us hl=>by obtain ⟨a,b,rfl⟩:=L2.zju us hl;rfl)
  obtain ⟨f_law_is_paper,d_law_is_paper,F_law_is_paper⟩:=F_law_is_paper
  have F_law_is_form:∃f fd,Y0.Fn (L2.KOf KX) mg "_law_is_form" Y0.sL_is_form ["_law_rows"] f fd:=by
   dsimp only [L2.KOf]
   refine' ⟨_,_,Y0.fn_mk KX G ?a ?l ?c ?k ?b⟩
   (case a=>k_is);(case l=>k_is);(case c=>k_is);(case k=>k_is);(case b=>exact fun _ _ _ _ _ _ us hl=>by obtain ⟨a,rfl⟩:=L2.znp us hl;rfl)
  obtain ⟨f_law_is_form,d_law_is_form,F_law_is_form⟩:=F_law_is_form
  have F_law:∃f fd,Y0.Fn (L2.KOf KX) mg "law" Y0.sLaw ["_law_script"] f fd∧∀(s:Shared) (u:Value),BindsTo s fd ⟨[u],[]⟩ [("_law_script",u)]:=by
   dsimp only [L2.KOf]
   refine' ⟨_,_,Y0.fn_mk KX G ?a ?l ?c ?k ?b,?bb⟩
   (case a=>k_is);(case l=>k_is);(case c=>k_is);(case k=>k_is);(case b=>exact fun _ _ _ _ _ _ us hl=>by obtain ⟨a,rfl⟩:=L2.znp us hl;rfl);(case bb=>exact fun s u=>.of_eq rfl)
  obtain ⟨f_law,d_law,F_law,b_law⟩:=F_law
  have TW:Y0.TxtW mg:=by
   refine' Y0.txtW_mk KX G ?a ?b ?c ?d ?e
   (case a=>k_is);(case b=>k_is);(case c=>k_is);(case d=>k_is);(case e=>k_is)
  have TU:Y0.TxtU (L2.KOf KX) mg:=by
   dsimp only [L2.KOf]
   refine' Y0.txtU_mk KX G ?a ?t ?z
   (case a=>k_is);(case t=>with_unfolding_all rfl);(case z=>k_is)
  have Z:PySem.W.nsIn (L2.KOf KX) mainGlobals "min"=some none∧PySem.W.nsIn (L2.KOf KX) mainGlobals "max"=some none∧PySem.W.nsIn (L2.KOf KX) mainGlobals "sorted"=some none∧PySem.W.nsIn (L2.KOf KX) mainGlobals "isinstance"=some none∧PySem.W.nsIn (L2.KOf KX) mainGlobals "int"=some none∧PySem.W.nsIn (L2.KOf KX) mainGlobals "bool"=some none∧PySem.W.nsIn (L2.KOf KX) mainGlobals "str"=some none∧PySem.W.nsIn (L2.KOf KX) mainGlobals "all"=some none∧PySem.W.kitOne (L2.KOf KX) (.type "int") (.type "bool")=some false:=by
   dsimp only [L2.KOf]
   refine' ⟨?a,?b,?c,?d,?e,?f,?g,?h,?i⟩
   (case a=>k_is);(case b=>k_is);(case c=>k_is);(case d=>k_is);(case e=>k_is);(case f=>k_is);(case g=>k_is);(case h=>k_is);(case i=>with_unfolding_all rfl)
  have zl:=C_Closing.tc.len
  have zr:=C_Closing.tc.range
  have zt:=TU.tuple
  have zm:=PySem.W.mg_none_of KX G Z.1
  have zx:=PySem.W.mg_none_of KX G Z.2.1
  have zs:=PySem.W.mg_none_of KX G Z.2.2.1
  have zi:=PySem.W.mg_none_of KX G Z.2.2.2.1
  have za:=PySem.W.mg_none_of KX G Z.2.2.2.2.2.2.2.1
  have TL:Y0.TxtL (L2.KOf KX) mg:=⟨zr,zi,PySem.W.mg_none_of KX G Z.2.2.2.2.1,PySem.W.mg_none_of KX G Z.2.2.2.2.2.1,Z.2.2.2.2.2.2.2.2⟩
  have TF:Y0.TxtF mg:=⟨zi,TW.list,zt,PySem.W.mg_none_of KX G Z.2.2.2.2.2.2.1,zl⟩
  have e0:=hmg.symm.trans F_law.g
  cases e0
  refine ⟨d_law,b_law,fun base kb nb=>?gg⟩
  case gg=>
   have GN:=Y0.ok_next (P:=ZBr) (w:=w) (base:=base) F_law_next zl
   have GM:=Y0.ok_named (P:=ZBr) (w:=w) (base:=base) F_law_named
   have GF:=Y0.ok_falls F_law_falls F_law_next GN zm zr
   have GT:=Y0.ok_ties F_law_ties F_law_next GN zm zx zr
   have GW:=Y0.ok_web F_law_web F_law_next GN F_law_named GM F_law_falls GF F_law_ties GT
   have G2:=Y0.ok_two (P:=ZBr) (w:=w) (base:=base) F_are_two_moments
   have GS:=Y0.ok_size (P:=ZBr) (w:=w) (base:=base) F_look_over_size TW
   have GLT:=Y0.ok_lties F_look_over_ties TW F_are_two_moments G2
   have GLF:=Y0.ok_lfalls F_look_over_falls TW F_are_two_moments G2
   have GI:=Y0.ok_init M_init.F TW C_Web.tc F_look_over_size GS F_look_over_ties GLT F_look_over_falls GLF
   have Gt:=Y0.ok_tiesM (P:=ZBr) (w:=w) (base:=base) M_ties.F TW C_Web.tc
   have Gf:=Y0.ok_fallsM (P:=ZBr) (w:=w) (base:=base) M_falls.F TW C_Web.tc
   have GRo:=Y0.ok_room (P:=ZBr) (w:=w) (base:=base) F_room_bounds ⟨zr⟩ C_Web.tc
   have GSp:=Y0.ok_span (P:=ZBr) (w:=w) (base:=base) F_span_bounds
   have GBw:=Y0.ok_with F_bounds_with C_Web.tc F_room_bounds GRo F_span_bounds GSp M_falls.meth M_falls.b Gf
   have GTo:=Y0.ok_told F_told_bounds C_Web.tc F_bounds_with GBw M_ties.meth M_ties.b Gt
   have GBE:=Y0.ok_byEnd F_falls_by_end C_Web.tc M_falls.meth M_falls.b Gf
   have W1:=Y0.ok_sum (P:=ZBr) (w:=w) (base:=base) F_by_sum
   have W2:=Y0.ok_late (P:=ZBr) (w:=w) (base:=base) F_by_late
   have W3:=Y0.ok_soon (P:=ZBr) (w:=w) (base:=base) F_by_soon
   have W4:=Y0.ok_sure (P:=ZBr) (w:=w) (base:=base) F_by_sure ⟨zm⟩
   have W5:=Y0.ok_back (P:=ZBr) (w:=w) (base:=base) F_by_back ⟨zm⟩
   have W6:=Y0.ok_cross (P:=ZBr) (w:=w) (base:=base) F_by_cross ⟨zm⟩
   have GWf:=Y0.ok_follows F_what_follows TU F_by_sum W1 F_by_late W2 F_by_soon W3 F_by_sure W4 F_by_back W5 F_by_cross W6
   have GBa:=Y0.ok_bars (P:=ZBr) (w:=w) (base:=base) F_bars_every_hand
   have GNw:=Y0.ok_news (P:=ZBr) (w:=w) (base:=base) N_is_news.F C_Closing.tc
   have GTk:=Y0.ok_take N_take.F C_Closing.tc N_is_news.meth N_is_news.b GNw F_bars_every_hand GBa
   have GDr:=Y0.ok_draw N_draw.F C_Closing.tc N_take.meth N_take.b GTk F_what_follows GWf
   have GKn:=Y0.ok_known (P:=ZBr) (w:=w) (base:=base) N_known_of.F C_Closing.tc
   have GTt:=Y0.ok_tiesTo (P:=ZBr) (w:=w) (base:=base) N_ties_to.F C_Closing.tc
   have GFw:=Y0.ok_fromWait N_draw_from_wait.F C_Closing.tc N_draw.meth N_draw.b GDr N_ties_to.meth N_ties_to.b GTt
   have GFt:=Y0.ok_fromTie N_draw_from_tie.F C_Closing.tc N_draw.meth N_draw.b GDr N_ties_to.meth N_ties_to.b GTt N_known_of.meth N_known_of.b GKn
   have GDa:=Y0.ok_drawAll N_draw_all.F C_Closing.tc N_draw_from_tie.meth N_draw_from_tie.b GFt N_draw_from_wait.meth N_draw_from_wait.b GFw
   have GCi:=Y0.ok_cinit N_init.F C_Closing.tc C_Web.tc N_take.meth N_take.b GTk F_falls_by_end GBE F_told_bounds GTo
   have GBd:=Y0.ok_best (P:=ZBr) (w:=w) (base:=base) N_best_drawn.F C_Closing.tc zs
   have GNn:=Y0.ok_needed (P:=ZBr) (w:=w) (base:=base) F_numbers_needed zr zs
   have GPu:=Y0.ok_paperUp F_paper_up_to zl zt F_numbers_needed GNn
   have GIt:=Y0.ok_isTold (P:=ZBr) (w:=w) (base:=base) F_is_told
   have GKe:=Y0.ok_kept F_kept C_Closing.tc ⟨C_Closing.mk_,N_init.a,N_init.i,C_Closing.kc⟩ C_Closing.g N_init.b GCi N_draw_all.meth N_draw_all.b GDa N_best_drawn.meth N_best_drawn.b GBd F_paper_up_to GPu F_is_told GIt
   have GWh:=(Y0.ok_whole (P:=ZBr) (w:=w) (base:=base) F_law_whole TL).fn
   have GLB:=(Y0.ok_lbounds (P:=ZBr) (w:=w) (base:=base) F_law_bounds TL).fn
   have GFl:=Y0.ok_lfollows (P:=ZBr) (w:=w) (base:=base) F_law_follows zm zl
   have GLP:=Y0.ok_lisP F_law_is_paper zr zl F_law_bounds GLB F_law_follows GFl
   have GFo:=Y0.ok_lform F_law_is_form TF F_law_whole GWh
   have GRf:=Y0.ok_rowF F_row_follows za zl F_what_follows GWf
   have GIp:=Y0.ok_isPaper F_is_paper zr zl F_told_bounds GTo F_falls_by_end GBE F_row_follows GRf F_bars_every_hand GBa
   exact Y0.ok_law F_law TF zs C_Web.tc F_law_web GW ⟨C_Web.mk_,M_init.a,M_init.i,C_Web.kc⟩ M_init.b GI F_kept GKe F_law_whole GWh F_law_is_form GFo F_law_is_paper GLP F_is_paper GIp
