import PyProof.Rows.All
import Wide.All
import OpenK.AllK
import Wide.FinOn
import Lean
import PyProof.EqAt
import PyProof.EqKinds
import PyProof.TupleCall
import PySem.Challenge.RW_momentties_k10_papers_looked_over
import KE.KTabLook
import PyProof.DictWalks
import PyProof.Rows.DictUnroll
import PyProof.Rows.SortShell
import PyProof.CollectWalk
import PyProof.DictTruth
import KE.KSortTup
import KE.LcSums
abbrev ZAa := @Int.le_trans
abbrev ZAb := @List.mem_append_left
abbrev ZAc := @Array.toList_append
abbrev ZAd := @List.length_drop
abbrev ZAe := @Nat.le_succ
abbrev ZAf := @Int.le_of_lt
abbrev ZAg := @Int.toNat_of_nonneg
abbrev ZAh := @PySem.mem_of_lookup
abbrev ZAi := @List.length_eq_zero_iff
abbrev ZAj := @Array.length_toList
abbrev ZAk := @Bool.eq_false_iff
abbrev ZAl := @Ne.symm
abbrev ZAm := @List.mem_iff_getElem?
abbrev ZAn := @PySem.boot_len
abbrev ZAo := @PySem.W.mg_none_of
abbrev ZAp := @PySem.wpAny_bind
abbrev ZAq := @PySem.wpAny_pure
abbrev ZAr := @PySem.F.plainAttrs_list
abbrev ZAs := @PySem.F.slot_list_append
abbrev ZAt := @PySem.F.type_list_append
abbrev ZAu := @List.length_map
abbrev ZAv := @List.getElem?_eq_some_iff
abbrev ZAw := @Nat.le_refl
abbrev ZAx := @List.getElem?_eq_getElem
abbrev ZAy := @PySem.Heap.get?_push_of_some
abbrev ZAz := @Classical.byContradiction
abbrev ZA0 := @List.getElem?_map
abbrev ZA1 := @List.mem_of_getElem?
abbrev ZA2 := @List.size_toArray
abbrev ZA3 := @List.length_append
abbrev ZA4 := @List.mem_cons_of_mem
abbrev ZA5 := @List.mem_cons_self
abbrev ZA6 := @Bool.false_ne_true
abbrev ZA7 := @Option.some.inj
abbrev ZA8 := @List.lookup_cons
abbrev ZA9 := @List.map_append
abbrev ZBa := @Nat.zero_le
abbrev ZBb := @Nat.le_of_lt
abbrev ZBc := @PySem.Heap.lt_size
abbrev ZBd := @List.mem_singleton
abbrev ZBe := @List.mem_cons
abbrev ZBf := @List.map_cons
abbrev ZBg := @Nat.le_trans
abbrev ZBh := @PySem.Heap.get?_push_size
abbrev ZBi := @List.take_length
abbrev ZBj := @Nat.ne_of_lt
abbrev ZBk := @List.getElem?_append_right
abbrev ZBl := @List.length_take
abbrev ZBm := @Nat.lt_of_lt_of_le
abbrev ZBn := @List.mem_append_right
abbrev ZBo := @List.mem_append
abbrev ZBp := @List.length_cons
abbrev ZBq := @List.getElem?_append_left
abbrev ZBr := @List.mem_map
abbrev ZBs := @List.getElem_of_mem
abbrev ZBt := @List.pairwise_iff_getElem
abbrev ZBu := @List.take_succ
abbrev ZBw := @List.all_eq_true
abbrev ZBx := @Int.toNat_natCast
abbrev ZBy := @decide_eq_true_eq
abbrev ZBz := @Option.some.injEq
abbrev ZB0 := @List.getD_eq_getElem?_getD
abbrev ZB2 := @Nat.lt_irrefl
abbrev ZB3 := @List.getElem_mem
abbrev ZB4 := @List.length_nil
abbrev ZB6 := @Nat.not_lt_zero
abbrev ZB7 := @beq_self_eq_true
abbrev ZB8 := @decide_eq_true
abbrev ZB9 := @decide_eq_false
abbrev ZCa := PySem.W.Frag
noncomputable abbrev ZCb := PySem.Challenge.rw_momentties_k10_papers_looked_over.prog
noncomputable section
variable {P:PySem.Program} {w:PySem.World} {K:ZCa} {mg:PySem.Str->Option PySem.Value} {base:PySem.Heap}
set_option Elab.async false
set_option linter.all false
set_option maxRecDepth 100000
namespace L2
open PySem PySem.Spec PyProof.Rows
abbrev zlr (C:Addr) (dx:Option Addr) (t tb:Value):Obj:={ cls:=.ref C,dict:=dx,data:=.fields #[t,tb,.none,.none,.bool false,.none] }
def Hd (A:Around) (h:Heap):Prop:=A.handled=none\/∃(a C:Addr) (dx:Option Addr) (t tb:Value),A.handled=some (.ref a)/\h.get? a=some (zlr C dx t tb)
theorem zkk:entryFor table "proto.unchain"=some Builtin.«proto.unchain»:=entryFor_of_tree (by kernel_rfl)
section
variable {prog:Program} {w:World} {A:Around} {E:Value->Shared->Prop} {s:Shared}
theorem Hd.keep {h h':Heap} (q:Hd A h) (k:∀b C dx t tb,h.get? b=some (zlr C dx t tb)->h'.get? b=some (zlr C dx t tb)):Hd A h':=by
 rcases q with q | ⟨a,C,dx,t,tb,q,e⟩
 ·exact .inl q
 ·exact .inr ⟨a,C,dx,t,tb,q,k a C dx t tb e⟩
theorem zr6 {α:Type} {e:Addr} {oe:Obj} {vs:Array Value} {Q:α->Shared->Prop} (q:Hd A s.heap) (he:s.heap.get? e=some oe) (hc:∃n,oe.cls=.type n) (hd:oe.data=.fields vs) (hz:2<vs.size)
 (h:∀h',Heap.SameBut e s.heap h'->(∃o,h'.get? e=some o/\o.cls=oe.cls)->E (.ref e) { s with heap:=h' }):wpAny (model prog w) A (raiseNew (.ref e):Sem α) Q E s:=by
 unfold raiseNew
 refine ZAp (wpAny_handled ?_)
 rcases q with q | ⟨a,C,dx,t,tb,q,ea⟩
 ·rw [q]
  exact ZAp (ZAq (wpAny_throw (h s.heap (Heap.SameBut.refl ..) ⟨oe,he,rfl⟩)))
 ·rw [q]
  have ne:a≠e:=fun z=>by
   rw [z,he] at ea
   obtain ⟨n,hn⟩:=hc
   rw [ZA7 ea] at hn
   cases hn
  dsimp only
  rw [if_pos (show (Value.ref a !=Value.ref e)=true by simp [ne])]
  refine ZAp (wpAny_holding (wpAny_runValue (codeAny_builtin zkk ?_)))
  show wpAny _ _ (field (.ref a) 2>>=_) _ _ s
  refine ZAp (wpAny_field ea rfl (x:=.none) rfl ?_)
  rw [if_pos (by rfl)]
  refine ZAp (ZAq (ZAq ?_))
  refine ZAp (wpAny_setField (a:=e) he hd hz ?_)
  exact wpAny_throw (h _ (Heap.SameBut.update ..) ⟨_,Heap.get?_update_self _ he (Obj.isFreed_of_fields (Obj.data_mapFields hd _)),Obj.cls_mapFields ..⟩)
theorem zjt {α:Type} {Q:α->Shared->Prop} (q:Hd A s.heap)
 (h:∀e h',(∀b o,s.heap.get? b=some o->h'.get? b=some o)->(∃o,h'.get? e=some o/\o.cls=.type "StopIteration")->E (.ref e) { s with heap:=h' }):
 wpAny (model prog w) A (newExc (.type "StopIteration") []>>=fun x=>(raiseNew x:Sem α)) Q E s:=by
 refine ZAp ?_
 unfold newExc newTuple
 refine ZAp (wpAny_newObj_type ?_ (by size_fits))
 refine ZAp (wpAny_of_eq (a:=Value.none) (by first | rfl | (simp only [firstArgMember];rfl)) ?_)
 refine wpAny_newObj_type ?_ (by size_fits)
 refine zr6 (q.keep fun b C dx t tb e=>ZAy _ (ZAy _ e)) (ZBh _ rfl) ⟨_,rfl⟩ rfl (by simp;omega) fun h' sb ⟨o,eo,ec⟩=>?_
 refine h _ h' (fun b o' e=>?_) ⟨o,eo,ec⟩
 have e1:=ZAy (h:=s.heap) { cls:=.type "tuple",data:=.seq ([]:List Value).toArray } e
 exact (sb.2 b (ZBj (ZBc e1))).trans (ZAy _ e1)
theorem zkl {it:Addr} {s0:Shared} {e:Addr} {h':Heap} {Q:Option Value->Shared->Prop} (k:∀b o,b≠it->s0.heap.get? b=some o->h'.get? b=some o) (t:∃o,h'.get? e=some o/\o.cls=.type "StopIteration") (hQ:∀h',Heap.ExtBut it s0.heap h'->Q none { s0 with heap:=h' }):
 wpAny (model prog w) A (isInstance (.ref e) (.type "StopIteration")) (fun b s'=>b=true/\Q none s') E { s0 with heap:=h' }:=by
 obtain ⟨o,e1,e2⟩:=t
 exact wpAny_isInstance (T:="StopIteration") (b:=true) ⟨o,e1,e2⟩ isSubtype_stop ⟨rfl,hQ h' fun b u hb e=>k b u hb e⟩
theorem zme {it l:Addr} {i:Nat} {items:Array Value} {Q:Option Value->Shared->Prop} (q:Hd A s.heap) (st:s.heap.IsListIter it l i) (hl:s.heap.IsList l items) (hx:items[i]?=none)
 (hQ:∀h',Heap.ExtBut it s.heap h'->Q none { s with heap:=h' }):wpAny (model prog w) A (pyNext (.ref it)) Q E s:=by
 obtain ⟨u,hu,cu,du⟩:=id st
 obtain ⟨v,hv,_,nv,dv⟩:=hl
 unfold pyNext
 refine ZAp (wpAny_attempt (wpAny_callSpecial?_slot (name:=Str.ofString "__next__") st.typeIs slot_listiter_next (wpAny_call_entry slot_listiter_next st.typeIs entry_listiter_next ?_ (args_listiter_next _))))
 show wpAny _ _ (field (.ref it) 0>>=_) _ _ s
 refine ZAp (wpAny_field hu du (x:=.ref l) rfl ?_)
 rw [if_neg (show ¬((Value.ref l==Value.none)=true) from ZA6)]
 refine ZAp (wpAny_field hu du (x:=.int i 0) rfl (ZAp (wpAny_seqItems hv dv ?_)))
 simp only [ZBx,hx]
 refine ZAp (wpAny_rule (ZAp (wpAny_setField hu du (by simp) ?_)))
 have other:∀b o,b≠it->s.heap.get? b=some o->(s.heap.update it (Obj.mapFields (·.setIfInBounds 0 Value.none))).get? b=some o:=fun b o hb e=>(Heap.get?_update_other _ _ (ZAl hb)).trans e
 refine zjt (A:=A.in1) (s:={ s with heap:=s.heap.update it (Obj.mapFields (·.setIfInBounds 0 Value.none)) }) (Hd.keep (A:=A.in1) q fun b C dx t tb e=>other b _ (fun z=>?_) e) fun e h' kk te=>?_
 ·rw [z,hu] at e
  cases e
  cases cu
 ·refine ZAp (wpAny_mono (zkl (s0:=s) (fun b o hb z=>kk b o (other b o hb z)) te hQ) (fun b s' z=>?_) fun _ _ z=>z)
  obtain ⟨rfl,z⟩:=z
  exact ZAq z
theorem zg6 {it:Addr} {x left step:Int} {Q:Option Value->Shared->Prop} (q:Hd A s.heap) (st:IsRangeIter s.heap it x left step) (hz:left<=0)
 (hQ:∀h',Heap.ExtBut it s.heap h'->Q none { s with heap:=h' }):wpAny (model prog w) A (pyNext (.ref it)) Q E s:=by
 have ty:s.TypeIs (.ref it) "range_iterator":=⟨_,st,rfl⟩
 unfold pyNext
 refine ZAp (wpAny_attempt (wpAny_callSpecial?_slot (name:=Str.ofString "__next__") ty F.slot_range_iterator_next (wpAny_call_entry F.slot_range_iterator_next ty F.entry_range_iterator_next ?_ (F.args_range_iterator_next_1 _))))
 show wpAny _ _ (field (.ref it) 0>>=_) _ _ s
 refine ZAp (wpAny_field st rfl (x:=rawInt x) rfl (ZAp (wpAny_field st rfl (x:=rawInt left) rfl (ZAp (wpAny_field st rfl (x:=rawInt step) rfl ?_)))))
 show wpAny _ _ (if left<=0 then _ else _) _ _ s
 rw [if_pos hz]
 refine ZAp (wpAny_rule ?_)
 refine ZAp ?_
 refine zjt (A:=A.in1) (s:=s) q fun e h' kk te=>?_
 refine ZAp (wpAny_mono (zkl (s0:=s) (fun b o _ z=>kk b o z) te hQ) (fun b s' z=>?_) fun _ _ z=>z)
 obtain ⟨rfl,z⟩:=z
 exact ZAq z
theorem ziz {it t:Addr} {i:Nat} {items:Array Value} {Q:Option Value->Shared->Prop} (q:Hd A s.heap) (st:IsTupIter s.heap it t i) (hl:IsTup s.heap t items) (hx:items[i]?=none)
 (hQ:∀h',Heap.ExtBut it s.heap h'->Q none { s with heap:=h' }):wpAny (model prog w) A (pyNext (.ref it)) Q E s:=by
 obtain ⟨u,hu,cu,du⟩:=id st
 obtain ⟨v,hv,_,nv,dv⟩:=hl
 unfold pyNext
 refine ZAp (wpAny_attempt (wpAny_callSpecial?_slot (name:=Str.ofString "__next__") st.typeIs slot_tupleiter_next (wpAny_call_entry slot_tupleiter_next st.typeIs entry_tupleiter_next ?_ (args_tupleiter_next _))))
 show wpAny _ _ (field (.ref it) 0>>=_) _ _ s
 refine ZAp (wpAny_field hu du (x:=.ref t) rfl ?_)
 rw [if_neg (show ¬((Value.ref t==Value.none)=true) from ZA6)]
 refine ZAp (wpAny_field hu du (x:=.int i 0) rfl (ZAp (wpAny_seqItems hv dv ?_)))
 simp only [ZBx,hx]
 refine ZAp (wpAny_rule (ZAp (wpAny_setField hu du (by simp) ?_)))
 have other:∀b o,b≠it->s.heap.get? b=some o->(s.heap.update it (Obj.mapFields (·.setIfInBounds 0 Value.none))).get? b=some o:=fun b o hb e=>(Heap.get?_update_other _ _ (ZAl hb)).trans e
 refine zjt (A:=A.in1) (s:={ s with heap:=s.heap.update it (Obj.mapFields (·.setIfInBounds 0 Value.none)) }) (Hd.keep (A:=A.in1) q fun b C dx tt tb e=>other b _ (fun z=>?_) e) fun e h' kk te=>?_
 ·rw [z,hu] at e
  cases e
  cases cu
 ·refine ZAp (wpAny_mono (zkl (s0:=s) (fun b o hb z=>kk b o (other b o hb z)) te hQ) (fun b s' z=>?_) fun _ _ z=>z)
  obtain ⟨rfl,z⟩:=z
  exact ZAq z
theorem zou {t:Addr} {items:Array Value} {targets:List (Bool×(Value->Sem Unit))} {Q:Unit->Shared->Prop} (q:Hd A s.heap) (ht:IsTup s.heap t items) (hn:targets.length=items.size) (hst:targets.findIdx? (·.1)=none)
 (h:∀h',Heap.ExtBut s.heap.objs.size s.heap h'->wpAny (model prog w) A (assignInOrder (targets.map (·.2)) items.toList) Q E { s with heap:=h' }):wpAny (model prog w) A (unpack (.ref t) targets) Q E s:=by
 have hlt:t≠s.heap.objs.size:=by obtain ⟨o,ho,_⟩:=ht;exact ZBj (ZBc ho)
 unfold unpack
 rw [hn,hst]
 refine ZAp (wpAny_holding ?_)
 unfold unpackItems notIterableAtAll
 refine ZAp (ZAp (wpAny_specialOf ht.typeIs slot_tuple_iter.lookup (ZAq ?_)))
 simp only [Bool.false_eq_true,if_false]
 refine ZAp (wpAny_holding (iter_tuple ht ?_))
 refine ZAp (wpAny_holding (draw_tuple hlt items.size 0 _ _ ⟨_,ZBh _ rfl,rfl,rfl⟩ (ht.push _) (by omega) fun h₁ st₁ sb₁=>?_))
 have all:List.take items.size (List.drop 0 items.toList)=items.toList:=by rw [List.drop_zero];exact List.take_of_length_le (by simp)
 rw [all,if_neg (by simp)]
 have ht₁:IsTup h₁ t items:=(ht.push _).extBut sb₁.extBut hlt
 refine ZAp (wpAny_holding (ziz (s:={ s with heap:=h₁ }) (Hd.keep q fun b C dx tt tb e=>(sb₁.2 b (ZBj (ZBc e))).trans (ZAy _ e)) st₁ ht₁ (by simp) fun h₂ k₂=>?_))
 simp only [Option.isSome_none,Bool.false_eq_true,if_false]
 exact ZAq (h h₂ fun b o hb e=>k₂ b o hb (sb₁.extBut b o hb (ZAy _ e)))
theorem zj1 {it:Addr} {lo:Int} {i n:Nat} {Q:Option Value->Shared->Prop} (hi:i<n) (st:IsRangeIter s.heap it (lo+(i:Nat)*1) ((n:Int)-(i:Nat)) 1)
 (hQ:∀(t:Tok) h' tk,IsRangeIter h' it (lo+((i+1:Nat):Int)*1) ((n:Int)-((i+1:Nat):Int)) 1->(∀b o,b∉[it]->s.heap.get? b=some o->h'.get? b=some o)->Q (some (.int (lo+(i:Nat)*1) t)) { s with heap:=h',toks:=tk }):
 wpAny (model prog w) A (pyNext (.ref it)) Q E s:=by
 refine wpAny_pyNext_range_item st (by omega) fun h' st' sb=>?_
 refine hQ _ h' _ ?_ fun b o hb e=>sb.extBut b o (fun z=>hb (by simp [z])) e
 have e1:lo+((i+1:Nat):Int)*1=lo+(i:Int)*1+1:=by omega
 have e2:(n:Int)-((i+1:Nat):Int)=(n:Int)-(i:Int)-1:=by omega
 rw [e1,e2]
 exact st'
end
abbrev Key:=Sum Int Str
def zmh:Key->Value->Bool
 | .inl k,v=>Value.isInt k v
 | .inr x,v=>Value.isStrOf x v
def zBe (w:World):Key->Int
 | .inl k=>hashInt k
 | .inr x=>hashStr w x
theorem zbu:∀{k:Key} {v:Value},zmh k v=true->(∃i t,k=Sum.inl i/\v=Value.int i t)\/(∃x t,k=Sum.inr x/\v=Value.str x t)
 | .inl i,v,h=>by
  obtain ⟨t,e⟩:=Value.isInt_shape (k:=i) (v:=v) h
  exact .inl ⟨i,t,rfl,e⟩
 | .inr x,v,h=>by
  obtain ⟨t,e⟩:=Value.isStrOf_shape (x:=x) (v:=v) h
  exact .inr ⟨x,t,rfl,e⟩
theorem zqh (i:Int) (t:Tok):zmh (.inl i) (.int i t)=true:=by simp [zmh,Value.isInt]
theorem zqg (x:Str) (t:Tok):zmh (.inr x) (.str x t)=true:=by simp [zmh,Value.isStrOf]
theorem zw4 (a b:Int):decide ((Sum.inl a:Key)=Sum.inl b)=(a==b):=by
 by_cases e:a=b
 ·subst e;simp
 ·have h:¬(Sum.inl a:Key)=Sum.inl b:=fun q=>e (Sum.inl.inj q)
  rw [ZB9 h]
  exact (beq_eq_false_iff_ne.mpr e).symm
theorem zw1 (a b:Str):decide ((Sum.inr a:Key)=Sum.inr b)=decide (a=b):=by
 by_cases e:a=b
 ·subst e;simp
 ·have h:¬(Sum.inr a:Key)=Sum.inr b:=fun q=>e (Sum.inr.inj q)
  rw [ZB9 h,ZB9 e]
theorem zw3 (a:Int) (b:Str):decide ((Sum.inl a:Key)=Sum.inr b)=false:=ZB9 nofun
theorem zw2 (a:Str) (b:Int):decide ((Sum.inr a:Key)=Sum.inl b)=false:=ZB9 nofun
def zco (prog:Program) (w:World):PySem.KeyKind prog w Key where
 is:=zmh
 hash:=zBe w
 inj:=fun v a b ha hb=>by
  rcases zbu ha with ⟨i,t,rfl,rfl⟩ | ⟨x,t,rfl,rfl⟩
  ·rcases zbu hb with ⟨j,u,rfl,e⟩ | ⟨y,u,rfl,e⟩
   ·injection e with e1 _;rw [e1]
   ·exact nomatch e
  ·rcases zbu hb with ⟨j,u,rfl,e⟩ | ⟨y,u,rfl,e⟩
   ·exact nomatch e
   ·injection e with e1 _;rw [e1]
 byValue:=fun k v h=>by
  rcases zbu h with ⟨i,t,rfl,rfl⟩ | ⟨x,t,rfl,rfl⟩<;>rfl
 pyHash:=fun hv h=>by
  rcases zbu hv with ⟨i,t,rfl,rfl⟩ | ⟨x,t,rfl,rfl⟩
  ·exact wpAny_pyHash_int h
  ·exact wpAny_pyHash_str h
 eqBool:=fun hu hv h=>by
  rcases zbu hu with ⟨i,t,rfl,rfl⟩ | ⟨x,t,rfl,rfl⟩
  ·rcases zbu hv with ⟨j,u,rfl,rfl⟩ | ⟨y,u,rfl,rfl⟩
   ·rw [zw4] at h;exact wpAny_eqBool_int h
   ·rw [zw3] at h;exact SeqAt.EqAt.int_str i t y u _ _ _ _ h
  ·rcases zbu hv with ⟨j,u,rfl,rfl⟩ | ⟨y,u,rfl,rfl⟩
   ·rw [zw2] at h;exact SeqAt.EqAt.str_int x t j u _ _ _ _ h
   ·rw [zw1] at h;exact wpAny_eqBool_str h
 «strs»:=fun k x t v h=>by
  rcases zbu h with ⟨i,u,rfl,e⟩ | ⟨y,u,rfl,e⟩
  ·exact nomatch e
  ·injection e with e1 _
   subst e1
   cases v<;>rfl
theorem zmd (prog:Program) (w:World) (i:Int) (t:Tok):(zco prog w).is (.inl i) (.int i t)=true:=zqh i t
theorem zmc (prog:Program) (w:World) (x:Str) (t:Tok):(zco prog w).is (.inr x) (.str x t)=true:=zqg x t
inductive V where
 | non | bl (b:Bool) | int (i:Int) | str (x:Str) | byt (b:Array UInt8) | flt (b:UInt64) | ref (a:Addr) | ty (n:String)
 deriving DecidableEq
def zck:V->Value->Prop
 | .non,u=>u=Value.none
 | .bl b,u=>u=Value.bool b
 | .int i,u=>∃t,u=Value.int i t
 | .str x,u=>∃t,u=Value.str x t
 | .byt b,u=>∃t,u=Value.bytes b t
 | .flt b,u=>∃t,u=Value.float b t
 | .ref a,u=>u=Value.ref a
 | .ty n,u=>u=Value.type n
abbrev zb3:List V->List Value->Prop:=Paired zck
theorem zb3.length {xs:List V} {us:List Value} (r:zb3 xs us):xs.length=us.length:=Paired.length r
theorem zb3.get:∀{xs:List V} {us:List Value} {i:Nat} {x:V},zb3 xs us->xs[i]?=some x->∃u,us[i]?=some u/\zck x u
 | _,_,_,_,.nil,e=>by simp at e
 | _,_,0,_,.cons r _,e=>by simp at e;subst e;exact ⟨_,rfl,r⟩
 | _,_,i+1,x,.cons _ t,e=>by
  obtain ⟨u,h1,h2⟩:=zb3.get (i:=i) (x:=x) t (by simpa using e)
  exact ⟨u,by simpa using h1,h2⟩
theorem zb3.set {x:V} {u:Value} (r:zck x u):∀{xs:List V} {us:List Value} (i:Nat),zb3 xs us->zb3 (xs.set i x) (us.set i u)
 | _,_,_,.nil=>.nil
 | _,_,0,.cons _ t=>.cons r t
 | _,_,i+1,.cons q t=>.cons q (zb3.set r i t)
theorem zb3.append {xs ys:List V} {us ws:List Value} (h:zb3 xs us) (s:zb3 ys ws):zb3 (xs++ys) (us++ws):=by
 induction h with
 | nil=>exact s
 | cons r t ih=>exact .cons r ih
theorem zb3.take:∀{xs:List V} {us:List Value} (n:Nat),zb3 xs us->zb3 (xs.take n) (us.take n)
 | _,_,0,_=>.nil
 | _,_,_+1,.nil=>.nil
 | _,_,n+1,.cons r t=>.cons r (zb3.take n t)
theorem zb3.drop:∀{xs:List V} {us:List Value} (n:Nat),zb3 xs us->zb3 (xs.drop n) (us.drop n)
 | _,_,0,r=>r
 | _,_,_+1,.nil=>.nil
 | _,_,n+1,.cons _ t=>zb3.drop n t
def zkt:Option V->Option Value->Prop
 | some v,some u=>zck v u
 | none,none=>True
 | _,_=>False
def KV {κ:Type}:List (κ×V)->List (κ×Value)->Prop:=Paired fun (p:κ×V) (q:κ×Value)=>p.1=q.1/\zck p.2 q.2
def kV:Key->V
 | .inl i=>.int i
 | .inr x=>.str x
inductive HO where
 | lst (xs:List V)
 | tup (xs:List V)
 | dK (kvs:List (Key×V)) | dT (kvs:List (List Key×V))
 | set (S:Int->Bool) (n:Nat)
 | ins (C dx:Addr) (fs:List (Str×V))
 | own (x:Addr)
 | xd (fs:List (Str×V))
 | met (f x:Addr)
 | rng (lo hi:Int)
 | frz (o:Obj) (u:HO)
 | tbl (ps:Array Value)
 | ext (φ:Heap->Prop)
abbrev Hp:=Addr->Option HO
def upd (H:Hp) (a:Addr) (o:HO):Hp:=fun b=>if b=a then some o else H b
theorem zaa {H:Hp} {a:Addr} {o:HO}:upd H a o a=some o:=by unfold upd;rw [if_pos rfl]
theorem zai {H:Hp} {a b:Addr} {o:HO} (h:b≠a):upd H a o b=H b:=by unfold upd;rw [if_neg h]
theorem zl4 {H:Hp} {a:Addr} {o u:HO}:upd (upd H a o) a u=upd H a u:=by
 funext b;unfold upd;split<;>rfl
theorem zba {H:Hp} {a b:Addr} {o u:HO} (h:H a=some o) (h':H b=some u) (d:o≠u):a≠b:=by
 intro e;subst e;rw [h] at h';exact d (ZA7 h')
theorem zac {H:Hp} {a b:Addr} {o:HO} (h:H a=some o) (h':H b=none):a≠b:=by
 intro e;subst e;rw [h] at h';cases h'
section
variable (P:Program) (w:World)
def zce (H:Hp) (h:Heap) (a:Addr):HO->Prop
 | .lst xs=>xs.length<=sizeLine/\∃(its:List Value) (n:Nat),zb3 xs its/\h.get? a=some { cls:=.type "list",data:=.seq its.toArray n }
 | .tup xs=>xs.length<=sizeLine/\∃its:List Value,zb3 xs its/\IsTup h a its.toArray
 | .dK kvs=>kvs.length<=sizeLine/\(a==sysModules)=false/\∃vs,KV kvs vs/\h.DictOf (zco P w) a vs
 | .dT kvs=>kvs.length<=sizeLine/\(a==sysModules)=false/\∃xs:List (List Key×Addr×Value),
  Paired (fun (p:List Key×V) (q:List Key×Addr×Value)=>p.1=q.1/\H q.2.1=some (.tup (p.1.map kV))/\zck p.2 q.2.2) kvs xs/\
  ∃o es ep,h.get? a=some o/\o.ExactDict/\o.data=.dict es ep/\es.toList=xs.map (entryOfKey (tupleKind (zco P w)))/\(xs.map (·.1)).Nodup
 | .set S n=>h.SetOf (intKind P w) a S n
 | .ins C dx fs=>H dx=some (.own a)/\fs.length<=1000/\dx≠a/\h.get? a=some (PySem.W.instObj C dx)/\
  ∃mA,h.Ns1 dx mA/\(∀f,zkt (fs.lookup f) (mA f))/\PySem.Within mA (fs.map (·.1))
 | .own _=>∃o,h.get? a=some o
 | .xd fs=>∃mA,h.Ns1 a mA/\∀f,zkt (fs.lookup f) (mA f)
 | .rng lo hi=>∃t u v,h.get? a=some { cls:=.type "range",data:=.fields #[.int lo t,.int hi u,.int 1 v] }
 | .frz o u=>h.get? a=some o/\zce H h a u
 | .tbl ps=>h.get? a=some { cls:=.none,data:=.fields ps }
 | .met f x=>h.get? a=some (PySem.W.methodObj (.ref f) (.ref x))
 | .ext φ=>φ h/\(∃o,h.get? a=some o)/\∀h1 h2:Heap,φ h1->(∀o,h1.get? a=some o->h2.get? a=some o)->φ h2
def HOk (H:Hp) (h:Heap):Prop:=∀a o,H a=some o->zce P w H h a o
end
section
variable {P:Program} {w:World} {H H':Hp} {h h':Heap} {a:Addr} {o:HO}
theorem zce.lt (x:zce P w H h a o):a<h.objs.size:=by
 cases o with
 | lst xs=>obtain ⟨_,_,_,_,e⟩:=x;exact ZBc e
 | tup xs=>obtain ⟨_,_,_,p⟩:=x;exact p.lt
 | dK kvs=>obtain ⟨_,_,_,_,o,_,_,e,_⟩:=x;exact ZBc e
 | dT kvs=>obtain ⟨_,_,_,_,o,_,_,e,_⟩:=x;exact ZBc e
 | set S n=>obtain ⟨o,_,_,_,e,_⟩:=x;exact ZBc e
 | ins C dx fs=>obtain ⟨_,_,_,e,_⟩:=x;exact ZBc e
 | own y=>obtain ⟨_,e⟩:=x;exact ZBc e
 | xd fs=>obtain ⟨_,⟨_,_,_,e,_⟩,_⟩:=x;exact ZBc e
 | rng lo hi=>obtain ⟨_,_,_,e⟩:=x;exact ZBc e
 | frz ob u=>obtain ⟨e,_⟩:=x;exact ZBc e
 | tbl ps=>exact ZBc (show h.get? a=some _ from x)
 | met f y=>exact ZBc (show h.get? a=some _ from x)
 | ext φ=>obtain ⟨_,⟨_,e⟩,_⟩:=x;exact ZBc e
theorem Paired.mapP {α β:Type} {F G:α->β->Prop} {l₁:List α} {l₂:List β} (h:Paired F l₁ l₂) (f:∀a b,F a b->G a b):Paired G l₁ l₂:=by
 induction h with
 | nil=>exact .nil
 | cons r t ih=>exact .cons (f _ _ r) ih
theorem zce.stay (x:zce P w H h a o) (k:∀b u,(b=a\/H b=some (.own a))->h.get? b=some u->h'.get? b=some u)
 (ho:∀b,H b=some (.own a)->H' b=some (.own a)) (ht:∀b xs,H b=some (.tup xs)->H' b=some (.tup xs)):zce P w H' h' a o:=by
 induction o with
 | lst xs=>obtain ⟨z,its,n,r,e⟩:=x;exact ⟨z,its,n,r,k _ _ (.inl rfl) e⟩
 | tup xs=>obtain ⟨z,its,r,ob,e,c⟩:=x;exact ⟨z,its,r,ob,k _ _ (.inl rfl) e,c⟩
 | dK kvs=>obtain ⟨z,y,vs,r,ob,es,ep,e,c⟩:=x;exact ⟨z,y,vs,r,ob,es,ep,k _ _ (.inl rfl) e,c⟩
 | dT kvs=>
  obtain ⟨z,y,xs,r,ob,es,ep,e,c⟩:=x
  exact ⟨z,y,xs,Paired.mapP r fun p q z=>⟨z.1,ht _ _ z.2.1,z.2.2⟩,ob,es,ep,k _ _ (.inl rfl) e,c⟩
 | set S n=>obtain ⟨ob,es,ep,t,e,c⟩:=x;exact ⟨ob,es,ep,t,k _ _ (.inl rfl) e,c⟩
 | ins C dx fs=>
  obtain ⟨d,z,ne,e,mA,⟨od,es,ep,e2,c⟩,r⟩:=x
  exact ⟨ho _ d,z,ne,k _ _ (.inl rfl) e,mA,⟨od,es,ep,k _ _ (.inr d) e2,c⟩,r⟩
 | own y=>obtain ⟨ob,e⟩:=x;exact ⟨ob,k _ _ (.inl rfl) e⟩
 | xd fs=>obtain ⟨mA,⟨od,es,ep,e,c⟩,r⟩:=x;exact ⟨mA,⟨od,es,ep,k _ _ (.inl rfl) e,c⟩,r⟩
 | rng lo hi=>obtain ⟨t,u,v,e⟩:=x;exact ⟨t,u,v,k _ _ (.inl rfl) e⟩
 | frz ob u ih=>obtain ⟨e,q⟩:=x;exact ⟨k _ _ (.inl rfl) e,ih q⟩
 | tbl ps=>
  have e:h.get? a=some { cls:=.none,data:=.fields ps }:=x
  show h'.get? a=some { cls:=.none,data:=.fields ps }
  exact k a _ (.inl rfl) e
 | met f y=>
  have e:h.get? a=some (PySem.W.methodObj (.ref f) (.ref y)):=x
  show h'.get? a=some (PySem.W.methodObj (.ref f) (.ref y))
  exact k a _ (.inl rfl) e
 | ext φ=>obtain ⟨p,⟨o,e⟩,st⟩:=x;exact ⟨st _ _ p fun o q=>k _ _ (.inl rfl) q,⟨o,k _ _ (.inl rfl) e⟩,st⟩
theorem HOk.lt (x:HOk P w H h) (e:H a=some o):a<h.objs.size:=(x a o e).lt
theorem HOk.fresh (x:HOk P w H h) (e:h.objs.size<=a):H a=none:=by
 cases q:H a with
 | none=>rfl
 | some u=>exact absurd (ZBm (x.lt q) e) (ZB2 _)
theorem HOk.kept (x:HOk P w H h) (k:∀b u,h.get? b=some u->h'.get? b=some u):HOk P w H h':=fun a o e=>
 (x a o e).stay (fun b u _ q=>k b u q) (fun _ q=>q) fun _ _ q=>q
theorem HOk.laid (x:HOk P w H h) (k:∀b u,h.get? b=some u->h'.get? b=some u) (hp:h.objs.size<=a) (new:zce P w (upd H a o) h' a o):HOk P w (upd H a o) h':=fun b u e=>by
 have hn:=x.fresh hp
 by_cases hb:b=a
 ·subst hb;rw [zaa] at e;cases e;exact new
 ·rw [zai hb] at e
  exact (x b u e).stay (fun c v _ q=>k c v q) (fun c q=>by rw [zai (zac q hn)];exact q) fun c xs q=>by rw [zai (zac q hn)];exact q
end
def Rd (H:Hp) (a:Addr) (u:HO):Prop:=H a=some u\/∃o,H a=some (.frz o u)
theorem Rd.ok {P:Program} {w:World} {H:Hp} {h:Heap} {a:Addr} {u:HO} (r:Rd H a u) (x:HOk P w H h):zce P w H h a u:=by
 rcases r with r | ⟨o,r⟩
 ·exact x a u r
 ·obtain ⟨_,q⟩:=x a _ r
  exact q
def Mut:Option HO->Prop
 | some (.lst _)=>True
 | some (.dK _)=>True
 | some (.dT _)=>True
 | some (.set _ _)=>True
 | some (.ins _ _ _)=>True
 | some (.ext _)=>True
 | _=>False
section
variable {P:Program} {w:World} {H:Hp} {h h':Heap} {x e:Addr} {o':HO}
theorem HOk.write (ok:HOk P w H h) (mu:Mut (H x)) (he:e=x\/H e=some (.own x)) (k:∀b u,b≠e->h.get? b=some u->h'.get? b=some u) (heo:∃u,h'.get? e=some u)
 (new:zce P w (upd H x o') h' x o'):HOk P w (upd H x o') h':=fun b u q=>by
 have nown:∀c y,H c=some (.own y)->c≠x:=fun c y r z=>by subst z;rw [r] at mu;exact mu
 have ntup:∀c xs,H c=some (.tup xs)->c≠x:=fun c xs r z=>by subst z;rw [r] at mu;exact mu
 by_cases hb:b=x
 ·subst hb;rw [zaa] at q;cases q;exact new
 ·rw [zai hb] at q
  by_cases hbe:b=e
  ·have q':H b=some (.own x):=by
    rcases he with z | z
    ·exact absurd (hbe.trans z) hb
    ·rw [hbe];exact z
   rw [q] at q';cases q'
   obtain ⟨v,hv⟩:=heo
   exact ⟨v,by rw [hbe];exact hv⟩
  ·refine (ok b u q).stay (fun c v hc r=>k c v ?_ r) (fun c r=>by rw [zai (nown c b r)];exact r) fun c xs r=>by rw [zai (ntup c xs r)];exact r
   rcases hc with rfl | hc
   ·exact hbe
   ·rintro rfl
    rcases he with z | z
    ·exact nown c b hc z
    ·rw [hc] at z;cases z;exact hb rfl
end
structure Un (fs ex:List Addr) (H H':Hp) (h h':Heap):Prop where
 keep:∀b o,h.get? b=some o->H b=none->b∉fs->b∉ex->h'.get? b=some o
 slot:∀b o,h.get? b=some o->H b=none->b∈fs->b∉ex->∃sl,h'.get? b=some { o with slots:=sl }
 free:∀b o,h.get? b=some o->H b=none->b∉ex->H' b=none
 there:∀b o,h.get? b=some o->b∉ex->∃o',h'.get? b=some o'
 tups:∀b xs,H b=some (.tup xs)->H' b=some (.tup xs)
 frzs:∀b o u,H b=some (.frz o u)->H' b=some (.frz o u)
 tbls:∀b ps,H b=some (.tbl ps)->∃more,H' b=some (.tbl (ps++more))
section
variable {fs fs' ex ex':List Addr} {H H1 H2:Hp} {h h1 h2 h':Heap} {a x e:Addr} {o:HO}
theorem Un.any (u:Un fs ex H H1 h h1) {b:Addr} {ob:Obj} (q:h.get? b=some ob) (n:H b=none) (hx:b∉ex):∃sl,h1.get? b=some { ob with slots:=sl }:=by
 by_cases hb:b∈fs
 ·exact u.slot b ob q n hb hx
 ·exact ⟨ob.slots,u.keep b ob q n hb hx⟩
theorem Un.kept (k:∀b u,h.get? b=some u->h'.get? b=some u):Un fs ex H H h h':=
 ⟨fun b ob q _ _ _=>k b ob q,fun b ob q _ _ _=>⟨ob.slots,k b ob q⟩,fun _ _ _ n _=>n,fun b ob q _=>⟨ob,k b ob q⟩,fun _ _ q=>q,fun _ _ _ q=>q,fun _ ps q=>⟨#[],by rw [q];simp⟩⟩
theorem Un.refl:Un fs ex H H h h:=Un.kept fun _ _ q=>q
theorem Un.laid (k:∀b u,h.get? b=some u->h'.get? b=some u) (hp:h.objs.size<=a) (hn:H a=none):Un fs ex H (upd H a o) h h' where
 keep:=fun b u q _ _ _=>k b u q
 slot:=fun b u q _ _ _=>⟨u.slots,k b u q⟩
 free:=fun b u q n _=>by rw [zai (ZBj (ZBm (ZBc q) hp))];exact n
 there:=fun b u q _=>⟨u,k b u q⟩
 tups:=fun b xs q=>by rw [zai (zac q hn)];exact q
 frzs:=fun b u xs q=>by rw [zai (zac q hn)];exact q
 tbls:=fun b ps q=>⟨#[],by rw [zai (zac q hn),q];simp⟩
theorem Un.write (mu:Mut (H x)) (he:e=x\/H e=some (.own x)) (k:∀b u,b≠e->h.get? b=some u->h'.get? b=some u) (heo:∃u,h'.get? e=some u):Un fs ex H (upd H x o) h h':=by
 have hx:∀b,H b=none->b≠x:=fun b n z=>by subst z;rw [n] at mu;exact mu
 have hb:∀b,H b=none->b≠e:=fun b n z=>by
  subst z
  rcases he with r | r
  ·exact hx b n r
  ·rw [n] at r;cases r
 have hm:∀b u,H b=some u->¬Mut (some u)->b≠x:=fun b u q nm z=>by subst z;rw [q] at mu;exact nm mu
 refine ⟨fun b u q n _ _=>k b u (hb b n) q,fun b u q n _ _=>⟨u.slots,k b u (hb b n) q⟩,fun b u q n _=>by rw [zai (hx b n)];exact n,fun b u q _=>?_,
  fun b xs q=>by rw [zai (hm b _ q fun z=>z)];exact q,fun b u xs q=>by rw [zai (hm b _ q fun z=>z)];exact q,fun b ps q=>⟨#[],by rw [zai (hm b _ q fun z=>z),q];simp⟩⟩
 by_cases hbe:b=e
 ·subst hbe;exact heo
 ·exact ⟨u,k b u hbe q⟩
end
def trk (h:Heap) (H:Hp):List Addr:=(List.range h.objs.size).filter fun a=>(H a).isSome
def zsp (h:Heap) (H:Hp):Heap:=PySem.W.hideAll h (trk h H)
theorem zqq (h:Heap) (H:Hp):(zsp h H).objs.size=h.objs.size:=PySem.W.hideAll_size _ _
theorem zso {h:Heap} {H:Hp} {b:Addr} {o:Obj} (e:h.get? b=some o) (n:H b=none):(zsp h H).get? b=some o:=
 PySem.W.hideAll_get _ e fun hm=>by
  have q:(H b).isSome=true:=(List.mem_filter.mp hm).2
  rw [n] at q;simp at q
theorem zu7 {h:Heap} {H:Hp} {b:Addr} {o:Obj} (e:(zsp h H).get? b=some o):h.get? b=some o/\H b=none:=by
 have e':h.get? b=some o:=PySem.W.of_hideAll (trk h H) e
 refine ⟨e',?_⟩
 cases q:H b with
 | none=>rfl
 | some x=>
  have hm:b∈trk h H:=List.mem_filter.mpr ⟨List.mem_range.mpr (ZBc e'),by simp [q]⟩
  have z:(zsp h H).get? b=none:=PySem.W.hideAll_none (trk h H) hm
  rw [z] at e;cases e
structure Mod (K:ZCa) (mg:Str->Option Value) (base:Heap):Prop where
 kin:K.In base
 glob:base.Ns mainGlobals mg
 blt:∃mb,base.Ns builtinsNs mb/\∀x:Str,x≠"__name__"->mb x=bootBuiltins x
 nolimit:base.NoLimit
structure Cx where
 prog:Program
 w:World
 K:ZCa
 mg:Str->Option Value
 base:Heap
 A:Around
 N:List Str
 s₀:Shared
 H₀:Hp
 env:Env
 outer:List Env
 stack:List Env
 ex:List Addr
 fn:Str->Bool
 calm:Bool
 pn:List (Addr×Obj)
 xe:Value->Shared->Prop
def frs (l:List Env):List Addr:=l.filterMap (·.frame)
abbrev Cx.fs (X:Cx):List Addr:=frs X.outer
def Vis (sc:Scope) (x:Str):Prop:=sc.names.lookup x=some .local\/sc.names.lookup x=some .cell\/sc.names.lookup x=some .free
def Loc (sc:Scope) (x:Str):Prop:=sc.names.lookup x=some .local\/sc.names.lookup x=some .cell
def zBv (env:Env) (h:Heap) (m:Str->Option Value) (x:Str) (u:Value):Prop:=
 (env.kindOf x=some .local/\m x=some u)\/((env.kindOf x=some .cell\/env.kindOf x=some .free)/\∃c,env.cells.lookup x=some c/\h.IsCell c (some u))
structure Cx.Ok (X:Cx):Prop where
 mod:Mod X.K X.mg X.base
 kind:X.env.scope.kind=.function
 glob:X.env.globals=mainGlobals
 blt:X.env.builtins=builtinsNs
 above:X.s₀.heap.objs.size<=X.env.locals
 inj:∀x y c,X.env.cells.lookup x=some c->X.env.cells.lookup y=some c->x=y
 has:∀x,(X.env.kindOf x=some .cell\/X.env.kindOf x=some .free)->∃c,X.env.cells.lookup x=some c
 cab:∀x c,X.fn x=true->X.env.cells.lookup x=some c->X.s₀.heap.objs.size<=c
 hd:X.calm=true->X.A.handled=none
 frames:X.A.frames=some X.stack
 stk:X.stack=X.outer\/(X.stack=X.env::X.outer/\X.env.frame=some X.env.locals)
 exf:∀b∈X.ex,b≠X.env.locals/\∀x c,X.env.cells.lookup x=some c->c≠b
 bs:∀b o,X.base.get? b=some o->X.s₀.heap.get? b=some o/\X.H₀ b=none
 bsz:X.base.objs.size<=X.s₀.heap.objs.size
 noex:∀b o,X.base.get? b=some o->b∉X.ex
 exfs:∀b∈X.ex,b∉X.fs
 funs:X.s₀.heap.FunFrames X.base X.outer
 frf:∀b∈X.fs,X.H₀ b=none
structure Inv (X:Cx) (pins:List (Addr×Obj)) (σ:List (Option V)) (H:Hp) (s:Shared):Prop where
 ok:X.Ok
 os:s.os=X.s₀.os
 bare:AllBare s.gens
 base:Un X.fs X.ex X.H₀ H X.s₀.heap s.heap
 loc:∃m,s.heap.Ns X.env.locals m/\∀(i:Nat) (x:Str) (v:V),X.N[i]?=some x->σ[i]?=some (some v)->Vis X.env.scope x->∃u,zck v u/\zBv X.env s.heap m x u
 cell:∀x c,X.env.cells.lookup x=some c->∃v,s.heap.IsCell c v
 free:H X.env.locals=none
 freeC:∀x c,X.env.cells.lookup x=some c->H c=none
 pin:∀p∈X.pn++pins,s.heap.get? p.1=some p.2/\H p.1=none/\p.1≠X.env.locals/\p.1∉X.fs/\∀v,p.2.data≠.cell v
 hok:HOk X.prog X.w H s.heap
 len:σ.length=X.N.length
section
variable {X:Cx} {pins:List (Addr×Obj)} {σ:List (Option V)} {H H':Hp} {s:Shared} {h':Heap}
theorem Cx.Ok.nofr (ok:X.Ok) {b:Addr} {o:Obj} (e:X.base.get? b=some o):b∉X.fs:=fun hb=>by
 have:=(ok.funs.mem hb).1
 rw [e] at this;cases this
theorem Inv.bs (I:Inv X pins σ H s):∀b o,X.base.get? b=some o->s.heap.get? b=some o/\H b=none:=fun b o e=>
 ⟨I.base.keep b o (I.ok.bs b o e).1 (I.ok.bs b o e).2 (I.ok.nofr e) (I.ok.noex b o e),I.base.free b o (I.ok.bs b o e).1 (I.ok.bs b o e).2 (I.ok.noex b o e)⟩
theorem Inv.bk (I:Inv X pins σ H s):∀b o,X.base.get? b=some o->s.heap.get? b=some o:=fun b o e=>(I.bs b o e).1
theorem Inv.mod (I:Inv X pins σ H s):Mod X.K X.mg X.base:=I.ok.mod
theorem Inv.kIn (I:Inv X pins σ H s):X.K.In s.heap:=I.ok.mod.kin.keeps I.bk
theorem Inv.lt (I:Inv X pins σ H s):X.env.locals<s.heap.objs.size:=let ⟨_,hn,_⟩:=I.loc;hn.lt
theorem Inv.sz (I:Inv X pins σ H s):X.s₀.heap.objs.size<=s.heap.objs.size:=ZBg I.ok.above (ZBb I.lt)
theorem Inv.nofs (I:Inv X pins σ H s) {a:Addr} (h:s.heap.objs.size<=a):a∉X.fs:=fun hb=>by
 obtain ⟨_,o,ho,_⟩:=I.ok.funs.mem hb
 exact absurd (ZBm (ZBc ho) (ZBg I.sz h)) (ZB2 _)
theorem Inv.cne (I:Inv X pins σ H s):∀x c,X.env.cells.lookup x=some c->c≠X.env.locals:=fun x c e z=>by
 obtain ⟨v,o,ho,hd⟩:=I.cell x c e
 obtain ⟨m,⟨o',es,ep,ho',hd',_⟩,_⟩:=I.loc
 rw [z,ho'] at ho;cases ho;rw [hd'] at hd;cases hd
theorem Inv.funs (I:Inv X pins σ H s):s.heap.FunFrames X.base X.outer:=by
 have all:∀(l:List Env),(∀b∈frs l,b∈X.fs)->X.s₀.heap.FunFrames X.base l->s.heap.FunFrames X.base l:=by
  intro l
  induction l with
  | nil=>intro _ _;trivial
  | cons env r ih=>
   intro hs hl
   obtain ⟨hk,⟨L,o,hf,hn,ho,hd⟩,hr⟩:=hl
   have hL:L∈X.fs:=hs L (by unfold frs;rw [List.filterMap_cons,hf];exact ZA5)
   obtain ⟨sl,e⟩:=I.base.slot L o ho (I.ok.frf L hL) hL fun z=>I.ok.exfs L z hL
   exact ⟨hk,⟨L,_,hf,hn,e,hd⟩,ih (fun b hb=>hs b (by unfold frs;rw [List.filterMap_cons,hf];exact ZA4 _ hb)) hr⟩
 exact all X.outer (fun _ hb=>hb) I.ok.funs
theorem Inv.stack (I:Inv X pins σ H s):s.heap.FunFrames X.base X.stack:=by
 rcases I.ok.stk with e | ⟨e,hf⟩
 ·rw [e];exact I.funs
 ·rw [e]
  obtain ⟨m,hn,_⟩:=I.loc
  refine .cons (by rw [I.ok.kind];decide) hf hn ?_ I.funs
  exact Heap.get?_none_of_le (ZBg I.ok.bsz I.ok.above)
theorem Inv.stkSub (I:Inv X pins σ H s):∀b∈frs X.stack,b∈X.env.locals::X.fs:=fun b hb=>by
 rcases I.ok.stk with e | ⟨e,hf⟩
 ·rw [e] at hb;exact ZA4 _ hb
 ·rw [e] at hb
  unfold frs at hb
  rw [List.filterMap_cons,hf] at hb
  exact hb
theorem Inv.stkFree (I:Inv X pins σ H s):∀b∈frs X.stack,H b=none:=fun b hb=>by
 rcases ZBe.mp (I.stkSub b hb) with e | hb
 ·rw [e];exact I.free
 ·obtain ⟨_,o,ho,_⟩:=I.ok.funs.mem hb
  exact I.base.free b o ho (I.ok.frf b hb) fun z=>I.ok.exfs b z hb
theorem Inv.step {g':Array GenState} {t':Nat} {d':Drawn} {ch:List Addr} (I:Inv X pins σ H s)
 (hch:∀b∈ch,(b∈X.ex\/X.s₀.heap.objs.size<=b)/\b≠X.env.locals/\(∀x c,X.env.cells.lookup x=some c->c≠b)/\∀p∈X.pn++pins,p.1≠b)
 (keep:∀b o,b≠X.env.locals->b∉X.fs->b∉ch->s.heap.get? b=some o->H b=none->h'.get? b=some o)
 (slot:∀b o,b≠X.env.locals->b∈X.fs->b∉ch->s.heap.get? b=some o->H b=none->∃sl,h'.get? b=some { o with slots:=sl }) (free:∀b o,b∉ch->s.heap.get? b=some o->H b=none->H' b=none)
 (there:∀b o,b∉ch->s.heap.get? b=some o->∃o',h'.get? b=some o')
 (tups:∀b xs,H b=some (.tup xs)->H' b=some (.tup xs)) (frzs:∀b o u,H b=some (.frz o u)->H' b=some (.frz o u)) (tbls:∀b ps,H b=some (.tbl ps)->∃more,H' b=some (.tbl (ps++more)))
 (ns:∀m,s.heap.Ns X.env.locals m->h'.Ns X.env.locals m) (hok:HOk X.prog X.w H' h') (hg:AllBare g'):
 Inv X pins σ H' { s with heap:=h',gens:=g',drawn:=d',toks:=t' }:=by
 have neL:∀b o,X.s₀.heap.get? b=some o->b≠X.env.locals:=fun b o e=>ZBj (ZBm (ZBc e) I.ok.above)
 have neC:∀b o,X.s₀.heap.get? b=some o->b∉X.ex->b∉ch:=fun b o e hx hb=>by
  rcases (hch b hb).1 with z | z
  ·exact hx z
  ·exact absurd (ZBm (ZBc e) z) (ZB2 _)
 have cellK:∀x c,X.env.cells.lookup x=some c->∀v,s.heap.IsCell c v->h'.IsCell c v:=fun x c e v ⟨o,ho,hd⟩=>by
  have nch:c∉ch:=fun z=>(hch c z).2.2.1 x c e rfl
  by_cases hc:c∈X.fs
  ·obtain ⟨sl,q⟩:=slot c o (I.cne x c e) hc nch ho (I.freeC x c e)
   exact ⟨_,q,hd⟩
  ·exact ⟨o,keep c o (I.cne x c e) hc nch ho (I.freeC x c e),hd⟩
 refine ⟨I.ok,I.os,hg,⟨fun b o e n hb hx=>?_,fun b o e n hb hx=>?_,fun b o e n hx=>?_,fun b o e hx=>?_,fun b xs e=>tups b xs (I.base.tups b xs e),fun b o xs e=>frzs b o xs (I.base.frzs b o xs e),fun b ps e=>?_⟩,?_,fun x c e=>?_,?_,fun x c e=>?_,fun p hp=>?_,hok,I.len⟩
 ·exact keep b o (neL b o e) hb (neC b o e hx) (I.base.keep b o e n hb hx) (I.base.free b o e n hx)
 ·obtain ⟨sl,e1⟩:=I.base.slot b o e n hb hx
  obtain ⟨sl',e2⟩:=slot b _ (neL b o e) hb (neC b o e hx) e1 (I.base.free b o e n hx)
  exact ⟨sl',e2⟩
 ·obtain ⟨o',e1⟩:=I.base.there b o e hx
  exact free b o' (neC b o e hx) e1 (I.base.free b o e n hx)
 ·obtain ⟨o',e1⟩:=I.base.there b o e hx
  exact there b o' (neC b o e hx) e1
 ·obtain ⟨m1,e1⟩:=I.base.tbls b ps e
  obtain ⟨m2,e2⟩:=tbls b _ e1
  exact ⟨m1++m2,by rw [e2,Array.append_assoc]⟩
 ·obtain ⟨m,hn,hl⟩:=I.loc
  refine ⟨m,ns m hn,fun i x v e1 e2 e3=>?_⟩
  obtain ⟨u,r,l⟩:=hl i x v e1 e2 e3
  refine ⟨u,r,?_⟩
  rcases l with l | ⟨k,c,e,z⟩
  ·exact .inl l
  ·exact .inr ⟨k,c,e,cellK x c e _ z⟩
 ·obtain ⟨v,z⟩:=I.cell x c e
  exact ⟨v,cellK x c e v z⟩
 ·obtain ⟨m,⟨o,_,_,ho,_⟩,_⟩:=I.loc
  exact free _ o (fun z=>(hch _ z).2.1 rfl) ho I.free
 ·obtain ⟨v,o,ho,hd⟩:=I.cell x c e
  exact free c o (fun z=>(hch c z).2.2.1 x c e rfl) ho (I.freeC x c e)
 ·obtain ⟨e,n,ne,nf,d⟩:=I.pin p hp
  have nch:p.1∉ch:=fun z=>(hch p.1 z).2.2.2 p hp rfl
  exact ⟨keep p.1 p.2 ne nf nch e n,free p.1 p.2 nch e n,ne,nf,d⟩
theorem Inv.un {t':Nat} (I:Inv X pins σ H s) (u:Un X.fs [] H H' s.heap h') (hok:HOk X.prog X.w H' h'):Inv X pins σ H' { s with heap:=h',toks:=t' }:=by
 obtain ⟨m,⟨o,es,ep,ho,r⟩,_⟩:=id I.loc
 obtain ⟨sl,hL⟩:=u.any ho I.free (by simp)
 exact I.step (g':=s.gens) (d':=s.drawn) (ch:=[]) (fun _ z=>nomatch z) (fun b o _ hb _ e n=>u.keep b o e n hb (by simp)) (fun b o _ hb _ e n=>u.slot b o e n hb (by simp)) (fun b o _ e n=>u.free b o e n (by simp)) (fun b o _ e=>u.there b o e (by simp)) u.tups u.frzs u.tbls (fun m' hm=>by
  obtain ⟨o',es',ep',ho',r'⟩:=hm
  rw [ho] at ho';cases ho'
  exact ⟨_,es',ep',hL,r'⟩) hok I.bare
theorem Inv.call {g':Array GenState} {t':Nat} {d':Drawn} {ch:List Addr} (I:Inv X pins σ H s) (u:Un (frs X.stack) ch H H' s.heap h') (hok:HOk X.prog X.w H' h') (hg:AllBare g')
 (hch:∀b∈ch,(b∈X.ex\/X.s₀.heap.objs.size<=b)/\b≠X.env.locals/\(∀x c,X.env.cells.lookup x=some c->c≠b)/\∀p∈X.pn++pins,p.1≠b):
 Inv X pins σ H' { s with heap:=h',gens:=g',drawn:=d',toks:=t' }:=by
 obtain ⟨m,⟨o,es,ep,ho,r⟩,_⟩:=id I.loc
 obtain ⟨sl,hL⟩:=u.any ho I.free fun z=>(hch _ z).2.1 rfl
 exact I.step (ch:=ch) hch (fun b o hL hb hc e n=>u.keep b o e n (fun z=>(ZBe.mp (I.stkSub b z)).elim hL hb) hc) (fun b o _ _ hc e n=>u.any e n hc) (fun b o hc e n=>u.free b o e n hc) (fun b o hc e=>u.there b o e hc) u.tups u.frzs u.tbls (fun m' hm=>by
  obtain ⟨o',es',ep',ho',r'⟩:=hm
  rw [ho] at ho';cases ho'
  exact ⟨_,es',ep',hL,r'⟩) hok hg
theorem Inv.turned {t':Nat} {it:Addr} (I:Inv X pins σ H s) (k:∀b o,b≠it->s.heap.get? b=some o->h'.get? b=some o) (hn:H it=none) (hL:it≠X.env.locals)
 (h1:it∈X.ex\/X.s₀.heap.objs.size<=it) (h2:∀x c,X.env.cells.lookup x=some c->c≠it) (h3:∀p∈X.pn++pins,p.1≠it):Inv X pins σ H { s with heap:=h',toks:=t' }:=by
 have nit:∀b u,H b=some u->b≠it:=fun b u e z=>by rw [z,hn] at e;cases e
 refine I.step (g':=s.gens) (d':=s.drawn) (ch:=[it]) (fun b hb=>?_) (fun b o _ _ hc e _=>k b o (fun z=>hc (by simp [z])) e) (fun b o _ _ hc e _=>⟨o.slots,k b o (fun z=>hc (by simp [z])) e⟩) (fun _ _ _ _ n=>n)
  (fun b o hc e=>⟨o,k b o (fun z=>hc (by simp [z])) e⟩) (fun _ _ e=>e) (fun _ _ _ e=>e) (fun b ps e=>⟨#[],by rw [e];simp⟩) (fun m hm=>?_) (fun b u e=>?_) I.bare
 ·have e:b=it:=by simpa using hb
  subst e
  exact ⟨h1,hL,h2,h3⟩
 ·obtain ⟨o,es,ep,ho,r⟩:=hm
  exact ⟨o,es,ep,k _ o (ZAl hL) ho,r⟩
 ·refine (I.hok b u e).stay (fun c v hc q=>k c v ?_ q) (fun _ q=>q) fun _ _ q=>q
  rcases hc with z | z
  ·rw [z];exact nit b u e
  ·exact nit c _ z
theorem Inv.tok (I:Inv X pins σ H s) (t:Nat):Inv X pins σ H { s with toks:=t }:=I.un (h':=s.heap) (t':=t) Un.refl I.hok
theorem Inv.kept {t':Nat} (I:Inv X pins σ H s) (k:∀b u,s.heap.get? b=some u->h'.get? b=some u):Inv X pins σ H { s with heap:=h',toks:=t' }:=I.un (Un.kept k) (I.hok.kept k)
theorem Inv.laid {a:Addr} {o:HO} {t':Nat} (I:Inv X pins σ H s) (k:∀b u,s.heap.get? b=some u->h'.get? b=some u) (hp:s.heap.objs.size<=a) (new:zce X.prog X.w (upd H a o) h' a o):
 Inv X pins σ (upd H a o) { s with heap:=h',toks:=t' }:=I.un (Un.laid k hp (I.hok.fresh hp)) (I.hok.laid k hp new)
theorem Inv.write {x e:Addr} {o:HO} {t':Nat} (I:Inv X pins σ H s) (mu:Mut (H x)) (he:e=x\/H e=some (.own x)) (k:∀b u,b≠e->s.heap.get? b=some u->h'.get? b=some u) (heo:∃u,h'.get? e=some u)
 (new:zce X.prog X.w (upd H x o) h' x o):Inv X pins σ (upd H x o) { s with heap:=h',toks:=t' }:=I.un (Un.write mu he k heo) (I.hok.write mu he k heo new)
theorem Inv.pins_of {pins':List (Addr×Obj)} (I:Inv X pins σ H s) (h:∀p∈pins',s.heap.get? p.1=some p.2/\H p.1=none/\p.1≠X.env.locals/\p.1∉X.fs/\∀v,p.2.data≠.cell v):Inv X pins' σ H s:=
 ⟨I.ok,I.os,I.bare,I.base,I.loc,I.cell,I.free,I.freeC,fun p hp=>(ZBo.mp hp).elim (fun z=>I.pin p (ZAb _ z)) (h p),I.hok,I.len⟩
theorem znh {N:List Str} (hN:N.Nodup) {i j:Nat} {x:Str} (a:N[i]?=some x) (b:N[j]?=some x):i=j:=by
 obtain ⟨h1,e1⟩:=ZAv.mp a
 obtain ⟨h2,e2⟩:=ZAv.mp b
 exact (List.getElem_inj hN).mp (e1.trans e2.symm)
theorem zk6 {M:Model} {A:Around} {E:Value->Shared->Prop} {i:Nat} {x:Str} {v:V} {u:Value} {Q:Unit->Shared->Prop} (I:Inv X pins σ H s) (hN:X.N.Nodup) (hi:X.N[i]?=some x) (hx:Loc X.env.scope x) (r:zck v u)
 (h:∀s',Inv X pins (σ.set i (some v)) H s'->(∃a,Heap.SameBut a s.heap s'.heap/\(a=X.env.locals\/X.env.cells.lookup x=some a))->Q () s') (hf:X.fn x=true\/X.env.scope.names.lookup x=some .local:=by first | exact .inl rfl | exact .inr rfl | assumption):wpAny M A (storeName X.env x u) Q E s:=by
 obtain ⟨m,hn,hl⟩:=id I.loc
 have hcls:(X.env.scope.kind==.class || (X.env.scope.kind==.module && X.env.locals !=X.env.globals))=false:=by rw [I.ok.kind];rfl
 have hiσ:i<σ.length:=by rw [I.len];exact (ZAv.mp hi).1
 have cne:=I.cne
 have tracked:∀{a:Addr} {h':Heap},(∃o,s.heap.get? a=some o/\H a=none)->Heap.SameBut a s.heap h'->HOk X.prog X.w H h':=fun {a h'} ha hs b ob e=>by
  obtain ⟨_,_,hfree⟩:=ha
  refine (I.hok b ob e).stay (fun c w' hc q=>(hs.2 c ?_).trans q) (fun _ q=>q) fun _ _ q=>q
  rintro rfl
  rcases hc with rfl | hc
  ·rw [hfree] at e;cases e
  ·rw [hfree] at hc;cases hc
 rcases hx with hk | hk
 ·refine wpAny_storeName_local hk hn (fun h' hn' hs=>?_) hcls
  obtain ⟨oL,_,_,hoL,_⟩:=id hn
  refine h _ ⟨I.ok,I.os,I.bare,⟨fun b o e n hb hx=>?_,fun b o e n hb hx=>?_,I.base.free,fun b o e hx=>?_,I.base.tups,I.base.frzs,I.base.tbls⟩,⟨_,hn',fun j y v' e1 e2 e3=>?_⟩,fun y c e=>?_,I.free,I.freeC,fun p hp=>?_,tracked ⟨oL,hoL,I.free⟩ hs,by simpa using I.len⟩ ⟨_,hs,.inl rfl⟩
  ·exact (hs.2 b (ZBj (ZBm (ZBc e) I.ok.above))).trans (I.base.keep b o e n hb hx)
  ·obtain ⟨sl,e1⟩:=I.base.slot b o e n hb hx
   exact ⟨sl,(hs.2 b (ZBj (ZBm (ZBc e) I.ok.above))).trans e1⟩
  ·obtain ⟨o',e1⟩:=I.base.there b o e hx
   exact ⟨o',(hs.2 b (ZBj (ZBm (ZBc e) I.ok.above))).trans e1⟩
  ·by_cases hj:j=i
   ·subst hj
    rw [hi] at e1;cases e1
    rw [List.getElem?_set_self hiσ] at e2
    cases e2
    exact ⟨u,r,.inl ⟨hk,by simp⟩⟩
   ·rw [List.getElem?_set_ne (ZAl hj)] at e2
    obtain ⟨u',r',q⟩:=hl j y v' e1 e2 e3
    refine ⟨u',r',?_⟩
    rcases q with ⟨k,e⟩ | ⟨k,c,e,z⟩
    ·refine .inl ⟨k,?_⟩
     have:y≠x:=fun e=>hj (znh hN e1 (e▸hi))
     simp [this,e]
    ·exact .inr ⟨k,c,e,z.sameBut hs (cne y c e)⟩
  ·obtain ⟨w',z⟩:=I.cell y c e
   exact ⟨w',z.sameBut hs (cne y c e)⟩
  ·obtain ⟨e,n,ne,nf,d⟩:=I.pin p hp
   exact ⟨(hs.2 p.1 ne).trans e,n,ne,nf,d⟩
 ·have hfn:X.fn x=true:=by
   rcases hf with z | z
   ·exact z
   ·rw [z] at hk;cases hk
  obtain ⟨c,hc⟩:=I.ok.has x (.inl hk)
  obtain ⟨w',z⟩:=I.cell x c hc
  refine wpAny_storeName_cell I.ok.kind hk hc z (fun h' hc' hs=>?_)
  obtain ⟨oc,hoc,hocd⟩:=id z
  refine h { s with heap:=h' } ⟨I.ok,I.os,I.bare,⟨fun b o e n hb hx=>?_,fun b o e n hb hx=>?_,I.base.free,fun b o e hx=>?_,I.base.tups,I.base.frzs,I.base.tbls⟩,⟨m,hn.sameBut hs (ZAl (cne x c hc)),fun j y v' e1 e2 e3=>?_⟩,fun y c' e=>?_,I.free,I.freeC,fun p hp=>?_,tracked ⟨oc,hoc,I.freeC x c hc⟩ hs,by simpa using I.len⟩ ⟨c,hs,.inr hc⟩
  ·exact (hs.2 b (ZBj (ZBm (ZBc e) (I.ok.cab x c hfn hc)))).trans (I.base.keep b o e n hb hx)
  ·obtain ⟨sl,e1⟩:=I.base.slot b o e n hb hx
   exact ⟨sl,(hs.2 b (ZBj (ZBm (ZBc e) (I.ok.cab x c hfn hc)))).trans e1⟩
  ·obtain ⟨o',e1⟩:=I.base.there b o e hx
   exact ⟨o',(hs.2 b (ZBj (ZBm (ZBc e) (I.ok.cab x c hfn hc)))).trans e1⟩
  ·by_cases hj:j=i
   ·subst hj
    rw [hi] at e1;cases e1
    rw [List.getElem?_set_self hiσ] at e2
    cases e2
    exact ⟨u,r,.inr ⟨.inl hk,c,hc,hc'⟩⟩
   ·rw [List.getElem?_set_ne (ZAl hj)] at e2
    obtain ⟨u',r',q⟩:=hl j y v' e1 e2 e3
    refine ⟨u',r',?_⟩
    rcases q with q | ⟨k,c',e,z'⟩
    ·exact .inl q
    ·refine .inr ⟨k,c',e,z'.sameBut hs ?_⟩
     rintro rfl
     exact hj (znh hN e1 (I.ok.inj _ _ _ e hc▸hi))
  ·by_cases hcc:c'=c
   ·subst hcc;exact ⟨_,hc'⟩
   ·obtain ⟨w2,z2⟩:=I.cell y c' e
    exact ⟨w2,z2.sameBut hs hcc⟩
  ·obtain ⟨e,n,ne,nf,d⟩:=I.pin p hp
   refine ⟨(hs.2 p.1 ?_).trans e,n,ne,nf,d⟩
   intro q
   rw [q,hoc] at e
   have q':oc=p.2:=ZA7 e
   exact d w' (by rw [<-q'];exact hocd)
theorem zjs {M:Model} {A:Around} {E:Value->Shared->Prop} {i:Nat} {x:Str} {v:V} {u:Value} {Q:Unit->Shared->Prop} (I:Inv X pins σ H s) (hN:X.N.Nodup) (hi:X.N[i]?=some x) (hx:Loc X.env.scope x) (r:zck v u)
 (h:∀s',Inv X pins (σ.set i (some v)) H s'->Q () s') (hf:X.fn x=true\/X.env.scope.names.lookup x=some .local:=by first | exact .inl rfl | exact .inr rfl | assumption):wpAny M A (storeName X.env x u) Q E s:=
 zk6 I hN hi hx r (fun s' I' _=>h s' I') hf
theorem Inv.call' {s':Shared} {ch:List Addr} (I:Inv X pins σ H s) (ho:s'.os=s.os) (u:Un (frs X.stack) ch H H' s.heap s'.heap) (hok:HOk X.prog X.w H' s'.heap) (hg:AllBare s'.gens)
 (hch:∀b∈ch,(b∈X.ex\/X.s₀.heap.objs.size<=b)/\b≠X.env.locals/\(∀x c,X.env.cells.lookup x=some c->c≠b)/\∀p∈X.pn++pins,p.1≠b):Inv X pins σ H' s':=by
 obtain ⟨h',g',d',t',o'⟩:=s'
 have e:o'=s.os:=ho
 subst e
 exact I.call (g':=g') (t':=t') (d':=d') u hok hg hch
end
abbrev XK:=Value->Option Addr->Hp->Prop
abbrev St:=List (Option V)
abbrev VK:=V->Hp->Prop
abbrev TE:=St->Hp->VK->Prop
abbrev TT:=St->Hp->(Bool->Hp->Prop)->Prop
abbrev TA:=St->Hp->(List V->Hp->Prop)->Prop
structure zs9 where
 nx:St->Hp->Prop
 rt:VK
 bk:St->Hp->Prop:=fun _ _=>False
 ct:St->Hp->Prop:=fun _ _=>False
abbrev TS:=zs9->St->Hp->Prop
theorem el5 {α β:Type} {p q r:α->β->Prop} {P:Prop} (h:∃a b,p a b/\q a b/\r a b) (k:∀a b,p a b->q a b->r a b->P):P:=by
 obtain ⟨a,b,x,y,z⟩:=h
 exact k a b x y z
theorem el3 {α:Type} {p q:α->Prop} {P:Prop} (h:∃a,p a/\q a) (k:∀a,p a->q a->P):P:=by
 obtain ⟨a,x,y⟩:=h
 exact k a x y
def EP (X:Cx) (pins:List (Addr×Obj)) (σ:St) (Q:VK) (u:Value) (s':Shared):Prop:=∃v H',Inv X pins σ H' s'/\zck v u/\Q v H'
def TP (X:Cx) (pins:List (Addr×Obj)) (σ:St) (Q:Bool->Hp->Prop) (b:Bool) (s':Shared):Prop:=∃H',Inv X pins σ H' s'/\Q b H'
def AP (X:Cx) (pins:List (Addr×Obj)) (σ:St) (Q:List V->Hp->Prop) (us:List Value) (s':Shared):Prop:=∃vs H',Inv X pins σ H' s'/\zb3 vs us/\Q vs H'
def SP (X:Cx) (pins:List (Addr×Obj)) (D:zs9) (f:Flow) (s':Shared):Prop:=
 match f with
 | .next=>∃σ' H',Inv X pins σ' H' s'/\D.nx σ' H'
 | .brk=>∃σ' H',Inv X pins σ' H' s'/\D.bk σ' H'
 | .cont=>∃σ' H',Inv X pins σ' H' s'/\D.ct σ' H'
 | .ret u=>∃v σ' H',Inv X pins σ' H' s'/\zck v u/\D.rt v H'
def PE (X:Cx) (e:Expr) (t:TE):Prop:=
 ∀(pins:List (Addr×Obj)) (s:Shared) (σ:St) (H:Hp) (Q:VK),Inv X pins σ H s->t σ H Q->wpAny (model X.prog X.w) X.A (eval e X.env) (EP X pins σ Q) X.xe s
def PT (X:Cx) (e:Expr) (t:TT):Prop:=
 ∀(pins:List (Addr×Obj)) (s:Shared) (σ:St) (H:Hp) (Q:Bool->Hp->Prop),Inv X pins σ H s->t σ H Q->wpAny (model X.prog X.w) X.A (isTrue e X.env (eval e X.env)) (TP X pins σ Q) X.xe s
def PW (X:Cx) (e:Expr) (t:TT):Prop:=
 ∀(whole:Sem Value) (pins:List (Addr×Obj)) (s:Shared) (σ:St) (H:Hp) (Q:Bool->Hp->Prop),Inv X pins σ H s->t σ H Q->wpAny (model X.prog X.w) X.A (isTrue e X.env whole) (TP X pins σ Q) X.xe s
theorem PW.pt {X:Cx} {e:Expr} {t:TT} (h:PW X e t):PT X e t:=h _
def PA (X:Cx) (es:List Expr) (t:TA):Prop:=
 ∀(pos:Pos) (pins:List (Addr×Obj)) (s:Shared) (σ:St) (H:Hp) (Q:List V->Hp->Prop),Inv X pins σ H s->t σ H Q->wpAny (model X.prog X.w) X.A (spliced (backTo pos (starEach es X.env))) (AP X pins σ Q) X.xe s
def PS (X:Cx) (st:Stmt) (t:TS):Prop:=
 ∀(pins:List (Addr×Obj)) (s:Shared) (σ:St) (H:Hp) (D:zs9),Inv X pins σ H s->t D σ H->wpAny (model X.prog X.w) X.A (exec st X.env) (SP X pins D) X.xe s
def PSs (X:Cx) (st:List Stmt) (t:TS):Prop:=
 ∀(pins:List (Addr×Obj)) (s:Shared) (σ:St) (H:Hp) (D:zs9),Inv X pins σ H s->t D σ H->wpAny (model X.prog X.w) X.A (execs st X.env) (SP X pins D) X.xe s
theorem thn {α:Type} {t:Sem α} {Q Q':α->Shared->Prop} {M:Model} {A:Around} {E:Value->Shared->Prop} {s:Shared} (h:wpAny M A t Q E s) (hQ:∀a s,Q a s->Q' a s):wpAny M A t Q' E s:=wpAny_mono h hQ fun _ _ x=>x
section
variable {X:Cx}
def zui (i:Nat):TE:=fun σ H Q=>∃v,σ[i]?=some (some v)/\Q v H
def tC (v:V):TE:=fun _ H Q=>Q v H
theorem zwt {i:Nat} {x:Str} {pos:Pos} (hN:X.N[i]?=some x) (hv:Vis X.env.scope x) (hd:(x==("__debug__":Str))=false:=by decide) (hcd:(x==("__classdict__":Str))=false:=by decide):PE X (.Name x pos) (zui i):=by
 intro pins s σ H Q I h
 obtain ⟨v,e,h⟩:=h
 obtain ⟨m,hn,hl⟩:=I.loc
 obtain ⟨u,r,l⟩:=hl i x v hN e hv
 have fin:EP X pins σ Q u s:=⟨v,H,I,r,h⟩
 rcases l with ⟨hk,hm⟩ | ⟨hk,c,hc,hcell⟩
 ·exact wpAny_Name (wpAny_loadName_local I.ok.kind hk hn hm fin) hd
 ·rcases hk with hk | hk
  ·exact wpAny_Name (wpAny_loadName_cell I.ok.kind hk hc hcell fin) hd
  ·exact wpAny_Name (wpAny_loadName_free I.ok.kind hk hc hcell fin hcd) hd
theorem zae {i j pos}:PE X (.Constant (.int i) j pos) (tC (.int i)):=fun _ _ _ H _ I h=>wpAny_Constant_int ⟨.int i,H,I.tok _,⟨_,rfl⟩,h⟩
theorem zj8 {b j pos}:PE X (.Constant (.bool b) j pos) (tC (.bl b)):=fun _ _ _ H _ I h=>Constant_bool ⟨.bl b,H,I,rfl,h⟩
theorem zeh {j pos}:PE X (.Constant .none j pos) (tC .non):=fun _ _ _ H _ I h=>Constant_none ⟨.non,H,I,rfl,h⟩
theorem zam {x j pos}:PE X (.Constant (.str x) j pos) (tC (.str x)):=fun _ _ _ H _ I h=>Calls.Constant_str ⟨.str x,H,I.tok _,⟨_,rfl⟩,h⟩
def Gl (X:Cx) (x:Str):Prop:=X.env.kindOf x=some .globalImplicit
theorem zmg {E:Value->Shared->Prop} {pins:List (Addr×Obj)} {s:Shared} {σ:St} {H:Hp} {x:Str} {u:Value} {pos:Pos} {Q:Value->Shared->Prop} (I:Inv X pins σ H s) (hg:Gl X x) (hm:X.mg x=some u) (h:Q u s)
 (hd:(x==("__debug__":Str))=false:=by decide):wpAny (model X.prog X.w) X.A (eval (.Name x pos) X.env) Q E s:=
 Calls.Name_function_global I.ok.kind hg (Calls.loadGlobal_global (by rw [I.ok.glob];exact I.mod.glob.keeps I.bk) hm h) hd
theorem zha {E:Value->Shared->Prop} {pins:List (Addr×Obj)} {s:Shared} {σ:St} {H:Hp} {x:Str} {u:Value} {pos:Pos} {Q:Value->Shared->Prop} (I:Inv X pins σ H s) (hg:Gl X x) (hm:X.mg x=none) (hv:bootBuiltins x=some u) (h:Q u s)
 (hn:x≠"__name__":=by decide) (hd:(x==("__debug__":Str))=false:=by decide):wpAny (model X.prog X.w) X.A (eval (.Name x pos) X.env) Q E s:=by
 obtain ⟨mb,h1,h2⟩:=I.mod.blt
 exact Calls.Name_function_global I.ok.kind hg (Calls.loadGlobal_builtin (by rw [I.ok.glob];exact I.mod.glob.keeps I.bk) hm (by rw [I.ok.blt];exact h1.keeps I.bk) ((h2 x hn).trans hv) h) hd
theorem zgx {x:Str} {v:V} {u:Value} {pos:Pos} (hg:Gl X x) (hm:X.mg x=some u) (r:zck v u) (hd:(x==("__debug__":Str))=false:=by decide):PE X (.Name x pos) (tC v):=
 fun _ _ _ H _ I h=>zmg I hg hm ⟨v,H,I,r,h⟩ hd
theorem zu4 {x:Str} {v:V} {u:Value} {pos:Pos} (hg:Gl X x) (hm:X.mg x=none) (hv:bootBuiltins x=some u) (r:zck v u) (hn:x≠"__name__":=by decide) (hd:(x==("__debug__":Str))=false:=by decide):PE X (.Name x pos) (tC v):=
 fun _ _ _ H _ I h=>zha I hg hm hv ⟨v,H,I,r,h⟩ hn hd
variable {a b:Expr} {ta tb:TE} {pos:Pos}
def PC (X:Cx) (op:CmpOp) (a b:Expr) (t:TE):Prop:=
 ∀(pins:List (Addr×Obj)) (s:Shared) (σ:St) (H:Hp) (Q:VK),Inv X pins σ H s->t σ H Q->
  wpAny (model X.prog X.w) X.A (eval a X.env) (fun v s₁=>wpAny (model X.prog X.w) X.A (eval b X.env) (fun u s₂=>wpAny (model X.prog X.w) X.A (compareOp op v u) (EP X pins σ Q) X.xe s₂) X.xe s₁) X.xe s
def tB (t:TE):TT:=fun σ H Q=>t σ H fun x H1=>∃c,x=.bl c/\Q c H1
theorem zh7 {op:CmpOp} {t:TE} (h:PC X op a b t) (h1:behindInMarks op b=false:=by first | exact nobehind _ (by decide) (by decide) | rfl):PT X (.Compare a [op] [b] pos) (tB t):=by
 intro pins s σ H Q I hw
 refine wpAny_isTrue_Compare1 (thn (h pins s σ H _ I hw) fun v s1 h1=>thn h1 fun u s2 h2=>thn h2 fun c s3 zz=>?_) h1
 obtain ⟨x,H1,I1,r1,q1⟩:=zz
 obtain ⟨d,rfl,q⟩:=q1
 cases r1
 exact wpAny_truthy_bool ⟨H1,I1,q⟩
theorem zh6 {e:Expr} {t:TE} (h:PE X e t) (he:∀whole,isTrue e X.env whole=(do let v <-whole;standAt e.pos;holding [v] (truthy v)):=by intro _;rfl):PT X e (tB t):=by
 intro pins s σ H Q I hw
 refine isTrue_plain (thn (h pins s σ H _ I hw) fun v s1 zz=>?_) (he _)
 obtain ⟨x,H1,I1,r1,q1⟩:=zz
 obtain ⟨d,rfl,q⟩:=q1
 cases r1
 exact wpAny_truthy_bool ⟨H1,I1,q⟩
variable {tA tB':TT} {rest:List Expr}
def zAf (t u:TT):TT:=fun σ H Q=>t σ H fun c H1=>if c=true then u σ H1 Q else Q false H1
def tOr (t u:TT):TT:=fun σ H Q=>t σ H fun c H1=>if c=true then Q true H1 else u σ H1 Q
def zz9 (t:TT):TT:=fun σ H Q=>t σ H fun c H1=>Q (!c) H1
theorem zdg (ha:PT X a tA):PW X (.BoolOp .And [a] pos) tA:=by
 intro wh pins s σ H Q I h
 refine isTrue_and (thn (ha pins s σ H Q I h) fun c s1 e=>?_)
 cases c with
 | true=>exact isTrue_and_nil e
 | false=>exact e
theorem zf1 (ha:PT X a tA):PW X (.BoolOp .Or [a] pos) tA:=by
 intro wh pins s σ H Q I h
 refine isTrue_or (thn (ha pins s σ H Q I h) fun c s1 e=>?_)
 cases c with
 | false=>exact isTrue_or_nil e
 | true=>exact e
theorem zcf (ha:PT X a tA) (hb:PW X (.BoolOp .And (b::rest) pos) tB'):PW X (.BoolOp .And (a::b::rest) pos) (zAf tA tB'):=by
 intro wh pins s σ H Q I h
 refine isTrue_and (thn (ha pins s σ H _ I h) fun c s1 zz=>?_)
 obtain ⟨H1,I1,q1⟩:=zz
 cases c with
 | true=>exact hb wh pins s1 σ H1 Q I1 q1
 | false=>exact ⟨H1,I1,q1⟩
theorem zhd (ha:PT X a tA) (hb:PW X (.BoolOp .Or (b::rest) pos) tB'):PW X (.BoolOp .Or (a::b::rest) pos) (tOr tA tB'):=by
 intro wh pins s σ H Q I h
 refine isTrue_or (thn (ha pins s σ H _ I h) fun c s1 zz=>?_)
 obtain ⟨H1,I1,q1⟩:=zz
 cases c with
 | true=>exact ⟨H1,I1,q1⟩
 | false=>exact hb wh pins s1 σ H1 Q I1 q1
theorem zge (ha:PT X a tA):PT X (.UnaryOp .Not a pos) (zz9 tA):=by
 intro pins s σ H Q I h
 exact isTrue_not (ha pins s σ H (fun c H1=>Q (!c) H1) I h)
def zx7 (ta tb:TE):TE:=fun σ H Q=>ta σ H fun x H1=>∃c,x=.bl c/\if c=true then tb σ H1 Q else Q (.bl false) H1
theorem zjd {op} {t:TE} (h:PE X a t):PE X (.BoolOp op [a] pos) t:=fun pins s σ H Q I hw=>BoolOp_one (h pins s σ H Q I hw)
theorem zfd (ha:PE X a ta) (hb:PE X (.BoolOp .And (b::rest) pos) tb):PE X (.BoolOp .And (a::b::rest) pos) (zx7 ta tb):=by
 intro pins s σ H Q I h
 refine BoolOp_and (thn (ha pins s σ H _ I h) fun v s1 zz=>?_)
 obtain ⟨x,H1,I1,r1,q1⟩:=zz
 obtain ⟨c,rfl,q1⟩:=q1
 cases r1
 refine wpAny_truthy_bool ?_
 cases c with
 | true=>exact hb pins s1 σ H1 Q I1 q1
 | false=>exact ⟨.bl false,H1,I1,rfl,q1⟩
def tIf (t:TT) (ta tb:TE):TE:=fun σ H Q=>t σ H fun c H1=>if c=true then ta σ H1 Q else tb σ H1 Q
theorem zsb {c:Expr} (hc:PT X c tA) (ha:PE X a ta) (hb:PE X b tb):PE X (.IfExp c a b pos) (tIf tA ta tb):=by
 intro pins s σ H Q I h
 refine wpAny_IfExp (thn (hc pins s σ H _ I h) fun d s1 zz=>?_)
 obtain ⟨H1,I1,q1⟩:=zz
 cases d with
 | true=>exact ha pins s1 σ H1 Q I1 q1
 | false=>exact hb pins s1 σ H1 Q I1 q1
end
def SqL (K:ZCa) (H:Hp) (a:Addr) (xs:List V):Prop:=
 Rd H a (.lst xs)\/
  ∃(o:Obj) (its:Array Value) (n:Nat),K.lookup a=some o/\o.cls=.type "list"/\o.dict=none/\o.data=.seq its n/\its.size<=sizeLine/\zb3 xs its.toList
def SqT (K:ZCa) (H:Hp) (a:Addr) (xs:List V):Prop:=
 Rd H a (.tup xs)\/
  ∃(o:Obj) (its:Array Value) (n:Nat),K.lookup a=some o/\o.cls=.type "tuple"/\o.data=.seq its n/\its.size<=sizeLine/\zb3 xs its.toList
def zBt:Value->Option V
 | .none=>some .non
 | .bool b=>some (.bl b)
 | .int i _=>some (.int i)
 | .str x _=>some (.str x)
 | .bytes b _=>some (.byt b)
 | .float b _=>some (.flt b)
 | .ref a=>some (.ref a)
 | .type n=>some (.ty n)
 | _=>none
theorem zck.abs {x:V} {u:Value} (r:zck x u):zBt u=some x:=by
 cases x with
 | non=>cases r;rfl
 | bl _=>cases r;rfl
 | int _=>obtain ⟨t,rfl⟩:=r;rfl
 | str _=>obtain ⟨t,rfl⟩:=r;rfl
 | byt _=>obtain ⟨t,rfl⟩:=r;rfl
 | flt _=>obtain ⟨t,rfl⟩:=r;rfl
 | ref _=>cases r;rfl
 | ty _=>cases r;rfl
theorem zck.inj {x y:V} {u:Value} (r:zck x u) (q:zck y u):x=y:=ZA7 (r.abs.symm.trans q.abs)
theorem zb3.inj {xs ys:List V} {us:List Value} (h:zb3 xs us) (h':zb3 ys us):xs=ys:=by
 induction h generalizing ys with
 | nil=>cases h';rfl
 | cons r t ih=>
  cases h' with
  | cons r' t'=>rw [r.inj r',ih t']
section
variable {X:Cx} {pins:List (Addr×Obj)} {σ:St} {H:Hp} {s:Shared} {a:Addr} {xs ys:List V}
theorem SqL.of {K:ZCa} (h:H a=some (.lst xs)):SqL K H a xs:=.inl (.inl h)
theorem SqT.of {K:ZCa} (h:H a=some (.tup xs)):SqT K H a xs:=.inl (.inl h)
theorem Inv.list (I:Inv X pins σ H s) (h:SqL X.K H a xs):∃its:List Value,zb3 xs its/\PlainL s.heap a its.toArray/\xs.length<=sizeLine:=by
 rcases h with h | ⟨o,its,n,hk,hc,hd,hs,hz,r⟩
 ·obtain ⟨z,its,n,r,e⟩:=h.ok I.hok
  exact ⟨its,r,⟨_,n,e,rfl,rfl,rfl⟩,z⟩
 ·refine ⟨its.toList,r,⟨o,n,I.kIn a o hk,hc,hd,by simpa using hs⟩,?_⟩
  have e:=r.length
  simp only [ZAj] at e
  omega
theorem Inv.tuple (I:Inv X pins σ H s) (h:SqT X.K H a xs):∃its:List Value,zb3 xs its/\IsTup s.heap a its.toArray/\xs.length<=sizeLine:=by
 rcases h with h | ⟨o,its,n,hk,hc,hs,hz,r⟩
 ·obtain ⟨z,its,r,p⟩:=h.ok I.hok
  exact ⟨its,r,p,z⟩
 ·refine ⟨its.toList,r,⟨o,I.kIn a o hk,hc,n,by simpa using hs⟩,?_⟩
  have e:=r.length
  simp only [ZAj] at e
  omega
theorem Inv.list_inj (I:Inv X pins σ H s) (h:SqL X.K H a xs) (h':SqL X.K H a ys):xs=ys:=by
 obtain ⟨its,r,⟨o,n,e,_,_,d⟩,_⟩:=I.list h
 obtain ⟨its',r',⟨o',n',e',_,_,d'⟩,_⟩:=I.list h'
 rw [e] at e';cases e'
 rw [d] at d'
 injection d' with d1 _
 have:its=its':=by simpa using congrArg Array.toList d1
 subst this
 exact r.inj r'
theorem Inv.tuple_inj (I:Inv X pins σ H s) (h:SqT X.K H a xs) (h':SqT X.K H a ys):xs=ys:=by
 obtain ⟨its,r,⟨o,e,_,n,d⟩,_⟩:=I.tuple h
 obtain ⟨its',r',⟨o',e',_,n',d'⟩,_⟩:=I.tuple h'
 rw [e] at e';cases e'
 rw [d] at d'
 injection d' with d1 _
 have:its=its':=by simpa using congrArg Array.toList d1
 subst this
 exact r.inj r'
end
abbrev Cx.wish (X:Cx) (E:Value->Shared->Prop):Cx:={ X with xe:=E }
abbrev Cx.nox (X:Cx):Cx:=X.wish fun _ _=>False
theorem Cx.Ok.wish {X:Cx} (ok:X.Ok) (E:Value->Shared->Prop):(X.wish E).Ok:=
 ⟨ok.mod,ok.kind,ok.glob,ok.blt,ok.above,ok.inj,ok.has,ok.cab,ok.hd,ok.frames,ok.stk,ok.exf,ok.bs,ok.bsz,ok.noex,ok.exfs,ok.funs,ok.frf⟩
theorem Cx.Ok.unwish {X:Cx} {E:Value->Shared->Prop} (ok:(X.wish E).Ok):X.Ok:=
 ⟨ok.mod,ok.kind,ok.glob,ok.blt,ok.above,ok.inj,ok.has,ok.cab,ok.hd,ok.frames,ok.stk,ok.exf,ok.bs,ok.bsz,ok.noex,ok.exfs,ok.funs,ok.frf⟩
section
variable {X:Cx} {pins:List (Addr×Obj)} {σ:St} {H:Hp} {s:Shared} {E:Value->Shared->Prop}
theorem Inv.wish (I:Inv X pins σ H s) (E:Value->Shared->Prop):Inv (X.wish E) pins σ H s:=⟨I.ok.wish E,I.os,I.bare,I.base,I.loc,I.cell,I.free,I.freeC,I.pin,I.hok,I.len⟩
theorem Inv.unwish (I:Inv (X.wish E) pins σ H s):Inv X pins σ H s:=⟨I.ok.unwish,I.os,I.bare,I.base,I.loc,I.cell,I.free,I.freeC,I.pin,I.hok,I.len⟩
theorem SP.unwish {D:zs9} {f:Flow} {s':Shared} (h:SP (X.wish E) pins D f s'):SP X pins D f s':=by
 cases f with
 | next=>obtain ⟨σ',H',I,q⟩:=h;exact ⟨σ',H',I.unwish,q⟩
 | brk=>obtain ⟨σ',H',I,q⟩:=h;exact ⟨σ',H',I.unwish,q⟩
 | cont=>obtain ⟨σ',H',I,q⟩:=h;exact ⟨σ',H',I.unwish,q⟩
 | ret u=>obtain ⟨v,σ',H',I,r,q⟩:=h;exact ⟨v,σ',H',I.unwish,r,q⟩
theorem PSs.nox {st:List Stmt} {t:TS} (h:PSs X.nox st t):PSs X st t:=fun pins s σ H D I hw=>
 wpAny_mono (h pins s σ H D (I.wish _) hw) (fun _ _ q=>q.unwish) fun _ _ z=>False.elim z
end
section
variable {X:Cx} {st:Stmt} {rest:List Stmt} {t u:TS} {e:Expr} {te:TE} {pos:Pos}
def zx2:TS:=fun D σ H=>D.nx σ H
def zz7 (t u:TS):TS:=fun D σ H=>t { D with nx:=u D } σ H
theorem zap:PSs X [] zx2:=fun _ _ σ H _ I h=>wpAny_execs_nil ⟨σ,H,I,h⟩
theorem zah (h1:PS X st t) (h2:PSs X rest u):PSs X (st::rest) (zz7 t u):=by
 intro pins s σ H D I h
 refine wpAny_execs_cons (thn (h1 pins s σ H { D with nx:=u D } I h) fun f s1 q=>?_)
 cases f with
 | next=>
  obtain ⟨σ',H',I',q⟩:=q
  exact h2 pins s1 σ' H' D I' q
 | ret v=>exact q
 | brk=>exact q
 | cont=>exact q
theorem zad (h1:PS X st t):PSs X [st] t:=by
 intro pins s σ H D I h
 refine wpAny_execs_cons (thn (h1 pins s σ H D I h) fun f s1 q=>?_)
 cases f with
 | next=>exact wpAny_execs_nil q
 | ret v=>exact q
 | brk=>exact q
 | cont=>exact q
theorem Inv.quiet {pins:List (Addr×Obj)} {σ:St} {H:Hp} {s:Shared} (I:Inv X pins σ H s):interactive X.env=false:=by simp [interactive,I.ok.kind]
def zx4 (te:TE):TS:=fun D σ H=>te σ H fun _ H1=>D.nx σ H1
theorem zbj (he:PE X e te) (hs:swapsWith e none pos.line X.env=pure false:=by rfl):PS X (.Expr e pos) (zx4 te):=by
 intro pins s σ H D I h
 exact wpAny_Expr_any (thn (he pins s σ H _ I h) fun v s1 zz=>L2.el5 zz fun x H1 I1 r1 q1=>⟨σ,H1,I1,q1⟩) I.quiet hs
def zz8 (te:TE):TS:=fun D σ H=>te σ H D.rt
theorem zaq (he:PE X e te):PS X (.Return (some e) pos) (zz8 te):=by
 intro pins s σ H D I h
 exact wpAny_Return_some (thn (he pins s σ H _ I h) fun v s1 zz=>L2.el5 zz fun x H1 I1 r1 q1=>⟨x,σ,H1,I1,r1,q1⟩)
def zAb (c:TT) (t u:TS):TS:=fun D σ H=>c σ H fun b H1=>if b=true then t D σ H1 else u D σ H1
theorem zbe {c:Expr} {a b:List Stmt} {tc:TT} (hc:PT X c tc) (ha:PSs X a t) (hb:PSs X b u):PS X (.If c a b pos) (zAb tc t u):=by
 intro pins s σ H D I h
 refine wpAny_If (thn (hc pins s σ H _ I h) fun d s1 zz=>?_)
 obtain ⟨H1,I1,q1⟩:=zz
 cases d with
 | true=>exact ha pins s1 σ H1 D I1 q1
 | false=>exact hb pins s1 σ H1 D I1 q1
def zv7:TS:=fun _ _ _=>False
theorem zd1 {sts:List Stmt}:PSs X sts zv7:=fun _ _ _ _ _ _ h=>h.elim
end
abbrev TG:=V->St->Hp->(St->Hp->Prop)->Prop
abbrev TGs:=List V->St->Hp->(St->Hp->Prop)->Prop
def PG (X:Cx) (target:Expr) (t:TG):Prop:=
 ∀(pins:List (Addr×Obj)) (s:Shared) (σ:St) (H:Hp) (v:V) (u:Value) (Q:St->Hp->Prop),Inv X pins σ H s->zck v u->t v σ H Q->
  wpAny (model X.prog X.w) X.A (assign target X.env u) (fun _ s'=>∃σ' H',Inv X pins σ' H' s'/\Q σ' H') X.xe s
def PGs (X:Cx) (ts:List Expr) (t:TGs):Prop:=
 ∀(pins:List (Addr×Obj)) (s:Shared) (σ:St) (H:Hp) (vs:List V) (us:List Value) (Q:St->Hp->Prop),Inv X pins σ H s->zb3 vs us->t vs σ H Q->
  wpAny (model X.prog X.w) X.A (assignInOrder ((assignEach ts X.env).map (·.2)) us) (fun _ s'=>∃σ' H',Inv X pins σ' H' s'/\Q σ' H') X.xe s
abbrev zzm:=V->V->V->Hp->(Hp->Prop)->Prop
def zz5 (X:Cx) (t:zzm):Prop:=
 ∀(pins:List (Addr×Obj)) (s:Shared) (σ:St) (H:Hp) (o i v:V) (ov iv u:Value) (Q:Hp->Prop),Inv X pins σ H s->zck o ov->zck i iv->zck v u->t o i v H Q->
  wpAny (model X.prog X.w) X.A (setItem ov iv u) (fun _ s'=>∃H',Inv X pins σ H' s'/\Q H') X.xe s
abbrev TIp:=V->V->Hp->VK->Prop
def PIp (X:Cx) (op:Operator) (t:TIp):Prop:=
 ∀(pins:List (Addr×Obj)) (s:Shared) (σ:St) (H:Hp) (x y:V) (v u:Value) (Q:VK),Inv X pins σ H s->zck x v->zck y u->t x y H Q->
  wpAny (model X.prog X.w) X.A (inplaceOp op v u) (EP X pins σ Q) X.xe s
section
variable {X:Cx} {pos:Pos}
def zmj (i:Nat):TG:=fun v σ H Q=>Q (σ.set i (some v)) H
theorem zpx {i:Nat} {x:Str} (hN:X.N.Nodup) (hi:X.N[i]?=some x) (hx:Loc X.env.scope x) (hf:X.fn x=true\/X.env.scope.names.lookup x=some .local:=by first | exact .inl rfl | exact .inr rfl | assumption):PG X (.Name x pos) (zmj i):=by
 intro pins s σ H v u Q I r h
 exact wpAny_assign_Name (zjs I hN hi hx r (fun s' I'=>⟨_,H,I',h⟩) hf)
def zBh:TGs:=fun vs σ H Q=>vs=[]/\Q σ H
def zy1 (t:TG) (u:TGs):TGs:=fun vs σ H Q=>∃v r,vs=v::r/\t v σ H fun σ' H'=>u r σ' H' Q
theorem zfb:PGs X [] zBh:=by
 intro pins s σ H vs us Q I r h
 obtain ⟨e,h⟩:=h
 subst e
 cases r
 exact assignInOrder_nil ⟨σ,H,I,h⟩
theorem za0 {e:Expr} {es:List Expr} {t:TG} {u:TGs} (h1:PG X e t) (h2:PGs X es u)
 (hs:(assignEach (e::es) X.env).map (·.2)=assign e X.env::(assignEach es X.env).map (·.2):=by rfl):PGs X (e::es) (zy1 t u):=by
 intro pins s σ H vs us Q I r h
 obtain ⟨v,vr,e1,h⟩:=h
 subst e1
 cases r with
 | cons r rr=>
  rw [hs]
  refine assignInOrder_cons (thn (h1 pins s σ H _ _ _ I r h) fun _ s1 zz=>?_)
  obtain ⟨σ1,H1,I1,q1⟩:=zz
  exact h2 pins s1 σ1 H1 _ _ Q I1 rr q1
def zy0 (K:ZCa) (n:Nat) (t:TGs):TG:=fun v σ H Q=>∃a xs,v=.ref a/\SqT K H a xs/\xs.length=n/\t xs σ H Q
theorem zjc {es:List Expr} {k:Nat} {t:TGs} {n:Nat} (hc:X.calm=true) (h:PGs X es t)
 (hn:(assignEach es X.env).length=n:=by rfl) (hst:(assignEach es X.env).findIdx? (·.1)=none:=by rfl):PG X (.Tuple es k pos) (zy0 X.K n t):=by
 intro pins s σ H v u Q I r hw
 obtain ⟨a,xs,e1,hq,hl,hw⟩:=hw
 subst e1
 cases r
 obtain ⟨its,rv,ht,hz⟩:=I.tuple hq
 refine assign_Tuple_tuple (I.ok.hd hc) ht (by simp [hn,<-hl,rv.length]) hst fun h' hx=>?_
 have I1:Inv X pins σ H { s with heap:=h' }:=I.kept (t':=s.toks) fun b o e=>hx b o (ZBj (ZBc e)) e
 exact h pins _ σ H xs _ Q I1 (by simpa using rv) hw
def zBg (to ti:TE) (t:zzm):TG:=fun v σ H Q=>to σ H fun o H1=>ti σ H1 fun i H2=>t o i v H2 fun H3=>Q σ H3
theorem zws {o i:Expr} {to ti:TE} {t:zzm} (ho:PE X o to) (hi:PE X i ti) (hs:zz5 X t)
 (ha:∀v,assign (.Subscript o i pos) X.env v=(do
  let ov <-holding [v] (eval o X.env)
  let iv <-holding [v,ov] (eval i X.env)
  standAt pos
  holding [v,ov,iv] (setItem ov iv v)
  release [v,ov,iv] []):=by intro _;rfl):PG X (.Subscript o i pos) (zBg to ti t):=by
 intro pins s σ H v u Q I r h
 rw [ha]
 refine ZAp (wpAny_holding (thn (ho pins s σ H _ I h) fun ov s1 zz=>?_))
 obtain ⟨x,H1,I1,r1,q1⟩:=zz
 refine ZAp (wpAny_holding (thn (hi pins s1 σ H1 _ I1 q1) fun iv s2 zz=>?_))
 obtain ⟨y,H2,I2,r2,q2⟩:=zz
 refine ZAp (wpAny_standAt (ZAp (wpAny_holding (thn (hs pins s2 σ H2 x y v ov iv u _ I2 r1 r2 r q2) fun _ s3 zz=>?_))))
 obtain ⟨H3,I3,q3⟩:=zz
 exact wpAny_release ⟨σ,H3,I3,q3⟩
def zwc (te:TE) (g:TG):TS:=fun D σ H=>te σ H fun x H1=>g x σ H1 D.nx
theorem zps {tg e:Expr} {te:TE} {g:TG} (he:PE X e te) (hg:PG X tg g) (hs:swapsWithSole [tg] e pos.line X.env=pure false:=by rfl) (hw:swappedStores [tg] e X.env=pure none:=by rfl)
 (h1:(assignEach [tg] X.env).map (·.2)=[assign tg X.env]:=by rfl):PS X (.Assign [tg] e pos) (zwc te g):=by
 intro pins s σ H D I h
 refine wpAny_Assign_stores (thn (he pins s σ H _ I h) fun v s1 zz=>?_) hs hw
 obtain ⟨x,H1,I1,r1,q1⟩:=zz
 rw [h1]
 exact thn (hg pins s1 σ H1 x v _ I1 r1 q1) fun _ s2 q=>q
theorem zg7 {i:Nat} {x:Str} {e:Expr} {te:TE} {pos':Pos} (hN:X.N.Nodup) (hi:X.N[i]?=some x) (hx:Loc X.env.scope x) (he:PE X e te) (hs:swapsWith e (some (.Name x pos')) pos.line X.env=pure false:=by rfl) (hf:X.fn x=true\/X.env.scope.names.lookup x=some .local:=by first | exact .inl rfl | exact .inr rfl | assumption):
 PS X (.Assign [.Name x pos'] e pos) (zwc te (zmj i)):=by
 intro pins s σ H D I h
 refine wpAny_Assign_Name (thn (he pins s σ H _ I h) fun v s1 zz=>?_) hs
 obtain ⟨y,H1,I1,r1,q1⟩:=zz
 exact zjs I1 hN hi hx r1 (fun s2 I2=>⟨_,H1,I2,q1⟩) hf
def zAe (i:Nat) (te:TE) (ti:TIp):TS:=fun D σ H=>∃x,σ[i]?=some (some x)/\te σ H fun y H1=>ti x y H1 fun z H2=>D.nx (σ.set i (some z)) H2
theorem zpr {i:Nat} {x:Str} {e:Expr} {te:TE} {op:Operator} {ti:TIp} {pos':Pos} (hN:X.N.Nodup) (hi:X.N[i]?=some x) (hx:Loc X.env.scope x) (he:PE X e te) (ho:PIp X op ti) (hf:X.fn x=true\/X.env.scope.names.lookup x=some .local:=by first | exact .inl rfl | exact .inr rfl | assumption):
 PS X (.AugAssign (.Name x pos') op e pos) (zAe i te ti):=by
 intro pins s σ H D I h
 obtain ⟨v,e1,h⟩:=h
 obtain ⟨m,hn,hl⟩:=I.loc
 have vis:Vis X.env.scope x:=by rcases hx with k | k;exact .inl k;exact .inr (.inl k)
 obtain ⟨u,r,l⟩:=hl i x v hi e1 vis
 refine wpAny_AugAssign_Name ?_
 have go:wpAny (model X.prog X.w) X.A (eval e X.env) (fun w s₂=>wpAny (model X.prog X.w) X.A (inplaceOp op u w) (fun r s₃=>wpAny (model X.prog X.w) X.A (storeName X.env x r) (fun _=>SP X pins D .next) X.xe s₃) X.xe s₂) X.xe s:=by
  refine thn (he pins s σ H _ I h) fun w s1 zz=>?_
  obtain ⟨y,H1,I1,r1,q1⟩:=zz
  refine thn (ho pins s1 σ H1 v y u w _ I1 r r1 q1) fun z s2 zz=>?_
  obtain ⟨zv,H2,I2,r2,q2⟩:=zz
  exact zjs I2 hN hi hx r2 (fun s3 I3=>⟨_,H2,I3,q2⟩) hf
 rcases l with ⟨hk,hm⟩ | ⟨hk,c,hc,hcell⟩
 ·exact wpAny_loadName_local I.ok.kind hk hn hm go
 ·rcases hk with hk | hk
  ·exact wpAny_loadName_cell I.ok.kind hk hc hcell go
  ·rcases hx with k | k
   ·have:X.env.scope.names.lookup x=some .free:=hk
    rw [k] at this;cases this
   ·have:X.env.scope.names.lookup x=some .free:=hk
    rw [k] at this;cases this
def ipI (f:Int->Int->Int):TIp:=fun x y H Q=>∃i j,x=.int i/\y=.int j/\Q (.int (f i j)) H
theorem zqm:PIp X .Add (ipI fun i j=>i+j):=by
 intro pins s σ H x y v u Q I r1 r2 h
 obtain ⟨i,j,e1,e2,q⟩:=h
 subst e1;subst e2
 obtain ⟨t,rfl⟩:=r1
 obtain ⟨t',rfl⟩:=r2
 exact iadd_int ⟨.int _,H,I.tok _,⟨_,rfl⟩,q⟩
end
section
variable {X:Cx} {pos:Pos}
def zv6 (c:TT) (tb:TS):TS:=fun D σ H=>∃W:Nat->St->Hp->Prop,(∃m,W m σ H)/\∀m σ H,W m σ H->
 c σ H fun b H1=>if b=true then ∃N:St->Hp->Prop,(∀σ' H',N σ' H'->∃m',m'<m/\W m' σ' H')/\tb { D with nx:=N,ct:=N,bk:=D.nx } σ H1 else D.nx σ H1
theorem zr8 {c:Expr} {body:List Stmt} {tc:TT} {tb:TS} (hp:PassesOwn (model X.prog X.w) X.A X.env X.xe) (hc:PT X c tc) (hb:PSs X body tb):PS X (.While c body [] pos) (zv6 tc tb):=by
 intro pins s σ H D I h
 obtain ⟨W,⟨m0,w0⟩,turn⟩:=h
 refine wpAny_While (codeAny_whileLoop (fun n s'=>∃σ' H',Inv X pins σ' H' s'/\W n σ' H') ?_ m0 ⟨σ,H,I,w0⟩)
 rintro n s1 ⟨σ1,H1,I1,w1⟩
 refine wpAny_passesOwn hp (thn (hc pins s1 σ1 H1 _ I1 (turn n σ1 H1 w1)) fun b s2 zz=>?_)
 obtain ⟨H2,I2,q2⟩:=zz
 cases b with
 | true=>
  obtain ⟨N,hN,q2⟩:=q2
  rw [if_pos rfl]
  refine wpAny_passesOwn hp (thn (hb pins s2 σ1 H2 _ I2 q2) fun f s3 q3=>?_)
  cases f with
  | next=>
   obtain ⟨σ3,H3,I3,n3⟩:=q3
   obtain ⟨m',hm,w3⟩:=hN σ3 H3 n3
   exact ⟨m',hm,σ3,H3,I3,w3⟩
  | cont=>
   obtain ⟨σ3,H3,I3,n3⟩:=q3
   obtain ⟨m',hm,w3⟩:=hN σ3 H3 n3
   exact ⟨m',hm,σ3,H3,I3,w3⟩
  | brk=>exact q3
  | ret v=>exact q3
 | false=>
  rw [if_neg ZA6]
  exact wpAny_execs_nil ⟨σ1,H2,I2,q2⟩
end
structure It where
 go:Nat->Hp->Prop
 yld:Nat->Hp->V->Hp->Prop
 stop:Nat->Hp->Prop
def zrl (X:Cx) (pins:List (Addr×Obj)) (H:Hp) (b:Addr):Prop:=
 H b=none/\b≠X.env.locals/\b∉X.fs/\(b∈X.ex\/X.s₀.heap.objs.size<=b)/\(∀x c,X.env.cells.lookup x=some c->c≠b)/\∀p∈X.pn++pins,p.1≠b
theorem Inv.fpOk {X:Cx} {pins:List (Addr×Obj)} {σ:St} {H H':Hp} {s:Shared} {b:Addr} (I:Inv X pins σ H s) (hb:s.heap.objs.size<=b) (hn:H' b=none):zrl X pins H' b:=by
 refine ⟨hn,Nat.ne_of_gt (ZBm I.lt hb),I.nofs hb,.inr (ZBg I.sz hb),fun x c e z=>?_,fun p hp z=>?_⟩
 ·obtain ⟨v,q⟩:=I.cell x c e
  exact absurd (ZBm q.lt (by rw [z];exact hb)) (ZB2 _)
 ·exact absurd (ZBm (ZBc (I.pin p hp).1) (by rw [z];exact hb)) (ZB2 _)
def zxi (X:Cx):Prop:=X.A.handled=none\/∃(a C:Addr) (dx:Option Addr) (t tb:Value) (u:HO),X.A.handled=some (.ref a)/\X.H₀ a=some (.frz (zlr C dx t tb) u)
def zf8 (X:Cx):Prop:=X.calm=true\/zxi X
theorem zoe {X:Cx} {pins:List (Addr×Obj)} {σ:St} {H:Hp} {s:Shared} (q:zf8 X) (I:Inv X pins σ H s):Hd X.A s.heap:=by
 rcases q with q | q | ⟨a,C,dx,t,tb,u,q,e⟩
 ·exact .inl (I.ok.hd q)
 ·exact .inl q
 ·exact .inr ⟨a,C,dx,t,tb,q,(I.hok a _ (I.base.frzs a _ _ e)).1⟩
theorem zf8.in_ {X:Cx} {pins:List (Addr×Obj)} {σ:St} {H:Hp} {s:Shared} (q:zf8 X) (I:Inv X pins σ H s) {Y:Cx} (h1:Y.calm=X.calm) (h2:Y.A.handled=X.A.handled) (h3:∀a o u,H a=some (.frz o u)->Y.H₀ a=some (.frz o u)):zf8 Y:=by
 rcases q with q | q | ⟨a,C,dx,t,tb,u,q,e⟩
 ·exact .inl (h1.trans q)
 ·exact .inr (.inl (h2.trans q))
 ·exact .inr (.inr ⟨a,C,dx,t,tb,u,h2.trans q,h3 _ _ _ (I.base.frzs a _ _ e)⟩)
structure zvo (P:Program) (w:World) (K:ZCa) (tg:Expr) (J:It) (fp:List Addr) (it:Addr) (tn:Nat->Heap->Prop):Prop where
 mem:it∈fp
 obj:∀i h,tn i h->∀b∈fp,∃o,h.get? b=some o/\∀v,o.data≠.cell v
 keep:∀i h h',tn i h->(∀b∈fp,∀o,h.get? b=some o->h'.get? b=some o)->tn i h'
 item:∀(X:Cx),X.prog=P->X.w=w->X.K=K->zf8 X->∀(i:Nat) (pins:List (Addr×Obj)) (s:Shared) (σ:St) (H:Hp) (E:Value->Shared->Prop),Inv X pins σ H s->(∀b∈fp,zrl X pins H b)->tn i s.heap->J.go i H->
  wpAny (model P w) X.A (pyNext (.ref it)) (fun r s1=>∃u,r=some u/\
   wpAny (model P w) X.A (letOwnedTupleGo tg (.ref it) u) (fun _ s2=>∃x H',Inv X pins σ H' s2/\zck x u/\J.yld i H x H'/\tn (i+1) s2.heap/\∀b∈fp,H' b=none) E s1) E s
 done:∀(X:Cx),X.prog=P->X.w=w->X.K=K->zf8 X->∀(i:Nat) (pins:List (Addr×Obj)) (s:Shared) (σ:St) (H:Hp) (E:Value->Shared->Prop),Inv X pins σ H s->(∀b∈fp,zrl X pins H b)->tn i s.heap->J.stop i H->
  wpAny (model P w) X.A (pyNext (.ref it)) (fun r s1=>r=none/\Inv X pins σ H s1) E s
 self:∀(A:Around) (i:Nat) (s:Shared) (Q:Value->Shared->Prop) (E:Value->Shared->Prop),tn i s.heap->Q (.ref it) s->wpAny (model P w) A (pyIter (.ref it)) Q E s
abbrev TI:=St->Hp->(It->Hp->Prop)->Prop
def PIE (X:Cx) (pins:List (Addr×Obj)) (σ:St) (tg:Expr) (R:It->Hp->Prop) (itv:Value) (s2:Shared):Prop:=
 ∃(it:Addr) (fp:List Addr) (tn:Nat->Heap->Prop) (J:It) (H':Hp),itv=.ref it/\Inv X pins σ H' s2/\zvo X.prog X.w X.K tg J fp it tn/\tn 0 s2.heap/\(∀b∈fp,zrl X pins H' b)/\R J H'
def PI (X:Cx) (tg iter:Expr) (wi:TI):Prop:=
 ∀(pins:List (Addr×Obj)) (s:Shared) (σ:St) (H:Hp) (R:It->Hp->Prop),Inv X pins σ H s->wi σ H R->
  wpAny (model X.prog X.w) X.A (eval iter X.env) (fun v s1=>wpAny (model X.prog X.w) X.A (pyIter v) (PIE X pins σ tg R) X.xe s1) X.xe s
theorem zsq {M:Model} {A:Around} {E:Value->Shared->Prop} {s:Shared} {tg:Expr} {it:Addr} {u:Value} {o:Obj} {n:String} {vs:Array Value} {Q:Unit->Shared->Prop} (ho:s.heap.get? it=some o) (hc:o.cls=.type n) (hd:o.data=.fields vs)
 (hn:["enumerate","zip","dict_itemiterator","dict_reverseitemiterator","odict_iterator","itertools.zip_longest","itertools.pairwise"].contains n=false) (hQ:Q () s):wpAny M A (letOwnedTupleGo tg (.ref it) u) Q E s:=by
 unfold letOwnedTupleGo
 cases tg<;>first
  | exact ZAq hQ
  | (cases u<;>first
   | exact ZAq hQ
   | (refine ZAp (wpAny_load ho ?_)
      rw [hc,hd]
      show wpAny M A (if (["enumerate","zip","dict_itemiterator","dict_reverseitemiterator","odict_iterator","itertools.zip_longest","itertools.pairwise"].contains n && vs[0]?==some (rawInt _))=true then _ else _) Q E s
      rw [if_neg (by intro h;rw [hn,Bool.false_and] at h;cases h)]
      exact ZAq hQ))
def Itl (K:ZCa) (a:Addr):It:=
 ⟨fun i H=>∃xs x,SqL K H a xs/\xs[i]?=some x,fun i H x H'=>H'=H/\∀xs,SqL K H a xs->xs[i]?=some x,fun i H=>∃xs,SqL K H a xs/\xs.length<=i⟩
def Itt (K:ZCa) (a:Addr):It:=
 ⟨fun i H=>∃xs x,SqT K H a xs/\xs[i]?=some x,fun i H x H'=>H'=H/\∀xs,SqT K H a xs->xs[i]?=some x,fun i H=>∃xs,SqT K H a xs/\xs.length<=i⟩
def Itr (lo:Int) (n:Nat):It:=⟨fun i _=>i<n,fun i H x H'=>H'=H/\x=.int (lo+i),fun i _=>n<=i⟩
theorem zov {P:Program} {w:World} {K:ZCa} {tg:Expr} (a it:Addr):zvo P w K tg (Itl K a) [it] it (fun i h=>h.IsListIter it a i) where
 mem:=by simp
 obj:=fun i h st b hb=>by
  have e:b=it:=by simpa using hb
  subst e
  obtain ⟨o,e,c,d⟩:=st
  exact ⟨o,e,fun v z=>by rw [d] at z;cases z⟩
 keep:=fun i h h' st k=>st.at fun o e=>k it (by simp) o e
 item:=by
  intro X hP hw hK hc i pins s σ H E I hf st hg
  subst hP hw hK
  obtain ⟨xs,x,hq,hx⟩:=hg
  obtain ⟨its,rv,p,hz⟩:=I.list hq
  obtain ⟨u,hu,ru⟩:=rv.get hx
  obtain ⟨f0,f1,f2,f3,f4,f5⟩:=hf it (by simp)
  refine wpAny_pyNext_list_item st p.isList (x:=u) (by simpa using hu) fun h' st' sb=>?_
  have I1:Inv X pins σ H { s with heap:=h' }:=I.turned (t':=s.toks) (fun b o hb e=>(sb.2 b hb).trans e) f0 f1 f3 f4 f5
  obtain ⟨o,e,c,d⟩:=id st'
  exact ⟨u,rfl,zsq (s:={ s with heap:=h' }) e c d (by decide) ⟨x,H,I1,ru,⟨rfl,fun ys hy=>by rw [I.list_inj hy hq];exact hx⟩,st',fun b hb=>(hf b hb).1⟩⟩
 done:=by
  intro X hP hw hK hc i pins s σ H E I hf st hg
  subst hP hw hK
  obtain ⟨xs,hq,hx⟩:=hg
  obtain ⟨its,rv,p,hz⟩:=I.list hq
  obtain ⟨f0,f1,f2,f3,f4,f5⟩:=hf it (by simp)
  have hl:=rv.length
  exact zme (zoe hc I) st p.isList (by simp;omega) fun h' eb=>⟨rfl,I.turned (t':=s.toks) (fun b o hb e=>eb b o hb e) f0 f1 f3 f4 f5⟩
 self:=fun _ _ _ _ _ st h=>wpAny_pyIter_listiter st h
theorem zn3 {P:Program} {w:World} {K:ZCa} {tg:Expr} (a it:Addr):zvo P w K tg (Itt K a) [it] it (fun i h=>h.IsTupleIter it a i) where
 mem:=by simp
 obj:=fun i h st b hb=>by
  have e:b=it:=by simpa using hb
  subst e
  obtain ⟨o,e,c,d⟩:=st
  exact ⟨o,e,fun v z=>by rw [d] at z;cases z⟩
 keep:=fun i h h' st k=>st.at fun o e=>k it (by simp) o e
 item:=by
  intro X hP hw hK hc i pins s σ H E I hf st hg
  subst hP hw hK
  obtain ⟨xs,x,hq,hx⟩:=hg
  obtain ⟨its,rv,p,hz⟩:=I.tuple hq
  obtain ⟨u,hu,ru⟩:=rv.get hx
  obtain ⟨f0,f1,f2,f3,f4,f5⟩:=hf it (by simp)
  refine wpAny_pyNext_tuple_item st (show s.heap.IsTuple a its.toArray from p) (x:=u) (by simpa using hu) fun h' st' sb=>?_
  have I1:Inv X pins σ H { s with heap:=h' }:=I.turned (t':=s.toks) (fun b o hb e=>(sb.2 b hb).trans e) f0 f1 f3 f4 f5
  obtain ⟨o,e,c,d⟩:=id st'
  exact ⟨u,rfl,zsq (s:={ s with heap:=h' }) e c d (by decide) ⟨x,H,I1,ru,⟨rfl,fun ys hy=>by rw [I.tuple_inj hy hq];exact hx⟩,st',fun b hb=>(hf b hb).1⟩⟩
 done:=by
  intro X hP hw hK hc i pins s σ H E I hf st hg
  subst hP hw hK
  obtain ⟨xs,hq,hx⟩:=hg
  obtain ⟨its,rv,p,hz⟩:=I.tuple hq
  obtain ⟨f0,f1,f2,f3,f4,f5⟩:=hf it (by simp)
  have hl:=rv.length
  exact ziz (zoe hc I) st p (by simp;omega) fun h' eb=>⟨rfl,I.turned (t':=s.toks) (fun b o hb e=>eb b o hb e) f0 f1 f3 f4 f5⟩
 self:=fun _ _ _ _ _ st h=>wpAny_pyIter_tupleiter st h
theorem zn4 {P:Program} {w:World} {K:ZCa} {tg:Expr} (it:Addr) (lo:Int) (n:Nat):zvo P w K tg (Itr lo n) [it] it (fun i h=>IsRangeIter h it (lo+(i:Nat)*1) ((n:Int)-(i:Nat)) 1) where
 mem:=by simp
 obj:=fun i h st b hb=>by
  have e:b=it:=by simpa using hb
  subst e
  exact ⟨_,st,fun v z=>by
   have z':Data.fields _=Data.cell v:=z
   cases z'⟩
 keep:=fun i h h' st k=>k it (by simp) _ st
 item:=by
  intro X hP hw hK hc i pins s σ H E I hf st hg
  subst hP hw hK
  obtain ⟨f0,f1,f2,f3,f4,f5⟩:=hf it (by simp)
  refine zj1 hg st fun t h' tk st' kk=>?_
  have I1:Inv X pins σ H { s with heap:=h',toks:=tk }:=I.turned (fun b o hb e=>kk b o (by simpa using hb) e) f0 f1 f3 f4 f5
  refine ⟨_,rfl,zsq (s:={ s with heap:=h',toks:=tk }) (n:="range_iterator") st' rfl rfl (by decide) ⟨.int (lo+i),H,I1,⟨t,?_⟩,⟨rfl,rfl⟩,st',fun b hb=>(hf b hb).1⟩⟩
  rw [Int.mul_one]
 done:=by
  intro X hP hw hK hc i pins s σ H E I hf st hg
  subst hP hw hK
  obtain ⟨f0,f1,f2,f3,f4,f5⟩:=hf it (by simp)
  exact zg6 (zoe hc I) st (by have:n<=i:=hg;omega) fun h' eb=>⟨rfl,I.turned (t':=s.toks) (fun b o hb e=>eb b o hb e) f0 f1 f3 f4 f5⟩
 self:=fun _ _ _ _ _ st h=>wpAny_pyIter_rangeiter st h
section
variable {X:Cx} {tg:Expr}
def zyy (K:ZCa) (tl:TE):TI:=fun σ H R=>tl σ H fun x H1=>∃a,x=.ref a/\(∃xs,SqL K H1 a xs)/\R (Itl K a) H1
def zBf (K:ZCa) (tl:TE):TI:=fun σ H R=>tl σ H fun x H1=>∃a,x=.ref a/\(∃xs,SqT K H1 a xs)/\R (Itt K a) H1
theorem zbt {l:Expr} {tl:TE} (hl:PE X l tl):PI X tg l (zyy X.K tl):=by
 intro pins s σ H R I h
 refine thn (hl pins s σ H _ I h) fun v s1 zz=>?_
 obtain ⟨x,H1,I1,r1,q1⟩:=zz
 obtain ⟨a,e,⟨xs,hq⟩,q⟩:=q1
 subst e
 cases r1
 obtain ⟨its,rv,p,hz⟩:=I1.list hq
 refine wpAny_pyIter_list p.isList ?_
 refine ⟨s1.heap.objs.size,[s1.heap.objs.size],_,_,H1,rfl,I1.kept (t':=s1.toks) fun b o e=>ZAy _ e,zov a _,⟨_,ZBh _ rfl,rfl,rfl⟩,fun b hb=>?_,q⟩
 have e:b=s1.heap.objs.size:=by simpa using hb
 subst e
 exact I1.fpOk (ZAw _) (I1.hok.fresh (ZAw _))
theorem zg8 {l:Expr} {tl:TE} (hl:PE X l tl):PI X tg l (zBf X.K tl):=by
 intro pins s σ H R I h
 refine thn (hl pins s σ H _ I h) fun v s1 zz=>?_
 obtain ⟨x,H1,I1,r1,q1⟩:=zz
 obtain ⟨a,e,⟨xs,hq⟩,q⟩:=q1
 subst e
 cases r1
 obtain ⟨its,rv,p,hz⟩:=I1.tuple hq
 refine wpAny_pyIter_tuple (show s1.heap.IsTuple a its.toArray from p) ?_
 refine ⟨s1.heap.objs.size,[s1.heap.objs.size],_,_,H1,rfl,I1.kept (t':=s1.toks) fun b o e=>ZAy _ e,zn3 a _,⟨_,ZBh _ rfl,rfl,rfl⟩,fun b hb=>?_,q⟩
 have e:b=s1.heap.objs.size:=by simpa using hb
 subst e
 exact I1.fpOk (ZAw _) (I1.hok.fresh (ZAw _))
theorem znd {pins:List (Addr×Obj)} {σ:St} {H:Hp} {s:Shared} {R:It->Hp->Prop} {E:Value->Shared->Prop} {lo hi:Int} {t u v:Tok} {tk:Nat} (I:Inv X pins σ H s) (h1: -(2 ^ 62)<=lo) (h2:lo<2 ^ 62) (h3: -(2 ^ 62)<=hi) (h4:hi<2 ^ 62)
 (q:R (Itr lo (hi-lo).toNat) H):wpAny (model X.prog X.w) X.A (pyIter (.ref s.heap.objs.size)) (PIE X pins σ tg R) E { s with heap:=s.heap.push { cls:=.type "range",data:=.fields #[.int lo t,.int hi u,.int 1 v] },toks:=tk }:=by
 refine wpAny_pyIter_range (IsRange.new ..) (small_one h1 h2 h3 h4) ?_
 have I1:Inv X pins σ H { s with heap:=s.heap.push { cls:=.type "range",data:=.fields #[.int lo t,.int hi u,.int 1 v] },toks:=tk }:=I.kept fun b o e=>ZAy _ e
 refine ⟨(s.heap.push { cls:=.type "range",data:=.fields #[.int lo t,.int hi u,.int 1 v] }).objs.size,[(s.heap.push { cls:=.type "range",data:=.fields #[.int lo t,.int hi u,.int 1 v] }).objs.size],_,_,H,rfl,
  I1.kept (t':=tk) fun b o e=>ZAy _ e,zn4 _ lo (hi-lo).toNat,?_,fun b hb=>?_,q⟩
 ·have e1:lo+((0:Nat):Int)*1=lo:=by simp
  have e2:(((hi-lo).toNat:Nat):Int)-((0:Nat):Int)=Builtin.Range.rangeSize lo hi 1:=by rw [rangeSize_one];split<;>omega
  show IsRangeIter _ _ (lo+((0:Nat):Int)*1) ((((hi-lo).toNat:Nat):Int)-((0:Nat):Int)) 1
  rw [e1,e2]
  exact ZBh _ rfl
 ·have e:b=(s.heap.push { cls:=.type "range",data:=.fields #[.int lo t,.int hi u,.int 1 v] }).objs.size:=by simpa using hb
  subst e
  exact I1.fpOk (ZAw _) (I1.hok.fresh (ZAw _))
def zyx (ta:TA):TI:=fun σ H R=>ta σ H fun vs H1=>∃j:Int,vs=[.int j]/\-(2 ^ 62)<=j/\j<2 ^ 62/\R (Itr 0 j.toNat) H1
def zyw (ta:TA):TI:=fun σ H R=>ta σ H fun vs H1=>∃i j:Int,vs=[.int i,.int j]/\(-(2 ^ 62)<=i/\i<2 ^ 62/\-(2 ^ 62)<=j/\j<2 ^ 62)/\R (Itr i (j-i).toNat) H1
theorem zcv {a:Expr} {ta:TA} {p pos:Pos} (hg:Gl X "range") (hm:X.mg "range"=none) (ha:PA X [a] ta) (hs:starEach [a] X.env=[(false,eval a X.env)]:=by rfl):PI X tg (.Call (.Name "range" p) [a] [] pos) (zyx ta):=by
 intro pins s σ H R I h
 refine Call_ (zha I hg hm boot_range (PyProof.Rows.callWith_type1 (thn (ha pos pins s σ H _ I h) fun us s1 zz=>?_) hs rfl))
 obtain ⟨vs,H1,I1,r1,q1⟩:=zz
 obtain ⟨j,e,q1,q2,q⟩:=q1
 subst e
 cases r1 with
 | cons r rr=>
  cases rr
  obtain ⟨t,rfl⟩:=r
  exact call_range_1 (znd I1 (by omega) (by omega) q1 q2 (by simpa using q))
theorem zlf {a b:Expr} {ta:TA} {p pos:Pos} (hg:Gl X "range") (hm:X.mg "range"=none) (ha:PA X [a,b] ta) (hs:starEach [a,b] X.env=[(false,eval a X.env),(false,eval b X.env)]:=by rfl) (hs2:starEach [b] X.env=[(false,eval b X.env)]:=by rfl):
 PI X tg (.Call (.Name "range" p) [a,b] [] pos) (zyw ta):=by
 intro pins s σ H R I h
 refine Call_ (zha I hg hm boot_range (PyProof.Rows.callWith_type1 (thn (ha pos pins s σ H _ I h) fun us s1 zz=>?_) (by rw [hs,hs2]) (by rw [hs2];rfl)))
 obtain ⟨vs,H1,I1,r1,q1⟩:=zz
 obtain ⟨i,j,e,⟨q1,q2,q3,q4⟩,q⟩:=q1
 subst e
 cases r1 with
 | cons r rr=>
  cases rr with
  | cons r' rr=>
   cases rr
   obtain ⟨t,rfl⟩:=r
   obtain ⟨t',rfl⟩:=r'
   exact call_range_2 (znd I1 q1 q2 q3 q4 q)
def zzo (wi:TI) (g:TG) (tb:TS):TS:=fun D σ H=>wi σ H fun J H1=>∃W:Nat->Nat->St->Hp->Prop,(∃m,W 0 m σ H1)/\∀i m σ H,W i m σ H->
 (J.stop i H/\D.nx σ H)\/(J.go i H/\∃N:St->Hp->Prop,(∀σ' H',N σ' H'->∃m',m'<m/\W (i+1) m' σ' H')/\∀x H',J.yld i H x H'->g x σ H' fun σ2 H2=>tb { D with nx:=N,ct:=N,bk:=D.nx } σ2 H2)
def zle (fp:List Addr) (h:Heap):List (Addr×Obj):=fp.filterMap fun b=>(h.get? b).map fun o=>(b,o)
theorem zft {fp:List Addr} {h:Heap} {b:Addr} {o:Obj} (hb:b∈fp) (e:h.get? b=some o):(b,o)∈zle fp h:=List.mem_filterMap.mpr ⟨b,hb,by rw [e];rfl⟩
theorem zp9 {fp:List Addr} {h:Heap} {p:Addr×Obj} (hp:p∈zle fp h):p.1∈fp/\h.get? p.1=some p.2:=by
 obtain ⟨b,hb,e⟩:=List.mem_filterMap.mp hp
 cases q:h.get? b with
 | none=>rw [q] at e;cases e
 | some o=>
  rw [q] at e
  have e':(b,o)=p:=ZA7 e
  subst e'
  exact ⟨hb,q⟩
theorem Inv.pinned {pins:List (Addr×Obj)} {σ:St} {H:Hp} {s:Shared} {fp:List Addr} (I:Inv X pins σ H s) (hf:∀b∈fp,zrl X pins H b) (ho:∀b∈fp,∃o,s.heap.get? b=some o/\∀v,o.data≠.cell v):Inv X (pins++zle fp s.heap) σ H s:=
 I.pins_of fun p hp=>(ZBo.mp hp).elim (fun z=>I.pin p (ZBn _ z)) fun z=>by
  obtain ⟨hb,e⟩:=zp9 z
  obtain ⟨f0,f1,f2,_⟩:=hf p.1 hb
  obtain ⟨o,e',d⟩:=ho p.1 hb
  rw [e] at e';cases e'
  exact ⟨e,f0,f1,f2,d⟩
theorem Inv.unpinned {pins pl:List (Addr×Obj)} {σ:St} {H:Hp} {s:Shared} (I:Inv X (pins++pl) σ H s):Inv X pins σ H s:=I.pins_of fun p hp=>I.pin p (ZBn _ (ZAb _ hp))
theorem zl8 {iter:Expr} {body:List Stmt} {wi:TI} {g:TG} {tb:TS} {pos:Pos} (hp:PassesOwn (model X.prog X.w) X.A X.env X.xe) (hc:zf8 X) (hi:PI X tg iter wi) (hg:PG X tg g) (hb:PSs X body tb)
 (hs:∀x,foldedSetIterable iter X.env x=pure x:=by intro _;rfl):PS X (.For tg iter body [] pos) (zzo wi g tb):=by
 intro pins s σ H D I h
 refine wpAny_For (thn (hi pins s σ H _ I h) fun v s1 h1=>thn h1 fun itv s2 h2=>?_) hs
 obtain ⟨it,fp,tn,J,H2,e,I2,T,st2,f2,W,⟨m0,w0⟩,turn⟩:=h2
 subst e
 have stat:∀{H':Hp},(∀b∈fp,H' b=none)->∀b∈fp,zrl X pins H' b:=fun hn b hb=>⟨hn b hb,(f2 b hb).2⟩
 refine codeAny_forLoop_any (fun n s'=>∃i σ' H',Inv X pins σ' H' s'/\tn i s'.heap/\(∀b∈fp,H' b=none)/\W i n σ' H') ?_ m0 ⟨0,σ,H2,I2,st2,fun b hb=>(f2 b hb).1,w0⟩
 rintro n s3 ⟨i,σ3,H3,I3,st3,fr3,w3⟩
 rcases turn i n σ3 H3 w3 with ⟨stop,qn⟩ | ⟨go,N,hN,step⟩
 ·refine wpAny_passesOwn hp (thn (T.done X rfl rfl rfl hc i pins s3 σ3 H3 X.xe I3 (stat fr3) st3 stop) fun r s4 ⟨hr,I4⟩=>?_)
  subst hr
  exact wpAny_execs_nil ⟨σ3,H3,I4,qn⟩
 ·refine wpAny_passesOwn hp (thn (T.item X rfl rfl rfl hc i pins s3 σ3 H3 X.xe I3 (stat fr3) st3 go) fun r s4 zz=>L2.el3 zz fun u hr h4=>?_)
  subst hr
  refine wpAny_passesOwn hp (thn h4 fun _ s5 zz=>?_)
  obtain ⟨x,H5,I5,r5,y5,st5,fr5⟩:=zz
  have I5':=I5.pinned (stat fr5) (T.obj _ _ st5)
  refine wpAny_passesOwn hp (thn (hg _ s5 σ3 H5 x u _ I5' r5 (step x H5 y5)) fun _ s6 zz=>?_)
  obtain ⟨σ6,H6,I6,q6⟩:=zz
  refine wpAny_passesOwn hp (thn (hb _ s6 σ6 H6 _ I6 q6) fun f s7 q7=>?_)
  have again:∀{σ7:St} {H7:Hp},Inv X (pins++zle fp s5.heap) σ7 H7 s7->N σ7 H7->∃m,m<n/\∃i σ' H',Inv X pins σ' H' s7/\tn i s7.heap/\(∀b∈fp,H' b=none)/\W i m σ' H':=fun {σ7 H7} I7 n7=>by
   obtain ⟨m',hm,w7⟩:=hN σ7 H7 n7
   refine ⟨m',hm,i+1,σ7,H7,I7.unpinned,T.keep _ _ _ st5 fun b hb o e=>(I7.pin (b,o) (ZBn _ (ZBn _ (zft hb e)))).1,fun b hb=>?_,w7⟩
   obtain ⟨o,e,d⟩:=T.obj _ _ st5 b hb
   exact (I7.pin (b,o) (ZBn _ (ZBn _ (zft hb e)))).2.1
  cases f with
  | next=>obtain ⟨σ7,H7,I7,n7⟩:=q7;exact again I7 n7
  | cont=>obtain ⟨σ7,H7,I7,n7⟩:=q7;exact again I7 n7
  | brk=>obtain ⟨σ7,H7,I7,q7⟩:=q7;exact ⟨σ7,H7,I7.unpinned,q7⟩
  | ret v=>obtain ⟨x7,σ7,H7,I7,r7,q7⟩:=q7;exact ⟨x7,σ7,H7,I7.unpinned,r7,q7⟩
theorem zc9 {iter:Expr} {body:List Stmt} {wi:TI} {g:TG} {tb:TS} {pos:Pos} (hp:PassesOwn (model X.prog X.w) X.A X.env X.xe) (hc:X.calm=true) (hi:PI X tg iter wi) (hg:PG X tg g) (hb:PSs X body tb)
 (hs:∀x,foldedSetIterable iter X.env x=pure x:=by intro _;rfl):PS X (.For tg iter body [] pos) (zzo wi g tb):=zl8 hp (.inl hc) hi hg hb hs
end
theorem zcx {K:ZCa} {a:Addr} {xs:List V} {g:TG} {tb:TS} {D:zs9} {σ:St} {H:Hp} (Pv:Nat->St->Hp->Prop) (h0:Pv 0 σ H) (hl:∀i σ H,i<=xs.length->Pv i σ H->SqL K H a xs)
 (hs:∀i x σ H,xs[i]?=some x->Pv i σ H->g x σ H fun σ2 H2=>tb { D with nx:=Pv (i+1),ct:=Pv (i+1),bk:=D.nx } σ2 H2) (hd:∀σ H,Pv xs.length σ H->D.nx σ H):
 ∃W:Nat->Nat->St->Hp->Prop,(∃m,W 0 m σ H)/\∀i m σ H,W i m σ H->
  ((Itl K a).stop i H/\D.nx σ H)\/((Itl K a).go i H/\∃N:St->Hp->Prop,(∀σ' H',N σ' H'->∃m',m'<m/\W (i+1) m' σ' H')/\∀x H',(Itl K a).yld i H x H'->g x σ H' fun σ2 H2=>tb { D with nx:=N,ct:=N,bk:=D.nx } σ2 H2):=by
 refine ⟨fun i m σ H=>m=xs.length-i/\i<=xs.length/\Pv i σ H,⟨xs.length,by simp,ZBa _,h0⟩,?_⟩
 rintro i m σ H ⟨rfl,hi,p⟩
 have q:=hl i σ H hi p
 by_cases hlt:i<xs.length
 ·refine .inr ⟨⟨xs,xs[i],q,by simp [hlt]⟩,Pv (i+1),fun σ' H' p'=>⟨xs.length-(i+1),by omega,rfl,hlt,p'⟩,fun x H' y=>?_⟩
  obtain ⟨e,y⟩:=y
  subst e
  exact hs i x σ _ (y xs q) p
 ·have e:i=xs.length:=by omega
  subst e
  exact .inl ⟨⟨xs,q,ZAw _⟩,hd σ H p⟩
theorem zvf {K:ZCa} {a:Addr} {xs:List V} {g:TG} {tb:TS} {D:zs9} {σ:St} {H:Hp} (Pv:Nat->St->Hp->Prop) (h0:Pv 0 σ H) (hl:∀i σ H,i<=xs.length->Pv i σ H->SqT K H a xs)
 (hs:∀i x σ H,xs[i]?=some x->Pv i σ H->g x σ H fun σ2 H2=>tb { D with nx:=Pv (i+1),ct:=Pv (i+1),bk:=D.nx } σ2 H2) (hd:∀σ H,Pv xs.length σ H->D.nx σ H):
 ∃W:Nat->Nat->St->Hp->Prop,(∃m,W 0 m σ H)/\∀i m σ H,W i m σ H->
  ((Itt K a).stop i H/\D.nx σ H)\/((Itt K a).go i H/\∃N:St->Hp->Prop,(∀σ' H',N σ' H'->∃m',m'<m/\W (i+1) m' σ' H')/\∀x H',(Itt K a).yld i H x H'->g x σ H' fun σ2 H2=>tb { D with nx:=N,ct:=N,bk:=D.nx } σ2 H2):=by
 refine ⟨fun i m σ H=>m=xs.length-i/\i<=xs.length/\Pv i σ H,⟨xs.length,by simp,ZBa _,h0⟩,?_⟩
 rintro i m σ H ⟨rfl,hi,p⟩
 have q:=hl i σ H hi p
 by_cases hlt:i<xs.length
 ·refine .inr ⟨⟨xs,xs[i],q,by simp [hlt]⟩,Pv (i+1),fun σ' H' p'=>⟨xs.length-(i+1),by omega,rfl,hlt,p'⟩,fun x H' y=>?_⟩
  obtain ⟨e,y⟩:=y
  subst e
  exact hs i x σ _ (y xs q) p
 ·have e:i=xs.length:=by omega
  subst e
  exact .inl ⟨⟨xs,q,ZAw _⟩,hd σ H p⟩
theorem zd7 {lo:Int} {n:Nat} {g:TG} {tb:TS} {D:zs9} {σ:St} {H:Hp} (Pv:Nat->St->Hp->Prop) (h0:Pv 0 σ H)
 (hs:∀i σ H,i<n->Pv i σ H->g (.int (lo+i)) σ H fun σ2 H2=>tb { D with nx:=Pv (i+1),ct:=Pv (i+1),bk:=D.nx } σ2 H2) (hd:∀σ H,Pv n σ H->D.nx σ H):
 ∃W:Nat->Nat->St->Hp->Prop,(∃m,W 0 m σ H)/\∀i m σ H,W i m σ H->
  ((Itr lo n).stop i H/\D.nx σ H)\/((Itr lo n).go i H/\∃N:St->Hp->Prop,(∀σ' H',N σ' H'->∃m',m'<m/\W (i+1) m' σ' H')/\∀x H',(Itr lo n).yld i H x H'->g x σ H' fun σ2 H2=>tb { D with nx:=N,ct:=N,bk:=D.nx } σ2 H2):=by
 refine ⟨fun i m σ H=>m=n-i/\i<=n/\Pv i σ H,⟨n,by simp,ZBa _,h0⟩,?_⟩
 rintro i m σ H ⟨rfl,hi,p⟩
 by_cases hlt:i<n
 ·refine .inr ⟨hlt,Pv (i+1),fun σ' H' p'=>⟨n-(i+1),by omega,rfl,hlt,p'⟩,fun x H' y=>?_⟩
  obtain ⟨e,y⟩:=y
  subst e y
  exact hs i σ _ hlt p
 ·have e:i=n:=by omega
  subst e
  exact .inl ⟨ZAw _,hd σ H p⟩
abbrev R2:=V->V->Hp->VK->Prop
def OpR (X:Cx) (f:Value->Value->Sem Value) (r:R2):Prop:=
 ∀(pins:List (Addr×Obj)) (s:Shared) (σ:St) (H:Hp) (x y:V) (v u:Value) (Q:VK),Inv X pins σ H s->zck x v->zck y u->r x y H Q->
  wpAny (model X.prog X.w) X.A (f v u) (EP X pins σ Q) X.xe s
def UnR (X:Cx) (f:Value->Sem Value) (r:V->Hp->VK->Prop):Prop:=
 ∀(pins:List (Addr×Obj)) (s:Shared) (σ:St) (H:Hp) (x:V) (v:Value) (Q:VK),Inv X pins σ H s->zck x v->r x H Q->
  wpAny (model X.prog X.w) X.A (f v) (EP X pins σ Q) X.xe s
def zg2 (X:Cx) (f:Value) (r:List V->Hp->VK->Prop):Prop:=
 ∀(pins:List (Addr×Obj)) (s:Shared) (σ:St) (H:Hp) (xs:List V) (us:List Value) (Q:VK),Inv X pins σ H s->zb3 xs us->r xs H Q->
  wpAny (model X.prog X.w) X.A (call f us) (EP X pins σ Q) X.xe s
def tOp (r:R2) (ta tb:TE):TE:=fun σ H Q=>ta σ H fun x H1=>tb σ H1 fun y H2=>r x y H2 Q
def tUn (r:V->Hp->VK->Prop) (ta:TE):TE:=fun σ H Q=>ta σ H fun x H1=>r x H1 Q
def rI (C:Int->Int->Prop) (g:Int->Int->V):R2:=fun x y H Q=>∃i j,x=.int i/\y=.int j/\C i j/\Q (g i j) H
def rI0 (g:Int->Int->V):R2:=fun x y H Q=>∃i j,x=.int i/\y=.int j/\Q (g i j) H
def rU (g:Int->V):V->Hp->VK->Prop:=fun x H Q=>∃i,x=.int i/\Q (g i) H
section
variable {X:Cx} {a b c:Expr} {ta tb tc:TE} {pos:Pos}
theorem zzg (ha:PE X a ta) (hb:PE X b tb) {pins:List (Addr×Obj)} {s:Shared} {σ:St} {H:Hp} {R:V->V->Hp->Prop} (I:Inv X pins σ H s)
 (h:ta σ H fun x H1=>tb σ H1 fun y H2=>R x y H2) {Q:Value->Shared->Prop} {f:Value->Value->Sem Value}
 (hf:∀v u s2 x y H2,Inv X pins σ H2 s2->zck x v->zck y u->R x y H2->wpAny (model X.prog X.w) X.A (f v u) Q X.xe s2):
 wpAny (model X.prog X.w) X.A (eval a X.env) (fun v s₁=>wpAny (model X.prog X.w) X.A (eval b X.env) (fun u s₂=>wpAny (model X.prog X.w) X.A (f v u) Q X.xe s₂) X.xe s₁) X.xe s:=by
 refine thn (ha pins s σ H _ I h) fun v s1 zz=>?_
 obtain ⟨x,H1,I1,r1,q1⟩:=zz
 refine thn (hb pins s1 σ H1 _ I1 q1) fun u s2 zz=>?_
 obtain ⟨y,H2,I2,r2,q2⟩:=zz
 exact hf v u s2 x y H2 I2 r1 r2 q2
theorem za2 {op:Operator} {r:R2} (ho:OpR X (binaryOp op) r) (ha:PE X a ta) (hb:PE X b tb):PE X (.BinOp a op b pos) (tOp r ta tb):=by
 intro pins s σ H Q I h
 exact wpAny_BinOp (zzg ha hb I h fun v u s2 x y H2 I2 rx ry q=>ho pins s2 σ H2 x y v u Q I2 rx ry q)
theorem zl9 {op:UnaryOp} {r:V->Hp->VK->Prop} (ho:UnR X (unaryOp op) r) (ha:PE X a ta):PE X (.UnaryOp op a pos) (tUn r ta):=by
 intro pins s σ H Q I h
 exact UnaryOp_ (thn (ha pins s σ H _ I h) fun v s1 zz=>L2.el5 zz fun x H1 I1 r1 q1=>ho pins s1 σ H1 x v Q I1 r1 q1)
theorem opI {f:Value->Value->Sem Value} {C:Int->Int->Prop} {g:Int->Int->Int}
 (rule:∀(i j:Int) (t u:Tok) (s:Shared) (Q:Value->Shared->Prop) (E:Value->Shared->Prop),C i j->Q (.int (g i j) s.toks) { s with toks:=s.toks+1 }->wpAny (model X.prog X.w) X.A (f (.int i t) (.int j u)) Q E s):
 OpR X f (rI C fun i j=>.int (g i j)):=by
 intro pins s σ H x y v u Q I rx ry h
 obtain ⟨i,j,rfl,rfl,hc,q⟩:=h
 obtain ⟨t,rfl⟩:=rx
 obtain ⟨t',rfl⟩:=ry
 exact rule i j t t' s _ _ hc ⟨.int (g i j),H,I.tok _,⟨_,rfl⟩,q⟩
theorem zzx {f:Value->Value->Sem Value} {g:Int->Int->Int}
 (rule:∀(i j:Int) (t u:Tok) (s:Shared) (Q:Value->Shared->Prop) (E:Value->Shared->Prop),Q (.int (g i j) s.toks) { s with toks:=s.toks+1 }->wpAny (model X.prog X.w) X.A (f (.int i t) (.int j u)) Q E s):
 OpR X f (rI0 fun i j=>.int (g i j)):=by
 intro pins s σ H x y v u Q I rx ry h
 obtain ⟨i,j,rfl,rfl,q⟩:=h
 obtain ⟨t,rfl⟩:=rx
 obtain ⟨t',rfl⟩:=ry
 exact rule i j t t' s _ _ ⟨.int (g i j),H,I.tok _,⟨_,rfl⟩,q⟩
theorem zxt {f:Value->Value->Sem Value} {g:Int->Int->Bool}
 (rule:∀(i j:Int) (t u:Tok) (s:Shared) (Q:Value->Shared->Prop) (E:Value->Shared->Prop),Q (.bool (g i j)) s->wpAny (model X.prog X.w) X.A (f (.int i t) (.int j u)) Q E s):
 OpR X f (rI0 fun i j=>.bl (g i j)):=by
 intro pins s σ H x y v u Q I rx ry h
 obtain ⟨i,j,rfl,rfl,q⟩:=h
 obtain ⟨t,rfl⟩:=rx
 obtain ⟨t',rfl⟩:=ry
 exact rule i j t t' s _ _ ⟨.bl (g i j),H,I,rfl,q⟩
def zzn (i j:Int):Prop:=(-(2 ^ 64)<i/\i<2 ^ 64)\/(-(2 ^ 64)<j/\j<2 ^ 64)
theorem zzn.ok {i j:Int} (h:zzn i j):IntMulOk i j:=by
 rcases h with ⟨h1,h2⟩ | ⟨h1,h2⟩
 ·exact .of_left (intBits_le_64 h1 h2)
 ·exact .of_right (intBits_le_64 h1 h2)
theorem zb5:OpR X (binaryOp .Add) (rI0 fun i j=>.int (i+j)):=zzx fun _ _ _ _ _ _ _ q=>add_int q
theorem zcc:OpR X (binaryOp .Sub) (rI0 fun i j=>.int (i-j)):=zzx fun _ _ _ _ _ _ _ q=>sub_int q
theorem ztw:OpR X (binaryOp .Mult) (rI zzn fun i j=>.int (i*j)):=opI fun _ _ _ _ _ _ _ hc q=>mul_int q hc.ok
theorem zp5:OpR X (binaryOp .Mod) (rI (fun _ j=>0<j) fun i j=>.int (i % j)):=opI fun i j _ _ _ _ _ hc q=>by
 have h1:(0:Int)<j:=hc
 exact mod_int' (by omega) (by rw [Int.fmod_eq_emod_of_nonneg i (by omega)];exact q)
theorem unI {f:Value->Sem Value} {g:Int->Int}
 (rule:∀(i:Int) (t:Tok) (s:Shared) (Q:Value->Shared->Prop) (E:Value->Shared->Prop),Q (.int (g i) s.toks) { s with toks:=s.toks+1 }->wpAny (model X.prog X.w) X.A (f (.int i t)) Q E s):
 UnR X f (rU fun i=>.int (g i)):=by
 intro pins s σ H x v Q I rx h
 obtain ⟨i,rfl,q⟩:=h
 obtain ⟨t,rfl⟩:=rx
 exact rule i t s _ _ ⟨.int (g i),H,I.tok _,⟨_,rfl⟩,q⟩
theorem zh0:UnR X (unaryOp .USub) (rU fun i=>.int (-i)):=unI fun _ _ _ _ _ q=>neg_int q
end
def zzq:V->V->Bool
 | .non,.non=>true | .non,.int _=>true | .int _,.non=>true | .non,.bl _=>true | .bl _,.non=>true | .non,.str _=>true | .str _,.non=>true
 | .int _,.int _=>true | .bl _,.bl _=>true | .str _,.str _=>true | .byt _,.byt _=>true
 | .int _,.str _=>true | .str _,.int _=>true | .bl _,.str _=>true | .str _,.bl _=>true
 | _,_=>false
def rEq:R2:=fun x y H Q=>zzq x y=true/\Q (.bl (decide (x=y))) H
def rNe:R2:=fun x y H Q=>zzq x y=true/\Q (.bl (!decide (x=y))) H
theorem zqw {i j:Int}:decide (V.int i=V.int j)=(i==j):=by
 rw [Bool.eq_iff_iff]
 simp
theorem zt3 {i j:Bool}:decide (V.bl i=V.bl j)=(i==j):=by
 rw [Bool.eq_iff_iff]
 simp
theorem zqv {i j:Str}:decide (V.str i=V.str j)=(i==j):=by
 rw [Bool.eq_iff_iff]
 simp
theorem zqx {i j:Array UInt8}:decide (V.byt i=V.byt j)=(i.toList==j.toList):=by
 rw [Bool.eq_iff_iff]
 cases i
 cases j
 simp
section
variable {X:Cx} {a b c:Expr} {ta tb tc:TE} {pos:Pos}
theorem zbn {pins:List (Addr×Obj)} {σ:St} {H:Hp} {s:Shared} {Q:VK} {k k':Bool} (I:Inv X pins σ H s) (q:Q (.bl k) H) (e:k=k'):EP X pins σ Q (.bool k') s:=by
 subst e
 exact ⟨.bl k,H,I,rfl,q⟩
theorem zbd:OpR X (compareOp .Eq) rEq:=by
 intro pins s σ H x y v u Q I rx ry h
 obtain ⟨hs,q⟩:=h
 cases x with
 | non=>
  cases rx
  cases y with
  | non=>cases ry;exact PySem.EqNone.eq_none_none (zbn I q (by simp))
  | bl j=>cases ry;exact PySem.EqNone.eq_none_bool (zbn I q (by simp))
  | int j=>obtain ⟨t',rfl⟩:=ry;exact PySem.EqNone.eq_none_int (zbn I q (by simp))
  | str j=>obtain ⟨t',rfl⟩:=ry;exact PySem.EqNone.eq_none_str (zbn I q (by simp))
  | _=>exact absurd (show false=true from hs) ZA6
 | bl i=>
  cases rx
  cases y with
  | non=>cases ry;exact PySem.EqNone.eq_bool_none (zbn I q (by simp))
  | bl j=>cases ry;exact eq_bool (zbn I q zt3)
  | str j=>obtain ⟨t',rfl⟩:=ry;exact PySem.EqMixed.eq_bool_str (zbn I q (by simp))
  | _=>exact absurd (show false=true from hs) ZA6
 | int i=>
  obtain ⟨t,rfl⟩:=rx
  cases y with
  | non=>cases ry;exact PySem.EqNone.eq_int_none (zbn I q (by simp))
  | int j=>obtain ⟨t',rfl⟩:=ry;exact eq_int (zbn I q zqw)
  | str j=>obtain ⟨t',rfl⟩:=ry;exact PySem.EqMixed.eq_int_str (zbn I q (by simp))
  | _=>exact absurd (show false=true from hs) ZA6
 | str i=>
  obtain ⟨t,rfl⟩:=rx
  cases y with
  | non=>cases ry;exact PySem.EqNone.eq_str_none (zbn I q (by simp))
  | bl j=>cases ry;exact PySem.EqMixed.eq_str_bool (zbn I q (by simp))
  | int j=>obtain ⟨t',rfl⟩:=ry;exact PySem.EqMixed.eq_str_int (zbn I q (by simp))
  | str j=>obtain ⟨t',rfl⟩:=ry;exact eq_str (zbn I q zqv)
  | _=>exact absurd (show false=true from hs) ZA6
 | byt i=>
  obtain ⟨t,rfl⟩:=rx
  cases y with
  | byt j=>obtain ⟨t',rfl⟩:=ry;exact PySem.W.eq_bytes (zbn I q zqx)
  | _=>exact absurd (show false=true from hs) ZA6
 | _=>cases y<;>exact absurd (show false=true from hs) ZA6
theorem zka:OpR X (compareOp .NotEq) rNe:=by
 intro pins s σ H x y v u Q I rx ry h
 obtain ⟨hs,q⟩:=h
 cases x with
 | non=>
  cases rx
  cases y with
  | non=>cases ry;exact PySem.EqNone.ne_none_none (zbn I q (by simp))
  | bl j=>cases ry;exact PySem.EqNone.ne_none_bool (zbn I q (by simp))
  | int j=>obtain ⟨t',rfl⟩:=ry;exact PySem.EqNone.ne_none_int (zbn I q (by simp))
  | str j=>obtain ⟨t',rfl⟩:=ry;exact PySem.EqNone.ne_none_str (zbn I q (by simp))
  | _=>exact absurd (show false=true from hs) ZA6
 | bl i=>
  cases rx
  cases y with
  | non=>cases ry;exact PySem.EqNone.ne_bool_none (zbn I q (by simp))
  | bl j=>cases ry;exact ne_bool (zbn I q (congrArg not zt3))
  | str j=>obtain ⟨t',rfl⟩:=ry;exact PySem.EqMixed.ne_bool_str (zbn I q (by simp))
  | _=>exact absurd (show false=true from hs) ZA6
 | int i=>
  obtain ⟨t,rfl⟩:=rx
  cases y with
  | non=>cases ry;exact PySem.EqNone.ne_int_none (zbn I q (by simp))
  | int j=>obtain ⟨t',rfl⟩:=ry;exact ne_int (zbn I q (congrArg not zqw))
  | str j=>obtain ⟨t',rfl⟩:=ry;exact PySem.EqMixed.ne_int_str (zbn I q (by simp))
  | _=>exact absurd (show false=true from hs) ZA6
 | str i=>
  obtain ⟨t,rfl⟩:=rx
  cases y with
  | non=>cases ry;exact PySem.EqNone.ne_str_none (zbn I q (by simp))
  | bl j=>cases ry;exact PySem.EqMixed.ne_str_bool (zbn I q (by simp))
  | int j=>obtain ⟨t',rfl⟩:=ry;exact PySem.EqMixed.ne_str_int (zbn I q (by simp))
  | str j=>obtain ⟨t',rfl⟩:=ry;exact ne_str (zbn I q (congrArg not zqv))
  | _=>exact absurd (show false=true from hs) ZA6
 | byt i=>
  obtain ⟨t,rfl⟩:=rx
  cases y with
  | byt j=>obtain ⟨t',rfl⟩:=ry;exact PySem.W.ne_bytes (zbn I q (congrArg not zqx))
  | _=>exact absurd (show false=true from hs) ZA6
 | _=>cases y<;>exact absurd (show false=true from hs) ZA6
theorem zhe:OpR X (compareOp .Lt) (rI0 fun i j=>.bl (decide (i<j))):=zxt fun _ _ _ _ _ _ _ q=>lt_int q
theorem zfy:OpR X (compareOp .LtE) (rI0 fun i j=>.bl (decide (i<=j))):=zxt fun _ _ _ _ _ _ _ q=>le_int q
theorem zp7:OpR X (compareOp .Gt) (rI0 fun i j=>.bl (decide (j<i))):=zxt fun _ _ _ _ _ _ _ q=>gt_int q
theorem zyj:OpR X (compareOp .GtE) (rI0 fun i j=>.bl (decide (j<=i))):=zxt fun _ _ _ _ _ _ _ q=>ge_int q
theorem zp6:OpR X (compareOp .Is) (fun x y H Q=>y=.non/\Q (.bl (decide (x=.non))) H):=by
 intro pins s σ H x y v u Q I rx ry h
 obtain ⟨rfl,q⟩:=h
 cases ry
 refine is_none_gen (zbn I q ?_)
 cases x<;>first
  | (cases rx;rfl)
  | (obtain ⟨t,rfl⟩:=rx;rfl)
theorem zp2:OpR X (compareOp .IsNot) (fun x y H Q=>y=.non/\Q (.bl (!decide (x=.non))) H):=by
 intro pins s σ H x y v u Q I rx ry h
 obtain ⟨rfl,q⟩:=h
 cases ry
 refine isnot_none_gen (zbn I q ?_)
 cases x<;>first
  | (cases rx;rfl)
  | (obtain ⟨t,rfl⟩:=rx;rfl)
theorem ztx (b:Expr) {op:CmpOp} (h:op≠.In:=by decide) (h2:op≠.NotIn:=by decide):behindInMarks op b=false:=by
 have e1:(op==CmpOp.In)=false:=by cases op<;>first | rfl | exact absurd rfl h
 have e2:(op==CmpOp.NotIn)=false:=by cases op<;>first | rfl | exact absurd rfl h2
 cases b<;>simp [behindInMarks,e1,e2]
theorem zma {op:CmpOp} {r:R2} (ho:OpR X (compareOp op) r) (ha:PE X a ta) (hb:PE X b tb) (hm:behindInMarks op b=false):PE X (.Compare a [op] [b] pos) (tOp r ta tb):=by
 intro pins s σ H Q I h
 exact wpAny_Compare1 (zzg ha hb I h fun v u s2 x y H2 I2 rx ry q=>ho pins s2 σ H2 x y v u Q I2 rx ry q) hm
def zru (t:TE):TT:=fun σ H Q=>t σ H fun x H'=>∃k,x=.bl k/\Q k H'
theorem zj4 {op:CmpOp} {r:R2} (ho:OpR X (compareOp op) r) (ha:PE X a ta) (hb:PE X b tb) (hm:behindInMarks op b=false):PT X (.Compare a [op] [b] pos) (zru (tOp r ta tb)):=by
 intro pins s σ H Q I h
 refine wpAny_isTrue_Compare1 (thn (ha pins s σ H _ I h) fun v s1 zz=>L2.el5 zz fun x H1 I1 r1 q1=>thn (hb pins s1 σ H1 _ I1 q1) fun u s2 zz=>L2.el5 zz fun y H2 I2 r2 q2=>
  thn (ho pins s2 σ H2 x y v u _ I2 r1 r2 q2) fun c s3 zz=>?_) hm
 obtain ⟨z,H3,I3,r3,k,e,q3⟩:=zz
 subst e
 cases r3
 exact wpAny_truthy_bool ⟨H3,I3,q3⟩
theorem zl3 {X:Cx} {a b:Expr} {ta tb:TE} {pos:Pos} {op:CmpOp} {r:R2} (ho:OpR X (compareOp op) r) (ha:PE X a ta) (hb:PE X b tb) (h:op≠.In:=by decide) (h2:op≠.NotIn:=by decide):PE X (.Compare a [op] [b] pos) (tOp r ta tb):=zma ho ha hb (ztx _ h h2)
theorem zb8 {X:Cx} {a b:Expr} {ta tb:TE} {pos:Pos} {op:CmpOp} {r:R2} (ho:OpR X (compareOp op) r) (ha:PE X a ta) (hb:PE X b tb) (h:op≠.In:=by decide) (h2:op≠.NotIn:=by decide):PT X (.Compare a [op] [b] pos) (zru (tOp r ta tb)):=zj4 ho ha hb (ztx _ h h2)
def ztb (r r':R2) (ta tb tc:TE):TE:=fun σ H Q=>ta σ H fun x H1=>tb σ H1 fun y H2=>r x y H2 fun z H3=>∃k,z=.bl k/\
 (if k=true then tc σ H3 fun w' H4=>r' y w' H4 Q else Q (.bl false) H3)
theorem zhp {op op':CmpOp} {r r':R2} (ho:OpR X (compareOp op) r) (ho':OpR X (compareOp op') r') (ha:PE X a ta) (hb:PE X b tb) (hc:PE X c tc)
 (hm:lastMarks [op,op'] [b,c]=false:=by with_unfolding_all rfl):PE X (.Compare a [op,op'] [b,c] pos) (ztb r r' ta tb tc):=by
 intro pins s σ H Q I h
 refine Compare_chain (thn (ha pins s σ H _ I h) fun v s1 zz=>L2.el5 zz fun x H1 I1 r1 q1=>chain_link (thn (hb pins s1 σ H1 _ I1 q1) fun u s2 zz=>L2.el5 zz fun y H2 I2 r2 q2=>
  thn (ho pins s2 σ H2 x y v u _ I2 r1 r2 q2) fun d s3 zz=>?_)) hm
 obtain ⟨z,H3,I3,r3,k,e,q3⟩:=zz
 subst e
 cases r3
 refine wpAny_truthy_bool ?_
 cases k with
 | false=>exact ite_ff ⟨.bl false,H3,I3,rfl,q3⟩
 | true=>exact ite_tt (chain_last (thn (hc pins s3 σ H3 _ I3 q3) fun w' s4 zz=>L2.el5 zz fun z' H4 I4 r4 q4=>ho' pins s4 σ H4 y z' u w' Q I4 r2 r4 q4))
theorem zj5 {op op':CmpOp} {r r':R2} (ho:OpR X (compareOp op) r) (ho':OpR X (compareOp op') r') (ha:PE X a ta) (hb:PE X b tb) (hc:PE X c tc)
 (hm:lastMarks [op,op'] [b,c]=false:=by with_unfolding_all rfl):PT X (.Compare a [op,op'] [b,c] pos) (zru (ztb r r' ta tb tc)):=by
 intro pins s σ H Q I h
 refine isTrue_chain (thn (ha pins s σ H _ I h) fun v s1 zz=>L2.el5 zz fun x H1 I1 r1 q1=>test_link (thn (hb pins s1 σ H1 _ I1 q1) fun u s2 zz=>L2.el5 zz fun y H2 I2 r2 q2=>
  thn (ho pins s2 σ H2 x y v u _ I2 r1 r2 q2) fun d s3 zz=>?_)) hm
 obtain ⟨z,H3,I3,r3,k,e,q3⟩:=zz
 subst e
 cases r3
 refine wpAny_truthy_bool ?_
 cases k with
 | false=>
  obtain ⟨k',e',q'⟩:=q3
  cases e'
  exact ite_ff ⟨H3,I3,q'⟩
 | true=>
  refine ite_tt (test_last (thn (hc pins s3 σ H3 _ I3 q3) fun w' s4 zz=>L2.el5 zz fun z' H4 I4 r4 q4=>thn (ho' pins s4 σ H4 y z' u w' _ I4 r2 r4 q4) fun d' s5 zz=>?_))
  obtain ⟨z2,H5,I5,r5,k2,e2,q5⟩:=zz
  subst e2
  cases r5
  exact wpAny_truthy_bool ⟨H5,I5,q5⟩
theorem znl:(sizeLine:Nat)<2 ^ 63:=by rw [sizeLine_eq];decide
theorem zjp {x:V} {us:List Value} (r:zb3 [x] us):∃u,us=[u]/\zck x u:=by
 cases r with
 | cons r1 r2=>cases r2;exact ⟨_,rfl,r1⟩
theorem zud {x y:V} {us:List Value} (r:zb3 [x,y] us):∃u w',us=[u,w']/\zck x u/\zck y w':=by
 cases r with
 | cons r1 r2=>
  cases r2 with
  | cons r3 r4=>cases r4;exact ⟨_,_,rfl,r1,r3⟩
theorem zlw (hc:X.calm=true):zg2 X (.builtin "max") (fun xs H Q=>∃i j,xs=[.int i,.int j]/\Q (.int (if j>i then j else i)) H):=by
 intro pins s σ H xs us Q I r h
 obtain ⟨i,j,rfl,q⟩:=h
 obtain ⟨u,w',rfl,⟨t,rfl⟩,⟨t',rfl⟩⟩:=zud r
 refine max_two_ints (I.ok.hd hc) fun h' tk k=>⟨_,H,I.kept k,?_,q⟩
 by_cases hj:j>i
 ·rw [if_pos hj,if_pos hj];exact ⟨_,rfl⟩
 ·rw [if_neg hj,if_neg hj];exact ⟨_,rfl⟩
theorem zdt (hc:X.calm=true):zg2 X (.builtin "min") (fun xs H Q=>∃i j,xs=[.int i,.int j]/\Q (.int (if j<i then j else i)) H):=by
 intro pins s σ H xs us Q I r h
 obtain ⟨i,j,rfl,q⟩:=h
 obtain ⟨u,w',rfl,⟨t,rfl⟩,⟨t',rfl⟩⟩:=zud r
 refine min_two_ints (I.ok.hd hc) fun h' tk k=>⟨_,H,I.kept k,?_,q⟩
 by_cases hj:j<i
 ·rw [if_pos hj,if_pos hj];exact ⟨_,rfl⟩
 ·rw [if_neg hj,if_neg hj];exact ⟨_,rfl⟩
theorem zq7:zg2 X (.type "int") (fun xs H Q=>(∃i,xs=[.int i]/\Q (.int i) H)\/∃k,xs=[.bl k]/\Q (.int (if k then 1 else 0)) H):=by
 intro pins s σ H xs us Q I r h
 rcases h with ⟨i,rfl,q⟩ | ⟨k,rfl,q⟩
 ·obtain ⟨u,rfl,t,rfl⟩:=zjp r
  exact call_int_int ⟨.int i,H,I,⟨_,rfl⟩,q⟩
 ·obtain ⟨u,rfl,r1⟩:=zjp r
  cases r1
  exact call_int_bool ⟨.int (if k then 1 else 0),H,I.tok _,⟨_,rfl⟩,q⟩
end
structure zvt (h:Heap) (x dx C:Addr) (mA:Str->Option Value):Prop where
 obj:h.get? x=some (PySem.W.instObj C dx)
 ns:h.Ns1 dx mA
 ne:dx≠x
theorem zqf {h:Heap} {dx:Addr} {mA:Str->Option Value} (n:h.Ns1 dx mA):∃od,h.get? dx=some od/\∀name,PySem.W.lookIn name od=some (mA name):=by
 obtain ⟨o,es,ep,ho,hd,hk,_,hm⟩:=n
 refine ⟨o,ho,fun name=>?_⟩
 have e:=hm name
 unfold nsFind findBy at e
 rw [<-Array.find?_toList] at e
 unfold PySem.W.lookIn
 rw [hd]
 dsimp only
 split
 ·rename_i y q
  rw [q] at e
  exact congrArg some e
 ·rename_i q
  rw [q] at e
  have a:es.toList.any (·.refKey)=false:=by
   rw [List.any_eq_false]
   intro y hy
   obtain ⟨z,t,hkey⟩:=hk y (Array.mem_toList_iff.mp hy)
   simp [DictEntry.refKey,hkey]
  have a':¬es.toList.any (·.refKey)=true:=by rw [a];exact ZA6
  rw [if_neg a']
  exact congrArg some e
theorem zvt.look {h:Heap} {x dx C:Addr} {mA:Str->Option Value} (I:zvt h x dx C mA):∃od,PySem.W.InstAt h x (PySem.W.instObj C dx) C (some od)/\∀name,PySem.W.lookIn name od=some (mA name):=
 let ⟨od,ho,hl⟩:=zqf I.ns
 ⟨od,⟨I.obj,rfl,rfl,ho⟩,hl⟩
section
variable {prog:Program} {w:World} {A:Around} {E:Value->Shared->Prop} {s:Shared} {K:ZCa} {x dx C f:Addr} {mA:Str->Option Value} {name:Str} {v:Value}
theorem zve {expr:Bool} {Q:Value->Shared->Prop} (X:K.In s.heap) (I:zvt s.heap x dx C mA) (hg:PySem.W.plainGet K C name=true) (hh:PySem.W.hasDictIn K C=true)
 (ha:PySem.W.findIn K (.ref C) name=some none) (hv:mA name=some v) (hv':PySem.W.handedIn v=true) (h:Q v { s with toks:=s.toks+1 }):
 wpAny (model prog w) A (getAttr (.ref x) name expr) Q E s:=by
 obtain ⟨od,J,hl⟩:=I.look
 exact PySem.W.get_value X J (PySem.W.plainGet_of hg).1 (PySem.W.findObj_own hh ha rfl (by rw [hl,hv])) hv' h
theorem zss {pl:Sem Bool} {Q:Value×List Value->Shared->Prop} (X:K.In s.heap) (I:zvt s.heap x dx C mA) (hg:PySem.W.plainGet K C name=true)
 (hf:PySem.W.findIn K (.ref C) name=some (some (.ref f))) (ht:PySem.W.isFn K (.ref f)=true) (hv:mA name=none) (h:Q (.ref f,[.ref x]) s):
 wpAny (model prog w) A (getMethod (.ref x) name pl) Q E s:=by
 obtain ⟨od,J,hl⟩:=I.look
 exact PySem.W.method_fn X J (PySem.W.plainGet_of hg).1 (PySem.W.plainGet_of hg).2 hf (beq_iff_eq.mp ht) (by show (PySem.W.lookIn name od).map (·.isSome)=some false;rw [hl,hv];rfl) h
theorem zus {ns:List Str} {Q:Unit->Shared->Prop} (X:K.In s.heap) (I:zvt s.heap x dx C mA)
 (hs:PySem.W.findIn K (.ref C) "__setattr__"=some (some (.builtin "object.__setattr__"))) (hp:PySem.W.plainOver K C=true) (ht:PySem.W.takerIn K C name=some none) (hh:PySem.W.hasDictIn K C=true)
 (hw:PySem.Within mA ns) (hsz:ns.length<=sizeLine)
 (h:∀h',zvt h' x dx C (fun y=>if y=name then some v else mA y)->Heap.SameBut dx s.heap h'->Q () { s with heap:=h',toks:=s.toks+2 }):
 wpAny (model prog w) A (setAttr (.ref x) name v) Q E s:=by
 obtain ⟨od,J,hl⟩:=I.look
 refine PySem.W.set_plain X J hs (PySem.W.osa_open (s:={ s with toks:=s.toks+1 }) (r:=none) X J hp ht fun b=>?_)
 obtain ⟨cd,hc,hd'⟩:=PySem.W.any_some hh
 have hx:s.heap.get? x=some ⟨.ref C,some dx,.plain,#[]⟩:=I.obj
 refine ZAp (ZAq (ZAp (ZAp (wpAny_loadPart hx (ZAp (PySem.W.Looks.here (s:={ s with toks:=s.toks+1 }) (PySem.W.looks_clsIn X hc) ?_))))))
 rw [hd']
 refine ZAq (a:=some dx) (ZAp (ZAq (ZAp ?_)))
 refine wpAny_nsSet1 (s:={ s with toks:=s.toks+1 }) I.ns fun h' hn2 hs2=>?_
 obtain ⟨oD,esD,epD,hoD,hdD,hcD⟩:=hn2.count (PySem.Within.cons name v hw)
 refine ZAp (wpAny_lookBehind hoD (by rw [hdD];exact pastItsLine_dict (ZBg hcD (by rw [ZBp];omega))) ?_)
 exact ZAq (h _ ⟨(hs2.2 _ (ZAl I.ne)).trans I.obj,hn2,I.ne⟩ hs2)
theorem zsh {R:Result->Shared->Prop} {vs:List Value} {kw:List (Str×Value)} (X:K.In s.heap) (hm:PySem.W.makesIn K C=true)
 (hi:PySem.W.findIn K (.ref C) "__init__"=some (some (.ref f))) (hf:PySem.W.typeIn K (.ref f)=some (.type "function"))
 (h:codeAny (model prog w) (A.under (.builtin "type.__call__" ⟨.ref C::vs,kw⟩)) (.call (.ref f) ⟨.ref (s.heap.objs.size+1)::vs,kw⟩) (PySem.W.InitBack (s.heap.objs.size+1) R)
  { s with heap:=(s.heap.push PySem.W.emptyDict).push (PySem.W.instObj C s.heap.objs.size) }):
 codeAny (model prog w) A (.call (.ref C) ⟨vs,kw⟩) R s:=by
 obtain ⟨hh,g,d,t,os⟩:=s
 exact PySem.W.make_core (PySem.W.makes_of X hm) (PySem.W.looks_findIn X hi) (fun self=>PySem.W.bind_fn X self hf) (.inl rfl) h
end
def zbq (f:Str) (v:V):List (Str×V)->List (Str×V)
 | []=>[(f,v)]
 | (g,x)::r=>if g=f then (g,v)::r else (g,x)::zbq f v r
theorem za3 (f g:Str) (v:V):∀fs:List (Str×V),(zbq f v fs).lookup g=if g=f then some v else fs.lookup g
 | []=>by
  show List.lookup g [(f,v)]=_
  by_cases h:g=f
  ·have hb:(g==f)=true:=beq_iff_eq.mpr h
   simp only [List.lookup,hb,if_pos h]
  ·have hb:(g==f)=false:=beq_eq_false_iff_ne.mpr h
   simp only [List.lookup,hb,if_neg h]
 | (k,x)::r=>by
  have ih:=za3 f g v r
  rw [show zbq f v ((k,x)::r)=(if k=f then (k,v)::r else (k,x)::zbq f v r) from rfl]
  by_cases hk:k=f
  ·rw [if_pos hk]
   by_cases h:g=k
   ·have hb:(g==k)=true:=beq_iff_eq.mpr h
    simp only [List.lookup,hb,if_pos (h.trans hk)]
   ·have hb:(g==k)=false:=beq_eq_false_iff_ne.mpr h
    simp only [List.lookup,hb,if_neg (fun e:g=f=>h (e.trans hk.symm))]
  ·rw [if_neg hk]
   by_cases h:g=k
   ·have hb:(g==k)=true:=beq_iff_eq.mpr h
    simp only [List.lookup,hb,if_neg (fun e:g=f=>hk (h.symm.trans e))]
   ·have hb:(g==k)=false:=beq_eq_false_iff_ne.mpr h
    simp only [List.lookup,hb]
    exact ih
theorem zif (f:Str) (v:V):∀fs:List (Str×V),f∈(zbq f v fs).map (·.1)/\∀g,g∈fs.map (·.1)->g∈(zbq f v fs).map (·.1)
 | []=>⟨by simp [zbq],fun g h=>by simp at h⟩
 | (k,x)::r=>by
  obtain ⟨i1,i2⟩:=zif f v r
  rw [show zbq f v ((k,x)::r)=(if k=f then (k,v)::r else (k,x)::zbq f v r) from rfl]
  by_cases hk:k=f
  ·rw [if_pos hk]
   subst hk
   exact ⟨by simp,fun g h=>by simpa using h⟩
  ·rw [if_neg hk]
   refine ⟨?_,fun g h=>?_⟩
   ·rw [ZBf]
    exact ZA4 _ i1
   ·rw [ZBf] at h ⊢
    rcases ZBe.mp h with e | e
    ·exact ZBe.mpr (.inl e)
    ·exact ZA4 _ (i2 g e)
theorem zid (f:Str) (v:V):∀fs:List (Str×V),(zbq f v fs).length<=fs.length+1
 | []=>by simp [zbq]
 | (k,x)::r=>by
  have ih:=zid f v r
  rw [show zbq f v ((k,x)::r)=(if k=f then (k,v)::r else (k,x)::zbq f v r) from rfl]
  by_cases hk:k=f
  ·rw [if_pos hk,ZBp,ZBp];omega
  ·rw [if_neg hk,ZBp,ZBp];omega
theorem zkt.some_of {v:V} {o:Option Value} (r:zkt (some v) o):∃u,o=some u/\zck v u:=by
 cases o with
 | none=>exact (show False from r).elim
 | some u=>exact ⟨u,rfl,r⟩
theorem zkt.none_of {o:Option Value} (r:zkt none o):o=none:=by
 cases o with
 | none=>rfl
 | some u=>exact (show False from r).elim
theorem zqr {v:V} {u:Value} (r:zck v u):PySem.W.handedIn u=true:=by
 cases v with
 | non=>cases (show u=Value.none from r);rfl
 | bl b=>cases (show u=Value.bool b from r);rfl
 | int i=>obtain ⟨t,e⟩:=(show ∃t,u=Value.int i t from r);cases e;rfl
 | str x=>obtain ⟨t,e⟩:=(show ∃t,u=Value.str x t from r);cases e;rfl
 | byt b=>obtain ⟨t,e⟩:=(show ∃t,u=Value.bytes b t from r);cases e;rfl
 | flt b=>obtain ⟨t,e⟩:=(show ∃t,u=Value.float b t from r);cases e;rfl
 | ref a=>cases (show u=Value.ref a from r);rfl
 | ty n=>cases (show u=Value.type n from r);rfl
section
variable {P:Program} {w:World} {H H':Hp} {h h':Heap} {a C dx:Addr} {fs fs':List (Str×V)}
theorem zkg (hok:HOk P w H h) (e:H a=some (.ins C dx fs)):∃mA,zvt h a dx C mA/\(∀f,zkt (fs.lookup f) (mA f))/\PySem.Within mA (fs.map (·.1))/\fs.length<=1000/\H dx=some (.own a):=by
 obtain ⟨d,z,ne,ob,mA,n,r,q⟩:=(show zce P w H h a (.ins C dx fs) from hok a _ e)
 exact ⟨mA,⟨ob,n,ne⟩,r,q,z,d⟩
end
structure Cls (K:ZCa) (C:Addr):Prop where
 pg:PySem.W.plainGet K C Str.empty=true
 hd:PySem.W.hasDictIn K C=true
 po:PySem.W.plainOver K C=true
 sa:PySem.W.findIn K (.ref C) "__setattr__"=some (some (.builtin "object.__setattr__"))
theorem Cls.get {K:ZCa} {C:Addr} (c:Cls K C) (f:Str):PySem.W.plainGet K C f=true:=c.pg
def zec (K:ZCa) (C:Addr) (f:Str):Prop:=PySem.W.findIn K (.ref C) f=some none
theorem zec.taker {K:ZCa} {C:Addr} {f:Str} (n:zec K C f):PySem.W.takerIn K C f=some none:=by
 unfold PySem.W.takerIn
 rw [show PySem.W.findIn K (.ref C) f=some none from n]
 rfl
structure zks (K:ZCa) (C:Addr) (m:Str) (f:Addr):Prop where
 at_:PySem.W.findIn K (.ref C) m=some (some (.ref f))
 fn:PySem.W.isFn K (.ref f)=true
 kp:PySem.W.keepIn K (.ref f)=true
section
variable {X:Cx} {pins:List (Addr×Obj)} {σ:St} {H:Hp} {s:Shared} {a C dx:Addr} {fs:List (Str×V)} {f:Str} {v:V} {A:Around} {E:Value->Shared->Prop}
theorem zof {b:Bool} {Q:Value->Shared->Prop} (I:Inv X pins σ H s) (e:H a=some (.ins C dx fs)) (c:Cls X.K C) (n:zec X.K C f) (l:fs.lookup f=some v)
 (h:∀u s',Inv X pins σ H s'->zck v u->Q u s'):wpAny (model X.prog X.w) A (getAttr (.ref a) f b) Q E s:=by
 obtain ⟨mA,O,r,_,_,_⟩:=zkg I.hok e
 obtain ⟨u,hu,ru⟩:=zkt.some_of (v:=v) (o:=mA f) (by rw [<-l];exact r f)
 exact zve I.kIn O (c.get f) c.hd n hu (zqr ru) (h u _ (I.tok _) ru)
theorem zji {m:Str} {g:Addr} {pl:Sem Bool} {Q:Value×List Value->Shared->Prop} (I:Inv X pins σ H s) (e:H a=some (.ins C dx fs)) (c:Cls X.K C) (k:zks X.K C m g) (l:fs.lookup m=none)
 (h:Q (.ref g,[.ref a]) s):wpAny (model X.prog X.w) A (getMethod (.ref a) m pl) Q E s:=by
 obtain ⟨mA,O,r,_,_,_⟩:=zkg I.hok e
 have hn:mA m=none:=zkt.none_of (by rw [<-l];exact r m)
 exact zss I.kIn O (c.get m) k.at_ k.fn hn h
theorem zn5 {y:V} {u:Value} {Q:Unit->Shared->Prop} (I:Inv X pins σ H s) (e:H a=some (.ins C dx fs)) (c:Cls X.K C) (n:zec X.K C f) (hl:fs.length<1000) (ry:zck y u)
 (h:∀s',Inv X pins σ (upd H a (.ins C dx (zbq f y fs))) s'->Q () s'):wpAny (model X.prog X.w) A (setAttr (.ref a) f u) Q E s:=by
 obtain ⟨mA,O,r,wi,_,ho⟩:=zkg I.hok e
 have hz:(fs.map (·.1)).length<=sizeLine:=by rw [ZAu,sizeLine_eq];omega
 refine zus I.kIn O c.sa c.po n.taker c.hd wi hz fun h' O' sb=>h _ ?_
 have hd:∃o,h'.get? dx=some o:=let ⟨o,_,_,e',_⟩:=O'.ns;⟨o,e'⟩
 refine I.write (x:=a) (e:=dx) (by rw [e];exact True.intro) (.inr ho) (fun b q hb z=>(sb.2 b hb).trans z) hd ?_
 refine ⟨by rw [zai O.ne];exact ho,?_,O.ne,O'.obj,_,O'.ns,fun g=>?_,fun g hg=>?_⟩
 ·have:=zid f y fs;omega
 ·show zkt ((zbq f y fs).lookup g) (if g=f then some u else mA g)
  rw [za3]
  by_cases q:g=f
  ·rw [if_pos q,if_pos q];exact ry
  ·rw [if_neg q,if_neg q];exact r g
 ·by_cases q:g=f
  ·rw [q];exact (zif f y fs).1
  ·refine (zif f y fs).2 g (wi g fun z=>hg ?_)
   show (if g=f then some u else mA g)=none
   rw [if_neg q];exact z
theorem Inv.made (I:Inv X pins σ H s):Inv X pins σ (upd (upd H s.heap.objs.size (.own (s.heap.objs.size+1))) (s.heap.objs.size+1) (.ins C s.heap.objs.size []))
 { s with heap:=(s.heap.push PySem.W.emptyDict).push (PySem.W.instObj C s.heap.objs.size) }:=by
 have e1:(s.heap.push PySem.W.emptyDict).get? s.heap.objs.size=some PySem.W.emptyDict:=ZBh s.heap rfl
 have e2:((s.heap.push PySem.W.emptyDict).push (PySem.W.instObj C s.heap.objs.size)).get? (s.heap.objs.size+1)=some (PySem.W.instObj C s.heap.objs.size):=by
  have:=ZBh (s.heap.push PySem.W.emptyDict) (o:=PySem.W.instObj C s.heap.objs.size) rfl
  rwa [Heap.size_push] at this
 have e3:(s.heap.push PySem.W.emptyDict).Ns s.heap.objs.size (fun _=>none):=⟨PySem.W.emptyDict,#[],_,e1,rfl,(fun e he=>absurd he (by simp)),fun _=>rfl⟩
 have I1:=I.laid (a:=s.heap.objs.size) (o:=.own (s.heap.objs.size+1)) (h':=s.heap.push PySem.W.emptyDict) (t':=s.toks) (fun b u q=>ZAy _ q) (ZAw _) ⟨_,e1⟩
 refine I1.laid (a:=s.heap.objs.size+1) (o:=.ins C s.heap.objs.size []) (t':=s.toks) (fun b u q=>ZAy _ q) (Nat.le_of_eq (Heap.size_push _ _)) ?_
 have ne:s.heap.objs.size≠s.heap.objs.size+1:=ZBj (Nat.lt_succ_self _)
 refine ⟨by rw [zai ne,zaa],ZBa _,ne,e2,fun _=>none,(Heap.Ns1.of_empty e3).at fun o q=>ZAy _ q,fun _=>True.intro,fun y hy=>absurd rfl hy⟩
theorem zvk {prog:Program} {w:World} {env:Env} {e:Expr} {f:Str} {pos:Pos} {s:Shared} {Q:Value->Shared->Prop} (hb:attributeBase e f env (eval e env)=eval e env)
 (h:wpAny (model prog w) A (eval e env) (fun o s₁=>wpAny (model prog w) A (getAttr o f true) Q E s₁) E s):wpAny (model prog w) A (eval (.Attribute e f pos) env) Q E s:=
 Attribute_any_ h (by rw [arm_eval_Attribute,hb])
end
def zzp (K:ZCa) (ta:TE) (f:Str):TE:=fun σ H Q=>ta σ H fun x H1=>∃a C dx fs v,x=.ref a/\H1 a=some (.ins C dx fs)/\Cls K C/\zec K C f/\fs.lookup f=some v/\Q v H1
def zAr (K:ZCa) (ta tv:TE) (f:Str):TS:=fun D σ H=>tv σ H fun y H1=>ta σ H1 fun x H2=>∃a C dx fs,x=.ref a/\H2 a=some (.ins C dx fs)/\Cls K C/\zec K C f/\fs.length<1000/\
 D.nx σ (upd H2 a (.ins C dx (zbq f y fs)))
section
variable {X:Cx} {o e value:Expr} {f:Str} {pos pos' tpos:Pos} {ta tv:TE}
theorem zcb (he:PE X e ta) (hb:attributeBase e f X.env (eval e X.env)=eval e X.env):PE X (.Attribute e f pos) (zzp X.K ta f):=by
 intro pins s σ H Q I h
 refine zvk hb (thn (he pins s σ H _ I h) fun u s1 zz=>?_)
 obtain ⟨x,H1,I1,rx,a,C,dx,fs,v,ex,ea,c,n,l,q⟩:=zz
 subst ex
 obtain rfl:u=Value.ref a:=rx
 exact zof I1 ea c n l fun u' s2 I2 ru=>⟨v,H1,I2,ru,q⟩
theorem zf2 (ha:PE X o ta) (hv:PE X value tv) (hs:swapsWith value (some (.Attribute o f pos')) pos.line X.env=pure false):PS X (.Assign [.Attribute o f pos'] value pos) (zAr X.K ta tv f):=by
 intro pins s σ H D I h
 refine plainObj_wpAny_Assign_Attribute (thn (hv pins s σ H _ I h) fun u s1 zz=>L2.el5 zz fun y H1 I1 ry q=>thn (ha pins s1 σ H1 _ I1 q) fun ov s2 zz=>?_) hs
 obtain ⟨x,H2,I2,rx,a,C,dx,fs,ex,ea,c,n,l,q2⟩:=zz
 subst ex
 obtain rfl:ov=Value.ref a:=rx
 exact zn5 I2 ea c n l ry fun s3 I3=>⟨σ,_,I3,q2⟩
end
section
variable {X:Cx} {pins:List (Addr×Obj)} {σ:St} {H:Hp} {s:Shared} {A:Around} {E:Value->Shared->Prop} {Q:Value->Shared->Prop} {c:Value} {b:Bool}
inductive zom (K:ZCa) (H:Hp):V->Value->Prop where
 | non:zom K H .non (.type "NoneType")
 | bl (x:Bool):zom K H (.bl x) (.type "bool")
 | int (i:Int):zom K H (.int i) (.type "int")
 | str (x:Str):zom K H (.str x) (.type "str")
 | flt (x:UInt64):zom K H (.flt x) (.type "float")
 | lst {a:Addr} {xs:List V} (e:H a=some (.lst xs)):zom K H (.ref a) (.type "list")
 | frz {a:Addr} {o:Obj} {xs:List V} (e:H a=some (.frz o (.lst xs))):zom K H (.ref a) (.type "list")
 | tup {a:Addr} {xs:List V} (e:H a=some (.tup xs)):zom K H (.ref a) (.type "tuple")
 | dK {a:Addr} {kvs:List (Key×V)} (e:H a=some (.dK kvs)):zom K H (.ref a) (.type "dict")
 | dT {a:Addr} {kvs:List (List Key×V)} (e:H a=some (.dT kvs)):zom K H (.ref a) (.type "dict")
 | ins {a C dx:Addr} {fs:List (Str×V)} (e:H a=some (.ins C dx fs)) (cl:Cls K C) (ha:PySem.W.findIn K (.ref C) "__class__"=some (some (.builtin "object.__class__")))
  (hn:PySem.W.specialIn K (.builtin "object.__class__") "__get__"=some (some (.builtin "getset_descriptor.__get__"))) (htk:PySem.W.takesIn K (.builtin "object.__class__")=some true)
  (hm:PySem.W.mroIn K C (.type "object")=some true):zom K H (.ref a) (.ref C)
theorem zql {x:V} {u t:Value} (I:Inv X pins σ H s) (rx:zck x u) (ty:zom X.K H x t) (e:PySem.W.kitOne X.K t c=some b) (h:∀tk,Q (.bool b) { s with toks:=tk }):
 wpAny (model X.prog X.w) A (call (.builtin "isinstance") [u,c]) Q E s:=by
 cases ty with
 | non=>cases (show u=Value.none from rx);exact PySem.W.kia_one PySem.W.kitx_none I.kIn True.intro e nofun h
 | bl y=>cases (show u=Value.bool y from rx);exact PySem.W.kia_one PySem.W.kitx_bool I.kIn True.intro e nofun h
 | int i=>obtain ⟨t,q⟩:=(show ∃t,u=Value.int i t from rx);cases q;exact PySem.W.kia_one PySem.W.kitx_int I.kIn True.intro e nofun h
 | str y=>obtain ⟨t,q⟩:=(show ∃t,u=Value.str y t from rx);cases q;exact PySem.W.kia_one PySem.W.kitx_str I.kIn True.intro e nofun h
 | flt y=>obtain ⟨t,q⟩:=(show ∃t,u=Value.float y t from rx);cases q;exact PySem.W.kia_one PySem.W.kitx_float I.kIn True.intro e nofun h
 | @lst a xs ea=>
  cases (show u=Value.ref a from rx)
  obtain ⟨_,_,n,_,h1⟩:=(show zce X.prog X.w H s.heap a (.lst xs) from I.hok a _ ea)
  exact PySem.W.kia_one PySem.W.kitx_list I.kIn ⟨_,h1,rfl⟩ e nofun h
 | @frz a ob xs ea=>
  cases (show u=Value.ref a from rx)
  obtain ⟨_,_,_,n,_,h1⟩:=(show zce X.prog X.w H s.heap a (.frz ob (.lst xs)) from I.hok a _ ea)
  exact PySem.W.kia_one PySem.W.kitx_list I.kIn ⟨_,h1,rfl⟩ e nofun h
 | @tup a xs ea=>
  cases (show u=Value.ref a from rx)
  obtain ⟨_,_,_,p⟩:=(show zce X.prog X.w H s.heap a (.tup xs) from I.hok a _ ea)
  obtain ⟨o,h1,h2,_⟩:=p
  exact PySem.W.kia_one PySem.W.kitx_tuple I.kIn ⟨o,h1,h2⟩ e nofun h
 | @dK a kvs ea=>
  cases (show u=Value.ref a from rx)
  obtain ⟨_,_,vs,_,p⟩:=(show zce X.prog X.w H s.heap a (.dK kvs) from I.hok a _ ea)
  obtain ⟨o,es,ep,h1,h2,_⟩:=p
  exact PySem.W.kia_one PySem.W.kitx_dict I.kIn ⟨o,h1,h2.1⟩ e nofun h
 | @dT a kvs ea=>
  cases (show u=Value.ref a from rx)
  obtain ⟨_,_,xs,_,o,es,ep,h1,h2,_⟩:=(show zce X.prog X.w H s.heap a (.dT kvs) from I.hok a _ ea)
  exact PySem.W.kia_one PySem.W.kitx_dict I.kIn ⟨o,h1,h2.1⟩ e nofun h
 | @ins a C dx fs ea cl ha hn htk hm=>
  cases (show u=Value.ref a from rx)
  obtain ⟨mA,O,_⟩:=zkg I.hok ea
  obtain ⟨od,J,_⟩:=O.look
  exact PySem.W.kia_one (PySem.W.kitx_own (cl.get _) cl.hd ha hn htk hm) I.kIn J e nofun h
end
structure zel (k:Nat) (A:Around):Prop where
 hd:A.handled=none
 dp:A.depth+3*k+5<recursionLimit
 un:A.units+16*k+200<cLine
theorem zel.mono {j k:Nat} {A:Around} (r:zel k A) (h:j<=k):zel j A:=⟨r.hd,by have:=r.dp;omega,by have:=r.un;omega⟩
theorem zel.deeper {k:Nat} {A:Around} (r:zel (k+1) A) (env:Env):zel k (A.deeper env):=
 ⟨r.hd,by have:=r.dp;show A.depth+1+3*k+5<_;omega,by have:=r.un;show A.units+3+16*k+200<_;omega⟩
theorem zob {A:Around} {C:Addr} {us:List Value} {kw:List (Str×Value)}:(A.under (.builtin "type.__call__" ⟨.ref C::us,kw⟩)).depth=A.depth+1:=by
 first | rfl | simp [Around.under,Code.weight,Code.isCreation,Code.isGuard,Code.isCaller,Code.frames,Code.isFrame,guardIds]
theorem zoa {A:Around} {C:Addr} {us:List Value} {kw:List (Str×Value)}:(A.under (.builtin "type.__call__" ⟨.ref C::us,kw⟩)).units=A.units+1:=by
 first | rfl | simp [Around.under,Code.cUnits,Code.frames,Code.isFrame]
theorem zel.make {k:Nat} {A:Around} (r:zel (k+1) A) (C:Addr) (us:List Value) (kw:List (Str×Value)):zel k (A.under (.builtin "type.__call__" ⟨.ref C::us,kw⟩)):=
 ⟨r.hd,by have:=r.dp;rw [zob];omega,by have:=r.un;rw [zoa];omega⟩
theorem zel.depth {k:Nat} {A:Around} (r:zel k A):A.depth<recursionLimit:=by have:=r.dp;omega
theorem zel.units {k:Nat} {A:Around} (r:zel k A):A.units+64<cLine:=by have:=r.un;omega
def zri:TA:=fun _ H Q=>Q [] H
def ze6 (ta:TE) (tr:TA):TA:=fun σ H Q=>ta σ H fun x H1=>tr σ H1 fun xs H2=>Q (x::xs) H2
section
variable {X:Cx} {e:Expr} {es:List Expr} {te:TE} {t:TA} {pos:Pos}
theorem zdq:PA X [] zri:=fun _ _ _ _ H Q I h=>Calls.spliced_nil ⟨[],H,I,.nil,h⟩
theorem zd4 (ha:PE X e te) (hr:PA X es t) (hs:starEach (e::es) X.env=(false,eval e X.env)::starEach es X.env:=by rfl):PA X (e::es) (ze6 te t):=by
 intro pos pins s σ H Q I h
 rw [hs]
 show wpAny _ _ (spliced ((false,eval e X.env)::backTo pos (starEach es X.env))) _ _ s
 refine Calls.spliced_cons (thn (ha pins s σ H _ I h) fun u s1 zz=>?_)
 obtain ⟨x,H1,I1,r1,q1⟩:=zz
 exact thn (hr pos pins s1 σ H1 _ I1 q1) fun us s2 zz=>L2.el5 zz fun xs H2 I2 r2 q2=>⟨x::xs,H2,I2,.cons r1 r2,q2⟩
theorem szl {n:Nat} (h:Nat.ble n sizeLine=true):n<=sizeLine:=Nat.le_of_ble_eq_true h
theorem za5 {X:Cx} {x:Str} {e:Expr} {te:TE} {pos pos':Pos} (i:Nat) (hN:X.N.Nodup) (he:PE X e te) (hi:X.N[i]?=some x:=by rfl) (hx:Loc X.env.scope x:=by exact Or.inl rfl) (hs:swapsWith e (some (.Name x pos')) pos.line X.env=pure false:=by rfl) (hf:X.fn x=true\/X.env.scope.names.lookup x=some .local:=by first | exact .inl rfl | exact .inr rfl | assumption):PS X (.Assign [.Name x pos'] e pos) (zwc te (zmj i)):=zg7 (i:=i) hN hi hx he hs hf
theorem zcw {X:Cx} {x:Str} {pos:Pos} (i:Nat) (hN:X.N.Nodup) (hi:X.N[i]?=some x:=by rfl) (hx:Loc X.env.scope x:=by exact Or.inl rfl) (hf:X.fn x=true\/X.env.scope.names.lookup x=some .local:=by first | exact .inl rfl | exact .inr rfl | assumption):PG X (.Name x pos) (zmj i):=zpx (i:=i) hN hi hx hf
theorem pa1 {X:Cx} {a:Expr} {ta:TE} (ha:PE X a ta) (hs:starEach [a] X.env=(false,eval a X.env)::starEach [] X.env:=by rfl):PA X [a] (ze6 ta zri):=zd4 ha zdq hs
theorem pa2 {X:Cx} {a b:Expr} {ta tb:TE} (ha:PE X a ta) (hb:PE X b tb) (hs:starEach [a,b] X.env=(false,eval a X.env)::starEach [b] X.env:=by rfl) (hs2:starEach [b] X.env=(false,eval b X.env)::starEach [] X.env:=by rfl):PA X [a,b] (ze6 ta (ze6 tb zri)):=zd4 ha (pa1 hb hs2) hs
theorem pa3 {X:Cx} {a b c:Expr} {ta tb tc:TE} (ha:PE X a ta) (hb:PE X b tb) (hc:PE X c tc) (hs:starEach [a,b,c] X.env=(false,eval a X.env)::starEach [b,c] X.env:=by rfl) (hs2:starEach [b,c] X.env=(false,eval b X.env)::starEach [c] X.env:=by rfl) (hs3:starEach [c] X.env=(false,eval c X.env)::starEach [] X.env:=by rfl):PA X [a,b,c] (ze6 ta (ze6 tb (ze6 tc zri))):=zd4 ha (pa2 hb hc hs2 hs3) hs
theorem pa4 {X:Cx} {a b c d:Expr} {ta tb tc td:TE} (ha:PE X a ta) (hb:PE X b tb) (hc:PE X c tc) (hd:PE X d td) (hs:starEach [a,b,c,d] X.env=(false,eval a X.env)::starEach [b,c,d] X.env:=by rfl) (hs2:starEach [b,c,d] X.env=(false,eval b X.env)::starEach [c,d] X.env:=by rfl) (hs3:starEach [c,d] X.env=(false,eval c X.env)::starEach [d] X.env:=by rfl) (hs4:starEach [d] X.env=(false,eval d X.env)::starEach [] X.env:=by rfl):PA X [a,b,c,d] (ze6 ta (ze6 tb (ze6 tc (ze6 td zri)))):=zd4 ha (pa3 hb hc hd hs2 hs3 hs4) hs
def zxy (t:TA):TE:=fun σ H Q=>t σ H fun xs H1=>xs.length<=sizeLine/\∀p,H1 p=none->Q (.ref p) (upd H1 p (.tup xs))
def zAa (t:TA):TE:=fun σ H Q=>t σ H fun xs H1=>xs.length<=sizeLine/\∀p,H1 p=none->Q (.ref p) (upd H1 p (.lst xs))
theorem zaw {x1} (h:PA X es t):PE X (.Tuple es x1 pos) (zxy t):=by
 intro pins s σ H Q I hq
 refine wpAny_Tuple_spliced (thn (h pos pins s σ H _ I hq) fun us s1 zz=>?_)
 obtain ⟨xs,H1,I1,r,z,q⟩:=zz
 refine ⟨by rw [<-r.length];exact z,?_⟩
 have hf:H1 s1.heap.objs.size=none:=I1.hok.fresh (ZAw _)
 refine ⟨.ref s1.heap.objs.size,upd H1 s1.heap.objs.size (.tup xs),I1.laid (t':=s1.toks) (fun b u e=>ZAy _ e) (ZAw _) ?_,rfl,q _ hf⟩
 exact ⟨z,us,r,⟨_,ZBh _ rfl,rfl,_,rfl⟩⟩
theorem zcq (h:PA X es t):PE X (.List es pos) (zAa t):=by
 intro pins s σ H Q I hq
 refine wpAny_List_spliced (thn (h pos pins s σ H _ I hq) fun us s1 zz=>?_)
 obtain ⟨xs,H1,I1,r,z,q⟩:=zz
 refine ⟨by rw [<-r.length];exact z,?_⟩
 have hf:H1 s1.heap.objs.size=none:=I1.hok.fresh (ZAw _)
 refine ⟨.ref s1.heap.objs.size,upd H1 s1.heap.objs.size (.lst xs),I1.laid (t':=s1.toks) (fun b u e=>ZAy _ e) (ZAw _) ?_,rfl,q _ hf⟩
 exact ⟨z,us,0,r,ZBh _ rfl⟩
end
abbrev Sp:=List V->Hp->VK->XK->Prop
abbrev CXT:=List Env->Hp->Shared->XK->Value->Shared->Prop
structure zs8 (P:Program) (w:World) (K:ZCa) (mg:Str->Option Value) (base:Heap) (A:Around) (outer:List Env) (s:Shared) (H:Hp):Prop where
 frames:A.frames=some outer
 mod:Mod K mg base
 bs:∀b o,base.get? b=some o->s.heap.get? b=some o/\H b=none
 bsz:base.objs.size<=s.heap.objs.size
 funs:s.heap.FunFrames base outer
 frf:∀b∈frs outer,H b=none
 hok:HOk P w H s.heap
 bare:AllBare s.gens
def CE (outer:List Env) (P:Program) (w:World) (H:Hp) (s:Shared) (Q:VK) (u:Value) (s':Shared):Prop:=
 ∃v H',s'.os=s.os/\AllBare s'.gens/\Un (frs outer) [] H H' s.heap s'.heap/\HOk P w H' s'.heap/\zck v u/\Q v H'
def CR (CX:CXT) (outer:List Env) (P:Program) (w:World) (H:Hp) (s:Shared) (Q:VK) (E:XK) (r:Result) (s':Shared):Prop:=
 match r with
 | .ok (.ret u)=>CE outer P w H s Q u s'
 | .ok _=>False
 | .error e=>CX outer H s E e s'
structure zbb (P:Program) (w:World) (K:ZCa) (mg:Str->Option Value) (base:Heap) (CX:CXT) (k:Nat) (f:Addr) (fd:FuncData) (ps:List Str) (sp:Sp):Prop where
 len:∀vs H Q E,sp vs H Q E->vs.length=ps.length
 run:∀(A:Around) (outer:List Env) (s:Shared) (H:Hp) (args:Args) (us:List Value) (vs:List V) (Q:VK) (E:XK),zel k A->zs8 P w K mg base A outer s H->BindsTo s fd args (ps.zip us)->zb3 vs us->sp vs H Q E->
  codeAny (model P w) A (.call (.ref f) args) (CR CX outer P w H s Q E) s
theorem zs8.make {P:Program} {w:World} {K:ZCa} {mg:Str->Option Value} {base:Heap} {A:Around} {outer:List Env} {s:Shared} {H:Hp} (e:zs8 P w K mg base A outer s H) (C:Addr) (us:List Value) (kw:List (Str×Value)):
 zs8 P w K mg base (A.under (.builtin "type.__call__" ⟨.ref C::us,kw⟩)) outer s H:=⟨by first | exact e.frames | (simpa [Around.under,Code.envs,Code.isFrame,pushEnvs] using e.frames),e.mod,e.bs,e.bsz,e.funs,e.frf,e.hok,e.bare⟩
section
variable {X:Cx} {pins:List (Addr×Obj)} {σ:St} {H:Hp} {s s':Shared}
theorem Inv.env0 (I:Inv X pins σ H s):zs8 X.prog X.w X.K X.mg X.base X.A X.stack s H:=
 ⟨I.ok.frames,I.ok.mod,I.bs,ZBg I.ok.bsz I.sz,I.stack,I.stkFree,I.hok,I.bare⟩
theorem Inv.after {Q:VK} {u:Value} (I:Inv X pins σ H s) (h:CE X.stack X.prog X.w H s Q u s'):EP X pins σ Q u s':=by
 obtain ⟨v,H',os,bare,un,hok,r,q⟩:=h
 obtain ⟨hh,g,d,t,os'⟩:=s'
 obtain rfl:os'=s.os:=os
 exact ⟨v,H',I.call (h':=hh) (g':=g) (d':=d) (t':=t) (ch:=[]) un hok bare (fun b z=>absurd z (by simp)),r,q⟩
end
def zwb (sp:Sp) (dvs:List V) (E:XK) (t:TA):TE:=fun σ H Q=>t σ H fun vs H1=>sp (vs++dvs) H1 Q E
def zul (C:Addr) (m:Str) (sp:Sp) (dvs:List V) (E:XK) (ta:TE) (t:TA):TE:=fun σ H Q=>ta σ H fun x H1=>∃a dx fs,x=.ref a/\H1 a=some (.ins C dx fs)/\fs.lookup m=none/\
 t σ H1 fun vs H2=>sp (x::(vs++dvs)) H2 Q E
def zx3 (C:Addr) (sp:Sp) (dvs:List V) (E:XK) (t:TA):TE:=fun σ H Q=>t σ H fun vs H1=>∀x dx,H1 x=none->H1 dx=none->dx≠x->
 sp (.ref x::(vs++dvs)) (upd (upd H1 dx (.own x)) x (.ins C dx [])) (fun v H2=>v=.non/\Q (.ref x) H2) E
def zdd (K:ZCa) (fd:FuncData) (ps:List Str) (ds:List Value):Prop:=
 ∀(s:Shared) (us:List Value),K.In s.heap->(us++ds).length=ps.length->BindsTo s fd ⟨us,[]⟩ (ps.zip (us++ds))
theorem zdd.all {K:ZCa} {fd:FuncData} {ps:List Str} (h:∀us:List Value,us.length=ps.length->bindArgs fd ⟨us,[]⟩=pure (ps.zip us)):zdd K fd ps []:=fun s us _ hl=>by
 rw [List.append_nil] at hl ⊢
 exact .of_eq (h us hl)
def zir (CX:CXT) (X:Cx) (E:XK):Prop:=∀(pins:List (Addr×Obj)) (σ:St) (H:Hp) (s:Shared) (e:Value) (s':Shared),Inv X pins σ H s->CX X.stack H s E e s'->X.xe e s'
section
variable {X:Cx} {CX:CXT} {k:Nat} {f C:Addr} {fd:FuncData} {ps:List Str} {sp:Sp} {dvs:List V} {ds:List Value} {E:XK} {x m:Str} {p pos apos:Pos} {e o:Expr} {es:List Expr} {ta:TE} {t:TA}
theorem zpn {pins:List (Addr×Obj)} {σ:St} {H:Hp} {s:Shared} {Q:VK} {us:List Value} {vs:List V} (F:zbb X.prog X.w X.K X.mg X.base CX k f fd ps sp) (hr:zel k X.A) (hb:zdd X.K fd ps ds) (hd:zb3 dvs ds) (hx:zir CX X E)
 (I:Inv X pins σ H s) (r:zb3 vs us) (h:sp (vs++dvs) H Q E):wpAny (model X.prog X.w) X.A (call (.ref f) us) (EP X pins σ Q) X.xe s:=by
 have r2:zb3 (vs++dvs) (us++ds):=r.append hd
 have hl:(us++ds).length=ps.length:=by rw [<-r2.length];exact F.len _ _ _ _ h
 refine wpAny_call (codeAny_mono (F.run X.A X.stack s H ⟨us,[]⟩ (us++ds) (vs++dvs) Q E hr I.env0 (hb s us I.kIn hl) r2 h) fun r s' hq=>?_)
 cases r with
 | error e=>exact hx pins σ H s e s' I hq
 | ok fl=>
  cases fl with
  | ret u=>exact I.after hq
  | next=>exact False.elim hq
  | brk=>exact False.elim hq
  | cont=>exact False.elim hq
theorem zu3 (F:zbb X.prog X.w X.K X.mg X.base CX k f fd ps sp) (hr:zel k X.A) (hg:Gl X x) (hm:X.mg x=some (.ref f)) (hk:PySem.W.keepIn X.K (.ref f)=true) (hb:zdd X.K fd ps ds) (hd:zb3 dvs ds) (hx:zir CX X E)
 (ha:PA X (e::es) t) (hdb:(x==("__debug__":Str))=false:=by decide) (he:starEach (e::es) X.env=(false,eval e X.env)::starEach es X.env:=by rfl) (hpl:(backTo pos (starEach es X.env)).any (·.1)=false:=by rfl):
 PE X (.Call (.Name x p) (e::es) [] pos) (zwb sp dvs E t):=by
 intro pins s σ H Q I h
 refine wpAny_Call_Name_kw (zmg I hg hm ?_ hdb)
 refine PySem.W.callWith_K (h₀:=X.base) I.ok.mod.kin hk (thn (ha pos pins s σ H _ I h) fun us s1 zz=>L2.el5 zz fun vs H1 I1 r q=>⟨I1.kIn,?_⟩) he hpl
 exact zpn F hr hb hd hx I1 r q
theorem zca {pl:Sem Bool} (he:PE X o ta) (c:Cls X.K C) (hm:zks X.K C m f) (F:zbb X.prog X.w X.K X.mg X.base CX k f fd ps sp) (hr:zel k X.A) (hb:zdd X.K fd ps ds) (hd:zb3 dvs ds) (hx:zir CX X E) (ha:PA X (e::es) t)
 (hst:starEach (e::es) X.env=(false,eval e X.env)::starEach es X.env:=by rfl) (hpl:(backTo pos (starEach es X.env)).any (·.1)=false:=by rfl)
 (ht:eval (.Call (.Attribute o m apos) (e::es) [] pos) X.env=(do
  let ov <-eval o X.env
  standAt apos.atName
  let (f,first) <-holding [ov] (getMethod ov m pl)
  callWith pos f first (backTo pos (starEach (e::es) X.env)) (backToKw pos (keywordEach [] X.env))):=by rfl):
 PE X (.Call (.Attribute o m apos) (e::es) [] pos) (zul C m sp dvs E ta t):=by
 intro pins s σ H Q I h
 refine PySem.W.methodCall_KW (pl:=pl) (thn (he pins s σ H _ I h) fun u s1 zz=>?_) ht
 obtain ⟨x,H1,I1,rx,a,dx,fs,ex,ea,l,q⟩:=zz
 subst ex
 obtain rfl:u=Value.ref a:=rx
 refine zji I1 ea c hm l ?_
 refine PySem.W.callWith_K (first:=[.ref a]) (h₀:=X.base) I.ok.mod.kin hm.kp (thn (ha pos pins s1 σ H1 _ I1 q) fun us s2 zz=>L2.el5 zz fun vs H2 I2 r q2=>⟨I2.kIn,?_⟩) hst hpl
 exact zpn (us:=.ref a::us) (vs:=.ref a::vs) F hr hb hd hx I2 (.cons rfl r) q2
theorem zho {pl:Sem Bool} (he:PE X o ta) (c:Cls X.K C) (hm:zks X.K C m f) (F:zbb X.prog X.w X.K X.mg X.base CX k f fd ps sp) (hr:zel k X.A) (hb:zdd X.K fd ps ds) (hd:zb3 dvs ds) (hx:zir CX X E)
 (ht:eval (.Call (.Attribute o m apos) [] [] pos) X.env=(do
  let ov <-eval o X.env
  standAt apos.atName
  let (f,first) <-holding [ov] (getMethod ov m pl)
  callWith pos f first (backTo pos (starEach [] X.env)) (backToKw pos (keywordEach [] X.env))):=by rfl):
 PE X (.Call (.Attribute o m apos) [] [] pos) (zul C m sp dvs E ta zri):=by
 intro pins s σ H Q I h
 refine PySem.W.methodCall_KW (pl:=pl) (thn (he pins s σ H _ I h) fun u s1 zz=>?_) ht
 obtain ⟨x,H1,I1,rx,a,dx,fs,ex,ea,l,q⟩:=zz
 subst ex
 obtain rfl:u=Value.ref a:=rx
 refine zji I1 ea c hm l ?_
 exact PySem.W.callWith_K0 (first:=[.ref a]) I1.kIn hm.kp (zpn (us:=[.ref a]) (vs:=[.ref a]) F hr hb hd hx I1 (.cons rfl .nil) q)
structure Mk (K:ZCa) (C f:Addr):Prop where
 makes:PySem.W.makesIn K C=true
 init:PySem.W.findIn K (.ref C) "__init__"=some (some (.ref f))
 fn:PySem.W.isFn K (.ref f)=true
 kp:PySem.W.keepIn K (.ref C)=true
theorem zr3 {pins:List (Addr×Obj)} {σ:St} {H:Hp} {s:Shared} {Q:VK} {us:List Value} {vs:List V} (M:Mk X.K C f) (F:zbb X.prog X.w X.K X.mg X.base CX k f fd ps sp) (hr:zel (k+1) X.A) (hb:zdd X.K fd ps ds) (hd:zb3 dvs ds)
 (hx:zir CX X E) (I:Inv X pins σ H s) (r:zb3 vs us)
 (h:∀x dx,H x=none->H dx=none->dx≠x->sp (.ref x::(vs++dvs)) (upd (upd H dx (.own x)) x (.ins C dx [])) (fun v H2=>v=.non/\Q (.ref x) H2) E):
 wpAny (model X.prog X.w) X.A (call (.ref C) us) (EP X pins σ Q) X.xe s:=by
 have hq:=h (s.heap.objs.size+1) s.heap.objs.size (I.hok.fresh (ZAe _)) (I.hok.fresh (ZAw _)) (ZBj (Nat.lt_succ_self _))
 have I2:=Inv.made (C:=C) I
 have r2:zb3 (V.ref (s.heap.objs.size+1)::(vs++dvs)) (Value.ref (s.heap.objs.size+1)::(us++ds)):=.cons rfl (r.append hd)
 have hl:(Value.ref (s.heap.objs.size+1)::us++ds).length=ps.length:=by
  have e:=r2.length
  rw [F.len _ _ _ _ hq] at e
  exact e.symm
 refine wpAny_call (zsh (f:=f) I.kIn M.makes M.init (beq_iff_eq.mp M.fn) (codeAny_mono (F.run _ X.stack _ _ ⟨Value.ref (s.heap.objs.size+1)::us,[]⟩ (Value.ref (s.heap.objs.size+1)::(us++ds)) _ _ E (hr.make C us [])
  (I2.env0.make C us []) (hb _ (Value.ref (s.heap.objs.size+1)::us) I2.kIn hl) r2 hq) fun r s' hq'=>?_))
 cases r with
 | error e=>exact hx pins σ _ _ e s' I2 hq'
 | ok fl=>
  cases fl with
  | ret u=>
   obtain ⟨v,H',I3,rv,ev,q3⟩:=I2.after hq'
   subst ev
   exact ⟨rv,⟨V.ref (s.heap.objs.size+1),H',I3,rfl,q3⟩⟩
  | next=>exact False.elim hq'
  | brk=>exact False.elim hq'
  | cont=>exact False.elim hq'
theorem zpz (M:Mk X.K C f) (F:zbb X.prog X.w X.K X.mg X.base CX k f fd ps sp) (hr:zel (k+1) X.A) (hg:Gl X x) (hm:X.mg x=some (.ref C)) (hb:zdd X.K fd ps ds) (hd:zb3 dvs ds) (hx:zir CX X E)
 (ha:PA X (e::es) t) (hdb:(x==("__debug__":Str))=false:=by decide) (he:starEach (e::es) X.env=(false,eval e X.env)::starEach es X.env:=by rfl) (hpl:(backTo pos (starEach es X.env)).any (·.1)=false:=by rfl):
 PE X (.Call (.Name x p) (e::es) [] pos) (zx3 C sp dvs E t):=by
 intro pins s σ H Q I h
 refine wpAny_Call_Name_kw (zmg I hg hm ?_ hdb)
 refine PySem.W.callWith_K (h₀:=X.base) I.ok.mod.kin M.kp (thn (ha pos pins s σ H _ I h) fun us s1 zz=>L2.el5 zz fun vs H1 I1 r q=>⟨I1.kIn,?_⟩) he hpl
 exact zr3 M F hr hb hd hx I1 r q
end
section
variable {X:Cx} {CX:CXT} {k:Nat} {f C:Addr} {fd:FuncData} {ps ks:List Str} {sp:Sp} {E:XK} {x m:Str} {p pos apos kpos:Pos} {e o:Expr} {es:List Expr} {kws:List Keyword} {te ta:TE} {t tk:TA} {nm:Option Str}
variable {g:List Value->List Value->List Value} {gV:List V->List V->List V}
end
structure zan (N P:List Str) (sc:Scope):Prop where
 kind:sc.kind=.function
 co:sc.isCoroutine=false
 gen:sc.isGenerator=false
 nd:N.Nodup
 pre:N.take P.length=P
 par:∀x∈P,sc.names.lookup x=some .local\/sc.names.lookup x=some .cell
 nofree:∀y∈sc.names,y.2≠.free
theorem scm {N P:List Str} {sc:Scope} (h1:sc.kind=.function:=by rfl) (h2:sc.isCoroutine=false:=by rfl) (h3:sc.isGenerator=false:=by rfl) (h4:N.Nodup:=by decide+kernel) (h5:N.take P.length=P:=by rfl) (h6:∀x∈P,sc.names.lookup x=some .local\/sc.names.lookup x=some .cell:=by decide+kernel) (h7:∀y∈sc.names,y.2≠.free:=by decide+kernel):zan N P sc:=⟨h1,h2,h3,h4,h5,h6,h7⟩
theorem zlx {kindOf:Str->Option NameKind} {x:Str}:∀{binds:List (Str×Value)} {m:Str->Option Value},(∀v,(x,v)∉binds)->bindL kindOf binds m x=m x
 | [],_,_=>rfl
 | (n,v)::r,m,h=>by
  unfold bindL
  rw [zlx fun w hw=>h w (ZA4 _ hw)]
  split
  ·have:x≠n:=by rintro rfl;exact h v ZA5
   simp [this]
  ·rfl
theorem zly {kindOf:Str->Option NameKind} {x:Str}:∀{binds:List (Str×Value)} {m:Str->Option Value},(∀v,(x,v)∉binds)->bindC kindOf binds m x=m x
 | [],_,_=>rfl
 | (n,v)::r,m,h=>by
  unfold bindC
  rw [zly fun w hw=>h w (ZA4 _ hw)]
  split
  ·rfl
  ·have:x≠n:=by rintro rfl;exact h v ZA5
   simp [this]
theorem zim {kindOf:Str->Option NameKind} {x:Str} {v:Value}:∀{P:List Str} {vs:List Value} {i:Nat} {m:Str->Option Value},P.Nodup->P[i]?=some x->vs[i]?=some v->kindOf x=some .local->
 bindL kindOf (P.zip vs) m x=some v
 | [],_,_,_,_,h,_,_=>by simp at h
 | _::_,[],_,_,_,_,h,_=>by simp at h
 | p::P,w::vs,0,m,nd,h1,h2,hk=>by
  simp at h1 h2;subst h1;subst h2
  show bindL kindOf ((p,w)::P.zip vs) m p=_
  unfold bindL
  rw [zlx fun v hv=>(List.nodup_cons.mp nd).1 (List.of_mem_zip hv).1,if_pos hk]
  simp
 | p::P,w::vs,i+1,m,nd,h1,h2,hk=>by
  show bindL kindOf ((p,w)::P.zip vs) m x=_
  unfold bindL
  exact zim (i:=i) (List.nodup_cons.mp nd).2 (by simpa using h1) (by simpa using h2) hk
theorem zin {kindOf:Str->Option NameKind} {x:Str} {v:Value}:∀{P:List Str} {vs:List Value} {i:Nat} {m:Str->Option Value},P.Nodup->P[i]?=some x->vs[i]?=some v->kindOf x≠some .local->
 bindC kindOf (P.zip vs) m x=some v
 | [],_,_,_,_,h,_,_=>by simp at h
 | _::_,[],_,_,_,_,h,_=>by simp at h
 | p::P,w::vs,0,m,nd,h1,h2,hk=>by
  simp at h1 h2;subst h1;subst h2
  show bindC kindOf ((p,w)::P.zip vs) m p=_
  unfold bindC
  rw [zly fun v hv=>(List.nodup_cons.mp nd).1 (List.of_mem_zip hv).1,if_neg hk]
  simp
 | p::P,w::vs,i+1,m,nd,h1,h2,hk=>by
  show bindC kindOf ((p,w)::P.zip vs) m x=_
  unfold bindC
  exact zin (i:=i) (List.nodup_cons.mp nd).2 (by simpa using h1) (by simpa using h2) hk
def zdo (N:List Str) (vs:List V):St:=vs.map some++List.replicate (N.length-vs.length) none
def zvz (CX:CXT) (P:Program) (w:World) (K:ZCa) (mg:Str->Option Value) (base:Heap) (N:List Str) (qual:Str) (scope:Scope) (f:Addr) (cd:Value) (A:Around) (outer:List Env) (s:Shared) (H:Hp) (E:XK):Cx where
 prog:=P
 w:=w
 K:=K
 mg:=mg
 base:=base
 A:=A.deeper (envOfC qual scope s.heap.objs.size f cd)
 N:=N
 s₀:=s
 H₀:=H
 env:=envOfC qual scope s.heap.objs.size f cd
 outer:=outer
 stack:=envOfC qual scope s.heap.objs.size f cd::outer
 ex:=[]
 calm:=true
 fn:=fun _=>true
 pn:=[]
 xe:=fun e s'=>wpAny (model P w) (A.deeper (envOfC qual scope s.heap.objs.size f cd)) (leaving (envOfC qual scope s.heap.objs.size f cd) e) (fun _ s''=>CX outer H s E e s'') (fun e' s''=>CX outer H s E e' s'') s'
theorem zhu {sc:Scope} {n:Nat} {x:Str} (h:sc.names.lookup x=some .cell):∃c,(cellsFrom n sc.names []).lookup x=some c:=by
 have q:=PySem.W.cellsFrom_some sc.names n [] (.inl h)
 exact Option.isSome_iff_exists.mp q
theorem zqn {CX:CXT} {P:Program} {w:World} {K:ZCa} {mg:Str->Option Value} {base:Heap} {N ps:List Str} {qual:Str} {scope:Scope} {f:Addr} {cd:Value} {A:Around} {outer:List Env} {s s1:Shared} {H:Hp} {E:XK} {us:List Value} {vs:List V}
 (S:zan N ps scope) (hd:A.handled=none) (e0:zs8 P w K mg base A outer s H) (hl:vs.length=ps.length) (r:zb3 vs us)
 (x:InCallC s s.heap.objs.size (bindL (envOfC qual scope s.heap.objs.size f cd).kindOf (ps.zip us) fun _=>none) (cellsFrom (s.heap.objs.size+1) scope.names []) (bindC (envOfC qual scope s.heap.objs.size f cd).kindOf (ps.zip us) fun _=>none) s1):
 Inv (zvz CX P w K mg base N qual scope f cd A outer s H E) [] (zdo N vs) H s1:=by
 have hpl:ps.length<=N.length:=by have:=congrArg List.length S.pre;rw [ZBl] at this;omega
 obtain ⟨h1,tk,rfl,hk⟩:=x.done
 have noA:∀b:Addr,b∉(zvz CX P w K mg base N qual scope f cd A outer s H E).ex:=fun b z=>absurd (show b∈([]:List Addr) from z) (by simp)
 refine ⟨⟨e0.mod,S.kind,rfl,rfl,ZAw _,fun y z c h1 h2=>?_,fun y hy=>?_,fun y c _ h=>?_,fun _=>hd,Around.frames_deeper e0.frames,.inr ⟨rfl,rfl⟩,fun b z=>absurd z (noA b),e0.bs,e0.bsz,fun b _ _=>noA b,fun b z=>absurd z (noA b),e0.funs,e0.frf⟩,
  rfl,e0.bare,Un.kept hk,⟨_,x.toInCall.ns,fun i y v h1 h2 h3=>?_⟩,fun y c h=>⟨_,x.cell y c h⟩,e0.hok.fresh (ZAw _),fun y c h=>?_,fun p hp=>absurd (show p∈([]:List (Addr×Obj)) from hp) (by simp),e0.hok.kept hk,?_⟩
 ·exact name_of_addr x.apart (ZAh h1) (ZAh h2)
 ·have hy:scope.names.lookup y=some .cell\/scope.names.lookup y=some .free:=hy
  rcases hy with hy | hy
  ·exact zhu hy
  ·exact absurd rfl (S.nofree _ (ZAh hy))
 ·exact ZBb (x.above y c (ZAh h))
 ·have hi:i<vs.length:=by
   unfold zdo at h2
   by_cases hi:i<vs.length
   ·exact hi
   ·rw [ZBk (by simpa using hi)] at h2
    rw [List.getElem?_replicate] at h2
    split at h2<;>cases h2
  have ha:vs[i]?=some v:=by
   unfold zdo at h2
   rw [ZBq (by simpa using hi),ZA0] at h2
   cases e:vs[i]? with
   | none=>rw [e] at h2;cases h2
   | some a=>rw [e] at h2;cases h2;rfl
  obtain ⟨u,hu,rv⟩:=r.get ha
  have hp:ps[i]?=some y:=by
   rw [<-S.pre,List.getElem?_take_of_lt (by omega)];exact h1
  have ndP:ps.Nodup:=by rw [<-S.pre];exact S.nd.sublist (List.take_sublist _ _)
  refine ⟨u,rv,?_⟩
  rcases S.par y (ZA1 hp) with k | k
  ·exact .inl ⟨k,zim ndP hp hu k⟩
  ·obtain ⟨c,e⟩:=zhu (n:=s.heap.objs.size+1) k
   refine .inr ⟨.inl k,c,e,?_⟩
   have q:=x.cell y c e
   rw [zin ndP hp hu (by show scope.names.lookup y≠_;rw [k];decide)] at q
   exact q
 ·exact e0.hok.fresh (ZBb (x.above y c (ZAh h)))
 ·unfold zdo
  show _=N.length
  rw [ZA3,ZAu,List.length_replicate]
  omega
theorem zy2 {CX:CXT} {P:Program} {w:World} {K:ZCa} {mg:Str->Option Value} {base:Heap} {k:Nat} {f:Addr} {name qual:Str} {params:Arguments} {body:List Stmt} {scope:Scope} {dV kV doc pm cdv ct oc:Value} {an od:Option Addr}
 {osl:Array (Option Value)} {N ps:List Str} {sp:Sp} (lk:K.lookup f=some ⟨oc,od,.func (PySem.W.fnOf name qual params body scope dV kV doc pm an cdv ct),osl⟩) (hcd:PySem.W.codeIn K cdv qual=true) (S:zan N ps scope)
 (len:∀vs H Q E,sp vs H Q E->vs.length=ps.length)
 (hbody:∀(A:Around) (outer:List Env) (s:Shared) (H:Hp) (vs:List V) (Q:VK) (E:XK),zel k (A.deeper (envOfC qual scope s.heap.objs.size f cdv))->sp vs H Q E->
  ∃t,PSs (zvz CX P w K mg base N qual scope f cdv A outer s H E) body t/\t { nx:=fun _ H'=>Q .non H',rt:=Q } (zdo N vs) H):
 zbb P w K mg base CX (k+1) f (PySem.W.fnOf name qual params body scope dV kV doc pm an cdv ct) ps sp:=by
 refine ⟨len,fun A outer s H args us vs Q E hr e0 hb r hsp=>?_⟩
 have hl:=len _ _ _ _ hsp
 have KX:K.In s.heap:=e0.mod.kin.keeps fun b o e=>(e0.bs b o e).1
 have lim:s.heap.NoLimit:=e0.mod.nolimit.keeps fun b o e=>(e0.bs b o e).1
 have hkind:∀y∈ps.zip us,scope.names.lookup y.1=some .local\/(scope.names.lookup y.1=some .cell/\((cellsFrom (s.heap.objs.size+1) scope.names []).lookup y.1).isSome=true):=fun ⟨n,v⟩ hy=>by
  rcases S.par n (List.of_mem_zip hy).1 with q | q
  ·exact .inl q
  ·exact .inr ⟨q,PySem.W.cellsFrom_some _ _ _ (.inl q)⟩
 refine codeAny_call_function hr.depth (KX _ _ lk) rfl S.co S.gen rfl (PySem.W.codeRec_of KX hcd) (hb _ _ _ _ ?_)
 refine wpAny_newFunctionEnv_cells S.kind hkind fun env he s1 x=>?_
 subst he
 refine ⟨lim.keeps x.toInCall.keep,codeAny_func ?_⟩
 obtain ⟨t,ht,hq⟩:=hbody A outer s H vs Q E (hr.deeper _) hsp
 have I:Inv (zvz CX P w K mg base N qual scope f cdv A outer s H E) [] (zdo N vs) H s1:=zqn S hr.hd e0 hl r x
 refine wpAny_mono (ht [] s1 (zdo N vs) H _ I hq) (fun fl s' hs=>?_) fun e s' hs=>hs
 have fin:∀{σ':St} {H':Hp} {v:V} {u:Value},Inv (zvz CX P w K mg base N qual scope f cdv A outer s H E) [] σ' H' s'->zck v u->Q v H'->CE outer P w H s Q u s':=
  fun {σ' H' v u} J rv q=>⟨v,H',J.os,J.bare,J.base,J.hok,rv,q⟩
 cases fl with
 | ret u=>
  obtain ⟨v,σ',H',J,rv,q⟩:=hs
  exact fin J rv q
 | next=>
  obtain ⟨σ',H',J,q⟩:=hs
  exact fin (v:=V.non) (u:=Value.none) J rfl q
 | brk=>
  obtain ⟨_,_,_,q⟩:=hs
  exact False.elim q
 | cont=>
  obtain ⟨_,_,_,q⟩:=hs
  exact False.elim q
section
variable {X:Cx} {x:Str} {p pos:Pos} {e:Expr} {es:List Expr} {t:TA} {id T:String} {r:List V->Hp->VK->Prop}
def tCB (r:List V->Hp->VK->Prop) (t:TA):TE:=fun σ H Q=>t σ H fun vs H1=>r vs H1 Q
theorem zay (hc:zg2 X (.builtin id) r) (hg:Gl X x) (hm:X.mg x=none) (hv:bootBuiltins x=some (.builtin id)) (ha:PA X (e::es) t) (hn:x≠"__name__":=by decide) (hdb:(x==("__debug__":Str))=false:=by decide)
 (he:starEach (e::es) X.env=(false,eval e X.env)::starEach es X.env:=by rfl) (hpl:(backTo pos (starEach es X.env)).any (·.1)=false:=by rfl):PE X (.Call (.Name x p) (e::es) [] pos) (tCB r t):=by
 intro pins s σ H Q I h
 refine wpAny_Call_Name_kw (zha I hg hm hv ?_ hn hdb)
 exact PyProof.Rows.callWith_builtin1 (thn (ha pos pins s σ H _ I h) fun us s1 zz=>L2.el5 zz fun vs H1 I1 r1 q1=>hc pins s1 σ H1 vs us Q I1 r1 q1) he hpl
theorem zcm (hc:zg2 X (.type T) r) (hg:Gl X x) (hm:X.mg x=none) (hv:bootBuiltins x=some (.type T)) (ha:PA X (e::es) t) (hn:x≠"__name__":=by decide) (hdb:(x==("__debug__":Str))=false:=by decide)
 (he:starEach (e::es) X.env=(false,eval e X.env)::starEach es X.env:=by rfl) (hpl:(backTo pos (starEach es X.env)).any (·.1)=false:=by rfl):PE X (.Call (.Name x p) (e::es) [] pos) (tCB r t):=by
 intro pins s σ H Q I h
 refine wpAny_Call_Name_kw (zha I hg hm hv ?_ hn hdb)
 exact PyProof.Rows.callWith_type1 (thn (ha pos pins s σ H _ I h) fun us s1 zz=>L2.el5 zz fun vs H1 I1 r1 q1=>hc pins s1 σ H1 vs us Q I1 r1 q1) he hpl
end
end L2
namespace HT
open PySem PyProof.Rows
section
open PySem.SeqAt
open PySem.AutoSeq1 (wpAny_loadPart')
open PySem.MeetsSeq PySem.MeetsSeq2 PySem.MeetsSeq3
end
section
variable {prog:Program} {w:World} {A:Around} {E:Value->Shared->Prop} {s:Shared}
theorem cat_tup {t b:Addr} {vs ws:List Value} {Q:Value->Shared->Prop} (ht:IsTup s.heap t vs.toArray) (hb:IsTup s.heap b ws.toArray) (hv:vs≠[])
 (h1:ws=[]->Q (.ref t) s) (h2:ws≠[]->Q (.ref s.heap.objs.size) { s with heap:=s.heap.push { cls:=.type "tuple",data:=.seq (vs++ws).toArray } })
 (hsz:vs.length+ws.length<=sizeLine):wpAny (model prog w) A (binaryOp .Add (.ref t) (.ref b)) Q E s:=by
 obtain ⟨⟨cls,dd,data,sl⟩,ho,hc,n,hd⟩:=id ht
 obtain ⟨⟨cls2,dd2,data2,sl2⟩,ho2,hc2,n2,hd2⟩:=id hb
 simp only at hc hd hc2 hd2
 subst hc hd hc2 hd2
 have e:vs.toArray++ws.toArray=(vs++ws).toArray:=by simp
 by_cases hw:ws=[]
 ·exact concat_meets ⟨_,ho,rfl⟩ ⟨_,ho2,rfl⟩ noFill_tuple_add seq_tuple_add PySem.F.slot_tuple_add PySem.F.entry_tuple_add (PySem.F.args_tuple_add_2 _ _)
   (tuple_addW1 t b vs.toArray ws.toArray n n2 dd dd2 sl sl2 (by simpa using hv) (by simp [hw])) ⟨ho,ho2,h1 hw⟩
 ·refine concat_meets ⟨_,ho,rfl⟩ ⟨_,ho2,rfl⟩ noFill_tuple_add seq_tuple_add PySem.F.slot_tuple_add PySem.F.entry_tuple_add (PySem.F.args_tuple_add_2 _ _)
   (tuple_addW2 t b vs.toArray ws.toArray n n2 dd dd2 sl sl2 (by simpa using hv) (by simpa using hw) (by rw [ZA2,ZA2];exact hsz)) ⟨ho,ho2,?_⟩
  rw [e]
  exact h2 hw
def sIx (n d:Nat):Option Int->Nat
 | none=>d
 | some v=>if v<0 then (v+(n:Int)).toNat else min v.toNat n
theorem sIx_none (n d:Nat):sIx n d none=d:=rfl
theorem sIx_nat (n d k:Nat):sIx n d (some (k:Int))=min k n:=by
 show (if (k:Int)<0 then ((k:Int)+(n:Int)).toNat else min (k:Int).toNat n)=min k n
 rw [if_neg (by omega),ZBx]
theorem zwm (n d:Nat) (hd:d<=n) (o:Option Int):sIx n d o<=n:=by
 cases o with
 | none=>exact hd
 | some v=>
  show (if v<0 then (v+(n:Int)).toNat else min v.toNat n)<=n
  by_cases hv:v<0
  ·rw [if_pos hv];omega
  ·rw [if_neg hv];exact Nat.min_le_right _ _
theorem zq6 (v:Int) (n d:Nat):(if v<0 then max (v+(n:Int)) 0 else min v (n:Int))=((sIx n d (some v):Nat):Int):=by
 show (if v<0 then max (v+(n:Int)) 0 else min v (n:Int))=(((if v<0 then (v+(n:Int)).toNat else min v.toNat n):Nat):Int)
 by_cases hv:v<0
 ·simp only [if_pos hv];omega
 ·simp only [if_neg hv];omega
theorem zol (lo hi:Option Int) (n:Nat):Builtin.Slice.sliceAdjust lo hi 1 (n:Int)=(((sIx n 0 lo:Nat):Int),((sIx n n hi:Nat):Int)):=by
 have h1:¬((1:Int)<0):=by omega
 unfold Builtin.Slice.sliceAdjust
 simp only [h1,if_false]
 refine Prod.ext ?_ ?_
 ·cases lo with
  | none=>rfl
  | some v=>exact zq6 v n 0
 ·cases hi with
  | none=>rfl
  | some v=>exact zq6 v n n
theorem zn6 (i j:Nat):Builtin.Slice.slicePlaces (i:Int) (j:Int) 1=j-i:=by
 unfold Builtin.Slice.slicePlaces
 have h1:(1:Int)>0:=by omega
 simp only [h1,if_true,Int.ediv_one]
 split<;>omega
theorem zi6 {v:Value} {o:Option Int} {Q:Option Int->Shared->Prop} (p:IsPart v o) (h:Q o s):wpAny (model prog w) A (Builtin.Slice.slicePartIndex v) Q E s:=by
 cases p with
 | none=>exact slicePart_none h
 | int i t=>exact slicePart_int h
theorem zhc {sl:Addr} {vl vu:Value} {lo hi:Option Int} {n:Nat} {Q:Int×Int×Nat->Shared->Prop} (hs:s.heap.IsSliceOf sl vl vu .none) (pl:IsPart vl lo) (pu:IsPart vu hi)
 (h:Q (((sIx n 0 lo:Nat):Int),1,sIx n n hi-sIx n 0 lo) s):wpAny (model prog w) A (Builtin.Slice.sliceApplied (.ref sl) (pure (n:Int))) Q E s:=by
 obtain ⟨os,hos,hcs,hds⟩:=id hs
 unfold Builtin.Slice.sliceApplied Builtin.Slice.sliceFields
 refine ZAp (ZAp (wpAny_field hos hds (x:=vl) rfl (ZAp (wpAny_field hos hds (x:=vu) rfl (ZAp (wpAny_field hos hds (x:=.none) rfl (ZAq ?_)))))))
 refine ZAp (slicePart_none ?_)
 show wpAny _ _ (if ((1:Int)==0)=true then _ else _) _ _ s
 rw [if_neg (by decide)]
 refine ZAp (zi6 pl (ZAp (zi6 pu (ZAp (ZAq ?_)))))
 show wpAny _ _ (match Builtin.Slice.sliceAdjust lo hi 1 (n:Int) with | (lo,hi)=>pure (lo,(1:Int),Builtin.Slice.slicePlaces lo hi 1)) _ _ s
 rw [zol lo hi n]
 show wpAny _ _ (pure (((sIx n 0 lo:Nat):Int),(1:Int),Builtin.Slice.slicePlaces ((sIx n 0 lo:Nat):Int) ((sIx n n hi:Nat):Int) 1)) _ _ s
 rw [zn6]
 exact ZAq h
theorem zsa (xs:Array Value) (i k:Nat):((List.range k).filterMap fun (m:Nat)=>xs[((i:Int)+(m:Int)*1).toNat]?).toArray=((xs.toList.drop i).take k).toArray:=by
 have e:(fun (m:Nat)=>xs[((i:Int)+(m:Int)*1).toNat]?)=fun m=>xs[i+m]?:=by
  funext m
  have:((i:Int)+(m:Int)*1).toNat=i+m:=by omega
  rw [this]
 rw [e]
 have:=pick_run xs i k
 rw [List.filterMap_map] at this
 have e2:((fun x=>xs[x]?) ∘ fun x=>i+x)=fun m=>xs[i+m]?:=rfl
 rw [e2] at this
 rw [this]
theorem getItem_tuple_cut {t sl:Addr} {items:Array Value} {vl vu:Value} {lo hi:Option Int} {Q:Value->Shared->Prop} (ht:IsTup s.heap t items) (hs:s.heap.IsSliceOf sl vl vu .none) (pl:IsPart vl lo) (pu:IsPart vu hi)
 (hw:¬(sIx items.size 0 lo=0/\sIx items.size items.size hi=items.size))
 (h:Q (.ref s.heap.objs.size) { s with heap:=s.heap.push { cls:=.type "tuple",data:=.seq ((items.toList.drop (sIx items.size 0 lo)).take (sIx items.size items.size hi-sIx items.size 0 lo)).toArray } })
 (hsz:items.size<=sizeLine):wpAny (model prog w) A (getItem (.ref t) (.ref sl)) Q E s:=by
 have htake:sizeOk (.seq ((items.toList.drop (sIx items.size 0 lo)).take (sIx items.size items.size hi-sIx items.size 0 lo)).toArray):=by
  show ((items.toList.drop (sIx items.size 0 lo)).take (sIx items.size items.size hi-sIx items.size 0 lo)).toArray.size<=sizeLine
  rw [ZA2,ZBl,ZAd,ZAj]
  omega
 have hj:sIx items.size items.size hi<=items.size:=zwm _ _ (ZAw _) hi
 obtain ⟨os,hos,hcs,hds⟩:=id hs
 have hTs:s.TypeIs (.ref sl) "slice":=⟨os,hos,hcs⟩
 unfold getItem
 try with_reducible refine wpAny_holding ?_
 first | refine ZAp (ZAq ?_) | skip
 refine ZAp (wpAny_sequenceKey ht.typeIs (by decide) ?_)
 refine ZAp (wpAny_callSpecial?_slot (name:=Str.ofString "__getitem__") ht.typeIs PyProof.Rows.slot_tuple_getitem
  (wpAny_call_entry PyProof.Rows.slot_tuple_getitem ht.typeIs entry_tuple_getitem ?_ (args_tuple_getitem _ _)))
 show wpAny _ _ (Builtin.Tuple.tupleItemsOf (.ref t)>>=_) _ _ s
 refine ZAp (tupleItemsOf_ ht ?_)
 refine ZAp (wpAny_typeOf hTs ?_)
 rw [if_pos (by decide)]
 refine ZAp (zhc hs pl pu ?_)
 have hno:¬((((sIx items.size 0 lo:Nat):Int)==0 && (1:Int)==1 && (sIx items.size items.size hi-sIx items.size 0 lo)==items.size)=true):=by
  intro q
  rw [Bool.and_eq_true,Bool.and_eq_true] at q
  have q1:((sIx items.size 0 lo:Nat):Int)=0:=eq_of_beq q.1.1
  have q2:sIx items.size items.size hi-sIx items.size 0 lo=items.size:=eq_of_beq q.2
  exact hw ⟨by omega,by omega⟩
 show wpAny _ _ (if (((sIx items.size 0 lo:Nat):Int)==0 && (1:Int)==1 && (sIx items.size items.size hi-sIx items.size 0 lo)==items.size)=true then _ else _) _ _ s
 rw [if_neg hno,zsa]
 first
  | exact ZAp (m:=Builtin.Tuple.tupleExact _) (wpAny_newObj_type (ZAq ⟨_,rfl,ZAq h⟩) htake)
  | exact ZAp (m:=Builtin.Tuple.tupleExact _) (wpAny_newObj_type (ZAp (ZAq (ZAq ⟨_,rfl,ZAq h⟩))) htake)
  | exact ZAp (ZAp (m:=Builtin.Tuple.tupleExact _) (wpAny_newObj_type (ZAq (ZAq ⟨_,rfl,ZAq h⟩)) htake))
  | exact ZAp (ZAp (m:=Builtin.Tuple.tupleExact _) (wpAny_newObj_type (ZAq ⟨_,rfl,ZAq h⟩) htake))
end
end HT
namespace L2
open PySem PySem.Spec PyProof.Rows
abbrev TO:=St->Hp->(Option Int->Hp->Prop)->Prop
def PO (X:Cx) (e:Option Expr) (t:TO):Prop:=
 ∀(pins:List (Addr×Obj)) (s:Shared) (σ:St) (H:Hp) (Q:Option Int->Hp->Prop),Inv X pins σ H s->t σ H Q->
  wpAny (model X.prog X.w) X.A (evalPart e X.env) (fun u s'=>∃o H',Inv X pins σ H' s'/\IsPart u o/\Q o H') X.xe s
def zuk:TO:=fun _ H Q=>Q none H
def zx1 (t:TE):TO:=fun σ H Q=>t σ H fun x H1=>∃i,x=.int i/\Q (some i) H1
section
variable {X:Cx} {e:Expr} {te:TE} {lo hi:Option Expr} {tl th:TO} {pos p2:Pos}
theorem zdh:PO X none zuk:=by
 intro pins s σ H Q I h
 rw [evalPart_none]
 exact ZAq ⟨none,H,I,.none,h⟩
theorem zcy (h:PE X e te):PO X (some e) (zx1 te):=by
 intro pins s σ H Q I hw
 rw [evalPart_some]
 refine thn (h pins s σ H _ I hw) fun u s1 zz=>?_
 obtain ⟨x,H1,I1,r1,q1⟩:=zz
 obtain ⟨i,rfl,q⟩:=q1
 obtain ⟨t,rfl⟩:=r1
 exact ⟨some i,H1,I1,.int i t,q⟩
def SlR (X:Cx) (r:V->Option Int->Option Int->Hp->VK->Prop):Prop:=
 ∀(pins:List (Addr×Obj)) (s:Shared) (σ:St) (H:Hp) (x:V) (v vl vu:Value) (lo hi:Option Int) (sl:Addr) (Q:VK),Inv X pins σ H s->zck x v->s.heap.IsSliceOf sl vl vu .none->IsPart vl lo->IsPart vu hi->r x lo hi H Q->
  ∃T id,typeLookup (.type T) "__getitem__"=pure (some (.builtin id))/\s.TypeIs v T/\wpAny (model X.prog X.w) X.A (getItem v (.ref sl)) (EP X pins σ Q) X.xe s
def tSl (r:V->Option Int->Option Int->Hp->VK->Prop) (te:TE) (tl th:TO):TE:=fun σ H Q=>te σ H fun x H1=>tl σ H1 fun l H2=>th σ H2 fun u H3=>r x l u H3 Q
theorem zcg {r:V->Option Int->Option Int->Hp->VK->Prop} (hr:SlR X r) (he:PE X e te) (hl:PO X lo tl) (hu:PO X hi th):PE X (.Subscript e (.Slice lo hi none p2) pos) (tSl r te tl th):=by
 intro pins s σ H Q I h
 refine Subscript_ (thn (he pins s σ H _ I h) fun v s1 zz=>?_)
 obtain ⟨x,H1,I1,r1,q1⟩:=zz
 refine wpAny_Slice (thn (hl pins s1 σ H1 _ I1 q1) fun vl s2 zz=>L2.el5 zz fun l H2 I2 pl q2=>thn (hu pins s2 σ H2 _ I2 q2) fun vu s3 zz=>?_)
 obtain ⟨u,H3,I3,pu,q3⟩:=zz
 rw [evalPart_none]
 refine ZAq ?_
 have I4:Inv X pins σ H3 { s3 with heap:=s3.heap.push { cls:=.type "slice",data:=.fields #[vl,vu,.none] } }:=I3.kept (t':=s3.toks) fun b ob q=>ZAy _ q
 obtain ⟨T,id,hT,ht,hg⟩:=hr pins { s3 with heap:=s3.heap.push { cls:=.type "slice",data:=.fields #[vl,vu,.none] } } σ H3 x v vl vu l u s3.heap.objs.size Q I4 r1 (Heap.IsSliceOf.new ..) pl pu q3
 show wpAny (model X.prog X.w) X.A (subscriptTail e (.Slice lo hi none p2) v (.ref s3.heap.objs.size)) (EP X pins σ Q) X.xe { s3 with heap:=s3.heap.push { cls:=.type "slice",data:=.fields #[vl,vu,.none] } }
 exact tail_any (ops:=[.ref s3.heap.objs.size,v]) ht hT hg (by with_unfolding_all rfl)
def zit (xs:List V) (lo hi:Option Int):List V:=(xs.drop (HT.sIx xs.length 0 lo)).take (HT.sIx xs.length xs.length hi-HT.sIx xs.length 0 lo)
theorem zik (xs:List V) (lo hi:Option Int):(zit xs lo hi).length<=xs.length:=by
 unfold zit
 rw [ZBl,ZAd]
 omega
def zAs (K:ZCa):V->Option Int->Option Int->Hp->VK->Prop:=fun x lo hi H Q=>∃a xs,x=.ref a/\SqT K H a xs/\
 ¬(HT.sIx xs.length 0 lo=0/\HT.sIx xs.length xs.length hi=xs.length)/\∀p,H p=none->Q (.ref p) (upd H p (.tup (zit xs lo hi)))
theorem zna:SlR X (zAs X.K):=by
 intro pins s σ H x v vl vu lo hi sl Q I rx hs pl pu h
 obtain ⟨a,xs,rfl,hx,hw,q⟩:=h
 cases rx
 obtain ⟨its,r,ht,hz⟩:=I.tuple hx
 have hlen:its.toArray.size=xs.length:=by rw [ZA2];exact r.length.symm
 refine ⟨"tuple",_,PyProof.Rows.slot_tuple_getitem.lookup,ht.typeIs,?_⟩
 refine HT.getItem_tuple_cut ht hs pl pu (by rw [hlen];exact hw) ?_ (by rw [hlen];exact hz)
 rw [hlen]
 refine ⟨.ref s.heap.objs.size,_,I.laid (t':=s.toks) (o:=.tup (zit xs lo hi)) (fun b ob q=>ZAy _ q) (ZAw _) ?_,rfl,q _ (I.hok.fresh (ZAw _))⟩
 exact ⟨ZBg (zik xs lo hi) hz,_,(r.drop (HT.sIx xs.length 0 lo)).take (HT.sIx xs.length xs.length hi-HT.sIx xs.length 0 lo),IsTup.new _ _⟩
def zwr (K:ZCa):R2:=fun x y H Q=>∃a b xs ys,x=.ref a/\y=.ref b/\SqT K H a xs/\SqT K H b ys/\xs≠[]/\xs.length+ys.length<=sizeLine/\
 (ys=[]->Q (.ref a) H)/\(ys≠[]->∀p,H p=none->Q (.ref p) (upd H p (.tup (xs++ys))))
theorem zb3.nil_iff {xs:List V} {us:List Value} (r:zb3 xs us):us=[]↔xs=[]:=by
 cases r with
 | nil=>simp
 | cons _ _=>simp
theorem zu6:OpR X (binaryOp .Add) (zwr X.K):=by
 intro pins s σ H x y v u Q I rx ry h
 obtain ⟨a,b,xs,ys,rfl,rfl,ha,hb,hx,hz,q1,q2⟩:=h
 cases rx
 cases ry
 obtain ⟨its,r1,p1,_⟩:=I.tuple ha
 obtain ⟨its2,r2,p2,_⟩:=I.tuple hb
 refine HT.cat_tup p1 p2 (fun z=>hx (r1.nil_iff.mp z)) (fun z=>⟨.ref a,H,I,rfl,q1 (r2.nil_iff.mp z)⟩) (fun z=>?_) (by rw [<-r1.length,<-r2.length];exact hz)
 refine ⟨.ref s.heap.objs.size,_,I.laid (t':=s.toks) (o:=.tup (xs++ys)) (fun b ob q=>ZAy _ q) (ZAw _) ?_,rfl,q2 (fun w=>z (r2.nil_iff.mpr w)) _ (I.hok.fresh (ZAw _))⟩
 exact ⟨by rw [ZA3];exact hz,_,r1.append r2,IsTup.new _ _⟩
end
def ixN (n:Nat) (i:Int):Option Nat:=if 0<=i then (if i<n then some i.toNat else none) else if-(n:Int)<=i then some (i+n).toNat else none
def atI {α:Type} (xs:List α) (i:Int):Option α:=(ixN xs.length i).bind fun j=>xs[j]?
theorem zqk {n:Nat} {i:Int} {j:Nat} (h:ixN n i=some j):seqIndex? i n=some j/\j<n/\-(n:Int)<=i/\i<n:=by
 unfold ixN at h
 by_cases h0:0<=i
 ·rw [if_pos h0] at h
  by_cases h1:i<n
  ·rw [if_pos h1] at h
   have e:i.toNat=j:=ZA7 h
   exact ⟨by rw [seqIndex_of h0 h1,e],by omega,by omega,h1⟩
  ·rw [if_neg h1] at h;cases h
 ·rw [if_neg h0] at h
  by_cases h1: -(n:Int)<=i
  ·rw [if_pos h1] at h
   have e:(i+n).toNat=j:=ZA7 h
   exact ⟨by rw [seqIndex_neg (by omega) h1,e],by omega,h1,by omega⟩
  ·rw [if_neg h1] at h;cases h
theorem zrf {α:Type} {xs:List α} {i:Int} {v:α} (h:atI xs i=some v):∃j,seqIndex? i xs.length=some j/\xs[j]?=some v/\j<xs.length/\-(xs.length:Int)<=i/\i<xs.length:=by
 unfold atI at h
 cases e:ixN xs.length i with
 | none=>rw [e] at h;cases h
 | some j=>
  rw [e] at h
  obtain ⟨h1,h2,h3,h4⟩:=zqk e
  exact ⟨j,h1,h,h2,h3,h4⟩
theorem zbv {α:Type} {xs:List α} {j:Nat} {v:α} (h:xs[j]?=some v):atI xs (j:Int)=some v:=by
 have hj:j<xs.length:=(ZAv.mp h).1
 have e:ixN xs.length (j:Int)=some j:=by
  unfold ixN
  rw [if_pos (by omega),if_pos (by omega)];simp
 unfold atI;rw [e];exact h
def zvr (b:Expr):Prop:=∀o i,subscripted b false o i=operate [o,i] (getItem o i)
def IxR (X:Cx) (r:R2):Prop:=
 ∀(value slice:Expr) (pins:List (Addr×Obj)) (s:Shared) (σ:St) (H:Hp) (x y:V) (v u:Value) (Q:VK),Inv X pins σ H s->zck x v->zck y u->r x y H Q->
  subscripted slice false v u=operate [v,u] (getItem v u)->wpAny (model X.prog X.w) X.A (subscriptTail value slice v u) (EP X pins σ Q) X.xe s
def MtR (X:Cx) (id:String) (r:V->List V->Hp->VK->Prop):Prop:=
 ∀(pins:List (Addr×Obj)) (s:Shared) (σ:St) (H:Hp) (x:V) (xs:List V) (v:Value) (us:List Value) (Q:VK),Inv X pins σ H s->zck x v->zb3 xs us->r x xs H Q->
  wpAny (model X.prog X.w) X.A (call (.builtin id) (v::us)) (EP X pins σ Q) X.xe s
section
variable {X:Cx} {a b:Expr} {ta tb:TE} {pos:Pos}
theorem zbm {r:R2} (hr:IxR X r) (ha:PE X a ta) (hb:PE X b tb) (hs:zvr b):PE X (.Subscript a b pos) (tOp r ta tb):=by
 intro pins s σ H Q I h
 exact Subscript_ (zzg ha hb I h fun v u s2 x y H2 I2 rx ry q=>hr a b pins s2 σ H2 x y v u Q I2 rx ry q (hs _ _))
def zAw (K:ZCa):R2:=fun x y H Q=>∃p xs i v,x=.ref p/\y=.int i/\SqL K H p xs/\atI xs i=some v/\Q v H
def zAv (K:ZCa):R2:=fun x y H Q=>∃p xs i v,x=.ref p/\y=.int i/\SqT K H p xs/\atI xs i=some v/\Q v H
theorem zqj:IxR X (zAw X.K):=by
 intro value slice pins s σ H x y v u Q I rx ry h hs
 obtain ⟨p,xs,i,z,rfl,rfl,hq,he,q⟩:=h
 cases rx
 obtain ⟨t,rfl⟩:=ry
 obtain ⟨its,r,pl,hz⟩:=I.list hq
 obtain ⟨j,h1,h2,h3,h4,h5⟩:=zrf he
 obtain ⟨w,ew,rw'⟩:=r.get h2
 have hl:=r.length
 have hn:=znl
 have fin:EP X pins σ Q w s:=⟨z,H,I,rw',q⟩
 by_cases h0:0<=i
 ·have hj:i.toNat=j:=by
   rw [seqIndex_of h0 h5] at h1
   exact ZA7 h1
  exact item_listR pl.isList h0 (by omega) (by rw [hj];simpa using ew) fin hs
 ·have hj:(i+(its.toArray.size:Int)).toNat=j:=by
   rw [seqIndex_neg (by omega) h4] at h1
   rw [ZA2,<-hl]
   exact ZA7 h1
  exact subscriptTail_builtinR (x:=w) pl.isList.typeIs slot_list_getitem.lookup
   (wpAny_getItem_list_neg (Q:=fun r s'=>r=w/\EP X pins σ Q r s') pl.isList (by omega) (by rw [ZA2]<;>omega) (by omega) (by rw [hj];simpa using ew) ⟨rfl,fin⟩) hs
theorem zw5:IxR X (zAv X.K):=by
 intro value slice pins s σ H x y v u Q I rx ry h hs
 obtain ⟨p,xs,i,z,rfl,rfl,hq,he,q⟩:=h
 cases rx
 obtain ⟨t,rfl⟩:=ry
 obtain ⟨its,r,pl,hz⟩:=I.tuple hq
 obtain ⟨j,h1,h2,h3,h4,h5⟩:=zrf he
 obtain ⟨w,ew,rw'⟩:=r.get h2
 have hl:=r.length
 have hn:=znl
 have fin:EP X pins σ Q w s:=⟨z,H,I,rw',q⟩
 exact subscriptTail_builtinR (x:=w) pl.typeIs slot_tuple_getitem.lookup
  (getItem_tuple (j:=j) (Q:=fun r s'=>r=w/\EP X pins σ Q r s') pl (by omega) (by omega) (by rw [ZA2,<-hl];exact h1) (by simpa using ew) ⟨rfl,fin⟩) hs
theorem zn9 (its:List Value) (n j:Nat) (u:Value):Obj.mapSeq (·.setIfInBounds j u) { cls:=.type "list",data:=.seq its.toArray n }={ cls:=.type "list",data:=.seq (its.set j u).toArray n }:=by
 simp [Obj.mapSeq]
theorem Inv.lst {pins:List (Addr×Obj)} {σ:St} {H:Hp} {s:Shared} {p:Addr} {xs:List V} (I:Inv X pins σ H s) (h:H p=some (.lst xs)):
 ∃(its:List Value) (n:Nat),zb3 xs its/\s.heap.get? p=some { cls:=.type "list",data:=.seq its.toArray n }/\xs.length<=sizeLine:=by
 obtain ⟨z,its,n,r,e⟩:=I.hok p _ h
 exact ⟨its,n,r,e,z⟩
theorem Inv.lstUpd {pins:List (Addr×Obj)} {σ:St} {H:Hp} {s:Shared} {p:Addr} {xs ys:List V} {its its':List Value} {n n':Nat} {f:Obj->Obj} (I:Inv X pins σ H s) (h:H p=some (.lst xs))
 (ho:s.heap.get? p=some { cls:=.type "list",data:=.seq its.toArray n }) (hf:f { cls:=.type "list",data:=.seq its.toArray n }={ cls:=.type "list",data:=.seq its'.toArray n' }) (r:zb3 ys its') (hz:ys.length<=sizeLine) (t:Nat):
 Inv X pins σ (upd H p (.lst ys)) { s with heap:=s.heap.update p f,toks:=t }:=by
 have e:(s.heap.update p f).get? p=some { cls:=.type "list",data:=.seq its'.toArray n' }:=by
  rw [Heap.get?_update_self f ho (by rw [hf]<;>rfl),hf]
 refine I.write (x:=p) (e:=p) (by rw [h];trivial) (.inl rfl) (fun b u hb q=>(Heap.get?_update_other _ _ (ZAl hb)).trans q) ⟨_,e⟩ ?_
 exact ⟨hz,its',n',r,e⟩
def zyg:V->V->V->Hp->(Hp->Prop)->Prop:=fun o i v H Q=>∃p xs k j,o=.ref p/\i=.int k/\H p=some (.lst xs)/\ixN xs.length k=some j/\Q (upd H p (.lst (xs.set j v)))
theorem zrz:zz5 X zyg:=by
 intro pins s σ H o i v ov iv u Q I ro ri rv h
 obtain ⟨p,xs,k,j,rfl,rfl,hp,hj,q⟩:=h
 cases ro
 obtain ⟨t,rfl⟩:=ri
 obtain ⟨its,n,r,ho,hz⟩:=I.lst hp
 obtain ⟨h1,h2,h3,h4⟩:=zqk hj
 have hl:=r.length
 have hn:=znl
 have I':Inv X pins σ (upd H p (.lst (xs.set j v))) { s with heap:=s.heap.update p (Obj.mapSeq (·.setIfInBounds j u)) }:=
  I.lstUpd hp ho (zn9 its n j u) (r.set rv j) (by rw [List.length_set];exact hz) s.toks
 by_cases h0:0<=k
 ·have hk:k.toNat=j:=by
   rw [seqIndex_of h0 h4] at h1
   exact ZA7 h1
  exact PySem.W.ki_setAt ho h0 (by omega) (by rw [ZA2,<-hl];exact h4) (by rw [hk];exact ⟨_,I',q⟩)
 ·have hk:(k+(its.toArray.size:Int)).toNat=j:=by
   rw [seqIndex_neg (by omega) h3] at h1
   rw [ZA2,<-hl]
   exact ZA7 h1
  exact PySem.W.ki_setBack ho (by omega) (by rw [ZA2,<-hl];exact h3) (by omega) (by rw [hk];exact ⟨_,I',q⟩)
theorem zla (lo hi:Option Int) (n:Nat):(sliceBounds lo hi none n).1=((HT.sIx n 0 lo:Nat):Int)/\(sliceBounds lo hi none n).2.1=((HT.sIx n n hi:Nat):Int)/\(sliceBounds lo hi none n).2.2=1:=by
 refine ⟨?_,?_,rfl⟩
 ·cases lo with
  | none=>simp [sliceBounds,HT.sIx]
  | some i=>
   simp only [sliceBounds,HT.sIx,Option.getD_none,show (1:Int)>0 by decide,if_true]
   by_cases h:i<0
   ·simp only [h,if_true]<;>omega
   ·simp only [h,if_false]<;>omega
 ·cases hi with
  | none=>simp [sliceBounds,HT.sIx]
  | some i=>
   simp only [sliceBounds,HT.sIx,Option.getD_none,show (1:Int)>0 by decide,if_true]
   by_cases h:i<0
   ·simp only [h,if_true]<;>omega
   ·simp only [h,if_false]<;>omega
theorem zju (its:List Value) (lo hi:Option Int):slicePick its.toArray lo hi none=((its.drop (HT.sIx its.length 0 lo)).take (HT.sIx its.length its.length hi-HT.sIx its.length 0 lo)).toArray:=by
 obtain ⟨h1,h2,h3⟩:=zla lo hi its.toArray.size
 unfold slicePick
 rw [h1,h2,h3]
 simp only [sliceRange_one,pick_run,ZA2]<;>rfl
def zAt (K:ZCa):V->Option Int->Option Int->Hp->VK->Prop:=fun x lo hi H Q=>∃a xs,x=.ref a/\SqL K H a xs/\∀p,H p=none->Q (.ref p) (upd H p (.lst (zit xs lo hi)))
theorem ze7:SlR X (zAt X.K):=by
 intro pins s σ H x v vl vu lo hi sl Q I rx hs pl pu h
 obtain ⟨a,xs,rfl,hx,q⟩:=h
 cases rx
 obtain ⟨its,r,ht,hz⟩:=I.list hx
 have hlen:=r.length
 refine ⟨"list",_,slot_list_getitem.lookup,ht.isList.typeIs,?_⟩
 refine wpAny_getItem_list_slice ht.isList hs pl pu .none (by simp) ?_ (by rw [ZA2]<;>omega)
 rw [zju,<-hlen]
 refine ⟨.ref s.heap.objs.size,_,I.laid (t':=s.toks) (o:=.lst (zit xs lo hi)) (fun b ob q=>ZAy _ q) (ZAw _) ?_,rfl,q _ (I.hok.fresh (ZAw _))⟩
 exact ⟨ZBg (zik xs lo hi) hz,_,0,(r.drop (HT.sIx xs.length 0 lo)).take (HT.sIx xs.length xs.length hi-HT.sIx xs.length 0 lo),ZBh _ rfl⟩
def zcz:V->Bool
 | .non=>true
 | .bl _=>true
 | .int _=>true
 | .str _=>true
 | _=>false
def eqV:V->V->Bool
 | .non,.non=>true
 | .bl a,.bl b=>a==b
 | .bl a,.int b=>(if a then 1 else 0)==b
 | .int a,.bl b=>a==(if b then 1 else 0)
 | .int a,.int b=>a==b
 | .str a,.str b=>a==b
 | _,_=>false
theorem zt1 {A:Around} {s:Shared} {y x:V} {u v:Value} (ry:zck y u) (rx:zck x v) (fy:zcz y=true) (fx:zcz x=true):SeqAt.EqAt A s u v (eqV y x):=by
 cases y with
 | non=>
  cases ry
  cases x with
  | non=>cases rx;exact SeqAt.EqAt.same _
  | bl b=>cases rx;exact SeqAt.EqAt.none_bool b
  | int b=>obtain ⟨t,rfl⟩:=rx;exact SeqAt.EqAt.none_int b t
  | str b=>obtain ⟨t,rfl⟩:=rx;exact SeqAt.EqAt.none_str b t
  | _=>exact absurd (show false=true from fx) ZA6
 | bl a=>
  cases ry
  cases x with
  | non=>cases rx;exact SeqAt.EqAt.bool_none a
  | bl b=>cases rx;exact SeqAt.EqAt.bool_bool a b
  | int b=>obtain ⟨t,rfl⟩:=rx;exact SeqAt.EqAt.bool_int a b t
  | str b=>obtain ⟨t,rfl⟩:=rx;exact SeqAt.EqAt.bool_str a b t
  | _=>exact absurd (show false=true from fx) ZA6
 | int a=>
  obtain ⟨t',rfl⟩:=ry
  cases x with
  | non=>cases rx;exact SeqAt.EqAt.int_none a t'
  | bl b=>cases rx;exact SeqAt.EqAt.int_bool a t' b
  | int b=>obtain ⟨t,rfl⟩:=rx;exact SeqAt.EqAt.int_int a t' b t
  | str b=>obtain ⟨t,rfl⟩:=rx;exact SeqAt.EqAt.int_str a t' b t
  | _=>exact absurd (show false=true from fx) ZA6
 | str a=>
  obtain ⟨t',rfl⟩:=ry
  cases x with
  | non=>cases rx;exact SeqAt.EqAt.str_none a t'
  | bl b=>cases rx;exact SeqAt.EqAt.str_bool a t' b
  | int b=>obtain ⟨t,rfl⟩:=rx;exact SeqAt.EqAt.str_int a t' b t
  | str b=>obtain ⟨t,rfl⟩:=rx;exact SeqAt.EqAt.str_str a t' b t
  | _=>exact absurd (show false=true from fx) ZA6
 | _=>exact absurd (show false=true from fy) ZA6
def eqU (x:V) (u:Value):Bool:=match u with
 | .none=>eqV .non x
 | .bool b=>eqV (.bl b) x
 | .int i _=>eqV (.int i) x
 | .str z _=>eqV (.str z) x
 | _=>false
theorem zt0 {x y:V} {u:Value} (r:zck y u) (f:zcz y=true):eqU x u=eqV y x:=by
 cases y with
 | non=>cases r;rfl
 | bl b=>cases r;rfl
 | int i=>obtain ⟨t,rfl⟩:=r;rfl
 | str z=>obtain ⟨t,rfl⟩:=r;rfl
 | _=>exact absurd (show false=true from f) ZA6
theorem zrg {x:V} {xs:List V} {us:List Value} (h:zb3 xs us) (f:xs.all zcz=true):us.any (eqU x)=xs.any fun y=>eqV y x:=by
 induction h with
 | nil=>rfl
 | cons r t ih=>
  rw [List.all_cons,Bool.and_eq_true] at f
  rw [List.any_cons,List.any_cons,zt0 r f.1,ih f.2]
theorem znj {A:Around} {s:Shared} {x:V} {v:Value} (rx:zck x v) (fx:zcz x=true) {xs:List V} {us:List Value} (h:zb3 xs us) (f:xs.all zcz=true):∀u∈us,SeqAt.EqAt A s u v (eqU x u):=by
 induction h with
 | nil=>intro u hu;cases hu
 | cons r t ih=>
  intro u' hu
  rw [List.all_cons,Bool.and_eq_true] at f
  rcases ZBe.mp hu with rfl | hu
  ·rw [zt0 r f.1];exact zt1 r rx f.1 fx
  ·exact ih f.2 u' hu
def inV (x:V) (xs:List V):Bool:=xs.any fun y=>eqV y x
def rIn (K:ZCa) (neg:Bool):R2:=fun x y H Q=>∃p xs,y=.ref p/\(SqL K H p xs\/SqT K H p xs)/\zcz x=true/\xs.all zcz=true/\Q (.bl (if neg then !inV x xs else inV x xs)) H
theorem zh9:OpR X (compareOp .In) (rIn X.K false):=by
 intro pins s σ H x y v u Q I rx ry h
 obtain ⟨p,xs,rfl,hq,fx,fs,q⟩:=h
 cases ry
 rcases hq with hq | hq
 ·obtain ⟨its,r,pl,hz⟩:=I.list hq
  refine SeqAt.in_listAt (eqU x) pl.isList (fun w hw=>znj rx fx r fs w (by simpa using hw)) ⟨.bl _,H,I,rfl,?_⟩
  rw [show its.toArray.any (eqU x)=its.any (eqU x) by simp,zrg r fs]
  exact q
 ·obtain ⟨its,r,pl,hz⟩:=I.tuple hq
  refine SeqAt.in_tupleAt (eqU x) pl (fun w hw=>znj rx fx r fs w (by simpa using hw)) ⟨.bl _,H,I,rfl,?_⟩
  rw [show its.toArray.any (eqU x)=its.any (eqU x) by simp,zrg r fs]
  exact q
theorem za9:zg2 X (.builtin "len") (fun xs H Q=>∃p ys,xs=[.ref p]/\(SqL X.K H p ys\/SqT X.K H p ys)/\Q (.int ys.length) H):=by
 intro pins s σ H xs us Q I r h
 obtain ⟨p,ys,rfl,hq,q⟩:=h
 obtain ⟨u,rfl,rx⟩:=zjp r
 cases rx
 have hn:=znl
 rcases hq with hq | hq
 ·obtain ⟨its,r',pl,hz⟩:=I.list hq
  have hlen:=r'.length
  exact Calls.call_len_list pl.isList (by simp only [ZA2]<;>omega) ⟨.int ys.length,H,I.tok _,⟨s.toks+1,by rw [ZA2,hlen]⟩,q⟩
 ·obtain ⟨its,r',pl,hz⟩:=I.tuple hq
  have hlen:=r'.length
  exact len_tuple pl (by simp only [ZA2]<;>omega) ⟨.int ys.length,H,I.tok _,⟨s.toks+1,by rw [ZA2,hlen]⟩,q⟩
theorem zc3:zg2 X (.type "list") (fun xs H Q=>∃p ys,xs=[.ref p]/\(SqL X.K H p ys\/SqT X.K H p ys)/\∀l,H l=none->Q (.ref l) (upd H l (.lst ys))):=by
 intro pins s σ H xs us Q I r h
 obtain ⟨p,ys,rfl,hq,q⟩:=h
 obtain ⟨u,rfl,rx⟩:=zjp r
 cases rx
 have fin:∀(its:List Value),zb3 ys its->ys.length<=sizeLine->∀(h':Heap) (c':Nat),(∀b o',s.heap.get? b=some o'->h'.get? b=some o')->
  h'.get? s.heap.objs.size=some { cls:=.type "list",dict:=none,data:=.seq its.toArray c',slots:= #[] }->EP X pins σ Q (.ref s.heap.objs.size) { s with heap:=h' }:=fun its r' hz h' c' kp e=>
  ⟨.ref s.heap.objs.size,_,I.laid (t':=s.toks) kp (ZAw _) (show zce X.prog X.w _ h' _ (.lst ys) from ⟨hz,its,c',r',e⟩),rfl,q _ (I.hok.fresh (ZAw _))⟩
 rcases hq with hq | hq
 ·obtain ⟨its,r',pl,hz⟩:=I.list hq
  have hlen:=r'.length
  obtain ⟨o,ho,hc,n,hd⟩:=pl.isList
  exact call_list_seq p (.inl rfl) ho hc hd (fun h' c' kp e=>fin its r' hz h' c' kp e) (by simp only [ZA2]<;>omega)
 ·obtain ⟨its,r',pl,hz⟩:=I.tuple hq
  have hlen:=r'.length
  obtain ⟨o,ho,hc,n,hd⟩:=pl
  exact call_list_seq p (.inr rfl) ho hc hd (fun h' c' kp e=>fin its r' hz h' c' kp e) (by simp only [ZA2]<;>omega)
theorem zdy:zg2 X (.type "tuple") (fun xs H Q=>∃p ys,xs=[.ref p]/\((SqL X.K H p ys/\∀l,H l=none->Q (.ref l) (upd H l (.tup ys)))\/(SqT X.K H p ys/\Q (.ref p) H))):=by
 intro pins s σ H xs us Q I r h
 obtain ⟨p,ys,rfl,h⟩:=h
 obtain ⟨u,rfl,rx⟩:=zjp r
 cases rx
 rcases h with ⟨hq,q⟩ | ⟨hq,q⟩
 ·obtain ⟨its,r',pl,hz⟩:=I.list hq
  have hlen:=r'.length
  refine call_tuple_list pl.isList (fun h' kp=>?_) (by simp only [ZA2]<;>omega)
  have I1:Inv X pins σ H { s with heap:=h' }:=I.kept (t':=s.toks) kp
  have I2:Inv X pins σ (upd H h'.objs.size (.tup ys)) { s with heap:=h'.push { cls:=.type "tuple",data:=.seq its.toArray } }:=
   I1.laid (t':=s.toks) (fun b o e=>ZAy _ e) (ZAw _) (show zce X.prog X.w _ _ _ (.tup ys) from ⟨hz,its,r',IsTup.new _ _⟩)
  exact ⟨.ref h'.objs.size,_,I2,rfl,q _ (I1.hok.fresh (ZAw _))⟩
 ·obtain ⟨its,r',pl,hz⟩:=I.tuple hq
  exact call_tuple_same pl ⟨.ref p,H,I,rfl,q⟩
def tyV (K:ZCa) (T:String) (x:V) (H:Hp):Prop:=match x with
 | .str _=>T="str"
 | .int _=>T="int"
 | .ref p=>(T="list"/\∃xs,SqL K H p xs)\/(T="tuple"/\∃o,K.lookup p=some o/\o.cls=.type "tuple"/\o.dict=none)\/
  (T="dict"/\((∃kvs,H p=some (.dK kvs))\/∃kvs,H p=some (.dT kvs)))\/(T="set"/\∃S n,H p=some (.set S n))
 | _=>False
theorem zv5 {pins:List (Addr×Obj)} {σ:St} {H:Hp} {s:Shared} {T:String} {x:V} {v:Value} (I:Inv X pins σ H s) (r:zck x v) (ty:tyV X.K T x H):
 s.TypeIs v T/\∀a,v=.ref a->∃ob,s.heap.get? a=some ob/\ob.dict=none:=by
 cases x with
 | str z=>
  obtain ⟨t,rfl⟩:=r
  cases (show T="str" from ty)
  exact ⟨typeIs_str s z t,fun _ e=>nomatch e⟩
 | int i=>
  obtain ⟨t,rfl⟩:=r
  cases (show T="int" from ty)
  exact ⟨typeIs_int s i t,fun _ e=>nomatch e⟩
 | ref p=>
  cases r
  rcases ty with ⟨rfl,xs,hq⟩ | ⟨rfl,o,hk,hc,hd⟩ | ⟨rfl,hk⟩ | ⟨rfl,S,n,hk⟩
  ·obtain ⟨its,_,pl,_⟩:=I.list hq
   refine ⟨pl.isList.typeIs,fun a e=>?_⟩
   cases e
   obtain ⟨o,n,e,c,hd,_⟩:=pl
   exact ⟨o,e,hd⟩
  ·refine ⟨⟨o,I.kIn p o hk,hc⟩,fun a e=>?_⟩
   cases e
   exact ⟨o,I.kIn _ o hk,hd⟩
  ·have z:∃o,s.heap.get? p=some o/\o.ExactDict:=by
    rcases hk with ⟨kvs,hk⟩ | ⟨kvs,hk⟩
    ·obtain ⟨_,_,_,_,o,_,_,e,ex,_⟩:=I.hok p _ hk
     exact ⟨o,e,ex⟩
    ·obtain ⟨_,_,_,_,o,_,_,e,ex,_⟩:=I.hok p _ hk
     exact ⟨o,e,ex⟩
   obtain ⟨o,e,ex⟩:=z
   refine ⟨⟨o,e,ex.1⟩,fun a e2=>?_⟩
   cases e2
   exact ⟨o,e,ex.2.1⟩
  ·obtain ⟨o,_,_,_,e,ex,_⟩:=I.hok p _ hk
   refine ⟨⟨o,e,ex.1⟩,fun a e2=>?_⟩
   cases e2
   exact ⟨o,e,ex.2.1⟩
 | _=>exact False.elim ty
def tBM (K:ZCa) (T:String) (r:V->List V->Hp->VK->Prop) (to:TE) (t:TA):TE:=fun σ H Q=>to σ H fun x H1=>tyV K T x H1/\t σ H1 fun xs H2=>r x xs H2 Q
variable {o e:Expr} {es:List Expr} {to:TE} {t:TA} {name:Str} {apos cpos:Pos} {T id:String} {r:V->List V->Hp->VK->Prop}
theorem ziu (pa:PlainAttrs T) (slot:Slot T name id) (hty:typeOf (.builtin id)=pure (.type "method_descriptor")) (hm:MtR X id r) (ho:PE X o to) (ha:PA X (e::es) t)
 (hbase:attributeBase o name X.env (eval o X.env)=eval o X.env:=by rfl)
 (hfew:((backTo cpos (starEach (e::es) X.env)).all (fun x=> !x.1) && (backToKw cpos (keywordEach [] X.env)).all (fun x=>x.1.isSome)
  && decide ((e::es).length+([]:List Keyword).length+(if ([]:List Keyword).isEmpty then 0 else 1)<30))=true:=by rfl)
 (hline:(apos.endLine==cpos.line)=true:=by rfl) (hs:starEach (e::es) X.env=(false,eval e X.env)::starEach es X.env:=by rfl) (hplain:(backTo cpos (starEach es X.env)).any (·.1)=false:=by rfl):
 PE X (.Call (.Attribute o name apos) (e::es) [] cpos) (tBM X.K T r to t):=by
 intro pins s σ H Q I h
 refine wpAny_Call_method_late hbase hfew hline rfl (thn (ho pins s σ H _ I h) fun v s1 zz=>?_)
 obtain ⟨x,H1,I1,r1,ty,q1⟩:=zz
 obtain ⟨h1,h2⟩:=zv5 I1 r1 ty
 refine ⟨T,id,pa,slot,hty,h1,h2,?_⟩
 have hA:=ha cpos pins s1 σ H1 _ I1 q1
 rw [hs] at hA ⊢
 refine Calls.callWith_builtin (by show (false || (backTo cpos (starEach es X.env)).any (·.1))=false;rw [hplain]<;>rfl) (Calls.evalArgs_plain ?_)
 exact thn hA fun us s2 zz=>L2.el5 zz fun vs H2 I2 r2 q2=>hm pins s2 σ H2 x vs v us Q I2 r1 r2 q2
end
def MtM (X:Cx) (id:String) (r:V->List V->Hp->VK->Prop):Prop:=
 ∀(pins:List (Addr×Obj)) (s:Shared) (σ:St) (H:Hp) (x:V) (xs:List V) (v:Value) (us:List Value) (Q:VK),Inv X pins σ H s->zck x v->zb3 xs us->r x xs H Q->
  wpAny (model X.prog X.w) X.A (call (.builtin id) (v::us)) (EP X pins σ Q) X.xe s
theorem zb3.one {x:V} {us:List Value} (h:zb3 [x] us):∃u,us=[u]/\zck x u:=by
 cases h with
 | cons r t=>
  cases t
  exact ⟨_,rfl,r⟩
section
variable {X:Cx} {pins:List (Addr×Obj)} {σ:St} {H:Hp} {s:Shared} {l b:Addr} {xs ys zs:List V}
theorem Inv.lset {its its':List Value} {n:Nat} {f:Array Value->Array Value} {t':Nat} (I:Inv X pins σ H s) (hH:H l=some (.lst xs))
 (e:s.heap.get? l=some { cls:=.type "list",data:=.seq its.toArray n }) (hf:f its.toArray=its'.toArray) (hv:zb3 ys its') (hz:ys.length<=sizeLine):
 Inv X pins σ (upd H l (.lst ys)) { s with heap:=s.heap.update l (Obj.mapSeq f),toks:=t' }:=by
 have q:=PySem.IsL.update e f
 rw [hf] at q
 refine I.write (x:=l) (e:=l) (by rw [hH];exact trivial) (.inl rfl) (fun b' u hb hu=>(Heap.get?_update_other s.heap (Obj.mapSeq f) (ZAl hb)).trans hu) ⟨_,q⟩ ?_
 exact ⟨hz,its',_,hv,q⟩
theorem Inv.lnew {its:List Value} {t':Nat} (I:Inv X pins σ H s) (hv:zb3 ys its) (hz:ys.length<=sizeLine):
 Inv X pins σ (upd H s.heap.objs.size (.lst ys)) { s with heap:=s.heap.push { cls:=.type "list",data:=.seq its.toArray },toks:=t' }:=
 I.laid (fun _ _ q=>ZAy _ q) (ZAw _) ⟨hz,its,0,hv,ZBh _ rfl⟩
theorem Inv.fresh (I:Inv X pins σ H s):H s.heap.objs.size=none:=I.hok.fresh (ZAw _)
theorem Inv.lstM (I:Inv X pins σ H s) (hH:H l=some (.lst xs)):xs.length<=sizeLine/\∃(its:List Value) (n:Nat),zb3 xs its/\xs.length=its.length/\s.heap.get? l=some { cls:=.type "list",data:=.seq its.toArray n }:=by
 obtain ⟨z,its,n,r,e⟩:=I.hok l _ hH
 exact ⟨z,its,n,r,r.length,e⟩
end
section
variable {X:Cx}
def zuy:V->List V->Hp->VK->Prop:=fun x vs H Q=>∃l xs y,x=.ref l/\vs=[y]/\H l=some (.lst xs)/\xs.length<sizeLine/\Q .non (upd H l (.lst (xs++[y])))
theorem zcn:MtM X "list.append" zuy:=by
 intro pins s σ H x vs v us Q I rx rv h
 obtain ⟨l,xs,y,rfl,rfl,hH,hz,q⟩:=h
 cases rx
 obtain ⟨u,rfl,ru⟩:=rv.one
 obtain ⟨z,its,n,r,hl,e⟩:=I.lstM hH
 refine call_meets ZAs ⟨_,e,rfl⟩ F.entry_list_append (F.args_list_append_2 _ _) (PySem.list_append l its.toArray n u (by rw [ZA2];omega)) ⟨e,?_⟩
 refine ⟨.non,_,I.lset (its':=its++[u]) hH e (by simp) (r.append (.cons ru .nil)) ?_,rfl,q⟩
 rw [ZA3,List.length_singleton]
 omega
def zAz:R2:=fun x y H Q=>∃l b xs zs,x=.ref l/\y=.ref b/\H l=some (.lst xs)/\H b=some (.lst zs)/\xs.length+zs.length<=sizeLine/\∀p,H p=none->Q (.ref p) (upd H p (.lst (xs++zs)))
theorem zff:OpR X (binaryOp .Add) zAz:=by
 intro pins s σ H x y v u Q I rx ry h
 obtain ⟨l,b,xs,zs,rfl,rfl,hH,hB,hz,q⟩:=h
 cases rx
 cases ry
 obtain ⟨z,its,n,r,hl,e⟩:=I.lstM hH
 obtain ⟨z2,its2,n2,r2,hl2,e2⟩:=I.lstM hB
 refine PySem.P.add_list e e2 ?_ (by rw [ZA2,ZA2];omega)
 have ea:its.toArray++its2.toArray=(its++its2).toArray:=by simp
 rw [ea]
 exact ⟨.ref _,_,I.lnew (t':=s.toks) (r.append r2) (by rw [ZA3];omega),rfl,q _ I.fresh⟩
end
section
variable {prog:Program} {w:World} {A:Around} {E:Value->Shared->Prop} {s:Shared}
set_option maxRecDepth 100000 in
end
section
variable {X:Cx}
end
end L2
namespace Att
open PySem PySem.W PySem.Calls PyProof.Rows
theorem zig {P:Params} {h:Heap}:∀(ns:List Int) (vs:List Value),WellAll P h vs (ns.map WData.int)->IntsAre vs ns:=by
 intro ns
 induction ns with
 | nil=>
  intro vs w
  rw [List.map_nil] at w
  cases w
  exact .nil
 | cons n ns ih=>
  intro vs w
  rw [ZBf] at w
  cases w with
  | cons a b=>
   cases a
   exact .cons _ _ (ih _ b)
theorem zpj {l:OpenLaw} {n:Nat} (hn:l.most=some n) {P:Params} {h:Heap} {args:List WData} {vals:List Value}
 (hpre:l.row.toRowW.claim.pre args=true) (hwl:WellAll P h vals args):
 ∃a vs ns,vals=[Value.ref a]/\args=[WData.list (ns.map WData.int)]/\h.get? a=some { cls:=.type "list",data:=.seq vs.toArray }/\IntsAre vs ns/\ns.length<=n:=by
 have hsh:WShape.hasAll [] args [.list .int]=true:=(pre_splitW hpre).1
 have hc:l.pre.holds [] { args:=args }=true:=(pre_splitW hpre).2
 obtain ⟨d,r,rfl,h1,h2⟩:=hasAllW_cons hsh
 obtain rfl:=hasAllW_nil h2
 obtain ⟨xs,rfl,h3⟩:=hasW_list h1
 obtain ⟨ns,rfl⟩:=items_int h3
 have hlen:ns.length<=n:=by
  unfold OpenLaw.pre at hc
  have h4:(WTm.not (.lt (.lit (.int (n:Int))) (.len (.arg 0)))).holds [] { args:=[.list (ns.map .int)] }=true:=by
   have h4:=(holds_andW hc).1
   rw [hn] at h4
   exact h4
  have h5:=condW_of h4 (w_not (w_lt w_lit (w_len_list (w_arg rfl))))
  rw [ZAu] at h5
  refine Nat.le_of_not_lt fun q=>?_
  have q':(n:Int)<((ns.length:Nat):Int):=by omega
  first
   | (rw [ZB8 q'] at h5;exact absurd h5 (by decide))
   | (simp at h5;omega)
 cases hwl with
 | cons w1 w2=>
  cases w2
  cases w1 with
  | list ho hall=>exact ⟨_,_,ns,rfl,rfl,ho,zig ns _ hall,hlen⟩
theorem zpu (l:OpenLaw) (args:List WData):l.row.toRowW.claim.post args (.bool true) args=true:=
 postW_of (r:=l.row.toRowW) (X:=(true==true))
  (show WShape.has [] (.bool true) .bool=true by first | rfl | decide | simp [WShape.has,WShape.arms,WShape.armsAll])
  (show (WTm.eq .res (.lit (.bool true))).value [] { args:=args,res:=some (.bool true),after:=args }=some (.bool (true==true)) from w_eq_bool (w_res rfl) w_lit) rfl
theorem attach_call {l:OpenLaw} {n:Nat} {q:Program} {loose:List Str} {XP:(Str->Option Value)->Heap->Prop} {YP:World->Heap->Prop} {d:DefRec}
 (hn:l.most=some n) (hdf:d.params.defaults=[])
 (call:∀(w:World) (s₀ s₁:Shared) (mg mb:Str->Option Value) (fa:Addr) (o:Obj) (pm cd doc:Value) (a:Addr) (vs:List Value) (ns:List Int),
  Ground q loose [] XP w s₀ mg mb s₁.heap->YP w s₁.heap->
  s₁.heap.get? fa=some o->o.data=.func (docDef d.name d.params d.body d.scope pm cd doc)->s₁.heap.CodeRec cd d.name->mg d.name=some (.ref fa)->
  s₁.heap.get? a=some { cls:=.type "list",data:=.seq vs.toArray }->IntsAre vs ns->ns.length<=n->s₁.gens= #[]->
  codeAny (model l.prog w) callerA (.call (.ref fa) ⟨[.ref a],[]⟩) (fun r s'=>r=.ok (.ret (.bool true))/\OldK s₁.heap s'.heap/\s'.os=s₁.os/\AllBare s'.gens) s₁):
 WalkO q loose XP YP l.row.toRowW d [] (fun f vs=>PySem.call f vs):=by
 intro w s₀ s₁ mg mb G Y fa o pm cd doc dV kV ho hd hcd hD hmg hg args vals as hpre hlay hrd hwl hlo
 obtain rfl:dV=.none:=Dflts.none hD hdf
 obtain rfl:kV=.none:=Dflts.noKw hD
 obtain ⟨a,vs,ns,rfl,rfl,hobj,hints,hlen⟩:=zpj hn hpre hwl
 refine enter_call (codeAny_mono (call w s₀ s₁ mg mb fa o pm cd doc a vs ns G Y ho (fd_plain hd) hcd hmg hobj hints hlen hg) fun r s' hq=>?_)
 obtain ⟨rfl,h2,h3,h4⟩:=hq
 exact ⟨.inl ⟨.bool true,.bool true,[],rfl,fun _=>rfl,.bool true,zpu l _,fun _=>⟨List.Pairwise.nil,fun _ hm=>(nomatch hm)⟩⟩,h2,h3,h4⟩
section
variable {prog:Program} {w:World} {A:Around} {E:Value->Shared->Prop} {s:Shared} {K:Frag}
end
end Att
namespace L2
open PySem PySem.Spec PyProof.Rows
theorem zkz:∀{vs:List Value} {ns:List Int},IntsAre vs ns->zb3 (ns.map V.int) vs
 | _,_,.nil=>.nil
 | _,_,.cons n t h=>.cons ⟨t,rfl⟩ (zkz h)
def zxh (H:Hp):Prop:=∀b,H b=none\/∃o xs,H b=some (.frz o (.lst xs))
theorem zsj {P:Program} {w:World} {K:ZCa} {mg mb:Str->Option Value} {CX:CXT} {k:Nat} {fa a:Addr} {fd:FuncData} {x:Str} {sp:Sp} {s₁:Shared} {vs:List Value} {ns:List Int}
 (KX:K.In s₁.heap) (hns:s₁.heap.Ns mainGlobals mg) (hb:s₁.heap.Ns builtinsNs mb) (hbb:∀x:Str,x≠"__name__"->mb x=bootBuiltins x) (hlim:s₁.heap.NoLimit) (hg:s₁.gens= #[])
 (ha:s₁.heap.get? a=some { cls:=.type "list",data:=.seq vs.toArray }) (hi:IntsAre vs ns) (hl:ns.length<=sizeLine) (hr:zel k callerA)
 (F:∀base:Heap,K.In base->base.Ns mainGlobals mg->zbb P w K mg base CX k fa fd [x] sp) (hbind:∀(s:Shared) (u:Value),BindsTo s fd ⟨[u],[]⟩ [(x,u)])
 (hsp:∀H:Hp,zxh H->SqL K H a (ns.map V.int)->sp [.ref a] H (fun v _=>v=.bl true) fun _ _ _=>False)
 (hCX:∀H e s',CX [] H s₁ (fun _ _ _=>False) e s'->False):
 codeAny (model P w) callerA (.call (.ref fa) ⟨[.ref a],[]⟩) (fun r s'=>r=.ok (.ret (.bool true))/\OldK s₁.heap s'.heap/\s'.os=s₁.os/\AllBare s'.gens) s₁:=by
 have rv:=zkz hi
 have lenV:=hi.length
 have core:∀H:Hp,zxh H->SqL K H a (ns.map V.int)->HOk P w H s₁.heap->(∀b,H b≠none->b=a)->(H a≠none->K.lookup a=none)->
  codeAny (model P w) callerA (.call (.ref fa) ⟨[.ref a],[]⟩) (fun r s'=>r=.ok (.ret (.bool true))/\OldK s₁.heap s'.heap/\s'.os=s₁.os/\AllBare s'.gens) s₁:=by
  intro H hO hS hok hA hK
  have base_of:∀{b:Addr} {o:Obj},s₁.heap.get? b=some o->H b=none->(zsp s₁.heap H).get? b=some o:=fun e n=>zso e n
  have noA:∀{b:Addr} {o:Obj} {es:Array DictEntry} {ep:Nat},s₁.heap.get? b=some o->o.data=.dict es ep->H b=none:=fun {b o es ep} e d=>by
   cases q:H b with
   | none=>rfl
   | some u=>
    have e':b=a:=hA b (by rw [q];simp)
    subst e'
    rw [ha] at e;cases e
    have d':Data.seq vs.toArray _=Data.dict es ep:=d
    cases d'
  have nsK:∀{b:Addr} {m:Str->Option Value},s₁.heap.Ns b m->(zsp s₁.heap H).Ns b m:=fun {b m} ⟨o,es,ep,e,d,r⟩=>⟨o,es,ep,base_of e (noA e d),d,r⟩
  have hKb:K.In (zsp s₁.heap H):=fun b o e=>base_of (KX b o e) (by
   cases q:H b with
   | none=>rfl
   | some u=>
    have e':b=a:=hA b (by rw [q];simp)
    subst e'
    rw [hK (by rw [q];simp)] at e;cases e)
  have hM:Mod K mg (zsp s₁.heap H):=⟨hKb,nsK hns,⟨mb,nsK hb,hbb⟩,let ⟨mc,h1,h2⟩:=hlim;⟨mc,nsK h1,h2⟩⟩
  have e0:zs8 P w K mg (zsp s₁.heap H) callerA [] s₁ H:=⟨rfl,hM,fun b o e=>zu7 e,Nat.le_of_eq (zqq _ _),trivial,fun b hb=>absurd (show b∈([]:List Addr) from hb) (by simp),hok,.of_eq hg⟩
  refine codeAny_mono ((F _ hKb (nsK hns)).run callerA [] s₁ H ⟨[.ref a],[]⟩ [.ref a] [.ref a] _ _ hr e0 (hbind s₁ (.ref a)) (.cons rfl .nil) (hsp H hO hS)) fun r s' h=>?_
  cases r with
  | error e=>exact (hCX H e s' h).elim
  | ok fl=>
   cases fl with
   | next=>exact False.elim h
   | brk=>exact False.elim h
   | cont=>exact False.elim h
   | ret u=>
    obtain ⟨v,H',os,bare,un,hok',r',q⟩:=h
    have q':v=.bl true:=q
    subst q'
    obtain rfl:u=Value.bool true:=r'
    refine ⟨rfl,OldK.of_keep fun b o e=>?_,os,bare⟩
    cases q:H b with
    | none=>exact un.keep b o e q (by intro z;exact absurd (show b∈([]:List Addr) from z) (by simp)) (by simp)
    | some u=>
     rcases hO b with z | ⟨ob,xs,z⟩
     ·rw [q] at z;cases z
     ·have z2:=un.frzs b ob _ z
      obtain ⟨e1,_⟩:=hok b _ z
      obtain ⟨e2,_⟩:=hok' b _ z2
      rw [e] at e1;cases e1
      exact e2
 cases hk:K.lookup a with
 | some o=>
  have e:=KX a o hk
  rw [ha] at e
  cases e
  refine core (fun _=>none) (fun _=>.inl rfl) (.inr ⟨_,vs.toArray,_,hk,rfl,rfl,rfl,by rw [ZA2,lenV];exact hl,by simpa using rv⟩) (fun b u z=>by have z':(none:Option HO)=some u:=z;cases z') (fun b z=>absurd rfl z) fun z=>absurd rfl z
 | none=>
  refine core (fun b=>if b=a then some (.frz { cls:=.type "list",data:=.seq vs.toArray } (.lst (ns.map V.int))) else none) (fun b=>?_) (.inl (.inr ⟨{ cls:=.type "list",data:=.seq vs.toArray },if_pos rfl⟩)) (fun b u z=>?_) (fun b z=>?_) fun _=>hk
  ·by_cases hb:b=a
   ·exact .inr ⟨_,_,if_pos hb⟩
   ·exact .inl (if_neg hb)
  ·by_cases hb:b=a
   ·have z':=(if_pos hb).symm.trans z
    cases z'
    subst hb
    exact ⟨ha,by rw [ZAu];exact hl,vs,_,rv,ha⟩
   ·have z':=(if_neg hb).symm.trans z
    cases z'
  ·by_cases hb:b=a
   ·exact hb
   ·exact absurd (if_neg hb) z
abbrev KOf {K:ZCa} {h:Heap} (_:K.In h):ZCa:=K
theorem zub {l:PySem.W.OpenLaw} {n k:Nat} {q:Program} {loose:List Str} {XP:(Str->Option Value)->Heap->Prop} {YP:World->Heap->Prop} {d:DefRec} {K:Params->ZCa} {CX:World->CXT} {sp:World->Sp} {x:Str}
 (hn:l.most=some n) (hn2:n<=sizeLine) (hdf:d.params.defaults=[]) (hr:zel k callerA)
 (hY:∀(w:World) (h:Heap),YP w h->(K w.params).In h)
 (F:∀(w:World) (mg:Str->Option Value) (fa:Addr) (h:Heap),(K w.params).In h->h.Ns mainGlobals mg->mg d.name=some (.ref fa)->
  ∃fd:FuncData,(∀(s:Shared) (u:Value),BindsTo s fd ⟨[u],[]⟩ [(x,u)])/\
   ∀base:Heap,(K w.params).In base->base.Ns mainGlobals mg->zbb l.prog w (K w.params) mg base (CX w) k fa fd [x] (sp w))
 (hsp:∀(w:World) (H:Hp) (a:Addr) (ns:List Int),ns.length<=n->zxh H->SqL (K w.params) H a (ns.map V.int)->sp w [.ref a] H (fun v _=>v=.bl true) fun _ _ _=>False)
 (hCX:∀(w:World) (H:Hp) (s:Shared) (e:Value) (s':Shared),CX w [] H s (fun _ _ _=>False) e s'->False):
 PySem.W.WalkO q loose XP YP l.row.toRowW d [] (fun f vs=>PySem.call f vs):=by
 refine Att.attach_call hn hdf fun w s₀ s₁ mg mb fa o pm cd doc a vs ns G Y ho hd hcd hmg hobj hints hlen hg=>?_
 have KX:=hY w _ Y
 obtain ⟨fd,hb,hF⟩:=F w mg fa _ KX G.T.g hmg
 exact zsj KX G.T.g G.T.b G.T.builtins G.T.nolimit hg hobj hints (ZBg hlen hn2) hr hF hb (fun H hO hS=>hsp w H a ns hlen hO hS) fun H e s'=>hCX w H s₁ e s'
theorem zrq {l:PySem.W.OpenLaw} {n k:Nat} {q:Program} {loose:List Str} {XP:(Str->Option Value)->Heap->Prop} {YP:World->Heap->Prop} {d:DefRec} {K:Params->ZCa} {CX:CXT} {sp:ZCa->Sp} {x:Str}
 (hn:l.most=some n) (hn2:n<=sizeLine) (hdf:d.params.defaults=[]) (hr:zel k callerA)
 (hY:∀(w:World) (h:Heap),YP w h->(K w.params).In h)
 (F:∀(w:World) (mg:Str->Option Value) (fa:Addr) (h:Heap),(K w.params).In h->h.Ns mainGlobals mg->mg d.name=some (.ref fa)->
  ∃fd:FuncData,(∀(s:Shared) (u:Value),BindsTo s fd ⟨[u],[]⟩ [(x,u)])/\
   ∀base:Heap,(K w.params).In base->base.Ns mainGlobals mg->zbb l.prog w (K w.params) mg base CX k fa fd [x] (sp (K w.params)))
 (hsp:∀(K:ZCa) (H:Hp) (a:Addr) (ns:List Int),ns.length<=n->zxh H->SqL K H a (ns.map V.int)->sp K [.ref a] H (fun v _=>v=.bl true) fun _ _ _=>False)
 (hCX:∀(H:Hp) (s:Shared) (e:Value) (s':Shared),CX [] H s (fun _ _ _=>False) e s'->False):
 PySem.W.WalkO q loose XP YP l.row.toRowW d [] (fun f vs=>PySem.call f vs):=
 zub (K:=K) (CX:=fun _=>CX) (sp:=fun w=>sp (K w.params)) hn hn2 hdf hr hY F (fun w H a ns h1 h2 h3=>hsp (K w.params) H a ns h1 h2 h3) fun _ H s e s'=>hCX H s e s'
def zdk (s:Stmt) (j:Nat):Stmt:=match s with
 | .ClassDef _ _ _ body _ _ _ _ _ _ _=>body.getD j (.Pass ⟨0,0,0,0⟩)
 | _=>.Pass ⟨0,0,0,0⟩
def zen (s:Stmt):Arguments:=match s with
 | .FunctionDef _ a _ _ _ _ _ _ _ _=>a
 | _=>{ posonlyargs:=[],args:=[],vararg:=none,kwonlyargs:=[],kw_defaults:=[],kwarg:=none,defaults:=[] }
def zdu (s:Stmt):List Stmt:=match s with
 | .FunctionDef _ _ b _ _ _ _ _ _ _=>b
 | _=>[]
def zag (s:Stmt):Scope:=match s with
 | .FunctionDef _ _ _ _ _ _ sc _ _ _=>sc
 | _=>{ kind:=.function,names:=[],isGenerator:=false,isCoroutine:=false }
abbrev CX0:CXT:=fun _ _ _ _ _ _=>False
abbrev E0:XK:=fun _ _ _=>False
theorem zdp {X:Cx}:zir CX0 X E0:=fun _ _ _ _ _ _ _ h=>h.elim
structure Fun (K:ZCa) (x qual:Str) (st:Stmt) (f:Addr) (fd:FuncData):Prop where
 ex:∃(oc:Value) (od:Option Addr) (kV doc pm:Value) (an:Option Addr) (cdv ct:Value) (osl:Array (Option Value)),
  fd=PySem.W.fnOf x qual (zen st) (zdu st) (zag st) .none kV doc pm an cdv ct/\K.lookup f=some ⟨oc,od,.func fd,osl⟩/\PySem.W.codeIn K cdv qual=true
 kp:PySem.W.keepIn K (.ref f)=true
section
theorem Fun.ok {x qual:Str} {st:Stmt} {f:Addr} {fd:FuncData} {N ps:List Str} {k:Nat} {sp:Sp} (F:Fun K x qual st f fd) (S:zan N ps (zag st)) (len:∀vs H Q E,sp vs H Q E->vs.length=ps.length)
 (hbody:∀(cdv:Value) (A:Around) (outer:List Env) (s:Shared) (H:Hp) (vs:List V) (Q:VK) (E:XK),zel k (A.deeper (envOfC qual (zag st) s.heap.objs.size f cdv))->sp vs H Q E->
  ∃t,PSs (zvz CX0 P w K mg base N qual (zag st) f cdv A outer s H E).nox (zdu st) t/\t { nx:=fun _ H'=>Q .non H',rt:=Q } (zdo N vs) H):zbb P w K mg base CX0 (k+1) f fd ps sp:=by
 obtain ⟨oc,od,kV,doc,pm,an,cdv,ct,osl,rfl,lk,hcd⟩:=F.ex
 refine zy2 lk hcd S len fun A outer s H vs Q E hr hsp=>?_
 obtain ⟨t,h,q⟩:=hbody cdv A outer s H vs Q E hr hsp
 exact ⟨t,h.nox,q⟩
theorem Fun.binds {x qual:Str} {st:Stmt} {f:Addr} {fd:FuncData} {ps:List Str} (F:Fun K x qual st f fd)
 (h:∀(kV doc pm:Value) (an:Option Addr) (cdv ct:Value) (us:List Value),us.length=ps.length->bindArgs (PySem.W.fnOf x qual (zen st) (zdu st) (zag st) .none kV doc pm an cdv ct) ⟨us,[]⟩=pure (ps.zip us)):zdd K fd ps []:=by
 obtain ⟨oc,od,kV,doc,pm,an,cdv,ct,osl,rfl,lk,hcd⟩:=F.ex
 exact .all (h kV doc pm an cdv ct)
theorem zty {x qual:Str} {st:Stmt} {f:Addr} {oc:Value} {od an:Option Addr} {osl:Array (Option Value)} {kV doc pm cdv ct:Value} (l:K.lookup f=some ⟨oc,od,.func (PySem.W.fnOf x qual (zen st) (zdu st) (zag st) .none kV doc pm an cdv ct),osl⟩)
 (c:PySem.W.codeIn K cdv qual=true) (k:PySem.W.keepIn K (.ref f)=true):Fun K x qual st f (PySem.W.fnOf x qual (zen st) (zdu st) (zag st) .none kV doc pm an cdv ct):=⟨⟨oc,od,kV,doc,pm,an,cdv,ct,osl,rfl,l,c⟩,k⟩
end
theorem zfh {A:Around} {k:Nat} (hr:zel k A):A.units+1<cLine:=Nat.lt_of_le_of_lt (Nat.add_le_add_left (by decide:1<=64) _) hr.units
theorem zao {n:Nat} (h:n<=1000):n<sizeLine:=Nat.lt_of_le_of_lt h (by decide)
section
variable {X:Cx}
theorem pv (i:Nat) {x:Str} {pos:Pos} (hN:X.N[i]?=some x:=by rfl) (hv:Vis X.env.scope x:=by first | exact Or.inl rfl | exact Or.inr (Or.inl rfl) | exact Or.inr (Or.inr rfl)) (hd:(x==("__debug__":Str))=false:=by decide)
 (hcd:(x==("__classdict__":Str))=false:=by decide):PE X (.Name x pos) (zui i):=zwt hN hv hd hcd
end
theorem zef {A B:Prop} (h:B):if false=true then A else B:=by
 rw [if_neg ZA6]
 exact h
theorem zhb {A B:Prop} (h:A):if true=true then A else B:=by
 rw [if_pos rfl]
 exact h
theorem ziw {c A B:Prop} [Decidable c] (h1:c->A) (h2:¬c->B):if c then A else B:=by
 by_cases h:c
 ·rw [if_pos h]
  exact h1 h
 ·rw [if_neg h]
  exact h2 h
theorem zll {c A B:Prop} [Decidable c] (hc:c) (h:B):if (!decide c)=true then A else B:=by
 rw [ZB8 hc]
 exact zef h
def za7 (H H':Hp):Prop:=∀b o,H b=some o->H' b=some o
theorem za7.refl (H:Hp):za7 H H:=fun _ _ h=>h
theorem za7.trans {H H1 H2:Hp} (a:za7 H H1) (b:za7 H1 H2):za7 H H2:=fun c o h=>b c o (a c o h)
theorem za7.free {H H':Hp} (e:za7 H H') {l:Addr} (h:H' l=Option.none):H l=Option.none:=by
 cases q:H l with
 | none=>rfl
 | some o=>
  rw [e l o q] at h
  cases h
section
variable {prog:Program} {w:World} {A:Around} {R:Result->Shared->Prop} {s:Shared}
theorem zqd {elt target iter:Expr} {ifs:List Expr} {scope:Scope} {pos:Pos} {it acc:Value} {env:Env} (I:Nat->Shared->Prop)
 (turn:∀n s,I n s->wpAny (model prog w) A (pyNext it) (fun r s₁=>match r with
  | none=>R (.ok .next) s₁
  | some v=>wpAny (model prog w) A (letOwnedTupleGo target it v) (fun _ s₁'=>wpAny (model prog w) A (assign target env v) (fun _ s₂=>
   wpAny (model prog w) A (forIn ifs true fun c r=>if r=true then do let ok <-isTrue c env (eval c env);pure (ForInStep.yield ok) else pure (ForInStep.yield r)) (fun ok s₃=>
    if ok=true then wpAny (model prog w) A (eval elt env) (fun x s₄=>
     wpAny (model prog w) A (call (.builtin "list.append") [acc,x]) (fun _ s₅=>∃m,m<n/\I m s₅) (fun _ _=>False) s₄) (fun _ _=>False) s₃
    else ∃m,m<n/\I m s₃) (fun _ _=>False) s₂) (fun _ _=>False) s₁') (fun _ _=>False) s₁) (fun _ _=>False) s)
 (n:Nat) (h:I n s):codeAny (model prog w) A (.compLoop (.ListComp elt [⟨target,iter,ifs,0⟩] scope pos) 0 it acc env) R s:=by
 refine codeAny_loop rfl I (fun n s hI=>?_) n h
 show wpAny _ A ((compTurn (.ListComp elt [⟨target,iter,ifs,0⟩] scope pos) 0 it acc env).onRaise (fun x=>do noteFrame x env;theTreesLotGoes x)) _ _ s
 refine wpAny_noted ?_
 rw [compTurn_list]
 refine ZAp (wpAny_standAt (ZAp (wpAny_mono (turn n s hI) (fun r s₁ h₁=>?_) fun _ _ h'=>h'.elim)))
 cases r with
 | none=>exact ZAq h₁
 | some v=>
  refine ZAp (wpAny_mono h₁ (fun _ s₁' h₁'=>?_) fun _ _ h'=>h'.elim)
  refine ZAp (wpAny_mono h₁' (fun _ s₂ h₂=>ZAp (wpAny_mono h₂ (fun ok s₃ h₃=>?_) fun _ _ h'=>h'.elim)) fun _ _ h'=>h'.elim)
  cases ok with
  | false=>exact ZAq ⟨rfl,h₃⟩
  | true=>
   exact ZAp (ZAp (wpAny_mono h₃ (fun x s₄ h₄=>ZAp (wpAny_mono h₄ (fun _ s₅ h₅=>ZAq (ZAq ⟨rfl,h₅⟩)) fun _ _ h'=>h'.elim)) fun _ _ h'=>h'.elim))
end
theorem zoh {env:Env} {f:(Str×NameKind)->List (Str×Addr)->Sem (ForInStep (List (Str×Addr)))}
 (h1:∀n k cs,k≠NameKind.free->f (n,k) cs=pure (.yield cs)) (h2:∀n a cs,env.cells.lookup n=some a->f (n,.free) cs=pure (.yield ((n,a)::cs))):
 ∀(names:List (Str×NameKind)) (acc:List (Str×Addr)),(∀x∈names,x.2=.free->∃c,env.cells.lookup x.1=some c)->(∀x c,acc.lookup x=some c->env.cells.lookup x=some c)->
  ∃cl,forIn names acc f=pure cl/\(∀x c,cl.lookup x=some c->env.cells.lookup x=some c/\((∃c',acc.lookup x=some c')\/(x,NameKind.free)∈names))/\
   ∀x,((∃c,acc.lookup x=some c)\/(x,NameKind.free)∈names)->∃c,cl.lookup x=some c:=by
 intro names
 induction names with
 | nil=>exact fun acc _ ha=>⟨acc,rfl,fun x c e=>⟨ha x c e,.inl ⟨c,e⟩⟩,fun x hx=>hx.elim (fun z=>z) fun z=>nomatch z⟩
 | cons y r ih=>
  intro acc hn ha
  obtain ⟨n,k⟩:=y
  have hr:∀x∈r,x.2=.free->∃c,env.cells.lookup x.1=some c:=fun x hx=>hn x (ZA4 _ hx)
  by_cases hk:k=.free
  ·subst hk
   obtain ⟨a,e⟩:=hn (n,.free) ZA5 rfl
   have e:env.cells.lookup n=some a:=e
   have ha':∀x c,((n,a)::acc).lookup x=some c->env.cells.lookup x=some c:=fun x c q=>by
    rw [ZA8] at q
    cases hx:x==n with
    | true=>rw [hx] at q;cases q;rw [beq_iff_eq.mp hx];exact e
    | false=>rw [hx] at q;exact ha x c q
   obtain ⟨cl,e1,e2,e3⟩:=ih ((n,a)::acc) hr ha'
   refine ⟨cl,?_,fun x c q=>?_,fun x hx=>?_⟩
   ·rw [List.forIn_cons,h2 n a acc e,pure_bind]
    exact e1
   ·obtain ⟨q1,q2⟩:=e2 x c q
    refine ⟨q1,?_⟩
    rcases q2 with ⟨c',q2⟩ | q2
    ·rw [ZA8] at q2
     cases hx:x==n with
     | true=>rw [beq_iff_eq.mp hx];exact .inr ZA5
     | false=>rw [hx] at q2;exact .inl ⟨c',q2⟩
    ·exact .inr (ZA4 _ q2)
   ·refine e3 x ?_
    rcases hx with ⟨c,hx⟩ | hx
    ·refine .inl ?_
     rw [ZA8]
     cases x==n with
     | true=>exact ⟨a,rfl⟩
     | false=>exact ⟨c,hx⟩
    ·rcases ZBe.mp hx with z | z
     ·cases z
      exact .inl ⟨a,by rw [ZA8,ZB7]⟩
     ·exact .inr z
  ·obtain ⟨cl,e1,e2,e3⟩:=ih acc hr ha
   refine ⟨cl,?_,fun x c q=>?_,fun x hx=>?_⟩
   ·rw [List.forIn_cons,h1 n k acc hk,pure_bind]
    exact e1
   ·obtain ⟨q1,q2⟩:=e2 x c q
    exact ⟨q1,q2.elim .inl fun z=>.inr (ZA4 _ z)⟩
   ·refine e3 x ?_
    rcases hx with hx | hx
    ·exact .inl hx
    ·rcases ZBe.mp hx with z | z
     ·cases z;exact absurd rfl hk
     ·exact .inr z
theorem zjm {scope:Scope} {env:Env} (h:∀x∈scope.names,x.2=.free->∃c,env.cells.lookup x.1=some c):
 ∃cl,closureFor scope env=pure cl/\(∀x c,cl.lookup x=some c->env.cells.lookup x=some c/\(x,NameKind.free)∈scope.names)/\∀x,(x,NameKind.free)∈scope.names->∃c,cl.lookup x=some c:=by
 obtain ⟨cl,e1,e2,e3⟩:=zoh (env:=env) (f:=fun x cs=>if (x.2==NameKind.free)=true then do let a <-cellOf env x.1;pure (ForInStep.yield ((x.1,a)::cs)) else pure (ForInStep.yield cs))
  (fun n k cs hk=>by
   have:(k==NameKind.free)=false:=by simpa using hk
   simp only [this,Bool.false_eq_true,if_false])
  (fun n a cs e=>by
   simp only [ZB7,if_true,cellOf,e,pure_bind])
  scope.names [] h (fun x c q=>nomatch q)
 refine ⟨cl,?_,fun x c q=>?_,fun x hx=>e3 x (.inr hx)⟩
 ·unfold closureFor
  first
   | (rw [show (forIn scope.names ([]:List (Str×Addr)) _:Sem (List (Str×Addr)))=pure cl from e1];rfl)
   | (simp only [e1,pure_bind];done)
   | exact (congrArg (fun z=>z>>=fun cs=>pure cs) e1).trans (pure_bind _ _)
 ·obtain ⟨q1,q2⟩:=e2 x c q
  exact ⟨q1,q2.elim (fun ⟨_,z⟩=>nomatch z) fun z=>z⟩
theorem zd5 {env:Env}:∀{names:List (Str×NameKind)} {x:Str},names.lookup x=some .free->
 (names.map fun (n,k)=>if (k==NameKind.free && env.scope.kind==.function && env.kindOf n==some .cell) then (n,NameKind.cell) else (n,k)).lookup x=some .cell\/
 (names.map fun (n,k)=>if (k==NameKind.free && env.scope.kind==.function && env.kindOf n==some .cell) then (n,NameKind.cell) else (n,k)).lookup x=some .free
 | [],_,h=>by simp at h
 | (n,k)::r,x,h=>by
  have ih:= @zd5 env r x
  show List.lookup x ((if (k==NameKind.free && env.scope.kind==.function && env.kindOf n==some .cell)=true then (n,NameKind.cell) else (n,k))::_)=_\/
   List.lookup x ((if (k==NameKind.free && env.scope.kind==.function && env.kindOf n==some .cell)=true then (n,NameKind.cell) else (n,k))::_)=_
  cases hx:x==n with
  | true=>
   simp only [ZA8,hx] at h
   cases h
   by_cases hc:(NameKind.free==NameKind.free && env.scope.kind==.function && env.kindOf n==some .cell)=true
   ·rw [if_pos hc];exact .inl (by simp [ZA8,hx])
   ·rw [if_neg hc];exact .inr (by simp [ZA8,hx])
  | false=>
   simp only [ZA8,hx] at h
   by_cases hc:(k==NameKind.free && env.scope.kind==.function && env.kindOf n==some .cell)=true
   ·rw [if_pos hc];simp only [ZA8,hx];exact ih h
   ·rw [if_neg hc];simp only [ZA8,hx];exact ih h
def zb1 (X:Cx) (scope:Scope) (cl:List (Str×Addr)) (N:List Str) (ex:List Addr) (s:Shared) (H:Hp):Cx where
 prog:=X.prog
 w:=X.w
 K:=X.K
 mg:=X.mg
 base:=X.base
 A:=X.A
 N:=N
 s₀:=s
 H₀:=H
 env:=compEnvC scope cl s.heap.objs.size X.env
 outer:=X.stack
 stack:=X.stack
 ex:=ex
 fn:=fun x=>scope.names.lookup x==some .local
 calm:=X.calm
 pn:=[]
 xe:=fun _ _=>False
def zf0 (js:List (Option Nat)) (σ:St):St:=js.map fun j=>match j with
 | none=>none
 | some j=>(σ[j]?).join
structure zbw (sc:Scope) (NX:List Str) (scope:Scope) (N:List Str) (js:List (Option Nat)):Prop where
 kind:scope.kind=.function
 cell:∀x∈scope.names,x.2≠.cell
 loc:∀x∈scope.names,x.2=.local->scope.names.lookup x.1=some .local
 free:∀x∈scope.names,x.2=.free->scope.names.lookup x.1=some .free/\(sc.names.lookup x.1=some .cell\/sc.names.lookup x.1=some .free)
 len:js.length=N.length
 at_:∀p∈js.zip N,p.1=none\/∃j∈List.range NX.length,p.1=some j/\NX[j]?=some p.2/\(p.2,NameKind.free)∈scope.names
theorem com {sc:Scope} {NX:List Str} {scope:Scope} {N:List Str} {js:List (Option Nat)} (h1:scope.kind=.function:=by rfl) (h2:∀x∈scope.names,x.2≠.cell:=by decide+kernel) (h3:∀x∈scope.names,x.2=.local->scope.names.lookup x.1=some .local:=by decide+kernel) (h4:∀x∈scope.names,x.2=.free->scope.names.lookup x.1=some .free/\(sc.names.lookup x.1=some .cell\/sc.names.lookup x.1=some .free):=by decide+kernel) (h5:js.length=N.length:=by rfl) (h6:∀p∈js.zip N,p.1=none\/∃j∈List.range NX.length,p.1=some j/\NX[j]?=some p.2/\(p.2,NameKind.free)∈scope.names:=by decide+kernel):zbw sc NX scope N js:=⟨h1,h2,h3,h4,h5,h6⟩
section
variable {X:Cx} {pins:List (Addr×Obj)} {σ:St} {H:Hp} {s:Shared} {scope:Scope} {N:List Str} {js:List (Option Nat)} {cl:List (Str×Addr)} {ex:List Addr}
theorem zsm {h1:Heap} {tk:Nat} (I:Inv X pins σ H s) (C:zbw X.env.scope X.N scope N js) (c2:∀x c,cl.lookup x=some c->X.env.cells.lookup x=some c/\(x,NameKind.free)∈scope.names)
 (c3:∀x,(x,NameKind.free)∈scope.names->∃c,cl.lookup x=some c) (hex:∀b∈ex,zrl X pins H b/\b<s.heap.objs.size)
 (hns:h1.Ns s.heap.objs.size fun _=>none) (hk:∀b o,s.heap.get? b=some o->h1.get? b=some o):Inv (zb1 X scope cl N ex s H) [] (zf0 js σ) H { s with heap:=h1,toks:=tk }:=by
 have fr:∀x,(x,NameKind.free)∈scope.names->(relabel scope X.env).names.lookup x=some .cell\/(relabel scope X.env).names.lookup x=some .free:=fun x hx=>zd5 (C.free _ hx rfl).1
 refine ⟨⟨I.ok.mod,C.kind,I.ok.glob,I.ok.blt,ZAw _,fun x y c e1 e2=>I.ok.inj x y c (c2 x c e1).1 (c2 y c e2).1,fun x hx=>?_,fun x c hf e=>?_,I.ok.hd,I.ok.frames,.inl rfl,fun b hb=>⟨ZBj (hex b hb).2,fun x c e=>(hex b hb).1.2.2.2.2.1 x c (c2 x c e).1⟩,I.bs,ZBg I.ok.bsz I.sz,fun b o e hb=>?_,fun b hb hf=>?_,I.stack,I.stkFree⟩,
  rfl,I.bare,Un.kept hk,⟨fun _=>none,hns,fun i x v e1 e2 e3=>?_⟩,fun x c e=>?_,I.hok.fresh (ZAw _),fun x c e=>I.freeC x c (c2 x c e).1,fun p hp=>absurd (show p∈([]:List (Addr×Obj)) from hp) (by simp),I.hok.kept hk,?_⟩
 ·
  have hx:(relabel scope X.env).names.lookup x=some .cell\/(relabel scope X.env).names.lookup x=some .free:=hx
  have hm:(x,NameKind.free)∈scope.names:=by
   have key:∀k,(relabel scope X.env).names.lookup x=some k->k=.cell\/k=.free->(x,NameKind.free)∈scope.names:=fun k hl hk=>by
    have m:=ZAh hl
    obtain ⟨⟨n,k'⟩,hm,e⟩:=ZBr.mp m
    dsimp only at e
    by_cases hc:(k'==NameKind.free && X.env.scope.kind==.function && X.env.kindOf n==some .cell)=true
    ·rw [if_pos hc] at e
     cases e
     have:k'=.free:=by
      simp only [Bool.and_eq_true,beq_iff_eq] at hc
      exact hc.1.1
     subst this
     exact hm
    ·rw [if_neg hc] at e
     cases e
     rcases hk with z | z
     ·exact absurd z (C.cell _ hm)
     ·subst z;exact hm
   rcases hx with z | z
   ·exact key _ z (.inl rfl)
   ·exact key _ z (.inr rfl)
  exact c3 x hm
 ·have hf:(scope.names.lookup x==some .local)=true:=hf
  have e':=(C.free _ (c2 x c e).2 rfl).1
  rw [e'] at hf
  exact absurd hf (by decide)
 ·obtain ⟨⟨_,_,_,hz,_,_⟩,hlt⟩:=hex b hb
  rcases hz with z | z
  ·exact I.ok.noex b o e z
  ·exact absurd (ZBm (ZBm (ZBc e) I.ok.bsz) z) (ZB2 _)
 ·obtain ⟨⟨_,hL,hfs,_⟩,_⟩:=hex b hb
  rcases ZBe.mp (I.stkSub b hf) with z | z
  ·exact hL z
  ·exact hfs z
 ·
  unfold zf0 at e2
  rw [ZA0] at e2
  cases ej:js[i]? with
  | none=>rw [ej] at e2;cases e2
  | some oj=>
   rw [ej] at e2
   cases oj with
   | none=>cases e2
   | some j=>
    have e2':(σ[j]?).join=some v:=ZA7 e2
    have e2'':σ[j]?=some (some v):=by
     cases q:σ[j]? with
     | none=>rw [q] at e2';cases e2'
     | some z=>rw [q] at e2';exact congrArg some e2'
    have e1:N[i]?=some x:=e1
    have hz:(some j,x)∈js.zip N:=ZAm.mpr ⟨i,by rw [List.getElem?_zip_eq_some];exact ⟨ej,e1⟩⟩
    obtain ⟨a1,a2⟩:X.N[j]?=some x/\(x,NameKind.free)∈scope.names:=by
     rcases C.at_ _ hz with q | ⟨j',_,q,a1,a2⟩
     ·cases q
     ·cases q
      exact ⟨a1,a2⟩
    have a1:X.N[j]?=some x:=a1
    have a2:(x,NameKind.free)∈scope.names:=a2
    obtain ⟨b1,b2⟩:=C.free _ a2 rfl
    have b2:X.env.scope.names.lookup x=some .cell\/X.env.scope.names.lookup x=some .free:=b2
    obtain ⟨m,_,hl⟩:=I.loc
    obtain ⟨u,r,l⟩:=hl j x v a1 e2'' (.inr b2)
    refine ⟨u,r,?_⟩
    rcases l with ⟨k,_⟩ | ⟨_,c,hc,z⟩
    ·have k:X.env.scope.names.lookup x=some .local:=k
     rcases b2 with b2 | b2<;>(rw [b2] at k;cases k)
    ·obtain ⟨c',hc'⟩:=c3 x a2
     have:=(c2 x c' hc').1
     rw [hc] at this
     cases this
     obtain ⟨o,ho,hd⟩:=z
     exact .inr ⟨fr x a2,c,hc',⟨o,hk _ _ ho,hd⟩⟩
 ·obtain ⟨v,o,ho,hd⟩:=I.cell x c (c2 x c e).1
  exact ⟨v,o,hk _ _ ho,hd⟩
 ·show (zf0 js σ).length=N.length
  unfold zf0
  rw [ZAu]
  exact C.len
end
def PIf (X:Cx) (ifs:List Expr) (t:TT):Prop:=
 ∀(pins:List (Addr×Obj)) (s:Shared) (σ:St) (H:Hp) (Q:Bool->Hp->Prop),Inv X pins σ H s->t σ H Q->
  wpAny (model X.prog X.w) X.A (forIn ifs true fun c r=>if r=true then do let ok <-isTrue c X.env (eval c X.env);pure (ForInStep.yield ok) else pure (ForInStep.yield r)) (TP X pins σ Q) X.xe s
def zAg:TT:=fun _ H Q=>Q true H
theorem zb9 {X:Cx}:PIf X [] zAg:=fun _ _ _ H _ I h=>wpAny_tests_nil ⟨H,I,h⟩
theorem zf5 {X:Cx} {c:Expr} {t:TT} (h:PT X c t):PIf X [c] t:=fun pins s σ H Q I hw=>wpAny_tests_one (h pins s σ H Q I hw)
def zg1 (js:List (Option Nat)) (g:TG) (tc:TT) (te:TE) (σ:St) (Q:VK) (J:It) (H1:Hp) (D:Addr):Prop:=∃W:Nat->Nat->St->Hp->Prop,(∃m,W 0 m (zf0 js σ) (upd H1 D (.lst [])))/\
 ∀i m σ' H',W i m σ' H'->(J.stop i H'/\Q (.ref D) H')\/(J.go i H'/\∃N:St->Hp->Prop,(∀σ2 H2,N σ2 H2->∃m',m'<m/\W (i+1) m' σ2 H2)/\
  ∀x H2,J.yld i H' x H2->g x σ' H2 fun σ3 H3=>tc σ3 H3 fun ok H4=>if ok=true then te σ3 H4 fun y H5=>∃ys,H5 D=some (.lst ys)/\ys.length<sizeLine/\N σ3 (upd H5 D (.lst (ys++[y]))) else N σ3 H4)
def zrx (js:List (Option Nat)) (wi:TI) (g:TG) (tc:TT) (te:TE):TE:=fun σ H Q=>wi σ H fun J H1=>∀D,H1 D=none->zg1 js g tc te σ Q J H1 D
def fsc (l:List (Str×NameKind)):Scope:={ kind:=.function,names:=l,isGenerator:=false,isCoroutine:=false,more:=[] }
section
variable {X:Cx} {tg iter elt:Expr} {ifs:List Expr} {scope:Scope} {pos:Pos} {N:List Str} {js:List (Option Nat)} {wi:TI} {g:TG} {tc:TT} {te:TE}
theorem znv {cl:List (Str×Addr)} {pins:List (Addr×Obj)} {σ:St} {H:Hp} {s:Shared} {E:Value->Shared->Prop} {Q:VK} {RR:Value->Addr->Result->Shared->Prop} (hc:zf8 X) (C:zbw X.env.scope X.N scope N js)
 (c2:∀x c,cl.lookup x=some c->X.env.cells.lookup x=some c/\(x,NameKind.free)∈scope.names) (c3:∀x,(x,NameKind.free)∈scope.names->∃c,cl.lookup x=some c)
 (hb:∀cl ex s H,zf8 (zb1 X scope cl N ex s H)->PG (zb1 X scope cl N ex s H) tg g/\PIf (zb1 X scope cl N ex s H) ifs tc/\PE (zb1 X scope cl N ex s H) elt te)
 {it:Addr} {fp:List Addr} {tn:Nat->Heap->Prop} {J:It} (I:Inv X pins σ H s) (T:zvo X.prog X.w X.K tg J fp it tn) (st:tn 0 s.heap) (f2:∀b∈fp,zrl X pins H b)
 (q:∀D,H D=none->zg1 js g tc te σ Q J H D)
 (hRR:∀D C' H' s',Q (.ref D) H'->(∃m,s'.heap.Ns C' m)->H' C'=none->X.s₀.heap.objs.size<=C'->C'≠X.env.locals->(∀x c,X.env.cells.lookup x=some c->c≠C')->(∀p∈X.pn++pins,p.1≠C')->Inv X pins σ H' s'->RR (.ref D) C' (.ok .next) s'):
 wpAny (model X.prog X.w) X.A (newList []) (fun acc s₃=>wpAny (model X.prog X.w) X.A (newFunctionEnv scope X.env.globals cl [] X.env.qual none .none (some X.env)) (fun cenv s₄=>
  codeAny (model X.prog X.w) X.A (.compStart (.ListComp elt [⟨tg,iter,ifs,0⟩] scope pos) 0 (.ref it) acc { cenv with scope:=relabel scope X.env }) (RR acc cenv.locals) s₄) E s₃) E s:=by
 have hD:H s.heap.objs.size=none:=I.fresh
 have I3:Inv X pins σ (upd H s.heap.objs.size (.lst [])) { s with heap:=s.heap.push { cls:=.type "list",data:=.seq ([]:List Value).toArray } }:=I.lnew (its:=[]) (ys:=[]) (t':=s.toks) .nil (ZBa _)
 refine wpAny_newObj_type (wpAny_newFunctionEnv C.cell (by intro y hy;simp at hy) (fun h₁ hns₁ hsb₁=>?_) C.kind)
 dsimp only at hns₁ hsb₁ ⊢
 generalize hs3:({ s with heap:=s.heap.push { cls:=.type "list",data:=.seq ([]:List Value).toArray } }:Shared)=s3 at I3
 have hh3:s.heap.push { cls:=.type "list",dict:=none,data:=.seq ([]:List Value).toArray }=s3.heap:=by rw [<-hs3]
 rw [hh3] at hns₁ hsb₁ ⊢
 have kp:∀b o,s3.heap.get? b=some o->h₁.get? b=some o:=fun b o e=>hsb₁.extBut b o (ZBj (ZBc e)) (ZAy _ e)
 have hlt:∀b∈fp,b<s.heap.objs.size:=fun b hb=>by
  obtain ⟨o,e,_⟩:=T.obj 0 s.heap st b hb
  exact ZBc e
 have sz3:s3.heap.objs.size=s.heap.objs.size+1:=by rw [<-hh3,Heap.size_push]
 have f3:∀b∈fp,zrl X pins (upd H s.heap.objs.size (.lst [])) b:=fun b hb=>by
  obtain ⟨h1,h2⟩:=f2 b hb
  exact ⟨by rw [zai (ZBj (hlt b hb))];exact h1,h2⟩
 have IY:∀tk,Inv (zb1 X scope cl N fp s3 (upd H s.heap.objs.size (.lst []))) [] (zf0 js σ) (upd H s.heap.objs.size (.lst [])) { s3 with heap:=h₁,toks:=tk }:=fun tk=>
  zsm I3 C c2 c3 (fun b hb=>⟨f3 b hb,by rw [sz3];exact Nat.lt_succ_of_lt (hlt b hb)⟩) hns₁ kp
 have st1:tn 0 h₁:=T.keep 0 s.heap h₁ st fun b hb o e=>kp b o (by rw [<-hh3];exact ZAy _ e)
 obtain ⟨W,⟨m0,w0⟩,turn⟩:=q s.heap.objs.size hD
 have hcY:zf8 (zb1 X scope cl N fp s3 (upd H s.heap.objs.size (.lst []))):=hc.in_ I3 rfl rfl fun _ _ _ z=>z
 have hbY:=hb cl fp s3 (upd H s.heap.objs.size (.lst [])) hcY
 obtain ⟨hg,hif,he⟩:=hbY
 have stat:∀{H':Hp},(∀b∈fp,H' b=none)->∀b∈fp,zrl (zb1 X scope cl N fp s3 (upd H s.heap.objs.size (.lst []))) [] H' b:=fun hn b hb=>by
  obtain ⟨_,hL,hfs,_,hcl,_⟩:=f2 b hb
  refine ⟨hn b hb,ZBj (by show b<s3.heap.objs.size;rw [sz3];exact Nat.lt_succ_of_lt (hlt b hb)),fun z=>?_,.inl hb,fun x c e=>hcl x c (c2 x c e).1,fun p hp=>absurd (show p∈([]:List (Addr×Obj)) from hp) (by simp)⟩
  rcases ZBe.mp (I.stkSub b z) with z | z
  ·exact hL z
  ·exact hfs z
 have loop:∀s4:Shared,s4={ s3 with heap:=h₁,toks:=s.toks+([]:List (Str×Value)).length }->
  codeAny (model X.prog X.w) X.A (.compLoop (.ListComp elt [⟨tg,iter,ifs,0⟩] scope pos) 0 (.ref it) (.ref s.heap.objs.size) (compEnvC scope cl s3.heap.objs.size X.env)) (RR (.ref s.heap.objs.size) s3.heap.objs.size) s4:=by
  rintro s4 rfl
  refine zqd (fun n s'=>∃i σ' H',Inv (zb1 X scope cl N fp s3 (upd H s.heap.objs.size (.lst []))) [] σ' H' s'/\tn i s'.heap/\(∀b∈fp,H' b=none)/\W i n σ' H') ?_ m0
   ⟨0,_,_,IY _,st1,fun b hb=>(f3 b hb).1,w0⟩
  rintro n s5 ⟨i,σ5,H5,I5,st5,fr5,w5⟩
  rcases turn i n σ5 H5 w5 with ⟨stop,qn⟩ | ⟨go,Nx,hN,step⟩
  ·refine thn (T.done (zb1 X scope cl N fp s3 (upd H s.heap.objs.size (.lst []))) rfl rfl rfl hcY i [] s5 σ5 H5 _ I5 (stat fr5) st5 stop) fun r s6 ⟨hr,I6⟩=>?_
   subst hr
   obtain ⟨m,hn,_⟩:=I6.loc
   refine hRR _ _ H5 s6 qn ⟨m,hn⟩ I6.free (ZBg I3.sz (ZAw _)) (Nat.ne_of_gt I3.lt) (fun x c e z=>?_) (fun p hp z=>?_) (I3.call' I6.os I6.base I6.hok I6.bare fun b hb=>?_)
   ·obtain ⟨v,o,ho,_⟩:=I3.cell x c e
    exact absurd (ZBc ho) (by rw [z];exact ZB2 _)
   ·exact absurd (ZBc (I3.pin p hp).1) (by rw [z];exact ZB2 _)
   ·obtain ⟨_,hL,_,hx,hcl,hp⟩:=f2 b hb
    exact ⟨hx,hL,hcl,hp⟩
  ·refine thn (T.item (zb1 X scope cl N fp s3 (upd H s.heap.objs.size (.lst []))) rfl rfl rfl hcY i [] s5 σ5 H5 _ I5 (stat fr5) st5 go) fun r s6 zz=>L2.el3 zz fun u hr h6=>?_
   subst hr
   refine thn h6 fun _ s7 zz=>?_
   obtain ⟨x,H7,I7,r7,y7,st7,fr7⟩:=zz
   have I7':=I7.pinned (stat fr7) (T.obj _ _ st7)
   refine thn (hg _ s7 σ5 H7 x u _ I7' r7 (step x H7 y7)) fun _ s8 zz=>?_
   obtain ⟨σ8,H8,I8,q8⟩:=zz
   refine thn (hif _ s8 σ8 H8 _ I8 q8) fun ok s9 zz=>?_
   obtain ⟨H9,I9,q9⟩:=zz
   have again:∀{s':Shared} {σ':St} {H':Hp},Inv (zb1 X scope cl N fp s3 (upd H s.heap.objs.size (.lst []))) ([]++zle fp s7.heap) σ' H' s'->Nx σ' H'->
    ∃m,m<n/\∃i σ'' H'',Inv (zb1 X scope cl N fp s3 (upd H s.heap.objs.size (.lst []))) [] σ'' H'' s'/\tn i s'.heap/\(∀b∈fp,H'' b=none)/\W i m σ'' H'':=fun {s' σ' H'} I' n'=>by
    obtain ⟨m',hm,w'⟩:=hN σ' H' n'
    refine ⟨m',hm,i+1,σ',H',I'.unpinned,T.keep _ _ _ st7 fun b hb o e=>(I'.pin (b,o) (ZBn _ (ZBn _ (zft hb e)))).1,fun b hb=>?_,w'⟩
    obtain ⟨o,e,d⟩:=T.obj _ _ st7 b hb
    exact (I'.pin (b,o) (ZBn _ (ZBn _ (zft hb e)))).2.1
   cases ok with
   | false=>exact again I9 q9
   | true=>
    refine thn (he _ s9 σ8 H9 _ I9 q9) fun yv s10 zz=>?_
    obtain ⟨y,H10,I10,r10,ys,hDD,hlt',n10⟩:=zz
    refine thn (zcn _ s10 σ8 H10 (.ref s.heap.objs.size) [y] (.ref s.heap.objs.size) [yv] (fun _ H'=>Nx σ8 H') I10 rfl (.cons r10 .nil) ⟨_,ys,y,rfl,rfl,hDD,hlt',n10⟩) fun _ s11 zz=>?_
    obtain ⟨_,H11,I11,_,n11⟩:=zz
    exact again I11 n11
 have e4:({ s with heap:=h₁,toks:=s.toks+([]:List (Str×Value)).length }:Shared)={ s3 with heap:=h₁,toks:=s.toks+([]:List (Str×Value)).length }:=by rw [<-hs3]
 exact codeAny_compStart_list (loop _ e4) (T.self _ 0 _ _ _ st1 (loop _ e4))
theorem zse (hc:zf8 X) (hi:PI X tg iter wi) (C:zbw X.env.scope X.N scope N js)
 (hb:∀cl ex s H,zf8 (zb1 X scope cl N ex s H)->PG (zb1 X scope cl N ex s H) tg g/\PIf (zb1 X scope cl N ex s H) ifs tc/\PE (zb1 X scope cl N ex s H) elt te)
 (hs:∀x,foldedSetIterable iter X.env x=pure x:=by intro _;rfl):PE X (.ListComp elt [⟨tg,iter,ifs,0⟩] scope pos) (zrx js wi g tc te):=by
 intro pins s σ H Q I h
 obtain ⟨cl,hcl,c2,c3⟩:=zjm (scope:=scope) (env:=X.env) fun x hx hf=>I.ok.has x.1 (C.free x hx hf).2
 rw [eval_ListComp]
 refine wpAny_comprehension_free (use:=none) rfl hs hcl C.kind C.loc (thn (hi pins s σ H _ I h) fun xv s₁ h₁=>thn h₁ fun itv s₂ h₂=>?_)
 obtain ⟨it,fp,tn,J,H2,rfl,I2,T,st2,f2,q⟩:=h₂
 refine znv (RR:=fun acc C'=>compPost (model X.prog X.w) X.A X.xe none (EP X pins σ Q) acc C') hc C c2 c3 hb I2 T st2 f2 q ?_
 intro D C' H' s' hq hns hfr hsz hL hcl' hpin I'
 obtain ⟨m,hn⟩:=hns
 refine ⟨m,hn,fun h' sb=>⟨.ref D,H',?_,rfl,hq⟩⟩
 exact I'.turned (t':=s'.toks) (fun b o hb e=>(sb.2 b hb).trans e) hfr (ZAl (ZAl hL)) (.inr hsz) hcl' hpin
theorem zcs (hc:X.calm=true) (hi:PI X tg iter wi) (C:zbw X.env.scope X.N scope N js)
 (hb:∀cl ex s H,PG (zb1 X scope cl N ex s H) tg g/\PIf (zb1 X scope cl N ex s H) ifs tc/\PE (zb1 X scope cl N ex s H) elt te)
 (hs:∀x,foldedSetIterable iter X.env x=pure x:=by intro _;rfl):PE X (.ListComp elt [⟨tg,iter,ifs,0⟩] scope pos) (zrx js wi g tc te):=zse (.inl hc) hi C (fun cl ex s H _=>hb cl ex s H) hs
theorem zr9 {i:Nat} {y:Str} {py spos:Pos} (hN:X.N.Nodup) (hi':X.N[i]?=some y) (hy:X.env.scope.names.lookup y=some .local) (hc:zf8 X) (hi:PI X tg iter wi) (C:zbw X.env.scope X.N scope N js)
 (hb:∀cl ex s H,zf8 (zb1 X scope cl N ex s H)->PG (zb1 X scope cl N ex s H) tg g/\PIf (zb1 X scope cl N ex s H) ifs tc/\PE (zb1 X scope cl N ex s H) elt te)
 (hsw:swapsWith (.ListComp elt [⟨tg,iter,ifs,0⟩] scope pos) (some (.Name y py)) spos.line X.env=pure true:=by rfl)
 (hs:∀x,foldedSetIterable iter X.env x=pure x:=by intro _;rfl):PS X (.Assign [.Name y py] (.ListComp elt [⟨tg,iter,ifs,0⟩] scope pos) spos) (zwc (zrx js wi g tc te) (zmj i)):=by
 intro pins s σ H D I h
 obtain ⟨cl,hcl,c2,c3⟩:=zjm (scope:=scope) (env:=X.env) fun x hx hf=>I.ok.has x.1 (C.free x hx hf).2
 rw [exec_Assign_Name_used _ _ _ _ hsw]
 refine ZAp (wpAny_standAt (ZAp ?_))
 show wpAny _ X.A (do let _ <-comprehension (.ListComp elt [⟨tg,iter,ifs,0⟩] scope pos) scope X.env _ (newList []) false (eval iter X.env) (some (assign (.Name y py) X.env))) _ _ s
 refine ZAp (wpAny_mono (wpAny_comprehension_free (use:=some (assign (.Name y py) X.env)) (Q:=fun _ s'=>SP X pins D .next s') rfl hs hcl C.kind C.loc (thn (hi pins s σ H _ I h) fun xv s₁ h₁=>thn h₁ fun itv s₂ h₂=>?_))
  (fun _ s' hq=>ZAq (ZAq hq)) fun _ _ e=>e)
 obtain ⟨it,fp,tn,J,H2,rfl,I2,T,st2,f2,q⟩:=h₂
 refine znv (Q:=fun x H1=>zmj i x σ H1 D.nx) (RR:=fun acc C'=>compPost (model X.prog X.w) X.A X.xe (some (assign (.Name y py) X.env)) (fun _ s'=>SP X pins D .next s') acc C') hc C c2 c3 hb I2 T st2 f2 q ?_
 intro Da C' H' s' hq hns hfr hsz hL hcl' hpin I'
 obtain ⟨m,hn⟩:=hns
 show wpAny _ X.A (assign (.Name y py) X.env (.ref Da)) _ _ _
 refine wpAny_assign_Name (zk6 I' hN hi' (.inl hy) (v:=.ref Da) rfl (fun s2 I2 hx=>?_) (.inr hy))
 obtain ⟨a,sba,ha⟩:=hx
 have hne:C'≠a:=by
  rcases ha with z | z
  ·rw [z];exact hL
  ·exact fun e=>hcl' y a z e.symm
 refine ⟨m,hn.sameBut sba hne,fun h' sb=>⟨_,H',?_,hq⟩⟩
 exact I2.turned (t':=s2.toks) (fun b o hb e=>(sb.2 b hb).trans e) hfr hL (.inr hsz) hcl' hpin
theorem zgw {i:Nat} {y:Str} {py spos:Pos} (hN:X.N.Nodup) (hi':X.N[i]?=some y) (hy:X.env.scope.names.lookup y=some .local) (hc:X.calm=true) (hi:PI X tg iter wi) (C:zbw X.env.scope X.N scope N js)
 (hb:∀cl ex s H,PG (zb1 X scope cl N ex s H) tg g/\PIf (zb1 X scope cl N ex s H) ifs tc/\PE (zb1 X scope cl N ex s H) elt te)
 (hsw:swapsWith (.ListComp elt [⟨tg,iter,ifs,0⟩] scope pos) (some (.Name y py)) spos.line X.env=pure true:=by rfl)
 (hs:∀x,foldedSetIterable iter X.env x=pure x:=by intro _;rfl):PS X (.Assign [.Name y py] (.ListComp elt [⟨tg,iter,ifs,0⟩] scope pos) spos) (zwc (zrx js wi g tc te) (zmj i)):=zr9 hN hi' hy (.inl hc) hi C (fun cl ex s H _=>hb cl ex s H) hsw hs
end
section
variable {g:TG} {tc:TT} {te:TE} {js:List (Option Nat)} {σ:St} {H:Hp} {Q:VK} {D:Addr}
theorem zes {lo:Int} {n:Nat} (Pv:Nat->St->Hp->Prop) (h0:Pv 0 (zf0 js σ) (upd H D (.lst [])))
 (hs:∀i σ' H',i<n->Pv i σ' H'->g (.int (lo+i)) σ' H' fun σ3 H3=>tc σ3 H3 fun ok H4=>if ok=true then te σ3 H4 fun y H5=>∃ys,H5 D=some (.lst ys)/\ys.length<sizeLine/\Pv (i+1) σ3 (upd H5 D (.lst (ys++[y]))) else Pv (i+1) σ3 H4)
 (hd:∀σ' H',Pv n σ' H'->Q (.ref D) H'):
 zg1 js g tc te σ Q (Itr lo n) H D:=by
 refine ⟨fun i m σ H=>m=n-i/\i<=n/\Pv i σ H,⟨n,by simp,ZBa _,h0⟩,?_⟩
 rintro i m σ' H' ⟨rfl,hi,p⟩
 by_cases hlt:i<n
 ·refine .inr ⟨hlt,Pv (i+1),fun σ2 H2 p'=>⟨n-(i+1),by omega,rfl,hlt,p'⟩,fun x H2 y=>?_⟩
  obtain ⟨e,y⟩:=y
  subst e y
  exact hs i σ' _ hlt p
 ·have e:i=n:=by omega
  subst e
  exact .inl ⟨ZAw _,hd σ' H' p⟩
theorem zdc {K:ZCa} {a:Addr} {xs:List V} (Pv:Nat->St->Hp->Prop) (h0:Pv 0 (zf0 js σ) (upd H D (.lst []))) (hl:∀i σ' H',i<=xs.length->Pv i σ' H'->SqL K H' a xs)
 (hs:∀i x σ' H',xs[i]?=some x->Pv i σ' H'->g x σ' H' fun σ3 H3=>tc σ3 H3 fun ok H4=>if ok=true then te σ3 H4 fun y H5=>∃ys,H5 D=some (.lst ys)/\ys.length<sizeLine/\Pv (i+1) σ3 (upd H5 D (.lst (ys++[y]))) else Pv (i+1) σ3 H4)
 (hd:∀σ' H',Pv xs.length σ' H'->Q (.ref D) H'):
 zg1 js g tc te σ Q (Itl K a) H D:=by
 refine ⟨fun i m σ H=>m=xs.length-i/\i<=xs.length/\Pv i σ H,⟨xs.length,by simp,ZBa _,h0⟩,?_⟩
 rintro i m σ' H' ⟨rfl,hi,p⟩
 have q:=hl i σ' H' hi p
 by_cases hlt:i<xs.length
 ·refine .inr ⟨⟨xs,xs[i],q,by simp [hlt]⟩,Pv (i+1),fun σ2 H2 p'=>⟨xs.length-(i+1),by omega,rfl,hlt,p'⟩,fun x H2 y=>?_⟩
  obtain ⟨e,y⟩:=y
  subst e
  exact hs i x σ' _ (y xs q) p
 ·have e:i=xs.length:=by omega
  subst e
  exact .inl ⟨⟨xs,q,ZAw _⟩,hd σ' H' p⟩
end
end L2
set_option maxHeartbeats 4000000
namespace L2
open PySem PySem.Spec PyProof.Rows
section
variable {P:Program} {w:World} {H:Hp} {h:Heap} {a d C:Addr} {dx:Option Addr} {t:Addr} {fs:List (Str×V)}
end
section
variable {prog:Program} {w:World} {A:Around} {E:Value->Shared->Prop} {h:Heap} {g:Array GenState} {d:Drawn} {t:Nat} {os:OsState}
variable {nm q:Str} {C N:Addr} {bs bm:List Value} {hdct:Bool} {sn:List Str} {sub:List Value} {ab:Bool} {col:Option Bool} {dd:Option Addr} {k0 k1 k2 k3 k5:Option Value}
end
section
variable {X:Cx} {CX:CXT} {k:Nat} {f C Mo:Addr} {fd:FuncData} {ps:List Str} {sp:Sp} {E:XK} {x:Str} {p pos:Pos} {e:Expr} {es:List Expr} {t:TA}
end
open PySem PySem.Spec PyProof.Rows Builtin Builtin.ObjectAttr
section
variable {M:Model} {A:Around} {E:Value->Shared->Prop} {s:Shared} {base h0:Heap} {H:Hp} {env:Env} {outer:List Env} {L a C:Addr} {dx:Option Addr}
end
section
variable {P:Program} {w:World} {K:ZCa} {mg:Str->Option Value} {base:Heap} {N:List Str} {qual:Str} {scope:Scope} {f:Addr} {cd:Value} {A:Around} {outer:List Env} {s:Shared} {H:Hp} {EX:XK}
end
section
variable {P:Program} {w:World} {K:ZCa} {mg:Str->Option Value} {base:Heap} {N:List Str} {qual:Str} {scope:Scope} {f:Addr} {cd:Value} {A:Around} {outer:List Env} {s:Shared} {H:Hp} {EX:XK}
end
section
variable {X:Cx} {pins pins':List (Addr×Obj)} {Ex:Addr->Option Addr->St->Hp->Prop} {σ:St} {H:Hp} {s:Shared} {e:Value}
end
section
variable {X:Cx} {a b c d:Expr} {ta tb tc td:TE} {pos:Pos}
def zun (r r' r'':R2) (ta tb tc td:TE):TE:=fun σ H Q=>ta σ H fun x H1=>tb σ H1 fun y H2=>r x y H2 fun z H3=>∃k,z=.bl k/\
 (if k=true then tc σ H3 fun x2 H4=>r' y x2 H4 fun z2 H5=>∃k2,z2=.bl k2/\(if k2=true then td σ H5 fun x3 H6=>r'' x2 x3 H6 Q else Q (.bl false) H5) else Q (.bl false) H3)
theorem zld {op op' op'':CmpOp} {r r' r'':R2} (ho:OpR X (compareOp op) r) (ho':OpR X (compareOp op') r') (ho'':OpR X (compareOp op'') r'') (ha:PE X a ta) (hb:PE X b tb) (hc:PE X c tc) (hd:PE X d td)
 (hm:lastMarks [op,op',op''] [b,c,d]=false:=by with_unfolding_all rfl):PT X (.Compare a [op,op',op''] [b,c,d] pos) (zru (zun r r' r'' ta tb tc td)):=by
 intro pins s σ H Q I h
 refine isTrue_chain (thn (ha pins s σ H _ I h) fun v s1 zz=>L2.el5 zz fun x H1 I1 r1 q1=>test_link (thn (hb pins s1 σ H1 _ I1 q1) fun u s2 zz=>L2.el5 zz fun y H2 I2 r2 q2=>
  thn (ho pins s2 σ H2 x y v u _ I2 r1 r2 q2) fun z s3 zz=>?_)) hm
 obtain ⟨z',H3,I3,r3,k,e,q3⟩:=zz
 subst e
 cases r3
 refine wpAny_truthy_bool ?_
 cases k with
 | false=>
  obtain ⟨k',e',q'⟩:=q3
  cases e'
  exact ite_ff ⟨H3,I3,q'⟩
 | true=>
  refine ite_tt (test_link (thn (hc pins s3 σ H3 _ I3 q3) fun x2 s4 zz=>L2.el5 zz fun y4 H4 I4 r4 q4=>thn (ho' pins s4 σ H4 y y4 u x2 _ I4 r2 r4 q4) fun z2 s5 zz=>?_))
  obtain ⟨z5,H5,I5,r5,k2,e2,q5⟩:=zz
  subst e2
  cases r5
  refine wpAny_truthy_bool ?_
  cases k2 with
  | false=>
   obtain ⟨k',e',q'⟩:=q5
   cases e'
   exact ite_ff ⟨H5,I5,q'⟩
  | true=>
   refine ite_tt (test_last (thn (hd pins s5 σ H5 _ I5 q5) fun x3 s6 zz=>L2.el5 zz fun y6 H6 I6 r6 q6=>thn (ho'' pins s6 σ H6 y4 y6 x2 x3 _ I6 r4 r6 q6) fun z3 s7 zz=>?_))
   obtain ⟨z7,H7,I7,r7,k3,e3,q7⟩:=zz
   subst e3
   cases r7
   exact wpAny_truthy_bool ⟨H7,I7,q7⟩
theorem zqo {ns:List Int}:∀{us:List Value},zb3 (ns.map V.int) us->IntsAre us ns:=by
 induction ns with
 | nil=>intro us h;cases h;exact .nil
 | cons n r ih=>
  intro us h
  cases h with
  | cons q t=>
   obtain ⟨tk,rfl⟩:=q
   exact .cons n tk (ih t)
def zAy (K:ZCa) (neg:Bool):R2:=fun x y H Q=>∃(p q:Addr) (ns ms:List Int),x=.ref p/\y=.ref q/\SqL K H p (ns.map V.int)/\SqL K H q (ms.map V.int)/\Q (.bl (if neg then !decide (ns=ms) else decide (ns=ms))) H
theorem zww (hu:X.A.units+64<cLine):OpR X (compareOp .NotEq) (zAy X.K true):=by
 intro pins s σ H x y v u Q I rx ry h
 obtain ⟨p,q,ns,ms,rfl,rfl,h1,h2,hq⟩:=h
 cases rx
 cases ry
 obtain ⟨its,r1,p1,_⟩:=I.list h1
 obtain ⟨its2,r2,p2,_⟩:=I.list h2
 exact PySem.W.ke_ne_ints p1.isList p2.isList (zqo r1) (zqo r2) hu ⟨.bl _,H,I,rfl,hq⟩
theorem zmr:zg2 X (.builtin "isinstance") (fun xs H Q=>∃x n t b,xs=[x,.ty n]/\zom X.K H x t/\PySem.W.kitOne X.K t (.type n)=some b/\Q (.bl b) H):=by
 intro pins s σ H xs us Q I r h
 obtain ⟨x,n,t,b,rfl,ty,e,q⟩:=h
 obtain ⟨u,v,rfl,r1,r2⟩:=zud r
 cases r2
 exact zql I r1 ty e fun tk=>⟨.bl b,H,I.tok _,rfl,q⟩
theorem zos:∀{xs:List V} {us:List Value},xs.length=us.length->(∀(i:Nat) x u,xs[i]?=some x->us[i]?=some u->zck x u)->zb3 xs us
 | [],[],_,_=>.nil
 | [],_::_,h,_=>by simp at h
 | _::_,[],h,_=>by simp at h
 | x::xs,u::us,h,r=>.cons (r 0 x u rfl rfl) (zos (by simpa using h) fun i y v e1 e2=>r (i+1) y v (by simpa using e1) (by simpa using e2))
end
section
variable {Y:Cx} {K:ZCa} {tg:Expr}
theorem zpw {es:List Expr} {k:Nat} {t:TGs} {n:Nat} {pos:Pos} (hK:Y.K=K) (hc:Y.calm=true) (h:PGs Y es t) (hn:(assignEach es Y.env).length=n:=by rfl) (hst:(assignEach es Y.env).findIdx? (·.1)=none:=by rfl):PG Y (.Tuple es k pos) (zy0 K n t):=by
 subst hK;exact zjc hc h hn hst
end
section
variable {P:Program} {w:World} {H:Hp} {h:Heap} {a C:Addr} {dx:Option Addr} {t tb:Value}
end
section
variable {X:Cx} {pins:List (Addr×Obj)} {σ:St} {H:Hp} {s:Shared} {a C:Addr} {dx:Option Addr} {t tb:Value}
end
open PySem PySem.Spec PyProof.Rows Builtin
section
variable {prog:Program} {w:World} {A:Around} {E:Value->Shared->Prop} {s:Shared} {K:ZCa} {x C:Addr} {ox od:Obj} {name:Str}
end
section
variable {X:Cx} {K:ZCa} {e:Expr} {f:Str} {pos:Pos} {ta:TE}
end
structure zmu (k:Nat) (A:Around):Prop where
 dp:A.depth+3*k+5<recursionLimit
 un:A.units+16*k+200<cLine
theorem zel.h {k:Nat} {A:Around} (r:zel k A):zmu k A:=⟨r.dp,r.un⟩
theorem zmu.deeper {k:Nat} {A:Around} (r:zmu (k+1) A) (env:Env):zmu k (A.deeper env):=⟨by have:=r.dp;show A.depth+1+3*k+5<_;omega,by have:=r.un;show A.units+3+16*k+200<_;omega⟩
def zxj (A:Around) (H:Hp):Prop:=A.handled=none\/∃(a C:Addr) (dx:Option Addr) (t tb:Value) (u:HO),A.handled=some (.ref a)/\H a=some (.frz (zlr C dx t tb) u)
structure zrh (P:Program) (w:World) (K:ZCa) (mg:Str->Option Value) (base:Heap) (CX:CXT) (k:Nat) (f:Addr) (fd:FuncData) (ps:List Str) (sp:Sp):Prop where
 len:∀vs H Q E,sp vs H Q E->vs.length=ps.length
 run:∀(A:Around) (outer:List Env) (s:Shared) (H:Hp) (args:Args) (us:List Value) (vs:List V) (Q:VK) (E:XK),zmu k A->zxj A H->zs8 P w K mg base A outer s H->BindsTo s fd args (ps.zip us)->zb3 vs us->sp vs H Q E->
  codeAny (model P w) A (.call (.ref f) args) (CR CX outer P w H s Q E) s
theorem zrh.fn {P:Program} {w:World} {K:ZCa} {mg:Str->Option Value} {base:Heap} {CX:CXT} {k:Nat} {f:Addr} {fd:FuncData} {ps:List Str} {sp:Sp} (F:zrh P w K mg base CX k f fd ps sp):zbb P w K mg base CX k f fd ps sp:=
 ⟨F.len,fun A outer s H args us vs Q E hr he hb hv hs=>F.run A outer s H args us vs Q E hr.h (.inl hr.hd) he hb hv hs⟩
def cxH (CX:CXT) (P:Program) (w:World) (K:ZCa) (mg:Str->Option Value) (base:Heap) (N:List Str) (qual:Str) (scope:Scope) (f:Addr) (cd:Value) (A:Around) (outer:List Env) (s:Shared) (H:Hp) (E:XK):Cx where
 prog:=P
 w:=w
 K:=K
 mg:=mg
 base:=base
 A:=A.deeper (envOfC qual scope s.heap.objs.size f cd)
 N:=N
 s₀:=s
 H₀:=H
 env:=envOfC qual scope s.heap.objs.size f cd
 outer:=outer
 stack:=envOfC qual scope s.heap.objs.size f cd::outer
 ex:=[]
 calm:=false
 fn:=fun _=>true
 pn:=[]
 xe:=fun e s'=>wpAny (model P w) (A.deeper (envOfC qual scope s.heap.objs.size f cd)) (leaving (envOfC qual scope s.heap.objs.size f cd) e) (fun _ s''=>CX outer H s E e s'') (fun e' s''=>CX outer H s E e' s'') s'
theorem zod {CX:CXT} {P:Program} {w:World} {K:ZCa} {mg:Str->Option Value} {base:Heap} {N ps:List Str} {qual:Str} {scope:Scope} {f:Addr} {cd:Value} {A:Around} {outer:List Env} {s s1:Shared} {H:Hp} {E:XK} {us:List Value} {vs:List V}
 (S:zan N ps scope) (e0:zs8 P w K mg base A outer s H) (hl:vs.length=ps.length) (r:zb3 vs us)
 (x:InCallC s s.heap.objs.size (bindL (envOfC qual scope s.heap.objs.size f cd).kindOf (ps.zip us) fun _=>none) (cellsFrom (s.heap.objs.size+1) scope.names []) (bindC (envOfC qual scope s.heap.objs.size f cd).kindOf (ps.zip us) fun _=>none) s1):
 Inv (cxH CX P w K mg base N qual scope f cd A outer s H E) [] (zdo N vs) H s1:=by
 have hpl:ps.length<=N.length:=by have:=congrArg List.length S.pre;rw [ZBl] at this;omega
 obtain ⟨h1,tk,rfl,hk⟩:=x.done
 have noA:∀b:Addr,b∉(cxH CX P w K mg base N qual scope f cd A outer s H E).ex:=fun b z=>absurd (show b∈([]:List Addr) from z) (by simp)
 refine ⟨⟨e0.mod,S.kind,rfl,rfl,ZAw _,fun y z c h1 h2=>?_,fun y hy=>?_,fun y c _ h=>?_,(fun z=>absurd (show false=true from z) ZA6),Around.frames_deeper e0.frames,.inr ⟨rfl,rfl⟩,fun b z=>absurd z (noA b),e0.bs,e0.bsz,fun b _ _=>noA b,fun b z=>absurd z (noA b),e0.funs,e0.frf⟩,
  rfl,e0.bare,Un.kept hk,⟨_,x.toInCall.ns,fun i y v h1 h2 h3=>?_⟩,fun y c h=>⟨_,x.cell y c h⟩,e0.hok.fresh (ZAw _),fun y c h=>?_,fun p hp=>absurd (show p∈([]:List (Addr×Obj)) from hp) (by simp),e0.hok.kept hk,?_⟩
 ·exact name_of_addr x.apart (ZAh h1) (ZAh h2)
 ·have hy:scope.names.lookup y=some .cell\/scope.names.lookup y=some .free:=hy
  rcases hy with hy | hy
  ·exact zhu hy
  ·exact absurd rfl (S.nofree _ (ZAh hy))
 ·exact ZBb (x.above y c (ZAh h))
 ·have hi:i<vs.length:=by
   unfold zdo at h2
   by_cases hi:i<vs.length
   ·exact hi
   ·rw [ZBk (by simpa using hi)] at h2
    rw [List.getElem?_replicate] at h2
    split at h2<;>cases h2
  have ha:vs[i]?=some v:=by
   unfold zdo at h2
   rw [ZBq (by simpa using hi),ZA0] at h2
   cases e:vs[i]? with
   | none=>rw [e] at h2;cases h2
   | some a=>rw [e] at h2;cases h2;rfl
  obtain ⟨u,hu,rv⟩:=r.get ha
  have hp:ps[i]?=some y:=by
   rw [<-S.pre,List.getElem?_take_of_lt (by omega)];exact h1
  have ndP:ps.Nodup:=by rw [<-S.pre];exact S.nd.sublist (List.take_sublist _ _)
  refine ⟨u,rv,?_⟩
  rcases S.par y (ZA1 hp) with k | k
  ·exact .inl ⟨k,zim ndP hp hu k⟩
  ·obtain ⟨c,e⟩:=zhu (n:=s.heap.objs.size+1) k
   refine .inr ⟨.inl k,c,e,?_⟩
   have q:=x.cell y c e
   rw [zin ndP hp hu (by show scope.names.lookup y≠_;rw [k];decide)] at q
   exact q
 ·exact e0.hok.fresh (ZBb (x.above y c (ZAh h)))
 ·unfold zdo
  show _=N.length
  rw [ZA3,ZAu,List.length_replicate]
  omega
theorem zxa {CX:CXT} {P:Program} {w:World} {K:ZCa} {mg:Str->Option Value} {base:Heap} {k:Nat} {f:Addr} {name qual:Str} {params:Arguments} {body:List Stmt} {scope:Scope} {dV kV doc pm cdv ct oc:Value} {an od:Option Addr}
 {osl:Array (Option Value)} {N ps:List Str} {sp:Sp} (lk:K.lookup f=some ⟨oc,od,.func (PySem.W.fnOf name qual params body scope dV kV doc pm an cdv ct),osl⟩) (hcd:PySem.W.codeIn K cdv qual=true) (S:zan N ps scope)
 (len:∀vs H Q E,sp vs H Q E->vs.length=ps.length)
 (hbody:∀(A:Around) (outer:List Env) (s:Shared) (H:Hp) (vs:List V) (Q:VK) (E:XK),zmu k (A.deeper (envOfC qual scope s.heap.objs.size f cdv))->zxj A H->sp vs H Q E->
  ∃t,PSs (cxH CX P w K mg base N qual scope f cdv A outer s H E) body t/\t { nx:=fun _ H'=>Q .non H',rt:=Q } (zdo N vs) H):
 zrh P w K mg base CX (k+1) f (PySem.W.fnOf name qual params body scope dV kV doc pm an cdv ct) ps sp:=by
 refine ⟨len,fun A outer s H args us vs Q E hr hh e0 hb r hsp=>?_⟩
 have hl:=len _ _ _ _ hsp
 have KX:K.In s.heap:=e0.mod.kin.keeps fun b o e=>(e0.bs b o e).1
 have lim:s.heap.NoLimit:=e0.mod.nolimit.keeps fun b o e=>(e0.bs b o e).1
 have hkind:∀y∈ps.zip us,scope.names.lookup y.1=some .local\/(scope.names.lookup y.1=some .cell/\((cellsFrom (s.heap.objs.size+1) scope.names []).lookup y.1).isSome=true):=fun ⟨n,v⟩ hy=>by
  rcases S.par n (List.of_mem_zip hy).1 with q | q
  ·exact .inl q
  ·exact .inr ⟨q,PySem.W.cellsFrom_some _ _ _ (.inl q)⟩
 refine codeAny_call_function (show A.depth<recursionLimit from by have:=hr.dp;omega) (KX _ _ lk) rfl S.co S.gen rfl (PySem.W.codeRec_of KX hcd) (hb _ _ _ _ ?_)
 refine wpAny_newFunctionEnv_cells S.kind hkind fun env he s1 x=>?_
 subst he
 refine ⟨lim.keeps x.toInCall.keep,codeAny_func ?_⟩
 obtain ⟨t,ht,hq⟩:=hbody A outer s H vs Q E (hr.deeper _) hh hsp
 have I:Inv (cxH CX P w K mg base N qual scope f cdv A outer s H E) [] (zdo N vs) H s1:=zod S e0 hl r x
 refine wpAny_mono (ht [] s1 (zdo N vs) H _ I hq) (fun fl s' hs=>?_) fun e s' hs=>hs
 have fin:∀{σ':St} {H':Hp} {v:V} {u:Value},Inv (cxH CX P w K mg base N qual scope f cdv A outer s H E) [] σ' H' s'->zck v u->Q v H'->CE outer P w H s Q u s':=
  fun {σ' H' v u} J rv q=>⟨v,H',J.os,J.bare,J.base,J.hok,rv,q⟩
 cases fl with
 | ret u=>
  obtain ⟨v,σ',H',J,rv,q⟩:=hs
  exact fin J rv q
 | next=>
  obtain ⟨σ',H',J,q⟩:=hs
  exact fin (v:=V.non) (u:=Value.none) J rfl q
 | brk=>
  obtain ⟨_,_,_,q⟩:=hs
  exact False.elim q
 | cont=>
  obtain ⟨_,_,_,q⟩:=hs
  exact False.elim q
section
theorem Fun.okH {x qual:Str} {st:Stmt} {f:Addr} {fd:FuncData} {N ps:List Str} {k:Nat} {sp:Sp} (F:Fun K x qual st f fd) (S:zan N ps (zag st)) (len:∀vs H Q E,sp vs H Q E->vs.length=ps.length)
 (hbody:∀(cdv:Value) (A:Around) (outer:List Env) (s:Shared) (H:Hp) (vs:List V) (Q:VK) (E:XK),zmu k (A.deeper (envOfC qual (zag st) s.heap.objs.size f cdv))->zxi (cxH CX0 P w K mg base N qual (zag st) f cdv A outer s H E).nox->sp vs H Q E->
  ∃t,PSs (cxH CX0 P w K mg base N qual (zag st) f cdv A outer s H E).nox (zdu st) t/\t { nx:=fun _ H'=>Q .non H',rt:=Q } (zdo N vs) H):zrh P w K mg base CX0 (k+1) f fd ps sp:=by
 obtain ⟨oc,od,kV,doc,pm,an,cdv,ct,osl,rfl,lk,hcd⟩:=F.ex
 refine zxa lk hcd S len fun A outer s H vs Q E hr hh hsp=>?_
 obtain ⟨t,h,q⟩:=hbody cdv A outer s H vs Q E hr hh hsp
 exact ⟨t,h.nox,q⟩
end
section
variable {X:Cx} {CX:CXT} {k:Nat} {f:Addr} {fd:FuncData} {ps:List Str} {sp:Sp} {dvs:List V} {ds:List Value} {E:XK} {x:Str} {p pos:Pos} {e:Expr} {es:List Expr} {t:TA}
end
theorem zu1 {X:Cx} {es:List Expr} {k:Nat} {t:TGs} {n:Nat} {K:ZCa} {pos:Pos} (hK:X.K=K) (hq:zf8 X) (h:PGs X es t) (hn:(assignEach es X.env).length=n:=by rfl) (hst:(assignEach es X.env).findIdx? (·.1)=none:=by rfl):PG X (.Tuple es k pos) (zy0 K n t):=by
 subst hK
 intro pins s σ H v u Q I r hw
 obtain ⟨a,xs,e1,hs,hl,hw⟩:=hw
 subst e1
 cases r
 obtain ⟨its,rv,ht,hz⟩:=I.tuple hs
 rw [assign_Tuple]
 refine ZAp (wpAny_standAt (zou (zoe hq I) ht (by simp [hn,<-hl,rv.length]) hst fun h' hx=>?_))
 have I1:Inv X pins σ H { s with heap:=h' }:=I.kept (t':=s.toks) fun b o e=>hx b o (ZBj (ZBc e)) e
 exact h pins _ σ H xs _ Q I1 (by simpa using rv) hw
theorem zhs:∀{xs:List V} {j:Nat} {x:V},xs.all zcz=true->xs[j]?=some x->zcz x=true
 | [],_,_,_,e=>by simp at e
 | y::xs,j,x,h,e=>by
  rw [List.all_cons,Bool.and_eq_true] at h
  cases j with
  | zero=>simp at e;subst e;exact h.1
  | succ j=>exact zhs h.2 (by simpa using e)
theorem zkj {A:Around} {s:Shared} {xs ys:List V} {us vs:List Value} (r1:zb3 xs us) (r2:zb3 ys vs) (f1:xs.all zcz=true) (f2:ys.all zcz=true) (j:Nat) (h1:j<us.toArray.size) (h2:j<vs.toArray.size):
 SeqAt.EqAt A s us.toArray[j] vs.toArray[j] (eqV (xs.getD j .non) (ys.getD j .non)):=by
 have l1:=r1.length
 have l2:=r2.length
 rw [ZA2] at h1 h2
 have g1:xs[j]?=some (xs.getD j .non):=by rw [ZB0,ZAx (by omega)];rfl
 have g2:ys[j]?=some (ys.getD j .non):=by rw [ZB0,ZAx (by omega)];rfl
 obtain ⟨u,hu,ru⟩:=r1.get g1
 obtain ⟨v,hv,rv⟩:=r2.get g2
 have e1:us.toArray[j]=u:=by
  have:=(ZAv.mp hu).2
  simpa using this
 have e2:vs.toArray[j]=v:=by
  have:=(ZAv.mp hv).2
  simpa using this
 rw [e1,e2]
 exact zt1 ru rv (zhs f1 g1) (zhs f2 g2)
section
variable {X:Cx} {K:ZCa}
end
section
variable {X:Cx} {K:ZCa}
end
section
variable {X:Cx} {pins0:List (Addr×Obj)} {Ex:Addr->Option Addr->St->Hp->Prop} {k:Nat} {f:Addr} {fd:FuncData} {ps:List Str} {sp:Sp} {dvs:List V} {ds:List Value} {x:Str} {p pos:Pos} {e:Expr} {es:List Expr} {t:TA}
end
def zx0 (t u:TS):TS:=fun D σ H=>∀N:St->Hp->Prop,(∀σ' H',u D σ' H'->N σ' H')->t { D with nx:=N } σ H
theorem zaf {X:Cx} {st:Stmt} {rest:List Stmt} {t u:TS} (h1:PS X st t) (h2:PSs X rest u):PSs X (st::rest) (zx0 t u):=fun pins s σ H D I h=>zah h1 h2 pins s σ H D I (h (u D) fun _ _ z=>z)
def zuw:R2:=fun x y H Q=>∃p xs i v,x=.ref p/\y=.int i/\H p=some (.lst xs)/\atI xs i=some v/\Q v H
def zuv:R2:=fun x y H Q=>∃p xs i v,x=.ref p/\y=.int i/\H p=some (.tup xs)/\atI xs i=some v/\Q v H
theorem zal {X:Cx}:IxR X zuw:=by
 intro value slice pins s σ H x y v u Q I rx ry zz hs
 obtain ⟨p,xs,i,v',e1,e2,h,e,q⟩:=zz
 exact zqj value slice pins s σ H x y v u Q I rx ry ⟨p,xs,i,v',e1,e2,SqL.of h,e,q⟩ hs
theorem zvd {X:Cx}:IxR X zuv:=by
 intro value slice pins s σ H x y v u Q I rx ry zz hs
 obtain ⟨p,xs,i,v',e1,e2,h,e,q⟩:=zz
 exact zw5 value slice pins s σ H x y v u Q I rx ry ⟨p,xs,i,v',e1,e2,SqT.of h,e,q⟩ hs
theorem ixT {X:Cx} {a:Expr} {ta:TE} {k:Int} {j pos pos2} (h:PE X a ta):PE X (.Subscript a (.Constant (.int k) j pos2) pos) (tOp zuv ta (tC (.int k))):=zbm zvd h zae (fun _ _=>rfl)
theorem rdT {σ:St} {H:Hp} {p:Addr} {xs:List V} {i:Int} {v:V} {Q:VK} (h:H p=some (.tup xs)) (e:atI xs i=some v) (q:Q v H):tC (.int i) σ H fun y H2=>zuv (.ref p) y H2 Q:=⟨p,xs,i,v,rfl,rfl,h,e,q⟩
theorem rdL {σ:St} {H:Hp} {p:Addr} {xs:List V} {i:Int} {v:V} {Q:VK} (h:H p=some (.lst xs)) (e:atI xs i=some v) (q:Q v H):tC (.int i) σ H fun y H2=>zuw (.ref p) y H2 Q:=⟨p,xs,i,v,rfl,rfl,h,e,q⟩
theorem zoo {σ:St} {H:Hp} {p:Addr} {xs:List V} {j:Nat} {i:Int} {v:V} {Q:VK} (h0:σ[j]?=some (some (.int i))) (h:H p=some (.lst xs)) (e:atI xs i=some v) (q:Q v H):zui j σ H fun y H2=>zuw (.ref p) y H2 Q:=⟨.int i,h0,p,xs,i,v,rfl,rfl,h,e,q⟩
end L2
namespace MA
end MA
namespace MB
open MA
end MB
namespace Y0
open PySem L2
def top (i:Nat):Stmt:=PySem.Challenge.pw_momentties_k10_papers_looked_over.main.body.getD i (.Pass ⟨0,0,0,0⟩)
abbrev sP_room_bounds:Stmt:=top 5
abbrev sP_span_bounds:Stmt:=top 6
abbrev sP_bounds_with:Stmt:=top 7
abbrev sP_told_bounds:Stmt:=top 8
abbrev sP_falls_by_end:Stmt:=top 11
abbrev sP_by_sum:Stmt:=top 12
abbrev sP_by_late:Stmt:=top 13
abbrev sP_by_soon:Stmt:=top 14
abbrev sP_by_sure:Stmt:=top 15
abbrev sP_by_back:Stmt:=top 16
abbrev sP_by_cross:Stmt:=top 17
abbrev sP_what_follows:Stmt:=top 18
abbrev sP_bars_every_hand:Stmt:=top 19
abbrev sP_row_follows:Stmt:=top 20
abbrev sP_is_paper:Stmt:=top 21
abbrev sC_Closing_init:Stmt:=zdk (top 23) 0
abbrev sC_Closing_is_news:Stmt:=zdk (top 23) 1
abbrev sC_Closing_take:Stmt:=zdk (top 23) 2
abbrev sC_Closing_draw:Stmt:=zdk (top 23) 3
abbrev sC_Closing_known_of:Stmt:=zdk (top 23) 4
abbrev sC_Closing_ties_to:Stmt:=zdk (top 23) 5
abbrev sC_Closing_draw_from_tie:Stmt:=zdk (top 23) 6
abbrev sC_Closing_draw_from_wait:Stmt:=zdk (top 23) 7
abbrev sC_Closing_draw_all:Stmt:=zdk (top 23) 8
abbrev sC_Closing_best_drawn:Stmt:=zdk (top 23) 9
abbrev sP_numbers_needed:Stmt:=top 24
abbrev sP_paper_up_to:Stmt:=top 25
abbrev sP_is_told:Stmt:=top 26
abbrev sP_kept:Stmt:=top 27
abbrev sP_are_two_moments:Stmt:=top 33
abbrev sP_look_over_size:Stmt:=top 34
abbrev sP_look_over_ties:Stmt:=top 35
abbrev sP_look_over_falls:Stmt:=top 36
abbrev sC_Web_init:Stmt:=zdk (top 37) 0
abbrev sC_Web_ties:Stmt:=zdk (top 37) 1
abbrev sC_Web_falls:Stmt:=zdk (top 37) 2
abbrev sNext:Stmt:=top 39
abbrev sNamed:Stmt:=top 41
abbrev sFalls:Stmt:=top 42
abbrev sTies:Stmt:=top 43
abbrev sWeb:Stmt:=top 44
abbrev sL_bounds:Stmt:=top 45
abbrev sL_follows:Stmt:=top 46
abbrev sL_is_paper:Stmt:=top 47
abbrev sL_changed:Stmt:=top 48
abbrev sL_drawn_rows:Stmt:=top 49
abbrev sLaw:Stmt:=top 50
structure Fn (K:ZCa) (mg:Str->Option Value) (x:Str) (st:Stmt) (ps:List Str) (f:Addr) (fd:FuncData):Prop where
 F:Fun K x x st f fd
 b:zdd K fd ps []
 g:mg x=some (.ref f)
theorem pcl {X:Cx} {k:Nat} {f:Addr} {fd:FuncData} {ps:List Str} {sp:Sp} {x:Str} {st:Stmt} {e:Expr} {es:List Expr} {t:TA} {p pos:Pos} (G:zbb X.prog X.w X.K X.mg X.base CX0 k f fd ps sp) (hr:zel k X.A) (F:Fn X.K X.mg x st ps f fd) (ha:PA X (e::es) t) (hg:Gl X x:=by rfl) (hdb:(x==("__debug__":Str))=false:=by decide) (he:starEach (e::es) X.env=(false,eval e X.env)::starEach es X.env:=by rfl) (hpl:(backTo pos (starEach es X.env)).any (·.1)=false:=by rfl):PE X (.Call (.Name x p) (e::es) [] pos) (zwb sp [] E0 t):=zu3 G hr hg F.g F.F.kp F.b .nil zdp ha hdb he hpl
end Y0
namespace L2
open PySem
def zcd (d:Addr) (H H':Hp):Prop:=∀b o,H b=some o->b≠d->H' b=some o
theorem zcd.refl (d:Addr) (H:Hp):zcd d H H:=fun _ _ e _=>e
theorem zcd.trans {d:Addr} {H H1 H2:Hp} (x:zcd d H H1) (y:zcd d H1 H2):zcd d H H2:=fun b o e n=>y b o (x b o e n) n
theorem za7.keep {d:Addr} {H H1:Hp} (x:za7 H H1):zcd d H H1:=fun b o e _=>x b o e
theorem zab {H:Hp} {p:Addr} {o:HO} (h:H p=none):za7 H (upd H p o):=fun b u e=>by rw [zai (zac e h)];exact e
end L2
namespace Y0
open PySem L2
def ziq (K:ZCa) (H:Hp) (sa:Addr) (ns:List Int):Prop:=(∃o,H sa=some (.frz o (.lst (ns.map V.int))))\/
 ∃(o:Obj) (its:Array Value) (n:Nat),K.lookup sa=some o/\o.cls=.type "list"/\o.dict=none/\o.data=.seq its n/\its.size<=sizeLine/\zb3 (ns.map V.int) its.toList
theorem ziq.sq {K:ZCa} {H:Hp} {sa:Addr} {ns:List Int} (h:ziq K H sa ns):SqL K H sa (ns.map V.int):=by
 rcases h with ⟨o,h⟩ | h
 ·exact .inl (.inr ⟨o,h⟩)
 ·exact .inr h
theorem ziq.same {K:ZCa} {H H1:Hp} {sa:Addr} {ns:List Int} (h:ziq K H sa ns) (k:za7 H H1):ziq K H1 sa ns:=by
 rcases h with ⟨o,h⟩ | h
 ·exact .inl ⟨o,k _ _ h⟩
 ·exact .inr h
theorem ziq.keep {K:ZCa} {H H1:Hp} {sa l:Addr} {ns:List Int} {xs:List V} (h:ziq K H sa ns) (k:zcd l H H1) (hl:H l=some (.lst xs)):ziq K H1 sa ns:=by
 rcases h with ⟨o,h⟩ | h
 ·exact .inl ⟨o,k _ _ h (zba h hl nofun)⟩
 ·exact .inr h
structure zed (K:ZCa) (sa:Addr) (H:Hp) (d:Addr):Prop where
 at_:∃p:Nat,H d=some (.lst [.ref sa,.int p])
 scr:∃ns:List Int,ziq K H sa ns
theorem zed.same {K:ZCa} {sa d:Addr} {H H1:Hp} (x:zed K sa H d) (k:za7 H H1):zed K sa H1 d:=by
 obtain ⟨⟨p,h⟩,⟨ns,r⟩⟩:=x
 exact ⟨⟨p,k _ _ h⟩,⟨ns,r.same k⟩⟩
def zh2 (K:ZCa):Sp:=fun vs H Q _=>∃d sa m,vs=[.ref d,.int m]/\zed K sa H d/\1<=m/\∀r H',0<=r->r<m->zed K sa H' d->zcd d H H'->Q (.int r) H'
theorem scN:zan ["_law_dice","_law_many"] ["_law_dice","_law_many"] (zag sNext):=scm
theorem ok_next {f:Addr} {fd:FuncData} (F:Fn K mg "_law_next" sNext ["_law_dice","_law_many"] f fd) (len:mg "len"=none):zbb P w K mg base CX0 1 f fd ["_law_dice","_law_many"] (zh2 K):=by
 refine F.F.ok scN (fun _ _ _ _ h=>?_) fun _ A _ s H _ Q E hr h=>?_
 ·obtain ⟨d,sa,m,rfl,_⟩:=h
  rfl
 ·obtain ⟨d,sa,m,rfl,D,hm,k⟩:=h
  obtain ⟨⟨p,hd⟩,⟨ns,hs0⟩⟩:=id D
  refine ⟨_,zah (zps (za2 zb5 (zbm zal (pv 0) zae (fun _ _=>rfl)) zae) (zws (pv 0) zae zrz))
   (zah (zbe (zb8 zp7 (zbm zal (pv 0) zae (fun _ _=>rfl)) (zay za9 (by rfl) len ZAn (pa1 (zbm zal (pv 0) zae (fun _ _=>rfl))))) (zad (zaq zae)) zap)
   (zad (zaq (za2 zp5 (zbm zqj (zbm zal (pv 0) zae (fun _ _=>rfl)) (za2 zcc (zbm zal (pv 0) zae (fun _ _=>rfl)) zae) (fun _ _=>rfl)) (pv 1))))),?_⟩
  refine ⟨_,rfl,rdL hd rfl ⟨_,_,rfl,rfl,_,rfl,_,_,_,_,rfl,rfl,hd,rfl,?_⟩⟩
  have hd1:upd H d (.lst ([V.ref sa,V.int p].set 1 (.int ((p:Int)+1)))) d=some (.lst [.ref sa,.int ((p:Int)+1)]):=zaa
  have kp:zcd d H (upd H d (.lst ([V.ref sa,V.int p].set 1 (.int ((p:Int)+1))))):=fun b o e n=>by rw [zai n];exact e
  have hs2:=hs0.keep kp hd
  have hs1:=hs2.sq
  have D1:zed K sa (upd H d (.lst ([V.ref sa,V.int p].set 1 (.int ((p:Int)+1))))) d:=⟨⟨p+1,hd1⟩,⟨ns,hs2⟩⟩
  refine ⟨_,rfl,rdL hd1 rfl ⟨_,rfl,rdL hd1 rfl ⟨_,_,rfl,.inl hs1,_,_,rfl,rfl,_,rfl,?_⟩⟩⟩
  refine ziw (fun _=>?_) (fun hc=>?_)
  ·exact k 0 _ (Int.le_refl _) (by lia) D1 kp
  ·have hlt:p<ns.length:=by
    rw [ZAu] at hc
    simp only [ZBy] at hc
    lia
   have ha:atI (ns.map V.int) ((p:Int)+1-1)=some (.int ns[p]):=by
    rw [show (p:Int)+1-1=((p:Nat):Int) by lia]
    exact zbv (by rw [ZA0,ZAx hlt];rfl)
   refine ⟨_,rfl,rdL hd1 rfl ⟨_,rfl,rdL hd1 rfl ⟨_,_,rfl,rfl,_,_,_,_,rfl,rfl,hs1,ha,_,rfl,_,_,rfl,rfl,(by show (0:Int)<m;lia),?_⟩⟩⟩
   exact k _ _ (Int.emod_nonneg _ (by lia)) (Int.emod_lt_of_pos _ (by lia)) D1 kp
end Y0
namespace L2
open PySem
def zAd (t:TS):TS:=fun D σ H=>∃R:St->Hp->Prop,t { D with nx:=R } σ H/\∀σ' H',R σ' H'->D.nx σ' H'
theorem ze3 {X:Cx} {st:Stmt} {t:TS} (h:PS X st t):PS X st (zAd t):=by
 intro pins s σ H D I hw
 obtain ⟨R,h1,h2⟩:=hw
 refine thn (h pins s σ H _ I h1) fun f s1 q=>?_
 cases f with
 | next=>obtain ⟨σ',H',I',r⟩:=q;exact ⟨σ',H',I',h2 σ' H' r⟩
 | brk=>exact q
 | cont=>exact q
 | ret v=>exact q
def zcj (H:Hp) (a:Addr) (ps:List Addr) (rows:List (List Int)):Prop:=H a=some (.lst (ps.map V.ref))/\Paired (fun p r=>H p=some (.tup (r.map V.int))) ps rows
def zbk (H:Hp) (a:Addr) (rows:List (List Int)):Prop:=∃ps,zcj H a ps rows
theorem zaj {α β:Type} {F G:α->β->Prop} {l:List α} {m:List β} (h:Paired F l m) (i:∀a b,F a b->G a b):Paired G l m:=Paired.mapP h i
theorem zcj.same {H H':Hp} {a:Addr} {ps:List Addr} {rows:List (List Int)} (h:zcj H a ps rows) (k:za7 H H'):zcj H' a ps rows:=⟨k _ _ h.1,zaj h.2 fun _ _ e=>k _ _ e⟩
theorem zcj.keep {H H':Hp} {a d:Addr} {ps:List Addr} {rows:List (List Int)} {xs:List V} (h:zcj H a ps rows) (k:zcd d H H') (hd:H d=some (.lst xs)) (ne:a≠d):zcj H' a ps rows:=
 ⟨k _ _ h.1 ne,zaj h.2 fun _ _ e=>k _ _ e (zba e hd nofun)⟩
theorem zbk.same {H H':Hp} {a:Addr} {rows:List (List Int)} (h:zbk H a rows) (k:za7 H H'):zbk H' a rows:=let ⟨ps,r⟩:=h;⟨ps,r.same k⟩
theorem zbk.keep {H H':Hp} {a d:Addr} {rows:List (List Int)} {xs:List V} (h:zbk H a rows) (k:zcd d H H') (hd:H d=some (.lst xs)) (ne:a≠d):zbk H' a rows:=let ⟨ps,r⟩:=h;⟨ps,r.keep k hd ne⟩
theorem zcj.len {H:Hp} {a:Addr} {ps:List Addr} {rows:List (List Int)} (h:zcj H a ps rows):ps.length=rows.length:=h.2.length
theorem zcj.push {H:Hp} {a p:Addr} {ps:List Addr} {rows:List (List Int)} {r:List Int} (h:zcj H a ps rows) (hp:H p=some (.tup (r.map V.int))):zcj (upd H a (.lst (ps.map V.ref++[.ref p]))) a (ps++[p]) (rows++[r]):=by
 have na:∀q xs,H q=some (.tup xs)->q≠a:=fun q xs e=>zba e h.1 nofun
 refine ⟨by rw [zaa,ZA9];rfl,Paired.snoc (zaj h.2 fun q r e=>?_) ?_⟩
 ·rw [zai (na q _ e)];exact e
 ·rw [zai (na p _ hp)];exact hp
theorem zch {d l:Addr} {H0 H:Hp} {o:HO} (k:zcd d H0 H) (h:H0 l=none):zcd d H0 (upd H l o):=fun b u e n=>by
 rw [zai (zac e h)]
 exact k b u e n
theorem zcd.free {d l:Addr} {H0 H:Hp} (k:zcd d H0 H) (h:H l=none) (hd:∃o,H d=some o):H0 l=none:=by
 cases q:H0 l with
 | none=>rfl
 | some o=>
  by_cases e:l=d
  ·subst e
   obtain ⟨o',e'⟩:=hd
   rw [h] at e'
   cases e'
  ·rw [k l o q e] at h
   cases h
end L2
namespace Y0
open PySem L2
theorem zed.there {K:ZCa} {sa d:Addr} {H:Hp} (x:zed K sa H d):∃o,H d=some o:=let ⟨p,e⟩:=x.at_;⟨_,e⟩
theorem zed.upd {K:ZCa} {sa d l:Addr} {H:Hp} {o:HO} {xs:List V} (x:zed K sa H d) (hl:H l=some (.lst xs)) (hd:l≠d):zed K sa (upd H l o) d:=by
 obtain ⟨⟨p,h⟩,⟨ns,r⟩⟩:=x
 exact ⟨⟨p,by rw [zai (ZAl hd)];exact h⟩,⟨ns,r.keep (fun b u e n=>by rw [zai n];exact e) hl⟩⟩
theorem zed.new {K:ZCa} {sa d l:Addr} {H:Hp} {o:HO} (x:zed K sa H d) (hl:H l=none):zed K sa (L2.upd H l o) d:=x.same (zab hl)
def zbs (m n t:Int):Int:=if m=0 then 0 else 1+(m-1+t) % (n-1)
def zo8:Sp:=fun vs H Q _=>∃m n t,vs=[.int m,.int n,.int t]/\2<=n/\Q (.int (zbs m n t)) H
theorem zAl:zan ["_law_moment","_law_many","_law_turn"] ["_law_moment","_law_many","_law_turn"] (zag sNamed):=scm
theorem ok_named {f:Addr} {fd:FuncData} (F:Fn K mg "_law_named" sNamed ["_law_moment","_law_many","_law_turn"] f fd):zbb P w K mg base CX0 1 f fd ["_law_moment","_law_many","_law_turn"] zo8:=by
 refine F.F.ok zAl (fun _ _ _ _ h=>?_) fun _ A _ s H _ Q E hr h=>?_
 ·obtain ⟨m,n,t,rfl,_⟩:=h
  rfl
 ·obtain ⟨m,n,t,rfl,hn,k⟩:=h
  refine ⟨_,zah (zbe (zb8 zbd (pv 0) zae) (zad (zaq zae)) zap)
   (zad (zaq (za2 zb5 zae (za2 zp5 (za2 zb5 (za2 zcc (pv 0) zae) (pv 2)) (za2 zcc (pv 1) zae))))),?_⟩
  refine ⟨_,rfl,rfl,_,rfl,?_⟩
  refine ziw (fun hc=>?_) (fun hc=>?_)
  ·have e:m=0:=by simpa using hc
   have q:zbs m n t=0:=by unfold zbs;rw [if_pos e]
   rw [q] at k
   exact k
  ·have e:¬m=0:=by simpa using hc
   have q:zbs m n t=1+(m-1+t) % (n-1):=by unfold zbs;rw [if_neg e]
   rw [q] at k
   exact ⟨_,rfl,_,_,rfl,rfl,_,rfl,_,_,rfl,rfl,_,rfl,_,_,rfl,rfl,_,_,rfl,rfl,(by show (0:Int)<n-1;lia),_,_,rfl,rfl,k⟩
def ze2 (n:Int) (c:Nat) (rows:List (List Int)):Prop:=∀(k:Nat) r,rows[k]?=some r->∃a l m:Int,r=[a,n-1-k,l,m]/\0<=a/\a<n-c/\1<=l/\l<=m/\m<=60
theorem ze2.snoc {n:Int} {c:Nat} {rows:List (List Int)} {a l m:Int} (h:ze2 n c rows) (h1:0<=a) (h2:a<n-c) (h3:1<=l) (h4:l<=m) (h5:m<=60):ze2 n c (rows++[[a,n-1-rows.length,l,m]]):=by
 intro k r e
 by_cases hk:k<rows.length
 ·rw [ZBq hk] at e
  exact h k r e
 ·rw [ZBk (by lia)] at e
  have hk':k-rows.length=0:=by
   cases q:k-rows.length with
   | zero=>rfl
   | succ z=>rw [q] at e;simp at e
  rw [hk'] at e
  cases e
  have:k=rows.length:=by lia
  subst this
  exact ⟨a,l,m,rfl,h1,h2,h3,h4,h5⟩
def Few (wd:Int) (rows:List (List Int)):Prop:=wd≠8->rows.length<=3/\∀r∈rows,r.getD 3 0-r.getD 2 0<wd
def zpd (K:ZCa):Sp:=fun vs H Q _=>∃d sa n wd,vs=[.ref d,.int n,.int wd]/\zed K sa H d/\2<=n/\n<=8/\1<=wd/\wd<=8/\
 ∀(l:Addr) (c:Nat) rows H',(c:Int)<=n-1->rows.length=c->ze2 n c rows->zbk H' l rows->H l=none->zed K sa H' d->zcd d H H'->Few wd rows->Q (.ref l) H'
abbrev nF:List Str:=["_law_d","_law_many","_law_wide","_law_count","_law_falls_here","_law_k","_law_least","_law_most"]
theorem scF:zan nF ["_law_d","_law_many","_law_wide"] (zag sFalls):=scm
theorem ok_falls {f fN:Addr} {fd fdN:FuncData} (F:Fn K mg "_law_falls" sFalls ["_law_d","_law_many","_law_wide"] f fd) (FN:Fn K mg "_law_next" sNext ["_law_dice","_law_many"] fN fdN)
 (GN:zbb P w K mg base CX0 1 fN fdN ["_law_dice","_law_many"] (zh2 K)) (min:mg "min"=none) (range:mg "range"=none):zbb P w K mg base CX0 2 f fd ["_law_d","_law_many","_law_wide"] (zpd K):=by
 refine F.F.ok scF (fun _ _ _ _ h=>?_) fun _ A _ s H _ Q E hr h=>?_
 ·obtain ⟨d,sa,n,wd,rfl,_⟩:=h
  rfl
 ·obtain ⟨d,sa,n,wd,rfl,D,hn1,hn2,hw1,hw2,k⟩:=h
  refine ⟨_,zah (za5 3 scF.nd (pcl GN hr FN (pa2 (pv 0) (za2 zb5 (zay (zdt rfl) (by rfl) min (by decide+kernel) (pa2 zae (za2 zcc (pv 1) zae))) zae))))
   (zah (ze3 (zbe (PW.pt (zcf (zb8 zbd (pv 2) zae) (zdg (zb8 zbd (pcl GN hr FN (pa2 (pv 0) zae)) zae))))
    (zad (za5 3 scF.nd (pcl GN hr FN (pa2 (pv 0) (pv 1))))) zap))
   (zah (za5 4 scF.nd (zcq zdq))
   (zah (zc9 PassesOwn.never rfl (zcv rfl range (pa1 (pv 3))) (zcw 5 scF.nd)
    (zah (za5 6 scF.nd (za2 zb5 zae (pcl GN hr FN (pa2 (pv 0) (pv 2)))))
    (zah (za5 7 scF.nd (za2 zb5 (pv 6) (pcl GN hr FN (pa2 (pv 0) (pv 2)))))
    (zah (ze3 (zbe (PW.pt (zcf (zb8 zbd (pv 2) zae) (zdg (zb8 zbd (pcl GN hr FN (pa2 (pv 0) zae)) zae))))
     (zah (za5 6 scF.nd (za2 zb5 zae (pcl GN hr FN (pa2 (pv 0) zae))))
     (zad (za5 7 scF.nd (za2 zb5 (pv 6) (pcl GN hr FN (pa2 (pv 0) (za2 zcc zae (pv 6)))))))) zap))
    (zad (zbj (ziu ZAr ZAs ZAt zcn (pv 4)
     (pa1 (zaw (pa4 (pcl GN hr FN (pa2 (pv 0) (za2 zcc (pv 1) (pv 3)))) (za2 zcc (za2 zcc (pv 1) zae) (pv 5)) (pv 6) (pv 7)))))))))))
   (zad (zaq (pv 4)))))),?_⟩
  refine ⟨_,rfl,_,rfl,_,_,rfl,rfl,_,_,rfl,_,_,rfl,rfl,d,sa,_,rfl,D,(by split<;>lia),fun c0 H1 hc0 hc1 D1 k1=>?_⟩
  have hc2:c0<=n-1:=by
   revert hc1
   split<;>intro hc1<;>lia
  have hc3:c0<=3:=by
   revert hc1
   split<;>intro hc1<;>lia
  refine ⟨fun σ' H'=>∃c:Nat,(c:Int)<=n-1/\(wd≠8->c<=3)/\σ'=[some (.ref d),some (.int n),some (.int wd),some (.int (c:Int)),none,none,none,none]/\zed K sa H' d/\zcd d H H',?_,?_⟩
  ·
   refine ⟨_,rfl,rfl,_,rfl,?_⟩
   refine ziw (fun h8=>?_) (fun _=>?_)
   ·have h8:wd=8:=by simpa using h8
    refine ⟨_,rfl,d,sa,_,rfl,D1,by decide,fun r H2 _ _ D2 k2=>⟨rfl,_,rfl,?_⟩⟩
    refine ziw (fun _=>?_) (fun _=>?_)
    ·refine ⟨_,rfl,_,rfl,d,sa,_,rfl,D2,by lia,fun c H3 h0 h1 D3 k3=>⟨c.toNat,by lia,fun z=>absurd h8 z,?_,D3,(k1.trans k2).trans k3⟩⟩
     rw [ZAg h0]
     rfl
    ·exact ⟨c0.toNat,by lia,fun z=>absurd h8 z,by rw [ZAg hc0];rfl,D2,k1.trans k2⟩
   ·refine zef ?_
    exact ⟨c0.toNat,by lia,fun _=>by lia,by rw [ZAg hc0];rfl,D1,k1⟩
  ·rintro σ' H2 ⟨c,hc,hcw,rfl,D2,k2⟩
   refine ⟨ZBa _,fun l hl=>?_⟩
   have hl0:H l=none:=k2.free hl D2.there
   have ld:l≠d:=fun e=>by
    subst e
    obtain ⟨o,q⟩:=D2.there
    rw [hl] at q
    cases q
   refine ⟨_,rfl,_,rfl,by lia,by lia,zd7 (n:=c) (fun i σ' H'=>∃v1 v2 v3 ps rows,σ'=[some (.ref d),some (.int n),some (.int wd),some (.int (c:Int)),some (.ref l),v1,v2,v3]/\zcj H' l ps rows/\rows.length=i/\ze2 n c rows/\zed K sa H' d/\zcd d H H'/\(wd≠8->∀r∈rows,r.getD 3 0-r.getD 2 0<wd))
    ⟨none,none,none,[],[],rfl,⟨zaa,.nil⟩,rfl,(fun k r e=>by simp at e),D2.new hl,zch k2 hl0,fun _ r hr=>nomatch hr⟩ ?_ ?_⟩
   ·rintro i σ' H3 hi ⟨v1,v2,v3,ps,rows,rfl,R3,hlen,hF,D3,k3,few⟩
    have kl:∀{H4:Hp},zcd d H3 H4->zcj H4 l ps rows:=fun k4=>by
     obtain ⟨p,e⟩:=D3.at_
     exact R3.keep k4 e ld
    refine ⟨_,rfl,_,rfl,d,sa,_,rfl,D3,hw1,fun r1 H4 h1a h1b D4 k4=>⟨_,_,rfl,rfl,?_⟩⟩
    refine ⟨_,rfl,_,rfl,_,rfl,d,sa,_,rfl,D4,hw1,fun r2 H5 h2a h2b D5 k5=>⟨_,_,rfl,rfl,?_⟩⟩
    refine ⟨fun σ' H'=>∃a b:Int,1<=a/\a<=b/\b<=60/\(wd≠8->b-a<wd)/\σ'=[some (.ref d),some (.int n),some (.int wd),some (.int (c:Int)),some (.ref l),some (.int (0+(i:Int))),some (.int a),some (.int b)]/\zed K sa H' d/\zcd d H3 H',?_,?_⟩
    ·refine ⟨_,rfl,rfl,_,rfl,?_⟩
     refine ziw (fun h8=>?_) (fun _=>?_)
     ·have h8:wd=8:=by simpa using h8
      refine ⟨_,rfl,d,sa,_,rfl,D5,by decide,fun r H6 _ _ D6 k6=>⟨rfl,_,rfl,?_⟩⟩
      refine ziw (fun _=>?_) (fun _=>?_)
      ·refine ⟨_,rfl,d,sa,_,rfl,D6,by decide,fun r3 H7 h3a h3b D7 k7=>⟨_,_,rfl,rfl,?_⟩⟩
       refine ⟨_,rfl,_,rfl,_,rfl,_,_,rfl,rfl,d,sa,_,rfl,D7,by lia,fun r4 H8 h4a h4b D8 k8=>⟨_,_,rfl,rfl,?_⟩⟩
       exact ⟨1+r3,1+r3+r4,by lia,by lia,by lia,fun z=>absurd h8 z,rfl,D8,(((k4.trans k5).trans k6).trans k7).trans k8⟩
      ·exact ⟨1+r1,1+r1+r2,by lia,by lia,by lia,fun z=>absurd h8 z,rfl,D6,(k4.trans k5).trans k6⟩
     ·refine zef ?_
      exact ⟨1+r1,1+r1+r2,by lia,by lia,by lia,fun _=>by lia,rfl,D5,k4.trans k5⟩
    ·rintro σ' H6 ⟨a,b,ha,hab,hb,hba,rfl,D6,k6⟩
     have R6:=kl k6
     refine ⟨_,rfl,.inl ⟨rfl,_,SqL.of R6.1⟩,?_⟩
     refine ⟨_,rfl,_,rfl,_,rfl,_,_,rfl,rfl,d,sa,_,rfl,D6,by lia,fun r5 H7 h5a h5b D7 k7=>?_⟩
     have R7:=kl (k6.trans k7)
     refine ⟨_,rfl,_,_,rfl,rfl,_,rfl,_,_,rfl,rfl,_,rfl,_,rfl,szl rfl,fun p hp=>?_⟩
     have R8:=R7.same (zab (o:=.tup [.int r5,.int (n-1-(0+(i:Int))),.int a,.int b]) hp)
     refine ⟨l,_,_,rfl,rfl,R8.1,?_,?_⟩
     ·rw [ZAu,R8.len]
      exact zao (by lia)
     ·have e0:(0:Int)+(i:Int)=(rows.length:Int):=by rw [hlen];lia
      refine ⟨_,_,_,ps++[p],rows++[[r5,n-1-(0+(i:Int)),a,b]],rfl,R8.push zaa,by rw [ZA3,hlen];rfl,?_,?_,?_,fun z r hr=>?_⟩
      ·rw [e0]
       exact hF.snoc h5a h5b ha hab hb
      ·exact (D7.new hp).upd R8.1 ld
      ·exact zch (zch ((k3.trans k6).trans k7) (((k3.trans k6).trans k7).free hp D7.there)) hl0
      ·rcases ZBo.mp hr with y | y
       ·exact few z r y
       ·rw [ZBd.mp y]
        exact hba z
   ·rintro σ' H3 ⟨v1,v2,v3,ps,rows,rfl,R3,hlen,hF,D3,k3,few⟩
    exact ⟨_,rfl,k l c rows H3 hc hlen hF ⟨ps,R3⟩ hl0 D3 k3 fun z=>⟨by rw [hlen];exact hcw z,few z⟩⟩
theorem zkc {x n:Int} (h0:0<=x) (h1:x<2*n) (hn:0<n):x % n=if x<n then x else x-n:=by
 by_cases h:x<n
 ·rw [if_pos h,Int.emod_eq_of_lt h0 h]
 ·rw [if_neg h]
  have e:x % n=(x-n) % n:=by
   first
    | exact (Int.sub_emod_right x n).symm
    | (have:=Int.add_emod_self (a:=x-n) (b:=n);rw [Int.sub_add_cancel] at this;exact this)
  rw [e,Int.emod_eq_of_lt (by lia) (by lia)]
theorem zre {xs:List Int} {i:Int} (h0:0<=i) (h1:i<xs.length):∃v,v∈xs/\atI (xs.map V.int) i=some (.int v):=by
 obtain ⟨j,rfl⟩:∃j:Nat,i=j:=⟨i.toNat,by lia⟩
 have hi:j<xs.length:=by lia
 exact ⟨xs[j],ZB3 hi,zbv (by rw [ZA0,ZAx hi];rfl)⟩
def zl1 (n:Int) (r:List Int):Prop:=∃a b l m:Int,r=[a,b,l,m]/\0<=a/\a<n/\0<=b/\b<n/\a≠b/\-60<=l/\l<=m/\m<=60
def zte (K:ZCa):Sp:=fun vs H Q _=>∃d sa n la wd,vs=[.ref d,.int n,.int la,.int wd]/\zed K sa H d/\2<=n/\n<=8/\1<=la/\la<=60/\1<=wd/\wd<=8/\
 ∀(l:Addr) rows H',rows.length<=12->(∀r∈rows,zl1 n r)->zbk H' l rows->H l=none->zed K sa H' d->zcd d H H'->Q (.ref l) H'
abbrev nT:List Str:=["_law_d","_law_many","_law_last","_law_wide","_law_ties_here","_law_k","_law_times","_law_count","_law_one","_law_other","_law_near","_law_least"]
theorem scT:zan nT ["_law_d","_law_many","_law_last","_law_wide"] (zag sTies):=scm
theorem coT:zbw (zag sTies) nT (fsc [(".0",.local),("_law_k",.local),("_law_next",.globalImplicit),("_law_d",.free),("_law_last",.free)]) ["_law_k","_law_d","_law_last"] [none,some 0,some 2]:=com
theorem ndT:(["_law_k","_law_d","_law_last"]:List Str).Nodup:=by decide+kernel
theorem ok_ties {f fN:Addr} {fd fdN:FuncData} (F:Fn K mg "_law_ties" sTies ["_law_d","_law_many","_law_last","_law_wide"] f fd) (FN:Fn K mg "_law_next" sNext ["_law_dice","_law_many"] fN fdN)
 (GN:zbb P w K mg base CX0 1 fN fdN ["_law_dice","_law_many"] (zh2 K)) (min:mg "min"=none) (max:mg "max"=none) (range:mg "range"=none):zbb P w K mg base CX0 2 f fd ["_law_d","_law_many","_law_last","_law_wide"] (zte K):=by
 refine F.F.ok scT (fun _ _ _ _ h=>?_) fun _ A _ s H _ Q E hr h=>?_
 ·obtain ⟨d,sa,n,la,wd,rfl,_⟩:=h
  rfl
 ·obtain ⟨d,sa,n,la,wd,rfl,D,hn1,hn2,hl1,hl2,hw1,hw2,k⟩:=h
  refine ⟨_,zah (za5 4 scT.nd (zcq zdq))
   (zah (za5 6 scT.nd (za2 zff (zcq (pa1 zae)) (zcs rfl (zcv rfl range (pa1 (za2 zcc (pv 1) zae))) coT
    (fun cl ex s0 H0=>⟨zcw 0 ndT,zb9,pcl GN hr FN (pa2 (pv 1) (za2 zb5 (pv 2) zae))⟩))))
   (zah (za5 7 scT.nd (pcl GN hr FN (pa2 (pv 0) zae)))
   (zah (ze3 (zbe (PW.pt (zcf (zb8 zbd (pv 3) zae) (zdg (zb8 zbd (pcl GN hr FN (pa2 (pv 0) zae)) zae))))
    (zad (za5 7 scT.nd (pcl GN hr FN (pa2 (pv 0) zae)))) zap))
   (zah (zc9 PassesOwn.never rfl (zcv rfl range (pa1 (pv 7))) (zcw 5 scT.nd)
    (zah (za5 8 scT.nd (pcl GN hr FN (pa2 (pv 0) (pv 1))))
    (zah (za5 9 scT.nd (za2 zp5 (za2 zb5 (za2 zb5 (pv 8) zae) (pcl GN hr FN (pa2 (pv 0) (za2 zcc (pv 1) zae)))) (pv 1)))
    (zah (za5 10 scT.nd (za2 zcc (zbm zal (pv 6) (pv 9) (fun _ _=>rfl)) (zbm zal (pv 6) (pv 8) (fun _ _=>rfl))))
    (zah (ze3 (zbe (zb8 zbd (pcl GN hr FN (pa2 (pv 0) zae)) zae)
     (zad (za5 10 scT.nd (za2 zcc (pcl GN hr FN (pa2 (pv 0) (za2 zb5 (za2 ztw zae (pv 2)) zae))) (pv 2)))) zap))
    (zah (za5 11 scT.nd (zay (zlw rfl) (by rfl) max (by decide+kernel) (pa2 (zl9 zh0 zae) (za2 zcc (pv 10) (pcl GN hr FN (pa2 (pv 0) (za2 zb5 (pv 3) zae)))))))
    (zad (zbj (ziu ZAr ZAs ZAt zcn (pv 4)
     (pa1 (zaw (pa4 (pv 8) (pv 9) (pv 11) (zay (zdt rfl) (by rfl) min (by decide+kernel) (pa2 zae (zay (zlw rfl) (by rfl) max (by decide+kernel)
      (pa2 (pv 11) (za2 zb5 (pv 10) (pcl GN hr FN (pa2 (pv 0) (za2 zb5 (pv 3) zae))))))))))))))))))))
   (zad (zaq (pv 4))))))),?_⟩
  refine ⟨ZBa _,fun l hl=>?_⟩
  have ld:l≠d:=fun e=>by
   subst e
   obtain ⟨o,q⟩:=D.there
   rw [hl] at q
   cases q
  refine ⟨szl rfl,fun z hz=>?_⟩
  refine ⟨_,rfl,_,_,rfl,rfl,_,rfl,by lia,by lia,fun Da hDa=>?_⟩
  have zl:z≠l:=ZAl (zac (zaa (H:=H) (a:=l) (o:=.lst [])) hz)
  have hz0:H z=none:=by rw [zai zl] at hz;exact hz
  have Dal:Da≠l:=ZAl (zac (show upd (upd H l (.lst [])) z (.lst [.int 0]) l=some (.lst []) by rw [zai (ZAl zl),zaa]) hDa)
  have Daz:Da≠z:=ZAl (zac (zaa (H:=upd H l (.lst [])) (a:=z) (o:=.lst [.int 0])) hDa)
  have hDa0:H Da=none:=by rw [zai Daz,zai Dal] at hDa;exact hDa
  have nd:∀{a:Addr},H a=none->a≠d:=fun {a} e q=>by
   subst q
   obtain ⟨o,q⟩:=D.there
   rw [e] at q
   cases q
  refine zes (n:=(n-1).toNat) (fun i σ' H'=>∃v,∃ts:List Int,σ'=[v,some (.ref d),some (.int la)]/\ts.length=i/\(∀t∈ts,0<=t/\t<=la)/\H' Da=some (.lst (ts.map V.int))/\H' l=some (.lst [])/\H' z=some (.lst [.int 0])/\zed K sa H' d/\zcd d H H') ?_ ?_ ?_
  ·exact ⟨none,[],rfl,rfl,(fun t ht=>nomatch ht),zaa,by rw [zai (ZAl Dal),zai (ZAl zl),zaa],by rw [zai (ZAl Daz),zaa],((D.new hl).new hz).new hDa,zch (zch (zch (zcd.refl d H) hl) hz0) hDa0⟩
  ·rintro i σ' H3 hi ⟨v,ts,rfl,hlen,hts,e1,e2,e3,D3,k3⟩
   refine ⟨_,rfl,_,rfl,_,_,rfl,rfl,d,sa,_,rfl,D3,by lia,fun r H4 h0 h1 D4 k4=>?_⟩
   have f1:=k4 _ _ e1 (nd hDa0)
   refine ⟨_,f1,?_,_,ts++[r],rfl,by rw [ZA3,hlen];rfl,fun t ht=>?_,?_,?_,?_,D4.upd f1 (nd hDa0),zch (k3.trans k4) hDa0⟩
   ·rw [ZAu]
    exact zao (by lia)
   ·rcases ZBo.mp ht with q | q
    ·exact hts t q
    ·rw [ZBd.mp q]
     lia
   ·rw [zaa,ZA9]
    rfl
   ·rw [zai (ZAl Dal)]
    exact k4 _ _ e2 ld
   ·rw [zai (ZAl Daz)]
    exact k4 _ _ e3 (nd hz0)
  ·rintro σ' H3 ⟨v,ts,rfl,hlen,hts,e1,e2,e3,D3,k3⟩
   refine ⟨z,Da,_,_,rfl,rfl,e3,e1,?_,fun tl htl=>?_⟩
   ·rw [ZAu]
    exact ZBb (zao (by simp;lia))
   have htl0:H tl=none:=k3.free htl D3.there
   have tll:tl≠l:=ZAl (zac e2 htl)
   obtain ⟨tt,htt,hlt,hin⟩:∃tt:List Int,[V.int 0]++ts.map V.int=tt.map V.int/\(tt.length:Int)=n/\∀t∈tt,0<=t/\t<=la:=by
    refine ⟨0::ts,rfl,by rw [ZBp,hlen];lia,fun t ht=>?_⟩
    rcases ZBe.mp ht with q | q
    ·rw [q];lia
    ·exact hts t q
   rw [htt]
   have g1:upd H3 tl (.lst (tt.map V.int)) tl=some (.lst (tt.map V.int)):=zaa
   have g2:upd H3 tl (.lst (tt.map V.int)) l=some (.lst []):=by rw [zai (ZAl tll)];exact e2
   have D4:zed K sa (upd H3 tl (.lst (tt.map V.int))) d:=D3.new htl
   have k4:zcd d H (upd H3 tl (.lst (tt.map V.int))):=zch k3 htl0
   refine ⟨_,rfl,d,sa,_,rfl,D4,by decide,fun c0 H5 hc0 hc1 D5 k5=>?_⟩
   have l5:=k5 _ _ g2 ld
   have t5:=k5 _ _ g1 (nd htl0)
   refine ⟨fun σ' H'=>∃c:Nat,c<=12/\σ'=[some (.ref d),some (.int n),some (.int la),some (.int wd),some (.ref l),none,some (.ref tl),some (.int (c:Int)),none,none,none,none]/\zed K sa H' d/\zcd d H H'/\H' l=some (.lst [])/\H' tl=some (.lst (tt.map V.int)),?_,?_⟩
   ·refine ⟨_,rfl,rfl,_,rfl,?_⟩
    refine ziw (fun _=>?_) (fun _=>?_)
    ·refine ⟨_,rfl,d,sa,_,rfl,D5,by decide,fun r H6 _ _ D6 k6=>⟨rfl,_,rfl,?_⟩⟩
     refine ziw (fun _=>?_) (fun _=>?_)
     ·refine ⟨_,rfl,d,sa,_,rfl,D6,by decide,fun c H7 h0 h1 D7 k7=>⟨c.toNat,by lia,?_,D7,((k4.trans k5).trans k6).trans k7,(k6.trans k7) _ _ l5 ld,(k6.trans k7) _ _ t5 (nd htl0)⟩⟩
      rw [ZAg h0]
      rfl
     ·exact ⟨c0.toNat,by lia,by rw [ZAg hc0];rfl,D6,(k4.trans k5).trans k6,k6 _ _ l5 ld,k6 _ _ t5 (nd htl0)⟩
    ·refine zef ?_
     exact ⟨c0.toNat,by lia,by rw [ZAg hc0];rfl,D5,k4.trans k5,l5,t5⟩
   ·rintro σ' H6 ⟨c,hc,rfl,D6,k6,l6,t6⟩
    refine ⟨_,rfl,_,rfl,by lia,by lia,zd7 (n:=c) (fun i σ' H'=>∃v1 v2 v3 v4 v5 ps rows,σ'=[some (.ref d),some (.int n),some (.int la),some (.int wd),some (.ref l),v1,some (.ref tl),some (.int (c:Int)),v2,v3,v4,v5]/\zcj H' l ps rows/\rows.length=i/\(∀r∈rows,zl1 n r)/\
     H' tl=some (.lst (tt.map V.int))/\zed K sa H' d/\zcd d H H') ⟨none,none,none,none,none,[],[],rfl,⟨l6,.nil⟩,rfl,(fun r hr=>nomatch hr),t6,D6,k6⟩ ?_ ?_⟩
    ·rintro i σ' H7 hi ⟨v1,v2,v3,v4,v5,ps,rows,rfl,R7,hlen7,hok,t7,D7,k7⟩
     have kl:∀{H8:Hp},zcd d H7 H8->zcj H8 l ps rows:=fun k8=>by
      obtain ⟨p,e⟩:=D7.at_
      exact R7.keep k8 e ld
     refine ⟨_,rfl,_,rfl,d,sa,_,rfl,D7,by lia,fun o1 H8 h1a h1b D8 k8=>?_⟩
     refine ⟨_,rfl,_,_,rfl,rfl,_,rfl,_,rfl,_,_,rfl,rfl,d,sa,_,rfl,D8,by lia,fun o2 H9 h2a h2b D9 k9=>⟨_,_,rfl,rfl,_,rfl,_,_,rfl,rfl,(by show (0:Int)<n;lia),?_⟩⟩
     have hw:=zkc (x:=o1+1+o2) (n:=n) (by lia) (by lia) (by lia)
     have ho:0<=(o1+1+o2) % n/\(o1+1+o2) % n<n/\o1≠(o1+1+o2) % n:=by
      rw [hw]
      split<;>lia
     obtain ⟨ho1,ho2,ho3⟩:=ho
     have t9:=(k8.trans k9) _ _ t7 (nd htl0)
     obtain ⟨w1,hw1m,ha1⟩:=zre (xs:=tt) ho1 (by lia)
     obtain ⟨w2,hw2m,ha2⟩:=zre (xs:=tt) h1a (by lia)
     have b1:=hin w1 hw1m
     have b2:=hin w2 hw2m
     refine ⟨_,rfl,zoo rfl t9 ha1 ⟨_,rfl,zoo rfl t9 ha2 ⟨_,_,rfl,rfl,?_⟩⟩⟩
     refine ⟨fun σ' H'=>∃nr:Int,-60<=nr/\nr<=60/\σ'=[some (.ref d),some (.int n),some (.int la),some (.int wd),some (.ref l),some (.int (0+(i:Int))),some (.ref tl),some (.int (c:Int)),some (.int o1),some (.int ((o1+1+o2) % n)),some (.int nr),v5]/\zed K sa H' d/\zcd d H7 H',?_,?_⟩
     ·refine ⟨_,rfl,d,sa,_,rfl,D9,by decide,fun r H10 _ _ D10 k10=>⟨rfl,_,rfl,?_⟩⟩
      refine ziw (fun _=>?_) (fun _=>?_)
      ·refine ⟨_,rfl,_,rfl,_,_,rfl,rfl,.inl ⟨by decide,by decide⟩,_,_,rfl,rfl,d,sa,_,rfl,D10,by lia,fun r' H11 g0 g1' D11 k11=>⟨_,rfl,_,_,rfl,rfl,r'-la,by lia,by lia,rfl,D11,((k8.trans k9).trans k10).trans k11⟩⟩
      ·exact ⟨w1-w2,by lia,by lia,rfl,D10,(k8.trans k9).trans k10⟩
     ·rintro σ' H10 ⟨nr,hnr1,hnr2,rfl,D10,k10⟩
      refine ⟨_,rfl,_,rfl,_,rfl,_,rfl,_,_,rfl,rfl,d,sa,_,rfl,D10,by lia,fun r1 H11 h3a h3b D11 k11=>⟨_,_,rfl,rfl,_,_,rfl,?_⟩⟩
      have R11:=kl (k10.trans k11)
      refine ⟨_,rfl,.inl ⟨rfl,_,SqL.of R11.1⟩,?_⟩
      refine ⟨_,rfl,_,rfl,_,rfl,_,rfl,_,rfl,_,rfl,_,rfl,_,_,rfl,rfl,d,sa,_,rfl,D11,by lia,fun r2 H12 h4a h4b D12 k12=>⟨_,_,rfl,rfl,_,_,rfl,_,_,rfl,szl rfl,fun p hp=>?_⟩⟩
      have R12:=kl ((k10.trans k11).trans k12)
      have R13:=R12.same (zab (o:=.tup [.int o1,.int ((o1+1+o2) % n),.int (if nr-r1> -60 then nr-r1 else-60),.int (if (if nr+r2>(if nr-r1> -60 then nr-r1 else-60) then nr+r2 else (if nr-r1> -60 then nr-r1 else-60))<60 then (if nr+r2>(if nr-r1> -60 then nr-r1 else-60) then nr+r2 else (if nr-r1> -60 then nr-r1 else-60)) else 60)]) hp)
      have kA:=((k7.trans k10).trans k11).trans k12
      refine ⟨l,_,_,rfl,rfl,R13.1,?_,?_⟩
      ·rw [ZAu,R13.len]
       exact zao (by lia)
      ·refine ⟨_,_,_,_,_,ps++[p],rows++[[o1,(o1+1+o2) % n,(if nr-r1> -60 then nr-r1 else-60),(if (if nr+r2>(if nr-r1> -60 then nr-r1 else-60) then nr+r2 else (if nr-r1> -60 then nr-r1 else-60))<60 then (if nr+r2>(if nr-r1> -60 then nr-r1 else-60) then nr+r2 else (if nr-r1> -60 then nr-r1 else-60)) else 60)]],rfl,R13.push zaa,by rw [ZA3,hlen7];rfl,fun r hr=>?_,?_,?_,?_⟩
       ·rcases ZBo.mp hr with q | q
        ·exact hok r q
        ·rw [ZBd.mp q]
         exact ⟨_,_,_,_,rfl,h1a,h1b,ho1,ho2,ho3,by split<;>lia,by repeat' split<;>lia,by split<;>lia⟩
       ·rw [zai tll,zai (ZAl (zac ((((k10.trans k11).trans k12)) _ _ t7 (nd htl0)) hp).symm)]
        exact ((k10.trans k11).trans k12) _ _ t7 (nd htl0)
       ·exact (D12.new hp).upd R13.1 ld
       ·exact zch (zch kA (kA.free hp D12.there)) hl
    ·rintro σ' H7 ⟨v1,v2,v3,v4,v5,ps,rows,rfl,R7,hlen7,hok,t7,D7,k7⟩
     exact ⟨_,rfl,k l rows H7 (by lia) hok ⟨ps,R7⟩ hl D7 k7⟩
theorem paired_get {α β:Type} {F:α->β->Prop} {l:List α} {m:List β} {i:Nat} {a:α} (h:Paired F l m) (e:l[i]?=some a):∃b,m[i]?=some b/\F a b:=by
 induction h generalizing i with
 | nil=>simp at e
 | cons r t ih=>
  cases i with
  | zero=>simp at e;subst e;exact ⟨_,rfl,r⟩
  | succ i=>
   obtain ⟨b,h1,h2⟩:=ih (i:=i) (by simpa using e)
   exact ⟨b,by simpa using h1,h2⟩
theorem zed.keepL {K:ZCa} {sa d l:Addr} {H H1:Hp} {xs:List V} (x:zed K sa H d) (k:zcd l H H1) (hl:H l=some (.lst xs)) (hd:l≠d):zed K sa H1 d:=by
 obtain ⟨⟨p,h⟩,⟨ns,r⟩⟩:=x
 exact ⟨⟨p,k _ _ h (ZAl hd)⟩,⟨ns,r.keep k hl⟩⟩
theorem znn {d l:Addr} {H H1 H2:Hp} (a:zcd d H H1) (b:zcd l H1 H2) (hl:H l=none):zcd d H H2:=fun c o e n=>b c o (a c o e n) (zac e hl)
theorem zgh {m n t:Int} (hn:2<=n) (h0:0<=m):0<=zbs m n t/\zbs m n t<n:=by
 unfold zbs
 split
 ·omega
 ·have h1:=Int.emod_nonneg (m-1+t) (show n-1≠0 by omega)
  have h2:=Int.emod_lt_of_pos (m-1+t) (show 0<n-1 by omega)
  omega
theorem zgy {m n t:Int} (hn:2<=n) (h0:m≠0):0<zbs m n t:=by
 unfold zbs
 rw [if_neg h0]
 have h1:=Int.emod_nonneg (m-1+t) (show n-1≠0 by lia)
 lia
theorem zfs {a b n t:Int} (hn:2<=n) (ha:0<=a) (ha':a<n) (hb:0<=b) (hb':b<n) (ht:0<=t) (ht':t<n) (e:zbs a n t=zbs b n t):a=b:=by
 by_cases a0:a=0
 ·by_cases b0:b=0
  ·lia
  ·have:=zgy (t:=t) hn b0
   have z:zbs a n t=0:=by unfold zbs;rw [if_pos a0]
   lia
 ·by_cases b0:b=0
  ·have:=zgy (t:=t) hn a0
   have z:zbs b n t=0:=by unfold zbs;rw [if_pos b0]
   lia
  ·unfold zbs at e
   rw [if_neg a0,if_neg b0,zkc (x:=a-1+t) (n:=n-1) (by lia) (by lia) (by lia),zkc (x:=b-1+t) (n:=n-1) (by lia) (by lia) (by lia)] at e
   revert e
   split<;>split<;>intro e<;>lia
def zl2 (n t:Int):List Int->List Int
 | [a,b,l,m]=>[zbs a n t,zbs b n t,l,m]
 | r=>r
def zxk (n:Int) (r:List Int):Prop:=∃a b l m:Int,r=[a,b,l,m]/\0<=a/\a<n/\0<b/\b<n/\a≠b/\1<=l/\l<=m/\m<=60
structure zc0 (n la:Int) (T F:List (List Int)):Prop where
 n1:1<=n
 n2:n<=8
 l1:1<=la
 l2:la<=60
 tl:T.length<=24
 fl:F.length<=7
 t:∀r∈T,zl1 n r
 f:∀r∈F,zxk n r
 one:∀(i j:Nat) r r',F[i]?=some r->F[j]?=some r'->r[1]?=r'[1]?->i=j
 own:∀r∈F,∀r'∈F,r[0]?≠r'[1]?
theorem zl1.ren {n t:Int} {r:List Int} (hn:2<=n) (ht:0<=t) (ht':t<n) (h:zl1 n r):zl1 n (zl2 n t r):=by
 obtain ⟨a,b,l,m,rfl,h1,h2,h3,h4,h5,h6,h7,h8⟩:=h
 have ha:=zgh (t:=t) hn h1
 have hb:=zgh (t:=t) hn h3
 exact ⟨_,_,l,m,rfl,ha.1,ha.2,hb.1,hb.2,fun e=>h5 (zfs hn h1 h2 h3 h4 ht ht' e),h6,h7,h8⟩
theorem zrp {n la t:Int} {c:Nat} {T F:List (List Int)} (hn:2<=n) (hn2:n<=8) (hl1:1<=la) (hl2:la<=60) (ht:0<=t) (ht':t<n) (hT:∀r∈T,zl1 n r) (hTl:T.length<=12) (hc:(c:Int)<=n-1) (hlen:F.length=c) (hF:ze2 n c F):
 zc0 n la (T.map (zl2 n t)) (F.map (zl2 n t)):=by
 have at_:∀(i:Nat) r,(F.map (zl2 n t))[i]?=some r->∃a l m:Int,r=[zbs a n t,zbs (n-1-i) n t,l,m]/\i<c/\0<=a/\a<n-c/\1<=l/\l<=m/\m<=60:=fun i r e=>by
  rw [ZA0] at e
  cases q:F[i]? with
  | none=>rw [q] at e;cases e
  | some r0=>
   rw [q] at e
   have hi:i<c:=by rw [<-hlen];exact (ZAv.mp q).1
   obtain ⟨a,l,m,rfl,r1⟩:=hF i r0 q
   cases e
   exact ⟨a,l,m,rfl,hi,r1⟩
 have mem:∀r,r∈F.map (zl2 n t)->∃i:Nat,(F.map (zl2 n t))[i]?=some r:=fun r hr=>ZAm.mp hr
 refine ⟨by lia,hn2,hl1,hl2,by rw [ZAu];lia,by rw [ZAu];lia,fun r hr=>?_,fun r hr=>?_,fun i j r r' e e' q=>?_,fun r hr r' hr'=>?_⟩
 ·obtain ⟨r0,h0,rfl⟩:=ZBr.mp hr
  exact (hT r0 h0).ren hn ht ht'
 ·obtain ⟨i,e⟩:=mem r hr
  obtain ⟨a,l,m,rfl,hi,h1,h2,h3,h4,h5⟩:=at_ i r e
  have ha:=zgh (t:=t) hn h1
  have hb:=zgh (m:=n-1-i) (t:=t) hn (by lia)
  exact ⟨_,_,l,m,rfl,ha.1,ha.2,zgy hn (by lia),hb.2,fun z=>by
   have:=zfs hn h1 (by lia) (by lia) (by lia) ht ht' z
   lia,h3,h4,h5⟩
 ·obtain ⟨a,l,m,rfl,hi,_⟩:=at_ i r e
  obtain ⟨a',l',m',rfl,hj,_⟩:=at_ j r' e'
  have z:zbs (n-1-i) n t=zbs (n-1-j) n t:=by simpa using q
  have:=zfs hn (by lia) (by lia) (by lia) (by lia) ht ht' z
  lia
 ·obtain ⟨i,e⟩:=mem r hr
  obtain ⟨j,e'⟩:=mem r' hr'
  obtain ⟨a,l,m,rfl,hi,h1,h2,_⟩:=at_ i r e
  obtain ⟨a',l',m',rfl,hj,_⟩:=at_ j r' e'
  intro q
  have z:zbs a n t=zbs (n-1-j) n t:=by simpa using q
  have:=zfs hn h1 (by lia) (by lia) (by lia) ht ht' z
  lia
theorem Few.ren {wd n t:Int} {n0:Int} {c:Nat} {rows:List (List Int)} (h:Few wd rows) (hF:ze2 n0 c rows):Few wd (rows.map (zl2 n t)):=fun z=>by
 obtain ⟨h1,h2⟩:=h z
 refine ⟨by rw [ZAu];exact h1,fun r hr=>?_⟩
 obtain ⟨r0,h0,rfl⟩:=ZBr.mp hr
 obtain ⟨i,e⟩:=ZAm.mp h0
 obtain ⟨a,l,m,e',_⟩:=hF i r0 e
 have:=h2 r0 h0
 subst e'
 exact this
def zwd (K:ZCa):Sp:=fun vs H Q _=>∃d sa mo la wd,vs=[.ref d,.int mo,.int la,.int wd]/\zed K sa H d/\2<=mo/\mo<=8/\1<=la/\la<=60/\1<=wd/\wd<=8/\
 ∀(p ta fa:Addr) n l T F H',H' p=some (.tup [.int n,.int l,.ref ta,.ref fa])->zbk H' ta T->zbk H' fa F->zc0 n l T F->2<=n->n<=mo->l<=la->zed K sa H' d->zcd d H H'->ta≠d->fa≠d->Few wd F/\T.length<=12->Q (.ref p) H'
abbrev nW:List Str:=["_law_d","_law_most","_law_last","_law_wide","_law_many","_law_falls_here","_law_ties_here","_law_turn","_law_found","_law_rows"]
theorem scW:zan nW ["_law_d","_law_most","_law_last","_law_wide"] (zag sWeb):=scm
abbrev nWc:List Str:=["_law_r","_law_many","_law_turn"]
theorem coW:zbw (zag sWeb) nW (fsc [(".0",.local),("_law_r",.local),("_law_named",.globalImplicit),("_law_many",.free),("_law_turn",.free)]) nWc [none,some 4,some 7]:=com
theorem zA0:nWc.Nodup:=by decide+kernel
theorem ok_web {f fN fM fF fT:Addr} {fd fdN fdM fdF fdT:FuncData} (F:Fn K mg "_law_web" sWeb ["_law_d","_law_most","_law_last","_law_wide"] f fd)
 (FN:Fn K mg "_law_next" sNext ["_law_dice","_law_many"] fN fdN) (GN:zbb P w K mg base CX0 1 fN fdN ["_law_dice","_law_many"] (zh2 K))
 (FM:Fn K mg "_law_named" sNamed ["_law_moment","_law_many","_law_turn"] fM fdM) (GM:zbb P w K mg base CX0 1 fM fdM ["_law_moment","_law_many","_law_turn"] zo8)
 (FF:Fn K mg "_law_falls" sFalls ["_law_d","_law_many","_law_wide"] fF fdF) (GF:zbb P w K mg base CX0 2 fF fdF ["_law_d","_law_many","_law_wide"] (zpd K))
 (FT:Fn K mg "_law_ties" sTies ["_law_d","_law_many","_law_last","_law_wide"] fT fdT) (GT:zbb P w K mg base CX0 2 fT fdT ["_law_d","_law_many","_law_last","_law_wide"] (zte K)):
 zbb P w K mg base CX0 3 f fd ["_law_d","_law_most","_law_last","_law_wide"] (zwd K):=by
 refine F.F.ok scW (fun _ _ _ _ h=>?_) fun _ A _ s H _ Q E hr h=>?_
 ·obtain ⟨d,sa,mo,la,wd,rfl,_⟩:=h
  rfl
 ·obtain ⟨d,sa,mo,la,wd,rfl,D,hm1,hm2,hl1,hl2,hw1,hw2,k⟩:=h
  have hr1:zel 1 _:=hr.mono (by decide)
  refine ⟨_,zah (zg7 (i:=4) scW.nd rfl (Or.inr rfl) (za2 zb5 zae (pcl GN hr1 FN (pa2 (pv 0) (za2 zcc (pv 1) zae)))))
   (zah (za5 2 scW.nd (za2 zb5 zae (pcl GN hr1 FN (pa2 (pv 0) (pv 2)))))
   (zah (za5 5 scW.nd (pcl GF hr FF (pa3 (pv 0) (pv 4) (pv 3))))
   (zah (za5 6 scW.nd (pcl GT hr FT (pa4 (pv 0) (pv 4) (pv 2) (pv 3))))
   (zah (zg7 (i:=7) scW.nd rfl (Or.inr rfl) (pcl GN hr1 FN (pa2 (pv 0) (pv 4))))
   (zah (za5 8 scW.nd (zcq zdq))
   (zah (zc9 PassesOwn.never rfl (zbt (zcq (pa2 (pv 6) (pv 5)))) (zcw 9 scW.nd)
    (zad (zbj (ziu ZAr ZAs ZAt zcn (pv 8)
     (pa1 (zcs rfl (zbt (pv 9)) coW (fun cl ex s0 H0=>⟨zcw 0 zA0,zb9,
      zaw (zd4 (pcl GM hr1 FM (pa3 (ixT (pv 0)) (pv 1) (pv 2)))
       (zd4 (pcl GM hr1 FM (pa3 (ixT (pv 0)) (pv 1) (pv 2)))
       (pa2 (ixT (pv 0)) (ixT (pv 0)))))⟩)))))))
   (zad (zaq (zaw (pa4 (pv 4) (pv 2) (zbm zal (pv 8) zae (fun _ _=>rfl)) (zbm zal (pv 8) zae (fun _ _=>rfl)))))))))))),?_⟩
  refine ⟨_,rfl,_,rfl,_,_,rfl,rfl,d,sa,_,rfl,D,by lia,fun r1 H1 h1a h1b D1 k1=>⟨_,_,rfl,rfl,?_⟩⟩
  refine ⟨_,rfl,_,rfl,d,sa,_,rfl,D1,by lia,fun r2 H2 h2a h2b D2 k2=>⟨_,_,rfl,rfl,?_⟩⟩
  refine ⟨_,rfl,_,rfl,_,rfl,d,sa,_,_,rfl,D2,by lia,by lia,hw1,hw2,fun fl c F0 H3 hc hcl hF0 RF hfl D3 k3 few=>?_⟩
  refine ⟨_,rfl,_,rfl,_,rfl,_,rfl,d,sa,_,_,_,rfl,D3,by lia,by lia,by lia,by lia,hw1,hw2,fun tl T0 H4 hTl hT0 RT htl D4 k4=>?_⟩
  refine ⟨_,rfl,_,rfl,d,sa,_,rfl,D4,by lia,fun t H5 hta htb D5 k5=>?_⟩
  have fld:fl≠d:=fun e=>by
   subst e
   obtain ⟨o,q⟩:=D2.there
   rw [hfl] at q
   cases q
  have tld:tl≠d:=fun e=>by
   subst e
   obtain ⟨o,q⟩:=D3.there
   rw [htl] at q
   cases q
  have RF5:zbk H5 fl F0:=by
   obtain ⟨p,e⟩:=D3.at_
   exact RF.keep (k4.trans k5) e fld
  have RT5:zbk H5 tl T0:=by
   obtain ⟨p,e⟩:=D4.at_
   exact RT.keep k5 e tld
  have kA:zcd d H H5:=(((k1.trans k2).trans k3).trans k4).trans k5
  refine ⟨ZBa _,fun fo hfo=>?_⟩
  have fod:fo≠d:=fun e=>by
   subst e
   obtain ⟨o,q⟩:=D5.there
   rw [hfo] at q
   cases q
  have hfo0:H fo=none:=kA.free hfo D5.there
  have RF6:=RF5.same (zab (o:=.lst []) hfo)
  have RT6:=RT5.same (zab (o:=.lst []) hfo)
  have tlfo:tl≠fo:=by
   obtain ⟨ps,e,_⟩:=RT5
   exact zac e hfo
  have flfo:fl≠fo:=by
   obtain ⟨ps,e,_⟩:=RF5
   exact zac e hfo
  refine ⟨_,rfl,_,rfl,szl rfl,fun ll hll=>⟨ll,rfl,⟨_,SqL.of zaa⟩,?_⟩⟩
  have llfo:ll≠fo:=ZAl (zac (zaa (H:=H5) (a:=fo) (o:=.lst [])) hll)
  have hll5:H5 ll=none:=by rw [zai llfo] at hll;exact hll
  have hll0:H ll=none:=kA.free hll5 D5.there
  generalize hH7:upd (upd H5 fo (.lst [])) ll (.lst [V.ref tl,V.ref fl])=H7
  have e7:H7 fo=some (.lst []):=by rw [<-hH7,zai (ZAl llfo),zaa]
  have e7l:H7 ll=some (.lst [V.ref tl,V.ref fl]):=by rw [<-hH7,zaa]
  have RF7:zbk H7 fl F0:=by rw [<-hH7];exact RF6.same (zab hll)
  have RT7:zbk H7 tl T0:=by rw [<-hH7];exact RT6.same (zab hll)
  have D7:zed K sa H7 d:=by rw [<-hH7];exact (D5.new hfo).new hll
  have k7:zcd d H H7:=by rw [<-hH7];exact zch (zch kA hfo0) hll0
  refine zcx (K:=K) (a:=ll) (xs:=[V.ref tl,V.ref fl]) (fun i σ' H'=>∃v ls,σ'=[some (.ref d),some (.int mo),some (.int (1+r2)),some (.int wd),some (.int (2+r1)),some (.ref fl),some (.ref tl),some (.int t),some (.ref fo),v]/\
   H' fo=some (.lst (ls.map V.ref))/\Paired (fun a rs=>zbk H' a rs/\a≠fo/\a≠d) ls (([T0,F0].take i).map fun R=>R.map (zl2 (2+r1) t))/\zcd fo H7 H') ⟨none,[],rfl,e7,.nil,zcd.refl fo H7⟩ ?_ ?_ ?_
  ·rintro i σ' H8 _ ⟨v,ls,rfl,_,_,k8⟩
   exact SqL.of (k8 _ _ e7l llfo)
  ·rintro i x σ' H8 hx ⟨v,ls,rfl,e8,pl8,k8⟩
   obtain ⟨a0,R0,rfl,RA,a0fo,htk,hsh,hln⟩:∃a0 R0,x=.ref a0/\zbk H8 a0 R0/\a0≠fo/\(([T0,F0].take (i+1)).map fun R=>R.map (zl2 (2+r1) t))=(([T0,F0].take i).map fun R=>R.map (zl2 (2+r1) t))++[R0.map (zl2 (2+r1) t)]/\
    (∀r∈R0,∃a b l m:Int,r=[a,b,l,m])/\R0.length<=12:=by
    match i,hx with
    | 0,hx=>
     cases hx
     exact ⟨tl,T0,rfl,RT7.keep k8 e7 tlfo,tlfo,rfl,fun r hr=>by
      obtain ⟨a,b,l,m,e,_⟩:=hT0 r hr
      exact ⟨a,b,l,m,e⟩,hTl⟩
    | 1,hx=>
     cases hx
     exact ⟨fl,F0,rfl,RF7.keep k8 e7 flfo,flfo,rfl,fun r hr=>by
      obtain ⟨i,e⟩:=ZAm.mp hr
      obtain ⟨a,l,m,e,_⟩:=hF0 i r e
      exact ⟨a,_,l,m,e⟩,by lia⟩
    | i+2,hx=>cases hx
   obtain ⟨ps0,RP⟩:=RA
   refine ⟨_,rfl,.inl ⟨rfl,_,SqL.of e8⟩,?_⟩
   refine ⟨_,rfl,a0,rfl,⟨_,SqL.of RP.1⟩,fun Da hDa=>?_⟩
   refine zdc (xs:=ps0.map V.ref) (fun j σ' H'=>∃v ps,σ'=[v,some (.int (2+r1)),some (.int t)]/\zcj H' Da ps ((R0.take j).map (zl2 (2+r1) t))/\za7 H8 H') ?_ ?_ ?_ ?_
   ·exact ⟨none,[],rfl,⟨zaa,.nil⟩,zab hDa⟩
   ·rintro j σ' H9 _ ⟨v,ps,rfl,_,s9⟩
    exact SqL.of (s9 _ _ RP.1)
   ·rintro j x σ' H9 hxj ⟨v,ps,rfl,R9,s9⟩
    rw [ZA0] at hxj
    cases hq:ps0[j]? with
    | none=>rw [hq] at hxj;cases hxj
    | some q=>
     rw [hq] at hxj
     cases hxj
     obtain ⟨r,hr,hqt⟩:=paired_get RP.2 hq
     obtain ⟨a,b,l,m,rfl⟩:=hsh r (ZA1 hr)
     have hqt9:=s9 _ _ hqt
     refine ⟨_,rfl,rdT hqt9 rfl ⟨_,rfl,_,rfl,_,_,_,rfl,by lia,?_⟩⟩
     refine ⟨_,rfl,rdT hqt9 rfl ⟨_,rfl,_,rfl,_,_,_,rfl,by lia,?_⟩⟩
     refine ⟨_,rfl,rdT hqt9 rfl ⟨_,rfl,rdT hqt9 rfl ⟨szl rfl,fun p hp=>?_⟩⟩⟩
     have R10:=R9.same (zab (o:=.tup [.int (zbs a (2+r1) t),.int (zbs b (2+r1) t),.int l,.int m]) hp)
     have hDa8:H8 Da=none:=hDa
     refine ⟨_,R10.1,?_,_,ps++[p],rfl,?_,fun b o e=>?_⟩
     ·rw [ZAu,R10.len,ZAu,ZBl]
      exact zao (by lia)
     ·have hj:(R0.take (j+1)).map (zl2 (2+r1) t)=(R0.take j).map (zl2 (2+r1) t)++[[zbs a (2+r1) t,zbs b (2+r1) t,l,m]]:=by
       rw [ZBu,hr,ZA9]
       rfl
      rw [hj]
      exact R10.push zaa
     ·rw [zai (zac e hDa8),zai (zac (s9 _ _ e) hp)]
      exact s9 _ _ e
   ·rintro σ' H9 ⟨v,ps,rfl,R9,s9⟩
    have e9:=s9 _ _ e8
    refine ⟨fo,_,.ref Da,rfl,rfl,e9,?_,?_⟩
    ·rw [ZAu,pl8.length,ZAu,ZBl]
     exact zao (by simp;lia)
    ·have hDafo:Da≠fo:=ZAl (zac e8 hDa)
     have hDad:Da≠d:=fun e=>by
      subst e
      obtain ⟨p,q⟩:=(D7.keepL k8 e7 fod).at_
      rw [hDa] at q
      cases q
     have ku:zcd fo H9 (upd H9 fo (.lst (ls.map V.ref++[.ref Da]))):=fun b o e n=>by rw [zai n];exact e
     refine ⟨_,ls++[Da],rfl,by rw [zaa,ZA9];rfl,?_,fun b o e n=>by rw [zai n];exact s9 _ _ (k8 b o e n)⟩
     rw [htk]
     refine Paired.snoc (zaj pl8 fun a rs z=>⟨(z.1.same s9).keep ku e9 z.2.1,z.2⟩) ⟨?_,hDafo,hDad⟩
     have hl:R0.take (ps0.map V.ref).length=R0:=by
      rw [ZAu,RP.len]
      exact ZBi
     rw [hl] at R9
     exact zbk.keep ⟨ps,R9⟩ ku e9 hDafo
  ·rintro σ' H8 ⟨v,ls,rfl,e8,pl8,k8⟩
   have pl8:Paired (fun a rs=>zbk H8 a rs/\a≠fo/\a≠d) ls [T0.map (zl2 (2+r1) t),F0.map (zl2 (2+r1) t)]:=pl8
   cases pl8 with
   | @cons lt _ ls1 _ q1 pl9=>
    cases pl9 with
    | @cons lf _ ls2 _ q2 pl10=>
     cases pl10
     refine ⟨_,rfl,_,rfl,_,rfl,rdL e8 rfl ⟨_,rfl,rdL e8 rfl ⟨szl rfl,fun p hp=>?_⟩⟩⟩
     have sm:=zab (o:=.tup [.int (2+r1),.int (1+r2),.ref lt,.ref lf]) hp
     exact k p lt lf _ _ _ _ _ zaa (q1.1.same sm) (q2.1.same sm) (zrp (by lia) (by lia) (by lia) (by lia) hta htb hT0 hTl hc hcl hF0) (by lia) (by lia) (by lia) ((D7.keepL k8 e7 fod).same sm) (zch (znn k7 k8 hfo0) ((znn k7 k8 hfo0).free hp (D7.keepL k8 e7 fod).there)) q1.2.2 q2.2.2 ⟨few.ren hF0,by rw [ZAu];exact hTl⟩
end Y0
namespace L2
open PySem PySem.Spec PyProof.Rows
section
end
theorem zf9 {c A B:Prop} [Decidable c] (hc:c) (h:A):if decide c=true then A else B:=by
 rw [ZB8 hc]
 exact zhb h
theorem zd6 {c A B:Prop} [Decidable c] (hc:¬c) (h:B):if decide c=true then A else B:=by
 rw [ZB9 hc]
 exact zef h
theorem zms {Q:VK} {H:Hp} {b b':Bool} (k:Q (.bl b) H) (e:b=b'):Q (.bl b') H:=e▸k
theorem zkh {a:Int}:∀{ns:List Int},inV (.int a) (ns.map V.int)=decide (a∈ns)
 | []=>by simp [inV]
 | n::r=>by
  have ih:=zkh (a:=a) (ns:=r)
  unfold inV at ih ⊢
  rw [ZBf,List.any_cons,ih]
  show ((n==a) || decide (a∈r))=decide (a∈n::r)
  by_cases e:n=a
  ·subst e;simp
  ·have:¬a=n:=fun z=>e z.symm
   simp [e,this]
theorem zih:∀{ns:List Int},(ns.map V.int).all zcz=true
 | []=>rfl
 | n::r=>by
  rw [ZBf,List.all_cons,zih (ns:=r)]
  rfl
theorem znu {α:Type} {xs:List α} {i:Nat} (h:i<=xs.length):(xs.drop (HT.sIx xs.length 0 none)).take (HT.sIx xs.length xs.length (some (i:Int))-HT.sIx xs.length 0 none)=xs.take i:=by
 rw [HT.sIx_none,HT.sIx_nat,List.drop_zero,Nat.sub_zero,Nat.min_eq_left h]
end L2
namespace Y0
open PySem L2
structure TxtW (mg:Str->Option Value):Prop where
 mm:∃t,mg "MOST_MOMENTS"=some (.int 8 t)
 ll:∃t,mg "LATEST_LAST"=some (.int 60 t)
 ws:∃t,mg "WIDEST_SPAN"=some (.int 60 t)
 lf:∃t,mg "LONGEST_FALL"=some (.int 60 t)
 list:mg "list"=none
def zuq:Sp:=fun vs H Q _=>∃n a b,vs=[.int n,.int a,.int b]/\Q (.bl (decide (0<=a/\a<n/\0<=b/\b<n/\a≠b))) H
def zti:Sp:=fun vs H Q _=>∃n la,vs=[.int n,.int la]/\1<=n/\n<=8/\1<=la/\la<=60/\Q .non H
def zo9:Sp:=fun vs H Q _=>∃n a T,vs=[.int n,.ref a]/\zbk H a T/\(∀r∈T,zl1 n r)/\Q .non H
def zm7:Sp:=fun vs H Q _=>∃n a la T F,vs=[.int n,.ref a]/\zbk H a F/\zc0 n la T F/\∀H',za7 H H'->Q .non H'
theorem sc2:zan ["many","one","other"] ["many","one","other"] (zag sP_are_two_moments):=scm
theorem ok_two {f:Addr} {fd:FuncData} (F:Fn K mg "are_two_moments" sP_are_two_moments ["many","one","other"] f fd):zbb P w K mg base CX0 1 f fd ["many","one","other"] zuq:=by
 refine F.F.ok sc2 (fun _ _ _ _ h=>?_) fun _ A _ s H _ Q E hr h=>?_
 ·obtain ⟨n,a,b,rfl,_⟩:=h
  rfl
 ·obtain ⟨n,a,b,rfl,k⟩:=h
  refine ⟨_,zad (zaq (zfd (zhp zfy zhe zae (pv 1) (pv 0)) (zfd (zhp zfy zhe zae (pv 2) (pv 0)) (zjd (zl3 zka (pv 1) (pv 2)))))),?_⟩
  refine ⟨_,rfl,_,_,rfl,rfl,_,rfl,ziw (fun h1=>⟨_,rfl,_,_,rfl,rfl,_,rfl,ziw (fun h2=>⟨_,rfl,_,_,rfl,rfl,_,rfl,ziw (fun h3=>⟨_,rfl,_,_,rfl,rfl,_,rfl,ziw (fun h4=>⟨_,rfl,_,rfl,rfl,?_⟩) (fun h4=>?_)⟩) (fun h3=>⟨false,rfl,zef ?_⟩)⟩) (fun h2=>?_)⟩) (fun h1=>⟨false,rfl,zef ?_⟩)⟩
  all_goals simp only [ZBy] at*
  ·refine zms (Q:=Q) k ?_
   by_cases e:a=b
   ·subst e;simp
   ·simp [e];omega
  all_goals (refine zms (Q:=Q) k (ZB9 fun z=>?_);omega)
theorem scS:zan ["many","last"] ["many","last"] (zag sP_look_over_size):=scm
theorem ok_size {f:Addr} {fd:FuncData} (F:Fn K mg "look_over_size" sP_look_over_size ["many","last"] f fd) (T:TxtW mg):zbb P w K mg base CX0 1 f fd ["many","last"] zti:=by
 obtain ⟨t1,m1⟩:=T.mm
 obtain ⟨t2,m2⟩:=T.ll
 refine F.F.ok scS (fun _ _ _ _ h=>?_) fun _ A _ s H _ Q E hr h=>?_
 ·obtain ⟨n,a,rfl,_⟩:=h
  rfl
 ·obtain ⟨n,la,rfl,n1,n2,l1,l2,k⟩:=h
  refine ⟨_,zah (zbe (zge (zj5 zfy zfy zae (pv 0) (zgx (v:=.int 8) rfl m1 ⟨_,rfl⟩))) zd1 zap) (zad (zbe (zge (zj5 zfy zfy zae (pv 1) (zgx (v:=.int 60) rfl m2 ⟨_,rfl⟩))) zd1 zap)),?_⟩
  refine ⟨_,rfl,_,_,rfl,rfl,_,rfl,zf9 n1 ⟨_,_,rfl,rfl,_,rfl,zll n2 ?_⟩⟩
  exact ⟨_,rfl,_,_,rfl,rfl,_,rfl,zf9 l1 ⟨_,_,rfl,rfl,_,rfl,zll l2 k⟩⟩
abbrev nLT:List Str:=["many","ties","at","one","other","least","most"]
theorem zut:zan nLT ["many","ties"] (zag sP_look_over_ties):=scm
theorem ok_lties {f f2:Addr} {fd fd2:FuncData} (F:Fn K mg "look_over_ties" sP_look_over_ties ["many","ties"] f fd) (T:TxtW mg) (F2:Fn K mg "are_two_moments" sP_are_two_moments ["many","one","other"] f2 fd2)
 (G2:zbb P w K mg base CX0 1 f2 fd2 ["many","one","other"] zuq):zbb P w K mg base CX0 2 f fd ["many","ties"] zo9:=by
 obtain ⟨t1,m1⟩:=T.ws
 refine F.F.ok zut (fun _ _ _ _ h=>?_) fun _ A _ s H _ Q E hr h=>?_
 ·obtain ⟨n,a,_,rfl,_⟩:=h
  rfl
 ·obtain ⟨n,a,rows,rfl,⟨ps,R⟩,hok,k⟩:=h
  refine ⟨_,zah (za5 2 zut.nd zae) (zad (zc9 PassesOwn.never rfl (zbt (pv 1))
   (zjc rfl (za0 (zcw 3 zut.nd) (za0 (zcw 4 zut.nd) (za0 (zcw 5 zut.nd) (za0 (zcw 6 zut.nd) zfb)))))
   (zah (zbe (zge (zh6 (pcl G2 hr F2 (pa3 (pv 0) (pv 3) (pv 4))))) zd1 zap)
   (zah (zbe (zge (zld zfy zfy zfy (zl9 zh0 (zgx (v:=.int 60) rfl m1 ⟨_,rfl⟩)) (pv 5) (pv 6) (zgx (v:=.int 60) rfl m1 ⟨_,rfl⟩))) zd1 zap)
   (zad (zpr (i:=2) zut.nd rfl (Or.inl rfl) zae zqm)))))),?_⟩
  refine ⟨_,rfl,a,rfl,⟨_,SqL.of R.1⟩,zcx (K:=K) (a:=a) (xs:=ps.map V.ref) (fun i σ' H'=>∃z v1 v2 v3 v4,σ'=[some (.int n),some (.ref a),some (.int z),v1,v2,v3,v4]/\H'=H) ⟨0,none,none,none,none,rfl,rfl⟩ ?_ ?_ ?_⟩
  ·rintro i σ' H' _ ⟨z,v1,v2,v3,v4,rfl,rfl⟩
   exact SqL.of R.1
  ·rintro i x σ' H' hx ⟨z,v1,v2,v3,v4,rfl,rfl⟩
   rw [ZA0] at hx
   cases hq:ps[i]? with
   | none=>rw [hq] at hx;cases hx
   | some q=>
    rw [hq] at hx
    cases hx
    obtain ⟨r,hr',hqt⟩:=paired_get R.2 hq
    obtain ⟨a',b',l,m,rfl,h1,h2,h3,h4,h5,h6,h7,h8⟩:=hok r (ZA1 hr')
    refine ⟨q,_,rfl,SqT.of hqt,rfl,_,_,rfl,_,_,rfl,_,_,rfl,_,_,rfl,rfl,?_⟩
    refine ⟨_,rfl,_,rfl,_,rfl,n,a',b',rfl,_,rfl,zll ⟨h1,h2,h3,h4,h5⟩ ?_⟩
    refine ⟨_,rfl,_,rfl,_,_,rfl,rfl,_,rfl,zf9 (by omega) ⟨_,rfl,_,_,rfl,rfl,_,rfl,zf9 h7 ⟨_,_,rfl,rfl,_,rfl,zll h8 ?_⟩⟩⟩
    exact ⟨_,rfl,_,_,rfl,rfl,_,_,_,_,_,rfl,rfl⟩
  ·rintro σ' H' ⟨z,v1,v2,v3,v4,rfl,rfl⟩
   exact k
end Y0
namespace L2
open PySem PySem.Spec PyProof.Rows
theorem zdj {b:Bool} {A B:Prop} (e:b=false) (h:B):if b=true then A else B:=by
 rw [e]
 exact zef h
theorem zbx {b:Bool} {A B:Prop} (e:b=true) (h:A):if b=true then A else B:=by
 rw [e]
 exact zhb h
theorem zhn (f:Str) (v:V):∀fs:List (Str×V),(zbq f v fs).length<=fs.length+1
 | []=>ZAw _
 | (g,x)::r=>by
  unfold zbq
  split
  ·exact ZAe _
  ·exact Nat.succ_le_succ (zhn f v r)
theorem zcj.get {H:Hp} {a:Addr} {ps:List Addr} {rows:List (List Int)} (R:zcj H a ps rows) {i:Nat} {x:V} (hx:(ps.map V.ref)[i]?=some x):∃q r,x=.ref q/\ps[i]?=some q/\rows[i]?=some r/\H q=some (.tup (r.map V.int)):=by
 rw [ZA0] at hx
 cases hq:ps[i]? with
 | none=>rw [hq] at hx;cases hx
 | some q=>
  rw [hq] at hx
  cases hx
  obtain ⟨r,hr',hqt⟩:=Y0.paired_get R.2 hq
  exact ⟨q,r,rfl,rfl,hr',hqt⟩
end L2
namespace Y0
open PySem L2
def zz2 (r:List Int):Int:=r.getD 1 0
structure zrk (K:ZCa) (mg:Str->Option Value) (C:Addr):Prop where
 cl:Cls K C
 nM:zec K C "many"
 nL:zec K C "last"
 nT:zec K C "told_ties"
 nF:zec K C "told_falls"
 mgC:mg "Web"=some (.ref C)
def zgt (n la:Int) (ta fa:Addr):List (Str×V):=zbq "told_falls" (.ref fa) (zbq "told_ties" (.ref ta) (zbq "last" (.int la) (zbq "many" (.int n) [])))
theorem k1:¬(("many":Str)="told_falls"):=by decide+kernel
theorem k2:¬(("many":Str)="told_ties"):=by decide+kernel
theorem k3:¬(("many":Str)="last"):=by decide+kernel
theorem k4:¬(("last":Str)="told_falls"):=by decide+kernel
theorem k5:¬(("last":Str)="told_ties"):=by decide+kernel
theorem k6:¬(("told_ties":Str)="told_falls"):=by decide+kernel
theorem zta (n la:Int) (ta fa:Addr):(zgt n la ta fa).lookup ("many":Str)=some (.int n):=by
 unfold zgt
 rw [za3,if_neg k1,za3,if_neg k2,za3,if_neg k3,za3,if_pos rfl]
theorem zv4 (n la:Int) (ta fa:Addr):(zgt n la ta fa).lookup ("last":Str)=some (.int la):=by
 unfold zgt
 rw [za3,if_neg k4,za3,if_neg k5,za3,if_pos rfl]
theorem zv3 (n la:Int) (ta fa:Addr):(zgt n la ta fa).lookup ("told_ties":Str)=some (.ref ta):=by
 unfold zgt
 rw [za3,if_neg k6,za3,if_pos rfl]
theorem zuc (n la:Int) (ta fa:Addr):(zgt n la ta fa).lookup ("told_falls":Str)=some (.ref fa):=by
 unfold zgt
 rw [za3,if_pos rfl]
theorem zxx (n la:Int) (ta fa:Addr) {m:Str} (h1:¬m="told_falls") (h2:¬m="told_ties") (h3:¬m="last") (h4:¬m="many"):(zgt n la ta fa).lookup m=none:=by
 unfold zgt
 rw [za3,if_neg h1,za3,if_neg h2,za3,if_neg h3,za3,if_neg h4]
 all_goals rfl
def ze1 (C:Addr) (H:Hp) (p:Addr) (n la:Int) (T F:List (List Int)):Prop:=∃dx ta fa,H p=some (.ins C dx (zgt n la ta fa))/\zbk H ta T/\zbk H fa F
theorem ze1.same {C p:Addr} {H H':Hp} {n la:Int} {T F:List (List Int)} (h:ze1 C H p n la T F) (k:za7 H H'):ze1 C H' p n la T F:=by
 obtain ⟨dx,ta,fa,e,r1,r2⟩:=h
 exact ⟨dx,ta,fa,k _ _ e,r1.same k,r2.same k⟩
def ztq (C:Addr):Sp:=fun vs H Q _=>∃p dx n la a b T F,vs=[.ref p,.int n,.int la,.ref a,.ref b]/\H p=some (.ins C dx [])/\zbk H a T/\zbk H b F/\zc0 n la T F/\
 ∀H',ze1 C H' p n la T F->zcd p H H'->Q .non H'
def zpc (C:Addr) (g:List (List Int)->List (List Int)->List (List Int)):Sp:=fun vs H Q _=>∃p n la T F,vs=[.ref p]/\ze1 C H p n la T F/\∀l H',H l=none->za7 H H'->zbk H' l (g T F)->Q (.ref l) H'
abbrev nLF:List Str:=["many","falls","ends","at","one","other","least","most"]
theorem ztu:zan nLF ["many","falls"] (zag sP_look_over_falls):=scm
theorem zBm:zbw (zag sP_look_over_falls) nLF (fsc [(".0",.local),("fall",.local)]) ["fall"] [none]:=com
theorem nd1 {x:Str}:([x]:List Str).Nodup:=by simp
theorem ok_lfalls {f f2:Addr} {fd fd2:FuncData} (F:Fn K mg "look_over_falls" sP_look_over_falls ["many","falls"] f fd) (T:TxtW mg) (F2:Fn K mg "are_two_moments" sP_are_two_moments ["many","one","other"] f2 fd2)
 (G2:zbb P w K mg base CX0 1 f2 fd2 ["many","one","other"] zuq):zbb P w K mg base CX0 2 f fd ["many","falls"] zm7:=by
 obtain ⟨t1,m1⟩:=T.lf
 refine F.F.ok ztu (fun _ _ _ _ h=>?_) fun _ A _ s H _ Q E hr h=>?_
 ·obtain ⟨n,a,_,_,_,rfl,_⟩:=h
  rfl
 ·obtain ⟨n,a,la,TT,rows,rfl,⟨ps,R⟩,hok,k⟩:=h
  refine ⟨_,zah (zgw (i:=2) ztu.nd rfl rfl rfl (zbt (pv 1)) zBm (fun cl ex s0 H0=>⟨zcw 0 nd1,zb9,ixT (pv 0)⟩))
   (zah (za5 3 ztu.nd zae) (zad (zc9 PassesOwn.never rfl (zbt (pv 1))
   (zjc rfl (za0 (zcw 4 ztu.nd) (za0 (zcw 5 ztu.nd) (za0 (zcw 6 ztu.nd) (za0 (zcw 7 ztu.nd) zfb)))))
   (zah (zbe (PW.pt (zhd (zge (zh6 (pcl G2 hr F2 (pa3 (pv 0) (pv 4) (pv 5))))) (zf1 (zj4 zh9 (pv 4) (pv 2) (by with_unfolding_all rfl))))) zd1 zap)
   (zah (zbe (PW.pt (zhd (zb8 zbd (pv 5) zae) (zf1 (zj4 zh9 (pv 5) (zcg ze7 (pv 2) zdh (zcy (pv 3))) (by with_unfolding_all rfl))))) zd1 zap)
   (zah (zbe (zge (zld zfy zfy zfy zae (pv 6) (pv 7) (zgx (v:=.int 60) rfl m1 ⟨_,rfl⟩))) zd1 zap)
   (zad (zpr (i:=3) ztu.nd rfl (Or.inl rfl) zae zqm)))))))),?_⟩
  refine ⟨_,rfl,a,rfl,⟨_,SqL.of R.1⟩,fun Da hDa=>?_⟩
  refine zdc (xs:=ps.map V.ref) (fun j σ' H'=>∃v,σ'=[v]/\H' Da=some (.lst (((rows.take j).map zz2).map V.int))/\za7 H H') ?_ ?_ ?_ ?_
  ·exact ⟨none,rfl,zaa,zab hDa⟩
  ·rintro j σ' H1 _ ⟨v,rfl,_,s1⟩
   exact SqL.of (s1 _ _ R.1)
  ·rintro j x σ' H1 hx ⟨v,rfl,e1,s1⟩
   obtain ⟨q,r,rfl,hq,hr',hqt⟩:=R.get hx
   obtain ⟨a',b',l,m,rfl,_⟩:=hok.f r (ZA1 hr')
   refine ⟨_,rfl,rdT (s1 _ _ hqt) rfl ⟨_,e1,?_,_,rfl,?_,fun b o e=>?_⟩⟩
   ·rw [ZAu,ZAu,ZBl]
    have:=hok.fl
    exact zao (by omega)
   ·rw [zaa,ZBu,hr',ZA9,ZA9]
    rfl
   ·rw [zai (zac e hDa)]
    exact s1 _ _ e
  ·rintro σ' H1 ⟨v,rfl,e1,s1⟩
   have hl:rows.take (ps.map V.ref).length=rows:=by
    rw [ZAu,R.len]
    exact ZBi
   rw [hl] at e1
   have R1:=R.same s1
   refine ⟨_,rfl,a,rfl,⟨_,SqL.of R1.1⟩,zcx (K:=K) (a:=a) (xs:=ps.map V.ref) (fun i σ' H'=>∃z v1 v2 v3 v4,z=(i:Int)/\σ'=[some (.int n),some (.ref a),some (.ref Da),some (.int z),v1,v2,v3,v4]/\za7 H1 H') ⟨0,none,none,none,none,rfl,rfl,za7.refl _⟩ ?_ ?_ ?_⟩
   ·rintro i σ' H' _ ⟨z,v1,v2,v3,v4,_,rfl,s2⟩
    exact SqL.of (s2 _ _ R1.1)
   ·rintro i x σ' H2 hx ⟨z,v1,v2,v3,v4,rfl,rfl,s2⟩
    have R2:=R1.same s2
    obtain ⟨q,r,rfl,hq,hr',hqt⟩:=R2.get hx
    have hmem:=ZA1 hr'
    obtain ⟨a',b',l,m,e4,h1,h2,h3,h4,h5,h6,h7,h8⟩:=hok.f r hmem
    subst e4
    have e2:=s2 _ _ e1
    refine ⟨q,_,rfl,SqT.of hqt,rfl,_,_,rfl,_,_,rfl,_,_,rfl,_,_,rfl,rfl,?_⟩
    refine ⟨_,rfl,_,rfl,_,rfl,n,a',b',rfl,_,rfl,zll ⟨h1,h2,by omega,h4,h5⟩ ?_⟩
    refine ⟨_,rfl,_,rfl,Da,_,rfl,.inl (SqL.of e2),rfl,zih,_,rfl,zdj ?_ ?_⟩
    ·show inV _ _=false
     rw [zkh]
     refine ZB9 fun z=>?_
     obtain ⟨r',hr2,e⟩:=ZBr.mp z
     obtain ⟨a2,b2,l2,m2,e5,_⟩:=hok.f r' hr2
     subst e5
     refine hok.own _ hmem _ hr2 ?_
     have e6:b2=a':=e
     show some a'=some b2
     rw [e6]
    ·refine ⟨_,rfl,rfl,_,rfl,zd6 (by intro z;have:=V.int.inj z;omega) ?_⟩
     refine ⟨_,rfl,_,rfl,_,rfl,_,rfl,Da,_,rfl,SqL.of e2,fun p hp=>⟨p,_,rfl,.inl (SqL.of zaa),rfl,?_,_,rfl,zdj ?_ ?_⟩⟩
     ·unfold zit
      rw [znu (by rw [ZAu,ZAu];exact ZBb (ZAv.mp hr').1),<-List.map_take]
      exact zih
     ·show inV _ _=false
      unfold zit
      rw [znu (by rw [ZAu,ZAu];exact ZBb (ZAv.mp hr').1),<-List.map_take,zkh]
      refine ZB9 fun z=>?_
      obtain ⟨j,hj⟩:=ZAm.mp z
      have hji:j<i:=by
       have:=(ZAv.mp hj).1
       rw [ZBl] at this
       omega
      rw [List.getElem?_take_of_lt hji,ZA0] at hj
      cases hr2:rows[j]? with
      | none=>rw [hr2] at hj;cases hj
      | some r'=>
       rw [hr2] at hj
       have e:zz2 r'=b':=ZA7 hj
       obtain ⟨a2,b2,l2,m2,e5,_⟩:=hok.f r' (ZA1 hr2)
       subst e5
       have e6:b2=b':=e
       have:=hok.one j i _ _ hr2 hr' (by show some b2=some b';rw [e6])
       omega
     ·refine ⟨_,rfl,_,_,rfl,rfl,_,rfl,zf9 h6 ⟨_,rfl,_,_,rfl,rfl,_,rfl,zf9 h7 ⟨_,_,rfl,rfl,_,rfl,zll h8 ?_⟩⟩⟩
      exact ⟨_,rfl,_,_,rfl,rfl,_,_,_,_,_,(by show (i:Int)+1=_;omega),rfl,s2.trans (zab hp)⟩
   ·rintro σ' H' ⟨z,v1,v2,v3,v4,_,rfl,s2⟩
    exact k _ (s1.trans s2)
theorem scI:zan ["self","many","last","ties","falls"] ["self","many","last","ties","falls"] (zag sC_Web_init):=scm
theorem ok_init {f C fS fT fF:Addr} {fd fdS fdT fdF:FuncData} (F:Fun K "__init__" "Web.__init__" sC_Web_init f fd) (T:TxtW mg) (TC:zrk K mg C)
 (FS:Fn K mg "look_over_size" sP_look_over_size ["many","last"] fS fdS) (GS:zbb P w K mg base CX0 1 fS fdS ["many","last"] zti)
 (FT:Fn K mg "look_over_ties" sP_look_over_ties ["many","ties"] fT fdT) (GT:zbb P w K mg base CX0 2 fT fdT ["many","ties"] zo9)
 (FF:Fn K mg "look_over_falls" sP_look_over_falls ["many","falls"] fF fdF) (GF:zbb P w K mg base CX0 2 fF fdF ["many","falls"] zm7):
 zbb P w K mg base CX0 3 f fd ["self","many","last","ties","falls"] (ztq C):=by
 refine F.ok scI (fun _ _ _ _ h=>?_) fun _ A _ s H _ Q E hr h=>?_
 ·obtain ⟨p,dx,n,la,a,b,_,_,rfl,_⟩:=h
  rfl
 ·obtain ⟨p,dx,n,la,a,b,rT,rF,rfl,hp,RT,RF,hok,k⟩:=h
  have hr1:zel 1 _:=hr.mono (by decide)
  refine ⟨_,zah (zbj (pcl GS hr1 FS (pa2 (pv 1) (pv 2))))
   (zah (zbj (pcl GT hr FT (pa2 (pv 1) (pv 3))))
   (zah (zbj (pcl GF hr FF (pa2 (pv 1) (pv 4))))
   (zah (zf2 (pv 0) (pv 1) rfl) (zah (zf2 (pv 0) (pv 2) rfl)
   (zah (zf2 (pv 0) (zcm zc3 (by rfl) T.list (by decide+kernel) (pa1 (pv 3))) rfl)
   (zad (zf2 (pv 0) (zcm zc3 (by rfl) T.list (by decide+kernel) (pa1 (pv 4))) rfl))))))),?_⟩
  refine ⟨_,rfl,_,rfl,n,la,rfl,hok.n1,hok.n2,hok.l1,hok.l2,?_⟩
  refine ⟨_,rfl,_,rfl,n,a,rT,rfl,RT,hok.t,?_⟩
  refine ⟨_,rfl,_,rfl,n,b,la,rT,rF,rfl,RF,hok,fun H1 s1=>?_⟩
  have hp1:=s1 _ _ hp
  have RT1:=RT.same s1
  have RF1:=RF.same s1
  obtain ⟨ps1,Q1⟩:=RT1
  obtain ⟨ps2,Q2⟩:=RF1
  refine ⟨_,rfl,_,rfl,p,C,dx,_,rfl,hp1,TC.cl,TC.nM,(by show 0<1000;decide),?_⟩
  refine ⟨_,rfl,_,rfl,p,C,dx,_,rfl,zaa,TC.cl,TC.nL,(by show 1<1000;decide),?_⟩
  rw [zl4]
  have kp:∀{o:HO},zcd p H1 (upd H1 p o):=fun {o} b u e ne=>by rw [zai ne];exact e
  have np:∀{x:Addr} {xs:List V},H1 x=some (.lst xs)->x≠p:=fun {x xs} e=>zba e hp1 nofun
  refine ⟨_,rfl,a,_,rfl,.inl (SqL.of (by rw [zai (np Q1.1)];exact Q1.1)),fun l1 hl1=>?_⟩
  have l1p:l1≠p:=ZAl (zac zaa hl1)
  have hl1':H1 l1=none:=by rw [zai l1p] at hl1;exact hl1
  refine ⟨_,rfl,p,C,dx,_,rfl,(by rw [zai (ZAl l1p),zaa]),TC.cl,TC.nT,Nat.lt_of_le_of_lt (zhn _ _ _) (by show 2<1000;decide),?_⟩
  generalize hH2:upd (upd (upd H1 p (.ins C dx (zbq "last" (.int la) (zbq "many" (.int n) [])))) l1 (.lst (ps1.map V.ref))) p (.ins C dx (zbq "told_ties" (.ref l1) (zbq "last" (.int la) (zbq "many" (.int n) []))))=H2
  have k2':zcd p H1 H2:=fun x o e ne=>by rw [<-hH2,zai ne,zai (zac e hl1'),zai ne];exact e
  have p2:H2 p=some (.ins C dx (zbq "told_ties" (.ref l1) (zbq "last" (.int la) (zbq "many" (.int n) [])))):=by rw [<-hH2,zaa]
  have l2:H2 l1=some (.lst (ps1.map V.ref)):=by rw [<-hH2,zai l1p,zaa]
  refine ⟨_,rfl,b,_,rfl,.inl (SqL.of (k2' _ _ Q2.1 (np Q2.1))),fun l3 hl3=>?_⟩
  have l3p:l3≠p:=ZAl (zac p2 hl3)
  have l31:l3≠l1:=ZAl (zac l2 hl3)
  have hl3':H1 l3=none:=by
   cases q:H1 l3 with
   | none=>rfl
   | some o=>rw [k2' _ _ q l3p] at hl3;cases hl3
  refine ⟨_,rfl,p,C,dx,_,rfl,(by rw [zai (ZAl l3p)];exact p2),TC.cl,TC.nF,Nat.lt_of_le_of_lt (zhn _ _ _) (Nat.lt_of_le_of_lt (Nat.succ_le_succ (zhn _ _ _)) (by show 3<1000;decide)),?_⟩
  generalize hH4:upd (upd H2 l3 (.lst (ps2.map V.ref))) p (.ins C dx (zbq "told_falls" (.ref l3) (zbq "told_ties" (.ref l1) (zbq "last" (.int la) (zbq "many" (.int n) [])))))=H4
  have k4':zcd p H1 H4:=fun x o e ne=>by rw [<-hH4,zai ne,zai (zac e hl3')];exact k2' _ _ e ne
  have tp:∀{x:Addr} {xs:List V},H1 x=some (.tup xs)->x≠p:=fun {x xs} e=>zba e hp1 nofun
  refine k H4 ⟨dx,l1,l3,by rw [<-hH4,zaa];rfl,⟨ps1,?_,zaj Q1.2 fun x r e=>k4' _ _ e (tp e)⟩,⟨ps2,?_,zaj Q2.2 fun x r e=>k4' _ _ e (tp e)⟩⟩ (fun x o e ne=>k4' _ _ (s1 _ _ e) ne)
  ·rw [<-hH4,zai l1p,zai (ZAl l31)];exact l2
  ·rw [<-hH4,zai l3p,zaa]
theorem zAo:zan ["self"] ["self"] (zag sC_Web_ties):=scm
theorem zAn:zan ["self"] ["self"] (zag sC_Web_falls):=scm
theorem ok_tiesM {f C:Addr} {fd:FuncData} (F:Fun K "ties" "Web.ties" sC_Web_ties f fd) (T:TxtW mg) (TC:zrk K mg C):zbb P w K mg base CX0 1 f fd ["self"] (zpc C fun T _=>T):=by
 refine F.ok zAo (fun _ _ _ _ h=>?_) fun _ A _ s H _ Q E hr h=>?_
 ·obtain ⟨p,_,_,_,_,rfl,_⟩:=h
  rfl
 ·obtain ⟨p,n,la,rT,rF,rfl,⟨dx,ta,fa,hp,⟨ps,R⟩,_⟩,k⟩:=h
  refine ⟨_,zad (zaq (zcm zc3 (by rfl) T.list (by decide+kernel) (pa1 (zcb (pv 0) rfl)))),?_⟩
  refine ⟨_,rfl,p,C,dx,_,_,rfl,hp,TC.cl,TC.nT,zv3 _ _ _ _,ta,_,rfl,.inl (SqL.of R.1),fun l hl=>?_⟩
  exact k l _ hl (zab hl) ⟨ps,zaa,(R.same (zab hl)).2⟩
theorem ok_fallsM {f C:Addr} {fd:FuncData} (F:Fun K "falls" "Web.falls" sC_Web_falls f fd) (T:TxtW mg) (TC:zrk K mg C):zbb P w K mg base CX0 1 f fd ["self"] (zpc C fun _ F=>F):=by
 refine F.ok zAn (fun _ _ _ _ h=>?_) fun _ A _ s H _ Q E hr h=>?_
 ·obtain ⟨p,_,_,_,_,rfl,_⟩:=h
  rfl
 ·obtain ⟨p,n,la,rT,rF,rfl,⟨dx,ta,fa,hp,_,⟨ps,R⟩⟩,k⟩:=h
  refine ⟨_,zad (zaq (zcm zc3 (by rfl) T.list (by decide+kernel) (pa1 (zcb (pv 0) rfl)))),?_⟩
  refine ⟨_,rfl,p,C,dx,_,_,rfl,hp,TC.cl,TC.nF,zuc _ _ _ _,fa,_,rfl,.inl (SqL.of R.1),fun l hl=>?_⟩
  exact k l _ hl (zab hl) ⟨ps,zaa,(R.same (zab hl)).2⟩
end Y0
namespace L2
open PySem PySem.Spec PyProof.Rows
theorem zas {α β:Type} {F:α->β->Prop} {l l':List α} {m m':List β} (h:Paired F l m) (h':Paired F l' m'):Paired F (l++l') (m++m'):=by
 induction h with
 | nil=>exact h'
 | cons r t ih=>exact .cons r ih
theorem zcj.cat {H:Hp} {a b p:Addr} {ps qs:List Addr} {r s:List (List Int)} (h1:zcj H a ps r) (h2:zcj H b qs s) (hp:H p=none):zcj (upd H p (.lst (ps.map V.ref++qs.map V.ref))) p (ps++qs) (r++s):=
 ⟨by rw [zaa,ZA9],zas (h1.same (zab hp)).2 (h2.same (zab hp)).2⟩
theorem zcj.more {H0 H:Hp} {l p:Addr} {ps:List Addr} {rows:List (List Int)} {r:List Int} (h:zcj H l ps rows) (s:za7 H0 H) (hl:H0 l=none) (hp:H p=none):
 zcj (upd (upd H p (.tup (r.map V.int))) l (.lst (ps.map V.ref++[.ref p]))) l (ps++[p]) (rows++[r])/\za7 H0 (upd (upd H p (.tup (r.map V.int))) l (.lst (ps.map V.ref++[.ref p])))/\upd H p (.tup (r.map V.int)) l=some (.lst (ps.map V.ref)):=by
 have R:=h.same (zab (o:=.tup (r.map V.int)) hp)
 refine ⟨R.push zaa,fun b o e=>?_,R.1⟩
 rw [zai (zac e hl),zai (zac (s _ _ e) hp)]
 exact s _ _ e
end L2
namespace Y0
open PySem L2
def zev (la:Int):Nat->List (List Int)
 | 0=>[]
 | k+1=>zev la k++[[0,(k:Int)+1,la],[(k:Int)+1,0,0]]
theorem zcu (la:Int):∀k,(zev la k).length=2*k
 | 0=>rfl
 | k+1=>by unfold zev;rw [ZA3,zcu la k];rfl
def zx8:List Int->List (List Int)
 | [a,b,l,m]=>[[a,b,m],[b,a,-l]]
 | _=>[]
def zeu (rows:List (List Int)):List (List Int):=(rows.map zx8).flatten
def zt7 (rows:List (List Int)):Prop:=∀r∈rows,∃a b l m:Int,r=[a,b,l,m]
theorem zcl:∀{rows:List (List Int)},zt7 rows->(zeu rows).length=2*rows.length
 | [],_=>rfl
 | r::t,h=>by
  obtain ⟨a,b,l,m,rfl⟩:=h _ ZA5
  have ih:=zcl (rows:=t) fun r hr=>h r (ZA4 _ hr)
  unfold zeu at ih ⊢
  rw [ZBf,List.flatten_cons,ZA3,ih,ZBp]
  show 2+2*t.length=2*(t.length+1)
  lia
theorem zc0.fourT {n la:Int} {T F:List (List Int)} (h:zc0 n la T F):zt7 T:=fun r hr=>by
 obtain ⟨a,b,l,m,e,_⟩:=h.t r hr
 exact ⟨a,b,l,m,e⟩
theorem zc0.fourF {n la:Int} {T F:List (List Int)} (h:zc0 n la T F):zt7 F:=fun r hr=>by
 obtain ⟨a,b,l,m,e,_⟩:=h.f r hr
 exact ⟨a,b,l,m,e⟩
def zek (n la:Int) (T F:List (List Int)):List (List Int):=zev la (n-1).toNat++zeu T++zeu F
structure zBu (mg:Str->Option Value):Prop where
 range:mg "range"=none
def ztk (C:Addr):Sp:=fun vs H Q _=>∃p n la T F,vs=[.ref p]/\ze1 C H p n la T F/\1<=n/\n<=8/\∀l H',H l=none->za7 H H'->zbk H' l (zev la (n-1).toNat)->Q (.ref l) H'
def ztg:Sp:=fun vs H Q _=>∃a rows,vs=[.ref a]/\zbk H a rows/\zt7 rows/\rows.length<=100/\∀l H',H l=none->za7 H H'->zbk H' l (zeu rows)->Q (.ref l) H'
def ztd (C:Addr):Sp:=fun vs H Q _=>∃p a n la T F T',vs=[.ref p,.ref a]/\ze1 C H p n la T F/\zc0 n la T F/\zbk H a T'/\zt7 T'/\T'.length<=100/\∀l H',H l=none->za7 H H'->zbk H' l (zek n la T' F)->Q (.ref l) H'
def zo5 (C:Addr):Sp:=fun vs H Q _=>∃p n la T F,vs=[.ref p]/\ze1 C H p n la T F/\zc0 n la T F/\∀l H',H l=none->za7 H H'->zbk H' l (zek n la T F)->Q (.ref l) H'
theorem zyb:zan ["web","bounds","moment"] ["web"] (zag sP_room_bounds):=scm
theorem ok_room {f C:Addr} {fd:FuncData} (F:Fn K mg "room_bounds" sP_room_bounds ["web"] f fd) (T:zBu mg) (TC:zrk K mg C):zbb P w K mg base CX0 1 f fd ["web"] (ztk C):=by
 refine F.F.ok zyb (fun _ _ _ _ h=>?_) fun _ A _ s H _ Q E hr h=>?_
 ·obtain ⟨p,_,_,_,_,rfl,_⟩:=h
  rfl
 ·obtain ⟨p,n,la,rT,rF,rfl,⟨dx,ta,fa,hp,_,_⟩,n1,n2,k⟩:=h
  refine ⟨_,zah (za5 1 zyb.nd (zcq zdq))
   (zah (zc9 PassesOwn.never rfl (zlf rfl T.range (pa2 zae (zcb (pv 0) rfl))) (zcw 2 zyb.nd)
    (zah (zbj (ziu ZAr ZAs ZAt zcn (pv 1) (pa1 (zaw (pa3 zae (pv 2) (zcb (pv 0) rfl))))))
    (zad (zbj (ziu ZAr ZAs ZAt zcn (pv 1) (pa1 (zaw (pa3 (pv 2) zae zae))))))))
   (zad (zaq (pv 1)))),?_⟩
  refine ⟨ZBa _,fun l hl=>?_⟩
  have s0:=zab (o:=.lst []) hl
  refine ⟨_,rfl,p,C,dx,_,_,rfl,s0 _ _ hp,TC.cl,TC.nM,zta _ _ _ _,1,n,rfl,⟨by decide,by decide,by lia,by lia⟩,?_⟩
  refine zd7 (n:=(n-1).toNat) (fun i σ' H'=>∃v ps,σ'=[some (.ref p),some (.ref l),v]/\zcj H' l ps (zev la i)/\za7 H H') ⟨none,[],rfl,⟨zaa,.nil⟩,s0⟩ ?_ ?_
  ·rintro i σ' H1 hi ⟨v,ps,rfl,R1,s1⟩
   have small:∀j:Nat,j<=20->j<sizeLine:=fun j hj=>zao (by lia)
   refine ⟨_,rfl,.inl ⟨rfl,_,SqL.of R1.1⟩,_,rfl,_,rfl,p,C,dx,_,_,rfl,s1 _ _ hp,TC.cl,TC.nL,zv4 _ _ _ _,szl rfl,fun p1 hp1=>?_⟩
   obtain ⟨R2,s2,e2⟩:=R1.more (r:=[0,1+(i:Int),la]) s1 hl hp1
   refine ⟨l,_,_,rfl,rfl,e2,?_,?_⟩
   ·rw [ZAu,R1.len,zcu];exact small _ (by lia)
   refine ⟨_,rfl,.inl ⟨rfl,_,SqL.of R2.1⟩,_,rfl,szl rfl,fun p2 hp2=>?_⟩
   obtain ⟨R3,s3,e3⟩:=R2.more (r:=[1+(i:Int),0,0]) s2 hl hp2
   refine ⟨l,_,_,rfl,rfl,e3,?_,?_⟩
   ·rw [ZAu,R2.len,ZA3,zcu];exact small _ (by simp;lia)
   refine ⟨_,ps++[p1]++[p2],rfl,?_,s3⟩
   have e:zev la (i+1)=zev la i++[[0,1+(i:Int),la]]++[[1+(i:Int),0,0]]:=by
    rw [List.append_assoc,Int.add_comm 1 (i:Int)]
    rfl
   rw [e]
   exact R3
  ·rintro σ' H1 ⟨v,ps,rfl,R1,s1⟩
   exact ⟨_,rfl,k l _ hl s1 ⟨ps,R1⟩⟩
abbrev nSb:List Str:=["spans","bounds","one","other","least","most"]
theorem zvx:zan nSb ["spans"] (zag sP_span_bounds):=scm
theorem ok_span {f:Addr} {fd:FuncData} (F:Fn K mg "span_bounds" sP_span_bounds ["spans"] f fd):zbb P w K mg base CX0 1 f fd ["spans"] ztg:=by
 refine F.F.ok zvx (fun _ _ _ _ h=>?_) fun _ A _ s H _ Q E hr h=>?_
 ·obtain ⟨a,_,rfl,_⟩:=h
  rfl
 ·obtain ⟨a,rows,rfl,⟨qs,R⟩,h4,hlen,k⟩:=h
  refine ⟨_,zah (za5 1 zvx.nd (zcq zdq))
   (zah (zc9 PassesOwn.never rfl (zbt (pv 0))
    (zjc rfl (za0 (zcw 2 zvx.nd) (za0 (zcw 3 zvx.nd) (za0 (zcw 4 zvx.nd) (za0 (zcw 5 zvx.nd) zfb)))))
    (zah (zbj (ziu ZAr ZAs ZAt zcn (pv 1) (pa1 (zaw (pa3 (pv 2) (pv 3) (pv 5))))))
    (zad (zbj (ziu ZAr ZAs ZAt zcn (pv 1) (pa1 (zaw (pa3 (pv 3) (pv 2) (zl9 zh0 (pv 4))))))))))
   (zad (zaq (pv 1)))),?_⟩
  refine ⟨ZBa _,fun l hl=>?_⟩
  have s0:=zab (o:=.lst []) hl
  refine ⟨_,rfl,a,rfl,⟨_,SqL.of (s0 _ _ R.1)⟩,zcx (K:=K) (a:=a) (xs:=qs.map V.ref) (fun i σ' H'=>∃v1 v2 v3 v4 ps,σ'=[some (.ref a),some (.ref l),v1,v2,v3,v4]/\zcj H' l ps (zeu (rows.take i))/\za7 H H') ⟨none,none,none,none,[],rfl,⟨zaa,.nil⟩,s0⟩ ?_ ?_ ?_⟩
  ·rintro i σ' H1 _ ⟨v1,v2,v3,v4,ps,rfl,R1,s1⟩
   exact SqL.of (s1 _ _ R.1)
  ·rintro i x σ' H1 hx ⟨v1,v2,v3,v4,ps,rfl,R1,s1⟩
   obtain ⟨q,r,rfl,hq,hr',hqt⟩:=R.get hx
   obtain ⟨a',b',le,mo,e4⟩:=h4 r (ZA1 hr')
   subst e4
   have hi:i<rows.length:=(ZAv.mp hr').1
   have h4':zt7 (rows.take i):=fun r hr=>h4 r (List.mem_of_mem_take hr)
   have hl1:(zeu (rows.take i)).length<=200:=by rw [zcl h4',ZBl];lia
   refine ⟨q,_,rfl,SqT.of (s1 _ _ hqt),rfl,_,_,rfl,_,_,rfl,_,_,rfl,_,_,rfl,rfl,?_⟩
   refine ⟨_,rfl,.inl ⟨rfl,_,SqL.of R1.1⟩,_,rfl,_,rfl,_,rfl,szl rfl,fun p1 hp1=>?_⟩
   obtain ⟨R2,s2,e2⟩:=R1.more (r:=[a',b',mo]) s1 hl hp1
   refine ⟨l,_,_,rfl,rfl,e2,?_,?_⟩
   ·rw [ZAu,R1.len];exact zao (by lia)
   refine ⟨_,rfl,.inl ⟨rfl,_,SqL.of R2.1⟩,_,rfl,_,rfl,_,rfl,_,rfl,szl rfl,fun p2 hp2=>?_⟩
   obtain ⟨R3,s3,e3⟩:=R2.more (r:=[b',a',-le]) s2 hl hp2
   refine ⟨l,_,_,rfl,rfl,e3,?_,?_⟩
   ·rw [ZAu,R2.len,ZA3];exact zao (by simp;lia)
   refine ⟨_,_,_,_,ps++[p1]++[p2],rfl,?_,s3⟩
   have e:zeu (rows.take (i+1))=zeu (rows.take i)++[[a',b',mo]]++[[b',a',-le]]:=by
    unfold zeu
    rw [ZBu,hr',ZA9,List.flatten_append,List.append_assoc]
    rfl
   rw [e]
   exact R3
  ·rintro σ' H1 ⟨v1,v2,v3,v4,ps,rfl,R1,s1⟩
   have hle:rows.take (qs.map V.ref).length=rows:=by
    rw [ZAu,R.len]
    exact ZBi
   rw [hle] at R1
   exact ⟨_,rfl,k l _ hl s1 ⟨ps,R1⟩⟩
theorem zAp:zan ["web","ties"] ["web","ties"] (zag sP_bounds_with):=scm
theorem ok_with {f C fR fS fM:Addr} {fd fdR fdS fdM:FuncData} (F:Fn K mg "bounds_with" sP_bounds_with ["web","ties"] f fd) (TC:zrk K mg C)
 (FR:Fn K mg "room_bounds" sP_room_bounds ["web"] fR fdR) (GR:zbb P w K mg base CX0 1 fR fdR ["web"] (ztk C))
 (FS:Fn K mg "span_bounds" sP_span_bounds ["spans"] fS fdS) (GS:zbb P w K mg base CX0 1 fS fdS ["spans"] ztg)
 (mF:zks K C "falls" fM) (bF:zdd K fdM ["self"] []) (GF:zbb P w K mg base CX0 1 fM fdM ["self"] (zpc C fun _ F=>F)):zbb P w K mg base CX0 2 f fd ["web","ties"] (ztd C):=by
 refine F.F.ok zAp (fun _ _ _ _ h=>?_) fun _ A _ s H _ Q E hr h=>?_
 ·obtain ⟨p,a,_,_,_,_,_,rfl,_⟩:=h
  rfl
 ·obtain ⟨p,a,n,la,rT,rF,T',rfl,W0,hok,RT,hT4,hTl,k⟩:=h
  refine ⟨_,zad (zaq (za2 zff (za2 zff (pcl GR hr FR (pa1 (pv 0))) (pcl GS hr FS (pa1 (pv 1))))
   (pcl GS hr FS (pa1 (zho (pv 0) TC.cl mF GF hr bF .nil zdp))))),?_⟩
  refine ⟨_,rfl,p,n,la,rT,rF,rfl,W0,hok.n1,hok.n2,fun l1 H1 hl1 s1 R1=>?_⟩
  refine ⟨_,rfl,a,T',rfl,RT.same s1,hT4,hTl,fun l2 H2 hl2 s2 R2=>?_⟩
  obtain ⟨ps1,R1'⟩:=R1.same s2
  obtain ⟨ps2,R2⟩:=R2
  have e1:=R1'.len
  have e2:=R2.len
  rw [zcu] at e1
  rw [zcl hT4] at e2
  have n2:=hok.n2
  refine ⟨l1,l2,_,_,rfl,rfl,R1'.1,R2.1,?_,fun l3 hl3=>?_⟩
  ·rw [ZAu,ZAu];exact ZBb (zao (by lia))
  have R3:=R1'.cat R2 hl3
  have s3:=zab (o:=.lst (ps1.map V.ref++ps2.map V.ref)) hl3
  have s13:=(s1.trans s2).trans s3
  obtain ⟨dx,ta,fa,hp,_,_⟩:=id (W0.same s13)
  refine ⟨_,rfl,p,dx,_,rfl,hp,zxx _ _ _ _ (by decide+kernel) (by decide+kernel) (by decide+kernel) (by decide+kernel),p,n,la,rT,rF,rfl,W0.same s13,fun l4 H4 hl4 s4 R4=>?_⟩
  refine ⟨l4,rF,rfl,R4,hok.fourF,by have:=hok.fl;lia,fun l5 H5 hl5 s5 R5=>?_⟩
  have R3':=(R3.same s4).same s5
  obtain ⟨ps5,R5⟩:=R5
  have e5:=R5.len
  rw [zcl hok.fourF] at e5
  have fl:=hok.fl
  refine ⟨l3,l5,_,_,rfl,rfl,R3'.1,R5.1,?_,fun l6 hl6=>?_⟩
  ·rw [ZAu,ZAu,ZA3];exact ZBb (zao (by lia))
  have s5':=(s13.trans s4).trans s5
  exact k l6 _ (s5'.free hl6) (s5'.trans (zab hl6)) ⟨_,R3'.cat R5 hl6⟩
theorem zAj:zan ["web"] ["web"] (zag sP_told_bounds):=scm
theorem ok_told {f C fB fM:Addr} {fd fdB fdM:FuncData} (F:Fn K mg "told_bounds" sP_told_bounds ["web"] f fd) (TC:zrk K mg C)
 (FB:Fn K mg "bounds_with" sP_bounds_with ["web","ties"] fB fdB) (GB:zbb P w K mg base CX0 2 fB fdB ["web","ties"] (ztd C))
 (mT:zks K C "ties" fM) (bT:zdd K fdM ["self"] []) (GT:zbb P w K mg base CX0 1 fM fdM ["self"] (zpc C fun T _=>T)):zbb P w K mg base CX0 3 f fd ["web"] (zo5 C):=by
 refine F.F.ok zAj (fun _ _ _ _ h=>?_) fun _ A _ s H _ Q E hr h=>?_
 ·obtain ⟨p,_,_,_,_,rfl,_⟩:=h
  rfl
 ·obtain ⟨p,n,la,rT,rF,rfl,W0,hok,k⟩:=h
  have hr1:zel 1 _:=hr.mono (by decide)
  refine ⟨_,zad (zaq (pcl GB hr FB (pa2 (pv 0) (zho (pv 0) TC.cl mT GT hr1 bT .nil zdp)))),?_⟩
  obtain ⟨dx,ta,fa,hp,_,_⟩:=id W0
  refine ⟨_,rfl,_,rfl,p,dx,_,rfl,hp,zxx _ _ _ _ (by decide+kernel) (by decide+kernel) (by decide+kernel) (by decide+kernel),p,n,la,rT,rF,rfl,W0,fun l1 H1 hl1 s1 R1=>?_⟩
  exact ⟨p,l1,n,la,rT,rF,rT,rfl,W0.same s1,hok,R1,hok.fourT,by have:=hok.tl;lia,fun l H' hl s' R=>k l H' (s1.free hl) (s1.trans s') R⟩
end Y0
namespace L2
open PySem PySem.Spec PyProof.Rows
section
variable {κ:Type} [DecidableEq κ]
def zfk (kvs:List (κ×V)) (k:κ):Option V:=(kvs.find? fun kv=>decide (kv.1=k)).map (·.2)
def ze9 (kvs:List (κ×V)) (k:κ) (v:V):List (κ×V):=
 if (kvs.any fun kv=>decide (kv.1=k))=true then kvs.map (fun kv=>if kv.1=k then (kv.1,v) else kv) else kvs++[(k,v)]
theorem zc7 {p:κ×V} {r:List (κ×V)} {k:κ} (e:p.1=k):zfk (p::r) k=some p.2:=by simp [zfk,List.find?_cons,e]
theorem zc8 {p:κ×V} {r:List (κ×V)} {k:κ} (e:¬p.1=k):zfk (p::r) k=zfk r k:=by simp [zfk,List.find?_cons,e]
theorem zet (k:κ):∀kvs:List (κ×V),(kvs.any fun kv=>decide (kv.1=k))=(zfk kvs k).isSome
 | []=>rfl
 | p::r=>by
  rw [List.any_cons]
  by_cases e:p.1=k
  ·simp only [zc7 e,ZB8 e,Bool.true_or,Option.isSome_some]
  ·rw [zc8 e,ZB9 e,Bool.false_or];exact zet k r
theorem zm1 (k j:κ) (y:V):∀kvs:List (κ×V),zfk (kvs.map fun kv=>if kv.1=k then (kv.1,y) else kv) j=(zfk kvs j).map fun x=>if j=k then y else x
 | []=>rfl
 | p::r=>by
  have ih:=zm1 k j y r
  rw [ZBf]
  by_cases h:p.1=k
  ·rw [if_pos h]
   by_cases e:p.1=j
   ·rw [zc7 (p:=(p.1,y)) e,zc7 e,Option.map_some,if_pos (e.symm.trans h)]
   ·rw [zc8 (p:=(p.1,y)) e,zc8 e,ih]
  ·rw [if_neg h]
   by_cases e:p.1=j
   ·rw [zc7 (p:=p) e,zc7 e,Option.map_some,if_neg (fun z=>h (e.trans z))]
   ·rw [zc8 (p:=p) e,zc8 e,ih]
theorem zk0 (k j:κ) (y:V):∀kvs:List (κ×V),zfk kvs k=none->zfk (kvs++[(k,y)]) j=if j=k then some y else zfk kvs j
 | [],_=>by
  by_cases e:k=j
  ·rw [if_pos e.symm];exact zc7 (p:=(k,y)) e
  ·rw [if_neg (fun z=>e z.symm)];exact zc8 (p:=(k,y)) e
 | p::r,hn=>by
  rw [List.cons_append]
  have hk:¬p.1=k:=fun z=>by rw [zc7 z] at hn;cases hn
  rw [zc8 hk] at hn
  have ih:=zk0 k j y r hn
  by_cases e:p.1=j
  ·rw [zc7 e,zc7 e,if_neg (fun z=>hk (e.trans z))]
  ·rw [zc8 e,zc8 e,ih]
theorem zgb (kvs:List (κ×V)) (k j:κ) (y:V):zfk (ze9 kvs k y) j=if j=k then some y else zfk kvs j:=by
 unfold ze9
 by_cases a:(kvs.any fun kv=>decide (kv.1=k))=true
 ·rw [if_pos a,zm1]
  rw [zet] at a
  by_cases e:j=k
  ·obtain ⟨x,hx⟩:=Option.isSome_iff_exists.mp a
   rw [if_pos e,e,hx,Option.map_some,if_pos rfl]
  ·rw [if_neg e]
   cases zfk kvs j with
   | none=>rfl
   | some x=>rw [Option.map_some,if_neg e]
 ·rw [if_neg a]
  refine zk0 k j y kvs ?_
  rw [zet] at a
  cases q:zfk kvs k with
  | none=>rfl
  | some x=>rw [q] at a;exact (a rfl).elim
theorem zdi (kvs:List (κ×V)) (k:κ) (v:V):(ze9 kvs k v).length<=kvs.length+1:=by
 unfold ze9
 split
 ·rw [ZAu];omega
 ·rw [ZA3,ZBp,ZB4];omega
theorem zkt.isSome_eq {o:Option V} {u:Option Value} (r:zkt o u):o.isSome=u.isSome:=by
 cases o with
 | none=>cases u with
  | none=>rfl
  | some _=>exact (show False from r).elim
 | some _=>cases u with
  | none=>exact (show False from r).elim
  | some _=>rfl
theorem zkt.getD {o:Option V} {u:Option Value} {d:V} {d':Value} (r:zkt o u) (rd:zck d d'):zck (o.getD d) (u.getD d'):=by
 cases o with
 | none=>cases u with
  | none=>exact rd
  | some _=>exact (show False from r).elim
 | some _=>cases u with
  | none=>exact (show False from r).elim
  | some _=>exact r
theorem KV.val {kvs:List (κ×V)} {vs:List (κ×Value)} (r:KV kvs vs) (k:κ):zkt (zfk kvs k) (valueAt vs k):=by
 unfold KV at r
 induction r with
 | nil=>exact True.intro
 | @cons p q ps qs h t ih=>
  obtain ⟨h1,h2⟩:=h
  by_cases e:p.1=k
  ·have e':q.1=k:=h1.symm.trans e
   have b:valueAt (q::qs) k=some q.2:=by simp [valueAt,List.find?_cons,e']
   rw [zc7 e,b];exact h2
  ·have e':¬q.1=k:=fun z=>e (h1.trans z)
   have b:valueAt (q::qs) k=valueAt qs k:=by simp [valueAt,List.find?_cons,e']
   rw [zc8 e,b];exact ih
theorem KV.any {kvs:List (κ×V)} {vs:List (κ×Value)} (r:KV kvs vs) (k:κ):(kvs.any fun kv=>decide (kv.1=k))=vs.any fun kv=>decide (kv.1=k):=by
 unfold KV at r
 induction r with
 | nil=>rfl
 | cons h t ih=>rw [List.any_cons,List.any_cons,ih,h.1]
theorem KV.repl {kvs:List (κ×V)} {vs:List (κ×Value)} (r:KV kvs vs) (k:κ) {y:V} {u:Value} (ry:zck y u):
 KV (kvs.map fun kv=>if kv.1=k then (kv.1,y) else kv) (vs.map fun kv=>if kv.1=k then (kv.1,u) else kv):=by
 unfold KV at r ⊢
 induction r with
 | nil=>exact .nil
 | @cons p q ps qs h t ih=>
  rw [ZBf,ZBf]
  refine .cons ?_ ih
  obtain ⟨h1,h2⟩:=h
  by_cases e:p.1=k
  ·rw [if_pos e,if_pos (h1.symm.trans e)];exact ⟨h1,ry⟩
  ·rw [if_neg e,if_neg (fun z=>e (h1.trans z))];exact ⟨h1,h2⟩
theorem KV.put {kvs:List (κ×V)} {vs:List (κ×Value)} (r:KV kvs vs) (k:κ) {y:V} {u:Value} (ry:zck y u):KV (ze9 kvs k y) (stored vs k u):=by
 unfold ze9 stored
 rw [r.any k]
 by_cases e:(vs.any fun kv=>decide (kv.1=k))=true
 ·rw [if_pos e,if_pos e];exact r.repl k ry
 ·rw [if_neg e,if_neg e];exact Paired.snoc r ⟨rfl,ry⟩
theorem KV.length {kvs:List (κ×V)} {vs:List (κ×Value)} (r:KV kvs vs):kvs.length=vs.length:=Paired.length r
end
theorem zmi {P:Program} {w:World} {k:Key} {u:Value} (r:zck (kV k) u):(zco P w).is k u=true:=by
 cases k with
 | inl i=>obtain ⟨t,e⟩:=(show ∃t,u=Value.int i t from r);subst e;exact zmd P w i t
 | inr x=>obtain ⟨t,e⟩:=(show ∃t,u=Value.str x t from r);subst e;exact zmc P w x t
theorem zlk {P:Program} {w:World}:∀{ks:List Key} {us:List Value},zb3 (ks.map kV) us->ItemsAre (zco P w) ks us
 | [],_,r=>by rw [List.map_nil] at r;cases r;exact .nil
 | k::ks,_,r=>by
  rw [ZBf] at r
  cases r with
  | cons h t=>exact .cons (zmi h) (zlk t)
abbrev KT (H:Hp):List (List Key×V)->List (List Key×Addr×Value)->Prop:=Paired fun p q=>p.1=q.1/\H q.2.1=some (.tup (p.1.map kV))/\zck p.2 q.2.2
theorem KT.val {H:Hp} {kvs:List (List Key×V)} {xs:List (List Key×Addr×Value)} (r:KT H kvs xs) (k:List Key):zkt (zfk kvs k) ((atKey xs k).map (·.2)):=by
 induction r with
 | nil=>exact True.intro
 | @cons p q ps qs h t ih=>
  obtain ⟨h1,_,h2⟩:=h
  by_cases e:p.1=k
  ·have e':q.1=k:=h1.symm.trans e
   have b:atKey (q::qs) k=some q.2:=by simp [atKey,List.find?_cons,e']
   rw [zc7 e,b];exact h2
  ·have e':¬q.1=k:=fun z=>e (h1.trans z)
   have b:atKey (q::qs) k=atKey qs k:=by simp [atKey,List.find?_cons,e']
   rw [zc8 e,b];exact ih
theorem KT.repl {H:Hp} {kvs:List (List Key×V)} {xs:List (List Key×Addr×Value)} (r:KT H kvs xs) (k:List Key) {y:V} {u:Value} (ry:zck y u):
 KT H (kvs.map fun kv=>if kv.1=k then (kv.1,y) else kv) (xs.map (putAt k u)):=by
 induction r with
 | nil=>exact .nil
 | @cons p q ps qs h t ih=>
  rw [ZBf,ZBf]
  refine .cons ?_ ih
  obtain ⟨h1,h2,h3⟩:=h
  unfold putAt
  by_cases e:p.1=k
  ·rw [if_pos e,if_pos (h1.symm.trans e)];exact ⟨h1,h2,ry⟩
  ·rw [if_neg e,if_neg (fun z=>e (h1.trans z))];exact ⟨h1,h2,h3⟩
theorem KT.put {H:Hp} {kvs:List (List Key×V)} {xs:List (List Key×Addr×Value)} (r:KT H kvs xs) (k:List Key) {b:Addr} {y:V} {u:Value} (hb:H b=some (.tup (k.map kV))) (ry:zck y u):
 KT H (ze9 kvs k y) (storedH xs k b u):=by
 have e:(kvs.any fun kv=>decide (kv.1=k))=(atKey xs k).isSome:=by
  rw [zet,(r.val k).isSome_eq,Option.isSome_map]
 unfold ze9 storedH
 rw [e]
 by_cases q:(atKey xs k).isSome=true
 ·rw [if_pos q,if_pos q];exact r.repl k ry
 ·rw [if_neg q,if_neg q];exact Paired.snoc r ⟨rfl,hb,ry⟩
theorem KT.keeps {H H':Hp} {kvs:List (List Key×V)} {xs:List (List Key×Addr×Value)} (r:KT H kvs xs) (ht:∀b ys,H b=some (.tup ys)->H' b=some (.tup ys)):KT H' kvs xs:=
 Paired.mapP r fun _ _ z=>⟨z.1,ht _ _ z.2.1,z.2.2⟩
section
variable {P:Program} {w:World} {H:Hp} {h:Heap} {a:Addr}
theorem zwo {u:HO} (ok:HOk P w H h) (e:Rd H a u):zce P w H h a u:=e.ok ok
theorem zmn {kvs:List (Key×V)} (ok:HOk P w H h) (e:Rd H a (.dK kvs)):kvs.length<=sizeLine/\(a==sysModules)=false/\∃vs,KV kvs vs/\h.DictOf (zco P w) a vs:=
 show zce P w H h a (.dK kvs) from zwo ok e
theorem zxb {kvs:List (Key×V)} (ok:HOk P w H h) (e:H a=some (.dK kvs)):kvs.length<=sizeLine/\(a==sysModules)=false/\∃vs,KV kvs vs/\h.DictOf (zco P w) a vs:=zmn ok (.inl e)
theorem zjh {ks:List Key} (ok:HOk P w H h) (e:H a=some (.tup (ks.map kV))):(tupleKind (zco P w)).is h ks a:=by
 obtain ⟨_,its,r,o,h1,h2,n,h3⟩:=(show zce P w H h a (.tup (ks.map kV)) from ok a _ e)
 exact ⟨o,its.toArray,n,h1,h2,h3,by simpa using zlk r⟩
theorem zmm {kvs:List (List Key×V)} (ok:HOk P w H h) (e:Rd H a (.dT kvs)):kvs.length<=sizeLine/\(a==sysModules)=false/\
 ∃xs,KT H kvs xs/\h.DictOfH (tupleKind (zco P w)) a xs:=by
 obtain ⟨z,y,xs,r,o,es,ep,h1,h2,h3,h4,h5⟩:=(show zce P w H h a (.dT kvs) from zwo ok e)
 refine ⟨z,y,xs,r,o,es,ep,h1,h2,h3,h4,fun x hx=>?_,h5⟩
 have all:∀{l:List (List Key×V)} {m:List (List Key×Addr×Value)},KT H l m->∀x∈m,(tupleKind (zco P w)).is h x.1 x.2.1:=by
  intro l m q
  induction q with
  | nil=>intro x hx;exact nomatch hx
  | @cons p q ps qs hq t ih=>
   intro x hx
   rcases ZBe.mp hx with e | hx
   ·subst e
    exact zjh ok (by rw [<-hq.1];exact hq.2.1)
   ·exact ih x hx
 exact all r x hx
theorem zy3 {kvs:List (List Key×V)} (ok:HOk P w H h) (e:H a=some (.dT kvs)):kvs.length<=sizeLine/\(a==sysModules)=false/\
 ∃xs,KT H kvs xs/\h.DictOfH (tupleKind (zco P w)) a xs:=zmm ok (.inl e)
end
def ze5 (H:Hp) (a:Addr) (y:V) (r:Option V):Prop:=
 (∃kvs k,Rd H a (.dK kvs)/\y=kV k/\r=zfk kvs k)\/∃kvs k b,Rd H a (.dT kvs)/\y=.ref b/\H b=some (.tup (k.map kV))/\r=zfk kvs k
def zrm (H:Hp) (a:Addr) (y v:V) (H':Hp):Prop:=
 (∃kvs k,H a=some (.dK kvs)/\y=kV k/\kvs.length<sizeLine/\H'=upd H a (.dK (ze9 kvs k v)))\/
 ∃kvs k b,H a=some (.dT kvs)/\y=.ref b/\H b=some (.tup (k.map kV))/\kvs.length<sizeLine/\H'=upd H a (.dT (ze9 kvs k v))
theorem ze5.k {H:Hp} {a:Addr} {kvs:List (Key×V)} {k:Key} (e:H a=some (.dK kvs)):ze5 H a (kV k) (zfk kvs k):=.inl ⟨kvs,k,.inl e,rfl,rfl⟩
theorem ze5.t {H:Hp} {a b:Addr} {kvs:List (List Key×V)} {k:List Key} (e:H a=some (.dT kvs)) (eb:H b=some (.tup (k.map kV))):ze5 H a (.ref b) (zfk kvs k):=.inr ⟨kvs,k,b,.inl e,rfl,eb,rfl⟩
theorem zrm.k {H:Hp} {a:Addr} {kvs:List (Key×V)} {k:Key} {v:V} (e:H a=some (.dK kvs)) (hl:kvs.length<sizeLine):zrm H a (kV k) v (upd H a (.dK (ze9 kvs k v))):=.inl ⟨kvs,k,e,rfl,hl,rfl⟩
theorem zrm.t {H:Hp} {a b:Addr} {kvs:List (List Key×V)} {k:List Key} {v:V} (e:H a=some (.dT kvs)) (eb:H b=some (.tup (k.map kV))) (hl:kvs.length<sizeLine):
 zrm H a (.ref b) v (upd H a (.dT (ze9 kvs k v))):=.inr ⟨kvs,k,b,e,rfl,eb,hl,rfl⟩
section
variable {X:Cx} {pins:List (Addr×Obj)} {σ:St} {H:Hp} {s:Shared} {a:Addr} {y v:V} {u r:Value} {o:Option V} {A:Around} {E:Value->Shared->Prop}
theorem Inv.big (I:Inv X pins σ H s):sysModules<s.heap.objs.size:=by
 have h:mainGlobals<s.heap.objs.size:=(I.mod.glob.keeps I.bk).lt
 exact Nat.lt_trans (by decide) h
theorem zq0 {Q:Value->Shared->Prop} (hu:A.units+1<cLine) (I:Inv X pins σ H s) (g:ze5 H a y (some v)) (ry:zck y u) (h:∀w' s',Inv X pins σ H s'->zck v w'->Q w' s'):
 wpAny (model X.prog X.w) A (getItem (.ref a) u) Q E s:=by
 rcases g with ⟨kvs,k,e,ey,l⟩ | ⟨kvs,k,b,e,ey,eb,l⟩
 ·subst ey
  obtain ⟨z,hd,vs,rel,dd⟩:=zmn I.hok e
  obtain ⟨w',hw,rw'⟩:=zkt.some_of (v:=v) (o:=valueAt vs k) (by rw [l];exact rel.val k)
  exact wpAny_getItem_of (zmi ry) dd.mapOf hw (h w' _ (I.tok _) rw')
 ·subst ey
  cases (show u=Value.ref b from ry)
  obtain ⟨z,hd,xs,rel,dd⟩:=zmm I.hok e
  obtain ⟨w',hw,rw'⟩:=zkt.some_of (v:=v) (o:=(atKey xs k).map (·.2)) (by rw [l];exact rel.val k)
  obtain ⟨p,hp,hp2⟩:=Option.map_eq_some_iff.mp hw
  refine wpAny_getItem_heap (tupleKind_room_in1 hu) (zjh I.hok eb) dd hp ?_
  rw [hp2]
  exact h w' _ (I.tok _) rw'
theorem zBi {Q:Value->Shared->Prop} (hu:A.units+1<cLine) (I:Inv X pins σ H s) (g:ze5 H a y o) (ry:zck y u) (h:∀s',Inv X pins σ H s'->Q (.bool o.isSome) s'):
 wpAny (model X.prog X.w) A (compareOp .In u (.ref a)) Q E s:=by
 rcases g with ⟨kvs,k,e,ey,l⟩ | ⟨kvs,k,b,e,ey,eb,l⟩
 ·subst ey
  obtain ⟨z,hd,vs,rel,dd⟩:=zmn I.hok e
  refine wpAny_in_of (zmi ry) hd dd.mapOf ?_
  rw [<-(rel.val k).isSome_eq,<-l]
  exact h _ (I.tok _)
 ·subst ey
  cases (show u=Value.ref b from ry)
  obtain ⟨z,hd,xs,rel,dd⟩:=zmm I.hok e
  refine wpAny_in_heap (tupleKind_room_in1 hu) (zjh I.hok eb) hd dd ?_
  have q:=(rel.val k).isSome_eq
  rw [Option.isSome_map] at q
  rw [<-q,<-l]
  exact h _ (I.tok _)
theorem zvi {Q:Value->Shared->Prop} (hu:A.units+1<cLine) (I:Inv X pins σ H s) (g:ze5 H a y o) (ry:zck y u) (h:∀s',Inv X pins σ H s'->Q (.bool (!o.isSome)) s'):
 wpAny (model X.prog X.w) A (compareOp .NotIn u (.ref a)) Q E s:=by
 rcases g with ⟨kvs,k,e,ey,l⟩ | ⟨kvs,k,b,e,ey,eb,l⟩
 ·subst ey
  obtain ⟨z,hd,vs,rel,dd⟩:=zmn I.hok e
  refine wpAny_notIn_of (zmi ry) hd dd.mapOf ?_
  rw [<-(rel.val k).isSome_eq,<-l]
  exact h _ (I.tok _)
 ·subst ey
  cases (show u=Value.ref b from ry)
  obtain ⟨z,hd,xs,rel,dd⟩:=zmm I.hok e
  refine wpAny_notIn_heap (tupleKind_room_in1 hu) (zjh I.hok eb) hd dd ?_
  have q:=(rel.val k).isSome_eq
  rw [Option.isSome_map] at q
  rw [<-q,<-l]
  exact h _ (I.tok _)
theorem zmq {h':Heap} {t':Nat} {ob:HO} (I:Inv X pins σ H s) (mu:Mut (H a)) (hs:Heap.SameBut a s.heap h') (he:∃q,h'.get? a=some q) (new:zce X.prog X.w (upd H a ob) h' a ob):
 Inv X pins σ (upd H a ob) { s with heap:=h',toks:=t' }:=
 I.write (x:=a) (e:=a) mu (.inl rfl) (fun b q hb z=>(hs.2 b hb).trans z) he new
theorem zt2 {P:Program} {w:World} {H':Hp} {h':Heap} {kvs:List (Key×V)} {vs:List (Key×Value)} (z:kvs.length<=sizeLine) (hd:(a==sysModules)=false) (rel:KV kvs vs) (dd:h'.DictOf (zco P w) a vs):
 zce P w H' h' a (.dK kvs):=⟨z,hd,vs,rel,dd⟩
theorem zqz {H':Hp} {Q:Unit->Shared->Prop} (hu:A.units+1<cLine) (I:Inv X pins σ H s) (g:zrm H a y v H') (ry:zck y u) (rv:zck v r) (h:∀s',Inv X pins σ H' s'->Q () s'):
 wpAny (model X.prog X.w) A (setItem (.ref a) u r) Q E s:=by
 rcases g with ⟨kvs,k,e,ey,l,eH⟩ | ⟨kvs,k,b,e,ey,eb,l,eH⟩
 ·subst ey eH
  obtain ⟨z,hd,vs,rel,dd⟩:=zxb I.hok e
  have hz:vs.length<=sizeLine:=by rw [<-rel.length];exact z
  have hl:(ze9 kvs k v).length<=sizeLine:=by have:=zdi kvs k v;omega
  refine wpAny_setItem_pairs (hsz:=hz) (zmi ry) dd fun h' dd' hs=>h _ ?_
  have he:∃q,h'.get? a=some q:=let ⟨q,_,_,hq,_⟩:=dd';⟨q,hq⟩
  exact zmq I (by rw [e];exact True.intro) hs he (zt2 hl hd (rel.put k rv) dd')
 ·subst ey eH
  cases (show u=Value.ref b from ry)
  obtain ⟨z,hd,xs,rel,dd⟩:=zy3 I.hok e
  have hz:xs.length<=sizeLine:=by rw [<-Paired.length rel];exact z
  have hl:(ze9 kvs k v).length<=sizeLine:=by have:=zdi kvs k v;omega
  refine wpAny_setItem_heap (hsz:=hz) (tupleKind_room_in1 hu) (zjh I.hok eb) dd fun h' dd' hs=>h _ ?_
  obtain ⟨q,es,ep,hq,h2,h3,h4,_,h5⟩:=dd'
  refine zmq I (by rw [e];exact True.intro) hs ⟨q,hq⟩ ⟨hl,hd,_,(rel.put k eb rv).keeps fun c ys ec=>?_,q,es,ep,hq,h2,h3,h4,h5⟩
  rw [zai (zba ec e nofun)]
  exact ec
end
section
variable {X:Cx} {pins:List (Addr×Obj)} {σ:St} {H:Hp} {s:Shared} {a:Addr} {kvs:List (Key×V)} {k:Key} {u:Value} {A:Around} {E:Value->Shared->Prop}
end
def zz6 (i:Expr):Prop:=∀ov iv,subscripted i false ov iv=operate [ov,iv] (getItem ov iv)
theorem zup {prog:Program} {w:World} {A:Around} {E:Value->Shared->Prop} {s:Shared} {env:Env} {value slice:Expr} {pos:Pos} {T id:String} {Q:Value->Shared->Prop}
 (hl:typeLookup (.type T) "__getitem__"=pure (some (.builtin id))) (hs:zz6 slice)
 (h:wpAny (model prog w) A (eval value env) (fun o s₁=>wpAny (model prog w) A (eval slice env) (fun i s₂=>s₂.TypeIs o T/\wpAny (model prog w) A (getItem o i) Q E s₂) E s₁) E s):
 wpAny (model prog w) A (eval (.Subscript value slice pos) env) Q E s:=by
 refine Subscript_ (wpAny_mono h (fun o s₁ h₁=>wpAny_mono h₁ (fun i s₂ h₂=>?_) fun _ _ x=>x) fun _ _ x=>x)
 obtain ⟨hT,h₂⟩:=h₂
 unfold subscriptTail
 refine ZAp ?_
 rw [getitemInPython_of_ne hT.not_modules]
 refine ZAp (wpAny_specialOf hT hl ?_)
 have fin:wpAny (model prog w) A (subscripted slice false o i) (fun r s₃=>wpAny (model prog w) A (letTemporaryGo value o r>>=fun _=>pure r) Q E s₃) E s₂:=by
  rw [hs o i]
  exact wpAny_operating (wpAny_mono h₂ (fun r s₃ h₃=>ZAp (wpAny_letTemporaryGo (ZAq h₃))) fun _ _ x=>x)
 first
  | exact ZAq (ZAp fin)
  | exact ZAp (ZAq (ZAp fin))
  | exact ZAp fin
theorem zmo {X:Cx} {pins:List (Addr×Obj)} {σ:St} {H:Hp} {s:Shared} {a:Addr} {y:V} {o:Option V} (I:Inv X pins σ H s) (g:ze5 H a y o):s.TypeIs (.ref a) "dict":=by
 rcases g with ⟨kvs,k,e,_,_⟩ | ⟨kvs,k,b,e,_,_,_⟩
 ·obtain ⟨_,_,vs,_,dd⟩:=zmn I.hok e
  exact dd.typeIs
 ·obtain ⟨_,_,xs,_,dd⟩:=zmm I.hok e
  exact dd.typeIs
def zx6 (td ty:TE):TE:=fun σ H Q=>td σ H fun x H1=>ty σ H1 fun y H2=>∃a v,x=.ref a/\ze5 H2 a y (some v)/\Q v H2
def zAc (ty td:TE):TE:=fun σ H Q=>ty σ H fun y H1=>td σ H1 fun x H2=>∃a o,x=.ref a/\ze5 H2 a y o/\Q (.bl o.isSome) H2
def zum (ty td:TE):TE:=fun σ H Q=>ty σ H fun y H1=>td σ H1 fun x H2=>∃a o,x=.ref a/\ze5 H2 a y o/\Q (.bl (!o.isSome)) H2
def zye (td ty tv:TE):TS:=fun D σ H=>tv σ H fun v H1=>td σ H1 fun x H2=>ty σ H2 fun y H3=>∃a H4,x=.ref a/\zrm H3 a y v H4/\D.nx σ H4
section
variable {X:Cx} {o i e value:Expr} {pos pos' tpos:Pos} {td ty tv:TE}
theorem zda (hu:X.A.units+1<cLine) (ho:PE X o td) (hi:PE X i ty) (hs:zz6 i):PE X (.Subscript o i pos) (zx6 td ty):=by
 intro pins s σ H Q I h
 refine zup PySem.F.slot_dict_getitem.lookup hs (thn (ho pins s σ H _ I h) fun u s1 zz=>L2.el5 zz fun x H1 I1 rx q1=>thn (hi pins s1 σ H1 _ I1 q1) fun iv s2 zz=>?_)
 obtain ⟨y,H2,I2,ry,a,v,ex,g,q2⟩:=zz
 subst ex
 obtain rfl:u=Value.ref a:=rx
 exact ⟨zmo I2 g,zq0 hu I2 g ry fun w' s3 I3 rw'=>⟨v,H2,I3,rw',q2⟩⟩
theorem zp1 (hu:X.A.units+1<cLine) (hi:PE X i ty) (ho:PE X o td):PC X .In i o (zAc ty td):=by
 intro pins s σ H Q I h
 refine thn (hi pins s σ H _ I h) fun iv s1 zz=>L2.el5 zz fun y H1 I1 ry q1=>thn (ho pins s1 σ H1 _ I1 q1) fun u s2 zz=>?_
 obtain ⟨x,H2,I2,rx,a,ov,ex,g,q2⟩:=zz
 subst ex
 obtain rfl:u=Value.ref a:=rx
 exact zBi hu I2 g ry fun s3 I3=>⟨.bl ov.isSome,H2,I3,rfl,q2⟩
theorem zgf (hu:X.A.units+1<cLine) (hi:PE X i ty) (ho:PE X o td):PC X .NotIn i o (zum ty td):=by
 intro pins s σ H Q I h
 refine thn (hi pins s σ H _ I h) fun iv s1 zz=>L2.el5 zz fun y H1 I1 ry q1=>thn (ho pins s1 σ H1 _ I1 q1) fun u s2 zz=>?_
 obtain ⟨x,H2,I2,rx,a,ov,ex,g,q2⟩:=zz
 subst ex
 obtain rfl:u=Value.ref a:=rx
 exact zvi hu I2 g ry fun s3 I3=>⟨.bl (!ov.isSome),H2,I3,rfl,q2⟩
theorem zj6 (hu:X.A.units+1<cLine) (ho:PE X o td) (hi:PE X i ty) (hv:PE X value tv) (hs:swapsWith value (some (.Subscript o i pos')) pos.line X.env=pure false):
 PS X (.Assign [.Subscript o i pos'] value pos) (zye td ty tv):=by
 intro pins s σ H D I h
 refine wpAny_Assign_Subscript (thn (hv pins s σ H _ I h) fun r s1 zz=>L2.el5 zz fun v H1 I1 rv q1=>thn (ho pins s1 σ H1 _ I1 q1) fun u s2 zz=>L2.el5 zz fun x H2 I2 rx q2=>thn (hi pins s2 σ H2 _ I2 q2) fun iv s3 zz=>?_) hs
 obtain ⟨y,H3,I3,ry,a,H4,ex,g,q3⟩:=zz
 subst ex
 obtain rfl:u=Value.ref a:=rx
 exact zqz hu I3 g ry rv fun s4 I4=>⟨σ,H4,I4,q3⟩
end
theorem znt {P:Program} {w:World} {H:Hp} (h:Heap) (hb:sysModules<h.objs.size):zce P w H (h.push { cls:=.type "dict",data:=.dict #[] }) h.objs.size (.dK []):=
 ⟨ZBa _,beq_eq_false_iff_ne.mpr (ZAl (ZBj hb)),[],.nil,Heap.DictOf.new h⟩
theorem zsz {P:Program} {w:World} {H:Hp} (h:Heap) (hb:sysModules<h.objs.size):zce P w H (h.push { cls:=.type "dict",data:=.dict #[] }) h.objs.size (.dT []):=
 ⟨ZBa _,beq_eq_false_iff_ne.mpr (ZAl (ZBj hb)),[],.nil,_,#[],0,ZBh _ rfl,⟨rfl,rfl,rfl⟩,rfl,rfl,List.nodup_nil⟩
def zv9:TE:=fun _ H Q=>∀p,H p=none->Q (.ref p) (upd H p (.dK []))
def zv8:TE:=fun _ H Q=>∀p,H p=none->Q (.ref p) (upd H p (.dT []))
section
variable {X:Cx} {pos:Pos}
theorem znf:PE X (.Dict [] [] pos) zv9:=fun pins s σ H Q I h=>
 wpAny_Dict_empty ⟨.ref s.heap.objs.size,_,I.laid (a:=s.heap.objs.size) (o:=.dK []) (t':=s.toks) (fun _ _ q=>ZAy _ q) (ZAw _) (znt s.heap I.big),rfl,h _ (I.hok.fresh (ZAw _))⟩
theorem zsc:PE X (.Dict [] [] pos) zv8:=fun pins s σ H Q I h=>
 wpAny_Dict_empty ⟨.ref s.heap.objs.size,_,I.laid (a:=s.heap.objs.size) (o:=.dT []) (t':=s.toks) (fun _ _ q=>ZAy _ q) (ZAw _) (zsz s.heap I.big),rfl,h _ (I.hok.fresh (ZAw _))⟩
end
def zo3:List (TE×TE)->St->Hp->(List (V×V)->Hp->Prop)->Prop
 | [],_,H,Q=>Q [] H
 | (tk,tv)::r,σ,H,Q=>tk σ H fun x H1=>tv σ H1 fun y H2=>zo3 r σ H2 fun ps H3=>Q ((x,y)::ps) H3
abbrev VV:List (V×V)->List (Value×Value)->Prop:=Paired fun p q=>zck p.1 q.1/\zck p.2 q.2
def PPs (X:Cx) (pos:Pos) (keys:List (Option Expr)) (values:List Expr) (trs:List (TE×TE)):Prop:=
 ∀(pins:List (Addr×Obj)) (s:Shared) (σ:St) (H:Hp) (Q:List (V×V)->Hp->Prop),Inv X pins σ H s->zo3 trs σ H Q->
  wpAny (model X.prog X.w) X.A (evalPairs (pairTrees keys values X.env pos)) (fun vs s'=>∃ps H',Inv X pins σ H' s'/\VV ps vs/\Q ps H') X.xe s
theorem zpt {X:Cx} {pos:Pos}:PPs X pos [] [] []:=fun pins s σ H Q I h=>pairTrees_nil_walk ⟨[],H,I,.nil,h⟩
theorem zj7 {X:Cx} {pos:Pos} {k v:Expr} {ks:List (Option Expr)} {vs:List Expr} {tk tv:TE} {trs:List (TE×TE)} (hk:PE X k tk) (hv:PE X v tv) (hr:PPs X pos ks vs trs):
 PPs X pos (some k::ks) (v::vs) ((tk,tv)::trs):=fun pins s σ H Q I h=>
 pairTrees_cons_walk (thn (hk pins s σ H _ I h) fun u s1 zz=>L2.el5 zz fun x H1 I1 rx q1=>thn (hv pins s1 σ H1 _ I1 q1) fun w2 s2 zz=>L2.el5 zz fun y H2 I2 ry q2=>
  thn (hr pins s2 σ H2 _ I2 q2) fun ws s3 zz=>L2.el5 zz fun ps H3 I3 rel q3=>⟨(x,y)::ps,H3,I3,.cons ⟨rx,ry⟩ rel,q3⟩)
def zgi (kvs more:List (Key×V)):List (Key×V):=more.foldl (fun acc kv=>ze9 acc kv.1 kv.2) kvs
theorem KV.merge:∀{more:List (Key×V)} {rs:List (Key×Value)} {kvs:List (Key×V)} {vs:List (Key×Value)},KV more rs->KV kvs vs->KV (zgi kvs more) (merged vs rs):=by
 intro more rs kvs vs r
 unfold KV at r
 induction r generalizing kvs vs with
 | nil=>intro q;exact q
 | @cons p q ps qs h t ih=>
  intro r0
  have e:KV (ze9 kvs p.1 p.2) (stored vs q.1 q.2):=by
   have:=r0.put p.1 h.2
   rw [<-h.1];exact this
  exact ih e
theorem zgj:∀(more kvs:List (Key×V)),(zgi kvs more).length<=kvs.length+more.length
 | [],kvs=>by show kvs.length<=kvs.length+0;omega
 | p::r,kvs=>by
  have h1:=zgj r (ze9 kvs p.1 p.2)
  have h2:=zdi kvs p.1 p.2
  show (zgi (ze9 kvs p.1 p.2) r).length<=_
  rw [ZBp];omega
theorem zjn {P:Program} {w:World}:∀{kvs:List (Key×V)} {ws:List (Value×Value)},VV (kvs.map fun kv=>(kV kv.1,kv.2)) ws->∃rs,Carries (zco P w) ws rs/\KV kvs rs
 | [],_,r=>by rw [List.map_nil] at r;cases r;exact ⟨[],True.intro,.nil⟩
 | p::kvs,_,r=>by
  rw [ZBf] at r
  cases r with
  | @cons a b as bs h t=>
   obtain ⟨rs,c,q⟩:=zjn (P:=P) (w:=w) t
   obtain ⟨b1,b2⟩:=b
   exact ⟨(p.1,b2)::rs,⟨zmi h.1,rfl,c⟩,.cons ⟨rfl,h.2⟩ q⟩
def zx5 (trs:List (TE×TE)):TE:=fun σ H Q=>∀p,H p=none->zo3 trs σ (upd H p (.dK [])) fun ps H2=>H2 p=some (.dK [])/\∃kvs:List (Key×V),ps=kvs.map (fun kv=>(kV kv.1,kv.2))/\kvs.length<=15/\Q (.ref p) (upd H2 p (.dK (zgi [] kvs)))
theorem zp0 {X:Cx} {pos:Pos} {keys:List (Option Expr)} {values:List Expr} {trs:List (TE×TE)} (h:PPs X pos keys values trs) (hall:keys.all (·.isSome)=true) (hl:keys.length=values.length) (h0:keys≠[])
 (h15:keys.length<=15):PE X (.Dict keys values pos) (zx5 trs):=by
 intro pins s σ H Q I q
 have hn:=I.hok.fresh (ZAw s.heap.objs.size)
 have I1:=I.laid (a:=s.heap.objs.size) (o:=.dK []) (h':=s.heap.push { cls:=.type "dict",data:=.dict #[] }) (t':=s.toks) (fun _ _ q=>ZAy _ q) (ZAw _) (znt s.heap I.big)
 refine wpAny_Dict_walk (knd:=zco X.prog X.w) hall hl h0 h15 (thn (h pins _ σ _ _ I1 (q _ hn)) fun ws s2 zz=>?_)
 obtain ⟨ps,H2,I2,rel,e,kvs,ep,lk,q2⟩:=zz
 subst ep
 obtain ⟨rs,c,rk⟩:=zjn (P:=X.prog) (w:=X.w) rel
 obtain ⟨z,hd,vs0,r0,dd⟩:=zxb I2.hok e
 cases r0
 refine ⟨rs,c,dd,fun h' dd' hs=>⟨.ref s.heap.objs.size,_,?_,rfl,q2⟩⟩
 have hz:(zgi [] kvs).length<=sizeLine:=by
  have h1:=zgj kvs []
  rw [ZB4] at h1
  rw [sizeLine_eq];omega
 have he:∃q,h'.get? s.heap.objs.size=some q:=let ⟨q,_,_,hq,_⟩:=dd';⟨q,hq⟩
 exact zmq I2 (by rw [e];exact True.intro) hs he (zt2 hz hd (rk.merge .nil) dd')
structure M1 (X:Cx) (o:Expr) (m:Str) (apos:Pos) (e:Expr) (cpos:Pos):Prop where
 base:attributeBase o m X.env (eval o X.env)=eval o X.env
 few:((backTo cpos (starEach [e] X.env)).all (fun x=> !x.1) && (backToKw cpos (keywordEach [] X.env)).all (fun x=>x.1.isSome)
  && decide (([e]:List Expr).length+([]:List Keyword).length+(if ([]:List Keyword).isEmpty then 0 else 1)<30))=true
 line:(apos.endLine==cpos.line)=true
 trees:backTo cpos (starEach [e] X.env)=[(false,eval e X.env)]
structure M2 (X:Cx) (o:Expr) (m:Str) (apos:Pos) (e f:Expr) (cpos:Pos):Prop where
 base:attributeBase o m X.env (eval o X.env)=eval o X.env
 few:((backTo cpos (starEach [e,f] X.env)).all (fun x=> !x.1) && (backToKw cpos (keywordEach [] X.env)).all (fun x=>x.1.isSome)
  && decide (([e,f]:List Expr).length+([]:List Keyword).length+(if ([]:List Keyword).isEmpty then 0 else 1)<30))=true
 line:(apos.endLine==cpos.line)=true
 trees:backTo cpos (starEach [e,f] X.env)=[(false,eval e X.env),(false,eval f X.env)]
def IsD (H:Hp) (a:Addr):Prop:=(∃kvs,Rd H a (.dK kvs))\/∃kvs,Rd H a (.dT kvs)
theorem zw7 {X:Cx} {pins:List (Addr×Obj)} {σ:St} {H:Hp} {s:Shared} {a:Addr} (I:Inv X pins σ H s) (d:IsD H a):
 s.TypeIs (.ref a) "dict"/\(∀b,Value.ref a=.ref b->∃ob,s.heap.get? b=some ob/\ob.dict=none)/\(a==sysModules)=false:=by
 rcases d with ⟨kvs,e⟩ | ⟨kvs,e⟩
 ·obtain ⟨_,hd,vs,_,dd⟩:=zmn I.hok e
  refine ⟨dd.typeIs,fun b q=>?_,hd⟩
  cases q
  obtain ⟨ob,_,_,h1,h2,_⟩:=dd
  exact ⟨ob,h1,h2.2.1⟩
 ·obtain ⟨_,hd,xs,_,dd⟩:=zmm I.hok e
  refine ⟨dd.typeIs,fun b q=>?_,hd⟩
  cases q
  obtain ⟨ob,_,_,h1,h2,_⟩:=dd
  exact ⟨ob,h1,h2.2.1⟩
section
variable {X:Cx} {pins:List (Addr×Obj)} {σ:St} {H:Hp} {s:Shared} {a:Addr} {y d:V} {u r:Value} {o:Option V} {A:Around} {E:Value->Shared->Prop}
theorem zxc {Q:Value->Shared->Prop} (hu:A.units+1<cLine) (I:Inv X pins σ H s) (g:ze5 H a y o) (ry:zck y u) (rd:zck d r) (h:∀w' s',Inv X pins σ H s'->zck (o.getD d) w'->Q w' s'):
 wpAny (model X.prog X.w) A (call (.builtin "dict.get") [.ref a,u,r]) Q E s:=by
 rcases g with ⟨kvs,k,e,ey,l⟩ | ⟨kvs,k,b,e,ey,eb,l⟩
 ·subst ey
  obtain ⟨z,hd,vs,rel,dd⟩:=zmn I.hok e
  refine call_meetsIn PySem.F.slot_dict_get dd.typeIs PySem.F.entry_dict_get (PySem.F.args_dict_get_3 _ _ _) (meets_dict_get_default (zco X.prog X.w) a (zmi ry) hd r) ⟨_,dd.mapOf,h _ _ (I.tok _) ?_⟩
  rw [l]
  exact (rel.val k).getD rd
 ·subst ey
  cases (show u=Value.ref b from ry)
  obtain ⟨z,hd,xs,rel,dd⟩:=zmm I.hok e
  refine call_meetsIn PySem.F.slot_dict_get dd.typeIs PySem.F.entry_dict_get (PySem.F.args_dict_get_3 _ _ _) (meetsH_dict_get_default (tupleKind (zco X.prog X.w)) a b hd r) ⟨tupleKind_room_in1 hu,k,xs,zjh I.hok eb,dd,h _ _ (I.tok _) ?_⟩
  rw [l]
  exact (rel.val k).getD rd
end
def zwa (td ty tx:TE):TE:=fun σ H Q=>td σ H fun x H1=>∃a,x=.ref a/\IsD H1 a/\ty σ H1 fun y H2=>tx σ H2 fun z H3=>∃o,ze5 H3 a y o/\Q (o.getD z) H3
section
variable {X:Cx} {o e f:Expr} {apos cpos:Pos} {td ty tx:TE}
theorem zsd (hu:X.A.units+1<cLine) (ho:PE X o td) (he:PE X e ty) (hf:PE X f tx) (m:M2 X o "get" apos e f cpos):PE X (.Call (.Attribute o "get" apos) [e,f] [] cpos) (zwa td ty tx):=by
 intro pins s σ H Q I h
 refine wpAny_Call_method m.base m.few m.line PySem.F.plainAttrs_dict PySem.F.slot_dict_get PySem.F.type_dict_get (thn (ho pins s σ H _ I h) fun u s1 zz=>?_)
 obtain ⟨x,H1,I1,rx,a,ex,d,q1⟩:=zz
 subst ex
 obtain rfl:u=Value.ref a:=rx
 obtain ⟨t1,t2,_⟩:=zw7 I1 d
 refine ⟨t1,t2,?_⟩
 rw [m.trees]
 refine Calls.callWith_builtin rfl (Calls.evalArgs_plain (Calls.spliced_cons (thn (he pins s1 σ H1 _ I1 q1) fun iv s2 zz=>L2.el5 zz fun y H2 I2 ry q2=>
  Calls.spliced_cons (thn (hf pins s2 σ H2 _ I2 q2) fun fv s3 ⟨z,H3,I3,rz,ov,g,q3⟩=>Calls.spliced_nil ?_))))
 exact zxc hu I3 g ry rz fun w' s4 I4 rw'=>⟨_,H3,I4,rw',q3⟩
end
section
variable {X:Cx} {pins:List (Addr×Obj)} {σ:St} {H:Hp} {s:Shared} {a:Addr} {kvs:List (Key×V)} {A:Around} {E:Value->Shared->Prop}
end
section
variable {X:Cx} {pins:List (Addr×Obj)} {σ:St} {H:Hp} {s:Shared} {a:Addr} {y:V} {u:Value} {A:Around} {E:Value->Shared->Prop}
end
end L2
namespace MT
variable {n:Nat} {m:Nat->Nat->Nat->Option Int} {pt:Nat->Nat->Nat->Prop} {low:Int}
end MT
namespace MU
structure zar where
 tie:Bool
 a:Nat
 b:Nat
 v:Int
inductive Wd where
 | told | sum | late | soon | sure | back | cross
structure Row where
 what:zar
 word:Wd
 used:List Nat
abbrev Key:=Bool×Nat×Nat
def zar.key (w:zar):Key:=(w.tie,w.a,w.b)
structure St where
 rows:List Row
 best:Key->Option Nat
 bar:Option Nat
abbrev zax:=Nat->Option (Nat×Int×Int)
def wat (st:St) (i:Nat):Option zar:=(st.rows[i]?).map (·.what)
def val (st:St) (k:Key):Option Int:=(st.best k).bind fun i=>(wat st i).map (·.v)
def zbo (tie:Bool) (v u:Int):Prop:=if tie=true then v<u else u<v
theorem zlz {b:Bool} {x y z:Int} (h1:zbo b x y) (h2:zbo b y z):zbo b x z:=by
 unfold zbo at*
 cases b<;>simp_all<;>lia
theorem zgg {b:Bool} {x y z:Int} (h1:¬zbo b x y) (h2:¬zbo b y z):¬zbo b x z:=by
 unfold zbo at*
 cases b<;>simp_all<;>lia
theorem zoj {b:Bool} {x y:Int} (h:zbo b x y):¬zbo b y x:=by
 unfold zbo at*
 cases b<;>simp_all<;>lia
def zhh (st:St) (w:zar):Prop:=if w.tie=true/\w.a=w.b then w.v<0 else ∀u,val st w.key=some u->zbo w.tie w.v u
def zhy (w:zar):Prop:=w.tie=true/\w.a=w.b/\w.v<0
instance (w:zar):Decidable (zhy w):=by unfold zhy;infer_instance
open Classical in
instance (st:St) (w:zar):Decidable (zhh st w):=propDecidable _
def take (st:St) (w:zar) (word:Wd) (used:List Nat):St:=
 if zhh st w then { rows:=st.rows++[⟨w,word,used⟩],best:=fun k=>if k=w.key then some st.rows.length else st.best k,bar:=if st.bar=none/\zhy w then some st.rows.length else st.bar } else st
def za1 (p q:zar):Option zar:=if p.tie=true/\q.tie=true/\p.b=q.a then some ⟨true,p.a,q.b,p.v+q.v⟩ else none
def zbh (F:zax) (p:zar):Option zar:=if p.tie=true/\p.a≠p.b then (F p.b).map fun f=>⟨false,p.a,p.b,f.2.2-p.v⟩ else none
def zbl (F:zax) (p:zar):Option zar:=if p.tie=true/\p.a≠p.b/\p.v<0 then (F p.a).map fun f=>⟨true,f.1,p.b,f.2.1+p.v⟩ else none
def zbg (F:zax) (p:zar):Option zar:=if p.tie=false then (F p.b).map fun f=>⟨true,p.a,f.1,-min p.v f.2.1⟩ else none
def zau (F:zax) (p q:zar):Option zar:=if p.tie=false/\q.tie=true/\q.b=p.a/\q.a≠p.b then (F p.b).map fun f=>⟨false,q.a,p.b,min p.v f.2.2-q.v⟩ else none
def zav (F:zax) (p:zar):Option zar:=if p.tie=false/\p.a≠p.b/\0<p.v then (F p.a).bind fun o=>(F p.b).map fun f=>⟨false,o.1,p.b,min p.v f.2.2-o.2.1⟩ else none
def put (st:St) (o:Option zar) (word:Wd) (used:List Nat):St:=match o with
 | some w=>take st w word used
 | none=>st
def za6 (f:zar->Option zar) (word:Wd) (i:Nat) (st:St):St:=put st ((wat st i).bind f) word [i]
def zat (f:zar->zar->Option zar) (word:Wd) (i j:Nat) (st:St):St:=put st ((wat st i).bind fun p=>(wat st j).bind fun q=>f p q) word [i,j]
def za8 (n:Nat) (st:St) (tie:Bool) (a:Nat):List Nat:=(List.range n).filterMap fun b=>st.best (tie,a,b)
def zbz (n:Nat) (st:St) (b:Nat):List Nat:=(List.range n).filterMap fun a=>st.best (true,a,b)
def zb0 (n:Nat) (F:zax) (at_ a b:Nat) (st0:St):St:=
 let st1:=za6 (zbh F) .late at_ st0
 let st2:=za6 (zbl F) .soon at_ st1
 let st3:=(za8 n st2 true b).foldl (fun st j=>zat za1 .sum at_ j st) st2
 let st4:=(zbz n st3 a).foldl (fun st j=>zat za1 .sum j at_ st) st3
 (za8 n st4 false b).foldl (fun st j=>zat (zau F) .back j at_ st) st4
def zbc (n:Nat) (F:zax) (at_ a:Nat) (st0:St):St:=
 let st1:=za6 (zbg F) .sure at_ st0
 let st2:=za6 (zav F) .cross at_ st1
 (zbz n st2 a).foldl (fun st j=>zat (zau F) .back at_ j st) st2
def look (n:Nat) (F:zax) (at_:Nat) (st:St):St:=match wat st at_ with
 | some w=>if st.best w.key=some at_ then (if w.tie=true then zb0 n F at_ w.a w.b st else zbc n F at_ w.a st) else st
 | none=>st
def run (n:Nat) (F:zax) (st:St):Nat->St
 | 0=>st
 | t+1=>look n F t (run n F st t)
structure Ext (s s':St):Prop where
 rows:∃more,s'.rows=s.rows++more
 best:∀k,s'.best k=s.best k\/∃j,s'.best k=some j/\s.rows.length<=j
 bar:s.bar≠none->s'.bar≠none
structure zee (n:Nat) (s:St):Prop where
 at_:∀k i,s.best k=some i->∃w,wat s i=some w/\w.key=k
 top:∀i w,wat s i=some w->∃j,i<=j/\s.best w.key=some j
 lt:∀i w,wat s i=some w->w.a<n/\w.b<n
 ne:s.bar=none->∀i w,wat s i=some w->w.a≠w.b
 drop:s.bar=none->∀i j w w',wat s i=some w->wat s j=some w'->w.key=w'.key->i<j->zbo w.tie w'.v w.v
theorem zeq {s:St} {i:Nat} {w:zar} (h:wat s i=some w):i<s.rows.length:=by
 unfold wat at h
 cases q:s.rows[i]? with
 | none=>rw [q] at h;cases h
 | some r=>exact (ZAv.mp q).1
theorem zaz {s s':St} {i:Nat} {w:zar} (e:Ext s s') (h:wat s i=some w):wat s' i=some w:=by
 obtain ⟨more,hm⟩:=e.rows
 have hi:=zeq h
 unfold wat at h ⊢
 rw [hm,ZBq hi]
 exact h
theorem Ext.refl (s:St):Ext s s:=⟨⟨[],by simp⟩,fun _=>.inl rfl,fun h=>h⟩
theorem Ext.len {s s':St} (e:Ext s s'):s.rows.length<=s'.rows.length:=by
 obtain ⟨more,hm⟩:=e.rows
 rw [hm,ZA3];lia
theorem Ext.trans {a b c:St} (x:Ext a b) (y:Ext b c):Ext a c:=by
 refine ⟨?_,fun k=>?_,fun h=>y.bar (x.bar h)⟩
 ·obtain ⟨m1,h1⟩:=x.rows
  obtain ⟨m2,h2⟩:=y.rows
  exact ⟨m1++m2,by rw [h2,h1,List.append_assoc]⟩
 ·rcases y.best k with h | ⟨j,h,hj⟩
  ·rcases x.best k with h' | ⟨j,h',hj⟩
   ·exact .inl (h.trans h')
   ·exact .inr ⟨j,h.trans h',hj⟩
  ·exact .inr ⟨j,h,ZBg x.len hj⟩
theorem zhl (st:St) (w:zar) (word:Wd) (used:List Nat):Ext st (take st w word used):=by
 unfold take
 split
 ·refine ⟨⟨_,rfl⟩,fun k=>?_,fun h=>?_⟩
  ·show (if k=w.key then some st.rows.length else st.best k)=_\/∃j,(if k=w.key then some st.rows.length else st.best k)=some j/\_
   by_cases e:k=w.key
   ·rw [if_pos e];exact .inr ⟨_,rfl,ZAw _⟩
   ·rw [if_neg e];exact .inl rfl
  ·show (if st.bar=none/\zhy w then some st.rows.length else st.bar)≠none
   rw [if_neg fun z=>h z.1]
   exact h
 ·exact Ext.refl st
theorem zfj {rows:List Row} {r:Row} {best:Key->Option Nat} {bar:Option Nat} {i:Nat} {w:zar} (h:wat ⟨rows++[r],best,bar⟩ i=some w):(i<rows.length/\(rows[i]?).map (·.what)=some w)\/(i=rows.length/\w=r.what):=by
 unfold wat at h
 by_cases c:i<rows.length
 ·left
  refine ⟨c,?_⟩
  have h:((rows++[r])[i]?).map (·.what)=some w:=h
  rwa [ZBq c] at h
 ·right
  have h:((rows++[r])[i]?).map (·.what)=some w:=h
  rw [ZBk (by lia)] at h
  cases q:i-rows.length with
  | zero=>rw [q] at h;exact ⟨by lia,by cases h;rfl⟩
  | succ z=>rw [q] at h;cases h
theorem zk4 {n:Nat} {st:St} {w:zar} {word:Wd} {used:List Nat} (g:zee n st) (ha:w.a<n) (hb:w.b<n) (hw:w.tie=false->w.a≠w.b):zee n (take st w word used):=by
 unfold take
 split
 next hn=>
  have old:∀{i u},wat st i=some u->wat { rows:=st.rows++[⟨w,word,used⟩],best:=fun k=>if k=w.key then some st.rows.length else st.best k,bar:=if st.bar=none/\zhy w then some st.rows.length else st.bar } i=some u:=fun {i u} h=>by
   have hi:=zeq h
   unfold wat at h ⊢
   rw [ZBq hi]
   exact h
  have new:wat { rows:=st.rows++[⟨w,word,used⟩],best:=fun k=>if k=w.key then some st.rows.length else st.best k,bar:=if st.bar=none/\zhy w then some st.rows.length else st.bar } st.rows.length=some w:=by
   unfold wat
   rw [ZBk (ZAw _),Nat.sub_self]
   rfl
  have nb:(if st.bar=none/\zhy w then some st.rows.length else st.bar)=none->st.bar=none/\¬zhy w:=fun h=>by
   by_cases c:st.bar=none/\zhy w
   ·rw [if_pos c] at h;cases h
   ·rw [if_neg c] at h
    exact ⟨h,fun z=>c ⟨h,z⟩⟩
  have wne:¬zhy w->w.a≠w.b:=fun hb e=>by
   cases ht:w.tie with
   | false=>exact hw ht e
   | true=>
    unfold zhh at hn
    rw [if_pos ⟨ht,e⟩] at hn
    exact hb ⟨ht,e,hn⟩
  refine ⟨fun k i h=>?_,fun i u h=>?_,fun i u h=>?_,fun h0 i u h=>?_,fun h0 i j u u' h h' hk hij=>?_⟩
  ·have h:(if k=w.key then some st.rows.length else st.best k)=some i:=h
   by_cases c:k=w.key
   ·rw [if_pos c] at h
    cases h
    exact ⟨w,new,c.symm⟩
   ·rw [if_neg c] at h
    obtain ⟨u,hu,hk⟩:=g.at_ k i h
    exact ⟨u,old hu,hk⟩
  ·show ∃j,i<=j/\(if u.key=w.key then some st.rows.length else st.best u.key)=some j
   rcases zfj h with ⟨hi,hu⟩ | ⟨hi,rfl⟩
   ·by_cases c:u.key=w.key
    ·rw [if_pos c];exact ⟨_,ZBb hi,rfl⟩
    ·rw [if_neg c];exact g.top i u hu
   ·rw [if_pos rfl];exact ⟨_,Nat.le_of_eq hi,rfl⟩
  ·rcases zfj h with ⟨_,hu⟩ | ⟨_,rfl⟩
   ·exact g.lt i u hu
   ·exact ⟨ha,hb⟩
  ·obtain ⟨b0,b1⟩:=nb h0
   rcases zfj h with ⟨_,hu⟩ | ⟨_,rfl⟩
   ·exact g.ne b0 i u hu
   ·exact wne b1
  ·obtain ⟨b0,b1⟩:=nb h0
   rcases zfj h' with ⟨hj,hu'⟩ | ⟨hj,e'⟩
   ·rcases zfj h with ⟨_,hu⟩ | ⟨hi,_⟩
    ·exact g.drop b0 i j u u' hu hu' hk hij
    ·lia
   ·have e':u'=w:=e'
    rw [e'] at hk ⊢
    rcases zfj h with ⟨hi,hu⟩ | ⟨hi,_⟩
    ·
     have hu:wat st i=some u:=hu
     obtain ⟨j0,hij0,hbest⟩:=g.top i u hu
     obtain ⟨u0,hu0,hk0⟩:=g.at_ _ _ hbest
     have hv:val st w.key=some u0.v:=by
      unfold val
      have hk:u.key=w.key:=hk
      rw [<-hk,hbest]
      show (wat st j0).map (·.v)=_
      rw [hu0];rfl
     unfold zhh at hn
     rw [if_neg fun z=>wne b1 z.2] at hn
     have h1:=hn _ hv
     have ht:u.tie=w.tie:=congrArg Prod.fst hk
     rw [ht]
     by_cases c:i=j0
     ·subst c
      rw [hu] at hu0
      cases hu0
      exact h1
     ·have h2:=g.drop b0 i j0 u u0 hu hu0 hk0.symm (by lia)
      rw [ht] at h2
      exact zlz h1 h2
    ·lia
 next=>exact g
theorem zew (st:St) (o:Option zar) (word:Wd) (used:List Nat):Ext st (put st o word used):=by
 cases o with
 | none=>exact Ext.refl st
 | some w=>exact zhl st w word used
def Imp (s s':St):Prop:=Ext s s'/\∀k u,k.2.1≠k.2.2->val s k=some u->∃u',val s' k=some u'/\¬zbo k.1 u u'
theorem zdr (b:Bool) (u:Int):¬zbo b u u:=by unfold zbo;split<;>lia
theorem Imp.refl (s:St):Imp s s:=⟨Ext.refl s,fun k u _ h=>⟨u,h,zdr _ _⟩⟩
theorem Imp.trans {a b c:St} (x:Imp a b) (y:Imp b c):Imp a c:=by
 refine ⟨x.1.trans y.1,fun k u hk h=>?_⟩
 obtain ⟨u1,h1,n1⟩:=x.2 k u hk h
 obtain ⟨u2,h2,n2⟩:=y.2 k u1 hk h1
 exact ⟨u2,h2,zgg n1 n2⟩
theorem zc6 {s:St} {k:Key} {i:Nat} {w:zar} (h:s.best k=some i) (hw:wat s i=some w):val s k=some w.v:=by
 unfold val
 rw [h]
 show (wat s i).map (·.v)=_
 rw [hw];rfl
theorem zhk {st:St} {w:zar} {word:Wd} {used:List Nat} (h:zhh st w):val (take st w word used) w.key=some w.v/\wat (take st w word used) st.rows.length=some w/\(take st w word used).rows.length=st.rows.length+1:=by
 have e:take st w word used={ rows:=st.rows++[⟨w,word,used⟩],best:=fun k=>if k=w.key then some st.rows.length else st.best k,bar:=if st.bar=none/\zhy w then some st.rows.length else st.bar }:=by
  unfold take
  rw [if_pos h]
 have hw:wat (take st w word used) st.rows.length=some w:=by
  rw [e]
  unfold wat
  rw [ZBk (ZAw _),Nat.sub_self]
  rfl
 refine ⟨zc6 (i:=st.rows.length) (by rw [e];show (if w.key=w.key then some st.rows.length else st.best w.key)=_;rw [if_pos rfl]) hw,hw,?_⟩
 rw [e]
 show (st.rows++[_]).length=_
 rw [ZA3];rfl
theorem zfo {st:St} {w:zar} {word:Wd} {used:List Nat} (h:¬zhh st w):take st w word used=st:=by
 unfold take
 rw [if_neg h]
theorem zot {st:St} {w:zar} {word:Wd} {used:List Nat} {k:Key} {u:Int} (hk:k≠w.key) (h:val st k=some u):val (take st w word used) k=some u:=by
 by_cases c:zhh st w
 ·have e:=zhl st w word used
  unfold val at h ⊢
  have hb:(take st w word used).best k=st.best k:=by
   unfold take
   rw [if_pos c]
   show (if k=w.key then some st.rows.length else st.best k)=_
   rw [if_neg hk]
  rw [hb]
  cases q:st.best k with
  | none=>rw [q] at h;cases h
  | some i=>
   rw [q] at h
   have h:(wat st i).map (·.v)=some u:=h
   show (wat (take st w word used) i).map (·.v)=some u
   cases q2:wat st i with
   | none=>rw [q2] at h;cases h
   | some r=>rw [zaz e q2];rw [q2] at h;exact h
 ·rw [zfo c];exact h
theorem zm4 (st:St) (w:zar) (word:Wd) (used:List Nat):Imp st (take st w word used):=by
 refine ⟨zhl st w word used,fun k u hk h=>?_⟩
 by_cases c:k=w.key
 ·by_cases hn:zhh st w
  ·have h2:=hn
   unfold zhh at h2
   have:¬(w.tie=true/\w.a=w.b):=fun z=>hk (by rw [c];exact z.2)
   rw [if_neg this] at h2
   have h3:=h2 u (by rw [<-c];exact h)
   refine ⟨w.v,by rw [c];exact (zhk hn).1,fun z=>?_⟩
   rw [c] at z
   exact zoj h3 z
  ·rw [zfo hn];exact ⟨u,h,zdr _ _⟩
 ·exact ⟨u,zot c h,zdr _ _⟩
theorem zgv {st:St} {w:zar} {word:Wd} {used:List Nat} (h:w.a≠w.b):∃u,val (take st w word used) w.key=some u/\¬zbo w.tie w.v u:=by
 by_cases c:zhh st w
 ·exact ⟨w.v,(zhk c).1,zdr _ _⟩
 ·rw [zfo c]
  unfold zhh at c
  rw [if_neg fun z=>h z.2] at c
  have c:=Classical.not_forall.mp c
  obtain ⟨u,hu⟩:=c
  have hu:=Classical.not_imp.mp hu
  exact ⟨u,hu.1,hu.2⟩
theorem zo2 {st:St} {w:zar} {word:Wd} {used:List Nat} (h:zhy w):(take st w word used).bar≠none:=by
 have hn:zhh st w:=by
  unfold zhh
  rw [if_pos ⟨h.1,h.2.1⟩]
  exact h.2.2
 unfold take
 rw [if_pos hn]
 show (if st.bar=none/\zhy w then some st.rows.length else st.bar)≠none
 by_cases c:st.bar=none
 ·rw [if_pos ⟨c,h⟩];simp
 ·rw [if_neg fun z=>c z.1];exact c
theorem zpq (st:St) (o:Option zar) (word:Wd) (used:List Nat):Imp st (put st o word used):=by
 cases o with
 | none=>exact Imp.refl st
 | some w=>exact zm4 st w word used
theorem zbf {f:St->Nat->St} (hf:∀s j,Imp s (f s j)):∀(l:List Nat) (s:St),Imp s (l.foldl f s)
 | [],s=>Imp.refl s
 | j::l,s=>(hf s j).trans (zbf hf l (f s j))
theorem zd9 (f:zar->Option zar) (word:Wd) (i:Nat) (s:St):Imp s (za6 f word i s):=zpq ..
theorem zcr (f:zar->zar->Option zar) (word:Wd) (i j:Nat) (s:St):Imp s (zat f word i j s):=zpq ..
theorem zmk (n:Nat) (F:zax) (at_ a b:Nat) (s:St):Imp s (zb0 n F at_ a b s):=
 ((((zd9 _ _ _ _).trans (zd9 _ _ _ _)).trans (zbf (fun _ _=>zcr ..) _ _)).trans (zbf (fun _ _=>zcr ..) _ _)).trans (zbf (fun _ _=>zcr ..) _ _)
theorem zlm (n:Nat) (F:zax) (at_ a:Nat) (s:St):Imp s (zbc n F at_ a s):=
 ((zd9 _ _ _ _).trans (zd9 _ _ _ _)).trans (zbf (fun _ _=>zcr ..) _ _)
theorem zej (n:Nat) (F:zax) (at_:Nat) (s:St):Imp s (look n F at_ s):=by
 unfold look
 split
 ·split
  ·split
   ·exact zmk ..
   ·exact zlm ..
  ·exact Imp.refl s
 ·exact Imp.refl s
structure FOk (n:Nat) (F:zax) (most:Int):Prop where
 lt:∀e f,F e=some f->f.1<n/\e<n
 own:∀e f,F e=some f->F f.1=none
 num:∀e f,F e=some f->1<=f.2.1/\f.2.1<=f.2.2/\f.2.2<=most
def Fit (n:Nat) (w:zar):Prop:=w.a<n/\w.b<n/\(w.tie=false->w.a≠w.b)
theorem zj3 {n:Nat} {st:St} {o:Option zar} {word:Wd} {used:List Nat} (g:zee n st) (h:∀w,o=some w->Fit n w):zee n (put st o word used):=by
 cases o with
 | none=>exact g
 | some w=>exact zk4 g (h w rfl).1 (h w rfl).2.1 (h w rfl).2.2
theorem zeo {n:Nat} {f:zar->Option zar} {word:Wd} {i:Nat} {s:St} (g:zee n s) (hf:∀p w,p.a<n->p.b<n->f p=some w->Fit n w):zee n (za6 f word i s):=by
 refine zj3 g fun w h=>?_
 cases q:wat s i with
 | none=>rw [q] at h;cases h
 | some p=>
  rw [q] at h
  have:=g.lt i p q
  exact hf p w this.1 this.2 h
theorem zii {n:Nat} {f:zar->zar->Option zar} {word:Wd} {i j:Nat} {s:St} (g:zee n s) (hf:∀p q w,p.a<n->p.b<n->q.a<n->q.b<n->f p q=some w->Fit n w):zee n (zat f word i j s):=by
 refine zj3 g fun w h=>?_
 cases e1:wat s i with
 | none=>rw [e1] at h;cases h
 | some p=>
  rw [e1] at h
  have h:(wat s j).bind (fun q=>f p q)=some w:=h
  cases e2:wat s j with
  | none=>rw [e2] at h;cases h
  | some q=>
   rw [e2] at h
   have h1:=g.lt i p e1
   have h2:=g.lt j q e2
   exact hf p q w h1.1 h1.2 h2.1 h2.2 h
theorem zdz {n:Nat} {f:St->Nat->St} (hf:∀s j,zee n s->zee n (f s j)):∀(l:List Nat) (s:St),zee n s->zee n (l.foldl f s)
 | [],_,g=>g
 | j::l,s,g=>zdz hf l (f s j) (hf s j g)
theorem zl5 {n:Nat} (p q w:zar) (h1:p.a<n) (_:p.b<n) (_:q.a<n) (h4:q.b<n) (h:za1 p q=some w):Fit n w:=by
 unfold za1 at h
 split at h
 ·cases h;exact ⟨h1,h4,fun z=>nomatch z⟩
 ·cases h
theorem zhq {n:Nat} {F:zax} (p w:zar) (h1:p.a<n) (h2:p.b<n) (h:zbh F p=some w):Fit n w:=by
 unfold zbh at h
 split at h
 next c=>
  cases q:F p.b with
  | none=>rw [q] at h;cases h
  | some f=>rw [q] at h;cases h;exact ⟨h1,h2,fun _=>c.2⟩
 ·cases h
theorem zhm {n:Nat} {F:zax} {most:Int} (hF:FOk n F most) (p w:zar) (_:p.a<n) (h2:p.b<n) (h:zbl F p=some w):Fit n w:=by
 unfold zbl at h
 split at h
 ·cases q:F p.a with
  | none=>rw [q] at h;cases h
  | some f=>rw [q] at h;cases h;exact ⟨(hF.lt _ _ q).1,h2,fun z=>nomatch z⟩
 ·cases h
theorem zjr {n:Nat} {F:zax} {most:Int} (hF:FOk n F most) (p w:zar) (h1:p.a<n) (_:p.b<n) (h:zbg F p=some w):Fit n w:=by
 unfold zbg at h
 split at h
 ·cases q:F p.b with
  | none=>rw [q] at h;cases h
  | some f=>rw [q] at h;cases h;exact ⟨h1,(hF.lt _ _ q).1,fun z=>nomatch z⟩
 ·cases h
theorem zkp {n:Nat} {F:zax} (p q w:zar) (_:p.a<n) (h2:p.b<n) (h3:q.a<n) (_:q.b<n) (h:zau F p q=some w):Fit n w:=by
 unfold zau at h
 split at h
 next c=>
  cases e:F p.b with
  | none=>rw [e] at h;cases h
  | some f=>rw [e] at h;cases h;exact ⟨h3,h2,fun _=>c.2.2.2⟩
 ·cases h
theorem zil {n:Nat} {F:zax} {most:Int} (hF:FOk n F most) (p w:zar) (_:p.a<n) (h2:p.b<n) (h:zav F p=some w):Fit n w:=by
 unfold zav at h
 split at h
 ·cases e:F p.a with
  | none=>rw [e] at h;cases h
  | some o=>
   rw [e] at h
   have h:(F p.b).map (fun f=>(⟨false,o.1,p.b,min p.v f.2.2-o.2.1⟩:zar))=some w:=h
   cases e2:F p.b with
   | none=>rw [e2] at h;cases h
   | some f=>
    rw [e2] at h
    cases h
    refine ⟨(hF.lt _ _ e).1,h2,fun _ z=>?_⟩
    have z:o.1=p.b:=z
    have:=hF.own _ _ e
    rw [z,e2] at this
    cases this
 ·cases h
theorem zqe {n:Nat} {F:zax} {most:Int} (hF:FOk n F most) {at_:Nat} {s:St} (g:zee n s):zee n (look n F at_ s):=by
 unfold look
 split
 ·split
  ·split
   ·refine zdz (fun _ _ g=>zii g zkp) _ _ (zdz (fun _ _ g=>zii g zl5) _ _ (zdz (fun _ _ g=>zii g zl5) _ _ (zeo (zeo g zhq) (zhm hF))))
   ·exact zdz (fun _ _ g=>zii g zkp) _ _ (zeo (zeo g (zjr hF)) (zil hF))
  ·exact g
 ·exact g
theorem zjx {n:Nat} {F:zax} {most:Int} (hF:FOk n F most) {s:St} (g:zee n s):∀t,zee n (run n F s t)
 | 0=>g
 | t+1=>zqe hF (zjx hF g t)
def Add (C:zar->Prop) (s s':St):Prop:=∀i w,s.rows.length<=i->wat s' i=some w->C w
theorem Add.refl {C:zar->Prop} (s:St):Add C s s:=fun i w h e=>absurd (zeq e) (by lia)
theorem Add.trans {C:zar->Prop} {a b c:St} (x:Add C a b) (e:Ext b c) (y:Add C b c):Add C a c:=fun i w h hw=>by
 by_cases hi:i<b.rows.length
 ·have:∃w',wat b i=some w':=⟨_,by unfold wat;rw [ZAx hi];rfl⟩
  obtain ⟨w',hw'⟩:=this
  have:=zaz e hw'
  rw [hw] at this
  cases this
  exact x i w h hw'
 ·exact y i w (by lia) hw
theorem zm5 {C:zar->Prop} {s:St} {w:zar} {word:Wd} {used:List Nat} (h:C w):Add C s (take s w word used):=fun i u hi hu=>by
 by_cases c:zhh s w
 ·obtain ⟨_,h1,h2⟩:=zhk (word:=word) (used:=used) c
  have:=zeq hu
  have e:i=s.rows.length:=by lia
  rw [e,h1] at hu
  cases hu
  exact h
 ·rw [zfo c] at hu
  exact absurd (zeq hu) (by lia)
theorem zex {C:zar->Prop} {s:St} {o:Option zar} {word:Wd} {used:List Nat} (h:∀w,o=some w->C w):Add C s (put s o word used):=by
 cases o with
 | none=>exact Add.refl s
 | some w=>exact zm5 (h w rfl)
theorem zij {C:zar->Prop} {s:St} {f:zar->Option zar} {word:Wd} {i:Nat} {p:zar} (hp:wat s i=some p) (h:∀w,f p=some w->C w):Add C s (za6 f word i s):=zex fun w e=>by rw [hp] at e;exact h w e
theorem zq1 {C:zar->Prop} {s:St} {f:zar->zar->Option zar} {word:Wd} {i j:Nat} {p q:zar} (hp:wat s i=some p) (hq:wat s j=some q) (h:∀w,f p q=some w->C w):Add C s (zat f word i j s):=zex fun w e=>by
 rw [hp] at e
 have e:(wat s j).bind (fun q=>f p q)=some w:=e
 rw [hq] at e
 exact h w e
theorem zd8 {C:zar->Prop} {f:St->Nat->St} (hf:∀s j,Imp s (f s j)):∀(l:List Nat) (s0 s:St),Imp s0 s->(∀j∈l,∀s1,Imp s0 s1->Add C s1 (f s1 j))->Add C s (l.foldl f s)
 | [],_,s,_,_=>Add.refl s
 | j::l,s0,s,h0,h=>(h j ZA5 s h0).trans (zbf hf l (f s j)).1 (zd8 hf l s0 (f s j) (h0.trans (hf s j)) fun k hk=>h k (ZA4 _ hk))
theorem zlo {f:St->Nat->St} (hf:∀s j,Imp s (f s j)):∀(l:List Nat) (s:St) (j:Nat),j∈l->∃s1,Imp s s1/\Imp (f s1 j) (l.foldl f s)
 | [],_,_,h=>nomatch h
 | k::l,s,j,h=>by
  rcases ZBe.mp h with e | h
  ·subst e
   exact ⟨s,Imp.refl s,zbf hf l (f s j)⟩
  ·obtain ⟨s1,h1,h2⟩:=zlo hf l (f s k) j h
   exact ⟨s1,(hf s k).trans h1,h2⟩
theorem zie {n:Nat} {st:St} {tie:Bool} {a j:Nat} (h:j∈za8 n st tie a):∃b,b<n/\st.best (tie,a,b)=some j:=by
 obtain ⟨b,hb,e⟩:=List.mem_filterMap.mp h
 exact ⟨b,List.mem_range.mp hb,e⟩
theorem zfl {n:Nat} {st:St} {b j:Nat} (h:j∈zbz n st b):∃a,a<n/\st.best (true,a,b)=some j:=by
 obtain ⟨a,ha,e⟩:=List.mem_filterMap.mp h
 exact ⟨a,List.mem_range.mp ha,e⟩
theorem zhv {n:Nat} {s:St} (g:zee n s) {k:Key} {u:Int} (h:val s k=some u):∃i w,s.best k=some i/\wat s i=some w/\w.key=k/\w.v=u:=by
 unfold val at h
 cases q:s.best k with
 | none=>rw [q] at h;cases h
 | some i=>
  obtain ⟨w,hw,hk⟩:=g.at_ k i q
  rw [q] at h
  have h:(wat s i).map (·.v)=some u:=h
  rw [hw] at h
  exact ⟨i,w,rfl,hw,hk,ZA7 h⟩
theorem zde {w:zar} {t:Bool} {a b:Nat} (h:w.key=(t,a,b)):w.tie=t/\w.a=a/\w.b=b:=by
 unfold zar.key at h
 exact ⟨congrArg Prod.fst h,congrArg (fun z=>z.2.1) h,congrArg (fun z=>z.2.2) h⟩
theorem zga {n:Nat} {s:St} (g:zee n s) (hb:s.bar=none) {t:Bool} {a b:Nat} {u:Int} (h:val s (t,a,b)=some u):a≠b/\a<n/\b<n:=by
 obtain ⟨i,w,_,hw,hk,_⟩:=zhv g h
 obtain ⟨_,h2,h3⟩:=zde hk
 have h4:=g.ne hb i w hw
 have h5:=g.lt i w hw
 rw [h2,h3] at h4
 rw [h2,h3] at h5
 exact ⟨h4,h5⟩
theorem zo1 {n:Nat} {F:zax} {most:Int} (hF:FOk n F most) {s:St} (g:zee n s) {at_ a b c:Nat} {p:zar} {u:Int} (hp:wat s at_=some p) (pt:p.tie=true) (pa:p.a=a) (pb:p.b=b) (hu:val s (true,b,c)=some u) (hbc:b≠c) (hc:c<n):
 (a≠c->∃x,x<=p.v+u/\val (zb0 n F at_ a b s) (true,a,c)=some x)/\(a=c->p.v+u<0->(zb0 n F at_ a b s).bar≠none):=by
 have i2:Imp s (za6 (zbl F) .soon at_ (za6 (zbh F) .late at_ s)):=(zd9 _ _ _ _).trans (zd9 _ _ _ _)
 have g2:zee n (za6 (zbl F) .soon at_ (za6 (zbh F) .late at_ s)):=zeo (zeo g zhq) (zhm hF)
 unfold zb0
 dsimp only
 generalize za6 (zbl F) .soon at_ (za6 (zbh F) .late at_ s)=s2 at*
 obtain ⟨u2,hu2,nb⟩:=i2.2 (true,b,c) u hbc hu
 have hle:u2<=u:=by
  unfold zbo at nb
  simp at nb
  exact nb
 obtain ⟨j,q,hj,hq,hqk,hqv⟩:=zhv g2 hu2
 obtain ⟨qt,qa,qb⟩:=zde hqk
 have hmem:j∈za8 n s2 true b:=List.mem_filterMap.mpr ⟨c,List.mem_range.mpr hc,hj⟩
 obtain ⟨s3,i3,i3'⟩:=zlo (f:=fun st j=>zat za1 .sum at_ j st) (fun _ _=>zcr ..) _ s2 j hmem
 have hp3:=zaz (i2.1.trans i3.1) hp
 have hq3:=zaz i3.1 hq
 have hw:za1 p q=some ⟨true,a,c,p.v+u2⟩:=by
  unfold za1
  rw [if_pos ⟨pt,qt,by rw [pb,qa]⟩,pa,qb,hqv]
 have hd:zat za1 .sum at_ j s3=take s3 ⟨true,a,c,p.v+u2⟩ .sum [at_,j]:=by
  unfold zat
  rw [hp3]
  show put s3 ((wat s3 j).bind fun q=>za1 p q) .sum [at_,j]=_
  rw [hq3]
  show put s3 (za1 p q) .sum [at_,j]=_
  rw [hw]
  rfl
 rw [hd] at i3'
 have iZ:=i3'.trans ((zbf (f:=fun st j=>zat za1 .sum j at_ st) (fun _ _=>zcr ..) (zbz n ((za8 n s2 true b).foldl (fun st j=>zat za1 .sum at_ j st) s2) a) _).trans (zbf (f:=fun st j=>zat (zau F) .back j at_ st) (fun _ _=>zcr ..) (za8 n ((zbz n ((za8 n s2 true b).foldl (fun st j=>zat za1 .sum at_ j st) s2) a).foldl (fun st j=>zat za1 .sum j at_ st) ((za8 n s2 true b).foldl (fun st j=>zat za1 .sum at_ j st) s2)) false b) _))
 refine ⟨fun hac=>?_,fun hac hlt=>?_⟩
 ·obtain ⟨x,hx,nx⟩:=zgv (st:=s3) (word:=.sum) (used:=[at_,j]) (w:=⟨true,a,c,p.v+u2⟩) hac
  obtain ⟨y,hy,ny⟩:=iZ.2 (true,a,c) x hac hx
  refine ⟨y,?_,hy⟩
  unfold zbo at nx ny
  simp at nx ny
  lia
 ·exact iZ.1.bar (zo2 ⟨rfl,hac,by show p.v+u2<0;lia⟩)
theorem zm0 {n:Nat} {F:zax} {most:Int} (hF:FOk n F most) {s:St} (g:zee n s) {at_ a:Nat} {p:zar} {B:Int} (hp:wat s at_=some p) (pt:p.tie=false) (pa:p.a=a)
 (hB:∀x v,val (zbc n F at_ a s) (true,x,a)=some v->-B<=v) (hB0:0<=B) (hbar:(zbc n F at_ a s).bar=none):
 Add (fun w=>(w.tie=true->-most<=w.v)/\(w.tie=false->w.v<=most+B)) s (zbc n F at_ a s):=by
 unfold zbc at hB hbar ⊢
 dsimp only at hB hbar ⊢
 have g1:zee n (za6 (zbg F) .sure at_ s):=zeo g (zjr hF)
 have i1:Imp s (za6 (zbg F) .sure at_ s):=zd9 _ _ _ _
 have A1:Add (fun w=>(w.tie=true->-most<=w.v)/\(w.tie=false->w.v<=most+B)) s (za6 (zbg F) .sure at_ s):=zij hp fun w e=>by
  unfold zbg at e
  rw [if_pos pt] at e
  cases q:F p.b with
  | none=>rw [q] at e;cases e
  | some f=>
   rw [q] at e
   cases e
   have:=hF.num _ _ q
   refine ⟨fun _=>?_,nofun⟩
   show-most<=-min p.v f.2.1
   omega
 generalize za6 (zbg F) .sure at_ s=s1 at*
 have hp1:=zaz i1.1 hp
 have g2:zee n (za6 (zav F) .cross at_ s1):=zeo g1 (zil hF)
 have i2:Imp s1 (za6 (zav F) .cross at_ s1):=zd9 _ _ _ _
 have A2:Add (fun w=>(w.tie=true->-most<=w.v)/\(w.tie=false->w.v<=most+B)) s1 (za6 (zav F) .cross at_ s1):=zij hp1 fun w e=>by
  unfold zav at e
  split at e
  ·cases q:F p.a with
   | none=>rw [q] at e;cases e
   | some o=>
    rw [q] at e
    have e:(F p.b).map (fun f=>(⟨false,o.1,p.b,min p.v f.2.2-o.2.1⟩:zar))=some w:=e
    cases q2:F p.b with
    | none=>rw [q2] at e;cases e
    | some f=>
     rw [q2] at e
     cases e
     have h1:=hF.num _ _ q
     have h2:=hF.num _ _ q2
     refine ⟨nofun,fun _=>?_⟩
     show min p.v f.2.2-o.2.1<=most+B
     omega
  ·cases e
 generalize za6 (zav F) .cross at_ s1=s2 at*
 have hp2:=zaz i2.1 hp1
 have i3:Imp s2 ((zbz n s2 a).foldl (fun st j=>zat (zau F) .back at_ j st) s2):=zbf (fun _ _=>zcr ..) _ _
 have b2:=ZAz fun z=>i3.1.bar z hbar
 have A3:Add (fun w=>(w.tie=true->-most<=w.v)/\(w.tie=false->w.v<=most+B)) s2 ((zbz n s2 a).foldl (fun st j=>zat (zau F) .back at_ j st) s2):=zd8 (f:=fun st j=>zat (zau F) .back at_ j st) (fun _ _=>zcr ..) _ s2 s2 (Imp.refl _) fun j hj sx hx=>by
  obtain ⟨c,_,hbest⟩:=zfl hj
  obtain ⟨q,hq,hk⟩:=g2.at_ _ _ hbest
  obtain ⟨_,qa,qb⟩:=zde hk
  have qne:=g2.ne b2 j q hq
  rw [qa,qb] at qne
  obtain ⟨v',hv',nb⟩:=i3.2 (true,c,a) q.v qne (zc6 hbest hq)
  have hlo:=hB c v' hv'
  unfold zbo at nb
  simp at nb
  refine zq1 (zaz hx.1 hp2) (zaz hx.1 hq) fun w e=>?_
  unfold zau at e
  split at e
  ·cases z:F p.b with
   | none=>rw [z] at e;cases e
   | some f=>
    rw [z] at e
    cases e
    have h2:=hF.num _ _ z
    refine ⟨nofun,fun _=>?_⟩
    show min p.v f.2.2-q.v<=most+B
    omega
  ·cases e
 exact (A1.trans i2.1 A2).trans i3.1 A3
theorem zpm {n:Nat} {F:zax} {s:St} (t:Nat):∀d,Imp (run n F s t) (run n F s (t+d))
 | 0=>Imp.refl _
 | d+1=>(zpm t d).trans (zej n F (t+d) _)
theorem zfp {n:Nat} {F:zax} {s:St} {t t':Nat} (h:t<=t'):Imp (run n F s t) (run n F s t'):=by
 have:=zpm (n:=n) (F:=F) (s:=s) t (t'-t)
 rwa [show t+(t'-t)=t' by omega] at this
section
variable {n:Nat} {F:zax} {most:Int} {s0:St}
def pt (n:Nat) (F:zax) (s0:St) (t a b:Nat):Prop:=∃w,wat (run n F s0 t) t=some w/\w.tie=true/\w.a=a/\w.b=b/\(run n F s0 t).best (true,a,b)=some t
theorem zkd {s:St} {t a b:Nat} {w:zar} (hw:wat s t=some w) (ht:w.tie=true) (ha:w.a=a) (hb:w.b=b) (hbest:s.best (true,a,b)=some t):look n F t s=zb0 n F t a b s:=by
 unfold look
 rw [hw]
 have hk:w.key=(true,a,b):=by unfold zar.key;rw [ht,ha,hb]
 dsimp only
 rw [hk,if_pos hbest,if_pos ht,ha,hb]
theorem zmb {s s':St} (g:zee n s) (g':zee n s') (e:Ext s s') {k:Key} (h:val s' k≠val s k):∃j w,s.rows.length<=j/\wat s' j=some w/\w.key=k/\val s' k=some w.v:=by
 rcases e.best k with hb | ⟨j,hj,hlen⟩
 ·exfalso
  apply h
  unfold val
  rw [hb]
  cases q:s.best k with
  | none=>rfl
  | some i=>
   show (wat s' i).map (·.v)=(wat s i).map (·.v)
   obtain ⟨w,hw,_⟩:=g.at_ k i q
   rw [hw,zaz e hw]
 ·obtain ⟨w,hw,hk⟩:=g'.at_ k j hj
  exact ⟨j,w,hlen,hw,hk,zc6 hj hw⟩
theorem zl0 {t t':Nat} (h:t<=t') (g:zee n (run n F s0 t)) {k:Key} {i j:Nat} (hi:(run n F s0 t).best k=some i) (hj:(run n F s0 t').best k=some j):i<=j:=by
 rcases (zfp (n:=n) (F:=F) (s:=s0) h).1.best k with e | ⟨j',e,hl⟩
 ·rw [e,hi] at hj
  cases hj
  exact ZAw _
 ·rw [e] at hj
  cases hj
  obtain ⟨w,hw,_⟩:=g.at_ k i hi
  exact ZBg (ZBb (zeq hw)) hl
theorem zmt {t t':Nat} (h:t<=t') (g:zee n (run n F s0 t)) (g':zee n (run n F s0 t')) (hbar:(run n F s0 t').bar=none) {k:Key} {i j:Nat} (hi:(run n F s0 t).best k=some i) (hj:(run n F s0 t').best k=some j) (hne:i≠j):val (run n F s0 t') k≠val (run n F s0 t) k:=by
 obtain ⟨w,hw,hk⟩:=g.at_ k i hi
 obtain ⟨w',hw',hk'⟩:=g'.at_ k j hj
 have hle:=zl0 h g hi hj
 have:=g'.drop hbar i j w w' (zaz (zfp h).1 hw) hw' (hk.trans hk'.symm) (by omega)
 rw [zc6 hi hw,zc6 hj hw']
 intro e
 have e:w'.v=w.v:=ZA7 e
 rw [e] at this
 exact zdr _ _ this
end
variable {n:Nat} {F:zax} {most:Int} {s0:St}
theorem zlh {s:St} {t:Nat} {p:zar} (hp:wat s t=some p) (ht:p.tie=false) (hb:s.best p.key=some t):look n F t s=zbc n F t p.a s:=by
 unfold look
 rw [hp]
 dsimp only
 rw [if_pos hb,if_neg (by rw [ht];decide)]
theorem zli {s:St} {t:Nat} {p:zar} (hp:wat s t=some p) (hb:s.best p.key≠some t):look n F t s=s:=by
 unfold look
 rw [hp]
 dsimp only
 rw [if_neg hb]
end MU
namespace MH
theorem zqp:∀(M N:Nat) (f:Nat->Nat),(∀i,i<N->f i<M)->(∀i j,i<j->j<N->f i≠f j)->N<=M
 | 0,N,f,h,_=>by
  cases N with
  | zero=>exact ZAw _
  | succ N=>exact absurd (h 0 (Nat.succ_pos _)) (ZB6 _)
 | M+1,N,f,h,hi=>by
  by_cases c:∃p,p<N/\f p=M
  ·obtain ⟨p,hp,ep⟩:=c
   have k:=zqp M (N-1) (fun i=>f (if i<p then i else i+1)) (fun i hi'=>by
    have h1:(if i<p then i else i+1)<N:=by split<;>lia
    have h2:=h _ h1
    have h3:f (if i<p then i else i+1)≠M:=fun z=>by
     by_cases c:i<p
     ·rw [if_pos c] at z
      exact hi i p c hp (z.trans ep.symm)
     ·rw [if_neg c] at z
      exact hi p (i+1) (by lia) (by lia) (ep.trans z.symm)
    show f (if i<p then i else i+1)<M
    lia) (fun i j hij hj=>by
    show f (if i<p then i else i+1)≠f (if j<p then j else j+1)
    refine hi _ _ ?_ ?_
    ·split<;>split<;>lia
    ·split<;>lia)
   lia
  ·have k:=zqp M N f (fun i hi'=>by
    have h1:=h i hi'
    have h2:f i≠M:=fun z=>c ⟨i,hi',z⟩
    lia) hi
   lia
open Classical in
def cnt (P:Nat->Prop):Nat->Nat
 | 0=>0
 | N+1=>cnt P N+if P N then 1 else 0
theorem zdv {P:Nat->Prop} {N:Nat} (h:P N):cnt P (N+1)=cnt P N+1:=by
 rw [cnt,if_pos h]
theorem zgm {P:Nat->Prop} {N:Nat} (h:¬P N):cnt P (N+1)=cnt P N:=by
 rw [cnt,if_neg h,Nat.add_zero]
theorem znw (P:Nat->Prop):∀N,∃e:Nat->Nat,(∀i,i<cnt P N->P (e i)/\e i<N)/\∀i j,i<j->j<cnt P N->e i<e j
 | 0=>⟨fun i=>i,fun i h=>absurd h (ZB6 _),fun i j _ h=>absurd h (ZB6 _)⟩
 | N+1=>by
  obtain ⟨e,h1,h2⟩:=znw P N
  by_cases c:P N
  ·have ec:cnt P (N+1)=cnt P N+1:=zdv c
   refine ⟨fun i=>if i<cnt P N then e i else N,fun i hi=>?_,fun i j hij hj=>?_⟩
   ·by_cases d:i<cnt P N
    ·show P (if i<cnt P N then e i else N)/\(if i<cnt P N then e i else N)<N+1
     rw [if_pos d]
     have:=h1 i d
     exact ⟨this.1,by lia⟩
    ·show P (if i<cnt P N then e i else N)/\(if i<cnt P N then e i else N)<N+1
     rw [if_neg d]
     exact ⟨c,by lia⟩
   ·show (if i<cnt P N then e i else N)<(if j<cnt P N then e j else N)
    rw [if_pos (show i<cnt P N by lia)]
    by_cases d:j<cnt P N
    ·rw [if_pos d];exact h2 i j hij d
    ·rw [if_neg d];exact (h1 i (by lia)).2
  ·have ec:cnt P (N+1)=cnt P N:=zgm c
   rw [ec]
   exact ⟨e,fun i hi=>⟨(h1 i hi).1,by have:=(h1 i hi).2;lia⟩,h2⟩
theorem zxd {P:Nat->Prop} {N M:Nat} (code:Nat->Nat) (h:∀i,i<N->P i->code i<M) (hi:∀i j,i<j->j<N->P i->P j->code i≠code j):cnt P N<=M:=by
 obtain ⟨e,h1,h2⟩:=znw P N
 exact zqp M (cnt P N) (fun i=>code (e i)) (fun i z=>h _ (h1 i z).2 (h1 i z).1) fun i j hij hj=>hi _ _ (h2 i j hij hj) (h1 j hj).2 (h1 i (by lia)).1 (h1 j hj).1
theorem zq4 {P Q R:Nat->Prop} (h:∀i,P i->Q i\/R i):∀N,cnt P N<=cnt Q N+cnt R N
 | 0=>ZAw _
 | N+1=>by
  have ih:=zq4 h N
  have hq:cnt Q N<=cnt Q (N+1):=by
   by_cases c:Q N
   ·rw [zdv c];lia
   ·rw [zgm c];lia
  have hr:cnt R N<=cnt R (N+1):=by
   by_cases c:R N
   ·rw [zdv c];lia
   ·rw [zgm c];lia
  by_cases c:P N
  ·rw [zdv c]
   rcases h N c with q | q
   ·rw [zdv q];lia
   ·rw [zdv q];lia
  ·rw [zgm c];lia
theorem zey:∀(N:Nat) (l:List Nat),l.Nodup->(∀z∈l,z<N)->l.length<=N
 | 0,l,_,h=>by
  cases l with
  | nil=>exact ZAw _
  | cons x t=>exact absurd (h x ZA5) (ZB6 _)
 | N+1,l,hn,h=>by
  by_cases c:N∈l
  ·have k:=zey N (l.erase N) (hn.erase N) (fun z hz=>by
    have h1:=h z (List.mem_of_mem_erase hz)
    have h2:z≠N:=fun e=>by
     rw [e] at hz
     exact (hn.mem_erase_iff.mp hz).1 rfl
    lia)
   rw [List.length_erase_of_mem c] at k
   lia
  ·have k:=zey N l hn (fun z hz=>by
    have h1:=h z hz
    have h2:z≠N:=fun e=>c (e▸hz)
    lia)
   lia
end MH
set_option linter.unusedVariables false
namespace MH
structure Bd (n:Nat) (L most:Int) (T:Nat) (len:Nat->Nat) (m w:Nat->Nat->Nat->Option Int) (pt pw:Nat->Nat->Nat->Prop):Prop where
 n8:n<=8
 L0:0<=L
 most0:0<=most
 go:∀t,t<T->t<len t
 lenm:∀t,t<T->len t<=len (t+1)
 lt:∀t a b v,t<=T->m t a b=some v->a<n/\b<n/\a≠b
 known:∀t a b,t<T->pt t a b->∃v,m t a b=some v
 wknown:∀t a b,t<T->pw t a b->a<n/\b<n/\a≠b/\∃v,w t a b=some v
 mono:∀t a b v,t<T->m t a b=some v->∃v',v'<=v/\m (t+1) a b=some v'
 wmono:∀t a b v,t<T->w t a b=some v->∃v',v<=v'/\w (t+1) a b=some v'
 told:∀i,0<i->i<n->(∃v,v<=L/\m 0 0 i=some v)/\∃v,v<=0/\m 0 i 0=some v
 wnone:∀a b,w 0 a b=none
 sum:∀t a b c v u,t<T->pt t a b->m t a b=some v->m t b c=some u->a≠c->∃x,x<=v+u/\m (t+1) a c=some x
 bar:∀t a b v u,t<T->pt t a b->m t a b=some v->m t b a=some u->0<=v+u
 one:∀t a b a' b',t<T->pt t a b->pt t a' b'->a=a'/\b=b'
 onew:∀t a b a' b',t<T->pw t a b->pw t a' b'->a=a'/\b=b'
 apart:∀t a b a' b',t<T->pt t a b->¬pw t a' b'
 cause:∀t a b,t<T->m (t+1) a b≠m t a b->(∃c v q y,pt t a c/\c≠b/\m t a c=some v/\m t c b=some q/\m (t+1) a b=some y/\v+q<=y)\/(∃c,pt t c b/\c≠a)\/∃e y,pw t a e/\m (t+1) a b=some y/\-most<=y
 late:∀t a b e v v',t<T->pt t a b->m t a b=some v->t<=e->e<T->pw e a b->w e a b=some v'->1-v<=v'
 wcause:∀t a b B,t<T->0<=B->(∀x y v,m (t+1) x y=some v->-B<=v)->w (t+1) a b≠w t a b->∃y,w (t+1) a b=some y/\y<=most+B
 grow:∀t,t<T->len (t+1)<=len t+26
 growW:∀t,t<T->(∀a b,¬pt t a b)->len (t+1)<=len t+10
 grow0:∀t,t<T->(∀a b,¬pt t a b)->(∀a b,¬pw t a b)->len (t+1)=len t
 stay:∀t0 t a b v,t<=T->len t0<=t->t0<=t->m t0 a b=some v->m t a b=some v->∃s,s<t/\pt s a b/\m s a b=some v
 drop:∀t t' a b v v',t<t'->t'<T->pt t a b->pt t' a b->m t a b=some v->m t' a b=some v'->v'<v
 wdrop:∀t t' a b v v',t<t'->t'<T->pw t a b->pw t' a b->w t a b=some v->w t' a b=some v'->v<v'
 once:∀t t' a b,t<t'->t'<T->pt t a b->pt t' a b->len t<=t'
 wonce:∀t t' a b,t<t'->t'<T->pw t a b->pw t' a b->len t<=t'
section
variable {n:Nat} {L most:Int} {T:Nat} {len:Nat->Nat} {m w:Nat->Nat->Nat->Option Int} {pt pw:Nat->Nat->Nat->Prop}
def Kn (m:Nat->Nat->Nat->Option Int) (t a b:Nat) (x:Int):Prop:=∃v,v<=x/\m t a b=some v
theorem Kn.le {t a b:Nat} {x y:Int} (h:Kn m t a b x) (hx:x<=y):Kn m t a b y:=by
 obtain ⟨v,h1,h2⟩:=h
 exact ⟨v,by lia,h2⟩
theorem Bd.mono_at (R:Bd n L most T len m w pt pw) {a b t:Nat} {v:Int} (h:m t a b=some v):∀d,t+d<=T->∃v',v'<=v/\m (t+d) a b=some v'
 | 0,_=>⟨v,Int.le_refl _,h⟩
 | d+1,hd=>by
  obtain ⟨v1,h1,e1⟩:=R.mono_at h d (by lia)
  obtain ⟨v2,h2,e2⟩:=R.mono _ _ _ _ (by lia) e1
  exact ⟨v2,by lia,e2⟩
theorem Bd.mono' (R:Bd n L most T len m w pt pw) {a b t t':Nat} {v:Int} (h:m t a b=some v) (ht:t<=t') (hT:t'<=T):∃v',v'<=v/\m t' a b=some v':=by
 obtain ⟨v',h1,h2⟩:=R.mono_at h (t'-t) (by lia)
 rw [show t+(t'-t)=t' by lia] at h2
 exact ⟨v',h1,h2⟩
theorem Bd.kn (R:Bd n L most T len m w pt pw) {a b t t':Nat} {x:Int} (h:Kn m t a b x) (ht:t<=t') (hT:t'<=T):Kn m t' a b x:=by
 obtain ⟨v,h1,h2⟩:=h
 obtain ⟨v',h3,h4⟩:=R.mono' h2 ht hT
 exact ⟨v',by lia,h4⟩
theorem Bd.same (R:Bd n L most T len m w pt pw) {a b t t' s:Nat} {v:Int} (h:m t a b=some v) (h':m t' a b=some v) (h1:t<=s) (h2:s<=t') (hT:t'<=T):m s a b=some v:=by
 obtain ⟨v1,l1,e1⟩:=R.mono' h h1 (by lia)
 obtain ⟨v2,l2,e2⟩:=R.mono' e1 h2 hT
 rw [h'] at e2
 cases e2
 rw [e1,show v1=v by lia]
def rho (m:Nat->Nat->Nat->Option Int) (t x:Nat):Int:=(m t x 0).getD 0
theorem Bd.rho_is (R:Bd n L most T len m w pt pw) {t x:Nat} (hx:0<x) (hn:x<n) (ht:t<=T):m t x 0=some (rho m t x)/\rho m t x<=0:=by
 obtain ⟨v,h1,h2⟩:=(R.told x hx hn).2
 obtain ⟨v',h3,h4⟩:=R.mono' h2 (ZBa t) ht
 unfold rho
 rw [h4]
 exact ⟨rfl,by show v'<=0;lia⟩
theorem Bd.rho_mono (R:Bd n L most T len m w pt pw) {t x:Nat} (hx:0<x) (hn:x<n) (ht:t<T):rho m (t+1) x<=rho m t x:=by
 obtain ⟨v,h1,h2⟩:=R.mono _ _ _ _ ht (R.rho_is hx hn (ZBb ht)).1
 have:=(R.rho_is (t:=t+1) hx hn ht).1
 rw [h2] at this
 have:=ZA7 this
 lia
theorem Bd.pi_is (R:Bd n L most T len m w pt pw) {t x:Nat} (hx:0<x) (hn:x<n) (ht:t<=T):Kn m t 0 x L:=by
 obtain ⟨v,h1,h2⟩:=(R.told x hx hn).1
 exact R.kn ⟨v,h1,h2⟩ (ZBa t) ht
def zmv (n:Nat) (L:Int) (m:Nat->Nat->Nat->Option Int) (t x:Nat):Prop:= -L<=rho m t x/\∀z,0<z->z<n->z≠x->Kn m t x z (rho m t x+max L (-rho m t z))
def zon (n:Nat) (m:Nat->Nat->Nat->Option Int) (t x:Nat) (l:List Nat):Prop:=l.Nodup/\x∈l/\(∀z∈l,0<z/\z<n)/\∀z∈l,z≠x->Kn m t x z (rho m t x-rho m t z)
theorem zmv.next (R:Bd n L most T len m w pt pw) {t x:Nat} (hx:0<x) (hn:x<n) (ht:t<T) (h:zmv n L m t x) (e:m (t+1) x 0=m t x 0):zmv n L m (t+1) x:=by
 have er:rho m (t+1) x=rho m t x:=by unfold rho;rw [e]
 refine ⟨by rw [er];exact h.1,fun z h1 h2 h3=>?_⟩
 have hz:=R.rho_mono h1 h2 ht
 rw [er]
 exact (R.kn (h.2 z h1 h2 h3) (ZAe t) ht).le (by omega)
theorem zon.next (R:Bd n L most T len m w pt pw) {t x:Nat} {l:List Nat} (ht:t<T) (h:zon n m t x l) (e:m (t+1) x 0=m t x 0):zon n m (t+1) x l:=by
 have er:rho m (t+1) x=rho m t x:=by unfold rho;rw [e]
 obtain ⟨h1,h2,h3,h4⟩:=h
 refine ⟨h1,h2,h3,fun z hz hne=>?_⟩
 have:=R.rho_mono (h3 z hz).1 (h3 z hz).2 ht
 rw [er]
 exact (R.kn (h4 z hz hne) (ZAe t) ht).le (by lia)
theorem zmv.upto (R:Bd n L most T len m w pt pw) {s x:Nat} (hx:0<x) (hn:x<n) (h:zmv n L m s x):∀d,s+d<=T->m (s+d) x 0=m s x 0->zmv n L m (s+d) x
 | 0,_,_=>h
 | d+1,hd,e=>by
  have h1:=(R.rho_is (t:=s) hx hn (by lia)).1
  have h2:m (s+(d+1)) x 0=some (rho m s x):=e.trans h1
  have h3:=R.same h1 h2 (s:=s+d) (by lia) (by lia) hd
  exact zmv.next R (t:=s+d) hx hn (by lia) (zmv.upto R hx hn h d (by lia) (h3.trans h1.symm)) (h2.trans h3.symm)
theorem Bd.looked (R:Bd n L most T len m w pt pw) {s x:Nat} (hs:s<T) (h:pt s x 0) (hx:0<x) (hn:x<n) (e:m (s+1) x 0=m s x 0):zmv n L m (s+1) x:=by
 obtain ⟨h1,_⟩:=R.rho_is (t:=s) hx hn (ZBb hs)
 have er:rho m (s+1) x=rho m s x:=by unfold rho;rw [e]
 obtain ⟨p,hp1,hp2⟩:=R.pi_is hx hn (ZBb hs)
 have hb:=R.bar _ _ _ _ _ hs h h1 hp2
 refine ⟨by rw [er];lia,fun z z1 z2 z3=>?_⟩
 obtain ⟨q,hq1,hq2⟩:=R.pi_is z1 z2 (ZBb hs)
 obtain ⟨y,hy,ey⟩:=R.sum _ _ _ _ _ _ hs h h1 hq2 (ZAl z3)
 refine ⟨y,?_,ey⟩
 rw [er]
 lia
theorem Bd.stands (R:Bd n L most T len m w pt pw) {t0 t x:Nat} (hx:0<x) (hn:x<n) (ht:t<=T) (h0:len t0<=t) (h1:t0<=t) (e:m t x 0=m t0 x 0):zmv n L m t x:=by
 have hr:=(R.rho_is (t:=t) hx hn ht).1
 obtain ⟨s,hs,hp,hv⟩:=R.stay t0 t x 0 _ ht h0 h1 (e.symm.trans hr) hr
 have e1:=R.same hv hr (s:=s+1) (by lia) (by lia) ht
 have hf:=R.looked (by lia) hp hx hn (e1.trans hv.symm)
 have:=zmv.upto R hx hn hf (t-(s+1)) (by lia)
 rw [show s+1+(t-(s+1))=t by lia] at this
 exact this (hr.trans e1.symm)
theorem Bd.over (R:Bd n L most T len m w pt pw) {t x c:Nat} {v q y:Int} (ht:t<T) (hx:0<x) (hn:x<n) (hc:c≠0) (hp:pt t x c) (hv:m t x c=some v) (hq:m t c 0=some q) (hy:m (t+1) x 0=some y) (hle:v+q<=y) (hne:m (t+1) x 0≠m t x 0):
 c<n/\c≠x/\rho m t c=q/\rho m (t+1) x=v+q/\rho m (t+1) x<rho m t x/\rho m (t+1) c<=q:=by
 obtain ⟨l1,l2,l3⟩:=R.lt _ _ _ _ (ZBb ht) hv
 have hq':=(R.rho_is (t:=t) (x:=c) (by lia) l2 (ZBb ht)).1
 rw [hq] at hq'
 have eq:=ZA7 hq'
 obtain ⟨z,hz,ez⟩:=R.sum _ _ _ _ _ _ ht hp hv hq (show x≠0 by lia)
 rw [hy] at ez
 have ez:=ZA7 ez
 have hy':=(R.rho_is (t:=t+1) hx hn ht).1
 rw [hy] at hy'
 have ey:=ZA7 hy'
 have hx':=(R.rho_is (t:=t) hx hn (ZBb ht)).1
 have hmn:=R.rho_mono hx hn ht
 have hcn:=R.rho_mono (x:=c) (by lia) l2 ht
 refine ⟨l2,ZAl l3,eq.symm,by lia,?_,by lia⟩
 have:rho m (t+1) x≠rho m t x:=fun z=>hne (by rw [hx',hy,<-z,ey])
 lia
theorem Bd.overFine (R:Bd n L most T len m w pt pw) {t x c:Nat} {v q y:Int} (ht:t<T) (hx:0<x) (hn:x<n) (hc:c≠0) (hp:pt t x c) (hv:m t x c=some v) (hq:m t c 0=some q) (hy:m (t+1) x 0=some y) (hle:v+q<=y) (hne:m (t+1) x 0≠m t x 0) (h:zmv n L m t c):zmv n L m (t+1) x:=by
 obtain ⟨hcn,hcx,eq,er,hlt,hc1⟩:=R.over ht hx hn hc hp hv hq hy hle hne
 obtain ⟨f1,f2⟩:=h
 have L0:=R.L0
 obtain ⟨u,hu,eu⟩:=f2 x hx hn (ZAl hcx)
 have hb:=R.bar _ _ _ _ _ ht hp hv eu
 rw [eq] at hu
 refine ⟨by omega,fun z h1 h2 h3=>?_⟩
 have hz:=R.rho_mono h1 h2 ht
 by_cases e:z=c
 ·subst e
  obtain ⟨v',hv',ev'⟩:=R.mono _ _ _ _ ht hv
  exact ⟨v',by omega,ev'⟩
 ·obtain ⟨u',hu',eu'⟩:=f2 z h1 h2 e
  obtain ⟨x',hx',ex'⟩:=R.sum _ _ _ _ _ _ ht hp hv eu' (ZAl h3)
  rw [eq] at hu'
  exact ⟨x',by omega,ex'⟩
theorem Bd.overChain (R:Bd n L most T len m w pt pw) {t x c:Nat} {v q y:Int} {l:List Nat} (ht:t<T) (hx:0<x) (hn:x<n) (hc:c≠0) (hp:pt t x c) (hv:m t x c=some v) (hq:m t c 0=some q) (hy:m (t+1) x 0=some y) (hle:v+q<=y) (hne:m (t+1) x 0≠m t x 0) (h:zon n m t c l):zon n m (t+1) x (x::l):=by
 obtain ⟨hcn,hcx,eq,er,hlt,hc1⟩:=R.over ht hx hn hc hp hv hq hy hle hne
 obtain ⟨g1,g2,g3,g4⟩:=h
 have hxl:x∉l:=fun z=>by
  obtain ⟨u,hu,eu⟩:=g4 x z (ZAl hcx)
  have hb:=R.bar _ _ _ _ _ ht hp hv eu
  rw [eq] at hu
  lia
 refine ⟨List.nodup_cons.mpr ⟨hxl,g1⟩,ZA5,fun z hz=>?_,fun z hz hne'=>?_⟩
 ·rcases ZBe.mp hz with rfl | hz
  ·exact ⟨hx,hn⟩
  ·exact g3 z hz
 ·rcases ZBe.mp hz with e | hz
  ·exact absurd e hne'
  ·have hzr:=R.rho_mono (g3 z hz).1 (g3 z hz).2 ht
   by_cases e:z=c
   ·subst e
    obtain ⟨v',hv',ev'⟩:=R.mono _ _ _ _ ht hv
    exact ⟨v',by lia,ev'⟩
   ·obtain ⟨u',hu',eu'⟩:=g4 z hz e
    obtain ⟨x',hx',ex'⟩:=R.sum _ _ _ _ _ _ ht hp hv eu' (ZAl hne')
    rw [eq] at hu'
    exact ⟨x',by lia,ex'⟩
def gen (len:Nat->Nat):Nat->Nat
 | 0=>0
 | g+1=>len (gen len g)
def zvq (n:Nat) (most:Int) (m:Nat->Nat->Nat->Option Int) (pt:Nat->Nat->Nat->Prop) (t:Nat):Prop:=(∃c,pt t c 0)\/∃x y,0<x/\x<n/\m (t+1) x 0=some y/\m (t+1) x 0≠m t x 0/\-most<=y
def zvw (n:Nat) (L:Int) (m:Nat->Nat->Nat->Option Int) (k t0 t:Nat):Prop:=∀x,0<x->x<n->zmv n L m t x\/∃l,zon n m t x l/\(k+1<=l.length\/(k<=l.length/\m t x 0=m t0 x 0))
theorem Bd.calm_step (R:Bd n L most T len m w pt pw) {k t0 t:Nat} (ht:t<T) (hs:¬zvq n most m pt t) (h:zvw n L m k t0 t):zvw n L m k t0 (t+1):=fun x hx hn=>by
 by_cases e:m (t+1) x 0=m t x 0
 ·rcases h x hx hn with f | ⟨l,c,hl⟩
  ·exact .inl (f.next R hx hn ht e)
  ·refine .inr ⟨l,c.next R ht e,?_⟩
   rcases hl with hl | ⟨hl,e0⟩
   ·exact .inl hl
   ·exact .inr ⟨hl,e.trans e0⟩
 ·rcases R.cause t x 0 ht e with ⟨c,v,q,y,hp,hc,hv,hq,hy,hle⟩ | ⟨c,hp,_⟩ | ⟨e',y,_,hy,hlo⟩
  ·obtain ⟨hcn,_⟩:=R.over ht hx hn hc hp hv hq hy hle e
   rcases h c (by lia) hcn with f | ⟨l,ch,hl⟩
   ·exact .inl (R.overFine ht hx hn hc hp hv hq hy hle e f)
   ·refine .inr ⟨x::l,R.overChain ht hx hn hc hp hv hq hy hle e ch,.inl ?_⟩
    rw [ZBp]
    rcases hl with hl | ⟨hl,_⟩<;>lia
  ·exact absurd (.inl ⟨c,hp⟩) hs
  ·exact absurd (.inr ⟨x,y,hx,hn,hy,e,hlo⟩) hs
theorem Bd.calm_gen (R:Bd n L most T len m w pt pw) {k t0:Nat} (hs:∀t,t0<=t->t<len t0->¬zvq n most m pt t) (h:zvw n L m k t0 t0):∀d,t0+d<=T->t0+d<=len t0->zvw n L m k t0 (t0+d)
 | 0,_,_=>h
 | d+1,h1,h2=>R.calm_step (t:=t0+d) (by lia) (hs (t0+d) (by lia) (by lia)) (R.calm_gen hs h d (by lia) (by lia))
theorem Bd.calm_next (R:Bd n L most T len m w pt pw) {k t0:Nat} (h0:t0<=len t0) (hT:len t0<=T) (hs:∀t,t0<=t->t<len t0->¬zvq n most m pt t) (h:zvw n L m k t0 t0):zvw n L m (k+1) (len t0) (len t0):=fun x hx hn=>by
 have:=R.calm_gen hs h (len t0-t0) (by lia) (by lia)
 rw [show t0+(len t0-t0)=len t0 by lia] at this
 rcases this x hx hn with f | ⟨l,c,hl⟩
 ·exact .inl f
 ·rcases hl with hl | ⟨hl,e⟩
  ·exact .inr ⟨l,c,.inr ⟨hl,rfl⟩⟩
  ·exact .inl (R.stands hx hn hT (ZAw _) h0 e)
theorem Bd.gen_le (R:Bd n L most T len m w pt pw) {g:Nat} (h:gen len g<=T) (h2:gen len (g+1)<=T):gen len g<=gen len (g+1):=by
 by_cases c:gen len g=T
 ·rw [c]
  show T<=len (gen len g)
  rw [c]
  have:gen len (g+1)=len T:=by show len (gen len g)=_;rw [c]
  by_cases z:T=0
  ·lia
  ·have h3:=R.go (T-1) (by lia)
   have h4:=R.lenm (T-1) (by lia)
   rw [show T-1+1=T by lia] at h4
   lia
 ·exact ZBb (R.go _ (by lia))
theorem Bd.calm_all (R:Bd n L most T len m w pt pw) {g:Nat}:∀k,gen len (g+k)<=T->(∀i,i<=k->gen len (g+i)<=T)->(∀t,gen len g<=t->t<gen len (g+k)->¬zvq n most m pt t)->(∀i,i<=k->gen len g<=gen len (g+i))->(∀i,i<k->gen len (g+i)<=gen len (g+k))->zvw n L m (k+1) (gen len (g+k)) (gen len (g+k))
 | 0,_,_,_,_,_=>fun x hx hn=>.inr ⟨[x],⟨List.nodup_cons.mpr ⟨by simp,List.nodup_nil⟩,ZA5,fun z hz=>by rw [ZBd.mp hz];exact ⟨hx,hn⟩,fun z hz hne=>absurd (ZBd.mp hz) hne⟩,.inr ⟨ZAw _,rfl⟩⟩
 | k+1,hT,hle,hs,hm,hu=>by
  have h1:gen len (g+k)<=gen len (g+(k+1)):=hu k (by lia)
  have ih:=R.calm_all (g:=g) k (hle k (by lia)) (fun i hi=>hle i (by lia)) (fun t a b=>hs t a (by lia)) (fun i hi=>hm i (by lia)) (fun i hi=>by
   have h2:∀j,j<=k-i->gen len (g+i)<=gen len (g+(i+j)):=fun j=>by
    induction j with
    | zero=>intro _;exact ZAw _
    | succ j ih=>
     intro hj
     exact ZBg (ih (by lia)) (R.gen_le (g:=g+(i+j)) (hle (i+j) (by lia)) (hle (i+j+1) (by lia)))
   have:=h2 (k-i) (ZAw _)
   rwa [show i+(k-i)=k by lia] at this)
  exact R.calm_next (t0:=gen len (g+k)) h1 hT (fun t a b=>hs t (by have:=hm k (by lia);lia) b) ih
end
end MH
set_option maxRecDepth 4000
namespace MH
theorem zf6 {P:Nat->Prop} {N M:Nat} (Rl:Nat->Nat->Prop) (h:∀i,i<N->P i->∃c,c<M/\Rl i c) (hi:∀i j c,i<j->j<N->P i->P j->Rl i c->Rl j c->False):cnt P N<=M:=by
 classical
 refine zxd (fun i=>if z:∃c,c<M/\Rl i c then Classical.choose z else 0) (fun i hN hP=>?_) (fun i j hij hN hP hP' e=>?_)
 ·have z:=h i hN hP
  show (if z:∃c,c<M/\Rl i c then Classical.choose z else 0)<M
  rw [dif_pos z]
  exact (Classical.choose_spec z).1
 ·have z1:=h i (by lia) hP
  have z2:=h j hN hP'
  have e:(if z:∃c,c<M/\Rl i c then Classical.choose z else 0)=(if z:∃c,c<M/\Rl j c then Classical.choose z else 0):=e
  rw [dif_pos z1,dif_pos z2] at e
  have h1:=(Classical.choose_spec z1).2
  have h2:=(Classical.choose_spec z2).2
  rw [<-e] at h2
  exact hi i j _ hij hN hP hP' h1 h2
theorem zq5 {P:Nat->Prop}:∀{N:Nat},(∀i,i<N->P i)->cnt P N=N
 | 0,_=>rfl
 | N+1,h=>by rw [zdv (h N (by lia)),zq5 fun i hi=>h i (by lia)]
theorem dec {k a r a' r':Nat} (hr:r<k) (hr':r'<k) (h:a*k+r=a'*k+r'):a=a'/\r=r':=by
 have hk:0<k:=by lia
 have e1:(a*k+r) / k=a:=by rw [Nat.add_comm,Nat.add_mul_div_right _ _ hk,Nat.div_eq_of_lt hr,Nat.zero_add]
 have e2:(a'*k+r') / k=a':=by rw [Nat.add_comm,Nat.add_mul_div_right _ _ hk,Nat.div_eq_of_lt hr',Nat.zero_add]
 rw [h,e2] at e1
 subst e1
 exact ⟨rfl,by lia⟩
theorem enc {k a r N:Nat} (ha:a<N) (hr:r<k):a*k+r<N*k:=by
 have h1:(a+1)*k<=N*k:=Nat.mul_le_mul_right _ ha
 rw [Nat.add_mul,Nat.one_mul] at h1
 lia
section
variable {n l mo T:Nat} {len:Nat->Nat} {m w:Nat->Nat->Nat->Option Int} {pt pw:Nat->Nat->Nat->Prop}
theorem Bd.growth {L most:Int} (R:Bd n L most T len m w pt pw) {t0:Nat}:∀d,t0+d<=T->len (t0+d)<=len t0+26*cnt (fun i=>∃a b,pt (t0+i) a b) d+10*cnt (fun i=>∃a b,pw (t0+i) a b) d
 | 0,_=>by show len t0<=_;lia
 | d+1,h=>by
  have ih:=R.growth (t0:=t0) d (by lia)
  have hT:t0+d<T:=by lia
  show len (t0+d+1)<=_
  by_cases c:∃a b,pt (t0+d) a b
  ·rw [zdv c]
   have h1:=R.grow (t0+d) hT
   have h2:cnt (fun i=>∃a b,pw (t0+i) a b) d<=cnt (fun i=>∃a b,pw (t0+i) a b) (d+1):=by
    by_cases z:∃a b,pw (t0+d) a b
    ·rw [zdv z];lia
    ·rw [zgm z];lia
   lia
  ·rw [zgm c]
   have c':∀a b,¬pt (t0+d) a b:=fun a b z=>c ⟨a,b,z⟩
   by_cases z:∃a b,pw (t0+d) a b
   ·rw [zdv z]
    have:=R.growW (t0+d) hT c'
    lia
   ·rw [zgm z]
    have:=R.grow0 (t0+d) hT c' fun a b q=>z ⟨a,b,q⟩
    lia
theorem Bd.len_le {L most:Int} (R:Bd n L most T len m w pt pw) {t:Nat}:∀d,t+d<=T->len t<=len (t+d)
 | 0,_=>ZAw _
 | d+1,h=>ZBg (R.len_le d (by lia)) (R.lenm (t+d) (by lia))
theorem Bd.len_mono {L most:Int} (R:Bd n L most T len m w pt pw) {t t':Nat} (h:t<=t') (hT:t'<=T):len t<=len t':=by
 have:=R.len_le (t:=t) (t'-t) (by lia)
 rwa [show t+(t'-t)=t' by lia] at this
theorem Bd.per_gen {L most:Int} (R:Bd n L most T len m w pt pw) {t0 d:Nat} (hT:t0+d<=T) (hl:t0+d<=len t0):len (t0+d)<=len t0+2304:=by
 have h:=R.growth d hT
 have h8:=R.n8
 have c1:cnt (fun i=>∃a b,pt (t0+i) a b) d<=64:=by
  refine zf6 (fun i c=>∃a b,pt (t0+i) a b/\a<8/\b<8/\c=a*8+b) (fun i hi hP=>?_) (fun i j c hij hj _ _ h1 h2=>?_)
  ·obtain ⟨a,b,hp⟩:=hP
   obtain ⟨v,hv⟩:=R.known _ _ _ (show t0+i<T by lia) hp
   obtain ⟨l1,l2,_⟩:=R.lt _ _ _ _ (show t0+i<=T by lia) hv
   exact ⟨a*8+b,by lia,a,b,hp,by lia,by lia,rfl⟩
  ·obtain ⟨a,b,hp,ha,hb,e1⟩:=h1
   obtain ⟨a',b',hp',ha',hb',e2⟩:=h2
   obtain ⟨rfl,rfl⟩:=dec hb hb' (e1.symm.trans e2)
   have:=R.once _ _ _ _ (show t0+i<t0+j by lia) (by lia) hp hp'
   have:=R.len_mono (show t0<=t0+i by lia) (by lia)
   lia
 have c2:cnt (fun i=>∃a b,pw (t0+i) a b) d<=64:=by
  refine zf6 (fun i c=>∃a b,pw (t0+i) a b/\a<8/\b<8/\c=a*8+b) (fun i hi hP=>?_) (fun i j c hij hj _ _ h1 h2=>?_)
  ·obtain ⟨a,b,hp⟩:=hP
   obtain ⟨l1,l2,_⟩:=R.wknown _ _ _ (show t0+i<T by lia) hp
   exact ⟨a*8+b,by lia,a,b,hp,by lia,by lia,rfl⟩
  ·obtain ⟨a,b,hp,ha,hb,e1⟩:=h1
   obtain ⟨a',b',hp',ha',hb',e2⟩:=h2
   obtain ⟨rfl,rfl⟩:=dec hb hb' (e1.symm.trans e2)
   have:=R.wonce _ _ _ _ (show t0+i<t0+j by lia) (by lia) hp hp'
   have:=R.len_mono (show t0<=t0+i by lia) (by lia)
   lia
 lia
theorem Bd.gens {L most:Int} (R:Bd n L most T len m w pt pw):∀N,((∀i,i<=N->gen len i<=T)/\len (gen len N)<=len 0+2304*N)\/len T<=len 0+2304*N
 | 0=>.inl ⟨fun i hi=>by rw [show i=0 by lia];exact ZBa _,ZAw _⟩
 | N+1=>by
  rcases R.gens N with ⟨h,hl⟩ | h
  ·have h0:=h N (ZAw _)
   by_cases c:gen len (N+1)<=T
   ·refine .inl ⟨fun i hi=>?_,?_⟩
    ·by_cases e:i=N+1
     ·rw [e];exact c
     ·exact h i (by lia)
    ·have h1:=R.gen_le h0 c
     have:=R.per_gen (t0:=gen len N) (d:=gen len (N+1)-gen len N) (by lia) (by show _<=gen len (N+1);lia)
     rw [show gen len N+(gen len (N+1)-gen len N)=gen len (N+1) by lia] at this
     rw [Nat.mul_succ,<-Nat.add_assoc]
     exact ZBg this (Nat.add_le_add_right hl _)
   ·right
    have:=R.per_gen (t0:=gen len N) (d:=T-gen len N) (by lia) (by show _<=gen len (N+1);lia)
    rw [show gen len N+(T-gen len N)=T by lia] at this
    rw [Nat.mul_succ,<-Nat.add_assoc]
    exact ZBg this (Nat.add_le_add_right hl _)
  ·right
   rw [Nat.mul_succ,<-Nat.add_assoc]
   exact ZBg h (Nat.le_add_right _ _)
theorem Bd.gen_mono {L most:Int} (R:Bd n L most T len m w pt pw) {N:Nat} (h:∀i,i<=N->gen len i<=T) {i:Nat}:∀j,i+j<=N->gen len i<=gen len (i+j)
 | 0,_=>ZAw _
 | j+1,hj=>ZBg (R.gen_mono h j (by omega)) (R.gen_le (g:=i+j) (h (i+j) (by omega)) (h (i+j+1) (by omega)))
theorem Bd.narrow (R:Bd n (l:Int) (mo:Int) T len m w pt pw) {g:Nat} (hg:∀i,i<=g+7->gen len i<=T) (hs:∀t,gen len g<=t->t<gen len (g+7)->¬zvq n (mo:Int) m pt t):∀a b,a<n->b<n->a≠b->Kn m (gen len (g+7)) a b (l:Int):=by
 have hT:=hg (g+7) (ZAw _)
 have c:=R.calm_all (g:=g) 7 hT (fun i hi=>hg _ (by lia)) hs (fun i hi=>R.gen_mono hg i (by lia)) (fun i hi=>by
  have:=R.gen_mono hg (i:=g+i) (7-i) (by lia)
  rwa [show g+i+(7-i)=g+7 by lia] at this)
 have h8:=R.n8
 have fine:∀x,0<x->x<n->zmv n (l:Int) m (gen len (g+7)) x:=fun x hx hn=>by
  rcases c x hx hn with f | ⟨ls,⟨c1,c2,c3,_⟩,hl⟩
  ·exact f
  ·exfalso
   have:=zey 8 (0::ls) (List.nodup_cons.mpr ⟨fun z=>by have:=(c3 0 z).1;lia,c1⟩) (fun z hz=>by
    rcases ZBe.mp hz with e | hz
    ·lia
    ·have:=(c3 z hz).2;lia)
   rw [ZBp] at this
   lia
 intro a b ha hb hab
 by_cases e:a=0
 ·subst e
  exact R.pi_is (by lia) hb hT
 ·by_cases e':b=0
  ·subst e'
   obtain ⟨h1,h2⟩:=R.rho_is (t:=gen len (g+7)) (by lia) ha hT
   exact ⟨_,by lia,h1⟩
  ·have h1:=(fine a (by lia) ha).2 b (by lia) hb (ZAl hab)
   have h2:=(fine b (by lia) hb).1
   have h3:=(R.rho_is (t:=gen len (g+7)) (x:=a) (by lia) ha hT).2
   exact h1.le (by lia)
theorem Bd.quiet (R:Bd n (l:Int) (mo:Int) T len m w pt pw) {N:Nat} (hN:N=8*(l+1)+8*(mo+1)+1) (hg:∀i,i<=7*N->gen len i<=T):∃b,b<N/\∀t,gen len (7*b)<=t->t<gen len (7*b+7)->¬zvq n (mo:Int) m pt t:=by
 refine ZAz fun hn=>?_
 have hs:∀b,b<N->∃t,gen len (7*b)<=t/\t<gen len (7*b+7)/\zvq n (mo:Int) m pt t:=fun b hb=>by
  refine ZAz fun h=>hn ⟨b,hb,fun t h1 h2 h3=>h ⟨t,h1,h2,h3⟩⟩
 have h8:=R.n8
 have tT:∀{b t},b<N->t<gen len (7*b+7)->t<T:=fun {b t} hb ht=>by
  have:=hg (7*b+7) (by lia)
  lia
 have key:=zf6 (P:=fun _=>True) (N:=N) (M:=8*(l+1)+8*(mo+1)) (fun b c=>∃t,gen len (7*b)<=t/\t<gen len (7*b+7)/\((∃x r,pt t x 0/\x<8/\r<l+1/\m t x 0=some (-(r:Int))/\c=x*(l+1)+r)\/
  ∃x r,x<8/\r<mo+1/\m (t+1) x 0=some (-(r:Int))/\m (t+1) x 0≠m t x 0/\c=8*(l+1)+(x*(mo+1)+r))) (fun b hb _=>by
  obtain ⟨t,h1,h2,h3⟩:=hs b hb
  have ht:=tT hb h2
  rcases h3 with ⟨x,hp⟩ | ⟨x,y,hx,hxn,hy,hne,hlo⟩
  ·obtain ⟨v,hv⟩:=R.known _ _ _ ht hp
   obtain ⟨l1,_,l3⟩:=R.lt _ _ _ _ (ZBb ht) hv
   obtain ⟨e1,e2⟩:=R.rho_is (t:=t) (x:=x) (by lia) l1 (ZBb ht)
   rw [hv] at e1
   have e1:=ZA7 e1
   obtain ⟨p,hp1,hp2⟩:=R.pi_is (t:=t) (x:=x) (by lia) l1 (ZBb ht)
   have hb:=R.bar _ _ _ _ _ ht hp hv hp2
   have hr:(-v).toNat<l+1:=by lia
   exact ⟨x*(l+1)+(-v).toNat,by have:=enc (a:=x) (N:=8) (show x<8 by lia) hr;lia,t,h1,h2,.inl ⟨x,(-v).toNat,hp,by lia,hr,by rw [hv];congr 1;lia,rfl⟩⟩
  ·obtain ⟨e1,e2⟩:=R.rho_is (t:=t+1) hx hxn (show t+1<=T by lia)
   rw [hy] at e1
   have e1:=ZA7 e1
   have hr:(-y).toNat<mo+1:=by lia
   exact ⟨8*(l+1)+(x*(mo+1)+(-y).toNat),by have:=enc (a:=x) (N:=8) (show x<8 by lia) hr;lia,t,h1,h2,.inr ⟨x,(-y).toNat,by lia,hr,by rw [hy];congr 1;lia,hne,rfl⟩⟩)
  (fun b b' c hbb hb' _ _ h1 h2=>by
   obtain ⟨t,t1,t2,h1⟩:=h1
   obtain ⟨t',t1',t2',h2⟩:=h2
   have htt:t<t':=by
    have:=R.gen_mono hg (i:=7*b+7) (7*b'-(7*b+7)) (by lia)
    rw [show 7*b+7+(7*b'-(7*b+7))=7*b' by lia] at this
    lia
   have hT':=tT hb' t2'
   rcases h1 with ⟨x,r,hp,hx,hr,hv,e1⟩ | ⟨x,r,hx,hr,hv,hne,e1⟩
   ·rcases h2 with ⟨x',r',hp',hx',hr',hv',e2⟩ | ⟨x',r',hx',hr',hv',hne',e2⟩
    ·obtain ⟨rfl,rfl⟩:=dec hr hr' (e1.symm.trans e2)
     have:=R.drop _ _ _ _ _ _ htt hT' hp hp' hv hv'
     lia
    ·have:=enc (a:=x) (N:=8) hx hr
     lia
   ·rcases h2 with ⟨x',r',hp',hx',hr',hv',e2⟩ | ⟨x',r',hx',hr',hv',hne',e2⟩
    ·have:=enc (a:=x') (N:=8) hx' hr'
     lia
    ·obtain ⟨rfl,rfl⟩:=dec hr hr' (show x*(mo+1)+r=x'*(mo+1)+r' by lia)
     have:=R.same hv hv' (s:=t') (by lia) (by lia) (by lia)
     exact hne' (hv'.trans this.symm))
 rw [zq5 fun i _=>trivial] at key
 lia
end
section
variable {n l mo T:Nat} {len:Nat->Nat} {m w:Nat->Nat->Nat->Option Int} {pt pw:Nat->Nat->Nat->Prop}
theorem Bd.gen_of {L most:Int} (R:Bd n L most T len m w pt pw) {t:Nat} (ht:t<T):∃g,(∀i,i<=g->gen len i<=t)/\t<gen len (g+1):=by
 have key:∀N,(∀i,i<=N->gen len i<=t/\i<=gen len i)\/∃g,(∀i,i<=g->gen len i<=t)/\t<gen len (g+1):=by
  intro N
  induction N with
  | zero=>exact .inl fun i hi=>by rw [show i=0 by lia];exact ⟨ZBa _,ZBa _⟩
  | succ N ih=>
   rcases ih with h | h
   ·by_cases c:gen len (N+1)<=t
    ·refine .inl fun i hi=>?_
     by_cases e:i=N+1
     ·rw [e]
      have h1:=h N (ZAw _)
      have h2:gen len N<gen len (N+1):=R.go (gen len N) (by lia)
      exact ⟨c,by lia⟩
     ·exact h i (by lia)
    ·exact .inr ⟨N,fun i hi=>(h i hi).1,by lia⟩
   ·exact .inr h
 rcases key (t+1) with h | h
 ·have:=h (t+1) (ZAw _)
  lia
 ·exact h
theorem Bd.gen_up {L most:Int} (R:Bd n L most T len m w pt pw) {g g' t:Nat} (h:∀i,i<=g'->gen len i<=t) (ht:t<=T) (hg:g<=g'):gen len g<=gen len g':=by
 have:=R.gen_mono (N:=g') (fun i hi=>ZBg (h i hi) ht) (i:=g) (g'-g) (by lia)
 rwa [show g+(g'-g)=g' by lia] at this
theorem Bd.wait_top {L most:Int} (R:Bd n L most T len m w pt pw) {B:Int} (hB:0<=B) {t:Nat} (hT:t<=T) (h:∀x y v,m t x y=some v->-B<=v):∀s,s<=t->∀a b v,w s a b=some v->v<=most+B
 | 0,_,a,b,v,e=>by rw [R.wnone] at e;cases e
 | s+1,hs,a,b,v,e=>by
  by_cases c:w (s+1) a b=w s a b
  ·exact R.wait_top hB hT h s (by lia) a b v (c▸e)
  ·obtain ⟨y,h1,h2⟩:=R.wcause s a b B (by lia) hB (fun x y v' e'=>by
    obtain ⟨v2,l2,e2⟩:=R.mono' e' hs hT
    have:=h x y v2 e2
    lia) c
   rw [e] at h1
   cases h1
   exact h2
theorem Bd.still (R:Bd n (l:Int) (mo:Int) T len m w pt pw) {g:Nat} (hg:∀i,i<=g+1->gen len i<=T) (hk:∀a b,a<n->b<n->a≠b->Kn m (gen len g) a b (l:Int))
 (hq:∀τ,gen len g<=τ->τ<gen len (g+1)->(∀a b,¬pt τ a b)/\∀a b,m (τ+1) a b=m τ a b) {t a b:Nat} {v:Int} (h1:gen len g<=t) (h2:t<gen len (g+1)) (hp:pw t a b) (hv:w t a b=some v):1-(l:Int)<=v/\v<=(mo:Int)+l:=by
 have hT:=hg (g+1) (ZAw _)
 have hgg:=R.gen_le (hg g (by lia)) hT
 have same:∀x y d,gen len g+d<=gen len (g+1)->m (gen len g+d) x y=m (gen len g) x y:=fun x y d=>by
  induction d with
  | zero=>intro _;rfl
  | succ d ih=>exact fun hd=>((hq (gen len g+d) (by lia) (by lia)).2 x y).trans (ih (by lia))
 have hend:∀x y,m (gen len (g+1)) x y=m (gen len g) x y:=fun x y=>by
  have:=same x y (gen len (g+1)-gen len g) (by lia)
  rwa [show gen len g+(gen len (g+1)-gen len g)=gen len (g+1) by lia] at this
 have seen:∀x y q,m (gen len (g+1)) x y=some q->∃s,s<gen len g/\pt s x y/\m s x y=some q:=fun x y q hq'=>by
  obtain ⟨s,hs,hp,hv⟩:=R.stay (gen len g) (gen len (g+1)) x y q hT (ZAw _) hgg ((hend x y).symm.trans hq') hq'
  refine ⟨s,?_,hp,hv⟩
  refine ZAz fun c=>?_
  exact (hq s (by lia) hs).1 x y hp
 have kn:∀x y,x<n->y<n->x≠y->Kn m (gen len (g+1)) x y (l:Int):=fun x y hx hy hxy=>R.kn (hk x y hx hy hxy) hgg hT
 have low:∀x y q,m (gen len (g+1)) x y=some q->-(l:Int)<=q:=fun x y q hq'=>by
  obtain ⟨x1,x2,x3⟩:=R.lt _ _ _ _ hT hq'
  obtain ⟨q',hl',e'⟩:=kn y x x2 x1 (ZAl x3)
  obtain ⟨s,hs,ps,vs⟩:=seen x y q hq'
  obtain ⟨s',hs',ps',vs'⟩:=seen y x q' e'
  have gT:=hg g (by lia)
  rcases Nat.lt_trichotomy s s' with c | c | c
  ·have:=R.same vs hq' (s:=s') (by lia) (by lia) hT
   have:=R.bar _ _ _ _ _ (by lia) ps' vs' this
   lia
  ·subst c
   have:=(R.one _ _ _ _ _ (by lia) ps ps').1
   lia
  ·have:=R.same vs' e' (s:=s) (by lia) (by lia) hT
   have:=R.bar _ _ _ _ _ (by lia) ps vs this
   lia
 refine ⟨?_,R.wait_top (Int.natCast_nonneg l) hT (fun x y v e=>low x y v e) t (by lia) a b v hv⟩
 obtain ⟨p1,p2,p3,_⟩:=R.wknown _ _ _ (by lia) hp
 obtain ⟨q,hl',e'⟩:=kn a b p1 p2 p3
 obtain ⟨s,hs,ps,vs⟩:=seen a b q e'
 have:=R.late _ _ _ _ _ _ (by lia) ps vs (show s<=t by lia) (by lia) hp hv
 lia
theorem Bd.after (R:Bd n (l:Int) (mo:Int) T len m w pt pw) {g1:Nat} (hg1:∀i,i<=g1->gen len i<=T) (hk:∀a b,a<n->b<n->a≠b->Kn m (gen len g1) a b (l:Int)):
 len T<=len (gen len g1)+26*(64*(2*l+1))+10*((64*(2*l+1)+64*(mo+l+1))*64+(64*(mo+2*l+1)+64)):=by
 have h1:=hg1 g1 (ZAw _)
 have h8:=R.n8
 have g:=R.growth (t0:=gen len g1) (T-gen len g1) (by lia)
 rw [show gen len g1+(T-gen len g1)=T by lia] at g
 have kn:∀t x y,gen len g1<=t->t<=T->x<n->y<n->x≠y->Kn m t x y (l:Int):=fun t x y ht hT hx hy hxy=>R.kn (hk x y hx hy hxy) ht hT
 have tie:∀t a b,gen len g1<=t->t<T->pt t a b->∃r,a<8/\b<8/\r<2*l+1/\m t a b=some ((r:Int)-l):=fun t a b h h' hp=>by
  obtain ⟨v,hv⟩:=R.known _ _ _ h' hp
  obtain ⟨l1,l2,l3⟩:=R.lt _ _ _ _ (ZBb h') hv
  obtain ⟨v1,hle,e1⟩:=kn t a b h (ZBb h') l1 l2 l3
  rw [hv] at e1
  cases e1
  obtain ⟨u,hu,eu⟩:=kn t b a h (ZBb h') l2 l1 (ZAl l3)
  have:=R.bar _ _ _ _ _ h' hp hv eu
  exact ⟨(v+l).toNat,by lia,by lia,by lia,by rw [hv];congr 1;lia⟩
 have c1:cnt (fun i=>∃a b,pt (gen len g1+i) a b) (T-gen len g1)<=64*(2*l+1):=by
  refine zf6 (fun i c=>∃a b r,pt (gen len g1+i) a b/\a<8/\b<8/\r<2*l+1/\m (gen len g1+i) a b=some ((r:Int)-l)/\c=(a*8+b)*(2*l+1)+r) (fun i hi hP=>?_) (fun i j c hij hj _ _ z1 z2=>?_)
  ·obtain ⟨a,b,hp⟩:=hP
   obtain ⟨r,x1,x2,x3,x4⟩:=tie _ a b (Nat.le_add_right _ _) (by lia) hp
   exact ⟨_,enc (show a*8+b<64 by lia) x3,a,b,r,hp,x1,x2,x3,x4,rfl⟩
  ·obtain ⟨a,b,r,hp,x1,x2,x3,x4,e1⟩:=z1
   obtain ⟨a',b',r',hp',y1,y2,y3,y4,e2⟩:=z2
   obtain ⟨ek,rfl⟩:=dec x3 y3 (e1.symm.trans e2)
   obtain ⟨rfl,rfl⟩:=dec x2 y2 ek
   have:=R.drop _ _ _ _ _ _ (show gen len g1+i<gen len g1+j by lia) (by lia) hp hp' x4 y4
   lia
 have c2:cnt (fun i=>∃a b,pw (gen len g1+i) a b) (T-gen len g1)<=(64*(2*l+1)+64*(mo+l+1))*64+(64*(mo+2*l+1)+64):=by
  let Ga:Nat->Nat->Prop:=fun t g=>(∀i,i<=g->gen len i<=t)/\t<gen len (g+1)/\gen len (g+1)<=T
  let St:Nat->Prop:=fun τ=>(∃a b,pt τ a b)\/∃a b,m (τ+1) a b≠m τ a b
  have up:∀{t g},gen len g1<=t->t<T->(∀i,i<=g->gen len i<=t)->t<gen len (g+1)->g1<=g:=fun {t g} h h' z1 z2=>by
   refine ZAz fun c=>?_
   have:=R.gen_mono hg1 (i:=g+1) (g1-(g+1)) (by lia)
   rw [show g+1+(g1-(g+1))=g1 by lia] at this
   lia
  have s1:=zq4 (P:=fun i=>∃a b,pw (gen len g1+i) a b/\gen len g1+i<T) (Q:=fun i=>(∃a b,pw (gen len g1+i) a b)/\∃g,Ga (gen len g1+i) g/\∃τ,gen len g<=τ/\τ<gen len (g+1)/\St τ)
   (R:=fun i=>(∃a b,pw (gen len g1+i) a b)/\((∃g,Ga (gen len g1+i) g/\∀τ,gen len g<=τ->τ<gen len (g+1)->¬St τ)\/∃g,gen len g<=gen len g1+i/\T<gen len (g+1))) (fun i hP=>by
    obtain ⟨a,b,hp,hT⟩:=hP
    obtain ⟨g,z1,z2⟩:=R.gen_of hT
    by_cases c:gen len (g+1)<=T
    ·by_cases d:∃τ,gen len g<=τ/\τ<gen len (g+1)/\St τ
     ·exact .inl ⟨⟨a,b,hp⟩,g,⟨z1,z2,c⟩,d⟩
     ·exact .inr ⟨⟨a,b,hp⟩,.inl ⟨g,⟨z1,z2,c⟩,fun τ y1 y2 y3=>d ⟨τ,y1,y2,y3⟩⟩⟩
    ·exact .inr ⟨⟨a,b,hp⟩,.inr ⟨g,z1 g (ZAw _),by lia⟩⟩) (T-gen len g1)
  have s0:cnt (fun i=>∃a b,pw (gen len g1+i) a b) (T-gen len g1)=cnt (fun i=>∃a b,pw (gen len g1+i) a b/\gen len g1+i<T) (T-gen len g1):=by
   have:∀N,N<=T-gen len g1->cnt (fun i=>∃a b,pw (gen len g1+i) a b) N=cnt (fun i=>∃a b,pw (gen len g1+i) a b/\gen len g1+i<T) N:=fun N=>by
    induction N with
    | zero=>intro _;rfl
    | succ N ih=>
     intro hN
     by_cases c:∃a b,pw (gen len g1+N) a b
     ·obtain ⟨a,b,hp⟩:=c
      rw [zdv ⟨a,b,hp⟩,zdv (P:=fun i=>∃a b,pw (gen len g1+i) a b/\gen len g1+i<T) ⟨a,b,hp,by lia⟩,ih (by lia)]
     ·rw [zgm c,zgm (P:=fun i=>∃a b,pw (gen len g1+i) a b/\gen len g1+i<T) fun ⟨a,b,hp,_⟩=>c ⟨a,b,hp⟩,ih (by lia)]
   exact this _ (ZAw _)
  have s2:=zq4 (P:=fun i=>(∃a b,pw (gen len g1+i) a b)/\((∃g,Ga (gen len g1+i) g/\∀τ,gen len g<=τ->τ<gen len (g+1)->¬St τ)\/∃g,gen len g<=gen len g1+i/\T<gen len (g+1)))
   (Q:=fun i=>(∃a b,pw (gen len g1+i) a b)/\∃g,Ga (gen len g1+i) g/\∀τ,gen len g<=τ->τ<gen len (g+1)->¬St τ) (R:=fun i=>(∃a b,pw (gen len g1+i) a b)/\∃g,gen len g<=gen len g1+i/\T<gen len (g+1)) (fun i hP=>hP.2.elim (fun z=>.inl ⟨hP.1,z⟩) fun z=>.inr ⟨hP.1,z⟩) (T-gen len g1)
  have key8:∀{t a b},t<T->pw t a b->a<8/\b<8:=fun {t a b} h hp=>by
   obtain ⟨x1,x2,_⟩:=R.wknown _ _ _ h hp
   exact ⟨by lia,by lia⟩
  have d3:cnt (fun i=>(∃a b,pw (gen len g1+i) a b)/\∃g,gen len g<=gen len g1+i/\T<gen len (g+1)) (T-gen len g1)<=64:=by
   refine zf6 (fun i c=>∃a b,pw (gen len g1+i) a b/\a<8/\b<8/\c=a*8+b) (fun i hi hP=>?_) (fun i j c hij hj hP _ z1 z2=>?_)
   ·obtain ⟨⟨a,b,hp⟩,_⟩:=hP
    obtain ⟨x1,x2⟩:=key8 (show gen len g1+i<T by lia) hp
    exact ⟨a*8+b,by lia,a,b,hp,x1,x2,rfl⟩
   ·obtain ⟨_,g,z3,z4⟩:=hP
    obtain ⟨a,b,hp,x1,x2,e1⟩:=z1
    obtain ⟨a',b',hp',y1,y2,e2⟩:=z2
    obtain ⟨rfl,rfl⟩:=dec x2 y2 (e1.symm.trans e2)
    have q1:=R.wonce _ _ _ _ (show gen len g1+i<gen len g1+j by lia) (by lia) hp hp'
    have q2:gen len (g+1)<=len (gen len g1+i):=R.len_mono z3 (by lia)
    lia
  have d2:cnt (fun i=>(∃a b,pw (gen len g1+i) a b)/\∃g,Ga (gen len g1+i) g/\∀τ,gen len g<=τ->τ<gen len (g+1)->¬St τ) (T-gen len g1)<=64*(mo+2*l+1):=by
   refine zf6 (fun i c=>∃a b r,pw (gen len g1+i) a b/\a<8/\b<8/\r<mo+2*l+1/\w (gen len g1+i) a b=some ((r:Int)+1-l)/\c=(a*8+b)*(mo+2*l+1)+r) (fun i hi hP=>?_) (fun i j c hij hj _ _ z1 z2=>?_)
   ·obtain ⟨⟨a,b,hp⟩,g,⟨z1,z2,z3⟩,z4⟩:=hP
    have hT:gen len g1+i<T:=by lia
    obtain ⟨x1,x2⟩:=key8 hT hp
    obtain ⟨_,_,_,v,hv⟩:=R.wknown _ _ _ hT hp
    have hgu:=up (Nat.le_add_right _ _) hT z1 z2
    have hgT:∀i,i<=g+1->gen len i<=T:=fun k hk'=>by
     by_cases e:k=g+1
     ·rw [e];exact z3
     ·have:=z1 k (by lia);lia
    have hle:gen len g1<=gen len g:=R.gen_up z1 (ZBb hT) hgu
    obtain ⟨y1,y2⟩:=R.still hgT (fun x y hx hy hxy=>kn _ x y hle (hgT g (by lia)) hx hy hxy) (fun τ q1 q2=>⟨fun x y hp'=>z4 τ q1 q2 (.inl ⟨x,y,hp'⟩),fun x y=>ZAz fun hc=>z4 τ q1 q2 (.inr ⟨x,y,hc⟩)⟩) (z1 g (ZAw _)) z2 hp hv
    have hr:(v-1+l).toNat<mo+2*l+1:=by lia
    exact ⟨_,enc (show a*8+b<64 by lia) hr,a,b,_,hp,x1,x2,hr,by rw [hv];congr 1;lia,rfl⟩
   ·obtain ⟨a,b,r,hp,x1,x2,x3,x4,e1⟩:=z1
    obtain ⟨a',b',r',hp',y1,y2,y3,y4,e2⟩:=z2
    obtain ⟨ek,rfl⟩:=dec x3 y3 (e1.symm.trans e2)
    obtain ⟨rfl,rfl⟩:=dec x2 y2 ek
    have:=R.wdrop _ _ _ _ _ _ (show gen len g1+i<gen len g1+j by lia) (by lia) hp hp' x4 y4
    lia
  have d1:cnt (fun i=>(∃a b,pw (gen len g1+i) a b)/\∃g,Ga (gen len g1+i) g/\∃τ,gen len g<=τ/\τ<gen len (g+1)/\St τ) (T-gen len g1)<=(64*(2*l+1)+64*(mo+l+1))*64:=by
   refine zf6 (fun i c=>∃g τ a b cg,Ga (gen len g1+i) g/\gen len g<=τ/\τ<gen len (g+1)/\pw (gen len g1+i) a b/\a<8/\b<8/\c=cg*64+(a*8+b)/\
    ((∃x y r,pt τ x y/\x<8/\y<8/\r<2*l+1/\m τ x y=some ((r:Int)-l)/\cg=(x*8+y)*(2*l+1)+r)\/
     ∃x y r,x<8/\y<8/\r<mo+l+1/\m (τ+1) x y=some ((r:Int)-mo)/\m (τ+1) x y≠m τ x y/\cg=64*(2*l+1)+((x*8+y)*(mo+l+1)+r))) (fun i hi hP=>?_) (fun i j c hij hj _ _ z1 z2=>?_)
   ·obtain ⟨⟨a,b,hp⟩,g,hG,τ,t1,t2,hst⟩:=hP
    have hT:gen len g1+i<T:=by lia
    obtain ⟨x1,x2⟩:=key8 hT hp
    have hgu:=up (Nat.le_add_right _ _) hT hG.1 hG.2.1
    have hle:gen len g1<=gen len g:=R.gen_up hG.1 (ZBb hT) hgu
    have hτ:τ<T:=by have:=hG.2.2;lia
    have tc:∀x y,pt τ x y->∃cg,cg<64*(2*l+1)+64*(mo+l+1)/\∃x y r,pt τ x y/\x<8/\y<8/\r<2*l+1/\m τ x y=some ((r:Int)-l)/\cg=(x*8+y)*(2*l+1)+r:=fun x y hpt=>by
     obtain ⟨r,q1,q2,q3,q4⟩:=tie τ x y (by lia) hτ hpt
     refine ⟨_,?_,x,y,r,hpt,q1,q2,q3,q4,rfl⟩
     have:=enc (show x*8+y<64 by lia) q3
     lia
    have fin:∀cg,cg<64*(2*l+1)+64*(mo+l+1)->cg*64+(a*8+b)<(64*(2*l+1)+64*(mo+l+1))*64:=fun cg hc=>enc hc (show a*8+b<64 by lia)
    by_cases c:∃x y,pt τ x y
    ·obtain ⟨x,y,hpt⟩:=c
     obtain ⟨cg,hc,rest⟩:=tc x y hpt
     exact ⟨_,fin cg hc,g,τ,a,b,cg,hG,t1,t2,hp,x1,x2,rfl,.inl rest⟩
    ·rcases hst with ⟨x,y,hpt⟩ | ⟨x,y,hne⟩
     ·exact absurd ⟨x,y,hpt⟩ c
     ·rcases R.cause τ x y hτ hne with ⟨c',v,q,y',hpt,_⟩ | ⟨c',hpt,_⟩ | ⟨e',y',_,hy,hlo⟩
      ·exact absurd ⟨x,c',hpt⟩ c
      ·exact absurd ⟨c',y,hpt⟩ c
      ·obtain ⟨l1,l2,l3⟩:=R.lt _ _ _ _ (show τ+1<=T by lia) hy
       obtain ⟨v1,hle1,e1⟩:=kn (τ+1) x y (by lia) (by lia) l1 l2 l3
       rw [hy] at e1
       cases e1
       have hr:(y'+mo).toNat<mo+l+1:=by lia
       refine ⟨_,fin (64*(2*l+1)+((x*8+y)*(mo+l+1)+(y'+mo).toNat)) ?_,g,τ,a,b,_,hG,t1,t2,hp,x1,x2,rfl,.inr ⟨x,y,_,by lia,by lia,hr,by rw [hy];congr 1;lia,hne,rfl⟩⟩
       have:=enc (show x*8+y<64 by lia) hr
       lia
   ·obtain ⟨g,τ,a,b,cg,hG,t1,t2,hp,x1,x2,e1,hcg⟩:=z1
    obtain ⟨g',τ',a',b',cg',hG',t1',t2',hp',y1,y2,e2,hcg'⟩:=z2
    obtain ⟨ec,ek⟩:=dec (show a*8+b<64 by lia) (show a'*8+b'<64 by lia) (e1.symm.trans e2)
    obtain ⟨rfl,rfl⟩:=dec x2 y2 ek
    subst ec
    have hT:gen len g1+j<T:=by lia
    have τT:τ<T:=by have:=hG.2.2;lia
    have τT':τ'<T:=by have:=hG'.2.2;lia
    have eτ:τ=τ':=by
     rcases hcg with ⟨x,y,r,p1,p2,p3,p4,p5,p6⟩ | ⟨x,y,r,p2,p3,p4,p5,pn,p6⟩
     ·rcases hcg' with ⟨x',y',r',q1,q2,q3,q4,q5,q6⟩ | ⟨x',y',r',q2,q3,q4,q5,qn,q6⟩
      ·obtain ⟨ek,rfl⟩:=dec p4 q4 (p6.symm.trans q6)
       obtain ⟨rfl,rfl⟩:=dec p3 q3 ek
       rcases Nat.lt_trichotomy τ τ' with c | c | c
       ·have:=R.drop _ _ _ _ _ _ c τT' p1 q1 p5 q5
        lia
       ·exact c
       ·have:=R.drop _ _ _ _ _ _ c τT q1 p1 q5 p5
        lia
      ·have:=enc (show x*8+y<64 by lia) p4
       lia
     ·rcases hcg' with ⟨x',y',r',q1,q2,q3,q4,q5,q6⟩ | ⟨x',y',r',q2,q3,q4,q5,qn,q6⟩
      ·have:=enc (show x'*8+y'<64 by lia) q4
       lia
      ·obtain ⟨ek,rfl⟩:=dec p4 q4 (show (x*8+y)*(mo+l+1)+r=(x'*8+y')*(mo+l+1)+r' by lia)
       obtain ⟨rfl,rfl⟩:=dec p3 q3 ek
       rcases Nat.lt_trichotomy τ τ' with c | c | c
       ·have:=R.same p5 q5 (s:=τ') (by lia) (by lia) (by lia)
        exact absurd (q5.trans this.symm) qn
       ·exact c
       ·have:=R.same q5 p5 (s:=τ) (by lia) (by lia) (by lia)
        exact absurd (p5.trans this.symm) pn
    subst eτ
    have q1:=R.wonce _ _ _ _ (show gen len g1+i<gen len g1+j by lia) hT hp hp'
    have q2:gen len (g+1)<=len (gen len g1+i):=R.len_mono (hG.1 g (ZAw _)) (by lia)
    have q3:gen len (g'+1)<=gen len (g+1):=by
     refine ZAz fun c=>?_
     have hgg:g<g':=by
      refine ZAz fun d=>?_
      have e0:∀k,k<=g+1->gen len k<=T:=fun k hk'=>by
       by_cases e:k=g+1
       ·rw [e];exact hG.2.2
       ·have:=hG.1 k (by lia);lia
      have:=R.gen_mono e0 (i:=g'+1) (g+1-(g'+1)) (by lia)
      rw [show g'+1+(g+1-(g'+1))=g+1 by lia] at this
      exact c this
     have:=R.gen_up (g:=g+1) hG'.1 (ZBb hT) (by lia)
     lia
    have:=hG'.2.1
    lia
  rw [s0]
  exact ZBg s1 (Nat.add_le_add d1 (ZBg s2 (Nat.add_le_add d2 d3)))
 have m1:=Nat.mul_le_mul_left 26 c1
 have m2:=Nat.mul_le_mul_left 10 c2
 exact ZBg g (Nat.add_le_add (Nat.add_le_add_left m1 _) m2)
theorem Bd.rows (R:Bd n (l:Int) (mo:Int) T len m w pt pw):len T<=len 0+2304*(7*(8*(l+1)+8*(mo+1)+1))+26*(64*(2*l+1))+10*((64*(2*l+1)+64*(mo+l+1))*64+(64*(mo+2*l+1)+64)):=by
 rcases R.gens (7*(8*(l+1)+8*(mo+1)+1)) with ⟨h1,h2⟩ | h
 ·obtain ⟨b,hb,hs⟩:=R.quiet rfl h1
  have hg:∀i,i<=7*b+7->gen len i<=T:=fun i hi=>h1 i (by omega)
  have k:=R.after (g1:=7*b+7) hg (R.narrow hg hs)
  have e:=R.gen_mono h1 (i:=7*b+7) (7*(8*(l+1)+8*(mo+1)+1)-(7*b+7)) (by omega)
  rw [show 7*b+7+(7*(8*(l+1)+8*(mo+1)+1)-(7*b+7))=7*(8*(l+1)+8*(mo+1)+1) by omega] at e
  have k2:=R.len_mono e (h1 _ (ZAw _))
  exact ZBg k (Nat.add_le_add_right (Nat.add_le_add_right (ZBg k2 h2) _) _)
 ·exact ZBg h (ZBg (Nat.le_add_right _ _) (Nat.le_add_right _ _))
end
end MH
namespace MU
variable {n:Nat} {F:zax} {most:Int} {s0:St}
theorem zjq (hF:FOk n F most) {s:St} (g:zee n s) {at_ a b:Nat} {p:zar} (hp:wat s at_=some p) (pa:p.a=a) (pb:p.b=b) (hbar:(zb0 n F at_ a b s).bar=none):
 Add (fun w=>(w.tie=true->(w.a=a/\w.b≠b/\∃q,val s (true,b,w.b)=some q/\w.v=p.v+q)\/(w.b=b/\w.a≠a))/\(w.tie=false->w.v<=most-p.v/\∃f,F w.b=some f)) s (zb0 n F at_ a b s):=by
 unfold zb0 at hbar ⊢
 dsimp only at hbar ⊢
 generalize hC:(fun w:zar=>(w.tie=true->(w.a=a/\w.b≠b/\∃q,val s (true,b,w.b)=some q/\w.v=p.v+q)\/(w.b=b/\w.a≠a))/\(w.tie=false->w.v<=most-p.v/\∃f,F w.b=some f))=C
 have g1:zee n (za6 (zbh F) .late at_ s):=zeo g zhq
 have i1:Imp s (za6 (zbh F) .late at_ s):=zd9 _ _ _ _
 have T1:Add (fun w=>w.tie=true->w.b=b) s (za6 (zbh F) .late at_ s):=zij hp fun w e ht=>by
  unfold zbh at e
  split at e
  ·cases q:F p.b with
   | none=>rw [q] at e;cases e
   | some f=>rw [q] at e;cases e;cases ht
  ·cases e
 have A1:Add C s (za6 (zbh F) .late at_ s):=zij hp fun w e=>by
  subst hC
  unfold zbh at e
  split at e
  ·cases q:F p.b with
   | none=>rw [q] at e;cases e
   | some f=>
    rw [q] at e
    cases e
    have:=hF.num _ _ q
    exact ⟨nofun,fun _=>⟨by show f.2.2-p.v<=_;lia,f,q⟩⟩
  ·cases e
 generalize za6 (zbh F) .late at_ s=s1 at*
 have hp1:=zaz i1.1 hp
 have g2:zee n (za6 (zbl F) .soon at_ s1):=zeo g1 (zhm hF)
 have i2:Imp s1 (za6 (zbl F) .soon at_ s1):=zd9 _ _ _ _
 have T2:Add (fun w=>w.tie=true->w.b=b) s1 (za6 (zbl F) .soon at_ s1):=zij hp1 fun w e _=>by
  unfold zbl at e
  split at e
  ·cases q:F p.a with
   | none=>rw [q] at e;cases e
   | some f=>rw [q] at e;cases e;exact pb
  ·cases e
 have A2:Add C s1 (za6 (zbl F) .soon at_ s1):=zij hp1 fun w e=>by
  subst hC
  unfold zbl at e
  split at e
  ·cases q:F p.a with
   | none=>rw [q] at e;cases e
   | some f=>
    rw [q] at e
    cases e
    refine ⟨fun _=>.inr ⟨pb,fun z=>?_⟩,nofun⟩
    have z:f.1=a:=z
    have:=hF.own _ _ q
    rw [z,<-pa,q] at this
    cases this
  ·cases e
 generalize za6 (zbl F) .soon at_ s1=s2 at*
 have hp2:=zaz i2.1 hp1
 have T12:=T1.trans i2.1 T2
 have keep2:∀z,z≠b->val s2 (true,b,z)=val s (true,b,z):=fun z hz=>ZAz fun hc=>by
  obtain ⟨j,w,hj,hw,hk,_⟩:=zmb g g2 (i1.1.trans i2.1) hc
  obtain ⟨kt,_,kb⟩:=zde hk
  have:=T12 j w hj hw kt
  exact hz (kb.symm.trans this)
 have i3:Imp s2 ((za8 n s2 true b).foldl (fun st j=>zat za1 .sum at_ j st) s2):=zbf (fun _ _=>zcr ..) _ _
 have g3:zee n ((za8 n s2 true b).foldl (fun st j=>zat za1 .sum at_ j st) s2):=zdz (fun _ _ g=>zii g zl5) _ _ g2
 have i4:=zbf (f:=fun st j=>zat za1 .sum j at_ st) (fun _ _=>zcr ..) (zbz n ((za8 n s2 true b).foldl (fun st j=>zat za1 .sum at_ j st) s2) a) ((za8 n s2 true b).foldl (fun st j=>zat za1 .sum at_ j st) s2)
 have i5:=zbf (f:=fun st j=>zat (zau F) .back j at_ st) (fun _ _=>zcr ..) (za8 n ((zbz n ((za8 n s2 true b).foldl (fun st j=>zat za1 .sum at_ j st) s2) a).foldl (fun st j=>zat za1 .sum j at_ st) ((za8 n s2 true b).foldl (fun st j=>zat za1 .sum at_ j st) s2)) false b) ((zbz n ((za8 n s2 true b).foldl (fun st j=>zat za1 .sum at_ j st) s2) a).foldl (fun st j=>zat za1 .sum j at_ st) ((za8 n s2 true b).foldl (fun st j=>zat za1 .sum at_ j st) s2))
 have b4:=ZAz fun z=>i5.1.bar z hbar
 have b3:=ZAz fun z=>i4.1.bar z b4
 have b2:=ZAz fun z=>i3.1.bar z b3
 have A3:Add C s2 ((za8 n s2 true b).foldl (fun st j=>zat za1 .sum at_ j st) s2):=zd8 (f:=fun st j=>zat za1 .sum at_ j st) (fun _ _=>zcr ..) _ s2 s2 (Imp.refl _) fun j hj sx hx=>by
  subst hC
  obtain ⟨c,_,hbest⟩:=zie hj
  obtain ⟨q,hq,hk⟩:=g2.at_ _ _ hbest
  obtain ⟨_,qa,qb⟩:=zde hk
  have qne:=g2.ne b2 j q hq
  refine zq1 (zaz hx.1 hp2) (zaz hx.1 hq) fun w e=>?_
  unfold za1 at e
  split at e
  ·cases e
   have hcb:c≠b:=fun z=>qne (by rw [qa,qb,z])
   refine ⟨fun _=>.inl ⟨pa,fun z=>qne (by rw [qa];exact z.symm),q.v,?_,rfl⟩,nofun⟩
   show val s (true,b,q.b)=_
   rw [qb,<-keep2 c hcb]
   exact zc6 hbest hq
  ·cases e
 generalize (za8 n s2 true b).foldl (fun st j=>zat za1 .sum at_ j st) s2=s3 at*
 have hp3:=zaz i3.1 hp2
 have A4:Add C s3 ((zbz n s3 a).foldl (fun st j=>zat za1 .sum j at_ st) s3):=zd8 (f:=fun st j=>zat za1 .sum j at_ st) (fun _ _=>zcr ..) _ s3 s3 (Imp.refl _) fun j hj sx hx=>by
  subst hC
  obtain ⟨c,_,hbest⟩:=zfl hj
  obtain ⟨q,hq,hk⟩:=g3.at_ _ _ hbest
  obtain ⟨_,qa,qb⟩:=zde hk
  have qne:=g3.ne b3 j q hq
  refine zq1 (zaz hx.1 hq) (zaz hx.1 hp3) fun w e=>?_
  unfold za1 at e
  split at e
  ·cases e
   exact ⟨fun _=>.inr ⟨pb,fun z=>qne (by rw [qb];exact z)⟩,nofun⟩
  ·cases e
 generalize (zbz n s3 a).foldl (fun st j=>zat za1 .sum j at_ st) s3=s4 at*
 have hp4:=zaz i4.1 hp3
 have A5:Add C s4 ((za8 n s4 false b).foldl (fun st j=>zat (zau F) .back j at_ st) s4):=zd8 (f:=fun st j=>zat (zau F) .back j at_ st) (fun _ _=>zcr ..) _ s4 s4 (Imp.refl _) fun j hj sx hx=>zex fun w e=>by
  subst hC
  cases e1:wat sx j with
  | none=>rw [e1] at e;cases e
  | some q=>
   rw [e1] at e
   have e:(wat sx at_).bind (fun p=>zau F q p)=some w:=e
   rw [zaz hx.1 hp4] at e
   have e:zau F q p=some w:=e
   unfold zau at e
   split at e
   ·cases z:F q.b with
    | none=>rw [z] at e;cases e
    | some f=>
     rw [z] at e
     cases e
     have:=hF.num _ _ z
     exact ⟨nofun,fun _=>⟨by show min q.v f.2.2-p.v<=_;lia,f,z⟩⟩
   ·cases e
 exact (((A1.trans i2.1 A2).trans i3.1 A3).trans i4.1 A4).trans i5.1 A5
theorem zor {s:St} {at_ a:Nat}:Add (fun w=>w.tie=false->∃f,F w.b=some f) s (zbc n F at_ a s):=by
 unfold zbc
 dsimp only
 have A1:Add (fun w:zar=>w.tie=false->∃f,F w.b=some f) s (za6 (zbg F) .sure at_ s):=zex fun w e ht=>by
  cases q:wat s at_ with
  | none=>rw [q] at e;cases e
  | some p=>
   rw [q] at e
   have e:zbg F p=some w:=e
   unfold zbg at e
   split at e
   ·cases z:F p.b with
    | none=>rw [z] at e;cases e
    | some f=>rw [z] at e;cases e;cases ht
   ·cases e
 have i1:Imp s (za6 (zbg F) .sure at_ s):=zd9 _ _ _ _
 generalize za6 (zbg F) .sure at_ s=s1 at*
 have A2:Add (fun w:zar=>w.tie=false->∃f,F w.b=some f) s1 (za6 (zav F) .cross at_ s1):=zex fun w e ht=>by
  cases q:wat s1 at_ with
  | none=>rw [q] at e;cases e
  | some p=>
   rw [q] at e
   have e:zav F p=some w:=e
   unfold zav at e
   split at e
   ·cases z:F p.a with
    | none=>rw [z] at e;cases e
    | some o=>
     rw [z] at e
     have e:(F p.b).map (fun f=>(⟨false,o.1,p.b,min p.v f.2.2-o.2.1⟩:zar))=some w:=e
     cases z2:F p.b with
     | none=>rw [z2] at e;cases e
     | some f=>rw [z2] at e;cases e;exact ⟨f,z2⟩
   ·cases e
 have i2:Imp s1 (za6 (zav F) .cross at_ s1):=zd9 _ _ _ _
 generalize za6 (zav F) .cross at_ s1=s2 at*
 have A3:Add (fun w:zar=>w.tie=false->∃f,F w.b=some f) s2 ((zbz n s2 a).foldl (fun st j=>zat (zau F) .back at_ j st) s2):=zd8 (f:=fun st j=>zat (zau F) .back at_ j st) (fun _ _=>zcr ..) _ s2 s2 (Imp.refl _) fun j _ sx _=>zex fun w e ht=>by
  cases q1:wat sx at_ with
  | none=>rw [q1] at e;cases e
  | some p=>
   rw [q1] at e
   have e:(wat sx j).bind (fun q=>zau F p q)=some w:=e
   cases q2:wat sx j with
   | none=>rw [q2] at e;cases e
   | some q=>
    rw [q2] at e
    have e:zau F p q=some w:=e
    unfold zau at e
    split at e
    ·cases z:F p.b with
     | none=>rw [z] at e;cases e
     | some f=>rw [z] at e;cases e;exact ⟨f,z⟩
    ·cases e
 have i3:Imp s2 ((zbz n s2 a).foldl (fun st j=>zat (zau F) .back at_ j st) s2):=zbf (fun _ _=>zcr ..) _ _
 exact (A1.trans i2.1 A2).trans i3.1 A3
theorem zb7 (st:St) (o:Option zar) (word:Wd) (used:List Nat):(put st o word used).rows.length<=st.rows.length+1:=by
 cases o with
 | none=>exact ZAe _
 | some w=>
  show (take st w word used).rows.length<=_
  by_cases c:zhh st w
  ·rw [(zhk c).2.2];exact ZAw _
  ·rw [zfo c];exact ZAe _
theorem zcp {f:St->Nat->St} (hf:∀s j,(f s j).rows.length<=s.rows.length+1):∀(l:List Nat) (s:St),(l.foldl f s).rows.length<=s.rows.length+l.length
 | [],s=>ZAw _
 | j::l,s=>by
  have h1:=zcp hf l (f s j)
  have h2:=hf s j
  rw [ZBp]
  show (l.foldl f (f s j)).rows.length<=_
  lia
theorem zgk {tie:Bool} {st:St} {a:Nat}:(za8 n st tie a).length<=n:=by
 have:=List.length_filterMap_le (fun b=>st.best (tie,a,b)) (List.range n)
 rw [List.length_range] at this
 exact this
theorem zfm {st:St} {b:Nat}:(zbz n st b).length<=n:=by
 have:=List.length_filterMap_le (fun a=>st.best (true,a,b)) (List.range n)
 rw [List.length_range] at this
 exact this
theorem zuh {at_ a b:Nat} {s:St}:(zb0 n F at_ a b s).rows.length<=s.rows.length+(2+3*n):=by
 unfold zb0
 dsimp only
 have h1:(za6 (zbh F) .late at_ s).rows.length<=s.rows.length+1:=zb7 _ _ _ _
 generalize za6 (zbh F) .late at_ s=s1 at*
 have h2:(za6 (zbl F) .soon at_ s1).rows.length<=s1.rows.length+1:=zb7 _ _ _ _
 generalize za6 (zbl F) .soon at_ s1=s2 at*
 have h3:=zcp (f:=fun st j=>zat za1 .sum at_ j st) (fun _ _=>zb7 _ _ _ _) (za8 n s2 true b) s2
 have k3:=zgk (n:=n) (tie:=true) (st:=s2) (a:=b)
 generalize (za8 n s2 true b).foldl (fun st j=>zat za1 .sum at_ j st) s2=s3 at*
 have h4:=zcp (f:=fun st j=>zat za1 .sum j at_ st) (fun _ _=>zb7 _ _ _ _) (zbz n s3 a) s3
 have k4:=zfm (n:=n) (st:=s3) (b:=a)
 generalize (zbz n s3 a).foldl (fun st j=>zat za1 .sum j at_ st) s3=s4 at*
 have h5:=zcp (f:=fun st j=>zat (zau F) .back j at_ st) (fun _ _=>zb7 _ _ _ _) (za8 n s4 false b) s4
 have k5:=zgk (n:=n) (tie:=false) (st:=s4) (a:=b)
 lia
theorem zmz {at_ a:Nat} {s:St}:(zbc n F at_ a s).rows.length<=s.rows.length+(2+n):=by
 unfold zbc
 dsimp only
 have h1:(za6 (zbg F) .sure at_ s).rows.length<=s.rows.length+1:=zb7 _ _ _ _
 generalize za6 (zbg F) .sure at_ s=s1 at*
 have h2:(za6 (zav F) .cross at_ s1).rows.length<=s1.rows.length+1:=zb7 _ _ _ _
 generalize za6 (zav F) .cross at_ s1=s2 at*
 have h3:=zcp (f:=fun st j=>zat (zau F) .back at_ j st) (fun _ _=>zb7 _ _ _ _) (zbz n s2 a) s2
 have k3:=zfm (n:=n) (st:=s2) (b:=a)
 lia
theorem znk {at_:Nat} {s:St} (h8:n<=8):(look n F at_ s).rows.length<=s.rows.length+26:=by
 unfold look
 split
 ·split
  ·split
   ·exact ZBg zuh (by lia)
   ·exact ZBg zmz (by lia)
  ·lia
 ·lia
def pw (n:Nat) (F:zax) (s0:St) (t a b:Nat):Prop:=∃w,wat (run n F s0 t) t=some w/\w.tie=false/\w.a=a/\w.b=b/\(run n F s0 t).best (false,a,b)=some t
theorem step (n:Nat) (F:zax) (s0:St) {t:Nat} (hl:t<(run n F s0 t).rows.length):
 (∃p,wat (run n F s0 t) t=some p/\p.tie=true/\pt n F s0 t p.a p.b/\run n F s0 (t+1)=zb0 n F t p.a p.b (run n F s0 t))\/
 (∃p,wat (run n F s0 t) t=some p/\p.tie=false/\pw n F s0 t p.a p.b/\run n F s0 (t+1)=zbc n F t p.a (run n F s0 t))\/
 ((∀a b,¬pt n F s0 t a b)/\(∀a b,¬pw n F s0 t a b)/\run n F s0 (t+1)=run n F s0 t):=by
 obtain ⟨p,hp⟩:∃p,wat (run n F s0 t) t=some p:=⟨_,by unfold wat;rw [ZAx hl];rfl⟩
 have hl:run n F s0 (t+1)=look n F t (run n F s0 t):=rfl
 by_cases hb:(run n F s0 t).best p.key=some t
 ·cases pt':p.tie with
  | true=>
   have hb2:(run n F s0 t).best (true,p.a,p.b)=some t:=by rw [<-hb];unfold zar.key;rw [pt']
   exact .inl ⟨p,hp,pt',⟨p,hp,pt',rfl,rfl,hb2⟩,hl.trans (zkd hp pt' rfl rfl hb2)⟩
  | false=>
   have hb2:(run n F s0 t).best (false,p.a,p.b)=some t:=by rw [<-hb];unfold zar.key;rw [pt']
   exact .inr (.inl ⟨p,hp,pt',⟨p,hp,pt',rfl,rfl,hb2⟩,hl.trans (zlh hp pt' hb)⟩)
 ·refine .inr (.inr ⟨fun a b h=>?_,fun a b h=>?_,hl.trans (zli hp hb)⟩)
  ·obtain ⟨w,h1,h2,h3,h4,h5⟩:=h
   rw [hp] at h1
   cases h1
   exact hb (by unfold zar.key;rw [h2,h3,h4];exact h5)
  ·obtain ⟨w,h1,h2,h3,h4,h5⟩:=h
   rw [hp] at h1
   cases h1
   exact hb (by unfold zar.key;rw [h2,h3,h4];exact h5)
variable {n:Nat} {F:zax} {most:Int} {s0:St}
theorem zhj {s s':St} (e:Ext s s') {i:Nat} {w:zar} (hi:i<s.rows.length) (h:wat s' i=some w):wat s i=some w:=by
 obtain ⟨p,hp⟩:∃p,wat s i=some p:=⟨_,by unfold wat;rw [ZAx hi];rfl⟩
 rw [zaz e hp] at h
 cases h
 exact hp
theorem znb (hF:FOk n F most) (g0:zee n s0) (w0:∀a b,val s0 (false,a,b)=none) {T:Nat} (hl:∀t,t<T->t<(run n F s0 t).rows.length) (hb:∀t,t<=T->(run n F s0 t).bar=none):∀t,t<=T->∀i w,wat (run n F s0 t) i=some w->w.tie=false->∃f,F w.b=some f
 | 0,_,i,w,h,ht=>by
  obtain ⟨j,_,hj⟩:=g0.top i w h
  obtain ⟨u,hu,_⟩:=g0.at_ _ _ hj
  have:=zc6 hj hu
  have hk:w.key=(false,w.a,w.b):=by unfold zar.key;rw [ht]
  rw [hk,w0] at this
  cases this
 | t+1,hT,i,w,h,ht=>by
  have ih:=znb hF g0 w0 hl hb t (by lia)
  have gd:=zjx hF g0 t
  by_cases hi:i<(run n F s0 t).rows.length
  ·exact ih i w (zhj (zej n F t (run n F s0 t)).1 hi h) ht
  ·rcases step n F s0 (hl t (by lia)) with ⟨p,hp,_,_,e⟩ | ⟨p,hp,_,_,e⟩ | ⟨_,_,e⟩
   ·have hbar:=hb (t+1) hT
    rw [e] at hbar h
    exact ((zjq hF gd hp rfl rfl hbar i w (by lia) h).2 ht).2
   ·rw [e] at h
    exact zor i w (by lia) h ht
   ·rw [e] at h
    exact absurd (zeq h) (by lia)
theorem zrr {s:St} {at_:Nat} {p:zar} (hp:wat s at_=some p):Add (fun w=>w.tie=true->w.a=p.a) s (zbc n F at_ p.a s):=by
 unfold zbc
 dsimp only
 have A1:Add (fun w:zar=>w.tie=true->w.a=p.a) s (za6 (zbg F) .sure at_ s):=zij hp fun w e ht=>by
  unfold zbg at e
  split at e
  ·cases z:F p.b with
   | none=>rw [z] at e;cases e
   | some f=>rw [z] at e;cases e;rfl
  ·cases e
 have i1:Imp s (za6 (zbg F) .sure at_ s):=zd9 _ _ _ _
 generalize za6 (zbg F) .sure at_ s=s1 at*
 have A2:Add (fun w:zar=>w.tie=true->w.a=p.a) s1 (za6 (zav F) .cross at_ s1):=zex fun w e ht=>by
  cases q:wat s1 at_ with
  | none=>rw [q] at e;cases e
  | some p=>
   rw [q] at e
   have e:zav F p=some w:=e
   unfold zav at e
   split at e
   ·cases z:F p.a with
    | none=>rw [z] at e;cases e
    | some o=>
     rw [z] at e
     have e:(F p.b).map (fun f=>(⟨false,o.1,p.b,min p.v f.2.2-o.2.1⟩:zar))=some w:=e
     cases z2:F p.b with
     | none=>rw [z2] at e;cases e
     | some f=>rw [z2] at e;cases e;cases ht
   ·cases e
 have i2:Imp s1 (za6 (zav F) .cross at_ s1):=zd9 _ _ _ _
 generalize za6 (zav F) .cross at_ s1=s2 at*
 have A3:Add (fun w:zar=>w.tie=true->w.a=p.a) s2 ((zbz n s2 p.a).foldl (fun st j=>zat (zau F) .back at_ j st) s2):=zd8 (f:=fun st j=>zat (zau F) .back at_ j st) (fun _ _=>zcr ..) _ s2 s2 (Imp.refl _) fun j _ sx _=>zex fun w e ht=>by
  cases q1:wat sx at_ with
  | none=>rw [q1] at e;cases e
  | some p=>
   rw [q1] at e
   have e:(wat sx j).bind (fun q=>zau F p q)=some w:=e
   cases q2:wat sx j with
   | none=>rw [q2] at e;cases e
   | some q=>
    rw [q2] at e
    have e:zau F p q=some w:=e
    unfold zau at e
    split at e
    ·cases z:F p.b with
     | none=>rw [z] at e;cases e
     | some f=>rw [z] at e;cases e;cases ht
    ·cases e
 have i3:Imp s2 ((zbz n s2 p.a).foldl (fun st j=>zat (zau F) .back at_ j st) s2):=zbf (fun _ _=>zcr ..) _ _
 exact (A1.trans i2.1 A2).trans i3.1 A3
theorem zwn {l mo:Nat} (h8:n<=8) (hF:FOk n F (mo:Int)) (g0:zee n s0) (told:∀i,0<i->i<n->(∃v,v<=(l:Int)/\val s0 (true,0,i)=some v)/\∃v,v<=0/\val s0 (true,i,0)=some v) (w0:∀a b,val s0 (false,a,b)=none)
 {T:Nat} (hl:∀t,t<T->t<(run n F s0 t).rows.length) (hb:∀t,t<=T->(run n F s0 t).bar=none):
 MH.Bd n (l:Int) (mo:Int) T (fun t=>(run n F s0 t).rows.length) (fun t a b=>val (run n F s0 t) (true,a,b)) (fun t a b=>val (run n F s0 t) (false,a,b)) (pt n F s0) (pw n F s0):=by
 have gd:=zjx hF g0
 have goes:∀t a b,pt n F s0 t a b->∃w,wat (run n F s0 t) t=some w/\w.tie=true/\w.a=a/\w.b=b/\val (run n F s0 t) (true,a,b)=some w.v/\run n F s0 (t+1)=zb0 n F t a b (run n F s0 t):=fun t a b ⟨w,h1,h2,h3,h4,h5⟩=>⟨w,h1,h2,h3,h4,zc6 h5 h1,zkd h1 h2 h3 h4 h5⟩
 have goew:∀t a b,pw n F s0 t a b->∃w,wat (run n F s0 t) t=some w/\w.tie=false/\w.a=a/\w.b=b/\val (run n F s0 t) (false,a,b)=some w.v/\(run n F s0 t).best (false,a,b)=some t:=fun t a b ⟨w,h1,h2,h3,h4,h5⟩=>⟨w,h1,h2,h3,h4,zc6 h5 h1,h5⟩
 have ends:=znb hF g0 w0 hl hb
 have wm:∀t a b v,t<T->val (run n F s0 t) (false,a,b)=some v->∃v',v<=v'/\val (run n F s0 (t+1)) (false,a,b)=some v':=fun t a b v ht h=>by
  have hne:=(zga (gd t) (hb t (by lia)) h).1
  obtain ⟨u',h1,h2⟩:=(zej n F t (run n F s0 t)).2 (false,a,b) v hne h
  refine ⟨u',?_,h1⟩
  unfold zbo at h2
  simp at h2
  exact h2
 have wms:∀t a b v,val (run n F s0 t) (false,a,b)=some v->∀d,t+d<=T->∃v',v<=v'/\val (run n F s0 (t+d)) (false,a,b)=some v':=fun t a b v h d=>by
  induction d with
  | zero=>exact fun _=>⟨v,Int.le_refl _,h⟩
  | succ d ih=>
   intro hd
   obtain ⟨v1,h1,e1⟩:=ih (by lia)
   obtain ⟨v2,h2,e2⟩:=wm (t+d) a b v1 (by lia) e1
   exact ⟨v2,by lia,e2⟩
 have once:∀(k:Key) (t t':Nat) (x x':zar),t<t'->wat (run n F s0 t) t=some x->wat (run n F s0 t') t'=some x'->x'.key=k->(run n F s0 t).best k=some t->(run n F s0 t).rows.length<=t':=fun k t t' x x' htt hx hx' hk hbest=>by
  refine ZAz fun c=>?_
  have h1:=zhj (zfp (n:=n) (F:=F) (s:=s0) (ZBb htt)).1 (by lia) hx'
  obtain ⟨j,hj,hbj⟩:=(gd t).top t' x' h1
  rw [hk,hbest] at hbj
  cases hbj
  lia
 exact
 { n8:=h8
   L0:=Int.natCast_nonneg _
   most0:=Int.natCast_nonneg _
   go:=hl
   lenm:=fun t _=>(zej n F t (run n F s0 t)).1.len
   lt:=fun t a b v ht h=>by
    obtain ⟨x1,x2,x3⟩:=zga (gd t) (hb t ht) h
    exact ⟨x2,x3,x1⟩
   known:=fun t a b _ h=>by
    obtain ⟨w,_,_,_,_,h5,_⟩:=goes t a b h
    exact ⟨w.v,h5⟩
   wknown:=fun t a b ht h=>by
    obtain ⟨w,_,_,_,_,h5,_⟩:=goew t a b h
    obtain ⟨x1,x2,x3⟩:=zga (gd t) (hb t (by lia)) h5
    exact ⟨x2,x3,x1,w.v,h5⟩
   mono:=fun t a b v ht h=>by
    have hne:=(zga (gd t) (hb t (by lia)) h).1
    obtain ⟨u',h1,h2⟩:=(zej n F t (run n F s0 t)).2 (true,a,b) v hne h
    refine ⟨u',?_,h1⟩
    unfold zbo at h2
    simp at h2
    exact h2
   wmono:=wm
   told:=told
   wnone:=w0
   sum:=fun t a b c v u ht h hv hu hac=>by
    obtain ⟨w,h1,h2,h3,h4,h5,h6⟩:=goes t a b h
    have hv:val (run n F s0 t) (true,a,b)=some v:=hv
    rw [hv] at h5
    cases h5
    have hbc:=zga (gd t) (hb t (by lia)) hu
    obtain ⟨x,hx,ex⟩:=(zo1 hF (gd t) h1 h2 h3 h4 hu hbc.1 hbc.2.2).1 hac
    refine ⟨x,hx,?_⟩
    show val (run n F s0 (t+1)) _=_
    rw [h6]
    exact ex
   bar:=fun t a b v u ht h hv hu=>by
    obtain ⟨w,h1,h2,h3,h4,h5,h6⟩:=goes t a b h
    have hv:val (run n F s0 t) (true,a,b)=some v:=hv
    rw [hv] at h5
    cases h5
    have hbc:=zga (gd t) (hb t (by lia)) hu
    refine ZAz fun hc=>?_
    have:=(zo1 hF (gd t) h1 h2 h3 h4 hu hbc.1 hbc.2.2).2 rfl (by lia)
    rw [<-h6] at this
    exact this (hb (t+1) ht)
   one:=fun t a b a' b' _ h h'=>by
    obtain ⟨w,h1,_,h3,h4,_⟩:=goes t a b h
    obtain ⟨w',h1',_,h3',h4',_⟩:=goes t a' b' h'
    rw [h1] at h1'
    cases h1'
    exact ⟨h3.symm.trans h3',h4.symm.trans h4'⟩
   onew:=fun t a b a' b' _ h h'=>by
    obtain ⟨w,h1,_,h3,h4,_⟩:=goew t a b h
    obtain ⟨w',h1',_,h3',h4',_⟩:=goew t a' b' h'
    rw [h1] at h1'
    cases h1'
    exact ⟨h3.symm.trans h3',h4.symm.trans h4'⟩
   apart:=fun t a b a' b' _ h h'=>by
    obtain ⟨w,h1,h2,_⟩:=goes t a b h
    obtain ⟨w',h1',h2',_⟩:=goew t a' b' h'
    rw [h1] at h1'
    cases h1'
    rw [h2] at h2'
    cases h2'
   cause:=fun t a b ht h=>by
    have h:val (run n F s0 (t+1)) (true,a,b)≠val (run n F s0 t) (true,a,b):=h
    obtain ⟨j,w,hj,hw,hk,hv⟩:=zmb (gd t) (gd (t+1)) (zej n F t (run n F s0 t)).1 (k:=(true,a,b)) h
    obtain ⟨kt,ka,kb⟩:=zde hk
    have hv:val (run n F s0 (t+1)) (true,a,b)=some w.v:=hv
    have hbar:=hb (t+1) ht
    rcases step n F s0 (hl t ht) with ⟨p,hp,ptie,hpt,e⟩ | ⟨p,hp,ptie,hpw,e⟩ | ⟨_,_,e⟩
    ·have hw:wat (run n F s0 (t+1)) j=some w:=hw
     rw [e] at hw hbar
     rcases (zjq hF (gd t) hp rfl rfl hbar j w hj hw).1 kt with ⟨h1,h2,q,hq,hwv⟩ | ⟨h1,h2⟩
     ·rw [ka] at h1
      rw [kb] at h2 hq
      subst h1
      obtain ⟨w',k1,_,_,_,k5,_⟩:=goes t _ _ hpt
      rw [hp] at k1
      cases k1
      exact .inl ⟨p.b,p.v,q,w.v,hpt,ZAl h2,k5,hq,hv,by lia⟩
     ·rw [kb] at h1
      rw [ka] at h2
      subst h1
      exact .inr (.inl ⟨p.a,hpt,ZAl h2⟩)
    ·
     have hw:wat (run n F s0 (t+1)) j=some w:=hw
     have g':zee n (zbc n F t p.a (run n F s0 t)):=by rw [<-e];exact gd (t+1)
     have hbar':=hbar
     rw [e] at hw hbar'
     obtain ⟨B,hB0,hB⟩:∃B:Int,0<=B/\∀x v,val (zbc n F t p.a (run n F s0 t)) (true,x,p.a)=some v->-B<=v:=by
      have:∀k,∃B:Int,0<=B/\∀x v,x<k->val (zbc n F t p.a (run n F s0 t)) (true,x,p.a)=some v->-B<=v:=by
       intro k
       induction k with
       | zero=>exact ⟨0,Int.le_refl _,fun x v hx=>absurd hx (ZB6 _)⟩
       | succ k ih=>
        obtain ⟨B,h0,h1⟩:=ih
        cases q:val (zbc n F t p.a (run n F s0 t)) (true,k,p.a) with
        | none=>
         refine ⟨B,h0,fun x v hx hv=>?_⟩
         by_cases e:x=k
         ·rw [e,q] at hv;cases hv
         ·exact h1 x v (by lia) hv
        | some u=>
         refine ⟨max B (-u),by lia,fun x v hx hv=>?_⟩
         by_cases e:x=k
         ·rw [e,q] at hv;cases hv;lia
         ·have:=h1 x v (by lia) hv
          lia
      obtain ⟨B,h0,h1⟩:=this n
      exact ⟨B,h0,fun x v hv=>h1 x v (zga g' hbar' hv).2.1 hv⟩
     have hlo:=(zm0 hF (gd t) hp ptie rfl hB hB0 hbar' j w hj hw).1 kt
     have own:w.a=p.a:=by
      have:=zrr (F:=F) (n:=n) hp j w hj hw kt
      exact this
     rw [ka] at own
     subst own
     exact .inr (.inr ⟨p.b,w.v,hpw,hv,hlo⟩)
    ·have hw:wat (run n F s0 (t+1)) j=some w:=hw
     rw [e] at hw
     exact absurd (zeq hw) (by lia)
   late:=fun t a b e v v' ht h hv hte heT hpw hv'=>by
    obtain ⟨w,h1,h2,h3,h4,h5,h6⟩:=goes t a b h
    have hv:val (run n F s0 t) (true,a,b)=some v:=hv
    rw [hv] at h5
    cases h5
    obtain ⟨x,k1,k2,k3,k4,_⟩:=goew e a b hpw
    obtain ⟨f,hf⟩:=ends e (by lia) e x k1 k2
    rw [k4] at hf
    have hne:=(zga (gd t) (hb t (by lia)) hv).1
    have hnum:=hF.num _ _ hf
    have hd:za6 (zbh F) .late t (run n F s0 t)=take (run n F s0 t) ⟨false,a,b,f.2.2-w.v⟩ .late [t]:=by
     unfold za6
     rw [h1]
     show put _ (zbh F w) _ _=_
     unfold zbh
     rw [if_pos ⟨h2,by rw [h3,h4];exact hne⟩,h4,hf,h3]
     rfl
    obtain ⟨u,hu,nu⟩:=zgv (st:=run n F s0 t) (word:=.late) (used:=[t]) (w:=⟨false,a,b,f.2.2-w.v⟩) hne
    have iz:Imp (za6 (zbh F) .late t (run n F s0 t)) (zb0 n F t a b (run n F s0 t)):=by
     unfold zb0
     dsimp only
     exact (((zd9 _ _ _ _).trans (zbf (fun _ _=>zcr ..) _ _)).trans (zbf (fun _ _=>zcr ..) _ _)).trans (zbf (fun _ _=>zcr ..) _ _)
    rw [hd] at iz
    obtain ⟨u2,hu2,nu2⟩:=iz.2 (false,a,b) u hne hu
    rw [<-h6] at hu2
    have hte':t+1<=e\/t=e:=by lia
    rcases hte' with hte' | hte'
    ·obtain ⟨u3,l3,e3⟩:=wms (t+1) a b u2 hu2 (e-(t+1)) (by lia)
     rw [show t+1+(e-(t+1))=e by lia] at e3
     have hv':val (run n F s0 e) (false,a,b)=some v':=hv'
     rw [hv'] at e3
     cases e3
     unfold zbo at nu nu2
     simp at nu nu2
     lia
    ·subst hte'
     rw [h1] at k1
     cases k1
     rw [h2] at k2
     cases k2
   wcause:=fun t a b B ht hB0 hB h=>by
    have h:val (run n F s0 (t+1)) (false,a,b)≠val (run n F s0 t) (false,a,b):=h
    obtain ⟨j,w,hj,hw,hk,hv⟩:=zmb (gd t) (gd (t+1)) (zej n F t (run n F s0 t)).1 (k:=(false,a,b)) h
    obtain ⟨kt,ka,kb⟩:=zde hk
    have hv:val (run n F s0 (t+1)) (false,a,b)=some w.v:=hv
    have hw:wat (run n F s0 (t+1)) j=some w:=hw
    have hbar:=hb (t+1) ht
    refine ⟨w.v,hv,?_⟩
    rcases step n F s0 (hl t ht) with ⟨p,hp,ptie,hpt,e⟩ | ⟨p,hp,ptie,hpw,e⟩ | ⟨_,_,e⟩
    ·have hpv: -B<=p.v:=by
      obtain ⟨w',k1,_,_,_,k5,_⟩:=goes t _ _ hpt
      rw [hp] at k1
      cases k1
      have hne:=(zga (gd t) (hb t (by lia)) k5).1
      obtain ⟨u',q1,q2⟩:=(zej n F t (run n F s0 t)).2 (true,p.a,p.b) p.v hne k5
      have:=hB p.a p.b u' q1
      unfold zbo at q2
      simp at q2
      lia
     rw [e] at hw hbar
     have:=((zjq hF (gd t) hp rfl rfl hbar j w hj hw).2 kt).1
     lia
    ·have hB':∀x v,val (zbc n F t p.a (run n F s0 t)) (true,x,p.a)=some v->-B<=v:=fun x v hx=>by
      rw [<-e] at hx
      exact hB x p.a v hx
     rw [e] at hw hbar
     exact (zm0 hF (gd t) hp ptie rfl hB' hB0 hbar j w hj hw).2 kt
    ·rw [e] at hw
     exact absurd (zeq hw) (by lia)
   grow:=fun t _=>znk h8
   growW:=fun t ht hno=>by
    rcases step n F s0 (hl t ht) with ⟨p,hp,_,hpt,_⟩ | ⟨p,hp,_,_,e⟩ | ⟨_,_,e⟩
    ·exact absurd hpt (hno _ _)
    ·show (run n F s0 (t+1)).rows.length<=_
     rw [e]
     exact ZBg zmz (by show (run n F s0 t).rows.length+(2+n)<=(run n F s0 t).rows.length+10;lia)
    ·show (run n F s0 (t+1)).rows.length<=_
     rw [e]
     exact Nat.le_add_right _ _
   grow0:=fun t ht hno hnw=>by
    rcases step n F s0 (hl t ht) with ⟨p,hp,_,hpt,_⟩ | ⟨p,hp,_,hpw,_⟩ | ⟨_,_,e⟩
    ·exact absurd hpt (hno _ _)
    ·exact absurd hpw (hnw _ _)
    ·show (run n F s0 (t+1)).rows.length=_
     rw [e]
   stay:=fun t0 t a b v ht h0 h1 hv hv'=>by
    have hv:val (run n F s0 t0) (true,a,b)=some v:=hv
    have hv':val (run n F s0 t) (true,a,b)=some v:=hv'
    obtain ⟨j,w,hj,hw,hk,hwv⟩:=zhv (gd t0) hv
    obtain ⟨j',w',hj',hw',hk',hwv'⟩:=zhv (gd t) hv'
    have ejj:j=j':=ZAz fun c=>zmt h1 (gd t0) (gd t) (hb t ht) hj hj' c (hv'.trans hv.symm)
    subst ejj
    obtain ⟨kt,ka,kb⟩:=zde hk
    have hjl:=zeq hw
    have hjt:j<t:=by
     have h0:(run n F s0 t0).rows.length<=t:=h0
     lia
    obtain ⟨p,hp⟩:∃p,wat (run n F s0 j) j=some p:=⟨_,by unfold wat;rw [ZAx (hl j (by lia))];rfl⟩
    have hp2:=zaz (zfp (n:=n) (F:=F) (s:=s0) (ZBb hjt)).1 hp
    rw [hw'] at hp2
    cases hp2
    obtain ⟨kt',ka',kb'⟩:=zde hk'
    obtain ⟨i,hi,hb2⟩:=(gd j).top j w' hp
    rw [hk'] at hb2
    have:=zl0 (ZBb hjt) (gd j) hb2 hj'
    have e:i=j:=by lia
    rw [e] at hb2
    exact ⟨j,hjt,⟨w',hp,kt',ka',kb',hb2⟩,by show val (run n F s0 j) (true,a,b)=some v;rw [zc6 hb2 hp,hwv']⟩
   drop:=fun t t' a b v v' htt hT h h' hv hv'=>by
    obtain ⟨w,h1,h2,h3,h4,h5,_⟩:=goes t a b h
    obtain ⟨w',h1',h2',h3',h4',h5',_⟩:=goes t' a b h'
    have hv:val (run n F s0 t) (true,a,b)=some v:=hv
    have hv':val (run n F s0 t') (true,a,b)=some v':=hv'
    rw [hv] at h5
    rw [hv'] at h5'
    cases h5
    cases h5'
    have:=(gd t').drop (hb t' (by lia)) t t' w w' (zaz (zfp (ZBb htt)).1 h1) h1' (by unfold zar.key;rw [h2,h3,h4,h2',h3',h4']) htt
    unfold zbo at this
    rw [h2] at this
    simp at this
    exact this
   wdrop:=fun t t' a b v v' htt hT h h' hv hv'=>by
    obtain ⟨w,h1,h2,h3,h4,h5,_⟩:=goew t a b h
    obtain ⟨w',h1',h2',h3',h4',h5',_⟩:=goew t' a b h'
    have hv:val (run n F s0 t) (false,a,b)=some v:=hv
    have hv':val (run n F s0 t') (false,a,b)=some v':=hv'
    rw [hv] at h5
    rw [hv'] at h5'
    cases h5
    cases h5'
    have:=(gd t').drop (hb t' (by lia)) t t' w w' (zaz (zfp (ZBb htt)).1 h1) h1' (by unfold zar.key;rw [h2,h3,h4,h2',h3',h4']) htt
    unfold zbo at this
    rw [h2] at this
    simp at this
    exact this
   once:=fun t t' a b htt hT h h'=>by
    obtain ⟨w,h1,h2,h3,h4,_,_⟩:=goes t a b h
    obtain ⟨w',h1',h2',h3',h4',_,_⟩:=goes t' a b h'
    obtain ⟨_,_,_,_,_,h5⟩:=h
    exact once (true,a,b) t t' w w' htt h1 h1' (by unfold zar.key;rw [h2',h3',h4']) h5
   wonce:=fun t t' a b htt hT h h'=>by
    obtain ⟨w,h1,h2,h3,h4,_,h5⟩:=goew t a b h
    obtain ⟨w',h1',h2',h3',h4',_,_⟩:=goew t' a b h'
    exact once (false,a,b) t t' w w' htt h1 h1' (by unfold zar.key;rw [h2',h3',h4']) h5 }
variable {n:Nat} {F:zax} {s0:St}
theorem zml (h8:n<=8) (hF:FOk n F ((60:Nat):Int)) (g0:zee n s0) (told:∀i,0<i->i<n->(∃v,v<=((20:Nat):Int)/\val s0 (true,0,i)=some v)/\∃v,v<=0/\val s0 (true,i,0)=some v) (w0:∀a b,val s0 (false,a,b)=none) (h0:s0.rows.length<=1000):
 ∃T,((run n F s0 T).rows.length<=T\/(run n F s0 T).bar≠none)/\(∀t,t<T->t<(run n F s0 t).rows.length/\(run n F s0 t).bar=none)/\∀t,t<=T->(run n F s0 t).rows.length<=16000000:=by
 have key:∀T,(∀t,t<T->t<(run n F s0 t).rows.length/\(run n F s0 t).bar=none)->(run n F s0 T).rows.length<=15900000+26:=fun T h=>by
  cases T with
  | zero=>exact ZBg h0 (by decide)
  | succ T=>
   have b:=(zwn (l:=20) (mo:=60) h8 hF g0 told w0 (T:=T) (fun t ht=>(h t (by lia)).1) (fun t ht=>(h t (by lia)).2)).rows
   have b:(run n F s0 T).rows.length<=(run n F s0 0).rows.length+2304*(7*(8*(20+1)+8*(60+1)+1))+26*(64*(2*20+1))+10*((64*(2*20+1)+64*(60+20+1))*64+(64*(60+2*20+1)+64)):=b
   have e0:(run n F s0 0).rows.length=s0.rows.length:=rfl
   have l:=znk (n:=n) (F:=F) (at_:=T) (s:=run n F s0 T) h8
   have l:(run n F s0 (T+1)).rows.length<=(run n F s0 T).rows.length+26:=l
   rw [e0] at b
   lia
 have hex:∃T,(run n F s0 T).rows.length<=T\/(run n F s0 T).bar≠none:=ZAz fun hn=>by
  have all:∀t,t<(run n F s0 t).rows.length/\(run n F s0 t).bar=none:=fun t=>⟨ZAz fun c=>hn ⟨t,.inl (by lia)⟩,ZAz fun c=>hn ⟨t,.inr c⟩⟩
  have h1:=key 16000000 fun t _=>all t
  have h2:=(all 16000000).1
  lia
 have least:∀N,(∃T,T<=N/\((run n F s0 T).rows.length<=T\/(run n F s0 T).bar≠none)/\∀t,t<T->t<(run n F s0 t).rows.length/\(run n F s0 t).bar=none)\/∀t,t<=N->t<(run n F s0 t).rows.length/\(run n F s0 t).bar=none:=fun N=>by
  induction N with
  | zero=>
   by_cases c:(run n F s0 0).rows.length<=0\/(run n F s0 0).bar≠none
   ·exact .inl ⟨0,ZAw _,c,fun t ht=>absurd ht (ZB6 _)⟩
   ·refine .inr fun t ht=>?_
    rw [show t=0 by lia]
    exact ⟨ZAz fun z=>c (.inl (by lia)),ZAz fun z=>c (.inr z)⟩
  | succ N ih=>
   rcases ih with ⟨T,h1,h2,h3⟩ | h
   ·exact .inl ⟨T,by lia,h2,h3⟩
   ·by_cases c:(run n F s0 (N+1)).rows.length<=N+1\/(run n F s0 (N+1)).bar≠none
    ·exact .inl ⟨N+1,ZAw _,c,fun t ht=>h t (by lia)⟩
    ·refine .inr fun t ht=>?_
     by_cases e:t=N+1
     ·rw [e]
      exact ⟨ZAz fun z=>c (.inl (by lia)),ZAz fun z=>c (.inr z)⟩
     ·exact h t (by lia)
 obtain ⟨T0,hT0⟩:=hex
 rcases least T0 with ⟨T,_,h2,h3⟩ | h
 ·exact ⟨T,h2,h3,fun t ht=>ZBg (key t fun s hs=>h3 s (by lia)) (by lia)⟩
 ·have:=h T0 (ZAw _)
  rcases hT0 with z | z
  ·lia
  ·exact absurd this.2 z
end MU
set_option maxRecDepth 100000
namespace L2
theorem zw6 {c A B:Prop} [Decidable c] (hc:¬c) (h:A):if (!decide c)=true then A else B:=by
 rw [ZB9 hc]
 exact zhb h
end L2
namespace Y0
open PySem L2
def zc4 (tie:Bool):Str:=if tie=true then "tie" else "wait"
def zb6 (x:MU.zar):List V:=[.str (zc4 x.tie),.int (x.a:Int),.int (x.b:Int),.int x.v]
def za4 (H:Hp) (q:Addr) (x:MU.zar):Prop:=H q=some (.tup (zb6 x))
theorem za4.same {H H':Hp} {q:Addr} {x:MU.zar} (h:za4 H q x) (s:za7 H H'):za4 H' q x:=s _ _ h
structure zc1 (H:Hp) (d:Addr) (F:MU.zax):Prop where
 at_:∃kvs:List (Key×V),H d=some (.dK kvs)/\kvs.length<=100/\(∀e:Nat,F e=none->zfk kvs (.inl (e:Int))=none)/\∀(e:Nat) f,F e=some f->∃p,zfk kvs (.inl (e:Int))=some (.ref p)/\H p=some (.tup [.int (f.1:Int),.int f.2.1,.int f.2.2])
theorem zc1.same {H H':Hp} {d:Addr} {F:MU.zax} (h:zc1 H d F) (s:za7 H H'):zc1 H' d F:=by
 obtain ⟨kvs,h1,h2,h3,h4⟩:=h.at_
 refine ⟨kvs,s _ _ h1,h2,h3,fun e f hf=>?_⟩
 obtain ⟨p,q1,q2⟩:=h4 e f hf
 exact ⟨p,q1,s _ _ q2⟩
def zfz (H:Hp) (Q:VK) (o:Option MU.zar):Prop:=(o=none->∀H',za7 H H'->Q .non H')/\∀x,o=some x->∀r H',H r=none->za7 H H'->za4 H' r x->Q (.ref r) H'
theorem zfz.no {H:Hp} {Q:VK} {o:Option MU.zar} (h:zfz H Q o) (e:o=none):Q .non H:=h.1 e H (za7.refl _)
theorem zfz.yes {H:Hp} {Q:VK} {o:Option MU.zar} (h:zfz H Q o) {x:MU.zar} (e:o=some x) {r:Addr} (hr:H r=none):Q (.ref r) (upd H r (.tup (zb6 x))):=h.2 x e r _ hr (zab hr) zaa
theorem zzz {a b:Int}:decide (V.int a=V.int b)=decide (a=b):=decide_eq_decide.mpr ⟨fun q=>V.int.inj q,fun q=>by rw [q]⟩
theorem zia {a b:Nat}:decide (V.int (a:Int)=V.int (b:Int))=decide (a=b):=decide_eq_decide.mpr ⟨fun q=>Int.ofNat.inj (V.int.inj q),fun q=>by rw [q]⟩
structure zzj (mg:Str->Option Value):Prop where
 min:mg "min"=none
def ztn:Sp:=fun vs H Q _=>∃d q F x,vs=[.ref d,.ref q]/\zc1 H d F/\za4 H q x/\x.tie=true/\zfz H Q (MU.zbh F x)
def zth:Sp:=fun vs H Q _=>∃d q F x,vs=[.ref d,.ref q]/\zc1 H d F/\za4 H q x/\x.tie=true/\zfz H Q (MU.zbl F x)
def zwe:Sp:=fun vs H Q _=>∃p q x y,vs=[.ref p,.ref q]/\za4 H p x/\za4 H q y/\x.tie=true/\y.tie=true/\zfz H Q (MU.za1 x y)
def ztf:Sp:=fun vs H Q _=>∃d q F x fa,vs=[.ref d,.ref q]/\zc1 H d F/\za4 H q x/\x.tie=false/\F x.b=some fa/\zfz H Q (MU.zbg F x)
def zts:Sp:=fun vs H Q _=>∃d p q F x y fa,vs=[.ref d,.ref p,.ref q]/\zc1 H d F/\za4 H p x/\za4 H q y/\x.tie=false/\y.tie=true/\F x.b=some fa/\zfz H Q (MU.zau F x y)
def zpf:Sp:=fun vs H Q _=>∃d q F x fa,vs=[.ref d,.ref q]/\zc1 H d F/\za4 H q x/\x.tie=false/\F x.b=some fa/\zfz H Q (MU.zav F x)
def zph:Sp:=fun vs H Q _=>∃q x,vs=[.ref q]/\za4 H q x/\Q (.bl (decide (MU.zhy x))) H
theorem zzs:zan ["falls","tie","end"] ["falls","tie"] (zag sP_by_late):=scm
theorem ok_late {f:Addr} {fd:FuncData} (F:Fn K mg "by_late" sP_by_late ["falls","tie"] f fd):zbb P w K mg base CX0 1 f fd ["falls","tie"] ztn:=by
 refine F.F.ok zzs (fun _ _ _ _ h=>?_) fun _ A _ s H _ Q E hr h=>?_
 ·obtain ⟨_,_,_,_,rfl,_⟩:=h
  rfl
 ·obtain ⟨d,q,Fa,x,rfl,FA,hw,ht,G⟩:=h
  have hu:=zfh hr
  refine ⟨_,zah (za5 2 zzs.nd (ixT (pv 1)))
   (zah (zbe (PW.pt (zhd (zh7 (zgf hu (pv 2) (pv 0)) (by with_unfolding_all rfl)) (zf1 (zb8 zbd (ixT (pv 1)) (pv 2))))) (zad (zaq zeh)) zap)
   (zad (zaq (zaw (pa4 zam (ixT (pv 1)) (pv 2) (za2 zcc (ixT (zda hu (pv 0) (pv 2) (fun _ _=>rfl))) (ixT (pv 1)))))))),?_⟩
  obtain ⟨kvs,hd,hl,f0,f1⟩:=FA.at_
  refine ⟨_,rfl,rdT hw rfl ⟨_,rfl,_,rfl,d,_,rfl,ze5.k (k:=Sum.inl (x.b:Int)) hd,_,rfl,?_⟩⟩
  cases hf:Fa x.b with
  | none=>
   rw [f0 _ hf]
   refine zhb (G.no ?_)
   unfold MU.zbh
   rw [hf]
   split<;>rfl
  | some fa=>
   obtain ⟨p,e1,e2⟩:=f1 _ _ hf
   rw [e1]
   refine zef ⟨_,rfl,rdT hw rfl ⟨_,rfl,rfl,_,rfl,?_⟩⟩
   rw [zia]
   by_cases c:x.a=x.b
   ·refine zf9 c (G.no ?_)
    unfold MU.zbh
    rw [if_neg fun z=>z.2 c]
   ·refine zd6 c ?_
    have hg:MU.zbh Fa x=some ⟨false,x.a,x.b,fa.2.2-x.v⟩:=by
     unfold MU.zbh
     rw [if_pos ⟨ht,c⟩,hf]
     rfl
    refine ⟨_,rfl,rdT hw rfl ⟨_,rfl,_,rfl,_,rfl,d,_,rfl,e1▸ze5.k (k:=Sum.inl (x.b:Int)) hd,?_⟩⟩
    refine rdT e2 rfl ⟨_,rfl,rdT hw rfl ⟨_,_,rfl,rfl,szl rfl,fun r hr'=>G.yes hg hr'⟩⟩
theorem zwi:zan ["falls","tie","end"] ["falls","tie"] (zag sP_by_soon):=scm
theorem ok_soon {f:Addr} {fd:FuncData} (F:Fn K mg "by_soon" sP_by_soon ["falls","tie"] f fd):zbb P w K mg base CX0 1 f fd ["falls","tie"] zth:=by
 refine F.F.ok zwi (fun _ _ _ _ h=>?_) fun _ A _ s H _ Q E hr h=>?_
 ·obtain ⟨_,_,_,_,rfl,_⟩:=h
  rfl
 ·obtain ⟨d,q,Fa,x,rfl,FA,hw,ht,G⟩:=h
  have hu:=zfh hr
  refine ⟨_,zah (za5 2 zwi.nd (ixT (pv 1)))
   (zah (zbe (PW.pt (zhd (zh7 (zgf hu (pv 2) (pv 0)) (by with_unfolding_all rfl)) (zhd (zb8 zbd (ixT (pv 1)) (pv 2)) (zf1 (zb8 zyj (ixT (pv 1)) zae))))) (zad (zaq zeh)) zap)
   (zad (zaq (zaw (pa4 zam (ixT (zda hu (pv 0) (pv 2) (fun _ _=>rfl))) (ixT (pv 1)) (za2 zb5 (ixT (zda hu (pv 0) (pv 2) (fun _ _=>rfl))) (ixT (pv 1)))))))),?_⟩
  obtain ⟨kvs,hd,hl,f0,f1⟩:=FA.at_
  refine ⟨_,rfl,rdT hw rfl ⟨_,rfl,_,rfl,d,_,rfl,ze5.k (k:=Sum.inl (x.a:Int)) hd,_,rfl,?_⟩⟩
  cases hf:Fa x.a with
  | none=>
   rw [f0 _ hf]
   refine zhb (G.no ?_)
   unfold MU.zbl
   rw [hf]
   split<;>rfl
  | some fa=>
   obtain ⟨p,e1,e2⟩:=f1 _ _ hf
   rw [e1]
   refine zef ⟨_,rfl,rdT hw rfl ⟨_,rfl,rfl,_,rfl,?_⟩⟩
   rw [zia]
   by_cases c:x.b=x.a
   ·refine zf9 c (G.no ?_)
    unfold MU.zbl
    rw [if_neg fun z=>z.2.1 c.symm]
   ·refine zd6 c ⟨_,rfl,rdT hw rfl ⟨_,_,rfl,rfl,_,rfl,?_⟩⟩
    by_cases c2:x.v<0
    ·refine zd6 (by lia) ?_
     have hg:MU.zbl Fa x=some ⟨true,fa.1,x.b,fa.2.1+x.v⟩:=by
      unfold MU.zbl
      rw [if_pos ⟨ht,fun z=>c z.symm,c2⟩,hf]
      rfl
     refine ⟨_,rfl,_,rfl,d,_,rfl,e1▸ze5.k (k:=Sum.inl (x.a:Int)) hd,?_⟩
     refine rdT e2 rfl ⟨_,rfl,rdT hw rfl ⟨_,rfl,_,rfl,d,_,rfl,e1▸ze5.k (k:=Sum.inl (x.a:Int)) hd,?_⟩⟩
     refine rdT e2 rfl ⟨_,rfl,rdT hw rfl ⟨_,_,rfl,rfl,szl rfl,fun r hr'=>G.yes hg hr'⟩⟩
    ·refine zf9 (by lia) (G.no ?_)
     unfold MU.zbl
     rw [if_neg fun z=>c2 z.2.2]
theorem zwh:zan ["first","second"] ["first","second"] (zag sP_by_sum):=scm
theorem ok_sum {f:Addr} {fd:FuncData} (F:Fn K mg "by_sum" sP_by_sum ["first","second"] f fd):zbb P w K mg base CX0 1 f fd ["first","second"] zwe:=by
 refine F.F.ok zwh (fun _ _ _ _ h=>?_) fun _ A _ s H _ Q E hr h=>?_
 ·obtain ⟨_,_,_,_,rfl,_⟩:=h
  rfl
 ·obtain ⟨p,q,x,y,rfl,hx,hy,tx,ty,G⟩:=h
  refine ⟨_,zah (zbe (zb8 zka (ixT (pv 0)) (ixT (pv 1))) (zad (zaq zeh)) zap)
   (zad (zaq (zaw (pa4 zam (ixT (pv 0)) (ixT (pv 1)) (za2 zb5 (ixT (pv 0)) (ixT (pv 1))))))),?_⟩
  refine ⟨_,rfl,rdT hx rfl ⟨_,rfl,rdT hy rfl ⟨rfl,_,rfl,?_⟩⟩⟩
  rw [zia]
  by_cases c:x.b=y.a
  ·refine zll c ?_
   have hg:MU.za1 x y=some ⟨true,x.a,y.b,x.v+y.v⟩:=if_pos ⟨tx,ty,c⟩
   exact ⟨_,rfl,rdT hx rfl ⟨_,rfl,rdT hy rfl ⟨_,rfl,rdT hx rfl ⟨_,rfl,rdT hy rfl ⟨_,_,rfl,rfl,szl rfl,fun r hr'=>G.yes hg hr'⟩⟩⟩⟩⟩
  ·exact zw6 c (G.no (if_neg fun z=>c z.2.2))
theorem zqc {a b:Int}:(if b<a then b else a)=min a b:=by
 rw [Int.min_def]
 by_cases c:b<a
 ·rw [if_pos c,if_neg (by lia)]
 ·rw [if_neg c,if_pos (by lia)]
theorem zpk:zan ["falls","wait","fall"] ["falls","wait"] (zag sP_by_sure):=scm
theorem ok_sure {f:Addr} {fd:FuncData} (F:Fn K mg "by_sure" sP_by_sure ["falls","wait"] f fd) (T:zzj mg):zbb P w K mg base CX0 1 f fd ["falls","wait"] ztf:=by
 refine F.F.ok zpk (fun _ _ _ _ h=>?_) fun _ A _ s H _ Q E hr h=>?_
 ·obtain ⟨_,_,_,_,_,rfl,_⟩:=h
  rfl
 ·obtain ⟨d,q,Fa,x,fa,rfl,FA,hw,ht,hf,G⟩:=h
  have hu:=zfh hr
  refine ⟨_,zah (za5 2 zpk.nd (zda hu (pv 0) (ixT (pv 1)) (fun _ _=>rfl)))
   (zad (zaq (zaw (pa4 zam (ixT (pv 1)) (ixT (pv 2)) (zl9 zh0 (zay (zdt rfl) (by rfl) T.min (by decide+kernel) (pa2 (ixT (pv 1)) (ixT (pv 2))))))))),?_⟩
  obtain ⟨kvs,hd,hl,f0,f1⟩:=FA.at_
  obtain ⟨p,e1,e2⟩:=f1 _ _ hf
  have hg:MU.zbg Fa x=some ⟨true,x.a,fa.1,-min x.v fa.2.1⟩:=by
   unfold MU.zbg
   rw [if_pos ht,hf]
   rfl
  refine ⟨_,rfl,_,rfl,rdT hw rfl ⟨d,_,rfl,e1▸ze5.k (k:=Sum.inl (x.b:Int)) hd,?_⟩⟩
  refine ⟨_,rfl,rdT hw rfl ⟨_,rfl,rdT e2 rfl ⟨_,rfl,rdT hw rfl ⟨_,rfl,rdT e2 rfl ⟨_,_,rfl,_,rfl,szl rfl,fun r hr'=>?_⟩⟩⟩⟩⟩
  have:=G.yes hg hr'
  rw [zqc]
  exact this
theorem zpl:zan ["falls","wait","tie","end"] ["falls","wait","tie"] (zag sP_by_back):=scm
theorem ok_back {f:Addr} {fd:FuncData} (F:Fn K mg "by_back" sP_by_back ["falls","wait","tie"] f fd) (T:zzj mg):zbb P w K mg base CX0 1 f fd ["falls","wait","tie"] zts:=by
 refine F.F.ok zpl (fun _ _ _ _ h=>?_) fun _ A _ s H _ Q E hr h=>?_
 ·obtain ⟨_,_,_,_,_,_,_,rfl,_⟩:=h
  rfl
 ·obtain ⟨d,p,q,Fa,x,y,fa,rfl,FA,hx,hy,tx,ty,hf,G⟩:=h
  have hu:=zfh hr
  refine ⟨_,zah (za5 3 zpl.nd (ixT (pv 1)))
   (zah (zbe (PW.pt (zhd (zb8 zka (ixT (pv 2)) (ixT (pv 1))) (zf1 (zb8 zbd (ixT (pv 2)) (pv 3))))) (zad (zaq zeh)) zap)
   (zad (zaq (zaw (pa4 zam (ixT (pv 2)) (pv 3) (za2 zcc (zay (zdt rfl) (by rfl) T.min (by decide+kernel) (pa2 (ixT (pv 1)) (ixT (zda hu (pv 0) (pv 3) (fun _ _=>rfl))))) (ixT (pv 2)))))))),?_⟩
  obtain ⟨kvs,hd,hl,f0,f1⟩:=FA.at_
  obtain ⟨pp,e1,e2⟩:=f1 _ _ hf
  refine ⟨_,rfl,rdT hx rfl ⟨_,rfl,rdT hy rfl ⟨_,rfl,rdT hx rfl ⟨rfl,_,rfl,?_⟩⟩⟩⟩
  rw [zia]
  by_cases c:y.b=x.a
  ·refine zll c ⟨_,rfl,rdT hy rfl ⟨_,rfl,rfl,_,rfl,?_⟩⟩
   rw [zia]
   by_cases c2:y.a=x.b
   ·exact zf9 c2 (G.no (if_neg fun z=>z.2.2.2 c2))
   ·refine zd6 c2 ?_
    have hg:MU.zau Fa x y=some ⟨false,y.a,x.b,min x.v fa.2.2-y.v⟩:=by
     unfold MU.zau
     rw [if_pos ⟨tx,ty,c,c2⟩,hf]
     rfl
    refine ⟨_,rfl,rdT hy rfl ⟨_,rfl,_,rfl,rdT hx rfl ⟨_,rfl,_,rfl,d,_,rfl,e1▸ze5.k (k:=Sum.inl (x.b:Int)) hd,?_⟩⟩⟩
    refine rdT e2 rfl ⟨_,_,rfl,_,rfl,rdT hy rfl ⟨_,_,rfl,rfl,szl rfl,fun r hr'=>?_⟩⟩
    have:=G.yes hg hr'
    rw [zqc]
    exact this
  ·exact zw6 c (G.no (if_neg fun z=>c z.2.2.1))
theorem zjv:zan ["falls","wait","end","other"] ["falls","wait"] (zag sP_by_cross):=scm
theorem ok_cross {f:Addr} {fd:FuncData} (F:Fn K mg "by_cross" sP_by_cross ["falls","wait"] f fd) (T:zzj mg):zbb P w K mg base CX0 1 f fd ["falls","wait"] zpf:=by
 refine F.F.ok zjv (fun _ _ _ _ h=>?_) fun _ A _ s H _ Q E hr h=>?_
 ·obtain ⟨_,_,_,_,_,rfl,_⟩:=h
  rfl
 ·obtain ⟨d,q,Fa,x,fa,rfl,FA,hw,ht,hf,G⟩:=h
  have hu:=zfh hr
  refine ⟨_,zah (za5 2 zjv.nd (ixT (pv 1)))
   (zah (zbe (PW.pt (zhd (zh7 (zgf hu (ixT (pv 1)) (pv 0)) (by with_unfolding_all rfl)) (zhd (zb8 zbd (ixT (pv 1)) (pv 2)) (zf1 (zb8 zfy (ixT (pv 1)) zae))))) (zad (zaq zeh)) zap)
   (zah (za5 3 zjv.nd (zda hu (pv 0) (ixT (pv 1)) (fun _ _=>rfl)))
   (zad (zaq (zaw (pa4 zam (ixT (pv 3)) (pv 2) (za2 zcc (zay (zdt rfl) (by rfl) T.min (by decide+kernel) (pa2 (ixT (pv 1)) (ixT (zda hu (pv 0) (pv 2) (fun _ _=>rfl))))) (ixT (pv 3))))))))),?_⟩
  obtain ⟨kvs,hd,hl,f0,f1⟩:=FA.at_
  obtain ⟨pp,e1,e2⟩:=f1 _ _ hf
  refine ⟨_,rfl,rdT hw rfl ⟨_,rfl,rdT hw rfl ⟨_,rfl,d,_,rfl,ze5.k (k:=Sum.inl (x.a:Int)) hd,_,rfl,?_⟩⟩⟩
  cases ho:Fa x.a with
  | none=>
   rw [f0 _ ho]
   refine zhb (G.no ?_)
   unfold MU.zav
   rw [ho]
   split<;>rfl
  | some oa=>
   obtain ⟨po,o1,o2⟩:=f1 _ _ ho
   rw [o1]
   refine zef ⟨_,rfl,rdT hw rfl ⟨_,rfl,rfl,_,rfl,?_⟩⟩
   rw [zia]
   by_cases c:x.a=x.b
   ·refine zf9 c (G.no ?_)
    unfold MU.zav
    rw [if_neg fun z=>z.2.1 c]
   ·refine zd6 c ⟨_,rfl,rdT hw rfl ⟨_,_,rfl,rfl,_,rfl,?_⟩⟩
    by_cases c2:0<x.v
    ·refine zd6 (by lia) ?_
     have hg:MU.zav Fa x=some ⟨false,oa.1,x.b,min x.v fa.2.2-oa.2.1⟩:=by
      unfold MU.zav
      rw [if_pos ⟨ht,c,c2⟩,ho,hf]
      rfl
     refine ⟨_,rfl,_,rfl,rdT hw rfl ⟨d,_,rfl,o1▸ze5.k (k:=Sum.inl (x.a:Int)) hd,?_⟩⟩
     refine ⟨_,rfl,rdT o2 rfl ⟨_,rfl,_,rfl,rdT hw rfl ⟨_,rfl,_,rfl,d,_,rfl,e1▸ze5.k (k:=Sum.inl (x.b:Int)) hd,?_⟩⟩⟩
     refine rdT e2 rfl ⟨_,_,rfl,_,rfl,rdT o2 rfl ⟨_,_,rfl,rfl,szl rfl,fun r hr'=>?_⟩⟩
     have:=G.yes hg hr'
     rw [zqc]
     exact this
    ·refine zf9 (by lia) (G.no ?_)
     unfold MU.zav
     rw [if_neg fun z=>c2 z.2.2]
theorem zwl:zan ["what"] ["what"] (zag sP_bars_every_hand):=scm
theorem zhr {t:Bool}:decide (V.str (zc4 t)=V.str "tie")=t:=by
 cases t
 ·exact ZB9 fun q=>absurd (V.str.inj q) (by decide+kernel)
 ·exact ZB8 rfl
theorem ok_bars {f:Addr} {fd:FuncData} (F:Fn K mg "bars_every_hand" sP_bars_every_hand ["what"] f fd):zbb P w K mg base CX0 1 f fd ["what"] zph:=by
 refine F.F.ok zwl (fun _ _ _ _ h=>?_) fun _ A _ s H _ Q E hr h=>?_
 ·obtain ⟨_,_,rfl,_⟩:=h
  rfl
 ·obtain ⟨q,x,rfl,hw,k⟩:=h
  refine ⟨_,zad (zaq (zfd (zl3 zbd (ixT (pv 0)) zam) (zfd (zl3 zbd (ixT (pv 0)) (ixT (pv 0))) (zjd (zl3 zhe (ixT (pv 0)) zae))))),?_⟩
  have eb:∀b:Bool,b=decide (MU.zhy x)->Q (.bl b) H:=fun b e=>by rw [e];exact k
  refine ⟨_,rfl,rdT hw rfl ⟨rfl,_,rfl,?_⟩⟩
  rw [zhr]
  cases ht:x.tie with
  | false=>exact zef (eb _ (ZB9 fun z=>by have:=z.1;rw [ht] at this;cases this).symm)
  | true=>
   refine zhb ⟨_,rfl,rdT hw rfl ⟨_,rfl,rdT hw rfl ⟨rfl,_,rfl,?_⟩⟩⟩
   rw [zia]
   by_cases c:x.a=x.b
   ·refine zf9 c ⟨_,rfl,rdT hw rfl ⟨_,_,rfl,rfl,eb _ ?_⟩⟩
    exact decide_eq_decide.mpr ⟨fun z=>⟨ht,c,z⟩,fun z=>z.2.2⟩
   ·exact zd6 c (eb _ (ZB9 fun z=>c z.2.1).symm)
def ztz:List Int->Option (Nat×Int×Int)
 | [a,_,l,m]=>some (a.toNat,l,m)
 | _=>none
def zak (F:List (List Int)):MU.zax:=fun e=>(F.find? fun r=>decide (r[1]?=some (e:Int))).bind ztz
theorem zlq {F:List (List Int)} {e:Nat} (h:∀r∈F,r[1]?≠some (e:Int)):zak F e=none:=by
 unfold zak
 have:(F.find? fun r=>decide (r[1]?=some (e:Int)))=none:=List.find?_eq_none.mpr fun r hr=>by simpa using h r hr
 rw [this]
 rfl
theorem zc0.find {n la:Int} {T F:List (List Int)} (h:zc0 n la T F) {e:Nat} {f:Nat×Int×Int} (hf:zak F e=some f):∃a l m:Int,[a,(e:Int),l,m]∈F/\f=(a.toNat,l,m)/\0<=a/\a<n/\0<(e:Int)/\(e:Int)<n/\a≠(e:Int)/\1<=l/\l<=m/\m<=60:=by
 unfold zak at hf
 cases q:F.find? fun r=>decide (r[1]?=some (e:Int)) with
 | none=>rw [q] at hf;cases hf
 | some r=>
  rw [q] at hf
  have hf:ztz r=some f:=hf
  have hm:=List.mem_of_find?_eq_some q
  have hp:=List.find?_some q
  obtain ⟨a,b,l,m,rfl,x1,x2,x3,x4,x5,x6,x7,x8⟩:=h.f r hm
  have hb:some b=some (e:Int):=of_decide_eq_true hp
  cases hb
  cases hf
  exact ⟨a,l,m,hm,rfl,x1,x2,x3,x4,x5,x6,x7,x8⟩
theorem zc0.falls {n la:Int} {T F:List (List Int)} (h:zc0 n la T F) {a l m:Int} {e:Nat} (hm:[a,(e:Int),l,m]∈F):zak F e=some (a.toNat,l,m):=by
 obtain ⟨i,hi⟩:=ZAm.mp hm
 unfold zak
 cases q:F.find? fun r=>decide (r[1]?=some (e:Int)) with
 | none=>
  have:=List.find?_eq_none.mp q _ hm
  simp at this
 | some r=>
  have hm':=List.mem_of_find?_eq_some q
  obtain ⟨j,hj⟩:=ZAm.mp hm'
  have hp:r[1]?=some (e:Int):=of_decide_eq_true (List.find?_some (p:=fun r=>decide (r[1]?=some (e:Int))) q)
  have ij:=h.one i j _ _ hi hj (by rw [hp];rfl)
  subst ij
  rw [hi] at hj
  cases hj
  rfl
theorem zc0.fok {n:Nat} {la:Int} {T F:List (List Int)} (h:zc0 (n:Int) la T F):MU.FOk n (zak F) ((60:Nat):Int):=by
 refine ⟨fun e f hf=>?_,fun e f hf=>?_,fun e f hf=>?_⟩
 ·obtain ⟨a,l,m,hm,rfl,x1,x2,x3,x4,_⟩:=h.find hf
  exact ⟨by show a.toNat<n;lia,by lia⟩
 ·obtain ⟨a,l,m,hm,rfl,x1,x2,x3,x4,_⟩:=h.find hf
  refine zlq fun r hr=>?_
  have:=h.own _ hm r hr
  show r[1]?≠some ((a.toNat:Nat):Int)
  rw [show ((a.toNat:Nat):Int)=a by lia]
  exact fun z=>this z.symm
 ·obtain ⟨a,l,m,hm,rfl,x1,x2,x3,x4,x5,x6,x7,x8⟩:=h.find hf
  exact ⟨x6,x7,x8⟩
def zl6 (C:Addr):Sp:=fun vs H Q _=>∃p n la T F,vs=[.ref p]/\ze1 C H p n la T F/\zc0 n la T F/\∀d H',H d=none->za7 H H'->zc1 H' d (zak F)->Q (.ref d) H'
abbrev nBe:List Str:=["web","found","one","other","least","most"]
theorem zvy:zan nBe ["web"] (zag sP_falls_by_end):=scm
theorem ok_byEnd {f C fF:Addr} {fd fdF:FuncData} (F:Fn K mg "falls_by_end" sP_falls_by_end ["web"] f fd) (TC:zrk K mg C) (mF:zks K C "falls" fF) (bF:zdd K fdF ["self"] []) (GF:zbb P w K mg base CX0 1 fF fdF ["self"] (zpc C fun _ F=>F)):
 zbb P w K mg base CX0 2 f fd ["web"] (zl6 C):=by
 refine F.F.ok zvy (fun _ _ _ _ h=>?_) fun _ A _ s H _ Q E hr h=>?_
 ·obtain ⟨_,_,_,_,_,rfl,_⟩:=h
  rfl
 ·obtain ⟨p,n,la,rT,rF,rfl,W0,hok,k⟩:=h
  have hu:=zfh hr
  refine ⟨_,zaf (za5 1 zvy.nd znf)
   (zaf (zc9 PassesOwn.never rfl (zbt (zho (pv 0) TC.cl mF GF hr bF .nil zdp))
    (zjc rfl (za0 (zcw 2 zvy.nd) (za0 (zcw 3 zvy.nd) (za0 (zcw 4 zvy.nd) (za0 (zcw 5 zvy.nd) zfb)))))
    (zad (zj6 hu (pv 1) (pv 3) (zaw (pa3 (pv 2) (pv 4) (pv 5))) rfl)))
   (zad (zaq (pv 1)))),?_⟩
  refine fun N1 c1 d hd=>c1 _ _ ?_
  have s1:=zab (o:=.dK []) hd
  have e1:upd H d (.dK []) d=some (.dK []):=zaa
  generalize upd H d (.dK [])=H1 at*
  obtain ⟨dx,ta,fa,ep,_,_⟩:=id W0
  have nf:(zgt n la ta fa).lookup ("falls":Str)=none:=zxx _ _ _ _ (by decide+kernel) (by decide+kernel) (by decide+kernel) (by decide+kernel)
  refine fun N2 c2=>⟨_,rfl,p,dx,_,rfl,s1 _ _ ep,nf,p,n,la,rT,rF,rfl,W0.same s1,fun l H2 hl s2 R2=>?_⟩
  obtain ⟨qs,R⟩:=R2
  have R:zcj H2 l qs rF:=R
  refine ⟨l,rfl,⟨_,SqL.of R.1⟩,?_⟩
  have fl:=hok.fl
  have hdd:H2 d=some (.dK []):=s2 _ _ e1
  have hdH:H d=none:=hd
  refine zcx (K:=K) (a:=l) (xs:=qs.map V.ref) (fun i σ' H'=>∃v1 v2 v3 v4 kvs,σ'=[some (.ref p),some (.ref d),v1,v2,v3,v4]/\H' d=some (.dK kvs)/\kvs.length<=i/\(∀e:Nat,(∀r∈rF.take i,r[1]?≠some (e:Int))->zfk kvs (.inl (e:Int))=none)/\
   (∀a b le mo:Int,[a,b,le,mo]∈rF.take i->∃q,zfk kvs (.inl b)=some (.ref q)/\H' q=some (.tup [.int a,.int le,.int mo]))/\∀b o,H2 b=some o->b≠d->H' b=some o)
   ⟨none,none,none,none,[],rfl,hdd,ZAw _,(fun e _=>rfl),(fun a b le mo h=>by simp at h),fun b o e _=>e⟩ ?_ ?_ ?_
  ·rintro i σ' H3 _ ⟨v1,v2,v3,v4,kvs,rfl,_,_,_,_,kp⟩
   exact SqL.of (kp _ _ R.1 (zba R.1 hdd nofun))
  ·rintro i x σ' H3 hx ⟨v1,v2,v3,v4,kvs,rfl,ed,hlen,h0,h1,kp⟩
   obtain ⟨q,r,rfl,hq,hr',hqt⟩:=R.get hx
   obtain ⟨a',b',le,mo,rfl,x1,x2,x3,x4,_⟩:=hok.f r (ZA1 hr')
   have hi:i<rF.length:=(ZAv.mp hr').1
   refine ⟨q,_,rfl,SqT.of (kp _ _ hqt (zba hqt hdd nofun)),rfl,_,_,rfl,_,_,rfl,_,_,rfl,_,_,rfl,rfl,?_⟩
   refine ⟨_,rfl,_,rfl,_,rfl,szl rfl,fun t ht=>?_⟩
   have td:t≠d:=ZAl (zac ed ht)
   refine ⟨_,rfl,_,rfl,d,_,rfl,zrm.k (k:=Sum.inl b') (by rw [zai (ZAl td)];exact ed) (zao (by lia)),?_⟩
   have tk:rF.take (i+1)=rF.take i++[[a',b',le,mo]]:=by rw [ZBu,hr'];rfl
   refine ⟨_,_,_,_,_,rfl,zaa,ZBg (zdi _ _ _) (by lia),fun e he=>?_,fun a b l2 m2 hm=>?_,fun b o e ne=>?_⟩
   ·rw [tk] at he
    have hne:b'≠(e:Int):=fun z=>he [a',b',le,mo] (ZBn _ ZA5) (by rw [<-z];rfl)
    rw [zgb,if_neg (fun z=>hne (Sum.inl.inj z).symm)]
    exact h0 e fun r hr=>he r (ZAb _ hr)
   ·rw [tk] at hm
    rcases ZBo.mp hm with hm | hm
    ·have hbb:b≠b':=fun z=>by
      obtain ⟨j,hj⟩:=ZAm.mp hm
      have hjl:j<i:=by
       have:=(ZAv.mp hj).1
       rw [ZBl] at this
       lia
      have hj':rF[j]?=some [a,b,l2,m2]:=by
       rw [List.getElem?_take] at hj
       rw [if_pos hjl] at hj
       exact hj
      have:=hok.one j i _ _ hj' hr' (by rw [z];rfl)
      lia
     obtain ⟨q',hq1,hq2⟩:=h1 a b l2 m2 hm
     refine ⟨q',by rw [zgb,if_neg (fun z=>hbb (Sum.inl.inj z))];exact hq1,?_⟩
     rw [zai (zba hq2 ed nofun),zai (zac hq2 ht)]
     exact hq2
    ·have hm:=ZBd.mp hm
     cases hm
     refine ⟨t,by rw [zgb,if_pos rfl],?_⟩
     rw [zai td,zaa]
   ·rw [zai ne,zai (zac (kp _ _ e ne) ht)]
    exact kp _ _ e ne
  ·rintro σ' H3 ⟨v1,v2,v3,v4,kvs,rfl,ed,hlen,h0,h1,kp⟩
   have hle:rF.take (qs.map V.ref).length=rF:=by rw [ZAu,R.len];exact ZBi
   rw [hle] at h0 h1
   rw [ZAu,R.len] at hlen
   refine c2 _ _ ⟨_,rfl,k d H3 hd (fun b o e=>kp _ _ (s2 _ _ (s1 _ _ e)) (zac e hdH)) ⟨kvs,ed,by lia,fun e he=>h0 e fun r hr z=>?_,fun e f hf=>?_⟩⟩
   ·obtain ⟨a',b',le,mo,rfl,_⟩:=hok.f r hr
    have z:some b'=some (e:Int):=z
    cases z
    rw [hok.falls hr] at he
    cases he
   ·obtain ⟨a,l',m',hm,rfl,x1,_⟩:=hok.find hf
    obtain ⟨q,hq1,hq2⟩:=h1 _ _ _ _ hm
    refine ⟨q,hq1,?_⟩
    rw [hq2]
    show some (HO.tup [.int a,.int l',.int m'])=some (HO.tup [.int ((a.toNat:Nat):Int),.int l',.int m'])
    rw [show ((a.toNat:Nat):Int)=a by lia]
end Y0
namespace L2
open PySem PySem.Spec PyProof.Rows
def ze4:List Value->List Str->Bool
 | [],[]=>true
 | .str x _::vs,s::ss=>decide (x=s) && ze4 vs ss
 | _,_=>false
theorem zi3:∀{vs:List Value} {ss:List Str},ze4 vs ss=true->zb3 (ss.map V.str) vs
 | [],[],_=>.nil
 | .str x t::vs,s::ss,h=>by
  have h:(decide (x=s) && ze4 vs ss)=true:=h
  rw [Bool.and_eq_true,ZBy] at h
  obtain ⟨e,h2⟩:=h
  subst e
  exact .cons ⟨t,rfl⟩ (zi3 h2)
 | [],_::_,h=>by cases h
 | .none::_,_,h=>by simp [ze4] at h
 | .bool _::_,_,h=>by simp [ze4] at h
 | .int _ _::_,_,h=>by simp [ze4] at h
 | .float _ _::_,_,h=>by simp [ze4] at h
 | .str _ _::_,[],h=>by simp [ze4] at h
 | .bytes _ _::_,_,h=>by simp [ze4] at h
 | .ref _::_,_,h=>by simp [ze4] at h
 | .builtin _::_,_,h=>by simp [ze4] at h
 | .type _::_,_,h=>by simp [ze4] at h
 | .ellipsis::_,_,h=>by simp [ze4] at h
 | .notImplemented::_,_,h=>by simp [ze4] at h
def zoy (K:ZCa) (ss:List Str):Value->Bool
 | .ref b=>match K.lookup b with
  | some o=>(o.cls==.type "tuple") && (match o.data with
   | .seq its _=>decide (its.size<=sizeLine) && ze4 its.toList ss
   | _=>false)
  | none=>false
 | _=>false
theorem zi0 {K:ZCa} {ss:List Str} {v:Value} (h:zoy K ss v=true):∃b,v=.ref b/\∀H,SqT K H b (ss.map V.str):=by
 cases v with
 | ref b=>
  refine ⟨b,rfl,fun H=>.inr ?_⟩
  have h:(match K.lookup b with
   | some o=>(o.cls==.type "tuple") && (match o.data with
    | .seq its _=>decide (its.size<=sizeLine) && ze4 its.toList ss
    | _=>false)
   | none=>false)=true:=h
  cases q:K.lookup b with
  | none=>rw [q] at h;cases h
  | some o=>
   rw [q] at h
   have h:((o.cls==.type "tuple") && (match o.data with
    | .seq its _=>decide (its.size<=sizeLine) && ze4 its.toList ss
    | _=>false))=true:=h
   rw [Bool.and_eq_true] at h
   obtain ⟨h1,h2⟩:=h
   cases d:o.data with
   | seq its n=>
    rw [d] at h2
    have h2:(decide (its.size<=sizeLine) && ze4 its.toList ss)=true:=h2
    rw [Bool.and_eq_true,ZBy] at h2
    exact ⟨o,its,n,rfl,beq_iff_eq.mp h1,d,h2.1,zi3 h2.2⟩
   | _=>rw [d] at h2;cases h2
 | _=>cases h
abbrev zzl (K:ZCa) (a:Addr) (D:List (Str×List Str)):Prop:=KTD.tabLook (fun d v=>zoy K d v) (fun b=>List.lookup b K) a D=true
section
variable {prog:Program} {w:World} {A:Around} {E:Value->Shared->Prop} {s:Shared} {a:Addr} {δ:Type} {R:δ->Value->Prop} {D:List (Str×δ)} {k:Str} {tk:Tok}
theorem zmp {Q:Option Value->Shared->Prop} (T:KTD.TabOf R s.heap a D) (h1:∀d v,KTD.datumAt k D=some d->R d v->Q (some v) { s with toks:=s.toks+1 }) (h2:KTD.datumAt k D=none->Q none { s with toks:=s.toks+1 }):
 wpAny (model prog w) A (dictGet a (.str k tk)) Q E s:=by
 obtain ⟨_,o,es,ep,ho,hc,hd,hr⟩:=T
 unfold dictGet
 try with_reducible refine wpAny_holding ?_
 refine ZAp (wpAny_pyHash_str (ZAp (KTD.kt_dictFind_strs (s:={ s with toks:=s.toks+1 }) ho hd (by obtain ⟨l⟩:=es;simpa using hr.exact) ?_)))
 have hq:Q (findBy (fun k v=>v.isStr k) es k) { s with toks:=s.toks+1 }:=by
  have hf:findBy (fun k v=>v.isStr k) es k=(es.toList.find? fun e=>e.key.isStr k).map (·.val):=by
   obtain ⟨l⟩:=es
   simp [findBy]
  rw [hf]
  cases hat:KTD.datumAt k D with
  | some d=>obtain ⟨v,hv,hfl⟩:=hr.find_some hat;rw [hv];exact h1 d v hat hfl
  | none=>rw [hr.find_none hat];exact h2 hat
 rw [findBy_of_findIdx?] at hq
 cases hi:es.findIdx? fun e=>e.key.isStr k with
 | none=>rw [hi] at hq;exact ZAq hq
 | some i=>rw [hi] at hq;exact ZAp (wpAny_dictEntries (s:={ s with toks:=s.toks+1 }) ho hd (ZAq hq))
theorem zn8:MeetsIn prog w (Builtin.«dict.get» ⟨[.ref a,.str k tk],[]⟩) (fun _ R' s=>KTD.TabOf R s.heap a D/\(∀d v,KTD.datumAt k D=some d->R d v->R' (.ok (.ret v)) { s with toks:=s.toks+1 })/\(KTD.datumAt k D=none->R' (.ok (.ret .none)) { s with toks:=s.toks+1 })):=
 .of_wp fun A R' s ⟨T,h1,h2⟩=>by
  show wpAny _ _ (dictGet a (.str k tk)>>=_) _ _ s
  refine ZAp (zmp T (fun d v ha hv=>ZAq ⟨v,rfl,h1 d v ha hv⟩) fun hn=>?_)
  show wpAny _ _ (Builtin.Dict.missed a (.str k tk)>>=_) _ _ _
  exact ZAp (wpAny_missed_other T.1 (ZAq ⟨.none,rfl,h2 hn⟩))
end
def zuj (K:ZCa) (D:List (Str×List Str)) (td ty:TE):TE:=fun σ H Q=>td σ H fun x H1=>∃a,x=.ref a/\zzl K a D/\ty σ H1 fun y H2=>∃z,y=.str z/\(∀ss,KTD.datumAt z D=some ss->∀b,(∀H',SqT K H' b (ss.map V.str))->Q (.ref b) H2)/\(KTD.datumAt z D=none->Q .non H2)
theorem zpy {X:Cx} {o e:Expr} {apos cpos:Pos} {td ty:TE} {D:List (Str×List Str)} (ho:PE X o td) (he:PE X e ty) (m:M1 X o "get" apos e cpos):PE X (.Call (.Attribute o "get" apos) [e] [] cpos) (zuj X.K D td ty):=by
 intro pins s σ H Q I h
 refine wpAny_Call_method m.base m.few m.line PySem.F.plainAttrs_dict PySem.F.slot_dict_get PySem.F.type_dict_get (thn (ho pins s σ H _ I h) fun u s1 zz=>?_)
 obtain ⟨x,H1,I1,rx,a,ex,d,q1⟩:=zz
 subst ex
 obtain rfl:u=Value.ref a:=rx
 have T:KTD.TabOf (fun (ss:List Str) v=>∃b,v=Value.ref b/\∀H,SqT X.K H b (ss.map V.str)) s1.heap a D:=KTD.tab_of_look (fun d v z=>zi0 z) I1.kIn d
 obtain ⟨hsm,ob,es,ep,hob,hc,hdd,hrows⟩:=id T
 refine ⟨⟨ob,hob,hc.1⟩,fun b e=>?_,?_⟩
 ·injection e with e
  subst e
  exact ⟨ob,hob,hc.2.1⟩
 rw [m.trees]
 refine Calls.callWith_builtin rfl (Calls.evalArgs_plain (Calls.spliced_cons (thn (he pins s1 σ H1 _ I1 q1) fun iv s2 zz=>Calls.spliced_nil ?_)))
 obtain ⟨y,H2,I2,ry,z,ey,g1,g2⟩:=zz
 subst ey
 obtain ⟨t,rfl⟩:=ry
 have T2:KTD.TabOf (fun (ss:List Str) v=>∃b,v=Value.ref b/\∀H,SqT X.K H b (ss.map V.str)) s2.heap a D:=KTD.tab_of_look (fun d v z=>zi0 z) I2.kIn d
 refine call_meetsIn PySem.F.slot_dict_get (show s2.TypeIs (.ref a) "dict" from ?_) PySem.F.entry_dict_get (PySem.F.args_dict_get_2 _ _) (zn8 (D:=D)) ⟨T2,fun ss v ha hv=>?_,fun hn=>?_⟩
 ·obtain ⟨_,ob2,_,_,hob2,hc2,_⟩:=id T2
  exact ⟨ob2,hob2,hc2.1⟩
 ·obtain ⟨b,rfl,hb⟩:=hv
  exact ⟨.ref b,H2,I2.tok _,rfl,g1 ss ha b hb⟩
 ·exact ⟨.non,H2,I2.tok _,rfl,g2 hn⟩
section
variable {X:Cx} {K:ZCa}
end
section
variable {X:Cx} {K:ZCa}
def zwp (K:ZCa):R2:=fun x y H Q=>∃p q xs,x=.ref p/\y=.ref q/\SqL K H p xs/\SqL K H q []/\Q (.bl (!xs.isEmpty)) H
theorem zj9 (hK:X.K=K) (hu:X.A.units+64<cLine):OpR X (compareOp .NotEq) (zwp K):=by
 subst hK
 intro pins s σ H x y v u Q I rx ry h
 obtain ⟨p,q,xs,rfl,rfl,h1,h2,hq⟩:=h
 cases rx
 cases ry
 obtain ⟨us,r1,p1,_⟩:=I.list h1
 obtain ⟨vs,r2,p2,_⟩:=I.list h2
 have l1:=r1.length
 have l2:=r2.length
 have v0:vs=[]:=ZAi.mp l2.symm
 subst v0
 cases xs with
 | nil=>
  have u0:us=[]:=ZAi.mp l1.symm
  subst u0
  exact SeqAt.RcNeAt.lists (e:=fun _=>true) p1.isList p2.isList rfl (by omega) (fun j h1 _=>absurd h1 (ZB6 _)) _ _ _ _ ⟨.bl _,H,I,rfl,hq⟩
 | cons a t=>
  refine SeqAt.RcNeAt.lists_lengths p1.isList p2.isList ?_ (by omega) _ _ _ _ ⟨.bl _,H,I,rfl,hq⟩
  rw [ZA2,<-l1]
  rfl
end
def zeg (xs ys:List V):Bool:=((List.range (min xs.length ys.length)).all fun j=>eqV (xs.getD j .non) (ys.getD j .non)) && xs.length==ys.length
def eqR (H:Hp) (xs:List V):Value->Bool
 | .ref b=>match H b with
  | some (.tup ys)=>zeg ys xs
  | _=>false
 | _=>false
theorem zsx:∀{x:V},zcz x=true->eqV x x=true
 | .non,_=>rfl
 | .bl b,_=>(ZB7 b:(b==b)=true)
 | .int i,_=>(ZB7 i:(i==i)=true)
 | .str s,_=>(ZB7 s:(s==s)=true)
 | .byt _,h=>by cases h
 | .flt _,h=>by cases h
 | .ref _,h=>by cases h
 | .ty _,h=>by cases h
theorem zfv {xs:List V} (f:xs.all zcz=true):zeg xs xs=true:=by
 unfold zeg
 rw [ZB7,Bool.and_true,ZBw]
 intro j hj
 have hj:=List.mem_range.mp hj
 rw [Nat.min_self] at hj
 have g:xs[j]?=some (xs.getD j .non):=by rw [ZB0,ZAx hj];rfl
 exact zsx (zhs f g)
section
variable {X:Cx}
theorem zsy {pins:List (Addr×Obj)} {σ:St} {H:Hp} {s:Shared} {A:Around} {p b:Addr} {xs ys:List V} (I:Inv X pins σ H s) (hu:A.units<cLine) (hp:H p=some (.tup xs)) (hb:H b=some (.tup ys)) (f1:xs.all zcz=true) (f2:ys.all zcz=true):
 SeqAt.EqAt A s (.ref b) (.ref p) (zeg ys xs):=by
 by_cases e:b=p
 ·subst e
  rw [hp] at hb
  cases hb
  rw [zfv f1]
  exact SeqAt.EqAt.same _
 ·obtain ⟨us,r1,p1,_⟩:=I.tuple (SqT.of hb)
  obtain ⟨vs,r2,p2,_⟩:=I.tuple (SqT.of hp)
  have h:=SeqAt.RcAt.tuples (A:=A) p1 p2 hu (zkj r1 r2 f2 f1)
  have l1:=r1.length
  have l2:=r2.length
  rw [ZA2,ZA2,<-l1,<-l2] at h
  exact SeqAt.EqAt.of_refs e h
theorem zkq {H:Hp} {xs:List V}:∀{ps:List Addr} {us:List Value},zb3 (ps.map V.ref) us->us.any (eqR H xs)=ps.any fun b=>eqR H xs (.ref b)
 | [],_,.nil=>rfl
 | p::ps,_,.cons r t=>by
  cases r
  rw [List.any_cons,List.any_cons,zkq t]
theorem zni {u:Value}:∀{ps:List Addr} {us:List Value},zb3 (ps.map V.ref) us->u∈us->∃b∈ps,u=.ref b
 | [],_,.nil,h=>by cases h
 | p::ps,_,.cons r t,h=>by
  cases r
  rcases ZBe.mp h with e | h
  ·exact ⟨p,ZA5,e⟩
  ·obtain ⟨b,h1,h2⟩:=zni t h
   exact ⟨b,ZA4 _ h1,h2⟩
def zzw (neg:Bool):R2:=fun x y H Q=>∃(p:Addr) (xs:List V) (l:Addr) (ps:List Addr),x=.ref p/\y=.ref l/\H p=some (.tup xs)/\xs.all zcz=true/\H l=some (.lst (ps.map V.ref))/\(∀b∈ps,∃ys,H b=some (.tup ys)/\ys.all zcz=true)/\
 Q (.bl (if neg then !(ps.any fun b=>eqR H xs (.ref b)) else ps.any fun b=>eqR H xs (.ref b))) H
theorem zw8 {pins:List (Addr×Obj)} {σ:St} {H:Hp} {s:Shared} {p:Addr} {xs:List V} {ps:List Addr} {us:List Value} (I:Inv X pins σ H s) (hu:X.A.units+64<cLine) (hp:H p=some (.tup xs)) (f:xs.all zcz=true) (hb:∀b∈ps,∃ys,H b=some (.tup ys)/\ys.all zcz=true) (r:zb3 (ps.map V.ref) us):
 ∀y,y∈us.toArray->SeqAt.EqAt X.A.in1 s y (.ref p) (eqR H xs y):=fun y hy=>by
 obtain ⟨b,h1,rfl⟩:=zni r (by simpa using hy)
 obtain ⟨ys,h2,h3⟩:=hb b h1
 have:=zsy (A:=X.A.in1) I (show X.A.units+1<cLine by omega) hp h2 f h3
 rw [show eqR H xs (.ref b)=zeg ys xs by show (match H b with | some (.tup ys)=>zeg ys xs | _=>false)=_;rw [h2]]
 exact this
theorem zwx (hu:X.A.units+64<cLine):OpR X (compareOp .In) (zzw false):=by
 intro pins s σ H x y v u Q I rx ry h
 obtain ⟨p,xs,l,ps,rfl,rfl,hp,f,hl,hb,q⟩:=h
 cases rx
 cases ry
 obtain ⟨us,r,pl,_⟩:=I.list (SqL.of hl)
 refine SeqAt.in_listAt (eqR H xs) pl.isList (zw8 I hu hp f hb r) ⟨.bl _,H,I,rfl,?_⟩
 rw [show us.toArray.any (eqR H xs)=us.any (eqR H xs) by simp,zkq r]
 exact q
theorem zp3 (hu:X.A.units+64<cLine):OpR X (compareOp .NotIn) (zzw true):=by
 intro pins s σ H x y v u Q I rx ry h
 obtain ⟨p,xs,l,ps,rfl,rfl,hp,f,hl,hb,q⟩:=h
 cases rx
 cases ry
 obtain ⟨us,r,pl,_⟩:=I.list (SqL.of hl)
 refine SeqAt.notIn_listAt (eqR H xs) pl.isList (zw8 I hu hp f hb r) ⟨.bl _,H,I,rfl,?_⟩
 rw [show us.toArray.any (eqR H xs)=us.any (eqR H xs) by simp,zkq r]
 exact q
def zyi:R2:=fun x y H Q=>∃p q xs ys,x=.ref p/\y=.ref q/\H p=some (.tup xs)/\H q=some (.tup ys)/\xs.all zcz=true/\ys.all zcz=true/\Q (.bl (!zeg xs ys)) H
theorem zp4 (hu:X.A.units+64<cLine):OpR X (compareOp .NotEq) zyi:=by
 intro pins s σ H x y v u Q I rx ry h
 obtain ⟨p,q,xs,ys,rfl,rfl,h1,h2,f1,f2,hq⟩:=h
 cases rx
 cases ry
 obtain ⟨us,r1,p1,_⟩:=I.tuple (SqT.of h1)
 obtain ⟨vs,r2,p2,_⟩:=I.tuple (SqT.of h2)
 have l1:=r1.length
 have l2:=r2.length
 refine SeqAt.RcNeAt.tuples p1 p2 (by omega) (zkj r1 r2 f1 f2) _ _ _ _ ⟨.bl _,H,I,rfl,?_⟩
 rw [ZA2,ZA2,<-l1,<-l2]
 exact hq
theorem zpp:∀{ps:List Addr} {us vs:List Value},zb3 (ps.map V.ref) us->zb3 (ps.map V.ref) vs->us=vs
 | [],_,_,.nil,.nil=>rfl
 | p::ps,_,_,.cons r t,.cons r' t'=>by
  cases r
  cases r'
  rw [zpp t t']
end
def zfa:V->Bool
 | .int _=>true
 | .str _=>true
 | _=>false
theorem zjb:∀{xs:List V},xs.all zfa=true->xs.all zcz=true:=fun {xs} h=>ZBw.mpr fun x hx=>by
 have:=ZBw.mp h x hx
 cases x<;>first | rfl | cases this
theorem zvh {x y:V} (h:zfa x=true) (h':zfa y=true):eqV x y=true↔x=y:=by
 cases x with
 | int i=>cases y with
  | int j=>show (i==j)=true↔_;rw [beq_iff_eq,V.int.injEq]
  | str s=>exact ⟨nofun,nofun⟩
  | _=>cases h'
 | str s=>cases y with
  | int j=>exact ⟨nofun,nofun⟩
  | str s'=>show (s==s')=true↔_;rw [beq_iff_eq,V.str.injEq]
  | _=>cases h'
 | _=>cases h
theorem zfi {xs ys:List V} (h:xs.all zfa=true) (h':ys.all zfa=true):zeg xs ys=true↔xs=ys:=by
 refine ⟨fun e=>?_,fun e=>by rw [e];exact zfv (zjb h')⟩
 unfold zeg at e
 rw [Bool.and_eq_true,ZBw,beq_iff_eq] at e
 obtain ⟨e1,e2⟩:=e
 refine List.ext_getElem e2 fun i h1 h2=>?_
 have:=e1 i (List.mem_range.mpr (by omega))
 rw [ZB0,ZB0,ZAx h1,ZAx h2] at this
 exact (zvh (ZBw.mp h _ (ZB3 h1)) (ZBw.mp h' _ (ZB3 h2))).mp this
section
variable {X:Cx} {K:ZCa}
def zAx:R2:=fun x y H Q=>∃q ys,y=.ref q/\H q=some (.tup ys)/\ys.all zcz=true/\((x=.non/\Q (.bl false) H)\/∃p xs,x=.ref p/\H p=some (.tup xs)/\xs.all zcz=true/\Q (.bl (zeg xs ys)) H)
def zAu:R2:=fun x y H Q=>∃q ys,y=.ref q/\H q=some (.tup ys)/\ys.all zcz=true/\((x=.non/\Q (.bl true) H)\/∃p xs,x=.ref p/\H p=some (.tup xs)/\xs.all zcz=true/\Q (.bl (!zeg xs ys)) H)
theorem zwy (hu:X.A.units+64<cLine):OpR X (compareOp .Eq) zAx:=by
 intro pins s σ H x y v u Q I rx ry h
 obtain ⟨q,ys,rfl,h2,f2,h⟩:=h
 cases ry
 obtain ⟨vs,r2,p2,_⟩:=I.tuple (SqT.of h2)
 rcases h with ⟨rfl,hq⟩ | ⟨p,xs,rfl,h1,f1,hq⟩
 ·cases rx
  exact SeqAt.RcAt.none_tuple p2 (by omega) _ _ _ _ ⟨.bl _,H,I,rfl,hq⟩
 ·cases rx
  obtain ⟨us,r1,p1,_⟩:=I.tuple (SqT.of h1)
  have l1:=r1.length
  have l2:=r2.length
  refine SeqAt.eq_tupleAt p1 p2 (by omega) (zkj r1 r2 f1 f2) ⟨.bl _,H,I,rfl,?_⟩
  rw [ZA2,ZA2,<-l1,<-l2]
  exact hq
theorem zwv (hu:X.A.units+64<cLine):OpR X (compareOp .NotEq) zAu:=by
 intro pins s σ H x y v u Q I rx ry h
 obtain ⟨q,ys,rfl,h2,f2,h⟩:=h
 rcases h with ⟨rfl,hq⟩ | ⟨p,xs,rfl,h1,f1,hq⟩
 ·cases rx
  cases ry
  obtain ⟨vs,r2,p2,_⟩:=I.tuple (SqT.of h2)
  exact SeqAt.RcNeAt.none_tuple p2 (by omega) _ _ _ _ ⟨.bl _,H,I,rfl,hq⟩
 ·exact zp4 hu pins s σ H _ _ v u Q I rx ry ⟨p,q,xs,ys,rfl,rfl,h1,h2,f1,f2,hq⟩
def zyh (K:ZCa):R2:=fun x y H Q=>∃p q xs ys,x=.ref p/\y=.ref q/\SqT K H p xs/\SqT K H q ys/\xs.all zcz=true/\ys.all zcz=true/\Q (.bl (!zeg xs ys)) H
theorem zu5 (hK:X.K=K) (hu:X.A.units+64<cLine):OpR X (compareOp .NotEq) (zyh K):=by
 subst hK
 intro pins s σ H x y v u Q I rx ry h
 obtain ⟨p,q,xs,ys,rfl,rfl,h1,h2,f1,f2,hq⟩:=h
 cases rx
 cases ry
 obtain ⟨us,r1,p1,_⟩:=I.tuple h1
 obtain ⟨vs,r2,p2,_⟩:=I.tuple h2
 have l1:=r1.length
 have l2:=r2.length
 refine SeqAt.RcNeAt.tuples p1 p2 (by omega) (zkj r1 r2 f1 f2) _ _ _ _ ⟨.bl _,H,I,rfl,?_⟩
 rw [ZA2,ZA2,<-l1,<-l2]
 exact hq
def zux:R2:=fun x y H Q=>∃(p q:Addr) (ps:List Addr),x=.ref p/\y=.ref q/\H p=some (.lst (ps.map V.ref))/\H q=some (.lst (ps.map V.ref))/\Q (.bl true) H
theorem zp8 (hu:X.A.units+64<cLine):OpR X (compareOp .Eq) zux:=by
 intro pins s σ H x y v u Q I rx ry h
 obtain ⟨p,q,ps,rfl,rfl,h1,h2,hq⟩:=h
 cases rx
 cases ry
 obtain ⟨us,r1,p1,_⟩:=I.list (SqL.of h1)
 obtain ⟨vs,r2,p2,_⟩:=I.list (SqL.of h2)
 obtain rfl:=zpp r1 r2
 refine SeqAt.eq_listAt (e:=fun _=>true) p1.isList p2.isList rfl (by omega) (fun j h1 h2=>SeqAt.EqAt.same _) ⟨.bl _,H,I,rfl,?_⟩
 rw [show ((List.range us.toArray.size).all fun _=>true)=true from ZBw.mpr fun _ _=>rfl]
 exact hq
end
open PySem
theorem zgl:∀{ss:List Str},(ss.map V.str).all zcz=true
 | []=>rfl
 | s::r=>by
  rw [ZBf,List.all_cons,zgl (ss:=r)]
  rfl
end L2
namespace Y0
open PySem L2
seal L2.PE L2.PA L2.PT L2.PS L2.PSs L2.PG L2.PGs L2.PI L2.PO
abbrev zn2:List (Str×List Str):=[("sum",["tie","tie"]),("late",["tie"]),("soon",["tie"]),("sure",["wait"]),("back",["wait","tie"]),("cross",["wait"])]
structure TxtU (K:ZCa) (mg:Str->Option Value):Prop where
 at_:∃u,mg "USED_KINDS"=some (.ref u)/\zzl K u zn2
 tuple:mg "tuple"=none
def zc2 (xs:List MU.zar):List Str:=xs.map fun x=>zc4 x.tie
inductive zg3 (F:MU.zax):Str->List MU.zar->Option MU.zar->Prop
 | sum (x y:MU.zar) (hx:x.tie=true) (hy:y.tie=true):zg3 F "sum" [x,y] (MU.za1 x y)
 | late (x:MU.zar) (hx:x.tie=true):zg3 F "late" [x] (MU.zbh F x)
 | soon (x:MU.zar) (hx:x.tie=true):zg3 F "soon" [x] (MU.zbl F x)
 | sure (x:MU.zar) (fa:Nat×Int×Int) (hx:x.tie=false) (hf:F x.b=some fa):zg3 F "sure" [x] (MU.zbg F x)
 | back (x y:MU.zar) (fa:Nat×Int×Int) (hx:x.tie=false) (hy:y.tie=true) (hf:F x.b=some fa):zg3 F "back" [x,y] (MU.zau F x y)
 | cross (x:MU.zar) (fa:Nat×Int×Int) (hx:x.tie=false) (hf:F x.b=some fa):zg3 F "cross" [x] (MU.zav F x)
theorem zg3.kinds {F:MU.zax} {word:Str} {xs:List MU.zar} {o:Option MU.zar} (h:zg3 F word xs o):PyProof.Rows.KTD.datumAt word zn2=some (zc2 xs)/\xs.length<=2:=by
 cases h with
 | sum x y hx hy=>refine ⟨?_,ZAw _⟩;unfold zc2;rw [ZBf,ZBf,List.map_nil,hx,hy];decide+kernel
 | late x hx=>refine ⟨?_,ZAe 1⟩;unfold zc2;rw [ZBf,List.map_nil,hx];decide+kernel
 | soon x hx=>refine ⟨?_,ZAe 1⟩;unfold zc2;rw [ZBf,List.map_nil,hx];decide+kernel
 | sure x fa hx hf=>refine ⟨?_,ZAe 1⟩;unfold zc2;rw [ZBf,List.map_nil,hx];decide+kernel
 | back x y fa hx hy hf=>refine ⟨?_,ZAw _⟩;unfold zc2;rw [ZBf,ZBf,List.map_nil,hx,hy];decide+kernel
 | cross x fa hx hf=>refine ⟨?_,ZAe 1⟩;unfold zc2;rw [ZBf,List.map_nil,hx];decide+kernel
def zvn (H:Hp) (l:Addr) (ps:List Addr) (xs:List MU.zar):Prop:=H l=some (.lst (ps.map V.ref))/\Paired (za4 H) ps xs
def Mis (word:Str) (xs:List MU.zar):Prop:=xs.length<=2/\∃ks,PyProof.Rows.KTD.datumAt word zn2=some ks/\ks≠zc2 xs
def zh4:Sp:=fun vs H Q _=>∃d word ul ps F xs o,vs=[.ref d,.str word,.ref ul]/\zc1 H d F/\zvn H ul ps xs/\(zg3 F word xs o\/o=none/\Mis word xs)/\zfz H Q o
theorem zm6:∀{xs ys:List Str},xs.map V.str=ys.map V.str->xs=ys
 | [],[],_=>rfl
 | x::xs,y::ys,h=>by
  rw [ZBf,ZBf,List.cons.injEq,V.str.injEq] at h
  rw [h.1,zm6 h.2]
 | [],_::_,h=>by cases h
 | _::_,[],h=>by cases h
theorem zi9 {ss:List Str}:(ss.map V.str).all zfa=true:=by rw [List.all_map];exact ZBw.mpr fun _ _=>rfl
theorem zfz.same {H H1:Hp} {Q:VK} {o:Option MU.zar} (g:zfz H Q o) (s:za7 H H1):zfz H1 Q o:=⟨fun e H' s'=>g.1 e H' (s.trans s'),fun x e r H' hr s' h=>g.2 x e r H' (s.free hr) (s.trans s') h⟩
theorem zAh:zan ["falls","word","used"] ["falls","word","used"] (zag sP_what_follows):=scm
theorem zBj:zbw (zag sP_what_follows) ["falls","word","used"] (fsc [(".0",.local),("what",.local)]) ["what"] [none]:=com
theorem zA8:(["what"]:List Str).Nodup:=by decide+kernel
theorem ok_follows {f f1 f2 f3 f4 f5 f6:Addr} {fd d1 d2 d3 d4 d5 d6:FuncData} (F:Fn K mg "what_follows" sP_what_follows ["falls","word","used"] f fd) (T:TxtU K mg)
 (F1:Fn K mg "by_sum" sP_by_sum ["first","second"] f1 d1) (G1:zbb P w K mg base CX0 1 f1 d1 ["first","second"] zwe)
 (F2:Fn K mg "by_late" sP_by_late ["falls","tie"] f2 d2) (G2:zbb P w K mg base CX0 1 f2 d2 ["falls","tie"] ztn)
 (F3:Fn K mg "by_soon" sP_by_soon ["falls","tie"] f3 d3) (G3:zbb P w K mg base CX0 1 f3 d3 ["falls","tie"] zth)
 (F4:Fn K mg "by_sure" sP_by_sure ["falls","wait"] f4 d4) (G4:zbb P w K mg base CX0 1 f4 d4 ["falls","wait"] ztf)
 (F5:Fn K mg "by_back" sP_by_back ["falls","wait","tie"] f5 d5) (G5:zbb P w K mg base CX0 1 f5 d5 ["falls","wait","tie"] zts)
 (F6:Fn K mg "by_cross" sP_by_cross ["falls","wait"] f6 d6) (G6:zbb P w K mg base CX0 1 f6 d6 ["falls","wait"] zpf):
 zbb P w K mg base CX0 2 f fd ["falls","word","used"] zh4:=by
 obtain ⟨u,mU,tabU⟩:=T.at_
 refine F.F.ok zAh (fun _ _ _ _ h=>?_) fun _ A _ s H _ Q E hr h=>?_
 ·obtain ⟨_,_,_,_,_,_,_,rfl,_⟩:=h
  rfl
 ·obtain ⟨d,word,ul,ps,Fa,xs,o,rfl,FA,⟨hul,hpx⟩,ask,G⟩:=h
  refine ⟨_,zaf (zbe (zb8 (zu5 (K:=K) rfl hr.units) (zcm zdy (by rfl) T.tuple (by decide+kernel) (pa1 (zcs rfl (zbt (pv 2)) zBj (fun cl ex s0 H0=>⟨zcw 0 zA8,zb9,ixT (pv 0)⟩))))
   (zpy (D:=zn2) (zgx (v:=.ref u) rfl mU rfl) (pv 1) ⟨rfl,rfl,rfl,rfl⟩)) (zad (zaq zeh)) zap)
   (zaf (zbe (zb8 zbd (pv 1) zam) (zad (zaq (pcl G1 hr F1 (pa2 (zbm zal (pv 2) zae (fun _ _=>rfl)) (zbm zal (pv 2) zae (fun _ _=>rfl)))))) zap)
   (zaf (zbe (zb8 zbd (pv 1) zam) (zad (zaq (pcl G2 hr F2 (pa2 (pv 0) (zbm zal (pv 2) zae (fun _ _=>rfl)))))) zap)
   (zaf (zbe (zb8 zbd (pv 1) zam) (zad (zaq (pcl G3 hr F3 (pa2 (pv 0) (zbm zal (pv 2) zae (fun _ _=>rfl)))))) zap)
   (zaf (zbe (zb8 zbd (pv 1) zam) (zad (zaq (pcl G4 hr F4 (pa2 (pv 0) (zbm zal (pv 2) zae (fun _ _=>rfl)))))) zap)
   (zaf (zbe (zb8 zbd (pv 1) zam) (zad (zaq (pcl G5 hr F5 (pa3 (pv 0) (zbm zal (pv 2) zae (fun _ _=>rfl)) (zbm zal (pv 2) zae (fun _ _=>rfl)))))) zap)
   (zad (zaq (pcl G6 hr F6 (pa2 (pv 0) (zbm zal (pv 2) zae (fun _ _=>rfl))))))))))),?_⟩
  obtain ⟨ks,hk,hl2,ask⟩:∃ks,PyProof.Rows.KTD.datumAt word zn2=some ks/\xs.length<=2/\(ks=zc2 xs/\zg3 Fa word xs o\/ks≠zc2 xs/\o=none):=by
   rcases ask with a | ⟨rfl,h1,ks,h2,h3⟩
   ·exact ⟨_,a.kinds.1,a.kinds.2,.inl ⟨rfl,a⟩⟩
   ·exact ⟨ks,h2,h1,.inr ⟨h3,rfl⟩⟩
  have hlen:ps.length=xs.length:=Paired.length hpx
  refine fun N1 c1=>⟨_,rfl,ul,rfl,⟨_,SqL.of hul⟩,fun Da hDa=>?_⟩
  refine zdc (xs:=ps.map V.ref) (fun j σ' H'=>∃v,σ'=[v]/\H' Da=some (.lst ((zc2 (xs.take j)).map V.str))/\za7 H H') ⟨none,rfl,zaa,zab hDa⟩ ?_ ?_ ?_
  ·rintro j σ' H2 _ ⟨v,rfl,_,s2⟩
   exact SqL.of (s2 _ _ hul)
  ·rintro j x σ' H2 hx ⟨v,rfl,e2,s2⟩
   rw [ZA0] at hx
   cases q:ps[j]? with
   | none=>rw [q] at hx;cases hx
   | some p=>
    rw [q] at hx
    cases hx
    obtain ⟨x,hxj,hw⟩:=paired_get hpx q
    have hj:j<xs.length:=(ZAv.mp hxj).1
    refine ⟨_,rfl,rdT (s2 _ _ hw) rfl ⟨_,e2,?_,_,rfl,?_,fun b o e=>?_⟩⟩
    ·unfold zc2
     rw [ZAu,ZAu,ZBl]
     exact zao (by omega)
    ·unfold zc2
     rw [zaa,ZBu,hxj,ZA9,ZA9]
     rfl
    ·rw [zai (zac e hDa)]
     exact s2 _ _ e
  rintro σ' H2 ⟨v,rfl,e2,s2⟩
  have hall:xs.take (ps.map V.ref).length=xs:=by rw [ZAu,hlen];exact ZBi
  rw [hall] at e2
  refine ⟨Da,_,rfl,.inl ⟨SqL.of e2,fun t ht=>?_⟩⟩
  have s3:=s2.trans (zab (o:=.tup ((zc2 xs).map V.str)) ht)
  have e3:upd H2 t (.tup ((zc2 xs).map V.str)) t=some (.tup ((zc2 xs).map V.str)):=zaa
  generalize upd H2 t (.tup ((zc2 xs).map V.str))=H3 at*
  refine ⟨u,rfl,tabU,_,rfl,word,rfl,fun ss hss b hb=>?_,fun hn=>by rw [hk] at hn;cases hn⟩
  rw [hk] at hss
  cases hss
  refine ⟨t,b,_,_,rfl,rfl,SqT.of e3,hb H3,zgl,zgl,_,rfl,?_⟩
  rcases ask with ⟨rfl,ask⟩ | ⟨ne,rfl⟩
  case inr=>
   refine zbx ?_ ((G.same s3).1 rfl _ (za7.refl _))
   show (!zeg ((zc2 xs).map V.str) (ks.map V.str))=true
   rw [Bool.not_eq_true']
   exact ZAk.mpr fun z=>ne (zm6 ((zfi zi9 zi9).mp z)).symm
  refine zdj (by rw [zfv zgl];rfl) (c1 _ _ ?_)
  clear c1 N1
  have FA3:=FA.same s3
  have G3':=G.same s3
  have hul3:=s3 _ _ hul
  have hpx3:Paired (za4 H3) ps xs:=zaj hpx fun p x e=>e.same s3
  cases ask with
  | sum x y hx hy=>
   cases hpx3 with
   | cons w1 r=>cases r with
    | cons w2 r=>cases r
                 refine fun N1 c1=>⟨_,rfl,rfl,_,rfl,zbx (by decide+kernel) ?_⟩
                 exact ⟨_,rfl,rdL hul3 (zbv (j:=0) rfl) ⟨_,rfl,rdL hul3 (zbv (j:=1) rfl) ⟨_,_,x,y,rfl,w1,w2,hx,hy,G3'⟩⟩⟩
  | late x hx=>
   cases hpx3 with
   | cons w1 r=>cases r
                refine fun N1 c1=>⟨_,rfl,rfl,_,rfl,zdj (by decide+kernel) (c1 _ _ ?_)⟩
                refine fun N1 c1=>⟨_,rfl,rfl,_,rfl,zbx (by decide+kernel) ?_⟩
                exact ⟨_,rfl,_,rfl,rdL hul3 (zbv (j:=0) rfl) ⟨d,_,Fa,x,rfl,FA3,w1,hx,G3'⟩⟩
  | soon x hx=>
   cases hpx3 with
   | cons w1 r=>cases r
                refine fun N1 c1=>⟨_,rfl,rfl,_,rfl,zdj (by decide+kernel) (c1 _ _ ?_)⟩
                refine fun N1 c1=>⟨_,rfl,rfl,_,rfl,zdj (by decide+kernel) (c1 _ _ ?_)⟩
                refine fun N1 c1=>⟨_,rfl,rfl,_,rfl,zbx (by decide+kernel) ?_⟩
                exact ⟨_,rfl,_,rfl,rdL hul3 (zbv (j:=0) rfl) ⟨d,_,Fa,x,rfl,FA3,w1,hx,G3'⟩⟩
  | sure x fa hx hf=>
   cases hpx3 with
   | cons w1 r=>cases r
                refine fun N1 c1=>⟨_,rfl,rfl,_,rfl,zdj (by decide+kernel) (c1 _ _ ?_)⟩
                refine fun N1 c1=>⟨_,rfl,rfl,_,rfl,zdj (by decide+kernel) (c1 _ _ ?_)⟩
                refine fun N1 c1=>⟨_,rfl,rfl,_,rfl,zdj (by decide+kernel) (c1 _ _ ?_)⟩
                refine fun N1 c1=>⟨_,rfl,rfl,_,rfl,zbx (by decide+kernel) ?_⟩
                exact ⟨_,rfl,_,rfl,rdL hul3 (zbv (j:=0) rfl) ⟨d,_,Fa,x,fa,rfl,FA3,w1,hx,hf,G3'⟩⟩
  | back x y fa hx hy hf=>
   cases hpx3 with
   | cons w1 r=>cases r with
    | cons w2 r=>cases r
                 refine fun N1 c1=>⟨_,rfl,rfl,_,rfl,zdj (by decide+kernel) (c1 _ _ ?_)⟩
                 refine fun N1 c1=>⟨_,rfl,rfl,_,rfl,zdj (by decide+kernel) (c1 _ _ ?_)⟩
                 refine fun N1 c1=>⟨_,rfl,rfl,_,rfl,zdj (by decide+kernel) (c1 _ _ ?_)⟩
                 refine fun N1 c1=>⟨_,rfl,rfl,_,rfl,zdj (by decide+kernel) (c1 _ _ ?_)⟩
                 refine fun N1 c1=>⟨_,rfl,rfl,_,rfl,zbx (by decide+kernel) ?_⟩
                 exact ⟨_,rfl,_,rfl,rdL hul3 (zbv (j:=0) rfl) ⟨_,rfl,rdL hul3 (zbv (j:=1) rfl) ⟨d,_,_,Fa,x,y,fa,rfl,FA3,w1,w2,hx,hy,hf,G3'⟩⟩⟩
  | cross x fa hx hf=>
   cases hpx3 with
   | cons w1 r=>cases r
                refine fun N1 c1=>⟨_,rfl,rfl,_,rfl,zdj (by decide+kernel) (c1 _ _ ?_)⟩
                refine fun N1 c1=>⟨_,rfl,rfl,_,rfl,zdj (by decide+kernel) (c1 _ _ ?_)⟩
                refine fun N1 c1=>⟨_,rfl,rfl,_,rfl,zdj (by decide+kernel) (c1 _ _ ?_)⟩
                refine fun N1 c1=>⟨_,rfl,rfl,_,rfl,zdj (by decide+kernel) (c1 _ _ ?_)⟩
                refine fun N1 c1=>⟨_,rfl,rfl,_,rfl,zdj (by decide+kernel) (c1 _ _ ?_)⟩
                exact ⟨_,rfl,_,rfl,rdL hul3 (zbv (j:=0) rfl) ⟨d,_,Fa,x,fa,rfl,FA3,w1,hx,hf,G3'⟩⟩
end Y0
namespace L2
open PySem
theorem zbr {f g:Str} {x v:V} {r:List (Str×V)} (h:¬g=f):zbq f v ((g,x)::r)=(g,x)::zbq f v r:=if_neg h
theorem zr7 {f:Str} {x v:V} {r:List (Str×V)}:zbq f v ((f,x)::r)=(f,v)::r:=if_pos rfl
end L2
namespace Y0
open PySem L2
seal L2.PE L2.PA L2.PT L2.PS L2.PSs L2.PG L2.PGs L2.PI L2.PO
structure zhg (K:ZCa) (mg:Str->Option Value) (C:Addr):Prop where
 cl:Cls K C
 nM:zec K C "many"
 nB:zec K C "by_end"
 nR:zec K C "rows"
 nE:zec K C "best"
 nX:zec K C "bar"
 len:mg "len"=none
 range:mg "range"=none
def zea (n:Nat) (be rl bd:Addr) (bar:V):List (Str×V):=[("many",.int (n:Int)),("by_end",.ref be),("rows",.ref rl),("best",.ref bd),("bar",bar)]
theorem cl1:(("by_end":Str)=="many")=false:=by decide+kernel
theorem cl2:(("rows":Str)=="many")=false:=by decide+kernel
theorem cl3:(("rows":Str)=="by_end")=false:=by decide+kernel
theorem cl4:(("best":Str)=="many")=false:=by decide+kernel
theorem cl5:(("best":Str)=="by_end")=false:=by decide+kernel
theorem cl6:(("best":Str)=="rows")=false:=by decide+kernel
theorem cl7:(("bar":Str)=="many")=false:=by decide+kernel
theorem cl8:(("bar":Str)=="by_end")=false:=by decide+kernel
theorem cl9:(("bar":Str)=="rows")=false:=by decide+kernel
theorem zBs:(("bar":Str)=="best")=false:=by decide+kernel
section
variable {n:Nat} {be rl bd:Addr} {bar:V}
theorem zt5:(zea n be rl bd bar).lookup ("many":Str)=some (.int (n:Int)):=by unfold zea;rw [ZA8,ZB7]
theorem zxe:(zea n be rl bd bar).lookup ("by_end":Str)=some (.ref be):=by unfold zea;rw [ZA8,cl1,ZA8,ZB7]
theorem zgo:(zea n be rl bd bar).lookup ("rows":Str)=some (.ref rl):=by unfold zea;rw [ZA8,cl2,ZA8,cl3,ZA8,ZB7]
theorem zf3:(zea n be rl bd bar).lookup ("best":Str)=some (.ref bd):=by unfold zea;rw [ZA8,cl4,ZA8,cl5,ZA8,cl6,ZA8,ZB7]
theorem zs3:(zea n be rl bd bar).lookup ("bar":Str)=some bar:=by unfold zea;rw [ZA8,cl7,ZA8,cl8,ZA8,cl9,ZA8,zBs,ZA8,ZB7]
theorem zoi {m:Str} (h1:(m=="many")=false) (h2:(m=="by_end")=false) (h3:(m=="rows")=false) (h4:(m=="best")=false) (h5:(m=="bar")=false):(zea n be rl bd bar).lookup m=none:=by
 unfold zea
 rw [ZA8,h1,ZA8,h2,ZA8,h3,ZA8,h4,ZA8,h5]
 rfl
theorem zze {v:V}:zbq "bar" v (zea n be rl bd bar)=zea n be rl bd v:=by
 unfold zea
 rw [zbr (by decide+kernel),zbr (by decide+kernel),zbr (by decide+kernel),zbr (by decide+kernel),zr7]
end
def zzh:Option Nat->V
 | none=>.non
 | some i=>.int (i:Int)
def zb4:MU.Wd->Str
 | .told=>"told"
 | .sum=>"sum"
 | .late=>"late"
 | .soon=>"soon"
 | .sure=>"sure"
 | .back=>"back"
 | .cross=>"cross"
def zdb (k:MU.Key):List Key:=[.inr (zc4 k.1),.inl (k.2.1:Int),.inl (k.2.2:Int)]
theorem zlj {a b:Bool} (h:zc4 a=zc4 b):a=b:=by
 revert h
 cases a<;>cases b<;>decide+kernel
theorem znm {k k':MU.Key} (h:zdb k=zdb k'):k=k':=by
 obtain ⟨t,a,b⟩:=k
 obtain ⟨t',a',b'⟩:=k'
 unfold zdb at h
 injection h with h1 h
 injection h with h2 h
 injection h with h3 _
 have e1:=zlj (Sum.inr.inj h1)
 have e2:=Int.ofNat.inj (Sum.inl.inj h2)
 have e3:=Int.ofNat.inj (Sum.inl.inj h3)
 have e1:t=t':=e1
 have e2:a=a':=e2
 have e3:b=b':=e3
 rw [e1,e2,e3]
def zc5 (H:Hp) (q:Addr) (r:MU.Row):Prop:=∃pw pu,H q=some (.tup [.ref pw,.str (zb4 r.word),.ref pu])/\za4 H pw r.what/\H pu=some (.tup (r.used.map fun i:Nat=>V.int (i:Int)))
theorem zc5.same {H H':Hp} {q:Addr} {r:MU.Row} (h:zc5 H q r) (s:za7 H H'):zc5 H' q r:=by
 obtain ⟨pw,pu,h1,h2,h3⟩:=h
 exact ⟨pw,pu,s _ _ h1,s _ _ h2,s _ _ h3⟩
structure Clo (C:Addr) (H:Hp) (p be rl bd:Addr) (n:Nat) (F:MU.zax) (st:MU.St):Prop where
 ins:∃dx,H p=some (.ins C dx (zea n be rl bd (zzh st.bar)))
 falls:zc1 H be F
 rows:∃qs,H rl=some (.lst (qs.map V.ref))/\Paired (zc5 H) qs st.rows
 best:∃kvs,H bd=some (.dT kvs)/\(kvs.length<=st.rows.length/\∀kv∈kvs,∃k:MU.Key,kv.1=zdb k)/\∀k:MU.Key,zfk kvs (zdb k)=(st.best k).map fun i:Nat=>V.int (i:Int)
theorem Clo.same {C p be rl bd:Addr} {H H':Hp} {n:Nat} {F:MU.zax} {st:MU.St} (h:Clo C H p be rl bd n F st) (s:za7 H H'):Clo C H' p be rl bd n F st:=by
 obtain ⟨⟨dx,h1⟩,h2,⟨qs,h3,h4⟩,⟨kvs,h5,h6,h7⟩⟩:=h
 exact ⟨⟨dx,s _ _ h1⟩,h2.same s,⟨qs,s _ _ h3,zaj h4 fun q r e=>e.same s⟩,⟨kvs,s _ _ h5,h6,h7⟩⟩
def zb2 (p rl bd:Addr) (H H':Hp):Prop:=∀b o,H b=some o->b≠p->b≠rl->b≠bd->H' b=some o
theorem zb2.of {p rl bd:Addr} {H H':Hp} (s:za7 H H'):zb2 p rl bd H H':=fun b o e _ _ _=>s _ _ e
theorem zb2.trans {p rl bd:Addr} {H H1 H2:Hp} (a:zb2 p rl bd H H1) (b:zb2 p rl bd H1 H2):zb2 p rl bd H H2:=fun c o e h1 h2 h3=>b c o (a c o e h1 h2 h3) h1 h2 h3
open Classical in
def ztl (C:Addr):Sp:=fun vs H Q _=>∃p be rl bd q n F st x,vs=[.ref p,.ref q]/\Clo C H p be rl bd n F st/\MU.zee n st/\za4 H q x/\∀H',za7 H H'->Q (.bl (decide (MU.zhh st x))) H'
theorem zjz {H:Hp} {qs:List Addr} {rows:List MU.Row} (h:Paired (zc5 H) qs rows) {i:Nat} {x:MU.zar} (hx:(rows[i]?).map (·.what)=some x):∃q r pw pu,qs[i]?=some q/\rows[i]?=some r/\r.what=x/\H q=some (.tup [.ref pw,.str (zb4 r.word),.ref pu])/\za4 H pw x/\H pu=some (.tup (r.used.map fun i:Nat=>V.int (i:Int))):=by
 cases hr:rows[i]? with
 | none=>rw [hr] at hx;cases hx
 | some r=>
  rw [hr] at hx
  have hx:some r.what=some x:=hx
  cases hx
  have hl:=Paired.length h
  have hi:=(ZAv.mp hr).1
  obtain ⟨q,hq⟩:∃q,qs[i]?=some q:=⟨_,ZAx (by lia)⟩
  obtain ⟨r',hr',⟨pw,pu,e1,e2,e3⟩⟩:=paired_get h hq
  rw [hr] at hr'
  cases hr'
  exact ⟨q,r,pw,pu,hq,rfl,rfl,e1,e2,e3⟩
theorem zy4 {x:MU.zar}:zit (zb6 x) none (some 3)=(zdb x.key).map kV:=by
 unfold zit zb6
 rw [HT.sIx_none,show (some (3:Int))=some ((3:Nat):Int) from rfl,HT.sIx_nat]
 rfl
theorem zqa {x:MU.zar}:¬(HT.sIx (zb6 x).length 0 none=0/\HT.sIx (zb6 x).length (zb6 x).length (some 3)=(zb6 x).length):=fun z=>by
 have h:=z.2
 rw [show (some (3:Int))=some ((3:Nat):Int) from rfl,HT.sIx_nat] at h
 have e:(zb6 x).length=4:=rfl
 rw [e] at h
 cases h
theorem zyc:zan ["self","what","key","known"] ["self","what"] (zag sC_Closing_is_news):=scm
theorem ok_news {f C:Addr} {fd:FuncData} (F:Fun K "is_news" "Closing.is_news" sC_Closing_is_news f fd) (T:zhg K mg C):zbb P w K mg base CX0 1 f fd ["self","what"] (ztl C):=by
 refine F.ok zyc (fun _ _ _ _ h=>?_) fun _ A _ s H _ Q E hr h=>?_
 ·obtain ⟨_,_,_,_,_,_,_,_,_,rfl,_⟩:=h
  rfl
 ·obtain ⟨p,be,rl,bd,q,n,Fa,st,x,rfl,c,g,hw,k⟩:=h
  have hu:=zfh hr
  refine ⟨_,zaf (zbe (PW.pt (zcf (zb8 zbd (ixT (pv 1)) zam) (zdg (zb8 zbd (ixT (pv 1)) (ixT (pv 1))))))
   (zad (zaq (zl3 zhe (ixT (pv 1)) zae))) zap)
   (zaf (za5 2 zyc.nd (zcg zna (pv 1) zdh (zcy zae)))
   (zaf (zbe (zh7 (zgf hu (pv 2) (zcb (pv 0) rfl)) (by with_unfolding_all rfl)) (zad (zaq zj8)) zap)
   (zaf (za5 3 zyc.nd (ixT (zbm zal (zcb (pv 0) rfl) (zda hu (zcb (pv 0) rfl) (pv 2) (fun _ _=>rfl)) (fun _ _=>rfl))))
   (zad (zaq (zsb (zb8 zbd (ixT (pv 1)) zam) (zl3 zhe (ixT (pv 1)) (ixT (pv 3))) (zl3 zp7 (ixT (pv 1)) (ixT (pv 3))))))))),?_⟩
  obtain ⟨dx,hp⟩:=c.ins
  obtain ⟨qs,hrl,hrows⟩:=c.rows
  obtain ⟨kvs,hbd,hkl,hkv⟩:=c.best
  have kb:∀(H':Hp) (b:Bool),za7 H H'->(b=true↔MU.zhh st x)->Q (.bl b) H':=fun H' b s' e=>by
   have:=k H' s'
   have e2:b=decide (MU.zhh st x):=by
    by_cases z:MU.zhh st x
    ·rw [e.mpr z];simp [z]
    ·cases b with
     | true=>exact absurd (e.mp rfl) z
     | false=>simp [z]
   rw [e2]
   exact this
  refine fun N1 c1=>⟨_,rfl,rdT hw rfl ⟨rfl,_,rfl,?_⟩⟩
  rw [zhr]
  have rest:¬(x.tie=true/\x.a=x.b)->N1 (L2.zdo ["self","what","key","known"] [.ref p,.ref q]) H:=fun hno=>by
   refine c1 _ _ ?_
   refine fun N2 c2=>⟨_,rfl,_,rfl,q,_,rfl,SqT.of hw,zqa,fun kt hkt=>c2 _ _ ?_⟩
   rw [zy4]
   have s1:=zab (o:=.tup ((zdb x.key).map kV)) hkt
   have e1:upd H kt (.tup ((zdb x.key).map kV)) kt=some (.tup ((zdb x.key).map kV)):=zaa
   generalize upd H kt (.tup ((zdb x.key).map kV))=H1 at*
   have dg:=ze5.t (k:=zdb x.key) (s1 _ _ hbd) e1
   rw [hkv] at dg
   refine fun N3 c3=>⟨_,rfl,_,rfl,p,C,dx,_,_,rfl,s1 _ _ hp,T.cl,T.nE,zf3,bd,_,rfl,dg,_,rfl,?_⟩
   have nw:MU.zhh st x↔∀u,MU.val st x.key=some u->MU.zbo x.tie x.v u:=by
    unfold MU.zhh
    rw [if_neg hno]
   cases hb:st.best x.key with
   | none=>
    refine zhb (kb H1 true s1 ⟨fun _=>nw.mpr fun u hu'=>?_,fun _=>rfl⟩)
    unfold MU.val at hu'
    rw [hb] at hu'
    cases hu'
   | some i=>
    rw [hb] at dg
    refine zef (c3 _ _ ?_)
    obtain ⟨u,hu1,hu2⟩:=g.at_ _ _ hb
    obtain ⟨q',r,pw,pu,g1,g2,g3,g4,g5,g6⟩:=zjz hrows hu1
    have hat:atI (qs.map V.ref) (i:Int)=some (.ref q'):=zbv (by rw [ZA0,g1];rfl)
    refine fun N4 c4=>⟨_,rfl,p,C,dx,_,_,rfl,s1 _ _ hp,T.cl,T.nR,zgo,_,rfl,p,C,dx,_,_,rfl,s1 _ _ hp,T.cl,T.nE,zf3,_,rfl,bd,_,rfl,dg,?_⟩
    refine ⟨rl,_,_,_,rfl,rfl,s1 _ _ hrl,hat,rdT (s1 _ _ g4) rfl (c4 _ _ ?_)⟩
    have hv:=MU.zc6 hb hu1
    refine ⟨_,rfl,rdT (s1 _ _ hw) rfl ⟨rfl,_,rfl,?_⟩⟩
    rw [zhr]
    have nw2:MU.zhh st x↔MU.zbo x.tie x.v u.v:=nw.trans ⟨fun z=>z _ hv,fun z u' hu'=>by rw [hv] at hu';cases hu';exact z⟩
    cases ht:x.tie with
    | true=>
     refine zhb ⟨_,rfl,rdT (s1 _ _ hw) rfl ⟨_,rfl,rdT (s1 _ _ g5) rfl ⟨_,_,rfl,rfl,kb _ _ s1 ?_⟩⟩⟩
     rw [nw2,ht,ZBy]
     unfold MU.zbo
     rw [if_pos rfl]
    | false=>
     refine zef ⟨_,rfl,rdT (s1 _ _ hw) rfl ⟨_,rfl,rdT (s1 _ _ g5) rfl ⟨_,_,rfl,rfl,kb _ _ s1 ?_⟩⟩⟩
     rw [nw2,ht,ZBy]
     unfold MU.zbo
     rw [if_neg (by decide)]
  cases ht:x.tie with
  | false=>exact zef (zef (rest fun z=>by rw [ht] at z;cases z.1))
  | true=>
   refine zhb ⟨_,rfl,rdT hw rfl ⟨_,rfl,rdT hw rfl ⟨rfl,_,rfl,?_⟩⟩⟩
   rw [zia]
   by_cases e:x.a=x.b
   ·refine zf9 e ⟨_,rfl,rdT hw rfl ⟨_,_,rfl,rfl,kb H _ (za7.refl _) ?_⟩⟩
    rw [ZBy]
    unfold MU.zhh
    rw [if_pos ⟨ht,e⟩]
   ·exact zd6 e (rest fun z=>e z.2)
def zo6 (C:Addr):Sp:=fun vs H Q _=>∃p be rl bd q pu n F st x wd us,vs=[.ref p,.ref q,.str (zb4 wd),.ref pu]/\Clo C H p be rl bd n F st/\MU.zee n st/\za4 H q x/\H pu=some (.tup (us.map fun i:Nat=>V.int (i:Int)))/\st.rows.length<=16500000/\
 ∀H',Clo C H' p be rl bd n F (MU.take st x wd us)->zb2 p rl bd H H'->Q .non H'
theorem zrc {o:Option Nat}:decide (zzh o=V.non)=decide (o=none):=by
 cases o with
 | none=>rfl
 | some i=>exact (ZB9 fun z=>nomatch z).trans (ZB9 fun z=>nomatch z).symm
theorem zrt {st:MU.St} {x:MU.zar} {wd:MU.Wd} {us:List Nat} (h:MU.zhh st x):MU.take st x wd us={ rows:=st.rows++[⟨x,wd,us⟩],best:=fun k=>if k=x.key then some st.rows.length else st.best k,bar:=if st.bar=none/\MU.zhy x then some st.rows.length else st.bar }:=by
 unfold MU.take
 rw [if_pos h]
theorem zsg {kvs:List (List Key×V)} {k:List Key} {v:V} {kv:List Key×V} (h:kv∈ze9 kvs k v):kv.1=k\/∃kv0∈kvs,kv.1=kv0.1:=by
 unfold ze9 at h
 split at h
 ·obtain ⟨kv0,h0,rfl⟩:=ZBr.mp h
  refine .inr ⟨kv0,h0,?_⟩
  split<;>rfl
 ·rcases ZBo.mp h with h | h
  ·exact .inr ⟨kv,h,rfl⟩
  ·rw [ZBd.mp h];exact .inl rfl
theorem zlb {n:Nat} (h:n<=16500000):n<sizeLine:=Nat.lt_of_le_of_lt h (by decide)
theorem zAk:zan ["self","what","word","used"] ["self","what","word","used"] (zag sC_Closing_take):=scm
theorem ok_take {f C fN fB:Addr} {fd fdN fdB:FuncData} (F:Fun K "take" "Closing.take" sC_Closing_take f fd) (T:zhg K mg C)
 (mN:zks K C "is_news" fN) (bN:zdd K fdN ["self","what"] []) (GN:zbb P w K mg base CX0 1 fN fdN ["self","what"] (ztl C))
 (FB:Fn K mg "bars_every_hand" sP_bars_every_hand ["what"] fB fdB) (GB:zbb P w K mg base CX0 1 fB fdB ["what"] zph):zbb P w K mg base CX0 2 f fd ["self","what","word","used"] (zo6 C):=by
 refine F.ok zAk (fun _ _ _ _ h=>?_) fun _ A _ s H _ Q E hr h=>?_
 ·obtain ⟨_,_,_,_,_,_,_,_,_,_,_,_,rfl,_⟩:=h
  rfl
 ·obtain ⟨p,be,rl,bd,q,pu,n,Fa,st,x,wd,us,rfl,c,g,hw,hpu,hlen,k⟩:=h
  have hu:=zfh hr
  refine ⟨_,zad (zbe (zh6 (zca (pv 0) T.cl mN GN hr bN .nil zdp (pa1 (pv 1))))
   (zaf (zj6 hu (zcb (pv 0) rfl) (zcg zna (pv 1) zdh (zcy zae)) (zay za9 (by rfl) T.len ZAn (pa1 (zcb (pv 0) rfl))) rfl)
   (zaf (ze3 (zbe (PW.pt (zcf (zb8 zp6 (zcb (pv 0) rfl) zeh) (zdg (zh6 (pcl GB hr FB (pa1 (pv 1))))))) (zad (zf2 (pv 0) (zay za9 (by rfl) T.len ZAn (pa1 (zcb (pv 0) rfl))) rfl)) zap))
   (zad (zbj (ziu ZAr ZAs ZAt zcn (zcb (pv 0) rfl) (pa1 (zaw (pa3 (pv 1) (pv 2) (pv 3))))))))) zap),?_⟩
  obtain ⟨dx,hp⟩:=c.ins
  refine ⟨_,rfl,p,dx,_,rfl,hp,zoi (by decide+kernel) (by decide+kernel) (by decide+kernel) (by decide+kernel) (by decide+kernel),_,rfl,p,be,rl,bd,q,n,Fa,st,x,rfl,c,g,hw,fun H1 s1=>⟨_,rfl,?_⟩⟩
  by_cases hn:MU.zhh st x
  ·refine zbx (by simp [hn]) ?_
   have c1:=c.same s1
   have hw1:=s1 _ _ hw
   have hpu1:=s1 _ _ hpu
   obtain ⟨dx1,hp1⟩:=c1.ins
   obtain ⟨qs,hrl,hrows⟩:=c1.rows
   obtain ⟨kvs,hbd,hkl,hkv⟩:=c1.best
   have hql:qs.length=st.rows.length:=Paired.length hrows
   refine fun N2 c2=>⟨_,rfl,p,C,dx1,_,_,rfl,hp1,T.cl,T.nR,zgo,rl,_,rfl,.inl (SqL.of hrl),_,rfl,p,C,dx1,_,_,rfl,hp1,T.cl,T.nE,zf3,_,rfl,_,rfl,q,_,rfl,SqT.of hw1,zqa,fun kt hkt=>?_⟩
   rw [zy4,ZAu,hql]
   have s2:=zab (o:=.tup ((zdb x.key).map kV)) hkt
   have e2:upd H1 kt (.tup ((zdb x.key).map kV)) kt=some (.tup ((zdb x.key).map kV)):=zaa
   generalize upd H1 kt (.tup ((zdb x.key).map kV))=H2 at*
   refine ⟨bd,_,rfl,zrm.t (k:=zdb x.key) (s2 _ _ hbd) e2 (zlb (by have:=hkl.1;lia)),c2 _ _ ?_⟩
   have k3:∀b o,H1 b=some o->b≠bd->upd H2 bd (.dT (ze9 kvs (zdb x.key) (.int (st.rows.length:Int)))) b=some o:=fun b o e ne=>by
    rw [zai ne]
    exact s2 _ _ e
   have e3:upd H2 bd (.dT (ze9 kvs (zdb x.key) (.int (st.rows.length:Int)))) bd=some (.dT (ze9 kvs (zdb x.key) (.int (st.rows.length:Int)))):=zaa
   generalize upd H2 bd (.dT (ze9 kvs (zdb x.key) (.int (st.rows.length:Int))))=H3 at*
   clear c2 N2
   have pbd:p≠bd:=zba hp1 hbd nofun
   have rbd:rl≠bd:=zba hrl hbd nofun
   have prl:p≠rl:=zba hp1 hrl nofun
   have hp3:=k3 _ _ hp1 pbd
   have hrl3:=k3 _ _ hrl rbd
   have hw3:=k3 _ _ hw1 (zba hw1 hbd nofun)
   refine fun N4 c4=>⟨fun σ' H'=>σ'=L2.zdo ["self","what","word","used"] [.ref p,.ref q,.str (zb4 wd),.ref pu]/\(∃dx',H' p=some (.ins C dx' (zea n be rl bd (zzh (if st.bar=none/\MU.zhy x then some st.rows.length else st.bar)))))/\∀b o,H3 b=some o->b≠p->H' b=some o,?_,?_⟩
   ·refine ⟨_,rfl,p,C,dx1,_,_,rfl,hp3,T.cl,T.nX,zs3,rfl,_,rfl,?_⟩
    rw [zrc]
    by_cases hb:st.bar=none
    ·refine zf9 hb ⟨_,rfl,q,x,rfl,hw3,_,rfl,?_⟩
     by_cases hB:MU.zhy x
     ·refine zf9 hB ?_
      refine ⟨_,rfl,p,C,dx1,_,_,rfl,hp3,T.cl,T.nR,zgo,rl,_,rfl,.inl (SqL.of hrl3),_,rfl,p,C,dx1,_,rfl,hp3,T.cl,T.nX,by show 5<1000;decide,rfl,⟨dx1,?_⟩,fun b o e ne=>?_⟩
      ·rw [zaa,zze,if_pos ⟨hb,hB⟩,ZAu,hql]
       rfl
      ·rw [zai ne];exact e
     ·refine zd6 hB ⟨rfl,⟨dx1,?_⟩,fun b o e _=>e⟩
      rw [if_neg fun z=>hB z.2]
      exact hp3
    ·refine zd6 hb (zef ⟨rfl,⟨dx1,?_⟩,fun b o e _=>e⟩)
     rw [if_neg fun z=>hb z.1]
     exact hp3
   ·rintro σ' H4 ⟨rfl,⟨dx4,hp4⟩,k4⟩
    refine c4 _ _ ?_
    have hrl4:=k4 _ _ hrl3 (ZAl prl)
    have hw4:=k4 _ _ hw3 (zba hw3 hp3 nofun)
    have hpu3:=k3 _ _ hpu1 (zba hpu1 hbd nofun)
    have hpu4:=k4 _ _ hpu3 (zba hpu3 hp3 nofun)
    refine ⟨_,rfl,p,C,dx4,_,_,rfl,hp4,T.cl,T.nR,zgo,.inl ⟨rfl,_,SqL.of hrl4⟩,_,rfl,_,rfl,_,rfl,szl rfl,fun rt hrt=>?_⟩
    have s5:=zab (o:=.tup [.ref q,.str (zb4 wd),.ref pu]) hrt
    have e5:upd H4 rt (.tup [.ref q,.str (zb4 wd),.ref pu]) rt=some (.tup [.ref q,.str (zb4 wd),.ref pu]):=zaa
    generalize upd H4 rt (.tup [.ref q,.str (zb4 wd),.ref pu])=H5 at*
    refine ⟨rl,_,_,rfl,rfl,s5 _ _ hrl4,by rw [ZAu,hql];exact zlb (by lia),?_⟩
    have k6:∀b o,H5 b=some o->b≠rl->upd H5 rl (.lst (qs.map V.ref++[.ref rt])) b=some o:=fun b o e ne=>by rw [zai ne];exact e
    have e6:upd H5 rl (.lst (qs.map V.ref++[.ref rt])) rl=some (.lst ((qs++[rt]).map V.ref)):=by rw [zaa,ZA9];rfl
    generalize upd H5 rl (.lst (qs.map V.ref++[.ref rt]))=H6 at*
    have all:∀b o,H1 b=some o->b≠p->b≠rl->b≠bd->H6 b=some o:=fun b o e n1 n2 n3=>k6 _ _ (s5 _ _ (k4 _ _ (k3 _ _ e n3) n1)) n2
    have tup:∀b xs,H1 b=some (.tup xs)->H6 b=some (.tup xs):=fun b xs e=>all _ _ e (zba e hp1 nofun) (zba e hrl nofun) (zba e hbd nofun)
    refine k H6 ?_ fun b o e n1 n2 n3=>all _ _ (s1 _ _ e) n1 n2 n3
    rw [zrt hn]
    refine ⟨⟨dx4,k6 _ _ (s5 _ _ hp4) prl⟩,?_,⟨qs++[rt],e6,?_⟩,⟨_,k6 _ _ (s5 _ _ (k4 _ _ e3 (ZAl pbd))) (ZAl rbd),?_,fun kk=>?_⟩⟩
    ·obtain ⟨fkv,f1,f2,f3,f4⟩:=c1.falls.at_
     refine ⟨fkv,all _ _ f1 (zba f1 hp1 nofun) (zba f1 hrl nofun) (zba f1 hbd nofun),f2,f3,fun e f hf=>?_⟩
     obtain ⟨pp,q1,q2⟩:=f4 e f hf
     exact ⟨pp,q1,tup _ _ q2⟩
    ·refine zas (zaj hrows fun qq r e=>?_) (.cons ?_ .nil)
     ·obtain ⟨pw,pu',r1,r2,r3⟩:=e
      exact ⟨pw,pu',tup _ _ r1,tup _ _ r2,tup _ _ r3⟩
     ·exact ⟨q,pu,k6 _ _ e5 (zba e5 (s5 _ _ hrl4) nofun),tup _ _ hw1,tup _ _ hpu1⟩
    ·refine ⟨?_,fun kv hkv'=>?_⟩
     ·show (ze9 kvs (zdb x.key) _).length<=(st.rows++[_]).length
      have:=zdi kvs (zdb x.key) (.int (st.rows.length:Int))
      have:=hkl.1
      rw [ZA3]
      show _<=st.rows.length+1
      lia
     ·rcases zsg hkv' with z | z
      ·exact ⟨x.key,z⟩
      ·obtain ⟨kv0,h0,e0⟩:=z
       obtain ⟨k0,e1⟩:=hkl.2 kv0 h0
       exact ⟨k0,e0.trans e1⟩
    ·show zfk (ze9 kvs (zdb x.key) _) (zdb kk)=(if kk=x.key then some st.rows.length else st.best kk).map _
     rw [zgb]
     by_cases ek:kk=x.key
     ·rw [if_pos (by rw [ek]),if_pos ek]
      rfl
     ·rw [if_neg fun z=>ek (znm z),if_neg ek]
      exact hkv kk
  ·refine zdj (by simp [hn]) (k H1 ?_ (zb2.of s1))
   rw [MU.zfo hn]
   exact c.same s1
end Y0
namespace L2
open PySem PySem.Spec PyProof.Rows
theorem zez {js:List (Option Nat)} {g:TG} {tc:TT} {te:TE} {σ:St} {H:Hp} {D:Addr} {Q:VK} {K:ZCa} {a:Addr} {xs:List V} (Pv:Nat->St->Hp->Prop) (h0:Pv 0 (zf0 js σ) (upd H D (.lst []))) (hl:∀i σ' H',i<=xs.length->Pv i σ' H'->SqT K H' a xs)
 (hs:∀i x σ' H',xs[i]?=some x->Pv i σ' H'->g x σ' H' fun σ3 H3=>tc σ3 H3 fun ok H4=>if ok=true then te σ3 H4 fun y H5=>∃ys,H5 D=some (.lst ys)/\ys.length<sizeLine/\Pv (i+1) σ3 (upd H5 D (.lst (ys++[y]))) else Pv (i+1) σ3 H4)
 (hd:∀σ' H',Pv xs.length σ' H'->Q (.ref D) H'):
 zg1 js g tc te σ Q (Itt K a) H D:=by
 refine ⟨fun i m σ H=>m=xs.length-i/\i<=xs.length/\Pv i σ H,⟨xs.length,by simp,ZBa _,h0⟩,?_⟩
 rintro i m σ' H' ⟨rfl,hi,p⟩
 by_cases hlt:i<xs.length
 ·refine .inr ⟨⟨xs,_,hl i σ' H' hi p,ZAx hlt⟩,Pv (i+1),fun σ2 H2 p'=>⟨xs.length-(i+1),by lia,rfl,hlt,p'⟩,fun x H2 y=>?_⟩
  obtain ⟨e,y⟩:=y
  subst e
  exact hs i x σ' _ (y xs (hl i σ' _ hi p)) p
 ·have e:i=xs.length:=by lia
  subst e
  exact .inl ⟨⟨xs,hl _ σ' H' hi p,ZAw _⟩,hd σ' H' p⟩
theorem zfc {Y:Cx} {K:ZCa} {e:Expr} {f:Str} {pos:Pos} {ta:TE} (hK:Y.K=K) (he:PE Y e ta) (hb:attributeBase e f Y.env (eval e Y.env)=eval e Y.env):PE Y (.Attribute e f pos) (zzp K ta f):=by
 subst hK
 exact zcb he hb
end L2
namespace Y0
open PySem L2
seal L2.PE L2.PA L2.PT L2.PS L2.PSs L2.PG L2.PGs L2.PI L2.PO
def zm8 (C:Addr):Sp:=fun vs H Q _=>∃p be rl bd pu n F st wd us xs o,vs=[.ref p,.str (zb4 wd),.ref pu]/\Clo C H p be rl bd n F st/\MU.zee n st/\H pu=some (.tup (us.map fun i:Nat=>V.int (i:Int)))/\Paired (fun i x=>MU.wat st i=some x) us xs/\zg3 F (zb4 wd) xs o/\st.rows.length<=16500000/\
 ∀H',Clo C H' p be rl bd n F (MU.put st o wd us)->zb2 p rl bd H H'->Q .non H'
theorem zzv:zan ["self","word","used","what"] ["self","word","used"] (zag sC_Closing_draw):=scm
theorem zBp:zbw (zag sC_Closing_draw) ["self","word","used","what"] (fsc [(".0",.local),("number",.local),("self",.free)]) ["number","self"] [none,some 0]:=com
theorem zA5:(["number","self"]:List Str).Nodup:=by decide+kernel
theorem ok_draw {f C fT fW:Addr} {fd fdT fdW:FuncData} (F:Fun K "draw" "Closing.draw" sC_Closing_draw f fd) (T:zhg K mg C)
 (mT:zks K C "take" fT) (bT:zdd K fdT ["self","what","word","used"] []) (GT:zbb P w K mg base CX0 2 fT fdT ["self","what","word","used"] (zo6 C))
 (FW:Fn K mg "what_follows" sP_what_follows ["falls","word","used"] fW fdW) (GW:zbb P w K mg base CX0 2 fW fdW ["falls","word","used"] zh4):zbb P w K mg base CX0 3 f fd ["self","word","used"] (zm8 C):=by
 refine F.ok zzv (fun _ _ _ _ h=>?_) fun _ A _ s H _ Q E hr h=>?_
 ·obtain ⟨_,_,_,_,_,_,_,_,_,_,_,_,rfl,_⟩:=h
  rfl
 ·obtain ⟨p,be,rl,bd,pu,n,Fa,st,wd,us,xs,o,rfl,c,g,hpu,hux,ask,hlen,k⟩:=h
  refine ⟨_,zaf (za5 3 zzv.nd (pcl GW hr FW (pa3 (zcb (pv 0) rfl) (pv 1) (zcs rfl (zg8 (pv 2)) zBp (fun cl ex s0 H0=>⟨zcw 0 zA5,zb9,ixT (zbm zal (zfc (K:=K) rfl (pv 1) rfl) (pv 0) (fun _ _=>rfl))⟩)))))
   (zad (zbe (zb8 zp2 (pv 3) zeh) (zad (zbj (zca (pv 0) T.cl mT GT hr bT .nil zdp (pa3 (pv 3) (pv 1) (pv 2))))) zap)),?_⟩
  obtain ⟨dx,hp⟩:=c.ins
  obtain ⟨qs,hrl,hrows⟩:=c.rows
  obtain ⟨hk,hx2⟩:=ask.kinds
  have hul:us.length=xs.length:=Paired.length hux
  refine fun N1 c1=>⟨_,rfl,p,C,dx,_,_,rfl,hp,T.cl,T.nB,zxe,_,rfl,_,rfl,pu,rfl,⟨_,SqT.of hpu⟩,fun Da hDa=>?_⟩
  refine zez (xs:=us.map fun i:Nat=>V.int (i:Int)) (fun j σ' H'=>∃v ps,σ'=[v,some (.ref p)]/\H' Da=some (.lst (ps.map V.ref))/\Paired (za4 H') ps (xs.take j)/\za7 H H') ⟨none,[],rfl,zaa,.nil,zab hDa⟩ ?_ ?_ ?_
  ·rintro j σ' H2 _ ⟨v,ps,rfl,_,_,s2⟩
   exact SqT.of (s2 _ _ hpu)
  ·rintro j x σ' H2 hx ⟨v,ps,rfl,e2,hps,s2⟩
   rw [ZA0] at hx
   cases q:us[j]? with
   | none=>rw [q] at hx;cases hx
   | some i=>
    rw [q] at hx
    cases hx
    obtain ⟨y,hyj,hy⟩:=paired_get hux q
    obtain ⟨q',r,pw,pu',g1,g2,g3,g4,g5,g6⟩:=zjz hrows hy
    have hat:atI (qs.map V.ref) (i:Int)=some (.ref q'):=zbv (by rw [ZA0,g1];rfl)
    have hj:j<xs.length:=(ZAv.mp hyj).1
    have hpl:ps.length=min j xs.length:=by rw [Paired.length hps,ZBl]
    refine ⟨_,rfl,p,C,dx,_,_,rfl,s2 _ _ hp,T.cl,T.nR,zgo,zoo rfl (s2 _ _ hrl) hat (rdT (s2 _ _ g4) rfl ⟨_,e2,?_,_,ps++[pw],rfl,?_,?_,fun b o e=>?_⟩)⟩
    ·rw [ZAu,hpl]
     exact zao (by lia)
    ·rw [zaa,ZA9]
     rfl
    ·have et:xs.take (j+1)=xs.take j++[y]:=by rw [ZBu,hyj];rfl
     rw [et]
     have keep:∀b x,za4 H2 b x->za4 (upd H2 Da (.lst (ps.map V.ref++[.ref pw]))) b x:=fun b x e=>by
      unfold za4
      rw [zai (zba e e2 nofun)]
      exact e
     exact zas (zaj hps fun b x e=>keep b x e) (.cons (keep _ _ (s2 _ _ g5)) .nil)
    ·rw [zai (zac e hDa)]
     exact s2 _ _ e
  rintro σ' H2 ⟨v,ps,rfl,e2,hps,s2⟩
  have hall:xs.take (us.map fun i:Nat=>V.int (i:Int)).length=xs:=by rw [ZAu,hul];exact ZBi
  rw [hall] at hps
  have c2:=c.same s2
  refine ⟨be,_,Da,ps,Fa,xs,o,rfl,c2.falls,⟨e2,hps⟩,.inl ask,fun ho H3 s3=>c1 _ _ ?_,fun x ho r H3 hr' s3 hw=>c1 _ _ ?_⟩
  ·refine ⟨_,rfl,rfl,_,rfl,zdj rfl ?_⟩
   refine k H3 ?_ (zb2.of (s2.trans s3))
   rw [ho]
   exact c2.same s3
  ·refine ⟨_,rfl,rfl,_,rfl,zbx rfl ?_⟩
   have c3:=c2.same s3
   have s03:=s2.trans s3
   refine ⟨_,rfl,p,dx,_,rfl,s03 _ _ hp,zoi (by decide+kernel) (by decide+kernel) (by decide+kernel) (by decide+kernel) (by decide+kernel),_,rfl,_,rfl,_,rfl,p,be,rl,bd,r,pu,n,Fa,st,x,wd,us,rfl,c3,g,hw,s03 _ _ hpu,hlen,fun H4 c4 k4=>?_⟩
   refine k H4 ?_ ((zb2.of s03).trans k4)
   rw [ho]
   exact c4
def zct (l:List Nat):List V:=l.map fun i:Nat=>V.int (i:Int)
def zpb (C:Addr):Sp:=fun vs H Q _=>∃(p be rl bd:Addr) (n:Nat) (F:MU.zax) (st:MU.St) (t:Bool) (a:Nat),vs=[.ref p,.str (zc4 t),.int (a:Int)]/\Clo C H p be rl bd n F st/\n<=8/\∀l H',H l=none->za7 H H'->H' l=some (.lst (zct (MU.za8 n st t a)))->Q (.ref l) H'
def zx9 (C:Addr):Sp:=fun vs H Q _=>∃(p be rl bd:Addr) (n:Nat) (F:MU.zax) (st:MU.St) (b:Nat),vs=[.ref p,.int (b:Int)]/\Clo C H p be rl bd n F st/\n<=8/\∀l H',H l=none->za7 H H'->H' l=some (.lst (zct (MU.zbz n st b)))->Q (.ref l) H'
theorem zdn {α:Type} {f:Nat->Option α} {n:Nat}:(List.range (n+1)).filterMap f=(List.range n).filterMap f++(f n).toList:=by
 rw [List.range_succ,List.filterMap_append]
 cases h:f n with
 | none=>simp [h]
 | some x=>simp [h]
theorem zAm:zan ["self","kind","a"] ["self","kind","a"] (zag sC_Closing_known_of):=scm
theorem zBn:zbw (zag sC_Closing_known_of) ["self","kind","a"] (fsc [(".0",.local),("b",.local),("a",.free),("kind",.free),("self",.free)]) ["b","a","kind","self"] [none,some 2,some 1,some 0]:=com
theorem zA3:(["b","a","kind","self"]:List Str).Nodup:=by decide+kernel
theorem ok_known {f C:Addr} {fd:FuncData} (F:Fun K "known_of" "Closing.known_of" sC_Closing_known_of f fd) (T:zhg K mg C):zbb P w K mg base CX0 1 f fd ["self","kind","a"] (zpb C):=by
 refine F.ok zAm (fun _ _ _ _ h=>?_) fun _ A _ s H _ Q E hr h=>?_
 ·obtain ⟨_,_,_,_,_,_,_,_,_,rfl,_⟩:=h
  rfl
 ·obtain ⟨p,be,rl,bd,n,Fa,st,t,a,rfl,c,h8,k⟩:=h
  have hu:=zfh hr
  refine ⟨_,zad (zaq (zcs rfl (zcv rfl T.range (pa1 (zcb (pv 0) rfl))) zBn (fun cl ex s0 H0=>⟨zcw 0 zA3,zf5 (zh7 (zp1 hu (zaw (pa3 (pv 2) (pv 1) (pv 0))) (zfc (K:=K) rfl (pv 3) rfl)) (by with_unfolding_all rfl)),zda hu (zfc (K:=K) rfl (pv 3) rfl) (zaw (pa3 (pv 2) (pv 1) (pv 0))) (fun _ _=>rfl)⟩))),?_⟩
  obtain ⟨dx,hp⟩:=c.ins
  obtain ⟨kvs,hbd,hkl,hkv⟩:=c.best
  refine ⟨_,rfl,p,C,dx,_,_,rfl,hp,T.cl,T.nM,zt5,_,rfl,by lia,by lia,fun Da hDa=>?_⟩
  refine zes (n:=((n:Int)).toNat) (fun i σ' H'=>∃v,σ'=[v,some (.int (a:Int)),some (.str (zc4 t)),some (.ref p)]/\H' Da=some (.lst (zct ((List.range i).filterMap fun b=>st.best (t,a,b))))/\za7 H H') ⟨none,rfl,zaa,zab hDa⟩ ?_ ?_
  ·rintro i σ' H2 hi ⟨v,rfl,e2,s2⟩
   have hin:i<n:=by lia
   have ei:((0:Int)+(i:Int))=(i:Int):=by lia
   refine ⟨_,rfl,_,rfl,_,rfl,szl rfl,fun kt hkt=>?_⟩
   rw [ei]
   have s3:=zab (o:=.tup ((zdb (t,a,i)).map kV)) hkt
   have e3:upd H2 kt (.tup ((zdb (t,a,i)).map kV)) kt=some (.tup ((zdb (t,a,i)).map kV)):=zaa
   have ek:(HO.tup [V.str (zc4 t),V.int (a:Int),V.int (i:Int)])=.tup ((zdb (t,a,i)).map kV):=rfl
   rw [ek]
   generalize upd H2 kt (.tup ((zdb (t,a,i)).map kV))=H3 at*
   have s03:=s2.trans s3
   have dg:=ze5.t (k:=zdb (t,a,i)) (s03 _ _ hbd) e3
   rw [hkv] at dg
   refine ⟨_,rfl,p,C,dx,_,_,rfl,s03 _ _ hp,T.cl,T.nE,zf3,bd,_,rfl,dg,_,rfl,?_⟩
   have fl:((List.range i).filterMap fun b=>st.best (t,a,b)).length<=i:=by
    have:=List.length_filterMap_le (fun b=>st.best (t,a,b)) (List.range i)
    rw [List.length_range] at this
    exact this
   cases hb:st.best (t,a,i) with
   | none=>
    refine zef ⟨_,rfl,?_,s03⟩
    rw [zdn,hb]
    show H3 Da=some (.lst (zct (_++[])))
    rw [List.append_nil]
    exact s3 _ _ e2
   | some j=>
    rw [hb] at dg
    refine zhb ?_
    refine ⟨_,rfl,p,C,dx,_,_,rfl,s03 _ _ hp,T.cl,T.nE,zf3,_,rfl,_,rfl,_,rfl,szl rfl,fun kt2 hkt2=>?_⟩
    have s4:=zab (o:=.tup ((zdb (t,a,i)).map kV)) hkt2
    have e4:upd H3 kt2 (.tup ((zdb (t,a,i)).map kV)) kt2=some (.tup ((zdb (t,a,i)).map kV)):=zaa
    rw [ek]
    generalize upd H3 kt2 (.tup ((zdb (t,a,i)).map kV))=H4 at*
    have s04:=s03.trans s4
    have dg4:=ze5.t (k:=zdb (t,a,i)) (s04 _ _ hbd) e4
    rw [hkv,hb] at dg4
    refine ⟨bd,_,rfl,dg4,_,s4 _ _ (s3 _ _ e2),?_,_,rfl,?_,fun b o e=>?_⟩
    ·unfold zct
     rw [ZAu]
     exact zao (by lia)
    ·rw [zaa,zdn,hb]
     unfold zct
     rw [ZA9]
     rfl
    ·rw [zai (zac e hDa)]
     exact s04 _ _ e
  ·rintro σ' H2 ⟨v,rfl,e2,s2⟩
   exact k Da H2 hDa s2 e2
theorem zAi:zan ["self","b"] ["self","b"] (zag sC_Closing_ties_to):=scm
theorem zBk:zbw (zag sC_Closing_ties_to) ["self","b"] (fsc [(".0",.local),("a",.local),("b",.free),("self",.free)]) ["a","b","self"] [none,some 1,some 0]:=com
theorem zA1:(["a","b","self"]:List Str).Nodup:=by decide+kernel
theorem ok_tiesTo {f C:Addr} {fd:FuncData} (F:Fun K "ties_to" "Closing.ties_to" sC_Closing_ties_to f fd) (T:zhg K mg C):zbb P w K mg base CX0 1 f fd ["self","b"] (zx9 C):=by
 refine F.ok zAi (fun _ _ _ _ h=>?_) fun _ A _ s H _ Q E hr h=>?_
 ·obtain ⟨_,_,_,_,_,_,_,_,rfl,_⟩:=h
  rfl
 ·obtain ⟨p,be,rl,bd,n,Fa,st,b0,rfl,c,h8,k⟩:=h
  have hu:=zfh hr
  refine ⟨_,zad (zaq (zcs rfl (zcv rfl T.range (pa1 (zcb (pv 0) rfl))) zBk (fun cl ex s0 H0=>⟨zcw 0 zA1,zf5 (zh7 (zp1 hu (zaw (pa3 zam (pv 0) (pv 1))) (zfc (K:=K) rfl (pv 2) rfl)) (by with_unfolding_all rfl)),zda hu (zfc (K:=K) rfl (pv 2) rfl) (zaw (pa3 zam (pv 0) (pv 1))) (fun _ _=>rfl)⟩))),?_⟩
  obtain ⟨dx,hp⟩:=c.ins
  obtain ⟨kvs,hbd,hkl,hkv⟩:=c.best
  refine ⟨_,rfl,p,C,dx,_,_,rfl,hp,T.cl,T.nM,zt5,_,rfl,by lia,by lia,fun Da hDa=>?_⟩
  refine zes (n:=((n:Int)).toNat) (fun i σ' H'=>∃v,σ'=[v,some (.int (b0:Int)),some (.ref p)]/\H' Da=some (.lst (zct ((List.range i).filterMap fun a=>st.best (true,a,b0))))/\za7 H H') ⟨none,rfl,zaa,zab hDa⟩ ?_ ?_
  ·rintro i σ' H2 hi ⟨v,rfl,e2,s2⟩
   have hin:i<n:=by lia
   have ei:((0:Int)+(i:Int))=(i:Int):=by lia
   refine ⟨_,rfl,_,rfl,szl rfl,fun kt hkt=>?_⟩
   rw [ei]
   have s3:=zab (o:=.tup ((zdb (true,i,b0)).map kV)) hkt
   have e3:upd H2 kt (.tup ((zdb (true,i,b0)).map kV)) kt=some (.tup ((zdb (true,i,b0)).map kV)):=zaa
   have ek:(HO.tup [V.str "tie",V.int (i:Int),V.int (b0:Int)])=.tup ((zdb (true,i,b0)).map kV):=rfl
   rw [ek]
   generalize upd H2 kt (.tup ((zdb (true,i,b0)).map kV))=H3 at*
   have s03:=s2.trans s3
   have dg:=ze5.t (k:=zdb (true,i,b0)) (s03 _ _ hbd) e3
   rw [hkv] at dg
   refine ⟨_,rfl,p,C,dx,_,_,rfl,s03 _ _ hp,T.cl,T.nE,zf3,bd,_,rfl,dg,_,rfl,?_⟩
   have fl:((List.range i).filterMap fun a=>st.best (true,a,b0)).length<=i:=by
    have:=List.length_filterMap_le (fun a=>st.best (true,a,b0)) (List.range i)
    rw [List.length_range] at this
    exact this
   cases hb:st.best (true,i,b0) with
   | none=>
    refine zef ⟨_,rfl,?_,s03⟩
    rw [zdn,hb]
    show H3 Da=some (.lst (zct (_++[])))
    rw [List.append_nil]
    exact s3 _ _ e2
   | some j=>
    rw [hb] at dg
    refine zhb ?_
    refine ⟨_,rfl,p,C,dx,_,_,rfl,s03 _ _ hp,T.cl,T.nE,zf3,_,rfl,_,rfl,szl rfl,fun kt2 hkt2=>?_⟩
    have s4:=zab (o:=.tup ((zdb (true,i,b0)).map kV)) hkt2
    have e4:upd H3 kt2 (.tup ((zdb (true,i,b0)).map kV)) kt2=some (.tup ((zdb (true,i,b0)).map kV)):=zaa
    rw [ek]
    generalize upd H3 kt2 (.tup ((zdb (true,i,b0)).map kV))=H4 at*
    have s04:=s03.trans s4
    have dg4:=ze5.t (k:=zdb (true,i,b0)) (s04 _ _ hbd) e4
    rw [hkv,hb] at dg4
    refine ⟨bd,_,rfl,dg4,_,s4 _ _ (s3 _ _ e2),?_,_,rfl,?_,fun b o e=>?_⟩
    ·unfold zct
     rw [ZAu]
     exact zao (by lia)
    ·rw [zaa,zdn,hb]
     unfold zct
     rw [ZA9]
     rfl
    ·rw [zai (zac e hDa)]
     exact s04 _ _ e
  ·rintro σ' H2 ⟨v,rfl,e2,s2⟩
   exact k Da H2 hDa s2 e2
end Y0
namespace MU
def zxl (F:zax) (st:St):Prop:=∀i w,wat st i=some w->w.tie=false->∃f,F w.b=some f
structure Sta (n:Nat) (F:zax) (st:St):Prop where
 good:zee n st
 ends:zxl F st
def zvu (n:Nat) (F:zax) (w:zar):Prop:=Fit n w/\(w.tie=false->∃f,F w.b=some f)
variable {n:Nat} {F:zax} {most:Int} {st:St}
theorem Sta.put (h:Sta n F st) {o:Option zar} {wd:Wd} {us:List Nat} (ho:∀w,o=some w->zvu n F w):Sta n F (put st o wd us):=by
 refine ⟨zj3 h.good fun w e=>(ho w e).1,fun i w hw ht=>?_⟩
 by_cases hi:i<st.rows.length
 ·exact h.ends i w (zhj (zew _ _ _ _) hi hw) ht
 ·exact (zex (C:=fun w=>w.tie=false->∃f,F w.b=some f) (fun w e=>(ho w e).2) i w (by lia) hw) ht
theorem ztc {p q w:zar} (h1:p.a<n) (h2:q.b<n) (h:za1 p q=some w):zvu n F w:=by
 unfold za1 at h
 split at h
 ·cases h;exact ⟨⟨h1,h2,fun z=>nomatch z⟩,fun z=>nomatch z⟩
 ·cases h
theorem zvb {p w:zar} (h1:p.a<n) (h2:p.b<n) (h:zbh F p=some w):zvu n F w:=by
 refine ⟨zhq p w h1 h2 h,fun _=>?_⟩
 unfold zbh at h
 split at h
 ·cases q:F p.b with
  | none=>rw [q] at h;cases h
  | some f=>rw [q] at h;cases h;exact ⟨f,q⟩
 ·cases h
theorem zur (hF:FOk n F most) {p w:zar} (h1:p.a<n) (h2:p.b<n) (h:zbl F p=some w):zvu n F w:=by
 refine ⟨zhm hF p w h1 h2 h,fun ht=>?_⟩
 unfold zbl at h
 split at h
 ·cases q:F p.a with
  | none=>rw [q] at h;cases h
  | some f=>rw [q] at h;cases h;cases ht
 ·cases h
theorem zuo (hF:FOk n F most) {p w:zar} (h1:p.a<n) (h2:p.b<n) (h:zbg F p=some w):zvu n F w:=by
 refine ⟨zjr hF p w h1 h2 h,fun ht=>?_⟩
 unfold zbg at h
 split at h
 ·cases q:F p.b with
  | none=>rw [q] at h;cases h
  | some f=>rw [q] at h;cases h;cases ht
 ·cases h
theorem zrd {p q w:zar} (h1:p.a<n) (h2:p.b<n) (h3:q.a<n) (h4:q.b<n) (h:zau F p q=some w):zvu n F w:=by
 refine ⟨zkp p q w h1 h2 h3 h4 h,fun _=>?_⟩
 unfold zau at h
 split at h
 ·cases e:F p.b with
  | none=>rw [e] at h;cases h
  | some f=>rw [e] at h;cases h;exact ⟨f,e⟩
 ·cases h
theorem zs2 (hF:FOk n F most) {p w:zar} (h1:p.a<n) (h2:p.b<n) (h:zav F p=some w):zvu n F w:=by
 refine ⟨zil hF p w h1 h2 h,fun _=>?_⟩
 unfold zav at h
 split at h
 ·cases e:F p.a with
  | none=>rw [e] at h;cases h
  | some o=>
   rw [e] at h
   have h:(F p.b).map (fun f=>(⟨false,o.1,p.b,min p.v f.2.2-o.2.1⟩:zar))=some w:=h
   cases e2:F p.b with
   | none=>rw [e2] at h;cases h
   | some f=>rw [e2] at h;cases h;exact ⟨f,e2⟩
 ·cases h
theorem zs1 {f:zar->Option zar} {wd:Wd} {i:Nat} {x:zar} (h:wat st i=some x):za6 f wd i st=put st (f x) wd [i]:=by
 unfold za6
 rw [h]
 rfl
theorem zs0 {f:zar->zar->Option zar} {wd:Wd} {i j:Nat} {x y:zar} (h:wat st i=some x) (h':wat st j=some y):zat f wd i j st=put st (f x y) wd [i,j]:=by
 unfold zat
 rw [h]
 show put st ((wat st j).bind fun q=>f x q) wd [i,j]=_
 rw [h']
 rfl
theorem zfu {f:St->Nat->St} {l:List Nat} {i j:Nat} (h:l[i]?=some j):(l.take (i+1)).foldl f st=f ((l.take i).foldl f st) j:=by
 rw [ZBu,h,List.foldl_append]
 rfl
end MU
namespace Y0
open PySem L2
seal L2.PE L2.PA L2.PT L2.PS L2.PSs L2.PG L2.PGs L2.PI L2.PO
section
variable {C p be rl bd:Addr} {n:Nat} {F:MU.zax} {st:MU.St} {σ:L2.St} {H:Hp} {Q:VK} {E:XK}
theorem zxn {at_:Nat} {i:Nat} {R:List V->Hp->Prop} (h1:σ[i]?=some (some (.int (at_:Int)))) (k:∀t,H t=none->R [.ref t] (upd H t (.tup ([at_].map fun i:Nat=>V.int (i:Int))))):ze6 (zxy (ze6 (zui i) zri)) zri σ H R:=
 ⟨_,h1,szl rfl,fun t ht=>k t ht⟩
theorem zxm {a b:Nat} {i j:Nat} {R:List V->Hp->Prop} (h1:σ[i]?=some (some (.int (a:Int)))) (h2:σ[j]?=some (some (.int (b:Int)))) (k:∀t,H t=none->R [.ref t] (upd H t (.tup ([a,b].map fun i:Nat=>V.int (i:Int))))):ze6 (zxy (ze6 (zui i) (ze6 (zui j) zri))) zri σ H R:=
 ⟨_,h1,_,h2,szl rfl,fun t ht=>k t ht⟩
theorem ze8 {us:List Nat} {xs:List MU.zar} {wd:MU.Wd} {o:Option MU.zar} {tu:TA} {word:Str} (hw:word=zb4 wd) (h0:σ[0]?=some (some (.ref p))) (c:Clo C H p be rl bd n F st) (g:MU.zee n st)
 (hu:∀R:List V->Hp->Prop,(∀t,H t=none->R [.ref t] (upd H t (.tup (us.map fun i:Nat=>V.int (i:Int)))))->tu σ H R) (hx:Paired (fun i x=>MU.wat st i=some x) us xs) (ask:zg3 F (zb4 wd) xs o) (hlen:st.rows.length<=16500000)
 (k:∀H',Clo C H' p be rl bd n F (MU.put st o wd us)->zb2 p rl bd H H'->Q .non H'):zul C "draw" (zm8 C) [] E (zui 0) (ze6 (tC (.str word)) tu) σ H Q:=by
 subst hw
 obtain ⟨dx,hp⟩:=c.ins
 refine ⟨_,h0,p,dx,_,rfl,hp,zoi (by decide+kernel) (by decide+kernel) (by decide+kernel) (by decide+kernel) (by decide+kernel),?_⟩
 refine hu _ fun t ht=>?_
 have s1:=zab (o:=.tup (us.map fun i:Nat=>V.int (i:Int))) ht
 exact ⟨p,be,rl,bd,t,n,F,st,wd,us,xs,o,rfl,c.same s1,g,zaa,hx,ask,hlen,fun H' c' k'=>k H' c' ((zb2.of s1).trans k')⟩
end
theorem Clo.apart {C p be rl bd la:Addr} {H:Hp} {n:Nat} {F:MU.zax} {st:MU.St} (c:Clo C H p be rl bd n F st) (h:H la=none):la≠p/\la≠rl/\la≠bd:=by
 obtain ⟨dx,hp⟩:=c.ins
 obtain ⟨qs,hrl,_⟩:=c.rows
 obtain ⟨kvs,hbd,_⟩:=c.best
 exact ⟨ZAl (zac hp h),ZAl (zac hrl h),ZAl (zac hbd h)⟩
def zk8 (C:Addr):Sp:=fun vs H Q _=>∃(p be rl bd:Addr) (n:Nat) (F:MU.zax) (st:MU.St) (at_:Nat) (x:MU.zar),vs=[.ref p,.int (at_:Int),.int (x.a:Int),.int (x.b:Int)]/\Clo C H p be rl bd n F st/\MU.Sta n F st/\MU.FOk n F ((60:Nat):Int)/\MU.wat st at_=some x/\x.tie=true/\n<=8/\st.rows.length<=16000000/\
 ∀H',Clo C H' p be rl bd n F (MU.zb0 n F at_ x.a x.b st)->MU.Sta n F (MU.zb0 n F at_ x.a x.b st)->zb2 p rl bd H H'->Q .non H'
def zi4 (C:Addr):Sp:=fun vs H Q _=>∃(p be rl bd:Addr) (n:Nat) (F:MU.zax) (st:MU.St) (at_:Nat) (x:MU.zar),vs=[.ref p,.int (at_:Int),.int (x.a:Int)]/\Clo C H p be rl bd n F st/\MU.Sta n F st/\MU.FOk n F ((60:Nat):Int)/\MU.wat st at_=some x/\x.tie=false/\n<=8/\st.rows.length<=16000000/\
 ∀H',Clo C H' p be rl bd n F (MU.zbc n F at_ x.a st)->MU.Sta n F (MU.zbc n F at_ x.a st)->zb2 p rl bd H H'->Q .non H'
abbrev nFt:List Str:=["self","at","a","b","number"]
theorem zxq:zan nFt ["self","at","a","b"] (zag sC_Closing_draw_from_tie):=scm
abbrev nFw:List Str:=["self","at","a","number"]
theorem zzu:zan nFw ["self","at","a"] (zag sC_Closing_draw_from_wait):=scm
theorem ok_fromWait {f C fD fZ:Addr} {fd fdD fdZ:FuncData} (F:Fun K "draw_from_wait" "Closing.draw_from_wait" sC_Closing_draw_from_wait f fd) (T:zhg K mg C)
 (mD:zks K C "draw" fD) (bD:zdd K fdD ["self","word","used"] []) (GD:zbb P w K mg base CX0 3 fD fdD ["self","word","used"] (zm8 C))
 (mZ:zks K C "ties_to" fZ) (bZ:zdd K fdZ ["self","b"] []) (GZ:zbb P w K mg base CX0 1 fZ fdZ ["self","b"] (zx9 C)):zbb P w K mg base CX0 4 f fd ["self","at","a"] (zi4 C):=by
 refine F.ok zzu (fun _ _ _ _ h=>?_) fun _ A _ s H _ Q E hr h=>?_
 ·obtain ⟨_,_,_,_,_,_,_,_,_,rfl,_⟩:=h
  rfl
 ·obtain ⟨p,be,rl,bd,n,Fa,st,at_,x,rfl,c,S,hF,hx,ht,h8,hlen,k⟩:=h
  have hr1:zel 1 _:=hr.mono (by decide)
  refine ⟨_,zaf (zbj (zca (pv 0) T.cl mD GD hr bD .nil zdp (pa2 zam (zaw (pa1 (pv 1))))))
   (zaf (zbj (zca (pv 0) T.cl mD GD hr bD .nil zdp (pa2 zam (zaw (pa1 (pv 1))))))
   (zad (zc9 PassesOwn.never rfl (zbt (zca (pv 0) T.cl mZ GZ hr1 bZ .nil zdp (pa1 (pv 2)))) (zcw 3 zzu.nd)
    (zad (zbj (zca (pv 0) T.cl mD GD hr bD .nil zdp (pa2 zam (zaw (pa2 (pv 1) (pv 3)))))))))),?_⟩
  obtain ⟨xa,xb⟩:=S.good.lt _ _ hx
  obtain ⟨fa,hfa⟩:=S.ends _ _ hx ht
  have d1:MU.za6 (MU.zbg Fa) .sure at_ st=MU.put st (MU.zbg Fa x) .sure [at_]:=MU.zs1 hx
  have S1:MU.Sta n Fa (MU.put st (MU.zbg Fa x) .sure [at_]):=S.put fun w e=>MU.zuo hF xa xb e
  have hx1:MU.wat (MU.put st (MU.zbg Fa x) .sure [at_]) at_=some x:=MU.zaz (MU.zew _ _ _ _) hx
  have l1:=MU.zb7 st (MU.zbg Fa x) .sure [at_]
  have goal:MU.zbc n Fa at_ x.a st=(MU.zbz n (MU.za6 (MU.zav Fa) .cross at_ (MU.za6 (MU.zbg Fa) .sure at_ st)) x.a).foldl (fun st j=>MU.zat (MU.zau Fa) .back at_ j st) (MU.za6 (MU.zav Fa) .cross at_ (MU.za6 (MU.zbg Fa) .sure at_ st)):=rfl
  rw [d1] at goal
  refine fun N1 c1=>ze8 (wd:=.sure) rfl rfl c S.good (fun R z=>zxn rfl z) (.cons hx .nil) (.sure x fa ht hfa) (by lia) fun H1 C1 k1=>c1 _ _ ?_
  generalize MU.put st (MU.zbg Fa x) .sure [at_]=st1 at*
  clear c1 N1
  have d2:MU.za6 (MU.zav Fa) .cross at_ st1=MU.put st1 (MU.zav Fa x) .cross [at_]:=MU.zs1 hx1
  have S2:MU.Sta n Fa (MU.put st1 (MU.zav Fa x) .cross [at_]):=S1.put fun w e=>MU.zs2 hF xa xb e
  have hx2:MU.wat (MU.put st1 (MU.zav Fa x) .cross [at_]) at_=some x:=MU.zaz (MU.zew _ _ _ _) hx1
  have l2:=MU.zb7 st1 (MU.zav Fa x) .cross [at_]
  rw [d2] at goal
  refine fun N2 c2=>ze8 (wd:=.cross) rfl rfl C1 S1.good (fun R z=>zxn rfl z) (.cons hx1 .nil) (.cross x fa ht hfa) (by lia) fun H2 C2 k2=>c2 _ _ ?_
  generalize MU.put st1 (MU.zav Fa x) .cross [at_]=st2 at*
  clear c2 N2
  have k02:=k1.trans k2
  obtain ⟨dx,hp⟩:=C2.ins
  refine ⟨_,rfl,p,dx,_,rfl,hp,zoi (by decide+kernel) (by decide+kernel) (by decide+kernel) (by decide+kernel) (by decide+kernel),_,rfl,p,be,rl,bd,n,Fa,st2,x.a,rfl,C2,h8,fun la H3 hla s3 e3=>?_⟩
  obtain ⟨n1,n2,n3⟩:=C2.apart hla
  have C3:=C2.same s3
  refine ⟨la,rfl,⟨_,SqL.of e3⟩,?_⟩
  have hmem:∀j∈MU.zbz n st2 x.a,∃y,MU.wat st2 j=some y/\y.tie=true/\y.a<n/\y.b<n:=fun j hj=>by
   obtain ⟨cc,_,hb⟩:=MU.zfl hj
   obtain ⟨y,hy,hk⟩:=S2.good.at_ _ _ hb
   obtain ⟨q1,q2,q3⟩:=MU.zde hk
   exact ⟨y,hy,q1,S2.good.lt _ _ hy⟩
  have tl:=MU.zfm (n:=n) (st:=st2) (b:=x.a)
  generalize MU.zbz n st2 x.a=L at*
  refine zcx (K:=K) (a:=la) (xs:=zct L) (fun i σ' H'=>∃v,σ'=[some (.ref p),some (.int (at_:Int)),some (.int (x.a:Int)),v]/\Clo C H' p be rl bd n Fa ((L.take i).foldl (fun st j=>MU.zat (MU.zau Fa) .back at_ j st) st2)/\MU.Sta n Fa ((L.take i).foldl (fun st j=>MU.zat (MU.zau Fa) .back at_ j st) st2)/\MU.Ext st2 ((L.take i).foldl (fun st j=>MU.zat (MU.zau Fa) .back at_ j st) st2)/\zb2 p rl bd H3 H') ⟨none,rfl,C3,S2,MU.Ext.refl _,zb2.of (za7.refl _)⟩ ?_ ?_ ?_
  ·rintro i σ' H4 _ ⟨v,rfl,_,_,_,k4⟩
   exact SqL.of (k4 _ _ e3 n1 n2 n3)
  ·rintro i y σ' H4 hy ⟨v,rfl,C4,S4,x4,k4⟩
   unfold zct at hy
   rw [ZA0] at hy
   cases q:L[i]? with
   | none=>rw [q] at hy;cases hy
   | some j=>
    rw [q] at hy
    cases hy
    obtain ⟨y,hyj,yt,ya,yb⟩:=hmem j (ZA1 q)
    have fl:=MU.zcp (f:=fun st j=>MU.zat (MU.zau Fa) .back at_ j st) (fun _ _=>MU.zb7 _ _ _ _) (L.take i) st2
    rw [ZBl] at fl
    rw [MU.zfu q]
    have hx4:=MU.zaz x4 hx2
    have hy4:=MU.zaz x4 hyj
    have e4:MU.zat (MU.zau Fa) .back at_ j ((L.take i).foldl (fun st j=>MU.zat (MU.zau Fa) .back at_ j st) st2)=MU.put ((L.take i).foldl (fun st j=>MU.zat (MU.zau Fa) .back at_ j st) st2) (MU.zau Fa x y) .back [at_,j]:=MU.zs0 hx4 hy4
    rw [e4]
    generalize (L.take i).foldl (fun st j=>MU.zat (MU.zau Fa) .back at_ j st) st2=st4 at*
    refine ze8 (wd:=.back) rfl rfl C4 S4.good (fun R z=>zxm rfl rfl z) (.cons hx4 (.cons hy4 .nil)) (.back x y fa ht yt hfa) (by lia) fun H5 C5 k5=>⟨_,rfl,C5,S4.put fun w e=>MU.zrd xa xb ya yb e,x4.trans (MU.zew _ _ _ _),k4.trans k5⟩
  ·rintro σ' H4 ⟨v,rfl,C4,S4,x4,k4⟩
   have hall:L.take (zct L).length=L:=by unfold zct;rw [ZAu];exact ZBi
   rw [hall,<-goal] at C4 S4
   exact k H4 C4 S4 ((k02.trans (zb2.of s3)).trans k4)
theorem ok_fromTie {f C fD fZ fK:Addr} {fd fdD fdZ fdK:FuncData} (F:Fun K "draw_from_tie" "Closing.draw_from_tie" sC_Closing_draw_from_tie f fd) (T:zhg K mg C)
 (mD:zks K C "draw" fD) (bD:zdd K fdD ["self","word","used"] []) (GD:zbb P w K mg base CX0 3 fD fdD ["self","word","used"] (zm8 C))
 (mZ:zks K C "ties_to" fZ) (bZ:zdd K fdZ ["self","b"] []) (GZ:zbb P w K mg base CX0 1 fZ fdZ ["self","b"] (zx9 C))
 (mK:zks K C "known_of" fK) (bK:zdd K fdK ["self","kind","a"] []) (GK:zbb P w K mg base CX0 1 fK fdK ["self","kind","a"] (zpb C)):zbb P w K mg base CX0 4 f fd ["self","at","a","b"] (zk8 C):=by
 refine F.ok zxq (fun _ _ _ _ h=>?_) fun _ A _ s H _ Q E hr h=>?_
 ·obtain ⟨_,_,_,_,_,_,_,_,_,rfl,_⟩:=h
  rfl
 ·obtain ⟨p,be,rl,bd,n,Fa,st,at_,x,rfl,c,S,hF,hx,ht,h8,hlen,k⟩:=h
  have hr1:zel 1 _:=hr.mono (by decide)
  refine ⟨_,zaf (zbj (zca (pv 0) T.cl mD GD hr bD .nil zdp (pa2 zam (zaw (pa1 (pv 1))))))
   (zaf (zbj (zca (pv 0) T.cl mD GD hr bD .nil zdp (pa2 zam (zaw (pa1 (pv 1))))))
   (zaf (zc9 PassesOwn.never rfl (zbt (zca (pv 0) T.cl mK GK hr1 bK .nil zdp (pa2 zam (pv 3)))) (zcw 4 zxq.nd)
    (zad (zbj (zca (pv 0) T.cl mD GD hr bD .nil zdp (pa2 zam (zaw (pa2 (pv 1) (pv 4))))))))
   (zaf (zc9 PassesOwn.never rfl (zbt (zca (pv 0) T.cl mZ GZ hr1 bZ .nil zdp (pa1 (pv 2)))) (zcw 4 zxq.nd)
    (zad (zbj (zca (pv 0) T.cl mD GD hr bD .nil zdp (pa2 zam (zaw (pa2 (pv 4) (pv 1))))))))
   (zad (zc9 PassesOwn.never rfl (zbt (zca (pv 0) T.cl mK GK hr1 bK .nil zdp (pa2 zam (pv 3)))) (zcw 4 zxq.nd)
    (zad (zbj (zca (pv 0) T.cl mD GD hr bD .nil zdp (pa2 zam (zaw (pa2 (pv 4) (pv 1)))))))))))),?_⟩
  obtain ⟨xa,xb⟩:=S.good.lt _ _ hx
  have d1:MU.za6 (MU.zbh Fa) .late at_ st=MU.put st (MU.zbh Fa x) .late [at_]:=MU.zs1 hx
  have S1:MU.Sta n Fa (MU.put st (MU.zbh Fa x) .late [at_]):=S.put fun w e=>MU.zvb xa xb e
  have hx1:MU.wat (MU.put st (MU.zbh Fa x) .late [at_]) at_=some x:=MU.zaz (MU.zew _ _ _ _) hx
  have l1:=MU.zb7 st (MU.zbh Fa x) .late [at_]
  generalize hgoal:MU.zb0 n Fa at_ x.a x.b st=fin at*
  unfold MU.zb0 at hgoal
  dsimp only at hgoal
  rw [d1] at hgoal
  refine fun N1 c1=>ze8 (wd:=.late) rfl rfl c S.good (fun R z=>zxn rfl z) (.cons hx .nil) (.late x ht) (by lia) fun H1 C1 k1=>c1 _ _ ?_
  generalize MU.put st (MU.zbh Fa x) .late [at_]=st1 at*
  clear c1 N1
  have d2:MU.za6 (MU.zbl Fa) .soon at_ st1=MU.put st1 (MU.zbl Fa x) .soon [at_]:=MU.zs1 hx1
  have S2:MU.Sta n Fa (MU.put st1 (MU.zbl Fa x) .soon [at_]):=S1.put fun w e=>MU.zur hF xa xb e
  have hx2:MU.wat (MU.put st1 (MU.zbl Fa x) .soon [at_]) at_=some x:=MU.zaz (MU.zew _ _ _ _) hx1
  have l2:=MU.zb7 st1 (MU.zbl Fa x) .soon [at_]
  rw [d2] at hgoal
  refine fun N2 c2=>ze8 (wd:=.soon) rfl rfl C1 S1.good (fun R z=>zxn rfl z) (.cons hx1 .nil) (.soon x ht) (by lia) fun H2 C2 k2=>c2 _ _ ?_
  generalize MU.put st1 (MU.zbl Fa x) .soon [at_]=st2 at*
  clear c2 N2
  have kA:=k1.trans k2
  clear k1 k2
  have v4:∃v:Option V,(none:Option V)=v:=⟨_,rfl⟩
  obtain ⟨v4,hv4⟩:=v4
  have lenA:st2.rows.length<=st.rows.length+2:=by lia
  refine fun N3 c3=>?_
  obtain ⟨dx,hp⟩:=C2.ins
  refine ⟨_,rfl,p,dx,_,rfl,hp,zoi (by decide+kernel) (by decide+kernel) (by decide+kernel) (by decide+kernel) (by decide+kernel),_,rfl,p,be,rl,bd,n,Fa,st2,true,x.b,rfl,C2,h8,fun la H3 hla s3 e3=>?_⟩
  obtain ⟨n1,n2,n3⟩:=C2.apart hla
  have C3:=C2.same s3
  refine ⟨la,rfl,⟨_,SqL.of e3⟩,?_⟩
  have hmem:∀j∈MU.za8 n st2 true x.b,∃y,MU.wat st2 j=some y/\y.tie=true/\y.a<n/\y.b<n:=fun j hj=>by
   obtain ⟨cc,_,hb⟩:=MU.zie hj
   obtain ⟨y,hy,hk⟩:=S2.good.at_ _ _ hb
   obtain ⟨q1,q2,q3⟩:=MU.zde hk
   exact ⟨y,hy,q1,S2.good.lt _ _ hy⟩
  have tl:(MU.za8 n st2 true x.b).length<=n:=MU.zgk
  generalize MU.za8 n st2 true x.b=L at*
  refine zcx (K:=K) (a:=la) (xs:=zct L) (fun i σ' H'=>∃v,σ'=[some (.ref p),some (.int (at_:Int)),some (.int (x.a:Int)),some (.int (x.b:Int)),v]/\Clo C H' p be rl bd n Fa ((L.take i).foldl (fun st j=>MU.zat MU.za1 .sum at_ j st) st2)/\MU.Sta n Fa ((L.take i).foldl (fun st j=>MU.zat MU.za1 .sum at_ j st) st2)/\MU.Ext st2 ((L.take i).foldl (fun st j=>MU.zat MU.za1 .sum at_ j st) st2)/\zb2 p rl bd H3 H') ⟨_,rfl,C3,S2,MU.Ext.refl _,zb2.of (za7.refl _)⟩ ?_ ?_ ?_
  ·rintro i σ' H4 _ ⟨v,rfl,_,_,_,k4⟩
   exact SqL.of (k4 _ _ e3 n1 n2 n3)
  ·rintro i y σ' H4 hy ⟨v,rfl,C4,S4,x4,k4⟩
   unfold zct at hy
   rw [ZA0] at hy
   cases q:L[i]? with
   | none=>rw [q] at hy;cases hy
   | some j=>
    rw [q] at hy
    cases hy
    obtain ⟨y,hyj,yt,ya,yb⟩:=hmem j (ZA1 q)
    have fl:=MU.zcp (f:=fun st j=>MU.zat MU.za1 .sum at_ j st) (fun _ _=>MU.zb7 _ _ _ _) (L.take i) st2
    rw [ZBl] at fl
    rw [MU.zfu q]
    have hx4:=MU.zaz x4 hx2
    have hy4:=MU.zaz x4 hyj
    have e4:MU.zat MU.za1 .sum at_ j ((L.take i).foldl (fun st j=>MU.zat MU.za1 .sum at_ j st) st2)=MU.put ((L.take i).foldl (fun st j=>MU.zat MU.za1 .sum at_ j st) st2) (MU.za1 x y) .sum [at_,j]:=MU.zs0 hx4 hy4
    rw [e4]
    generalize (L.take i).foldl (fun st j=>MU.zat MU.za1 .sum at_ j st) st2=st4 at*
    refine ze8 (wd:=.sum) rfl rfl C4 S4.good (fun R z=>zxm rfl rfl z) (.cons hx4 (.cons hy4 .nil)) (.sum x y ht yt) (by lia) fun H5 C5 k5=>⟨_,rfl,C5,S4.put fun w e=>MU.ztc xa yb e,x4.trans (MU.zew _ _ _ _),k4.trans k5⟩
  rintro σ' H4 ⟨v1,rfl,C5,S5,x1,k4⟩
  have hall:L.take (zct L).length=L:=by unfold zct;rw [ZAu];exact ZBi
  rw [hall] at C5 S5 x1
  refine c3 _ _ ?_
  have kB:=(kA.trans (zb2.of s3)).trans k4
  have hx3:=MU.zaz x1 hx2
  have lenB:(L.foldl (fun st j=>MU.zat MU.za1 .sum at_ j st) st2).rows.length<=st.rows.length+(2+1*n):=by
   have:=MU.zcp (f:=fun st j=>MU.zat MU.za1 .sum at_ j st) (fun _ _=>MU.zb7 _ _ _ _) L st2
   lia
  generalize L.foldl (fun st j=>MU.zat MU.za1 .sum at_ j st) st2=st3 at*
  clear hmem tl e3 n1 n2 n3 C3 hla s3 k4 hall x1 hp c3 N3
  refine fun N4 c4=>?_
  obtain ⟨dx,hp⟩:=C5.ins
  refine ⟨_,rfl,p,dx,_,rfl,hp,zoi (by decide+kernel) (by decide+kernel) (by decide+kernel) (by decide+kernel) (by decide+kernel),_,rfl,p,be,rl,bd,n,Fa,st3,x.a,rfl,C5,h8,fun la H3 hla s3 e3=>?_⟩
  obtain ⟨n1,n2,n3⟩:=C5.apart hla
  have C3:=C5.same s3
  refine ⟨la,rfl,⟨_,SqL.of e3⟩,?_⟩
  have hmem:∀j∈MU.zbz n st3 x.a,∃y,MU.wat st3 j=some y/\y.tie=true/\y.a<n/\y.b<n:=fun j hj=>by
   obtain ⟨cc,_,hb⟩:=MU.zfl hj
   obtain ⟨y,hy,hk⟩:=S5.good.at_ _ _ hb
   obtain ⟨q1,q2,q3⟩:=MU.zde hk
   exact ⟨y,hy,q1,S5.good.lt _ _ hy⟩
  have tl:(MU.zbz n st3 x.a).length<=n:=MU.zfm
  generalize MU.zbz n st3 x.a=L at*
  refine zcx (K:=K) (a:=la) (xs:=zct L) (fun i σ' H'=>∃v,σ'=[some (.ref p),some (.int (at_:Int)),some (.int (x.a:Int)),some (.int (x.b:Int)),v]/\Clo C H' p be rl bd n Fa ((L.take i).foldl (fun st j=>MU.zat MU.za1 .sum j at_ st) st3)/\MU.Sta n Fa ((L.take i).foldl (fun st j=>MU.zat MU.za1 .sum j at_ st) st3)/\MU.Ext st3 ((L.take i).foldl (fun st j=>MU.zat MU.za1 .sum j at_ st) st3)/\zb2 p rl bd H3 H') ⟨_,rfl,C3,S5,MU.Ext.refl _,zb2.of (za7.refl _)⟩ ?_ ?_ ?_
  ·rintro i σ' H4 _ ⟨v,rfl,_,_,_,k4⟩
   exact SqL.of (k4 _ _ e3 n1 n2 n3)
  ·rintro i y σ' H4 hy ⟨v,rfl,C4,S4,x4,k4⟩
   unfold zct at hy
   rw [ZA0] at hy
   cases q:L[i]? with
   | none=>rw [q] at hy;cases hy
   | some j=>
    rw [q] at hy
    cases hy
    obtain ⟨y,hyj,yt,ya,yb⟩:=hmem j (ZA1 q)
    have fl:=MU.zcp (f:=fun st j=>MU.zat MU.za1 .sum j at_ st) (fun _ _=>MU.zb7 _ _ _ _) (L.take i) st3
    rw [ZBl] at fl
    rw [MU.zfu q]
    have hx4:=MU.zaz x4 hx3
    have hy4:=MU.zaz x4 hyj
    have e4:MU.zat MU.za1 .sum j at_ ((L.take i).foldl (fun st j=>MU.zat MU.za1 .sum j at_ st) st3)=MU.put ((L.take i).foldl (fun st j=>MU.zat MU.za1 .sum j at_ st) st3) (MU.za1 y x) .sum [j,at_]:=MU.zs0 hy4 hx4
    rw [e4]
    generalize (L.take i).foldl (fun st j=>MU.zat MU.za1 .sum j at_ st) st3=st4 at*
    refine ze8 (wd:=.sum) rfl rfl C4 S4.good (fun R z=>zxm rfl rfl z) (.cons hy4 (.cons hx4 .nil)) (.sum y x yt ht) (by lia) fun H5 C5 k5=>⟨_,rfl,C5,S4.put fun w e=>MU.ztc ya xb e,x4.trans (MU.zew _ _ _ _),k4.trans k5⟩
  rintro σ' H4 ⟨v2,rfl,C6,S6,x2,k4⟩
  have hall:L.take (zct L).length=L:=by unfold zct;rw [ZAu];exact ZBi
  rw [hall] at C6 S6 x2
  refine c4 _ _ ?_
  have kC:=(kB.trans (zb2.of s3)).trans k4
  have hx4z:=MU.zaz x2 hx3
  have lenC:(L.foldl (fun st j=>MU.zat MU.za1 .sum j at_ st) st3).rows.length<=st.rows.length+(2+2*n):=by
   have:=MU.zcp (f:=fun st j=>MU.zat MU.za1 .sum j at_ st) (fun _ _=>MU.zb7 _ _ _ _) L st3
   lia
  generalize L.foldl (fun st j=>MU.zat MU.za1 .sum j at_ st) st3=st4z at*
  clear hmem tl e3 n1 n2 n3 C3 hla s3 k4 hall x2 hp c4 N4
  obtain ⟨dx,hp⟩:=C6.ins
  refine ⟨_,rfl,p,dx,_,rfl,hp,zoi (by decide+kernel) (by decide+kernel) (by decide+kernel) (by decide+kernel) (by decide+kernel),_,rfl,p,be,rl,bd,n,Fa,st4z,false,x.b,rfl,C6,h8,fun la H3 hla s3 e3=>?_⟩
  obtain ⟨n1,n2,n3⟩:=C6.apart hla
  have C3:=C6.same s3
  refine ⟨la,rfl,⟨_,SqL.of e3⟩,?_⟩
  have hmem:∀j∈MU.za8 n st4z false x.b,∃y,MU.wat st4z j=some y/\y.tie=false/\y.a<n/\y.b<n:=fun j hj=>by
   obtain ⟨cc,_,hb⟩:=MU.zie hj
   obtain ⟨y,hy,hk⟩:=S6.good.at_ _ _ hb
   obtain ⟨q1,q2,q3⟩:=MU.zde hk
   exact ⟨y,hy,q1,S6.good.lt _ _ hy⟩
  have tl:(MU.za8 n st4z false x.b).length<=n:=MU.zgk
  generalize MU.za8 n st4z false x.b=L at*
  refine zcx (K:=K) (a:=la) (xs:=zct L) (fun i σ' H'=>∃v,σ'=[some (.ref p),some (.int (at_:Int)),some (.int (x.a:Int)),some (.int (x.b:Int)),v]/\Clo C H' p be rl bd n Fa ((L.take i).foldl (fun st j=>MU.zat (MU.zau Fa) .back j at_ st) st4z)/\MU.Sta n Fa ((L.take i).foldl (fun st j=>MU.zat (MU.zau Fa) .back j at_ st) st4z)/\MU.Ext st4z ((L.take i).foldl (fun st j=>MU.zat (MU.zau Fa) .back j at_ st) st4z)/\zb2 p rl bd H3 H') ⟨_,rfl,C3,S6,MU.Ext.refl _,zb2.of (za7.refl _)⟩ ?_ ?_ ?_
  ·rintro i σ' H4 _ ⟨v,rfl,_,_,_,k4⟩
   exact SqL.of (k4 _ _ e3 n1 n2 n3)
  ·rintro i y σ' H4 hy ⟨v,rfl,C4,S4,x4,k4⟩
   unfold zct at hy
   rw [ZA0] at hy
   cases q:L[i]? with
   | none=>rw [q] at hy;cases hy
   | some j=>
    rw [q] at hy
    cases hy
    obtain ⟨y,hyj,yt,ya,yb⟩:=hmem j (ZA1 q)
    have fl:=MU.zcp (f:=fun st j=>MU.zat (MU.zau Fa) .back j at_ st) (fun _ _=>MU.zb7 _ _ _ _) (L.take i) st4z
    rw [ZBl] at fl
    rw [MU.zfu q]
    have hx4:=MU.zaz x4 hx4z
    have hy4:=MU.zaz x4 hyj
    have e4:MU.zat (MU.zau Fa) .back j at_ ((L.take i).foldl (fun st j=>MU.zat (MU.zau Fa) .back j at_ st) st4z)=MU.put ((L.take i).foldl (fun st j=>MU.zat (MU.zau Fa) .back j at_ st) st4z) ((MU.zau Fa) y x) .back [j,at_]:=MU.zs0 hy4 hx4
    rw [e4]
    obtain ⟨yf,hyf⟩:=S4.ends _ _ hy4 yt
    generalize (L.take i).foldl (fun st j=>MU.zat (MU.zau Fa) .back j at_ st) st4z=st4 at*
    refine ze8 (wd:=.back) rfl rfl C4 S4.good (fun R z=>zxm rfl rfl z) (.cons hy4 (.cons hx4 .nil)) (.back y x yf yt ht hyf) (by lia) fun H5 C5 k5=>⟨_,rfl,C5,S4.put fun w e=>MU.zrd ya yb xa xb e,x4.trans (MU.zew _ _ _ _),k4.trans k5⟩
  ·rintro σ' H4 ⟨v,rfl,C4,S4,x4,k4⟩
   have hall:L.take (zct L).length=L:=by unfold zct;rw [ZAu];exact ZBi
   rw [hall,hgoal] at C4 S4
   exact k H4 C4 S4 ((kC.trans (zb2.of s3)).trans k4)
structure zvv (n:Nat) (F:MU.zax) (s0:MU.St) (T:Nat):Prop where
 end_:(MU.run n F s0 T).rows.length<=T\/(MU.run n F s0 T).bar≠none
 first:∀t,t<T->t<(MU.run n F s0 t).rows.length/\(MU.run n F s0 t).bar=none
 few:∀t,t<=T->(MU.run n F s0 t).rows.length<=16000000
def zwg (C:Addr):Sp:=fun vs H Q _=>∃(p be rl bd:Addr) (n:Nat) (F:MU.zax) (s0:MU.St) (T:Nat),vs=[.ref p]/\Clo C H p be rl bd n F s0/\MU.Sta n F s0/\MU.FOk n F ((60:Nat):Int)/\n<=8/\zvv n F s0 T/\
 ∀H',Clo C H' p be rl bd n F (MU.run n F s0 T)->MU.Sta n F (MU.run n F s0 T)->zb2 p rl bd H H'->Q .non H'
theorem zxs:zan ["self","at","what"] ["self"] (zag sC_Closing_draw_all):=scm
theorem ok_drawAll {f C fT fW:Addr} {fd fdT fdW:FuncData} (F:Fun K "draw_all" "Closing.draw_all" sC_Closing_draw_all f fd) (T:zhg K mg C)
 (mT:zks K C "draw_from_tie" fT) (bT:zdd K fdT ["self","at","a","b"] []) (GT:zbb P w K mg base CX0 4 fT fdT ["self","at","a","b"] (zk8 C))
 (mW:zks K C "draw_from_wait" fW) (bW:zdd K fdW ["self","at","a"] []) (GW:zbb P w K mg base CX0 4 fW fdW ["self","at","a"] (zi4 C)):zbb P w K mg base CX0 5 f fd ["self"] (zwg C):=by
 refine F.ok zxs (fun _ _ _ _ h=>?_) fun _ A _ s H _ Q E hr h=>?_
 ·obtain ⟨_,_,_,_,_,_,_,_,rfl,_⟩:=h
  rfl
 ·obtain ⟨p,be,rl,bd,n,Fa,s0,Te,rfl,c,S,hF,h8,hE,k⟩:=h
  have hu:=zfh hr
  refine ⟨_,zaf (za5 1 zxs.nd zae)
   (zad (zr8 PassesOwn.never (PW.pt (zcf (zb8 zhe (pv 1) (zay za9 (by rfl) T.len ZAn (pa1 (zcb (pv 0) rfl)))) (zdg (zb8 zp6 (zcb (pv 0) rfl) zeh))))
    (zaf (za5 2 zxs.nd (ixT (zbm zal (zcb (pv 0) rfl) (pv 1) (fun _ _=>rfl))))
    (zaf (ze3 (zbe (zb8 zbd (zda hu (zcb (pv 0) rfl) (zcg zna (pv 2) zdh (zcy zae)) (fun _ _=>rfl)) (pv 1))
     (zad (zbe (zb8 zbd (ixT (pv 2)) zam)
      (zad (zbj (zca (pv 0) T.cl mT GT hr bT .nil zdp (pa3 (pv 1) (ixT (pv 2)) (ixT (pv 2))))))
      (zad (zbj (zca (pv 0) T.cl mW GW hr bW .nil zdp (pa2 (pv 1) (ixT (pv 2)))))))) zap))
    (zad (zpr (i:=1) zxs.nd rfl (Or.inl rfl) zae zqm)))))),?_⟩
  refine fun N1 c1=>c1 _ _ ?_
  refine ⟨fun m σ' H'=>∃t v,t+m=Te/\σ'=[some (.ref p),some (.int (t:Int)),v]/\Clo C H' p be rl bd n Fa (MU.run n Fa s0 t)/\MU.Sta n Fa (MU.run n Fa s0 t)/\zb2 p rl bd H H',⟨Te,0,none,by lia,rfl,c,S,zb2.of (za7.refl _)⟩,?_⟩
  rintro m σ' H1 ⟨t,v,htm,rfl,C1,S1,k1⟩
  obtain ⟨dx,hp⟩:=C1.ins
  obtain ⟨qs,hrl,hrows⟩:=C1.rows
  obtain ⟨kvs,hbd,hkl,hkv⟩:=C1.best
  have hql:qs.length=(MU.run n Fa s0 t).rows.length:=Paired.length hrows
  refine ⟨_,rfl,_,rfl,p,C,dx,_,_,rfl,hp,T.cl,T.nR,zgo,rl,_,rfl,.inl (SqL.of hrl),_,_,rfl,rfl,_,rfl,?_⟩
  rw [ZAu,hql]
  have ending:∀b,(MU.run n Fa s0 t).rows.length<=t\/(MU.run n Fa s0 t).bar≠none->b=false->if b=true then (∃N:L2.St->Hp->Prop,(∀σ' H',N σ' H'->∃m',m'<m/\∃t v,t+m'=Te/\σ'=[some (.ref p),some (.int (t:Int)),v]/\Clo C H' p be rl bd n Fa (MU.run n Fa s0 t)/\MU.Sta n Fa (MU.run n Fa s0 t)/\zb2 p rl bd H H')/\False) else Q .non H1:=fun b hst hb=>by
   have e:t=Te:=ZAz fun z=>by
    have:=hE.first t (by lia)
    rcases hst with y | y
    ·lia
    ·exact y this.2
   rw [if_neg (by rw [hb];decide)]
   rw [e] at C1 S1
   exact k H1 C1 S1 k1
  by_cases hlt:t<(MU.run n Fa s0 t).rows.length
  ·refine zf9 (by lia) ⟨_,rfl,p,C,dx,_,_,rfl,hp,T.cl,T.nX,zs3,rfl,_,rfl,?_⟩
   rw [zrc]
   by_cases hb:(MU.run n Fa s0 t).bar=none
   ·refine zf9 hb ?_
    have htT:t<Te:=ZAz fun z=>by
     have e:t=Te:=by lia
     rcases hE.end_ with y | y
     ·rw [<-e] at y;lia
     ·rw [<-e] at y;exact y hb
    refine ⟨fun σ' H'=>∃m',m'<m/\∃t v,t+m'=Te/\σ'=[some (.ref p),some (.int (t:Int)),v]/\Clo C H' p be rl bd n Fa (MU.run n Fa s0 t)/\MU.Sta n Fa (MU.run n Fa s0 t)/\zb2 p rl bd H H',fun σ' H' z=>z,?_⟩
    obtain ⟨x,hx⟩:∃x,MU.wat (MU.run n Fa s0 t) t=some x:=⟨_,by unfold MU.wat;rw [ZAx hlt];rfl⟩
    obtain ⟨q',r,pw,pu,g1,g2,g3,g4,g5,g6⟩:=zjz hrows hx
    have hat:atI (qs.map V.ref) (t:Int)=some (.ref q'):=zbv (by rw [ZA0,g1];rfl)
    refine fun N2 c2=>⟨_,rfl,p,C,dx,_,_,rfl,hp,T.cl,T.nR,zgo,zoo rfl hrl hat (rdT g4 rfl (c2 _ _ ?_))⟩
    clear c2 N2
    refine fun N3 c3=>⟨fun σ' H'=>σ'=[some (.ref p),some (.int (t:Int)),some (.ref pw)]/\Clo C H' p be rl bd n Fa (MU.run n Fa s0 (t+1))/\MU.Sta n Fa (MU.run n Fa s0 (t+1))/\zb2 p rl bd H1 H',?_,?_⟩
    ·refine ⟨_,rfl,p,C,dx,_,_,rfl,hp,T.cl,T.nE,zf3,_,rfl,_,rfl,pw,_,rfl,SqT.of g5,zqa,fun kt hkt=>?_⟩
     rw [zy4]
     have s3:=zab (o:=.tup ((zdb x.key).map kV)) hkt
     have e3:upd H1 kt (.tup ((zdb x.key).map kV)) kt=some (.tup ((zdb x.key).map kV)):=zaa
     generalize upd H1 kt (.tup ((zdb x.key).map kV))=H3 at*
     obtain ⟨j,hj,hbj⟩:=S1.good.top t x hx
     have dg:=ze5.t (k:=zdb x.key) (s3 _ _ hbd) e3
     rw [hkv,hbj] at dg
     have C3:=C1.same s3
     have few:=hE.few t (by lia)
     have hl:MU.run n Fa s0 (t+1)=MU.look n Fa t (MU.run n Fa s0 t):=rfl
     refine ⟨bd,_,rfl,dg,_,rfl,rfl,_,rfl,?_⟩
     rw [zia]
     by_cases e:j=t
     ·rw [e] at hbj
      refine zf9 e ⟨_,rfl,rdT (s3 _ _ g5) rfl ⟨rfl,_,rfl,?_⟩⟩
      rw [zhr]
      cases ht:x.tie with
      | true=>
       have el:=MU.zkd (n:=n) (F:=Fa) hx ht rfl rfl (by rw [<-hbj];unfold MU.zar.key;rw [ht])
       rw [hl,el]
       refine zhb ⟨_,rfl,p,dx,_,rfl,s3 _ _ hp,zoi (by decide+kernel) (by decide+kernel) (by decide+kernel) (by decide+kernel) (by decide+kernel),_,rfl,_,rfl,rdT (s3 _ _ g5) rfl ⟨_,rfl,rdT (s3 _ _ g5) rfl ?_⟩⟩
       exact ⟨p,be,rl,bd,n,Fa,_,t,x,rfl,C3,S1,hF,hx,ht,h8,few,fun H4 C4 S4 k4=>⟨rfl,C4,S4,(zb2.of s3).trans k4⟩⟩
      | false=>
       have el:=MU.zlh (n:=n) (F:=Fa) hx ht hbj
       rw [hl,el]
       refine zef ⟨_,rfl,p,dx,_,rfl,s3 _ _ hp,zoi (by decide+kernel) (by decide+kernel) (by decide+kernel) (by decide+kernel) (by decide+kernel),_,rfl,_,rfl,rdT (s3 _ _ g5) rfl ?_⟩
       exact ⟨p,be,rl,bd,n,Fa,_,t,x,rfl,C3,S1,hF,hx,ht,h8,few,fun H4 C4 S4 k4=>⟨rfl,C4,S4,(zb2.of s3).trans k4⟩⟩
     ·have el:=MU.zli (n:=n) (F:=Fa) hx (by rw [hbj];exact fun z=>e (ZA7 z))
      rw [hl,el]
      exact zd6 e ⟨rfl,C3,S1,zb2.of s3⟩
    ·rintro σ' H4 ⟨rfl,C4,S4,k4⟩
     refine c3 _ _ ⟨_,rfl,_,_,rfl,rfl,m-1,by lia,t+1,some (.ref pw),by lia,?_,C4,S4,k1.trans k4⟩
     show [some (V.ref p),some (V.int ((t:Int)+1)),some (V.ref pw)]=[some (V.ref p),some (V.int ((t+1:Nat):Int)),some (V.ref pw)]
     rfl
   ·have:=ending false (.inr hb) rfl
    exact zd6 hb this
  ·have:=ending false (.inl (by lia)) rfl
   exact zd6 (by lia) (zef this)
end Y0
namespace MU
def empty:St:=⟨[],fun _=>none,none⟩
def zgc (rows:List zar) (st:St):St:=rows.foldl (fun st w=>take st w .told []) st
variable {n:Nat} {F:zax} {st:St}
theorem zg0:zee n empty:=by
 have nw:∀i w,wat empty i≠some w:=fun i w h=>by
  unfold wat empty at h
  simp at h
 exact ⟨fun k i h=>(nomatch h),fun i w h=>absurd h (nw i w),fun i w h=>absurd h (nw i w),fun _ i w h=>absurd h (nw i w),fun _ i j w w' h=>absurd h (nw i w)⟩
def zzk (n:Nat) (w:zar):Prop:=w.a<n/\w.b<n/\w.tie=true
theorem zfn:∀(rows:List zar) (st:St),zee n st->(∀w∈rows,zzk n w)->zee n (zgc rows st)
 | [],_,g,_=>g
 | w::r,st,g,h=>zfn r _ (zk4 g (h w ZA5).1 (h w ZA5).2.1 fun z=>by rw [(h w ZA5).2.2] at z;cases z) fun w' hw'=>h w' (ZA4 _ hw')
theorem zk2:∀(rows:List zar) (st:St),Imp st (zgc rows st)
 | [],st=>Imp.refl st
 | w::r,st=>(zm4 st w _ _).trans (zk2 r _)
theorem zh1:∀(rows:List zar) (st:St),(zgc rows st).rows.length<=st.rows.length+rows.length
 | [],st=>ZAw _
 | w::r,st=>by
  have h1:=zh1 r (take st w .told [])
  have h2:=zb7 st (some w) .told []
  have h2:(take st w .told []).rows.length<=st.rows.length+1:=h2
  rw [ZBp]
  show (zgc r (take st w .told [])).rows.length<=_
  lia
theorem zgu:∀(rows:List zar) (st:St),(∀i w,wat st i=some w->w.tie=true)->(∀w∈rows,zzk n w)->∀i w,wat (zgc rows st) i=some w->w.tie=true
 | [],_,h,_=>h
 | w::r,st,h,hw=>zgu r _ (fun i u hu=>by
  by_cases hi:i<st.rows.length
  ·exact h i u (zhj (zhl _ _ _ _) hi hu)
  ·exact zm5 (C:=fun u=>u.tie=true) (hw w ZA5).2.2 i u (by lia) hu) fun w' hw'=>hw w' (ZA4 _ hw')
theorem zf4:∀(rows:List zar) (st:St) (w:zar),w∈rows->w.a≠w.b->∃u,val (zgc rows st) w.key=some u/\¬zbo w.tie w.v u
 | [],_,w,h,_=>nomatch h
 | x::r,st,w,h,hne=>by
  rcases ZBe.mp h with e | h
  ·subst e
   obtain ⟨u,hu,nu⟩:=zgv (st:=st) (w:=w) (word:=.told) (used:=[]) hne
   obtain ⟨u',hu',nu'⟩:=(zk2 r (take st w .told [])).2 w.key u hne hu
   exact ⟨u',hu',zgg nu nu'⟩
  ·exact zf4 r _ w h hne
theorem zjl:∀i w,wat empty i=some w->w.tie=true:=fun i w h=>by
 unfold wat empty at h
 simp at h
theorem zu8 (g:zee n st) (h:∀i w,wat st i=some w->w.tie=true) (a b:Nat):val st (false,a,b)=none:=by
 unfold val
 cases q:st.best (false,a,b) with
 | none=>rfl
 | some i=>
  obtain ⟨w,hw,hk⟩:=g.at_ _ _ q
  have:=h i w hw
  have e:=(zde hk).1
  rw [this] at e
  cases e
end MU
namespace Y0
open PySem L2
seal L2.PE L2.PA L2.PT L2.PS L2.PSs L2.PG L2.PGs L2.PI L2.PO
def zk1:List Int->MU.zar
 | [a,b,v]=>⟨true,a.toNat,b.toNat,v⟩
 | _=>⟨true,0,0,0⟩
def zxv (n:Int) (rows:List (List Int)):Prop:=∀r∈rows,∃a b v:Int,r=[a,b,v]/\0<=a/\a<n/\0<=b/\b<n/\a≠b
theorem zlc {la:Int}:∀{k:Nat} {n:Int},(k:Int)+1<=n->zxv n (zev la k)
 | 0,_,_=>fun r hr=>nomatch hr
 | k+1,n,h=>fun r hr=>by
  unfold zev at hr
  rcases ZBo.mp hr with hr | hr
  ·exact zlc (k:=k) (by lia) r hr
  ·rcases ZBe.mp hr with rfl | hr
   ·exact ⟨0,(k:Int)+1,la,rfl,by lia,by lia,by lia,by lia,by lia⟩
   ·rw [ZBd.mp hr]
    exact ⟨(k:Int)+1,0,0,rfl,by lia,by lia,by lia,by lia,by lia⟩
theorem zk7 {n:Int} {rows:List (List Int)} (h:∀r∈rows,∃a b l m:Int,r=[a,b,l,m]/\0<=a/\a<n/\0<=b/\b<n/\a≠b):zxv n (zeu rows):=fun r hr=>by
 unfold zeu at hr
 obtain ⟨x,hx,hrx⟩:=List.mem_flatten.mp hr
 obtain ⟨y,hy,rfl⟩:=ZBr.mp hx
 obtain ⟨a,b,l,m,rfl,h1,h2,h3,h4,h5⟩:=h y hy
 rcases ZBe.mp hrx with rfl | hrx
 ·exact ⟨a,b,m,rfl,h1,h2,h3,h4,h5⟩
 ·rw [ZBd.mp hrx]
  exact ⟨b,a,-l,rfl,h3,h4,h1,h2,ZAl h5⟩
theorem zc0.idxN {n la:Int} {T F:List (List Int)} (h:zc0 n la T F):zxv n (zek n la T F):=fun r hr=>by
 unfold zek at hr
 have n1:=h.n1
 rcases ZBo.mp hr with hr | hr
 ·rcases ZBo.mp hr with hr | hr
  ·exact zlc (by lia) r hr
  ·exact zk7 (fun r hr=>by obtain ⟨a,b,l,m,e,x1,x2,x3,x4,x5,_⟩:=h.t r hr;exact ⟨a,b,l,m,e,x1,x2,x3,x4,x5⟩) r hr
 ·exact zk7 (fun r hr=>by obtain ⟨a,b,l,m,e,x1,x2,x3,x4,x5,_⟩:=h.f r hr;exact ⟨a,b,l,m,e,x1,x2,by lia,x4,x5⟩) r hr
theorem zjo {n la:Int} {T F:List (List Int)} (h:zc0 n la T F):(zek n la T F).length<=100:=by
 unfold zek
 rw [ZA3,ZA3,zcu,zcl h.fourT,zcl h.fourF]
 have:=h.tl
 have:=h.fl
 have:=h.n2
 lia
def zio (n la:Int) (T F:List (List Int)):MU.St:=MU.zgc ((zek n la T F).map zk1) MU.empty
theorem zo0 {n:Nat} {rows:List (List Int)} (h:zxv (n:Int) rows):∀w∈rows.map zk1,MU.zzk n w:=fun w hw=>by
 obtain ⟨r,hr,rfl⟩:=ZBr.mp hw
 obtain ⟨a,b,v,rfl,h1,h2,h3,h4,_⟩:=h r hr
 exact ⟨by show a.toNat<n;lia,by show b.toNat<n;lia,rfl⟩
theorem zrb {n:Nat} {la:Int} {T F:List (List Int)} (h:zc0 (n:Int) la T F):MU.Sta n (zak F) (zio n la T F):=by
 have g:=MU.zfn ((zek (n:Int) la T F).map zk1) MU.empty MU.zg0 (zo0 h.idxN)
 refine ⟨g,fun i w hw ht=>?_⟩
 have:=MU.zgu (n:=n) _ _ MU.zjl (zo0 h.idxN) i w hw
 rw [ht] at this
 cases this
theorem znc {la:Int} {i:Nat}:∀{k:Nat},i<k->[0,(i:Int)+1,la]∈zev la k/\[(i:Int)+1,0,0]∈zev la k
 | 0,h=>absurd h (ZB6 _)
 | k+1,h=>by
  unfold zev
  by_cases e:i=k
  ·subst e
   exact ⟨ZBn _ ZA5,ZBn _ (ZA4 _ ZA5)⟩
  ·obtain ⟨h1,h2⟩:=znc (la:=la) (i:=i) (k:=k) (by lia)
   exact ⟨ZAb _ h1,ZAb _ h2⟩
theorem zok {n:Nat} {la:Int} {T F:List (List Int)} (h:zc0 (n:Int) la T F) (hla:la<=20):∃Te,zvv n (zak F) (zio n la T F) Te:=by
 have g:=MU.zfn ((zek (n:Int) la T F).map zk1) MU.empty MU.zg0 (zo0 h.idxN)
 have ties:=MU.zgu (n:=n) _ _ MU.zjl (zo0 h.idxN)
 have n1:=h.n1
 have n2:=h.n2
 have hl:=MU.zh1 ((zek (n:Int) la T F).map zk1) MU.empty
 have hs:=zjo h
 rw [ZAu] at hl
 have hl:(zio n la T F).rows.length<=0+(zek (n:Int) la T F).length:=hl
 have told:∀i,0<i->i<n->(∃v,v<=((20:Nat):Int)/\MU.val (zio n la T F) (true,0,i)=some v)/\∃v,v<=0/\MU.val (zio n la T F) (true,i,0)=some v:=fun i h1 h2=>by
  have hk:i-1<((n:Int)-1).toNat:=by lia
  obtain ⟨m1,m2⟩:=znc (la:=la) hk
  have ei:((i-1:Nat):Int)+1=(i:Int):=by lia
  rw [ei] at m1 m2
  have in1:(⟨true,0,i,la⟩:MU.zar)∈(zek (n:Int) la T F).map zk1:=ZBr.mpr ⟨_,ZAb _ (ZAb _ m1),rfl⟩
  have in2:(⟨true,i,0,0⟩:MU.zar)∈(zek (n:Int) la T F).map zk1:=ZBr.mpr ⟨_,ZAb _ (ZAb _ m2),rfl⟩
  obtain ⟨u1,v1,w1⟩:=MU.zf4 _ MU.empty _ in1 (by show 0≠i;lia)
  obtain ⟨u2,v2,w2⟩:=MU.zf4 _ MU.empty _ in2 (by show i≠0;lia)
  unfold MU.zbo at w1 w2
  simp at w1 w2
  exact ⟨⟨u1,by lia,v1⟩,⟨u2,w2,v2⟩⟩
 obtain ⟨Te,e1,e2,e3⟩:=MU.zml (n:=n) (F:=zak F) (s0:=zio n la T F) (by lia) h.fok g told (MU.zu8 g ties) (by lia)
 exact ⟨Te,e1,e2,e3⟩
def zpg (C CW:Addr):Sp:=fun vs H Q _=>∃(p wb dx:Addr) (n:Nat) (la:Int) (T F:List (List Int)),vs=[.ref p,.ref wb]/\H p=some (.ins C dx [])/\ze1 CW H wb (n:Int) la T F/\zc0 (n:Int) la T F/\
 ∀H' be rl bd,Clo C H' p be rl bd n (zak F) (zio n la T F)->H be=none->H rl=none->H bd=none->zcd p H H'->Q .non H'
abbrev nCi:List Str:=["self","web","a","b","most"]
theorem zxr:zan nCi ["self","web"] (zag sC_Closing_init):=scm
theorem km1:¬(("many":Str)="by_end"):=by decide+kernel
theorem km2:¬(("many":Str)="rows"):=by decide+kernel
theorem km3:¬(("by_end":Str)="rows"):=by decide+kernel
theorem km4:¬(("many":Str)="best"):=by decide+kernel
theorem km5:¬(("by_end":Str)="best"):=by decide+kernel
theorem km6:¬(("rows":Str)="best"):=by decide+kernel
theorem km7:¬(("many":Str)="bar"):=by decide+kernel
theorem km8:¬(("by_end":Str)="bar"):=by decide+kernel
theorem km9:¬(("rows":Str)="bar"):=by decide+kernel
theorem km0:¬(("best":Str)="bar"):=by decide+kernel
theorem zzf {n:Nat} {be rl bd:Addr} {v:V}:zbq "bar" v (zbq "best" (.ref bd) (zbq "rows" (.ref rl) (zbq "by_end" (.ref be) (zbq "many" (.int (n:Int)) []))))=zea n be rl bd v:=by
 have s1:zbq "by_end" (V.ref be) [(("many":Str),V.int (n:Int))]=[(("many":Str),V.int (n:Int)),("by_end",.ref be)]:=by rw [zbr km1];rfl
 have s2:zbq "rows" (V.ref rl) [(("many":Str),V.int (n:Int)),("by_end",.ref be)]=[(("many":Str),V.int (n:Int)),("by_end",.ref be),("rows",.ref rl)]:=by rw [zbr km2,zbr km3];rfl
 have s3:zbq "best" (V.ref bd) [(("many":Str),V.int (n:Int)),("by_end",.ref be),("rows",.ref rl)]=[(("many":Str),V.int (n:Int)),("by_end",.ref be),("rows",.ref rl),("best",.ref bd)]:=by rw [zbr km4,zbr km5,zbr km6];rfl
 have s4:zbq "bar" v [(("many":Str),V.int (n:Int)),("by_end",.ref be),("rows",.ref rl),("best",.ref bd)]=zea n be rl bd v:=by rw [zbr km7,zbr km8,zbr km9,zbr km0];rfl
 show zbq "bar" v (zbq "best" (.ref bd) (zbq "rows" (.ref rl) (zbq "by_end" (.ref be) [(("many":Str),V.int (n:Int))])))=_
 rw [s1,s2,s3,s4]
theorem ok_cinit {f C CW fT fE fB:Addr} {fd fdT fdE fdB:FuncData} (F:Fun K "__init__" "Closing.__init__" sC_Closing_init f fd) (T:zhg K mg C) (TC:zrk K mg CW)
 (mT:zks K C "take" fT) (bT:zdd K fdT ["self","what","word","used"] []) (GT:zbb P w K mg base CX0 2 fT fdT ["self","what","word","used"] (zo6 C))
 (FE:Fn K mg "falls_by_end" sP_falls_by_end ["web"] fE fdE) (GE:zbb P w K mg base CX0 2 fE fdE ["web"] (zl6 CW))
 (FB:Fn K mg "told_bounds" sP_told_bounds ["web"] fB fdB) (GB:zbb P w K mg base CX0 3 fB fdB ["web"] (zo5 CW)):zbb P w K mg base CX0 4 f fd ["self","web"] (zpg C CW):=by
 refine F.ok zxr (fun _ _ _ _ h=>?_) fun _ A _ s H _ Q E hr h=>?_
 ·obtain ⟨_,_,_,_,_,_,_,rfl,_⟩:=h
  rfl
 ·obtain ⟨p,wb,dx,n,la,rT,rF,rfl,hp,W0,hok,k⟩:=h
  have hr2:zel 2 _:=hr.mono (by decide)
  have hr3:zel 3 _:=hr
  refine ⟨_,zaf (zf2 (pv 0) (zcb (pv 1) rfl) rfl)
   (zaf (zf2 (pv 0) (pcl GE hr2 FE (pa1 (pv 1))) rfl)
   (zaf (zf2 (pv 0) (zcq zdq) rfl)
   (zaf (zf2 (pv 0) zsc rfl)
   (zaf (zf2 (pv 0) zeh rfl)
   (zad (zc9 PassesOwn.never rfl (zbt (pcl GB hr3 FB (pa1 (pv 1))))
    (zjc rfl (za0 (zcw 2 zxr.nd) (za0 (zcw 3 zxr.nd) (za0 (zcw 4 zxr.nd) zfb))))
    (zad (zbj (zca (pv 0) T.cl mT GT hr2 bT .nil zdp (pa3 (zaw (pa4 zam (pv 2) (pv 3) (pv 4))) zam (zaw zdq))))))))))),?_⟩
  obtain ⟨wdx,wta,wfa,hwb,wr1,wr2⟩:=id W0
  have pw:p≠wb:=fun z=>by
   rw [z,hwb] at hp
   have:=HO.ins.inj (ZA7 hp)
   exact absurd this.2.2 (fun z=>by unfold zgt zbq at z;cases z)
  refine fun N1 c1=>⟨_,rfl,wb,CW,wdx,_,_,rfl,hwb,TC.cl,TC.nM,zta _ _ _ _,_,rfl,p,C,dx,_,rfl,hp,T.cl,T.nM,by show 0<1000;decide,c1 _ _ ?_⟩
  have kp:∀{Hx:Hp} {fs:List (Str×V)} {o:HO},Hx p=some (.ins C dx fs)->zcd p Hx (upd Hx p o):=fun {Hx fs o} e b o' e' ne=>by rw [zai ne];exact e'
  have k1:zcd p H (upd H p (.ins C dx (zbq "many" (.int (n:Int)) []))):=kp hp
  have p1:upd H p (.ins C dx (zbq "many" (.int (n:Int)) [])) p=some (.ins C dx (zbq "many" (.int (n:Int)) [])):=zaa
  generalize upd H p (.ins C dx (zbq "many" (.int (n:Int)) []))=H1 at*
  clear c1 N1
  have W1:ze1 CW H1 wb (n:Int) la rT rF:=⟨wdx,wta,wfa,k1 _ _ hwb (ZAl pw),by
   obtain ⟨ps,R⟩:=wr1
   exact ⟨ps,k1 _ _ R.1 (zba R.1 hp nofun),zaj R.2 fun _ _ e=>k1 _ _ e (zba e hp nofun)⟩,by
   obtain ⟨ps,R⟩:=wr2
   exact ⟨ps,k1 _ _ R.1 (zba R.1 hp nofun),zaj R.2 fun _ _ e=>k1 _ _ e (zba e hp nofun)⟩⟩
  refine fun N2 c2=>⟨_,rfl,wb,(n:Int),la,rT,rF,rfl,W1,hok,fun be H2 hbe s2 FA2=>⟨_,rfl,p,C,dx,_,rfl,s2 _ _ p1,T.cl,T.nB,by show 1<1000;decide,c2 _ _ ?_⟩⟩
  have k2:zcd p H2 (upd H2 p (.ins C dx (zbq "by_end" (.ref be) (zbq "many" (.int (n:Int)) [])))):=kp (s2 _ _ p1)
  have p2:upd H2 p (.ins C dx (zbq "by_end" (.ref be) (zbq "many" (.int (n:Int)) []))) p=some (.ins C dx (zbq "by_end" (.ref be) (zbq "many" (.int (n:Int)) []))):=zaa
  have p2':=s2 _ _ p1
  have FA3:zc1 (upd H2 p (.ins C dx (zbq "by_end" (.ref be) (zbq "many" (.int (n:Int)) [])))) be (zak rF):=by
   obtain ⟨fkv,f1,f2,f3,f4⟩:=FA2.at_
   refine ⟨fkv,k2 _ _ f1 (zba f1 p2' nofun),f2,f3,fun e f hf=>?_⟩
   obtain ⟨pp,q1,q2⟩:=f4 e f hf
   exact ⟨pp,q1,k2 _ _ q2 (zba q2 p2' nofun)⟩
  generalize upd H2 p (.ins C dx (zbq "by_end" (.ref be) (zbq "many" (.int (n:Int)) [])))=H3 at*
  clear c2 N2
  have K3:zcd p H H3:=fun b o e ne=>k2 _ _ (s2 _ _ (k1 _ _ e ne)) ne
  have free:∀{Hx:Hp} {b:Addr},zcd p H Hx->Hx b=none->b≠p->H b=none:=fun {Hx b} kk e ne=>by
   cases q:H b with
   | none=>rfl
   | some o=>rw [kk _ _ q ne] at e;cases e
  have beH:H be=none:=free k1 hbe (ZAl (zac p1 hbe))
  refine fun N3 c3=>⟨ZBa _,fun rl hrl=>⟨_,rfl,p,C,dx,_,rfl,zab hrl _ _ p2,T.cl,T.nR,by show 2<1000;decide,c3 _ _ ?_⟩⟩
  have s4:=zab (o:=.lst []) hrl
  have r4:upd H3 rl (.lst []) rl=some (.lst []):=zaa
  have FA4:=FA3.same s4
  have p4:=s4 _ _ p2
  generalize upd H3 rl (.lst [])=H4 at*
  have prl:p≠rl:=zac p2 hrl
  have rlH:H rl=none:=free K3 hrl (ZAl prl)
  have k5:zcd p H4 (upd H4 p (.ins C dx (zbq "rows" (.ref rl) (zbq "by_end" (.ref be) (zbq "many" (.int (n:Int)) []))))):=kp p4
  have p5:upd H4 p (.ins C dx (zbq "rows" (.ref rl) (zbq "by_end" (.ref be) (zbq "many" (.int (n:Int)) [])))) p=some (.ins C dx (zbq "rows" (.ref rl) (zbq "by_end" (.ref be) (zbq "many" (.int (n:Int)) [])))):=zaa
  have r5:=k5 _ _ r4 (ZAl prl)
  generalize upd H4 p (.ins C dx (zbq "rows" (.ref rl) (zbq "by_end" (.ref be) (zbq "many" (.int (n:Int)) []))))=H5 at*
  clear c3 N3
  have K5:zcd p H H5:=fun b o e ne=>k5 _ _ (s4 _ _ (K3 _ _ e ne)) ne
  refine fun N4 c4 bd hbd=>⟨_,rfl,p,C,dx,_,rfl,zab hbd _ _ p5,T.cl,T.nE,by show 3<1000;decide,c4 _ _ ?_⟩
  have s6:=zab (o:=.dT []) hbd
  have b6:upd H5 bd (.dT []) bd=some (.dT []):=zaa
  have p6:=s6 _ _ p5
  have r6:=s6 _ _ r5
  generalize upd H5 bd (.dT [])=H6 at*
  have pbd:p≠bd:=zac p5 hbd
  have bdH:H bd=none:=free K5 hbd (ZAl pbd)
  have k7:zcd p H6 (upd H6 p (.ins C dx (zbq "best" (.ref bd) (zbq "rows" (.ref rl) (zbq "by_end" (.ref be) (zbq "many" (.int (n:Int)) [])))))):=kp p6
  have p7:upd H6 p (.ins C dx (zbq "best" (.ref bd) (zbq "rows" (.ref rl) (zbq "by_end" (.ref be) (zbq "many" (.int (n:Int)) []))))) p=some (.ins C dx (zbq "best" (.ref bd) (zbq "rows" (.ref rl) (zbq "by_end" (.ref be) (zbq "many" (.int (n:Int)) []))))):=zaa
  have r7:=k7 _ _ r6 (ZAl prl)
  have b7:=k7 _ _ b6 (ZAl pbd)
  generalize upd H6 p (.ins C dx (zbq "best" (.ref bd) (zbq "rows" (.ref rl) (zbq "by_end" (.ref be) (zbq "many" (.int (n:Int)) [])))))=H7 at*
  clear c4 N4
  refine fun N5 c5=>⟨_,rfl,p,C,dx,_,rfl,p7,T.cl,T.nX,by show 4<1000;decide,c5 _ _ ?_⟩
  rw [zzf]
  have k8:zcd p H7 (upd H7 p (.ins C dx (zea n be rl bd .non))):=kp p7
  have p8:upd H7 p (.ins C dx (zea n be rl bd .non)) p=some (.ins C dx (zea n be rl bd .non)):=zaa
  have r8:=k8 _ _ r7 (ZAl prl)
  have b8:=k8 _ _ b7 (ZAl pbd)
  generalize upd H7 p (.ins C dx (zea n be rl bd .non))=H8 at*
  clear c5 N5
  have k38:zcd p H4 H8:=fun b o e ne=>k8 _ _ (k7 _ _ (s6 _ _ (k5 _ _ e ne)) ne) ne
  have K8:zcd p H H8:=fun b o e ne=>k38 _ _ (s4 _ _ (K3 _ _ e ne)) ne
  have FA8:zc1 H8 be (zak rF):=by
   obtain ⟨fkv,f1,f2,f3,f4⟩:=FA4.at_
   refine ⟨fkv,k38 _ _ f1 (zba f1 p4 nofun),f2,f3,fun e f hf=>?_⟩
   obtain ⟨pp,q1,q2⟩:=f4 e f hf
   exact ⟨pp,q1,k38 _ _ q2 (zba q2 p4 nofun)⟩
  have C8:Clo C H8 p be rl bd n (zak rF) MU.empty:=⟨⟨dx,p8⟩,FA8,⟨[],r8,.nil⟩,⟨[],b8,⟨ZAw _,fun _ z=>nomatch z⟩,fun k=>rfl⟩⟩
  have W8:ze1 CW H8 wb (n:Int) la rT rF:=⟨wdx,wta,wfa,K8 _ _ hwb (ZAl pw),by
   obtain ⟨ps,R⟩:=wr1
   exact ⟨ps,K8 _ _ R.1 (zba R.1 hp nofun),zaj R.2 fun _ _ e=>K8 _ _ e (zba e hp nofun)⟩,by
   obtain ⟨ps,R⟩:=wr2
   exact ⟨ps,K8 _ _ R.1 (zba R.1 hp nofun),zaj R.2 fun _ _ e=>K8 _ _ e (zba e hp nofun)⟩⟩
  refine ⟨_,rfl,wb,(n:Int),la,rT,rF,rfl,W8,hok,fun l H9 hl s9 R9=>?_⟩
  obtain ⟨qs,R⟩:=R9
  have C9:=C8.same s9
  obtain ⟨n1,n2,n3⟩:=C8.apart hl
  have idx:=hok.idxN
  have sh:=zjo hok
  refine ⟨l,rfl,⟨_,SqL.of R.1⟩,?_⟩
  have stays:∀{H':Hp},zb2 p rl bd H9 H'->H' l=some (.lst (qs.map V.ref)):=fun kk=>kk _ _ R.1 n1 n2 n3
  obtain ⟨dx9,p9⟩:=C9.ins
  obtain ⟨q9,r9,_⟩:=C9.rows
  obtain ⟨kv9,b9,_⟩:=C9.best
  have tups:∀{H':Hp} {b:Addr} {xs:List V},zb2 p rl bd H9 H'->H9 b=some (.tup xs)->H' b=some (.tup xs):=fun kk e=>kk _ _ e (zba e p9 nofun) (zba e r9 nofun) (zba e b9 nofun)
  generalize hB:zek (n:Int) la rT rF=B at*
  refine zcx (K:=K) (a:=l) (xs:=qs.map V.ref) (fun i σ' H'=>∃v2 v3 v4,σ'=[some (.ref p),some (.ref wb),v2,v3,v4]/\Clo C H' p be rl bd n (zak rF) (MU.zgc ((B.take i).map zk1) MU.empty)/\zb2 p rl bd H9 H') ⟨none,none,none,rfl,C9,zb2.of (za7.refl _)⟩ ?_ ?_ ?_
  ·rintro i σ' H' _ ⟨v2,v3,v4,rfl,_,kk⟩
   exact SqL.of (stays kk)
  ·rintro i y σ' H10 hy ⟨v2,v3,v4,rfl,C10,kk⟩
   obtain ⟨q,r,rfl,hq,hr',hqt⟩:=R.get hy
   obtain ⟨a,b,v,rfl,x1,x2,x3,x4,x5⟩:=idx r (ZA1 hr')
   have hi:i<B.length:=(ZAv.mp hr').1
   refine ⟨q,_,rfl,SqT.of (tups kk hqt),rfl,_,_,rfl,_,_,rfl,_,_,rfl,rfl,?_⟩
   obtain ⟨dx10,p10⟩:=C10.ins
   have gi:=MU.zfn ((B.take i).map zk1) MU.empty (MU.zg0 (n:=n)) (zo0 fun r hr=>idx r (List.mem_of_mem_take hr))
   have li:=MU.zh1 ((B.take i).map zk1) MU.empty
   rw [ZAu,ZBl] at li
   have li:(MU.zgc ((B.take i).map zk1) MU.empty).rows.length<=0+min i B.length:=li
   have et:MU.zgc ((B.take (i+1)).map zk1) MU.empty=MU.take (MU.zgc ((B.take i).map zk1) MU.empty) (zk1 [a,b,v]) .told []:=by
    unfold MU.zgc
    rw [ZBu,hr',ZA9,List.foldl_append]
    rfl
   rw [et]
   generalize MU.zgc ((B.take i).map zk1) MU.empty=sti at*
   refine ⟨_,rfl,p,dx10,_,rfl,p10,zoi (by decide+kernel) (by decide+kernel) (by decide+kernel) (by decide+kernel) (by decide+kernel),_,rfl,_,rfl,_,rfl,szl rfl,fun t ht=>⟨ZBa _,fun u hu'=>?_⟩⟩
   have s11:=zab (o:=.tup [V.str "tie",V.int a,V.int b,V.int v]) ht
   have w11:za4 (upd H10 t (.tup [V.str "tie",V.int a,V.int b,V.int v])) t (zk1 [a,b,v]):=by
    unfold za4
    rw [zaa]
    show some (HO.tup [V.str "tie",V.int a,V.int b,V.int v])=some (HO.tup [V.str "tie",V.int ((a.toNat:Nat):Int),V.int ((b.toNat:Nat):Int),V.int v])
    rw [show ((a.toNat:Nat):Int)=a by lia,show ((b.toNat:Nat):Int)=b by lia]
   generalize upd H10 t (.tup [V.str "tie",V.int a,V.int b,V.int v])=H11 at*
   have s12:=zab (o:=.tup []) hu'
   refine ⟨p,be,rl,bd,t,u,n,_,_,zk1 [a,b,v],.told,[],rfl,(C10.same s11).same s12,gi,w11.same s12,zaa,by lia,fun H13 C13 k13=>⟨_,_,_,rfl,C13,?_⟩⟩
   exact (kk.trans (zb2.of (s11.trans s12))).trans k13
  ·rintro σ' H10 ⟨v2,v3,v4,rfl,C10,kk⟩
   have hall:B.take (qs.map V.ref).length=B:=by rw [ZAu,R.len];exact ZBi
   rw [hall] at C10
   refine k H10 be rl bd ?_ beH rlH bdH fun b o e ne=>kk _ _ (s9 _ _ (K8 _ _ e ne)) ne (zac e rlH) (zac e bdH)
   unfold zio
   rw [hB]
   exact C10
end Y0
namespace L2
open PySem PySem.Spec PyProof.Rows
section
variable {prog:Program} {w:World} {A:Around} {E:Value->Shared->Prop} {s:Shared}
theorem zr5 {d:Addr} {o:Obj} {es:Array DictEntry} {ep:Nat} {Q:Value->Shared->Prop} (hd:(d==sysModules)=false) (ho:s.heap.get? d=some o) (hc:o.ExactDict) (hdat:o.data=.dict es ep)
 (hQ:Q (.ref s.heap.objs.size) { s with heap:=s.heap.push { cls:=.type "dict_keyiterator",data:=.fields #[.ref d,.int 0 0,.int es.size 0,.int ep 0] } }):
 wpAny (model prog w) A (pyIter (.ref d)) Q E s:=by
 have hT:s.TypeIs (.ref d) "dict":=⟨o,ho,hc.1⟩
 refine wpAny_pyIter_slot hT F.slot_dict_iter (wpAny_call_entry F.slot_dict_iter hT F.entry_dict_iter ?_ (F.args_dict_iter_1 _))
 unfold Builtin.«dict.__iter__» Builtin.Dict.dictSlotNone
 refine ZAp (ZAp (wpAny_notOrdered_dict hT (show wpAny _ _ (pure (Value.ref d)) _ _ s from ZAq ?_)))
 refine (show wpAny _ _ (Builtin.Dict.showsAll d>>=_) _ _ s from ?_)
 unfold Builtin.Dict.showsAll
 rw [if_neg (by rw [hd];exact ZA6)]
 refine ZAp (ZAq (ZAp (wpAny_dictEntries ho hdat (ZAp (wpAny_dictEpoch ho hdat (ZAp (wpAny_newObj_type (ZAq ⟨_,rfl,"dict_keyiterator",_,⟨_,ZBh _ rfl,rfl⟩,F.slot_dict_keyiterator_next.lookup,?_⟩))))))))
 simpa [rawInt] using hQ
theorem zr4 {it d:Addr} {i ep:Nat} {od:Obj} {es:Array DictEntry} {e:DictEntry} {Q:Option Value->Shared->Prop} (hit:s.heap.IsKeyIter it d i es.size ep) (hod:s.heap.get? d=some od) (hdd:od.data=.dict es ep) (hx:es[i]?=some e)
 (hQ:∀h',h'.IsKeyIter it d (i+1) es.size ep->Heap.SameBut it s.heap h'->Q (some e.key) { s with heap:=h' }):wpAny (model prog w) A (pyNext (.ref it)) Q E s:=by
 obtain ⟨o,ho,hc,hd⟩:=id hit
 unfold pyNext
 refine ZAp (wpAny_attempt (wpAny_callSpecial?_slot (name:=Str.ofString "__next__") hit.typeIs F.slot_dict_keyiterator_next (wpAny_call_entry F.slot_dict_keyiterator_next hit.typeIs F.entry_dict_keyiterator_next ?_ (F.args_dict_keyiterator_next_1 _))))
 refine ZAp (ZAq (ZAp (ZAp ?_)))
 first | refine ZAp (wpAny_typeNameOfWhole_keyiter hit.typeIs (ZAq (ZAp (wpAny_fieldsOf ho hd ?_)))) | refine ZAp (wpAny_typeNameOf_keyiter hit.typeIs (ZAq (ZAp (wpAny_fieldsOf ho hd ?_))))
 simp only [show Builtin.Dict_items.ownsTuple "dict_keyiterator"=false by decide,Bool.false_eq_true,if_false]
 refine (show wpAny _ _ (if (Value.ref d==Value.none)=true then _ else _) _ _ s from ?_)
 rw [if_neg (show ¬((Value.ref d==Value.none)=true) from ZA6)]
 refine ZAp (ZAq (ZAp (wpAny_dictEntries hod hdd ?_)))
 rw [if_neg (by simp)]
 refine ZAp (ZAq (ZAp (wpAny_dictEpoch hod hdd ?_)))
 rw [if_neg (by simp)]
 refine ZAq ?_
 simp only [show ¬((i:Int)<0) from by lia,if_false,ZBx,hx]
 refine ZAp ?_
 first | refine ZAp (wpAny_typeNameOfWhole_keyiter hit.typeIs (ZAq (ZAp (wpAny_isOneOf_keyiter hit.typeIs ?_)))) | refine ZAp (wpAny_typeNameOf_keyiter hit.typeIs (ZAq (ZAp (wpAny_isOneOf_keyiter hit.typeIs ?_))))
 refine (show wpAny _ _ (setField (.ref it) 1 (rawInt ((i:Int)+1))>>=_) _ _ s from ZAp (wpAny_setField ho hd (by simp) ?_))
 have hit':(s.heap.update it (Obj.mapFields (·.setIfInBounds 1 (rawInt ((i:Int)+1))))).IsKeyIter it d (i+1) es.size ep:=
  ⟨_,Heap.get?_update_self _ ho (Obj.isFreed_of_fields (Obj.data_mapFields hd _)),(Obj.cls_mapFields ..).trans hc,by rw [Obj.data_mapFields hd];simp [rawInt]⟩
 refine ZAp (wpAny_holding (ZAp (wpAny_isOneOf_keyiter (s:={ s with heap:=s.heap.update it (Obj.mapFields (·.setIfInBounds 1 (rawInt ((i:Int)+1)))) }) hit'.typeIs (show wpAny _ _ (pure e.key) _ _ _ from ZAq (ZAq ⟨_,rfl,ZAq (hQ _ hit' (Heap.SameBut.update ..))⟩)))))
theorem zuu {it d:Addr} {i ep:Nat} {od:Obj} {es:Array DictEntry} {Q:Option Value->Shared->Prop} (q:Hd A s.heap) (hit:s.heap.IsKeyIter it d i es.size ep) (hod:s.heap.get? d=some od) (hdd:od.data=.dict es ep) (hx:es.size<=i)
 (hQ:∀h',Heap.ExtBut it s.heap h'->Q none { s with heap:=h' }):wpAny (model prog w) A (pyNext (.ref it)) Q E s:=by
 obtain ⟨o,ho,hc,hd⟩:=id hit
 unfold pyNext
 refine ZAp (wpAny_attempt (wpAny_callSpecial?_slot (name:=Str.ofString "__next__") hit.typeIs F.slot_dict_keyiterator_next (wpAny_call_entry F.slot_dict_keyiterator_next hit.typeIs F.entry_dict_keyiterator_next ?_ (F.args_dict_keyiterator_next_1 _))))
 refine ZAp (ZAq (ZAp (ZAp ?_)))
 first | refine ZAp (wpAny_typeNameOfWhole_keyiter hit.typeIs (ZAq (ZAp (wpAny_fieldsOf ho hd ?_)))) | refine ZAp (wpAny_typeNameOf_keyiter hit.typeIs (ZAq (ZAp (wpAny_fieldsOf ho hd ?_))))
 simp only [show Builtin.Dict_items.ownsTuple "dict_keyiterator"=false by decide,Bool.false_eq_true,if_false]
 refine (show wpAny _ _ (if (Value.ref d==Value.none)=true then _ else _) _ _ s from ?_)
 rw [if_neg (show ¬((Value.ref d==Value.none)=true) from ZA6)]
 refine ZAp (ZAq (ZAp (wpAny_dictEntries hod hdd ?_)))
 rw [if_neg (by simp)]
 refine ZAp (ZAq (ZAp (wpAny_dictEpoch hod hdd ?_)))
 rw [if_neg (by simp)]
 refine ZAq ?_
 simp only [show ¬((i:Int)<0) from by lia,if_false,ZBx,Array.getElem?_eq_none hx]
 refine ZAp ?_
 first | refine ZAp (wpAny_typeNameOfWhole_keyiter hit.typeIs (ZAq ?_)) | refine ZAp (wpAny_typeNameOf_keyiter hit.typeIs (ZAq ?_))
 refine (show wpAny _ _ (setField (.ref it) 0 .none>>=_) _ _ s from ZAp (wpAny_setField ho hd (by simp) ?_))
 have other:∀b o,b≠it->s.heap.get? b=some o->(s.heap.update it (Obj.mapFields (·.setIfInBounds 0 Value.none))).get? b=some o:=fun b o hb e=>(Heap.get?_update_other _ _ (ZAl hb)).trans e
 refine zjt (A:=A.in1) (s:={ s with heap:=s.heap.update it (Obj.mapFields (·.setIfInBounds 0 Value.none)) }) (Hd.keep (A:=A.in1) q fun b C dx t tb e=>other b _ (fun z=>?_) e) fun e h' kk te=>?_
 ·rw [z,ho] at e
  cases e
  cases hc
 ·refine ZAp (wpAny_mono (zkl (s0:=s) (fun b o hb z=>kk b o (other b o hb z)) te hQ) (fun b s' z=>?_) fun _ _ z=>z)
  obtain ⟨rfl,z⟩:=z
  exact ZAq z
end
section
variable {X:Cx} {pins:List (Addr×Obj)} {σ:St} {H:Hp} {s:Shared} {a:Addr} {o:Obj} {u:HO}
theorem Inv.freeze (I:Inv X pins σ H s) (hu:H a=some u) (mu:Mut (some u)) (ho:s.heap.get? a=some o):Inv X pins σ (upd H a (.frz o u)) s:=by
 have ntup:∀b xs,H b=some (.tup xs)->b≠a:=fun b xs r z=>by subst z;rw [hu] at r;cases r;exact mu
 have nown:∀b y,H b=some (.own y)->b≠a:=fun b y r z=>by subst z;rw [hu] at r;cases r;exact mu
 exact I.write (h':=s.heap) (t':=s.toks) (x:=a) (e:=a) (by rw [hu];exact mu) (.inl rfl) (fun b v _ e=>e) ⟨o,ho⟩
  ⟨ho,(I.hok a u hu).stay (fun b v _ e=>e) (fun b e=>by rw [zai (nown b a e)];exact e) fun b xs e=>by rw [zai (ntup b xs e)];exact e⟩
theorem Inv.thaw (I:Inv X pins σ H s) (hu:H a=some (.frz o u)) (h0:∀o u,X.H₀ a≠some (.frz o u)):Inv X pins σ (upd H a u) s:=by
 have ne:∀{b:Addr} {x:Option HO},H b=x->(∀o u,x≠some (.frz o u))->b≠a:=fun {b x} e hx z=>by subst z;rw [hu] at e;exact hx _ _ e.symm
 have st:∀b v,zce X.prog X.w H s.heap b v->zce X.prog X.w (upd H a u) s.heap b v:=fun b v x=>
  x.stay (fun c v _ e=>e) (fun c e=>by rw [zai (ne e fun _ _ z=>nomatch z)];exact e) fun c xs e=>by rw [zai (ne e fun _ _ z=>nomatch z)];exact e
 refine ⟨I.ok,I.os,I.bare,⟨I.base.keep,I.base.slot,fun b v q n hx=>?_,I.base.there,fun b xs q=>?_,fun b ob v q=>?_,fun b ps q=>?_⟩,I.loc,I.cell,?_,fun x c e=>?_,fun p hp=>?_,fun b v q=>?_,I.len⟩
 ·have e:=I.base.free b v q n hx
  rw [zai (ne e fun _ _ z=>nomatch z)];exact e
 ·have e:=I.base.tups b xs q
  rw [zai (ne e fun _ _ z=>nomatch z)];exact e
 ·have e:=I.base.frzs b ob v q
  rw [zai (fun z=>by subst z;exact h0 ob v q)];exact e
 ·obtain ⟨more,e⟩:=I.base.tbls b ps q
  exact ⟨more,by rw [zai (ne e fun _ _ z=>nomatch z)];exact e⟩
 ·rw [zai (ne I.free fun _ _ z=>nomatch z)];exact I.free
 ·rw [zai (ne (I.freeC x c e) fun _ _ z=>nomatch z)];exact I.freeC x c e
 ·obtain ⟨p1,p2,p3⟩:=I.pin p hp
  exact ⟨p1,by rw [zai (ne p2 fun _ _ z=>nomatch z)];exact p2,p3⟩
 ·by_cases hb:b=a
  ·subst hb
   rw [zaa] at q
   cases q
   exact st b u (I.hok b _ hu).2
  ·rw [zai hb] at q
   exact st b v (I.hok b v q)
end
def zxz (H₀:Hp) (t:TE):TE:=fun σ H Q=>t σ H fun x H1=>∃a o u,H1 a=some (.frz o u)/\(∀o u,H₀ a≠some (.frz o u))/\Q x (upd H1 a u)
theorem zu2 {X:Cx} {e:Expr} {t:TE} (he:PE X e t):PE X e (zxz X.H₀ t):=by
 intro pins s σ H Q I h
 refine thn (he pins s σ H _ I h) fun v s1 zz=>?_
 obtain ⟨x,H1,I1,r1,q1⟩:=zz
 obtain ⟨a,o,u,e1,e2,q⟩:=q1
 exact ⟨x,_,I1.thaw e1 e2,r1,q⟩
def Itk (a:Addr) (o:Obj) (kvs:List (List Key×V)):It:=
 ⟨fun i H=>H a=some (.frz o (.dT kvs))/\i<kvs.length,fun i H x H'=>H'=H/\∃q k v,x=.ref q/\kvs[i]?=some (k,v)/\H q=some (.tup (k.map kV)),fun i H=>H a=some (.frz o (.dT kvs))/\kvs.length<=i⟩
theorem zlg {α β:Type} {F:α->β->Prop} {l:List α} {m:List β} (h:Paired F l m) {i:Nat} {x:α} (hx:l[i]?=some x):∃y,m[i]?=some y/\F x y:=by
 induction h generalizing i with
 | nil=>simp at hx
 | cons r _ ih=>
  cases i with
  | zero=>simp at hx;subst hx;exact ⟨_,rfl,r⟩
  | succ i=>simpa using ih (by simpa using hx)
theorem zh8 {α β γ:Type} {F:α×β->α×γ->Prop}:∀{l:List (α×β)} {m:List (α×γ)},Paired F l m->(∀p q,F p q->p.1=q.1)->l.map (·.1)=m.map (·.1)
 | _,_,.nil,_=>rfl
 | _,_,.cons r t,h=>by rw [ZBf,ZBf,zh8 t h,h _ _ r]
theorem znq {X:Cx} {pins:List (Addr×Obj)} {σ:St} {H:Hp} {s:Shared} {a:Addr} {o:Obj} {kvs:List (List Key×V)} {es:Array DictEntry} {ep:Nat} (I:Inv X pins σ H s) (h:H a=some (.frz o (.dT kvs))) (hd:o.data=.dict es ep):
 s.heap.get? a=some o/\es.size=kvs.length/\∀(i:Nat) (k:List Key) (v:V),kvs[i]?=some (k,v)->∃(e:DictEntry) (q:Addr),es[i]?=some e/\e.key=Value.ref q/\H q=some (.tup (k.map kV)):=by
 obtain ⟨ho,_,_,xs,hp,o',es',ep',ho',hc,hd',he,hn⟩:=(show zce X.prog X.w H s.heap a (.frz o (.dT kvs)) from I.hok a _ h)
 rw [ho] at ho'
 cases ho'
 rw [hd] at hd'
 cases hd'
 refine ⟨ho,?_,fun i k v hx=>?_⟩
 ·rw [<-ZAj,he,ZAu,Paired.length hp]
 ·obtain ⟨x,hx',r1,r2,r3⟩:=zlg hp hx
  refine ⟨_,x.2.1,by rw [<-Array.getElem?_toList,he,ZA0,hx'];rfl,rfl,?_⟩
  exact r2
theorem zow {P:Program} {w:World} {K:ZCa} {tg:Expr} (a it:Addr) (o:Obj) (kvs:List (List Key×V)) {es:Array DictEntry} {ep:Nat} (hd:o.data=.dict es ep):
 zvo P w K tg (Itk a o kvs) [it] it (fun i h=>h.IsKeyIter it a i es.size ep) where
 mem:=by simp
 obj:=fun i h st b hb=>by
  have e:b=it:=by simpa using hb
  subst e
  obtain ⟨o,e,c,d⟩:=st
  exact ⟨o,e,fun v z=>by rw [d] at z;cases z⟩
 keep:=fun i h h' st k=>st.at fun o e=>k it (by simp) o e
 item:=by
  intro X hP hw hK hc i pins s σ H E I hf st hg
  subst hP hw hK
  obtain ⟨hfz,hi⟩:=hg
  obtain ⟨ho,hsz,hat⟩:=znq I hfz hd
  obtain ⟨⟨k,v⟩,hx⟩:∃p,kvs[i]?=some p:=⟨kvs[i],by simp [hi]⟩
  obtain ⟨e,q,he,hk,hq⟩:=hat i k v hx
  obtain ⟨f0,f1,f2,f3,f4,f5⟩:=hf it (by simp)
  refine zr4 st ho hd he fun h' st' sb=>?_
  have I1:Inv X pins σ H { s with heap:=h' }:=I.turned (t':=s.toks) (fun b o hb e=>(sb.2 b hb).trans e) f0 f1 f3 f4 f5
  rw [hk]
  exact ⟨_,rfl,letGo_keyiter (s':={ s with heap:=h' }) st' ⟨.ref q,H,I1,rfl,⟨rfl,q,k,v,rfl,hx,hq⟩,st',fun b hb=>(hf b hb).1⟩⟩
 done:=by
  intro X hP hw hK hc i pins s σ H E I hf st hg
  subst hP hw hK
  obtain ⟨hfz,hi⟩:=hg
  obtain ⟨ho,hsz,_⟩:=znq I hfz hd
  obtain ⟨f0,f1,f2,f3,f4,f5⟩:=hf it (by simp)
  exact zuu (zoe hc I) st ho hd (by omega) fun h' eb=>⟨rfl,I.turned (t':=s.toks) (fun b o hb e=>eb b o hb e) f0 f1 f3 f4 f5⟩
 self:=fun _ _ _ _ _ st h=>wpAny_pyIter_keyiter st h
section
variable {X:Cx} {tg:Expr}
def zyz (td:TE):TI:=fun σ H R=>td σ H fun x H1=>∃a kvs,x=.ref a/\H1 a=some (.dT kvs)/\((kvs.map (·.1)).Nodup->∀o,R (Itk a o kvs) (upd H1 a (.frz o (.dT kvs))))
theorem zu0 {d:Expr} {td:TE} (hl:PE X d td):PI X tg d (zyz td):=by
 intro pins s σ H R I h
 refine thn (hl pins s σ H _ I h) fun v s1 zz=>?_
 obtain ⟨x,H1,I1,r1,q1⟩:=zz
 obtain ⟨a,kvs,e,hq,q⟩:=q1
 subst e
 cases r1
 obtain ⟨_,hs,xs,hp,o,es,ep,ho,hc,hd,he,hn⟩:=(show zce X.prog X.w H1 s1.heap a (.dT kvs) from I1.hok a _ hq)
 have hnd:(kvs.map (·.1)).Nodup:=by rw [zh8 hp fun _ _ z=>z.1];exact hn
 refine zr5 hs ho hc hd ?_
 have I2:=I1.freeze hq trivial ho
 refine ⟨s1.heap.objs.size,[s1.heap.objs.size],_,_,_,rfl,I2.kept (t':=s1.toks) fun b o e=>ZAy _ e,zow a _ o kvs hd,⟨_,ZBh _ rfl,rfl,rfl⟩,fun b hb=>?_,q hnd o⟩
 have e:b=s1.heap.objs.size:=by simpa using hb
 subst e
 exact I2.fpOk (ZAw _) (I2.hok.fresh (ZAw _))
end
theorem zq3 {js:List (Option Nat)} {g:TG} {tc:TT} {te:TE} {σ:St} {H:Hp} {D:Addr} {Q:VK} {a:Addr} {o:Obj} {kvs:List (List Key×V)} (Pv:Nat->St->Hp->Prop) (h0:Pv 0 (zf0 js σ) (upd H D (.lst [])))
 (hl:∀i σ' H',i<=kvs.length->Pv i σ' H'->H' a=some (.frz o (.dT kvs)))
 (hs:∀i k v q σ' H',kvs[i]?=some (k,v)->H' q=some (.tup (k.map kV))->Pv i σ' H'->g (.ref q) σ' H' fun σ3 H3=>tc σ3 H3 fun ok H4=>if ok=true then te σ3 H4 fun y H5=>∃ys,H5 D=some (.lst ys)/\ys.length<sizeLine/\Pv (i+1) σ3 (upd H5 D (.lst (ys++[y]))) else Pv (i+1) σ3 H4)
 (hd:∀σ' H',Pv kvs.length σ' H'->Q (.ref D) H'):
 zg1 js g tc te σ Q (Itk a o kvs) H D:=by
 refine ⟨fun i m σ H=>m=kvs.length-i/\i<=kvs.length/\Pv i σ H,⟨kvs.length,by simp,ZBa _,h0⟩,?_⟩
 rintro i m σ' H' ⟨rfl,hi,p⟩
 by_cases hlt:i<kvs.length
 ·refine .inr ⟨⟨hl i σ' H' hi p,hlt⟩,Pv (i+1),fun σ2 H2 p'=>⟨kvs.length-(i+1),by omega,rfl,hlt,p'⟩,fun x H2 y=>?_⟩
  obtain ⟨e,q,k,v,rfl,hx,hq⟩:=y
  subst e
  exact hs i k v q σ' _ hx hq p
 ·have e:i=kvs.length:=by omega
  subst e
  exact .inl ⟨⟨hl _ σ' H' hi p,ZAw _⟩,hd σ' H' p⟩
end L2
namespace TS
open PySem PyProof PyProof.Rows
def gal:Bool->Keyed->Array Keyed->Nat->Nat->Nat->StateT SortSt Sem (Option Nat):=sortPriv% PySem.Builtin.gallop
class SK where
 num:Keyed->Int
 ok:Keyed->Prop
 kind:SortKind
def N [SK] (p:Keyed):Int:=SK.num p
def isN [SK] (p:Keyed):Prop:=SK.ok p
def Kk [SK] (xs:Array Keyed) (i:Nat):Int:=match xs[i]? with
 | some p=>N p
 | none=>0
class LtOk [SK] (prog:Program) (w:World) (A:Around) (E:Value->Shared->Prop) (s:Shared):Prop where
 lt:∀{st:SortSt} {p q:Keyed} {Q:Option Bool->SortSt->Prop},kindOf st=SK.kind->isN p->isN q->Q (some (decide (N p<N q))) st->wpS (model prog w) A E s (lt' p q) Q st
section
variable [SK]
theorem zf7 {xs ys:Array Keyed} {i j:Nat} (h:xs[i]?=ys[j]?):Kk xs i=Kk ys j:=by unfold Kk;rw [h]
theorem zs7 {xs:Array Keyed} {src d:Nat} (hs:src<xs.size) (hd:d<=src) (k:Nat):
 Kk (bubble xs src d) k=if k=src-d then Kk xs src else if src-d<k/\k<=src then Kk xs (k-1) else Kk xs k:=by
 have e:=getElem?_bubble hs d hd k
 by_cases h1:k=src-d
 ·rw [if_pos h1] at*;exact zf7 e
 rw [if_neg h1] at*
 by_cases h2:src-d<k/\k<=src
 ·rw [if_pos h2] at*;exact zf7 e
 ·rw [if_neg h2] at*;exact zf7 e
theorem zhx {xs:Array Keyed} {i j:Nat} (hj:j<=xs.size) (k:Nat):Kk (mirror xs i j ((j-i) / 2)) k=if i<=k/\k<j then Kk xs (i+j-1-k) else Kk xs k:=by
 have e:=getElem?_mirror_all (i:=i) hj k
 by_cases h1:i<=k/\k<j
 ·rw [if_pos h1] at*;exact zf7 e
 ·rw [if_neg h1] at*;exact zf7 e
theorem zep {xs:Array Keyed} {i j:Nat} (hj:j<=xs.size) (he:∀k,i<=k->k<j->Kk xs k=Kk xs (j-1)) (k:Nat):Kk (mirror xs i j ((j-i) / 2)) k=Kk xs k:=by
 rw [zhx hj];split
 ·rename_i h;rw [he k h.1 h.2,he (i+j-1-k) (by omega) (by omega)]
 ·rfl
end
def Bey (left:Bool) (kv x:Int):Bool:=if left then decide (x<kv) else !decide (kv<x)
theorem zgp {l:Bool} {kv x y:Int} (h:x<=y) (hy:Bey l kv y=true):Bey l kv x=true:=by
 unfold Bey at*;cases l<;>simp_all<;>lia
theorem zra {l:Bool} {kv x y:Int} (h:x<=y) (hy:Bey l kv x=false):Bey l kv y=false:=by
 cases e:Bey l kv y with
 | false=>rfl
 | true=>rw [zgp h e] at hy;exact hy
section
variable [SK] {prog:Program} {w:World} {A:Around} {E:Value->Shared->Prop} {s:Shared} [LtOk prog w A E s] {st:SortSt}
theorem zbp {a:Array Keyed} {i:Nat} {p:Keyed} {Q:Keyed->SortSt->Prop} (he:a[i]?=some p) (h:Q p st):
 wpS (model prog w) A E s (elem' a i) Q st:=by
 rw [elem'_eq,he];exact wpS_pure h
theorem zoq {p q:Keyed} {Q:Option Bool->SortSt->Prop} (hk:kindOf st=SK.kind) (hp:isN p) (hq:isN q)
 (h:Q (some (decide (N p<N q))) st):wpS (model prog w) A E s (lt' p q) Q st:=LtOk.lt hk hp hq h
theorem zkv {l:Bool} {key p:Keyed} {a:Array Keyed} {i:Nat} {Q:Option Bool->SortSt->Prop} (hk:kindOf st=SK.kind)
 (he:a[i]?=some p) (hp:isN p) (hq:isN key) (h:Q (some (Bey l (N key) (N p))) st):
 wpS (model prog w) A E s (do
  let x <-elem' a i
  if l=true then lt' x key else do
   let r <-lt' key x
   pure (Option.map (fun x=> !x) r)) Q st:=by
 refine wpS_bind (zbp he ?_)
 cases l
 ·exact wpS_bind (zoq hk hq hp (wpS_pure h))
 ·exact zoq hk hp hq h
theorem ze0 {a:Array Keyed} (hI:∀p,p∈a.toList->isN p) {i:Nat} (hi:i<a.size):∃p,a[i]?=some p/\isN p/\Kk a i=N p:=
 ⟨a[i],getElem?_pos _ i hi,hI _ (by simp),by unfold Kk;rw [getElem?_pos a i hi]⟩
abbrev BSt:=Option (Option Nat)×Nat×Nat
theorem zix {P:Nat->Bool} {n lo hi:Nat} {f:Nat->BSt->StateT SortSt Sem (ForInStep BSt)}
 (hP:∀i j,i<=j->j<n->P j=true->P i=true)
 (hf:∀x lo hi,hi<=n->∀Q:ForInStep BSt->SortSt->Prop,(hi<=lo->Q (.done (none,lo,hi)) st)->
  (lo<hi->P (lo+(hi-lo) / 2)=true->Q (.yield (none,lo+(hi-lo) / 2+1,hi)) st)->
  (lo<hi->P (lo+(hi-lo) / 2)=false->Q (.yield (none,lo,lo+(hi-lo) / 2)) st)->
  wpS (model prog w) A E s (f x (none,lo,hi)) Q st)
 (hlo:lo<=hi) (hhi:hi<=n) (h1:∀i,i<lo->P i=true) (h2:∀i,hi<=i->i<n->P i=false):
 wpS (model prog w) A E s (forIn [:n] ((none,lo,hi):BSt) f)
  (fun c st'=>st'=st/\∃k,c=(none,k,k)/\k<=n/\(∀i,i<k->P i=true)/\(∀i,k<=i->i<n->P i=false)) st:=by
 refine wpS_forRange
  (I:=fun x c st'=>st'=st/\∃lo hi,c=(none,lo,hi)/\lo<=hi/\hi<=n/\hi-lo<=n-x/\
   (∀i,i<lo->P i=true)/\(∀i,hi<=i->i<n->P i=false))
  ?_ ?_ ⟨rfl,lo,hi,rfl,hlo,hhi,by lia,h1,h2⟩
 ·rintro x c st' _ hx ⟨rfl,lo,hi,rfl,a1,a2,a3,a4,a5⟩
  refine hf x lo hi a2 _ (fun hge=>?_) (fun hlt hm=>?_) (fun hlt hm=>?_)
  ·obtain rfl:lo=hi:=by lia
   exact ⟨rfl,lo,rfl,a2,a4,a5⟩
  ·exact ⟨rfl,_,hi,rfl,by lia,a2,by lia,fun i hi'=>hP i _ (by lia) (by lia) hm,a5⟩
  ·refine ⟨rfl,lo,_,rfl,by lia,by lia,by lia,a4,fun i hi' hin=>?_⟩
   cases e:P i with
   | false=>rfl
   | true=>rw [hP _ i hi' hin e] at hm;exact hm
 ·rintro c st' ⟨rfl,lo,hi,rfl,a1,a2,a3,a4,a5⟩
  obtain rfl:lo=hi:=by simp at a3;lia
  exact ⟨rfl,lo,rfl,a2,a4,a5⟩
theorem zmy {l:Bool} {key:Keyed} {a:Array Keyed} {b n hint:Nat} {Q:Option Nat->SortSt->Prop} (hk:kindOf st=SK.kind)
 (hI:∀p,p∈a.toList->isN p) (hq:isN key) (hn:b+n<=a.size) (hs:∀i j,i<=j->j<n->Kk a (b+i)<=Kk a (b+j)) (hh:hint<n)
 (h:∀k,k<=n->(∀i,i<k->Bey l (N key) (Kk a (b+i))=true)->(∀i,k<=i->i<n->Bey l (N key) (Kk a (b+i))=false)->Q (some k) st):
 wpS (model prog w) A E s (gal l key a b n hint) Q st:=by
 refine wpS_bind ?_
 obtain ⟨p,e1,e2,e3⟩:=ze0 hI (i:=b+hint) (by omega)
 refine zkv hk e1 e2 hq ?_
 rw [<-e3]
 cases e:Bey l (N key) (Kk a (b+hint)) with
 | true=>
  dsimp only
  rw [if_pos rfl]
  refine wpS_bind (wpS_mono (wpS_forRange
   (I:=fun x c st'=>st'=st/\∃lo ofs,c=(none,lo,ofs)/\lo<ofs/\x<ofs/\hint+lo<n/\Bey l (N key) (Kk a (b+(hint+lo)))=true)
   (Q:=fun c st'=>st'=st/\∃lo ofs,c=(none,lo,ofs)/\lo<ofs/\hint+lo<n/\Bey l (N key) (Kk a (b+(hint+lo)))=true/\
    (hint+ofs<n->Bey l (N key) (Kk a (b+(hint+ofs)))=false))
   ?_ ?_ ⟨rfl,0,1,rfl,by omega,by omega,by omega,e⟩) ?_)
  ·rintro x c st' _ hx ⟨rfl,lo,ofs,rfl,a1,a2,a3,a4⟩
   dsimp only
   by_cases hge:ofs>=n-hint
   ·rw [if_pos hge]
    exact wpS_pure ⟨rfl,lo,ofs,rfl,a1,a3,a4,fun h=>absurd h (by omega)⟩
   ·rw [if_neg hge]
    obtain ⟨p,e1,e2,e3⟩:=ze0 hI (i:=b+(hint+ofs)) (by omega)
    refine wpS_bind (zkv hk e1 e2 hq ?_)
    rw [<-e3]
    cases e':Bey l (N key) (Kk a (b+(hint+ofs))) with
    | true=>exact wpS_pure ⟨rfl,ofs,2*ofs+1,rfl,by omega,by omega,by omega,e'⟩
    | false=>exact wpS_pure ⟨rfl,lo,ofs,rfl,a1,a3,a4,fun _=>e'⟩
  ·rintro c st' ⟨rfl,lo,ofs,rfl,a1,a2,a3,a4⟩
   exact ⟨rfl,lo,ofs,rfl,a1,a3,a4,fun h=>absurd h (by simp at a2;omega)⟩
  ·rintro c st' ⟨rfl,lo,ofs,rfl,a1,a3,a4,a5⟩
   dsimp only
   refine wpS_bind (wpS_mono (zix (P:=fun i=>Bey l (N key) (Kk a (b+i))) (fun i j hij hj e=>zgp (hs i j hij hj) e)
    ?_ (by omega) (by omega) (fun i hi=>?_) (fun i hi hin=>?_)) ?_)
   ·intro x lo hi hhn Q' c1 c2 c3
    dsimp only
    by_cases hge:lo>=hi
    ·rw [if_pos hge];exact wpS_pure (c1 hge)
    ·rw [if_neg hge]
     obtain ⟨p,e1,e2,e3⟩:=ze0 hI (i:=b+(lo+(hi-lo) / 2)) (by omega)
     refine wpS_bind (zkv hk e1 e2 hq ?_)
     rw [<-e3]
     cases e':Bey l (N key) (Kk a (b+(lo+(hi-lo) / 2))) with
     | true=>exact wpS_pure (c2 (by omega) e')
     | false=>exact wpS_pure (c3 (by omega) e')
   ·exact zgp (hs i (hint+lo) (by omega) (by omega)) a4
   ·exact zra (hs (hint+ofs) i (by omega) (by omega)) (a5 (by omega))
   ·rintro c st' ⟨rfl,k,rfl,b1,b2,b3⟩
    exact wpS_pure (h k b1 b2 b3)
 | false=>
  dsimp only
  rw [if_neg (by decide)]
  refine wpS_bind (wpS_mono (wpS_forRange
   (I:=fun x c st'=>st'=st/\∃lo ofs,c=(none,lo,ofs)/\lo<ofs/\x<ofs/\lo<=hint/\Bey l (N key) (Kk a (b+(hint-lo)))=false)
   (Q:=fun c st'=>st'=st/\∃lo ofs,c=(none,lo,ofs)/\lo<ofs/\lo<=hint/\Bey l (N key) (Kk a (b+(hint-lo)))=false/\
    (ofs<=hint->Bey l (N key) (Kk a (b+(hint-ofs)))=true))
   ?_ ?_ ⟨rfl,0,1,rfl,by omega,by omega,by omega,e⟩) ?_)
  ·rintro x c st' _ hx ⟨rfl,lo,ofs,rfl,a1,a2,a3,a4⟩
   dsimp only
   by_cases hge:ofs>=hint+1
   ·rw [if_pos hge]
    exact wpS_pure ⟨rfl,lo,ofs,rfl,a1,a3,a4,fun h=>absurd h (by omega)⟩
   ·rw [if_neg hge]
    obtain ⟨p,e1,e2,e3⟩:=ze0 hI (i:=b+(hint-ofs)) (by omega)
    refine wpS_bind (zkv hk e1 e2 hq ?_)
    rw [<-e3]
    cases e':Bey l (N key) (Kk a (b+(hint-ofs))) with
    | true=>exact wpS_pure ⟨rfl,lo,ofs,rfl,a1,a3,a4,fun _=>e'⟩
    | false=>exact wpS_pure ⟨rfl,ofs,2*ofs+1,rfl,by omega,by omega,by omega,e'⟩
  ·rintro c st' ⟨rfl,lo,ofs,rfl,a1,a2,a3,a4⟩
   exact ⟨rfl,lo,ofs,rfl,a1,a3,a4,fun h=>absurd h (by simp at a2;omega)⟩
  ·rintro c st' ⟨rfl,lo,ofs,rfl,a1,a3,a4,a5⟩
   dsimp only
   refine wpS_bind (wpS_mono (zix (P:=fun i=>Bey l (N key) (Kk a (b+i))) (fun i j hij hj e=>zgp (hs i j hij hj) e)
    ?_ (by omega) (by omega) (fun i hi=>?_) (fun i hi hin=>?_)) ?_)
   ·intro x lo hi hhn Q' c1 c2 c3
    dsimp only
    by_cases hge:lo>=hi
    ·rw [if_pos hge];exact wpS_pure (c1 hge)
    ·rw [if_neg hge]
     obtain ⟨p,e1,e2,e3⟩:=ze0 hI (i:=b+(lo+(hi-lo) / 2)) (by omega)
     refine wpS_bind (zkv hk e1 e2 hq ?_)
     rw [<-e3]
     cases e':Bey l (N key) (Kk a (b+(lo+(hi-lo) / 2))) with
     | true=>exact wpS_pure (c2 (by omega) e')
     | false=>exact wpS_pure (c3 (by omega) e')
   ·exact zgp (hs i (hint-ofs) (by omega) (by omega)) (a5 (by omega))
   ·exact zra (hs (hint-lo) i (by omega) (by omega)) a4
   ·rintro c st' ⟨rfl,k,rfl,b1,b2,b3⟩
    exact wpS_pure (h k b1 b2 b3)
end
structure Iv (r:Keyed->Keyed->Prop) (W O X Y:List Keyed):Prop where
 perm:(O++(X++Y)).Perm W
 srt:O.Pairwise r
 sx:X.Pairwise r
 sy:Y.Pairwise r
 lx:∀p∈O,∀q∈X,r p q
 ly:∀p∈O,∀q∈Y,r p q
def Out (r:Keyed->Keyed->Prop) (W R:List Keyed):Prop:=R.Perm W/\R.Pairwise r
theorem Iv.symm {r W O X Y} (h:Iv r W O X Y):Iv r W O Y X:=
 ⟨((List.perm_append_comm (l₁:=Y) (l₂:=X)).append_left O).trans h.perm,h.srt,h.sy,h.sx,h.ly,h.lx⟩
theorem Iv.stepX {r W O u v Y} (h:Iv r W O (u++v) Y) (hc:∀p∈u,∀q∈Y,r p q):Iv r W (O++u) v Y:=by
 have hp:=List.pairwise_append.mp h.sx
 refine ⟨by simpa [List.append_assoc] using h.perm,?_,hp.2.1,h.sy,?_,?_⟩
 ·exact List.pairwise_append.mpr ⟨h.srt,hp.1,fun p hp' q hq=>h.lx p hp' q (ZAb _ hq)⟩
 ·intro p hp' q hq
  rcases ZBo.mp hp' with h' | h'
  ·exact h.lx p h' q (ZBn _ hq)
  ·exact hp.2.2 p h' q hq
 ·intro p hp' q hq
  rcases ZBo.mp hp' with h' | h'
  ·exact h.ly p h' q hq
  ·exact hc p h' q hq
theorem Iv.stepY {r W O X u v} (h:Iv r W O X (u++v)) (hc:∀p∈u,∀q∈X,r p q):Iv r W (O++u) X v:=(h.symm.stepX hc).symm
theorem Iv.fin {r W O X Y R} (h:Iv r W O X Y) (hp:R.Perm (X++Y)) (hs:R.Pairwise r):Out r W (O++R):=by
 refine ⟨(hp.append_left O).trans h.perm,List.pairwise_append.mpr ⟨h.srt,hs,fun p hp' q hq=>?_⟩⟩
 rcases ZBo.mp (hp.mem_iff.mp hq) with h' | h'
 ·exact h.lx p hp' q h'
 ·exact h.ly p hp' q h'
section
variable [SK]
def le (p q:Keyed):Prop:=N p<=N q
def ge (p q:Keyed):Prop:=N q<=N p
theorem zd0 {a:Array Keyed} {i k:Nat} (h:i+k<=a.size):a.toList.drop i=(a.extract i (i+k)).toList++a.toList.drop (i+k):=by
 rw [Array.toList_extract,List.extract_eq_take_drop,Nat.add_sub_cancel_left,<-List.drop_drop,List.take_append_drop]
theorem zls {a:Array Keyed} {i:Nat} {p:Keyed} (h:a[i]?=some p):a.toList.drop i=[p]++a.toList.drop (i+1):=by
 obtain ⟨hi,rfl⟩:=Array.getElem?_eq_some_iff.mp h
 rw [List.drop_eq_getElem_cons (by simpa using hi)];simp
theorem zic {a:Array Keyed} {i j:Nat} {p:Keyed} (h:p∈(a.extract i j).toList):∃m,i<=m/\m<j/\m<a.size/\Kk a m=N p:=by
 obtain ⟨m,hm,e⟩:=ZBs h
 simp only [ZAj,Array.size_extract] at hm
 refine ⟨i+m,by omega,by omega,by omega,?_⟩
 have:a[i+m]?=some p:=by
  rw [getElem?_pos a (i+m) (by omega)]
  simp only [Array.getElem_toList,Array.getElem_extract] at e
  rw [e]
 unfold Kk;rw [this]
theorem zgr {a:Array Keyed} {i:Nat} {p:Keyed} (h:a[i]?=some p):Kk a i=N p:=by unfold Kk;rw [h]
theorem znx {a:Array Keyed} (hs:a.toList.Pairwise le) {i j:Nat} (hij:i<=j) (hj:j<a.size):Kk a i<=Kk a j:=by
 rcases Nat.lt_or_eq_of_le hij with h | rfl
 ·have e1:=getElem?_pos a i (by omega)
  have e2:=getElem?_pos a j hj
  rw [zgr e1,zgr e2]
  have:=ZBt.mp hs i j (by simp;omega) (by simp;omega) h
  exact (by simpa using this:le a[i] a[j])
 ·exact Int.le_refl _
theorem zdx {a:Array Keyed} {i:Nat} {p:Keyed} (h:p∈a.toList.drop i):∃m,i<=m/\m<a.size/\Kk a m=N p:=by
 obtain ⟨m,hm,e⟩:=ZBs h
 simp only [ZAd,ZAj] at hm
 refine ⟨i+m,by lia,by lia,zgr ?_⟩
 rw [getElem?_pos a (i+m) (by lia)]
 simpa using e
theorem zdw {a:Array Keyed} {i:Nat} {p:Keyed} (h:p∈a.toList.take i):∃m,m<i/\m<a.size/\Kk a m=N p:=by
 obtain ⟨m,hm,e⟩:=ZBs h
 simp only [ZBl,ZAj] at hm
 refine ⟨m,by lia,by lia,zgr ?_⟩
 rw [getElem?_pos a m (by lia)]
 simpa using e
section lo
variable {a b out:Array Keyed} {ia ib:Nat} {W:List Keyed}
abbrev Fv (W:List Keyed) (a b out:Array Keyed) (ia ib:Nat):Prop:=Iv le W out.toList (a.toList.drop ia) (b.toList.drop ib)
theorem Fv.runA (h:Fv W a b out ia ib) {k:Nat} (hk:ia+k<=a.size) (hc:∀p∈(a.extract ia (ia+k)).toList,∀q∈b.toList.drop ib,le p q):
 Fv W a b (out++a.extract ia (ia+k)) (ia+k) ib:=by
 unfold Fv at*;rw [zd0 hk] at h;rw [ZAc];exact h.stepX hc
theorem Fv.runB (h:Fv W a b out ia ib) {k:Nat} (hk:ib+k<=b.size) (hc:∀p∈(b.extract ib (ib+k)).toList,∀q∈a.toList.drop ia,le p q):
 Fv W a b (out++b.extract ib (ib+k)) ia (ib+k):=by
 unfold Fv at*;rw [zd0 hk] at h;rw [ZAc];exact h.stepY hc
theorem Fv.oneA (h:Fv W a b out ia ib) {p:Keyed} (e:a[ia]?=some p) (hc:∀q∈b.toList.drop ib,le p q):Fv W a b (out.push p) (ia+1) ib:=by
 unfold Fv at*;rw [zls e] at h;rw [Array.toList_push];exact h.stepX (by simpa using hc)
theorem Fv.oneB (h:Fv W a b out ia ib) {p:Keyed} (e:b[ib]?=some p) (hc:∀q∈a.toList.drop ia,le p q):Fv W a b (out.push p) ia (ib+1):=by
 unfold Fv at*;rw [zls e] at h;rw [Array.toList_push];exact h.stepY (by simpa using hc)
theorem zj0 (a:Array Keyed) (i:Nat):(a.extract i a.size).toList=a.toList.drop i:=by
 rw [Array.toList_extract,List.extract_eq_take_drop];exact List.take_of_length_le (by simp)
theorem Fv.end1 (h:Fv W a b out ia ib) (he:ia=a.size\/ib=b.size):Out le W (out++a.extract ia a.size++b.extract ib b.size).toList:=by
 rw [ZAc,ZAc,zj0,zj0,List.append_assoc]
 refine h.fin (List.Perm.refl _) ?_
 rcases he with rfl | rfl
 ·rw [List.drop_of_length_le (by simp)];exact h.sy
 ·rw [show b.toList.drop b.size=[] from List.drop_of_length_le (by simp),List.append_nil];exact h.sx
theorem Fv.end2 (h:Fv W a b out ia ib) (hc:∀p∈b.toList.drop ib,∀q∈a.toList.drop ia,le p q):Out le W (out++b.extract ib b.size++a.extract ia a.size).toList:=by
 rw [ZAc,ZAc,zj0,zj0,List.append_assoc]
 exact h.fin List.perm_append_comm (List.pairwise_append.mpr ⟨h.sy,h.sx,hc⟩)
end lo
section hi
variable {a b out:Array Keyed} {na nb:Nat} {W:List Keyed}
abbrev Bv (W:List Keyed) (a b out:Array Keyed) (na nb:Nat):Prop:=Iv ge W out.toList (a.toList.take na).reverse (b.toList.take nb).reverse
theorem zi2 {a:Array Keyed} {i n:Nat} (h:i<=n):(a.toList.take n).reverse=(a.extract i n).reverse.toList++(a.toList.take i).reverse:=by
 rw [Array.toList_reverse,Array.toList_extract,List.extract_eq_take_drop,<-List.reverse_append]
 congr 1
 rw [<-List.drop_take,]
 conv=>lhs;rw [<-List.take_append_drop i (a.toList.take n)]
 rw [List.take_take,Nat.min_eq_left h]
theorem zk5 {a:Array Keyed} {i:Nat} {p:Keyed} (h:a[i]?=some p):(a.toList.take (i+1)).reverse=[p]++(a.toList.take i).reverse:=by
 obtain ⟨hi,rfl⟩:=Array.getElem?_eq_some_iff.mp h
 rw [List.take_succ_eq_append_getElem (by simpa using hi),List.reverse_append];simp
theorem Bv.runA (h:Bv W a b out na nb) {i:Nat} (hi:i<=na) (hc:∀p∈(a.extract i na).toList,∀q∈b.toList.take nb,ge p q):
 Bv W a b (out++(a.extract i na).reverse) i nb:=by
 unfold Bv at*;rw [zi2 hi] at h;rw [ZAc];exact h.stepX (by simpa using hc)
theorem Bv.runB (h:Bv W a b out na nb) {i:Nat} (hi:i<=nb) (hc:∀p∈(b.extract i nb).toList,∀q∈a.toList.take na,ge p q):
 Bv W a b (out++(b.extract i nb).reverse) na i:=by
 unfold Bv at*;rw [zi2 hi] at h;rw [ZAc];exact h.stepY (by simpa using hc)
theorem Bv.oneA (h:Bv W a b out (na+1) nb) {p:Keyed} (e:a[na]?=some p) (hc:∀q∈b.toList.take nb,ge p q):Bv W a b (out.push p) na nb:=by
 unfold Bv at*;rw [zk5 e] at h;rw [Array.toList_push];exact h.stepX (by simpa using hc)
theorem Bv.oneB (h:Bv W a b out na (nb+1)) {p:Keyed} (e:b[nb]?=some p) (hc:∀q∈a.toList.take na,ge p q):Bv W a b (out.push p) na nb:=by
 unfold Bv at*;rw [zk5 e] at h;rw [Array.toList_push];exact h.stepY (by simpa using hc)
theorem zht (a:Array Keyed) (i:Nat):(a.extract 0 i).toList=a.toList.take i:=by
 rw [Array.toList_extract,List.extract_eq_take_drop];simp
theorem Out.rev {R:List Keyed} (h:Out ge W R):Out le W R.reverse:=⟨(List.reverse_perm R).trans h.1,List.pairwise_reverse.mpr h.2⟩
theorem Bv.end1 (h:Bv W a b out na nb) (he:na=0\/nb=0):Out le W (a.extract 0 na++b.extract 0 nb++out.reverse).toList:=by
 have:(a.extract 0 na++b.extract 0 nb++out.reverse).toList=(out.toList++((b.toList.take nb).reverse++(a.toList.take na).reverse)).reverse:=by
  rw [ZAc,ZAc,zht,zht,Array.toList_reverse];simp
 rw [this]
 refine (h.fin List.perm_append_comm ?_).rev
 rcases he with rfl | rfl
 ·simpa using h.sy
 ·simpa using h.sx
theorem Bv.end2 (h:Bv W a b out na nb) (hc:∀p∈a.toList.take na,∀q∈b.toList.take nb,ge p q):Out le W (b.extract 0 nb++a.extract 0 na++out.reverse).toList:=by
 have:(b.extract 0 nb++a.extract 0 na++out.reverse).toList=(out.toList++((a.toList.take na).reverse++(b.toList.take nb).reverse)).reverse:=by
  rw [ZAc,ZAc,zht,zht,Array.toList_reverse];simp
 rw [this]
 exact (h.fin (List.Perm.refl _) (List.pairwise_append.mpr ⟨h.sx,h.sy,by simpa using hc⟩)).rev
end hi
end
def mlo:Array Keyed->Array Keyed->StateT SortSt Sem (Array Keyed):=sortPriv% PySem.Builtin.mergeLo
def mhi:Array Keyed->Array Keyed->StateT SortSt Sem (Array Keyed):=sortPriv% PySem.Builtin.mergeHi
structure Sm (st st':SortSt):Prop where
 kind:kindOf st'=kindOf st
 arr:arrOf st'=arrOf st
 pend:pendingOf st'=pendingOf st
 fail:failedOf st'=failedOf st
theorem Sm.refl (st:SortSt):Sm st st:=⟨rfl,rfl,rfl,rfl⟩
def smg:Nat->StateT SortSt Sem Unit:=sortPriv% PySem.Builtin.setMinGallop
section
variable [SK] {prog:Program} {w:World} {A:Around} {E:Value->Shared->Prop} {s:Shared} [LtOk prog w A E s] {st st₀:SortSt} {a b:Array Keyed}
theorem zbi {α:Type} {c:Prop} {inst:Decidable c} {m n:StateT SortSt Sem α} {Q:α->SortSt->Prop} (hc:c) (h:wpS (model prog w) A E s m Q st):
 wpS (model prog w) A E s (@ite _ c inst m n) Q st:=by rw [if_pos hc];exact h
theorem zci {α:Type} {c:Prop} {inst:Decidable c} {m n:StateT SortSt Sem α} {Q:α->SortSt->Prop} (hc:¬c) (h:wpS (model prog w) A E s n Q st):
 wpS (model prog w) A E s (@ite _ c inst m n) Q st:=by rw [if_neg hc];exact h
theorem zmx {g:Nat} {Q:Unit->SortSt->Prop} (hm:Sm st₀ st) (h:∀st',Sm st₀ st'->Q () st'):wpS (model prog w) A E s (smg g) Q st:=
 wpS_modify (h _ ⟨hm.kind,hm.arr,hm.pend,hm.fail⟩)
theorem zz1 {l:Bool} {key:Keyed} {i:Nat} {Q:Option Nat->SortSt->Prop} (hk:kindOf st=SK.kind)
 (hI:∀p,p∈a.toList->isN p) (hs:a.toList.Pairwise le) (hq:isN key) (hi:i<a.size)
 (h:∀k,i+k<=a.size->(∀m,i<=m->m<i+k->Bey l (N key) (Kk a m)=true)->(∀m,i+k<=m->m<a.size->Bey l (N key) (Kk a m)=false)->Q (some k) st):
 wpS (model prog w) A E s (gal l key a i (a.size-i) 0) Q st:=by
 refine zmy hk hI hq (by lia) (fun x y hxy hy=>znx hs (by lia) (by lia)) (by lia) fun k h1 h2 h3=>?_
 refine h k (by lia) (fun m m1 m2=>?_) (fun m m1 m2=>?_)
 ·have:=h2 (m-i) (by lia);rwa [show i+(m-i)=m by lia] at this
 ·have:=h3 (m-i) (by lia) (by lia);rwa [show i+(m-i)=m by lia] at this
def SQ {β:Type} (Q I:β->SortSt->Prop):ForInStep β->SortSt->Prop
 | .done c,st=>Q c st
 | .yield c,st=>I c st
theorem zem {β:Type} {n:Nat} {f:Nat->β->StateT SortSt Sem (ForInStep β)} (I:Nat->β->SortSt->Prop) {Q:β->SortSt->Prop}
 (hstep:∀i c st,i<n->I i c st->wpS (model prog w) A E s (f i c) (SQ Q (I (i+1))) st)
 (hend:∀c st,I n c st->Q c st) {c:β} {st:SortSt} (h:I 0 c st):wpS (model prog w) A E s (forIn [:n] c f) Q st:=
 wpS_forRange I (fun i c st _ hi hI=>wpS_mono (hstep i c st hi hI) fun r st' h'=>by cases r<;>exact h')
  (fun c st h'=>hend c st (by rwa [Nat.max_eq_right (ZBa _)] at h')) h
theorem zv0 {Q:Array Keyed->SortSt->Prop} {W:List Keyed} (hW:W=a.toList++b.toList) (hk:kindOf st=SK.kind)
 (ha:∀p,p∈a.toList->isN p) (hb:∀p,p∈b.toList->isN p) (sa:a.toList.Pairwise le) (sb:b.toList.Pairwise le)
 (na:0<a.size) (nb:0<b.size) (h0:Kk b 0<=Kk a 0) (hl:Kk b (b.size-1)<=Kk a (a.size-1))
 (h:∀r st',Sm st st'->Out le W r.toList->Q r st'):wpS (model prog w) A E s (mlo a b) Q st:=by
 have hlast:∀{i j:Nat},i+1=a.size->∀p∈b.toList.drop j,∀q∈a.toList.drop i,le p q:=by
  intro i j hi p hp q hq
  obtain ⟨x,x1,x2,x3⟩:=zdx hp
  obtain ⟨y,y1,y2,y3⟩:=zdx hq
  unfold le
  rw [<-x3,<-y3,show y=a.size-1 by lia]
  exact ZAa (znx sb (by lia) (by lia)) hl
 let J:Array Keyed->Nat->Nat->SortSt->Prop:=fun out ia ib st'=>Fv W a b out ia ib/\ia+1<a.size/\ib<b.size/\Sm st st'
 let F:Array Keyed->SortSt->Prop:=fun r st'=>Out le W r.toList/\Sm st st'
 refine wpS_bind (wpS_lift (wpAny_rule ⟨rfl,?_⟩))
 obtain ⟨y0,e0,i0,k0⟩:=ze0 hb (i:=0) nb
 refine wpS_bind (zbp e0 ?_)
 have zdo:Fv W a b #[y0] 0 1:=by
  have:Fv W a b #[] 0 0:=⟨by simp [hW],List.Pairwise.nil,sa,sb,by simp,by simp⟩
  refine this.oneB e0 fun q hq=>?_
  obtain ⟨m,m1,m2,m3⟩:=zdx hq
  unfold le;rw [<-m3,<-k0]
  exact ZAa h0 (znx sa (ZBa _) m2)
 by_cases c1:1=b.size
 ·refine zbi (c:=(1==b.size)=true) (by simpa using c1) ?_
  exact wpS_pure (h _ _ (Sm.refl st) (zdo.end1 (.inr c1)))
 refine zci (c:=(1==b.size)=true) (by simpa using c1) ?_
 by_cases c2:0+1=a.size
 ·refine zbi (c:=(0+1==a.size)=true) (by simpa using c2) ?_
  exact wpS_pure (h _ _ (Sm.refl st) (zdo.end2 (hlast c2)))
 refine zci (c:=(0+1==a.size)=true) (by simpa using c2) ?_
 refine wpS_bind (wpS_get ?_)
 refine wpS_bind (wpS_mono (zem
  (I:=fun x c st'=>∃out ia ib mg,c=(none,out,ia,ib,mg)/\J out ia ib st'/\x<=ia+ib)
  (Q:=fun c st'=>∃r,c.1=some r/\F r st') ?outer ?oend ⟨_,_,_,_,rfl,⟨zdo,by lia,by lia,Sm.refl st⟩,by lia⟩) ?post)
 case post=>
  rintro ⟨c1,c2⟩ st' ⟨r,rfl,hF⟩
  exact wpS_pure (h r st' hF.2 hF.1)
 case oend=>
  rintro c st' ⟨out,ia,ib,mg,rfl,⟨_,j2,j3,_⟩,hx⟩
  exfalso
  lia
 case outer=>
  rintro x c st' hx ⟨out,ia,ib,mg,rfl,hJ,hxx⟩
  generalize ht0:ia+ib=t0 at hxx
  refine wpS_bind (wpS_mono (zem
   (I:=fun x c st'=>∃out ia ib ac bc,c=(none,out,ia,ib,ac,bc)/\J out ia ib st'/\t0+x<=ia+ib)
   (Q:=fun c st'=>(∃r,c.1=some r/\F r st')\/∃out ia ib ac bc,c=(none,out,ia,ib,ac,bc)/\J out ia ib st'/\t0+1<=ia+ib)
   ?one ?oneEnd ⟨out,ia,ib,0,0,rfl,hJ,by lia⟩) ?two)
  case oneEnd=>
   rintro c st' ⟨out,ia,ib,ac,bc,rfl,j,hx'⟩
   exact .inr ⟨out,ia,ib,ac,bc,rfl,j,by lia⟩
  case one=>
   rintro x' c st' _ ⟨out,ia,ib,ac,bc,rfl,⟨j1,j2,j3,j4⟩,hx'⟩
   obtain ⟨y,ey,iy,ky⟩:=ze0 hb (i:=ib) j3
   obtain ⟨z,ez,iz,kz⟩:=ze0 ha (i:=ia) (by lia)
   refine wpS_bind (zbp ey (wpS_bind (zbp ez (wpS_bind (zoq (j4.kind.trans hk) iy iz ?_)))))
   by_cases hlt:N y<N z
   ·rw [ZB8 hlt]
    refine wpS_bind (zbp ey ?_)
    have j1':=j1.oneB ey (fun q hq=>by
     obtain ⟨m,m1,m2,m3⟩:=zdx hq
     unfold le;rw [<-m3]
     exact ZAa (ZAf hlt) (kz▸znx sa m1 m2))
    by_cases c3:ib+1=b.size
    ·refine zbi (c:=(ib+1==b.size)=true) (by simpa using c3) ?_
     exact wpS_pure (.inl ⟨_,rfl,j1'.end1 (.inr c3),j4⟩)
    refine zci (c:=(ib+1==b.size)=true) (by simpa using c3) ?_
    have jj:J (out.push y) ia (ib+1) st':=⟨j1',j2,by lia,j4⟩
    by_cases c4:bc+1>=mg
    ·refine zbi c4 ?_
     exact wpS_pure (.inr ⟨_,ia,ib+1,_,_,rfl,jj,by lia⟩)
    ·refine zci c4 ?_
     exact wpS_pure ⟨_,ia,ib+1,_,_,rfl,jj,by lia⟩
   ·rw [ZB9 hlt]
    refine wpS_bind (zbp ez ?_)
    have j1':=j1.oneA ez (fun q hq=>by
     obtain ⟨m,m1,m2,m3⟩:=zdx hq
     unfold le;rw [<-m3]
     exact ZAa (Int.not_lt.mp hlt) (ky▸znx sb m1 m2))
    by_cases c3:ia+1+1=a.size
    ·refine zbi (c:=(ia+1+1==a.size)=true) (by simpa using c3) ?_
     exact wpS_pure (.inl ⟨_,rfl,j1'.end2 (hlast c3),j4⟩)
    refine zci (c:=(ia+1+1==a.size)=true) (by simpa using c3) ?_
    have jj:J (out.push z) (ia+1) ib st':=⟨j1',by lia,j3,j4⟩
    by_cases c4:ac+1>=mg
    ·refine zbi c4 ?_
     exact wpS_pure (.inr ⟨_,ia+1,ib,_,_,rfl,jj,by lia⟩)
    ·refine zci c4 ?_
     exact wpS_pure ⟨_,ia+1,ib,_,_,rfl,jj,by lia⟩
  case two=>
   rintro ⟨c1,c2⟩ st2 (⟨r,rfl,hF⟩ | ⟨out,ia,ib,ac,bc,e,hJ',ht⟩)
   ·exact wpS_pure ⟨r,rfl,hF⟩
   cases e
   refine wpS_bind (wpS_lift (wpAny_rule ⟨rfl,?_⟩))
   refine wpS_bind (wpS_mono (zem
    (I:=fun x c st'=>∃out ia ib mg ac bc,c=(none,out,ia,ib,mg,ac,bc)/\J out ia ib st'/\t0+1<=ia+ib)
    (Q:=fun c st'=>(∃r,c.1=some r/\F r st')\/∃out ia ib mg ac bc,c=(none,out,ia,ib,mg,ac,bc)/\J out ia ib st'/\t0+1<=ia+ib)
    ?gal ?galEnd ⟨_,_,_,_,_,_,rfl,hJ',ht⟩) ?three)
   case galEnd=>exact fun c st' hh=>.inr hh
   case three=>
    rintro ⟨c1,c2⟩ st3 (⟨r,rfl,hF⟩ | ⟨out,ia,ib,mg,ac,bc,e,⟨j1,j2,j3,j4⟩,ht⟩)
    ·exact wpS_pure ⟨r,rfl,hF⟩
    cases e
    exact wpS_bind (zmx j4 fun st4 j4'=>wpS_pure ⟨out,ia,ib,_,rfl,⟨j1,j2,j3,j4'⟩,by lia⟩)
   case gal=>
    rintro x' c st3 _ ⟨out,ia,ib,mg,ac,bc,rfl,⟨j1,j2,j3,j4⟩,ht⟩
    extract_lets-underBinder+onlyGivenNames s1 out1 s2 ia1 s3 ib1 s4 mg1 s5 ac1 bc1 jp
    let R:ForInStep (Option (Array Keyed)×Array Keyed×Nat×Nat×Nat×Nat×Nat)->SortSt->Prop:=
     SQ (fun c st'=>(∃r,c.1=some r/\F r st')\/∃out ia ib mg ac bc,c=(none,out,ia,ib,mg,ac,bc)/\J out ia ib st'/\t0+1<=ia+ib)
      (fun c st'=>∃out ia ib mg ac bc,c=(none,out,ia,ib,mg,ac,bc)/\J out ia ib st'/\t0+1<=ia+ib)
    have hjp:∀(u:Unit) (g:Nat),wpS (model prog w) A E s (jp u g) R st3:=by
     intro u g
     refine wpS_bind (zmx j4 fun st4 j4'=>?_)
     obtain ⟨y,ey,iy,ky⟩:=ze0 hb (i:=ib) j3
     refine wpS_bind (zbp ey (wpS_bind (zz1 (j4'.kind.trans hk) ha sa iy (i:=ia) (by lia) fun k g1 g2 g3=>?_)))
     dsimp-zeta only
     extract_lets-underBinder+onlyGivenNames ac2 jp2
     have hrun:=j1.runA g1 (fun p hp q hq=>by
      obtain ⟨m,m1,m2,m3,m4⟩:=zic hp
      obtain ⟨m',n1,n2,n3⟩:=zdx hq
      have:=g2 m m1 m2
      unfold le;rw [<-m4,<-n3]
      exact ZAa (by simpa [Bey] using this) (ky▸znx sb n1 n2))
     have hjp2:∀(u:Unit) (out:Array Keyed) (i:Nat),Fv W a b out i ib->i+1<a.size->ia<=i->(∀m,i<=m->m<a.size->N y<Kk a m)->
      wpS (model prog w) A E s (jp2 u out i) R st4:=by
      intro u out i f1 f2 f3 f4
      refine wpS_bind (zbp ey ?_)
      have f5:=f1.oneB ey (fun q hq=>by
       obtain ⟨m',n1,n2,n3⟩:=zdx hq
       unfold le;rw [<-n3];exact ZAf (f4 m' n1 n2))
      by_cases c3:ib+1=b.size
      ·refine zbi (c:=(ib+1==b.size)=true) (by simpa using c3) ?_
       exact wpS_pure (.inl ⟨_,rfl,f5.end1 (.inr c3),j4'⟩)
      refine zci (c:=(ib+1==b.size)=true) (by simpa using c3) ?_
      obtain ⟨z,ez,iz,kz⟩:=ze0 ha (i:=i) (by lia)
      refine wpS_bind (zbp ez (wpS_bind (zz1 (j4'.kind.trans hk) hb sb iz (i:=ib+1) (by lia) fun k' g1' g2' g3'=>?_)))
      dsimp-zeta only
      extract_lets-underBinder+onlyGivenNames bc2 jp3
      have hrun':=f5.runB g1' (fun p hp q hq=>by
       obtain ⟨m,m1,m2,m3,m4⟩:=zic hp
       obtain ⟨m',n1,n2,n3⟩:=zdx hq
       have:=g2' m m1 m2
       unfold le;rw [<-m4,<-n3]
       exact ZAa (ZAf (by simpa [Bey] using this)) (kz▸znx sa n1 n2))
      have hjp3:∀(u:Unit) (out:Array Keyed) (j:Nat),Fv W a b out i j->j<b.size->ib+1<=j->(∀m,j<=m->m<b.size->N z<=Kk b m)->
       wpS (model prog w) A E s (jp3 u out j) R st4:=by
       intro u out j d1 d2 d3 d4
       refine wpS_bind (zbp ez ?_)
       have d5:=d1.oneA ez (fun q hq=>by
        obtain ⟨m',n1,n2,n3⟩:=zdx hq
        unfold le;rw [<-n3];exact d4 m' n1 n2)
       by_cases c4:i+1+1=a.size
       ·refine zbi (c:=(i+1+1==a.size)=true) (by simpa using c4) ?_
        exact wpS_pure (.inl ⟨_,rfl,d5.end2 (hlast c4),j4'⟩)
       refine zci (c:=(i+1+1==a.size)=true) (by simpa using c4) ?_
       have jj:J (out.push z) (i+1) j st4:=⟨d5,by lia,d2,j4'⟩
       by_cases c5:(decide (k<7) && decide (k'<7))=true
       ·refine zbi c5 ?_
        exact wpS_pure (.inr ⟨_,i+1,j,_,_,_,rfl,jj,by lia⟩)
       ·refine zci c5 ?_
        exact wpS_pure ⟨_,i+1,j,_,_,_,rfl,jj,by lia⟩
      by_cases c4:k'>0
      ·refine zbi c4 ?_
       by_cases c5:ib+1+k'=b.size
       ·refine zbi (c:=(ib+1+k'==b.size)=true) (by simpa using c5) ?_
        exact wpS_pure (.inl ⟨_,rfl,hrun'.end1 (.inr c5),j4'⟩)
       refine zci (c:=(ib+1+k'==b.size)=true) (by simpa using c5) ?_
       exact hjp3 () _ (ib+1+k') hrun' (by lia) (by lia) fun m m1 m2=>by simpa [Bey] using g3' m m1 m2
      ·refine zci c4 ?_
       obtain rfl:k'=0:=by lia
       exact hjp3 () _ (ib+1) f5 (by lia) (by lia) fun m m1 m2=>by simpa [Bey] using g3' m m1 m2
     by_cases c4:k>0
     ·refine zbi c4 ?_
      by_cases c5:ia+k+1=a.size
      ·refine zbi (c:=(ia+k+1==a.size)=true) (by simpa using c5) ?_
       exact wpS_pure (.inl ⟨_,rfl,hrun.end2 (hlast c5),j4'⟩)
      refine zci (c:=(ia+k+1==a.size)=true) (by simpa using c5) ?_
      by_cases c6:ia+k=a.size
      ·refine zbi (c:=(ia+k==a.size)=true) (by simpa using c6) ?_
       exact wpS_pure (.inl ⟨_,rfl,hrun.end1 (.inl c6),j4'⟩)
      refine zci (c:=(ia+k==a.size)=true) (by simpa using c6) ?_
      exact hjp2 () _ (ia+k) hrun (by lia) (by lia) fun m m1 m2=>by simpa [Bey] using g3 m m1 m2
     ·refine zci c4 ?_
      obtain rfl:k=0:=by lia
      exact hjp2 () _ ia j1 (by lia) (by lia) fun m m1 m2=>by simpa [Bey] using g3 m m1 m2
    by_cases c5:mg>1
    ·refine zbi c5 ?_
     exact hjp () (mg-1)
    ·refine zci c5 ?_
     exact hjp () mg
end
section
variable [SK] {prog:Program} {w:World} {A:Around} {E:Value->Shared->Prop} {s:Shared} [LtOk prog w A E s] {st st₀:SortSt} {a b:Array Keyed}
theorem zz0 {l:Bool} {key:Keyed} {n:Nat} {Q:Option Nat->SortSt->Prop} (hk:kindOf st=SK.kind)
 (hI:∀p,p∈a.toList->isN p) (hs:a.toList.Pairwise le) (hq:isN key) (hn:n<=a.size) (h0:0<n)
 (h:∀k,k<=n->(∀m,m<k->Bey l (N key) (Kk a m)=true)->(∀m,k<=m->m<n->Bey l (N key) (Kk a m)=false)->Q (some k) st):
 wpS (model prog w) A E s (gal l key a 0 n (n-1)) Q st:=by
 refine zmy hk hI hq (by lia) (fun x y hxy hy=>znx hs (by lia) (by lia)) (by lia) fun k h1 h2 h3=>?_
 refine h k h1 (fun m m1=>?_) (fun m m1 m2=>?_)
 ·have:=h2 m m1;rwa [Nat.zero_add] at this
 ·have:=h3 m m1 m2;rwa [Nat.zero_add] at this
theorem zv1 {Q:Array Keyed->SortSt->Prop} {W:List Keyed} (hW:W=a.toList++b.toList) (hk:kindOf st=SK.kind)
 (ha:∀p,p∈a.toList->isN p) (hb:∀p,p∈b.toList->isN p) (sa:a.toList.Pairwise le) (sb:b.toList.Pairwise le)
 (pa:0<a.size) (pb:0<b.size) (h0:Kk b 0<=Kk a 0) (hl:Kk b (b.size-1)<=Kk a (a.size-1))
 (h:∀r st',Sm st st'->Out le W r.toList->Q r st'):wpS (model prog w) A E s (mhi a b) Q st:=by
 have hfirst:∀{i j:Nat},j=1->∀p∈a.toList.take i,∀q∈b.toList.take j,ge p q:=by
  intro i j hj p hp q hq
  obtain ⟨x,x1,x2,x3⟩:=zdw hp
  obtain ⟨y,y1,y2,y3⟩:=zdw hq
  unfold ge
  rw [<-x3,<-y3,show y=0 by omega]
  exact ZAa h0 (znx sa (by omega) (by omega))
 let J:Array Keyed->Nat->Nat->SortSt->Prop:=fun out na nb st'=>Bv W a b out na nb/\0<na/\na<=a.size/\1<nb/\nb<=b.size/\Sm st st'
 let F:Array Keyed->SortSt->Prop:=fun r st'=>Out le W r.toList/\Sm st st'
 refine wpS_bind (wpS_lift (wpAny_rule ⟨rfl,?_⟩))
 obtain ⟨y0,e0,i0,k0⟩:=ze0 ha (i:=a.size-1) (by omega)
 refine wpS_bind (zbp e0 ?_)
 have zdo:Bv W a b #[y0] (a.size-1) b.size:=by
  have:Bv W a b #[] (a.size-1+1) b.size:=by
   rw [show a.size-1+1=a.size by omega]
   unfold Bv
   rw [List.take_of_length_le (by simp),List.take_of_length_le (by simp)]
   refine ⟨?_,List.Pairwise.nil,List.pairwise_reverse.mpr sa,List.pairwise_reverse.mpr sb,by simp,by simp⟩
   rw [hW]
   exact (List.reverse_perm _).append (List.reverse_perm _)
  refine this.oneA e0 fun q hq=>?_
  obtain ⟨m,m1,m2,m3⟩:=zdw hq
  unfold ge;rw [<-m3,<-k0]
  exact ZAa (znx sb (by omega) (by omega)) hl
 by_cases c1:a.size-1=0
 ·refine zbi (c:=(a.size-1==0)=true) (by simpa using c1) ?_
  exact wpS_pure (h _ _ (Sm.refl st) (zdo.end1 (.inl c1)))
 refine zci (c:=(a.size-1==0)=true) (by simpa using c1) ?_
 by_cases c2:b.size=1
 ·refine zbi (c:=(b.size==1)=true) (by simpa using c2) ?_
  exact wpS_pure (h _ _ (Sm.refl st) (zdo.end2 (hfirst c2)))
 refine zci (c:=(b.size==1)=true) (by simpa using c2) ?_
 refine wpS_bind (wpS_get ?_)
 refine wpS_bind (wpS_mono (zem
  (I:=fun x c st'=>∃na nb out mg,c=(none,na,nb,out,mg)/\J out na nb st'/\na+nb+x<=a.size+b.size)
  (Q:=fun c st'=>∃r,c.1=some r/\F r st') ?outer ?oend ⟨a.size-1,b.size,_,_,rfl,⟨zdo,by omega,by omega,by omega,by omega,Sm.refl st⟩,by omega⟩) ?post)
 case post=>
  rintro ⟨c1,c2⟩ st' ⟨r,rfl,hF⟩
  exact wpS_pure (h r st' hF.2 hF.1)
 case oend=>
  rintro c st' ⟨na,nb,out,mg,rfl,⟨_,j2,j3,j4,j5,_⟩,hx⟩
  exfalso
  omega
 case outer=>
  rintro x c st' hx ⟨na,nb,out,mg,rfl,hJ,hxx⟩
  obtain ⟨t0,ht0⟩:∃t0,na+nb=t0:=⟨_,rfl⟩
  refine wpS_bind (wpS_mono (zem
   (I:=fun x c st'=>∃na nb out ac bc,c=(none,na,nb,out,ac,bc)/\J out na nb st'/\na+nb+x<=t0)
   (Q:=fun c st'=>(∃r,c.1=some r/\F r st')\/∃na nb out ac bc,c=(none,na,nb,out,ac,bc)/\J out na nb st'/\na+nb+1<=t0)
   ?one ?oneEnd ⟨na,nb,out,0,0,rfl,hJ,by omega⟩) ?two)
  case oneEnd=>
   rintro c st' ⟨na,nb,out,ac,bc,rfl,j,hx'⟩
   exact .inr ⟨na,nb,out,ac,bc,rfl,j,by omega⟩
  case one=>
   rintro x' c st' _ ⟨na,nb,out,ac,bc,rfl,⟨j1,j2,j3,j4,j5,j6⟩,hx'⟩
   obtain ⟨y,ey,iy,ky⟩:=ze0 hb (i:=nb-1) (by omega)
   obtain ⟨z,ez,iz,kz⟩:=ze0 ha (i:=na-1) (by omega)
   refine wpS_bind (zbp ey (wpS_bind (zbp ez (wpS_bind (zoq (j6.kind.trans hk) iy iz ?_)))))
   by_cases hlt:N y<N z
   ·rw [ZB8 hlt]
    refine wpS_bind (zbp ez ?_)
    have j1':Bv W a b (out.push z) (na-1) nb:=Bv.oneA (by rwa [show na-1+1=na by omega]) ez (fun q hq=>by
     obtain ⟨m,m1,m2,m3⟩:=zdw hq
     unfold ge;rw [<-m3]
     exact ZAa (ky▸znx sb (by omega) (by omega)) (ZAf hlt))
    by_cases c3:na-1=0
    ·refine zbi (c:=(na-1==0)=true) (by simpa using c3) ?_
     exact wpS_pure (.inl ⟨_,rfl,j1'.end1 (.inl c3),j6⟩)
    refine zci (c:=(na-1==0)=true) (by simpa using c3) ?_
    have jj:J (out.push z) (na-1) nb st':=⟨j1',by omega,by omega,j4,j5,j6⟩
    by_cases c4:ac+1>=mg
    ·refine zbi c4 ?_
     exact wpS_pure (.inr ⟨na-1,nb,_,_,_,rfl,jj,by omega⟩)
    ·refine zci c4 ?_
     exact wpS_pure ⟨na-1,nb,_,_,_,rfl,jj,by omega⟩
   ·rw [ZB9 hlt]
    refine wpS_bind (zbp ey ?_)
    have j1':Bv W a b (out.push y) na (nb-1):=Bv.oneB (by rwa [show nb-1+1=nb by omega]) ey (fun q hq=>by
     obtain ⟨m,m1,m2,m3⟩:=zdw hq
     unfold ge;rw [<-m3]
     exact ZAa (kz▸znx sa (by omega) (by omega)) (Int.not_lt.mp hlt))
    by_cases c3:nb-1=1
    ·refine zbi (c:=(nb-1==1)=true) (by simpa using c3) ?_
     exact wpS_pure (.inl ⟨_,rfl,j1'.end2 (hfirst c3),j6⟩)
    refine zci (c:=(nb-1==1)=true) (by simpa using c3) ?_
    have jj:J (out.push y) na (nb-1) st':=⟨j1',j2,j3,by omega,by omega,j6⟩
    by_cases c4:bc+1>=mg
    ·refine zbi c4 ?_
     exact wpS_pure (.inr ⟨na,nb-1,_,_,_,rfl,jj,by omega⟩)
    ·refine zci c4 ?_
     exact wpS_pure ⟨na,nb-1,_,_,_,rfl,jj,by omega⟩
  case two=>
   rintro ⟨c1,c2⟩ st2 (⟨r,rfl,hF⟩ | ⟨na,nb,out,ac,bc,e,hJ',ht⟩)
   ·exact wpS_pure ⟨r,rfl,hF⟩
   cases e
   refine wpS_bind (wpS_lift (wpAny_rule ⟨rfl,?_⟩))
   refine wpS_bind (wpS_mono (zem
    (I:=fun x c st'=>∃na nb out mg ac bc,c=(none,na,nb,out,mg,ac,bc)/\J out na nb st'/\na+nb+1<=t0)
    (Q:=fun c st'=>(∃r,c.1=some r/\F r st')\/∃na nb out mg ac bc,c=(none,na,nb,out,mg,ac,bc)/\J out na nb st'/\na+nb+1<=t0)
    ?gal ?galEnd ⟨_,_,_,_,_,_,rfl,hJ',ht⟩) ?three)
   case galEnd=>exact fun c st' hh=>.inr hh
   case three=>
    rintro ⟨c1,c2⟩ st3 (⟨r,rfl,hF⟩ | ⟨na,nb,out,mg,ac,bc,e,⟨j1,j2,j3,j4,j5,j6⟩,ht⟩)
    ·exact wpS_pure ⟨r,rfl,hF⟩
    cases e
    exact wpS_bind (zmx j6 fun st4 j6'=>wpS_pure ⟨na,nb,out,_,rfl,⟨j1,j2,j3,j4,j5,j6'⟩,by omega⟩)
   case gal=>
    rintro x' c st3 _ ⟨na,nb,out,mg,ac,bc,rfl,⟨j1,j2,j3,j4,j5,j6⟩,ht⟩
    extract_lets-underBinder+onlyGivenNames s1 na1 s2 nb1 s3 out1 s4 mg1 s5 ac1 bc1 jp
    let R:ForInStep (Option (Array Keyed)×Nat×Nat×Array Keyed×Nat×Nat×Nat)->SortSt->Prop:=
     SQ (fun c st'=>(∃r,c.1=some r/\F r st')\/∃na nb out mg ac bc,c=(none,na,nb,out,mg,ac,bc)/\J out na nb st'/\na+nb+1<=t0)
      (fun c st'=>∃na nb out mg ac bc,c=(none,na,nb,out,mg,ac,bc)/\J out na nb st'/\na+nb+1<=t0)
    have hjp:∀(u:Unit) (g:Nat),wpS (model prog w) A E s (jp u g) R st3:=by
     intro u g
     refine wpS_bind (zmx j6 fun st4 j6'=>?_)
     obtain ⟨y,ey,iy,ky⟩:=ze0 hb (i:=nb-1) (by omega)
     refine wpS_bind (zbp ey (wpS_bind (zz0 (j6'.kind.trans hk) ha sa iy (n:=na) j3 j2 fun k g1 g2 g3=>?_)))
     dsimp-zeta only
     extract_lets-underBinder+onlyGivenNames kk ac2 jp2
     have hrun:=j1.runA g1 (fun p hp q hq=>by
      obtain ⟨m,m1,m2,m3,m4⟩:=zic hp
      obtain ⟨m',n1,n2,n3⟩:=zdw hq
      have:=g3 m m1 m2
      unfold ge;rw [<-m4,<-n3]
      exact ZAa (ky▸znx sb (i:=m') (j:=nb-1) (by omega) (by omega)) (ZAf (by simpa [Bey] using this)))
     have hjp2:∀(u:Unit) (i:Nat) (out:Array Keyed),Bv W a b out i nb->0<i->i<=na->(∀m,m<i->Kk a m<=N y)->
      wpS (model prog w) A E s (jp2 u i out) R st4:=by
      intro u i out f1 f2 f3 f4
      refine wpS_bind (zbp ey ?_)
      have f5:Bv W a b (out.push y) i (nb-1):=Bv.oneB (by rwa [show nb-1+1=nb by omega]) ey (fun q hq=>by
       obtain ⟨m',n1,n2,n3⟩:=zdw hq
       unfold ge;rw [<-n3];exact f4 m' n1)
      by_cases c3:nb-1=1
      ·refine zbi (c:=(nb-1==1)=true) (by simpa using c3) ?_
       exact wpS_pure (.inl ⟨_,rfl,f5.end2 (hfirst c3),j6'⟩)
      refine zci (c:=(nb-1==1)=true) (by simpa using c3) ?_
      obtain ⟨z,ez,iz,kz⟩:=ze0 ha (i:=i-1) (by omega)
      refine wpS_bind (zbp ez (wpS_bind (zz0 (j6'.kind.trans hk) hb sb iz (n:=nb-1) (by omega) (by omega) fun k' g1' g2' g3'=>?_)))
      dsimp-zeta only
      extract_lets-underBinder+onlyGivenNames kk2 bc2 jp3
      have hrun':=f5.runB g1' (fun p hp q hq=>by
       obtain ⟨m,m1,m2,m3,m4⟩:=zic hp
       obtain ⟨m',n1,n2,n3⟩:=zdw hq
       have:=g3' m m1 m2
       unfold ge;rw [<-m4,<-n3]
       exact ZAa (kz▸znx sa (i:=m') (j:=i-1) (by omega) (by omega)) (by simpa [Bey] using this))
      have hjp3:∀(u:Unit) (j:Nat) (out:Array Keyed),Bv W a b out i j->1<j->j<=nb-1->(∀m,m<j->Kk b m<=N z)->
       wpS (model prog w) A E s (jp3 u j out) R st4:=by
       intro u j out d1 d2 d3 d4
       refine wpS_bind (zbp ez ?_)
       have d5:Bv W a b (out.push z) (i-1) j:=Bv.oneA (by rwa [show i-1+1=i by omega]) ez (fun q hq=>by
        obtain ⟨m',n1,n2,n3⟩:=zdw hq
        unfold ge;rw [<-n3];exact d4 m' n1)
       by_cases c4:i-1=0
       ·refine zbi (c:=(i-1==0)=true) (by simpa using c4) ?_
        exact wpS_pure (.inl ⟨_,rfl,d5.end1 (.inl c4),j6'⟩)
       refine zci (c:=(i-1==0)=true) (by simpa using c4) ?_
       have jj:J (out.push z) (i-1) j st4:=⟨d5,by omega,by omega,d2,by omega,j6'⟩
       by_cases c5:(decide (na-k<7) && decide (nb-1-k'<7))=true
       ·refine zbi c5 ?_
        exact wpS_pure (.inr ⟨i-1,j,_,_,_,_,rfl,jj,by omega⟩)
       ·refine zci c5 ?_
        exact wpS_pure ⟨i-1,j,_,_,_,_,rfl,jj,by omega⟩
      have hz:∀m,m<k'->Kk b m<=N z:=fun m m1=>ZAf (by simpa [Bey] using g2' m m1)
      by_cases c4:nb-1-k'>0
      ·refine zbi c4 ?_
       by_cases c5:k'=1
       ·refine zbi (c:=(k'==1)=true) (by simpa using c5) ?_
        exact wpS_pure (.inl ⟨_,rfl,hrun'.end2 (hfirst c5),j6'⟩)
       refine zci (c:=(k'==1)=true) (by simpa using c5) ?_
       by_cases c6:k'=0
       ·refine zbi (c:=(k'==0)=true) (by simpa using c6) ?_
        exact wpS_pure (.inl ⟨_,rfl,hrun'.end1 (.inr c6),j6'⟩)
       refine zci (c:=(k'==0)=true) (by simpa using c6) ?_
       exact hjp3 () k' _ hrun' (by omega) (by omega) hz
      ·refine zci c4 ?_
       obtain rfl:k'=nb-1:=by omega
       exact hjp3 () (nb-1) _ f5 (by omega) (by omega) hz
     have hy:∀m,m<k->Kk a m<=N y:=fun m m1=>by simpa [Bey] using g2 m m1
     by_cases c4:na-k>0
     ·refine zbi c4 ?_
      by_cases c5:k=0
      ·refine zbi (c:=(k==0)=true) (by simpa using c5) ?_
       exact wpS_pure (.inl ⟨_,rfl,hrun.end1 (.inl c5),j6'⟩)
      refine zci (c:=(k==0)=true) (by simpa using c5) ?_
      exact hjp2 () k _ hrun (by omega) (by omega) hy
     ·refine zci c4 ?_
      obtain rfl:k=na:=by omega
      exact hjp2 () k _ j1 (by omega) (by omega) hy
    by_cases c5:mg>1
    ·refine zbi c5 ?_
     exact hjp () (mg-1)
    ·refine zci c5 ?_
     exact hjp () mg
end
section
variable [SK]
def Srt (xs:Array Keyed) (a b:Nat):Prop:=∀i j,a<=i->i<=j->j<b->Kk xs i<=Kk xs j
theorem zku (sa:Nat):∀(l:List Keyed) (n:Nat) (xs:Array Keyed),sa+n+l.length<=xs.size->
 ((l.zipIdx n).foldl (fun a (pj:Keyed×Nat)=>a.setIfInBounds (sa+pj.2) pj.1) xs).toList
   =xs.toList.take (sa+n)++(l++xs.toList.drop (sa+n+l.length))
 | [],n,xs,_=>by simp
 | p::t,n,xs,h=>by
  simp only [ZBp] at h
  rw [List.zipIdx_cons,List.foldl_cons,zku sa t (n+1) _ (by simp;lia)]
  simp only [Array.toList_setIfInBounds]
  rw [show sa+(n+1)=sa+n+1 by lia,List.drop_set_of_lt (by lia),ZBp,
   show sa+n+1+t.length=sa+n+(t.length+1) by lia]
  have:(xs.toList.set (sa+n) p).take (sa+n+1)=xs.toList.take (sa+n)++[p]:=by
   rw [List.take_succ_eq_append_getElem (by simp;lia),List.take_set_of_le (ZAw _)]
   simp
  rw [this];simp
section seg
variable {xs ys:Array Keyed} {a b:Nat} {M:List Keyed}
theorem zya (h:ys.toList=xs.toList.take a++(M++xs.toList.drop (a+M.length))) (hs:a+M.length<=xs.size):
 (∀m,m<a\/a+M.length<=m->Kk ys m=Kk xs m)/\∀m,(hm:m<M.length)->Kk ys (a+m)=N M[m]:=by
 have hl:(xs.toList.take a).length=a:=by simp;lia
 refine ⟨fun m hm=>?_,fun m hm=>?_⟩
 ·refine zf7 ?_
  rw [<-Array.getElem?_toList,<-Array.getElem?_toList,h]
  rcases hm with hm | hm
  ·rw [ZBq (by lia),List.getElem?_take_of_lt hm]
  ·rw [ZBk (by lia),hl,ZBk (by lia),List.getElem?_drop]
   congr 1;lia
 ·refine zgr ?_
  rw [<-Array.getElem?_toList,h,ZBk (by lia),hl,Nat.add_sub_cancel_left,ZBq hm,ZAx hm]
theorem zr0 (h:ys.toList=xs.toList.take a++(M++xs.toList.drop (a+M.length))) (hM:M.Perm (xs.extract a b).toList) (hb:b<=xs.size) (hab:a<=b):ys.Perm xs:=by
 have hl:M.length=b-a:=by rw [hM.length_eq];simp;lia
 refine Array.perm_iff_toList_perm.mpr ?_
 rw [h]
 have e:xs.toList=xs.toList.take a++((xs.extract a b).toList++xs.toList.drop (a+M.length)):=by
  conv=>lhs;rw [<-List.take_append_drop a xs.toList]
  congr 1
  have:=zd0 (a:=xs) (i:=a) (k:=b-a) (by lia)
  rw [show a+(b-a)=b by lia] at this
  rw [this,show a+M.length=b by lia]
 conv=>rhs;rw [e]
 exact (hM.append_right _).append_left _
end seg
structure Bs (a₀:Array Keyed) (st:SortSt):Prop where
 perm:(arrOf st).Perm a₀
 kind:kindOf st=SK.kind
 fail:failedOf st=none
theorem Bs.size {a₀:Array Keyed} {st:SortSt} (h:Bs a₀ st):(arrOf st).size=a₀.size:=h.perm.size_eq
theorem Bs.nums {a₀:Array Keyed} {st:SortSt} (h:Bs a₀ st) (h0:∀p,p∈a₀.toList->isN p):∀p,p∈(arrOf st).toList->isN p:=
 fun p hp=>h0 p ((Array.perm_iff_toList_perm.mp h.perm).mem_iff.mp hp)
theorem zng {xs:Array Keyed} {a b:Nat} (hs:Srt xs a b) (hb:b<=xs.size):(xs.extract a b).toList.Pairwise le:=by
 rw [ZBt]
 intro i j hi hj hij
 simp only [ZAj,Array.size_extract] at hi hj
 simp only [Array.getElem_toList,Array.getElem_extract]
 have:=hs (a+i) (a+j) (by lia) (by lia) (by lia)
 rw [zgr (getElem?_pos xs (a+i) (by lia)),zgr (getElem?_pos xs (a+j) (by lia))] at this
 exact this
theorem zs6 {xs:Array Keyed} {a b m:Nat} (hm:a+m<b) (_hb:b<=xs.size):Kk (xs.extract a b) m=Kk xs (a+m):=by
 refine zf7 ?_
 rw [Array.getElem?_extract,if_pos (by lia)]
end
section
variable [SK] {prog:Program} {w:World} {A:Around} {E:Value->Shared->Prop} {s:Shared} [LtOk prog w A E s] {st:SortSt} {a₀:Array Keyed}
theorem zua {st':SortSt} {Q:PUnit->SortSt->Prop} (h:Q ⟨⟩ st'):wpS (model prog w) A E s (set st':StateT SortSt Sem PUnit) Q st:=by
 unfold wpS;rw [StateT.run_set];exact ZAq ⟨rfl,h⟩
theorem zv2 {i:Nat} {L T:List (Nat×Nat×Nat)} {sa na p sb nb p':Nat} {Q:Bool->SortSt->Prop} (h0:∀p,p∈a₀.toList->isN p) (hB:Bs a₀ st)
 (hp:pendingOf st=(L++(sa,na,p)::(sb,nb,p')::T).toArray) (hi:i=L.length) (hadj:sb=sa+na) (hna:1<=na) (hnb:1<=nb)
 (hsz:sb+nb<=a₀.size) (s1:Srt (arrOf st) sa sb) (s2:Srt (arrOf st) sb (sb+nb))
 (h:∀st',Bs a₀ st'->pendingOf st'=(L++(sa,na+nb,p)::T).toArray->Srt (arrOf st') sa (sb+nb)->
  (∀m,m<sa\/sb+nb<=m->Kk (arrOf st') m=Kk (arrOf st) m)->Q true st'):
 wpS (model prog w) A E s (mergeAt' i) Q st:=by
 subst hi
 have hI:=hB.nums h0
 have hsize:=hB.size
 refine wpS_bind (wpS_get ?_)
 have g1:(pendingOf st)[L.length]?=some (sa,na,p):=by rw [hp];simp
 have g2:(pendingOf st)[L.length+1]?=some (sb,nb,p'):=by rw [hp];simp
 have g3:((pendingOf st).setIfInBounds L.length (sa,na+nb,p)).eraseIdxIfInBounds (L.length+1)=(L++(sa,na+nb,p)::T).toArray:=by
  rw [hp]
  apply Array.toList_inj.mp
  simp [List.eraseIdx_append_of_length_le]
 refine (show ((pendingOf st)[L.length]?,(pendingOf st)[L.length+1]?)=(some (sa,na,p),some (sb,nb,p')) by rw [g1,g2]).symm▸?_
 refine wpS_bind (zua (g3.symm▸?_))
 refine (fun (H:∀st1:SortSt,st1=SortSt.mk' (kindOf st) (arrOf st) ((L++(sa,na+nb,p)::T).toArray) (gallopOf st) (failedOf st)->
  wpS (model prog w) A E s _ Q st1)=>H _ rfl) ?_
 intro st1 e1
 have b1:Bs a₀ st1:=by rw [e1];exact ⟨hB.perm,hB.kind,hB.fail⟩
 have x1:arrOf st1=arrOf st:=by rw [e1]
 have p1:pendingOf st1=(L++(sa,na+nb,p)::T).toArray:=by rw [e1]
 have keep:Srt (arrOf st) sa (sb+nb)->Q true st1:=fun hs=>h st1 b1 p1 (by rw [x1];exact hs) (fun m _=>by rw [x1])
 clear e1
 obtain ⟨y,ey,iy,ky⟩:=ze0 hI (i:=sb) (by lia)
 refine wpS_bind (zbp ey (wpS_bind (zmy (a:=arrOf st) b1.kind hI iy (n:=na) (by lia) (fun i j hij hj=>s1 _ _ (by lia) (by lia) (by lia)) (by lia)
  fun k k1 k2 k3=>?_)))
 have k2':∀m,sa<=m->m<sa+k->Kk (arrOf st) m<=Kk (arrOf st) sb:=fun m m1 m2=>by
  have:=k2 (m-sa) (by lia);rw [show sa+(m-sa)=m by lia] at this
  rw [ky];simpa [Bey] using this
 have k3':∀m,sa+k<=m->m<sb->Kk (arrOf st) sb<Kk (arrOf st) m:=fun m m1 m2=>by
  have:=k3 (m-sa) (by lia) (by lia);rw [show sa+(m-sa)=m by lia] at this
  rw [ky];simpa [Bey] using this
 dsimp-zeta only
 by_cases c1:na-k=0
 ·refine zbi (c:=(na-k==0)=true) (by simpa using c1) ?_
  refine wpS_pure (keep fun i j h1 h2 h3=>?_)
  by_cases hj:j<sb
  ·exact s1 i j h1 h2 hj
  by_cases hi:sb<=i
  ·exact s2 i j hi h2 h3
  exact ZAa (k2' i h1 (by lia)) (s2 sb j (ZAw _) (by lia) h3)
 refine zci (c:=(na-k==0)=true) (by simpa using c1) ?_
 obtain ⟨z,ez,iz,kz⟩:=ze0 hI (i:=sa+k+(na-k)-1) (by lia)
 have esb:sa+k+(na-k)-1=sb-1:=by lia
 refine wpS_bind (zbp ez (wpS_bind (zmy (a:=arrOf st) b1.kind hI iz (b:=sb) (n:=nb) (by lia) (fun i j hij hj=>s2 _ _ (by lia) (by lia) (by lia)) (by lia)
  fun nb' q1 q2 q3=>?_)))
 rw [esb] at kz
 have q2':∀m,sb<=m->m<sb+nb'->Kk (arrOf st) m<Kk (arrOf st) (sb-1):=fun m m1 m2=>by
  have:=q2 (m-sb) (by lia);rw [show sb+(m-sb)=m by lia] at this
  rw [kz];simpa [Bey] using this
 have q3':∀m,sb+nb'<=m->m<sb+nb->Kk (arrOf st) (sb-1)<=Kk (arrOf st) m:=fun m m1 m2=>by
  have:=q3 (m-sb) (by lia) (by lia);rw [show sb+(m-sb)=m by lia] at this
  rw [kz];simpa [Bey] using this
 dsimp-zeta only
 by_cases c2:nb'=0
 ·refine zbi (c:=(nb'==0)=true) (by simpa using c2) ?_
  refine wpS_pure (keep fun i j h1 h2 h3=>?_)
  by_cases hj:j<sb
  ·exact s1 i j h1 h2 hj
  by_cases hi:sb<=i
  ·exact s2 i j hi h2 h3
  exact ZAa (s1 i (sb-1) h1 (by lia) (by lia)) (q3' j (by lia) h3)
 refine zci (c:=(nb'==0)=true) (by simpa using c2) ?_
 extract_lets-underBinder+onlyGivenNames x y' jp
 have szx:x.size=na-k:=by show ((arrOf st).extract (sa+k) sb).size=_;rw [Array.size_extract];lia
 have szy:y'.size=nb':=by show ((arrOf st).extract sb (sb+nb')).size=_;rw [Array.size_extract];lia
 have hx:∀q,q∈x.toList->isN q:=fun q hq=>hI q (by
  have:q∈((arrOf st).extract (sa+k) sb).toList:=hq
  rw [Array.toList_extract,List.extract_eq_take_drop] at this
  exact List.mem_of_mem_drop (List.mem_of_mem_take this))
 have hy:∀q,q∈y'.toList->isN q:=fun q hq=>hI q (by
  have:q∈((arrOf st).extract sb (sb+nb')).toList:=hq
  rw [Array.toList_extract,List.extract_eq_take_drop] at this
  exact List.mem_of_mem_drop (List.mem_of_mem_take this))
 have ox:x.toList.Pairwise le:=zng (xs:=arrOf st) (fun i j h1 h2 h3=>s1 i j (by lia) h2 h3) (by lia)
 have oy:y'.toList.Pairwise le:=zng (xs:=arrOf st) (fun i j h1 h2 h3=>s2 i j h1 h2 (by lia)) (by lia)
 have hf:Kk y' 0<=Kk x 0:=by
  show Kk ((arrOf st).extract sb (sb+nb')) 0<=Kk ((arrOf st).extract (sa+k) sb) 0
  rw [zs6 (by lia) (by lia),zs6 (by lia) (by lia)]
  exact ZAf (k3' _ (by lia) (by lia))
 have hl:Kk y' (y'.size-1)<=Kk x (x.size-1):=by
  rw [szx,szy]
  show Kk ((arrOf st).extract sb (sb+nb')) _<=Kk ((arrOf st).extract (sa+k) sb) _
  rw [zs6 (by lia) (by lia),zs6 (by lia) (by lia),show sa+k+(na-k-1)=sb-1 by lia]
  exact ZAf (q2' _ (by lia) (by lia))
 have hW:x.toList++y'.toList=((arrOf st).extract (sa+k) (sb+nb')).toList:=by
  have e1:=zd0 (a:=(arrOf st)) (i:=sa+k) (k:=na-k) (by lia)
  have e2:=zd0 (a:=(arrOf st)) (i:=sb) (k:=nb') (by lia)
  have e3:=zd0 (a:=(arrOf st)) (i:=sa+k) (k:=na-k+nb') (by lia)
  rw [show sa+k+(na-k)=sb by lia] at e1
  rw [show sa+k+(na-k+nb')=sb+nb' by lia] at e3
  rw [e2] at e1
  rw [e3,<-List.append_assoc] at e1
  exact (List.append_cancel_right e1).symm
 have hjp:∀r st2,Sm st1 st2->Out le (x.toList++y'.toList) r.toList->wpS (model prog w) A E s (jp r) Q st2:=by
  intro r st2 hm hO
  rw [hW] at hO
  have rl:r.toList.length=na-k+nb':=by rw [hO.1.length_eq];simp;lia
  refine wpS_bind (wpS_modify (wpS_bind (wpS_get (wpS_pure ?_))))
  have hY:=zku (sa+k) r.toList 0 (arrOf st2) (by rw [hm.arr,x1];lia)
  rw [hm.arr,x1,Nat.add_zero] at hY
  have hKs:=zya hY (by lia)
  have hP:=zr0 hY hO.1 (by lia) (by lia)
  have hmem:∀m,sa+k<=m->m<sb+nb'->∀v,v=Kk (List.foldl (fun a (pj:Keyed×Nat)=>a.setIfInBounds (sa+k+pj.2) pj.1) (arrOf st) (r.toList.zipIdx 0)) m->Kk (arrOf st) sb<=v/\v<=Kk (arrOf st) (sb-1):=by
   rintro m m1 m2 v rfl
   have:=hKs.2 (m-(sa+k)) (by lia)
   rw [show sa+k+(m-(sa+k))=m by lia] at this
   rw [this]
   obtain ⟨m',n1,n2,n3,n4⟩:=zic (hO.1.mem_iff.mp (ZB3 (l:=r.toList) (n:=m-(sa+k)) (by lia)))
   rw [<-n4]
   by_cases hc:m'<sb
   ·exact ⟨ZAf (k3' m' n1 hc),s1 _ _ (by lia) (by lia) (by lia)⟩
   ·exact ⟨s2 _ _ (by lia) (by lia) (by lia),ZAf (q2' m' (by lia) n2)⟩
  have hfail:(failedOf st2).isNone=true:=by rw [hm.fail,b1.fail];rfl
  have hfold:List.foldl (fun a x=>match x with | (p,j)=>a.setIfInBounds (sa+k+j) p) (arrOf st2) r.toList.zipIdx
   =List.foldl (fun a (pj:Keyed×Nat)=>a.setIfInBounds (sa+k+pj.2) pj.1) (arrOf st) (r.toList.zipIdx 0):=by rw [hm.arr,x1]
  generalize List.foldl (fun a (pj:Keyed×Nat)=>a.setIfInBounds (sa+k+pj.2) pj.1) (arrOf st) (r.toList.zipIdx 0)=Y at hfold hY hKs hP hmem
  refine (show Q (failedOf st2).isNone (SortSt.mk' (kindOf st2) (List.foldl (fun a x=>match x with | (p,j)=>a.setIfInBounds (sa+k+j) p) (arrOf st2) r.toList.zipIdx) (pendingOf st2) (gallopOf st2) (failedOf st2)) from ?_)
  rw [hfold,hfail]
  refine h _ ⟨hP.trans hB.perm,hm.kind.trans b1.kind,hm.fail.trans b1.fail⟩ (hm.pend.trans p1) ?_ ?_
  ·show Srt Y sa (sb+nb)
   have out1:∀m,m<sa+k->Kk Y m=Kk (arrOf st) m:=fun m m1=>hKs.1 m (.inl m1)
   have out2:∀m,sb+nb'<=m->Kk Y m=Kk (arrOf st) m:=fun m m1=>hKs.1 m (.inr (by lia))
   intro i j h1 h2 h3
   by_cases i1:i<sa+k
   ·rw [out1 i i1]
    by_cases j1:j<sa+k
    ·rw [out1 j j1];exact s1 i j h1 h2 (by lia)
    have:=k2' i h1 i1
    by_cases j2:j<sb+nb'
    ·exact ZAa this (hmem j (by lia) j2 _ rfl).1
    ·rw [out2 j (by lia)];exact ZAa this (s2 _ _ (ZAw _) (by lia) h3)
   by_cases i2:i<sb+nb'
   ·by_cases j2:j<sb+nb'
    ·rcases Nat.lt_or_eq_of_le h2 with hij | rfl
     ·have e1:=hKs.2 (i-(sa+k)) (by lia)
      have e2:=hKs.2 (j-(sa+k)) (by lia)
      rw [show sa+k+(i-(sa+k))=i by lia] at e1
      rw [show sa+k+(j-(sa+k))=j by lia] at e2
      rw [e1,e2]
      exact ZBt.mp hO.2 _ _ _ _ (by lia)
     ·exact Int.le_refl _
    ·rw [out2 j (by lia)]
     exact ZAa (hmem i (by lia) i2 _ rfl).2 (q3' j (by lia) h3)
   ·rw [out2 i (by lia),out2 j (by lia)];exact s2 i j (by lia) h2 h3
  ·intro m hm'
   exact hKs.1 m (by lia)
 by_cases c3:na-k<=nb'
 ·refine zbi c3 ?_
  exact wpS_bind (zv0 rfl b1.kind hx hy ox oy (by lia) (by lia) hf hl fun r st2 hm hO=>hjp r st2 hm hO)
 ·refine zci c3 ?_
  exact wpS_bind (zv1 rfl b1.kind hx hy ox oy (by lia) (by lia) hf hl fun r st2 hm hO=>hjp r st2 hm hO)
end
section
variable [SK]
def Dec (xs:Array Keyed) (a b:Nat):Prop:=∀i j,a<=i->i<=j->j<b->Kk xs j<=Kk xs i
structure Go (a₀:Array Keyed) (lo:Nat) (st st':SortSt):Prop where
 base:Bs a₀ st'
 pend:pendingOf st'=pendingOf st
 low:∀m,m<lo->Kk (arrOf st') m=Kk (arrOf st) m
theorem Go.refl {a₀:Array Keyed} {lo:Nat} {st:SortSt} (h:Bs a₀ st):Go a₀ lo st st:=⟨h,rfl,fun _ _=>rfl⟩
theorem Go.put {a₀:Array Keyed} {lo:Nat} {st st':SortSt} (h:Go a₀ lo st st') {xs:Array Keyed} (hp:xs.Perm (arrOf st')) (hl:∀m,m<lo->Kk xs m=Kk (arrOf st') m):
 Go a₀ lo st (setArr st' xs):=⟨⟨hp.trans h.base.perm,h.base.kind,h.base.fail⟩,h.pend,fun m hm=>(hl m hm).trans (h.low m hm)⟩
theorem Srt.snoc {xs:Array Keyed} {a b:Nat} (h:Srt xs a b) (hl:a<b->Kk xs (b-1)<=Kk xs b):Srt xs a (b+1):=by
 intro i j h1 h2 h3
 by_cases hj:j<b
 ·exact h i j h1 h2 hj
 obtain rfl:j=b:=by lia
 by_cases hi:i=j
 ·rw [hi];exact Int.le_refl _
 ·exact ZAa (h i (j-1) h1 (by lia) (by lia)) (hl (by lia))
theorem Dec.snoc {xs:Array Keyed} {a b:Nat} (h:Dec xs a b) (hl:a<b->Kk xs b<=Kk xs (b-1)):Dec xs a (b+1):=by
 intro i j h1 h2 h3
 by_cases hj:j<b
 ·exact h i j h1 h2 hj
 obtain rfl:j=b:=by lia
 by_cases hi:i=j
 ·rw [hi];exact Int.le_refl _
 ·exact ZAa (hl (by lia)) (h i (j-1) h1 (by lia) (by lia))
theorem Srt.one (xs:Array Keyed) (a:Nat):Srt xs a (a+1):=fun i j h1 h2 h3=>by
 obtain rfl:i=j:=by lia
 exact Int.le_refl _
theorem Dec.rev {xs:Array Keyed} {a b:Nat} (h:Dec xs a b) (hb:b<=xs.size):Srt (mirror xs a b ((b-a) / 2)) a b:=by
 intro i j h1 h2 h3
 rw [zhx hb,zhx hb,if_pos ⟨h1,by omega⟩,if_pos ⟨by omega,h3⟩]
 exact h _ _ (by omega) (by omega) (by omega)
end
section
variable [SK] {prog:Program} {w:World} {A:Around} {E:Value->Shared->Prop} {s:Shared} [LtOk prog w A E s] {st:SortSt} {a₀:Array Keyed}
theorem zhi {β:Type} {a n:Nat} {f:Nat->β->StateT SortSt Sem (ForInStep β)} (I:Nat->β->SortSt->Prop) {Q:β->SortSt->Prop} (han:a<=n)
 (hstep:∀i c st,a<=i->i<n->I i c st->wpS (model prog w) A E s (f i c) (SQ Q (I (i+1))) st)
 (hend:∀c st,I n c st->Q c st) {c:β} {st:SortSt} (h:I a c st):wpS (model prog w) A E s (forIn [a:n] c f) Q st:=
 wpS_forRange I (fun i c st hai hi hI=>wpS_mono (hstep i c st hai hi hI) fun r st' h'=>by cases r<;>exact h')
  (fun c st h'=>hend c st (by rwa [Nat.max_eq_right han] at h')) h
theorem znz {i j:Nat} {Q:Option Bool->SortSt->Prop} (h0:∀p,p∈a₀.toList->isN p) (hB:Bs a₀ st) (hi:i<a₀.size) (hj:j<a₀.size)
 (h:Q (some (decide (Kk (arrOf st) i<Kk (arrOf st) j))) st):wpS (model prog w) A E s (ltAt' i j) Q st:=by
 have hI:=hB.nums h0
 obtain ⟨p,e1,i1,k1⟩:=ze0 hI (i:=i) (by rw [hB.size];exact hi)
 obtain ⟨q,e2,i2,k2⟩:=ze0 hI (i:=j) (by rw [hB.size];exact hj)
 rw [ltAt'_eq]
 refine wpS_bind (wpS_get (wpS_bind (zbp e1 (wpS_bind (zbp e2 (zoq hB.kind i1 i2 ?_))))))
 rwa [k1,k2] at h
theorem zrn {lo nrem:Nat} {Q:Option Nat->SortSt->Prop} (h0:∀p,p∈a₀.toList->isN p) (hB:Bs a₀ st) (hn:lo+nrem<=a₀.size) (h1:1<=nrem)
 (h:∀m st',1<=m->m<=nrem->Go a₀ lo st st'->Srt (arrOf st') lo (lo+m)->Q (some m) st'):
 wpS (model prog w) A E s (countRun' lo nrem) Q st:=by
 refine wpS_bind (wpS_mono (zhi
  (I:=fun x c st'=>st'=st/\c=(none,x)/\Srt (arrOf st) lo (lo+x))
  (Q:=fun c st'=>st'=st/\∃n,c=(none,n)/\1<=n/\n<=nrem/\Srt (arrOf st) lo (lo+n)/\(n=nrem\/Kk (arrOf st) (lo+n)<Kk (arrOf st) (lo+n-1)))
  h1 ?_ ?_ ⟨rfl,rfl,Srt.one _ _⟩) ?_)
 ·rintro x c st' hx1 hx2 ⟨rfl,rfl,hs⟩
  refine wpS_bind (znz h0 hB (by show lo+x<_;lia) (by show lo+x-1<_;lia) ?_)
  by_cases hlt:Kk (arrOf st') (lo+x)<Kk (arrOf st') (lo+x-1)
  ·rw [ZB8 hlt]
   exact wpS_pure ⟨rfl,x,rfl,hx1,by lia,hs,.inr hlt⟩
  ·rw [ZB9 hlt]
   exact wpS_pure ⟨rfl,rfl,hs.snoc fun _=>Int.not_lt.mp hlt⟩
 ·rintro c st' ⟨rfl,rfl,hs⟩
  exact ⟨rfl,nrem,rfl,h1,ZAw _,hs,.inl rfl⟩
 rintro c st' ⟨rfl,n,rfl,n1,n2,hs,hor⟩
 refine (fun (H:wpS (model prog w) A E s (ite ((n==nrem)=true) _ _) Q st')=>H) ?_
 by_cases c1:n=nrem
 ·rw [if_pos (by simpa using c1)]
  exact wpS_pure (h n _ n1 n2 (Go.refl hB) hs)
 rw [if_neg (by simpa using c1)]
 have hlt:=hor.resolve_left c1
 extract_lets-underBinder+onlyGivenNames jp
 have hjp:∀u st2,Go a₀ lo st' st2->Dec (arrOf st2) lo (lo+(n+1))->wpS (model prog w) A E s (jp u) Q st2:=by
  intro u st2 hg hd
  refine wpS_bind (wpS_lift (wpAny_rule ⟨rfl,?_⟩))
  refine wpS_bind (wpS_mono (zhi
   (I:=fun x c st3=>∃neq,c=(none,x,neq)/\Go a₀ lo st' st3/\Dec (arrOf st3) lo (lo+x)/\neq+1<=x/\∀i,lo+x-(neq+1)<=i->i<lo+x->Kk (arrOf st3) i=Kk (arrOf st3) (lo+x-1))
   (Q:=fun c st3=>∃x neq,c=(none,x,neq)/\n+1<=x/\x<=nrem/\Go a₀ lo st' st3/\Dec (arrOf st3) lo (lo+x)/\neq+1<=x/\∀i,lo+x-(neq+1)<=i->i<lo+x->Kk (arrOf st3) i=Kk (arrOf st3) (lo+x-1))
   (show n+1<=nrem by lia) ?_ ?_ ⟨0,rfl,hg,hd,by lia,fun i i1 i2=>by congr 1;lia⟩) ?_)
  ·rintro x c st3 x1 x2 ⟨neq,rfl,hg,hd,hq,he⟩
   have hsz:lo+x<=(arrOf st3).size:=by rw [hg.base.size];lia
   refine wpS_bind (znz h0 hg.base (by show lo+x<_;lia) (by show lo+x-1<_;lia) ?_)
   by_cases hlt:Kk (arrOf st3) (lo+x)<Kk (arrOf st3) (lo+x-1)
   ·rw [ZB8 hlt]
    dsimp only
    rw [if_pos rfl]
    by_cases hneq:neq>0
    ·rw [if_pos hneq]
     have hK:=zep (i:=lo+x-(neq+1)) hsz he
     refine wpS_bind (wpS_reverse (wpS_pure ⟨0,rfl,hg.put (mirror_perm _ _ _ _) (fun m _=>hK m),?_,by lia,fun i i1 i2=>by congr 1;lia⟩))
     intro i j i1 i2 i3
     show Kk (mirror (arrOf st3) _ _ _) j<=Kk (mirror (arrOf st3) _ _ _) i
     rw [hK,hK]
     exact (hd.snoc fun _=>ZAf hlt) i j i1 i2 (by lia)
    ·rw [if_neg hneq]
     exact wpS_pure ⟨0,rfl,hg,hd.snoc fun _=>ZAf hlt,by lia,fun i i1 i2=>by congr 1;lia⟩
   ·rw [ZB9 hlt]
    dsimp only
    rw [if_neg (by decide)]
    refine wpS_bind (znz h0 hg.base (by lia) (by lia) ?_)
    by_cases hgt:Kk (arrOf st3) (lo+x-1)<Kk (arrOf st3) (lo+x)
    ·rw [ZB8 hgt]
     exact wpS_pure ⟨x,neq,rfl,by lia,by lia,hg,hd,hq,he⟩
    ·rw [ZB9 hgt]
     have heq:Kk (arrOf st3) (lo+x)=Kk (arrOf st3) (lo+x-1):=by lia
     refine wpS_pure ⟨neq+1,rfl,hg,hd.snoc fun _=>by lia,by lia,fun i i1 i2=>?_⟩
     rw [show lo+(x+1)-1=lo+x by lia]
     by_cases hi:i=lo+x
     ·rw [hi]
     ·rw [heq];exact he i (by lia) (by lia)
  ·rintro c st3 ⟨neq,rfl,hg,hd,hq,he⟩
   exact ⟨nrem,neq,rfl,by lia,ZAw _,hg,hd,hq,he⟩
  rintro c st3 ⟨x,neq,rfl,x1,x2,hg,hd,hq,he⟩
  have hsz:lo+x<=(arrOf st3).size:=by rw [hg.base.size];lia
  refine (fun (H:wpS (model prog w) A E s _ Q st3)=>H) ?_
  extract_lets-underBinder+onlyGivenNames r0 s0 xx nn
  dsimp-zeta only [r0]
  extract_lets-underBinder+onlyGivenNames jp2
  have hjp2:∀u st4,Go a₀ lo st' st4->Dec (arrOf st4) lo (lo+x)->wpS (model prog w) A E s (jp2 u) Q st4:=by
   intro u st4 hg hd
   have hsz:lo+x<=(arrOf st4).size:=by rw [hg.base.size];lia
   refine wpS_bind (wpS_reverse ?_)
   have hg5:Go a₀ lo st' (setArr st4 (mirror (arrOf st4) lo (lo+x) ((lo+x-lo) / 2))):=
    hg.put (mirror_perm _ _ _ _) (fun m hm=>by rw [zhx hsz,if_neg (by lia)])
   have hs5:Srt (arrOf (setArr st4 (mirror (arrOf st4) lo (lo+x) ((lo+x-lo) / 2)))) lo (lo+x):=hd.rev hsz
   refine (fun (H:∀st5,Go a₀ lo st' st5->Srt (arrOf st5) lo (lo+x)->wpS (model prog w) A E s _ Q st5)=>H _ hg5 hs5) ?_
   intro st5 hg5 hs5
   refine wpS_bind (wpS_mono (zhi
    (I:=fun y c st6=>st6=st5/\c=(none,y)/\Srt (arrOf st5) lo (lo+y))
    (Q:=fun c st6=>st6=st5/\∃y,c=(none,y)/\1<=y/\y<=nrem/\Srt (arrOf st5) lo (lo+y)) x2 ?_ ?_ ⟨rfl,rfl,hs5⟩) ?_)
   ·rintro y c st6 y1 y2 ⟨rfl,rfl,hs⟩
    refine wpS_bind (znz h0 hg5.base (by show lo+y<_;lia) (by show lo+y-1<_;lia) ?_)
    by_cases hlt:Kk (arrOf st6) (lo+y)<Kk (arrOf st6) (lo+y-1)
    ·rw [ZB8 hlt]
     exact wpS_pure ⟨rfl,y,rfl,by lia,by lia,hs⟩
    ·rw [ZB9 hlt]
     exact wpS_pure ⟨rfl,rfl,hs.snoc fun _=>Int.not_lt.mp hlt⟩
   ·rintro c st6 ⟨rfl,rfl,hs⟩
    exact ⟨rfl,nrem,rfl,h1,ZAw _,hs⟩
   ·rintro c st6 ⟨rfl,y,rfl,y1,y2,hs⟩
    exact wpS_pure (h y _ y1 y2 hg5 hs)
  by_cases hneq:neq>0
  ·refine zbi (c:=neq>0) hneq ?_
   have hK:=zep (i:=lo+x-(neq+1)) hsz he
   refine wpS_bind (wpS_reverse (hjp2 () _ (hg.put (mirror_perm _ _ _ _) (fun m _=>hK m)) ?_))
   intro i j i1 i2 i3
   show Kk (mirror (arrOf st3) _ _ _) j<=Kk (mirror (arrOf st3) _ _ _) i
   rw [hK,hK]
   exact hd i j i1 i2 i3
  ·refine zci (c:=neq>0) hneq ?_
   exact hjp2 () _ hg hd
 have hsz:lo+n<=(arrOf st').size:=by rw [hB.size];lia
 by_cases c2:n>1
 ·refine zbi (c:=n>1) c2 ?_
  refine wpS_bind (znz h0 hB (by lia) (by show lo+n-1<_;lia) ?_)
  by_cases hr:Kk (arrOf st') lo<Kk (arrOf st') (lo+n-1)
  ·rw [ZB8 hr]
   exact wpS_pure (h n _ n1 n2 (Go.refl hB) hs)
  ·rw [ZB9 hr]
   have hall:∀k,lo<=k->k<lo+n->Kk (arrOf st') k=Kk (arrOf st') (lo+n-1):=fun k k1 k2=>by
    have a1:=hs lo k (ZAw _) k1 k2
    have a2:=hs k (lo+n-1) k1 (by lia) (by lia)
    lia
   have hK:=zep hsz hall
   refine wpS_bind (wpS_reverse (hjp () _ ((Go.refl hB).put (mirror_perm _ _ _ _) (fun m _=>hK m)) ?_))
   have hd:Dec (arrOf st') lo (lo+n):=fun i j i1 i2 i3=>by rw [hall i i1 (by lia),hall j (by lia) i3];exact Int.le_refl _
   intro i j i1 i2 i3
   show Kk (mirror (arrOf st') _ _ _) j<=Kk (mirror (arrOf st') _ _ _) i
   rw [hK,hK]
   exact (hd.snoc fun _=>ZAf hlt) i j i1 i2 (by lia)
 ·refine zci (c:=n>1) c2 ?_
  obtain rfl:n=1:=by lia
  have hd:Dec (arrOf st') lo (lo+1):=fun i j i1 i2 i3=>by
   obtain rfl:i=j:=by lia
   exact Int.le_refl _
  exact hjp () _ (Go.refl hB) (hd.snoc fun _=>ZAf hlt)
end
section
variable [SK] {prog:Program} {w:World} {A:Around} {E:Value->Shared->Prop} {s:Shared} [LtOk prog w A E s] {st:SortSt} {a₀:Array Keyed}
theorem zt9 {lo n ok:Nat} {Q:Bool->SortSt->Prop} (h0:∀p,p∈a₀.toList->isN p) (hB:Bs a₀ st) (hn:lo+n<=a₀.size) (h1:1<=ok) (hok:ok<=n)
 (hs:Srt (arrOf st) lo (lo+ok)) (h:∀st',Go a₀ lo st st'->Srt (arrOf st') lo (lo+n)->Q true st'):
 wpS (model prog w) A E s (binarySort' lo n ok) Q st:=by
 refine wpS_bind (wpS_mono (zhi
  (I:=fun k c st'=>c=(none,())/\Go a₀ lo st st'/\Srt (arrOf st') lo (lo+k))
  (Q:=fun c st'=>c=(none,())/\Go a₀ lo st st'/\Srt (arrOf st') lo (lo+n)) (show max ok 1<=n by omega) ?_ ?_
  ⟨rfl,Go.refl hB,by rw [Nat.max_eq_left h1];exact hs⟩) ?_)
 ·rintro k c st' k1 k2 ⟨rfl,hg,hs'⟩
  have hsz:lo+k<(arrOf st').size:=by rw [hg.base.size];omega
  refine wpS_bind (wpS_mono (zem
   (I:=fun x c st2=>st2=st'/\∃l r,c=(none,l,r)/\l<=r/\r<=k/\r-l<=k-x/\(∀i,i<l->Kk (arrOf st') (lo+i)<=Kk (arrOf st') (lo+k))/\
    ∀i,r<=i->i<k->Kk (arrOf st') (lo+k)<=Kk (arrOf st') (lo+i))
   (Q:=fun c st2=>st2=st'/\∃l,c=(none,l,l)/\l<=k/\(∀i,i<l->Kk (arrOf st') (lo+i)<=Kk (arrOf st') (lo+k))/\
    ∀i,l<=i->i<k->Kk (arrOf st') (lo+k)<=Kk (arrOf st') (lo+i)) ?_ ?_ ⟨rfl,0,k,rfl,by omega,by omega,by omega,fun i hi=>by omega,fun i i1 i2=>by omega⟩) ?_)
  ·rintro x c st2 hx ⟨rfl,l,r,rfl,a1,a2,a3,a4,a5⟩
   dsimp only
   by_cases hge:l>=r
   ·rw [if_pos hge]
    obtain rfl:l=r:=by omega
    exact wpS_pure ⟨rfl,l,rfl,a2,a4,a5⟩
   rw [if_neg hge]
   generalize hm:(l+r) / 2=m
   refine wpS_bind (znz h0 hg.base (i:=lo+k) (j:=lo+m) (by omega) (by omega) ?_)
   by_cases hlt:Kk (arrOf st2) (lo+k)<Kk (arrOf st2) (lo+m)
   ·rw [ZB8 hlt]
    refine wpS_pure ⟨rfl,l,m,rfl,by omega,by omega,by omega,a4,fun i i1 i2=>?_⟩
    exact ZAa (ZAf hlt) (hs' _ _ (by omega) (by omega) (by omega))
   ·rw [ZB9 hlt]
    refine wpS_pure ⟨rfl,m+1,r,rfl,by omega,by omega,by omega,fun i i1=>?_,a5⟩
    exact ZAa (hs' _ (lo+m) (by omega) (by omega) (by omega)) (Int.not_lt.mp hlt)
  ·rintro c st2 ⟨rfl,l,r,rfl,a1,a2,a3,a4,a5⟩
   obtain rfl:l=r:=by omega
   exact ⟨rfl,l,rfl,a2,a4,a5⟩
  ·rintro c st2 ⟨rfl,l,rfl,a2,a4,a5⟩
   refine (fun (H:wpS (model prog w) A E s (do moveDown' (lo+k) (lo+l);pure (ForInStep.yield (none,()))) _ st2)=>H) ?_
   rw [moveDown'_eq]
   have hKb:=fun m=>zs7 (d:=lo+k-(lo+l)) hsz (by omega) m
   refine wpS_bind (wpS_modify (wpS_pure ⟨rfl,hg.put (bubble_perm _ _ _) (fun m hm=>?_),?_⟩))
   ·rw [hKb,if_neg (by omega),if_neg (by omega)]
   ·intro i j i1 i2 i3
    show Kk (bubble (arrOf st2) (lo+k) (lo+k-(lo+l))) i<=Kk (bubble (arrOf st2) (lo+k) (lo+k-(lo+l))) j
    have low:∀m,lo<=m->m<lo+l->Kk (arrOf st2) m<=Kk (arrOf st2) (lo+k):=fun m m1 m2=>by
     have:=a4 (m-lo) (by omega);rwa [show lo+(m-lo)=m by omega] at this
    have high:∀m,lo+l<=m->m<lo+k->Kk (arrOf st2) (lo+k)<=Kk (arrOf st2) m:=fun m m1 m2=>by
     have:=a5 (m-lo) (by omega) (by omega);rwa [show lo+(m-lo)=m by omega] at this
    rw [hKb,hKb]
    repeat' split
    all_goals first
     | (exfalso;omega)
     | exact Int.le_refl _
     | exact low _ (by omega) (by omega)
     | exact high _ (by omega) (by omega)
     | exact hs' _ _ (by omega) (by omega) (by omega)
 ·rintro c st' ⟨hc,hg,hs'⟩
  exact ⟨hc,hg,hs'⟩
 ·rintro c st' ⟨rfl,hg,hs'⟩
  exact wpS_pure (h st' hg hs')
end
def Run [SK] (xs:Array Keyed):Nat->List (Nat×Nat×Nat)->Nat->Prop
 | s,[],e=>s=e
 | s,r::t,e=>r.1=s/\1<=r.2.1/\Srt xs s (s+r.2.1)/\Run xs (s+r.2.1) t e
section run
variable [SK] {X Y:Array Keyed}
theorem Run.le:∀{rs s e},Run X s rs e->s+rs.length<=e
 | [],s,e,h=>by unfold Run at h;simp;lia
 | r::t,s,e,⟨_,h1,_,h2⟩=>by have:=h2.le;simp only [ZBp];lia
theorem Run.congr:∀{rs s e},Run X s rs e->(∀m,s<=m->m<e->Kk Y m=Kk X m)->Run Y s rs e
 | [],_,_,h,_=>h
 | r::t,s,e,⟨h0,h1,h2,h3⟩,hk=>by
  have:=h3.le
  refine ⟨h0,h1,fun i j a1 a2 a3=>?_,h3.congr fun m m1 m2=>hk m (by lia) m2⟩
  rw [hk i a1 (by lia),hk j (by lia) (by lia)]
  exact h2 i j a1 a2 a3
theorem Run.app:∀{l r s e},Run X s (l++r) e↔∃m,Run X s l m/\Run X m r e
 | [],r,s,e=>⟨fun h=>⟨s,rfl,h⟩,fun ⟨m,h1,h2⟩=>by unfold Run at h1;subst h1;exact h2⟩
 | a::l,r,s,e=>⟨fun ⟨h0,h1,h2,h3⟩=>by
  obtain ⟨m,a1,a2⟩:=Run.app.mp h3
  exact ⟨m,⟨h0,h1,h2,a1⟩,a2⟩,fun ⟨m,⟨h0,h1,h2,h3⟩,h4⟩=>⟨h0,h1,h2,Run.app.mpr ⟨m,h3,h4⟩⟩⟩
theorem Run.same:∀{rs rs' s e},Run X s rs e->rs.map (fun r=>(r.1,r.2.1))=rs'.map (fun r=>(r.1,r.2.1))->Run X s rs' e
 | [],[],_,_,h,_=>h
 | a::t,b::t',s,e,⟨h0,h1,h2,h3⟩,hm=>by
  simp only [ZBf,List.cons.injEq,Prod.mk.injEq] at hm
  obtain ⟨⟨e1,e2⟩,e3⟩:=hm
  refine ⟨e1▸h0,e2▸h1,e2▸h2,?_⟩
  rw [<-e2];exact h3.same e3
 | [],_::_,_,_,_,hm=>by simp at hm
 | _::_,[],_,_,_,hm=>by simp at hm
end run
theorem zib {α β:Type} {f:α->α} {g:α->β} (h:∀x,g (f x)=g x):∀(l:List α) (i:Nat),(l.modify i f).map g=l.map g
 | [],i=>by simp
 | a::t,0=>by simp [h]
 | a::t,i+1=>by simp [zib h t i]
section
variable [SK] {prog:Program} {w:World} {A:Around} {E:Value->Shared->Prop} {s:Shared} [LtOk prog w A E s] {st:SortSt} {a₀:Array Keyed}
structure Pd (a₀:Array Keyed) (lo:Nat) (rs:List (Nat×Nat×Nat)) (st:SortSt):Prop where
 base:Bs a₀ st
 pend:pendingOf st=rs.toArray
 run:Run (arrOf st) 0 rs lo
 top:lo<=a₀.size
theorem zop {lo i:Nat} {rs:List (Nat×Nat×Nat)} {Q:Bool->SortSt->Prop} (h0:∀p,p∈a₀.toList->isN p) (hP:Pd a₀ lo rs st) (hi:i+1<rs.length)
 (h:∀rs' st',Pd a₀ lo rs' st'->rs'.length+1=rs.length->(∀m,lo<=m->Kk (arrOf st') m=Kk (arrOf st) m)->Q true st'):
 wpS (model prog w) A E s (mergeAt' i) Q st:=by
 obtain ⟨L,r1,r2,T,e,hL⟩:∃L r1 r2 T,rs=L++r1::r2::T/\i=L.length:=by
  refine ⟨rs.take i,rs[i],rs[i+1],rs.drop (i+2),?_,by simp;lia⟩
  rw [<-List.drop_eq_getElem_cons,<-List.drop_eq_getElem_cons,List.take_append_drop]
 obtain ⟨sa,na,p⟩:=r1
 obtain ⟨sb,nb,p'⟩:=r2
 have hr:=hP.run
 rw [e] at hr
 obtain ⟨m,hl,rfl,b1,b2,rfl,c1,c2,ht⟩:=Run.app.mp hr
 dsimp only at b1 b2 c1 c2 ht
 have t1:=ht.le
 have t2:=hP.top
 refine zv2 h0 hP.base (e▸hP.pend) hL rfl b1 c1 (by lia) b2 c2 fun st' d1 d2 d3 d4=>?_
 refine h _ st' ⟨d1,d2,Run.app.mpr ⟨sa,hl.congr fun m _ m2=>d4 m (.inl m2),rfl,by show 1<=na+nb;lia,?_,?_⟩,t2⟩ (by rw [e];simp;lia)
  (fun m m1=>d4 m (.inr (by lia)))
 ·show Srt _ sa (sa+(na+nb));rw [<-Nat.add_assoc];exact d3
 ·show Run _ (sa+(na+nb)) T lo;rw [<-Nat.add_assoc];exact ht.congr fun m m1 _=>d4 m (.inr m1)
theorem zt8 {Q:Unit->SortSt->Prop} (h0:∀p,p∈a₀.toList->isN p) (hB:Bs a₀ st) (hp:pendingOf st= #[]) (h2:2<=a₀.size)
 (h:∀st',(arrOf st').Perm a₀->failedOf st'=none->Srt (arrOf st') 0 a₀.size->Q () st'):wpS (model prog w) A E s sortRuns' Q st:=by
 refine wpS_bind (wpS_get ?_)
 have hsize:=hB.size
 refine wpS_bind (wpS_mono (zem
  (I:=fun x c st'=>∃lo rs,c=(none,lo)/\Pd a₀ lo rs st'/\(x<=lo\/lo=a₀.size))
  (Q:=fun c st'=>∃rs,c=(none,a₀.size)/\Pd a₀ a₀.size rs st') ?big ?bigEnd ⟨0,[],rfl,⟨hB,hp,rfl,ZBa _⟩,.inl (ZAw _)⟩) ?after)
 case bigEnd=>
  rintro c st' ⟨lo,rs,rfl,hP,hx⟩
  have:=hP.top
  change (arrOf st).size<=lo\/lo=a₀.size at hx
  obtain rfl:lo=a₀.size:=by lia
  exact ⟨rs,rfl,hP⟩
 case big=>
  rintro x c st' hx ⟨lo,rs,rfl,hP,hxx⟩
  refine (fun (H:wpS (model prog w) A E s (ite (lo>=(arrOf st).size) _ _) _ st')=>H) ?_
  by_cases c1:lo>=(arrOf st).size
  ·rw [if_pos c1]
   have:=hP.top
   obtain rfl:lo=a₀.size:=by lia
   exact wpS_pure ⟨rs,rfl,hP⟩
  rw [if_neg c1]
  refine wpS_bind (zrn h0 hP.base (by show lo+((arrOf st).size-lo)<=_;lia) (by show 1<=(arrOf st).size-lo;lia) fun m st2 m1 m2 hg hs=>?_)
  change m<=(arrOf st).size-lo at m2
  change Go a₀ lo st' st2 at hg
  change Srt (arrOf st2) lo (lo+m) at hs
  have hP2:Pd a₀ lo rs st2:=⟨hg.base,hg.pend.trans hP.pend,hP.run.congr fun m _ m2=>hg.low m m2,hP.top⟩
  refine (fun (H:wpS (model prog w) A E s _ _ st2)=>H) ?_
  dsimp-zeta only
  extract_lets-underBinder+onlyGivenNames n0 jp
  have hjp:∀(u:Unit) n st3,1<=n->lo+n<=a₀.size->Pd a₀ lo rs st3->Srt (arrOf st3) lo (lo+n)->
   wpS (model prog w) A E s (jp u n) (SQ (fun c st'=>∃rs,c=(none,a₀.size)/\Pd a₀ a₀.size rs st')
    (fun c st'=>∃lo rs,c=(none,lo)/\Pd a₀ lo rs st'/\(x+1<=lo\/lo=a₀.size))) st3:=by
   intro u n st3 n1 n2 hP3 hs3
   refine wpS_bind (wpS_get ?_)
   extract_lets-underBinder+onlyGivenNames jp2
   have hjp2:∀(u:Unit) st4 rs',Pd a₀ lo rs' st4->Srt (arrOf st4) lo (lo+n)->
    wpS (model prog w) A E s (jp2 u) (SQ (fun c st'=>∃rs,c=(none,a₀.size)/\Pd a₀ a₀.size rs st')
     (fun c st'=>∃lo rs,c=(none,lo)/\Pd a₀ lo rs st'/\(x+1<=lo\/lo=a₀.size))) st4:=by
    intro u st4 rs' hP4 hs4
    refine wpS_bind (wpS_modify (wpS_pure ⟨lo+n,rs'++[(lo,n,0)],rfl,⟨⟨hP4.base.perm,hP4.base.kind,hP4.base.fail⟩,?_,?_,n2⟩,by lia⟩))
    ·show (pendingOf st4).push (lo,n,0)=_
     rw [hP4.pend];simp
    ·exact Run.app.mpr ⟨lo,hP4.run,rfl,n1,hs4,rfl⟩
   cases hb:(pendingOf st3).back? with
   | none=>
    exact hjp2 () st3 rs hP3 hs3
   | some r=>
    obtain ⟨s1,l1,p1⟩:=r
    refine wpS_bind (wpS_mono (zem
     (I:=fun x c st4=>c=(none,())/\∃rs',Pd a₀ lo rs' st4/\Srt (arrOf st4) lo (lo+n))
     (Q:=fun c st4=>c=(none,())/\∃rs',Pd a₀ lo rs' st4/\Srt (arrOf st4) lo (lo+n)) ?_ (fun c st4 hh=>hh) ⟨rfl,rs,hP3,hs3⟩) ?_)
    ·rintro x' c st4 _ ⟨rfl,rs',hP4,hs4⟩
     refine wpS_bind (wpS_get ?_)
     have hsz:(pendingOf st4).size=rs'.length:=by rw [hP4.pend];simp
     dsimp only
     by_cases c2:(pendingOf st4).size>1
     ·rw [if_pos c2]
      cases hq:(pendingOf st4)[(pendingOf st4).size-2]? with
      | none=>exact wpS_pure ⟨rfl,rs',hP4,hs4⟩
      | some r=>
       obtain ⟨x1,x2,older⟩:=r
       dsimp only
       split
       ·exact wpS_pure ⟨rfl,rs',hP4,hs4⟩
       ·refine wpS_bind (zop h0 hP4 (by show (pendingOf st4).size-2+1<_;lia) fun rs5 st5 hP5 _ hk=>?_)
        refine wpS_pure ⟨rfl,rs5,hP5,fun i j i1 i2 i3=>?_⟩
        rw [hk i i1,hk j (by lia)];exact hs4 i j i1 i2 i3
     ·rw [if_neg c2]
      exact wpS_pure ⟨rfl,rs',hP4,hs4⟩
    ·rintro c st4 ⟨rfl,rs',hP4,hs4⟩
     refine wpS_bind (wpS_modify (hjp2 () _ (rs'.modify (rs'.length-1) fun r=>(r.1,r.2.1,power' (arrOf st).size (2*s1+l1) (2*s1+l1+l1+n) (arrOf st).size)) ⟨⟨hP4.base.perm,hP4.base.kind,hP4.base.fail⟩,?_,?_,hP4.top⟩ hs4))
     ·refine (fun (H:(pendingOf st4).modify ((pendingOf st4).size-1) (fun r=>(r.1,r.2.1,power' (arrOf st).size (2*s1+l1) (2*s1+l1+l1+n) (arrOf st).size))=_)=>H) ?_
      rw [hP4.pend]
      apply Array.toList_inj.mp
      simp
     ·exact hP4.run.same (zib (f:=fun r=>(r.1,r.2.1,power' (arrOf st).size (2*s1+l1) (2*s1+l1+l1+n) (arrOf st).size)) (fun _=>rfl) _ _).symm
  by_cases c2:m<minRun' (arrOf st).size (arrOf st).size 0
  ·refine zbi (c:=m<minRun' (arrOf st).size (arrOf st).size 0) c2 ?_
   refine wpS_bind (wpS_lift (wpAny_rule ⟨rfl,?_⟩))
   refine wpS_bind (zt9 h0 hg.base (n:=min ((arrOf st).size-lo) (minRun' (arrOf st).size (arrOf st).size 0)) (by lia) m1 (by lia) hs fun st3 hg3 hs3=>?_)
   exact hjp () (min ((arrOf st).size-lo) (minRun' (arrOf st).size (arrOf st).size 0)) st3 (by lia) (by lia) ⟨hg3.base,hg3.pend.trans hP2.pend,hP2.run.congr fun m _ m2=>hg3.low m m2,hP2.top⟩ hs3
  ·refine zci (c:=m<minRun' (arrOf st).size (arrOf st).size 0) c2 ?_
   exact hjp () m st2 m1 (by lia) hP2 hs
 case after=>
  rintro c st' ⟨rs,rfl,hP⟩
  refine (fun (H:wpS (model prog w) A E s _ Q st')=>H) ?_
  dsimp only
  have hlen:=hP.run.le
  refine wpS_bind (wpS_mono (zem
   (I:=fun x c st4=>c=(none,())/\∃rs',Pd a₀ a₀.size rs' st4/\(rs'.length+x<=a₀.size\/rs'.length<=1))
   (Q:=fun c st4=>c=(none,())/\∃rs',Pd a₀ a₀.size rs' st4/\rs'.length<=1) ?_ ?_ ⟨rfl,rs,hP,.inl (by lia)⟩) ?_)
  ·rintro x' c st4 _ ⟨rfl,rs',hP4,hl4⟩
   refine wpS_bind (wpS_get ?_)
   have hsz:(pendingOf st4).size=rs'.length:=by rw [hP4.pend];simp
   by_cases c2:(pendingOf st4).size<=1
   ·rw [if_pos c2]
    exact wpS_pure ⟨rfl,rs',hP4,by lia⟩
   rw [if_neg c2]
   refine wpS_bind (zop h0 hP4 ?_ fun rs5 st5 hP5 hl5 _=>wpS_pure ⟨rfl,rs5,hP5,by lia⟩)
   have key:∀j,j<=(pendingOf st4).size-2->j+1<rs'.length:=by lia
   refine key _ ?_
   repeat' split
   all_goals first
    | exact ZAw _
    | exact Nat.sub_le _ _
  ·rintro c st4 ⟨rfl,rs',hP4,hl4⟩
   change rs'.length+(arrOf st).size<=a₀.size\/rs'.length<=1 at hl4
   exact ⟨rfl,rs',hP4,by lia⟩
  ·rintro c st4 ⟨rfl,rs',hP4,hl4⟩
   refine wpS_pure (h st4 hP4.base.perm hP4.base.fail ?_)
   have hr:=hP4.run
   match rs',hl4,hr with
   | [],_,hr=>unfold Run at hr;lia
   | [r],_,⟨_,_,e1,e2⟩=>
    unfold Run at e2
    intro i j i0 i1 i2
    exact e1 i j i0 i1 (by lia)
end
section
variable {prog:Program} {w:World} {k:Type} [DecidableEq k] {knd:KeyKind prog w k} {A:Around} {E:Value->Shared->Prop} {s:Shared}
theorem zlt {d:Addr} {kvs:List (k×Value)} {ep:Nat} {Q:List Value->Shared->Prop} (hh:A.handled=none) (hd:(d==sysModules)=false) (hm:s.heap.DictAt knd d kvs ep) (hn:kvs.length<=sizeLine)
 (hQ:∀s' acc,(∀b o,s.heap.get? b=some o->s'.heap.get? b=some o)->s'.gens=s.gens->s'.drawn=s.drawn->s'.os=s.os->s.toks<=s'.toks->
  ItemsOf (fun i v=>∃key x,kvs[i]?=some (key,x)/\knd.is key v=true) acc kvs.length->Q acc.toList s'):wpAny (model prog w) A (collect (.ref d)) Q E s:=by
 let L:Obj:={ cls:=.type "list",data:=.seq ([]:List Value).toArray }
 have hdlt:=hm.lt_size
 have hSd:s.heap.objs.size≠d:=Nat.ne_of_gt hdlt
 unfold collect
 refine ZAp (wpAny_runValue (codeAny_builtin F.entry_proto_collect ?_))
 rw [Around.under_plainId F.plain_proto_collect _]
 refine (show wpAny _ A.in1 (newList []>>=fun l=>again (.builtin "list.__iadd__" ⟨[l,.ref d],[]⟩)) _ _ s from ZAp (wpAny_newObj_type (ZAq ⟨plainId_quiet F.plain_list_iadd _,codeAny_builtin F.entry_list_iadd ?_⟩)))
 rw [Around.under_plainId F.plain_list_iadd _]
 have hm1:(s.heap.push L).DictAt knd d kvs ep:=hm.push _
 have hT:({ s with heap:=s.heap.push L }:Shared).TypeIs (.ref d) "dict":=hm1.dictOf.typeIs (s:={ s with heap:=s.heap.push L })
 have hS:(s.heap.push L).get? s.heap.objs.size=some L:=ZBh _ rfl
 refine (show wpAny _ A.in1 (Builtin.List.listExtendWith (.ref s.heap.objs.size) (.ref d) (.ref s.heap.objs.size)) _ _ { s with heap:=s.heap.push L } from ?_)
 unfold Builtin.List.listExtendWith
 refine ZAp (wpAny_typeOf hT ?_)
 rw [if_neg (by rw [show Builtin.List.listSameRef (.ref s.heap.objs.size) (.ref d)=false by simp [Builtin.List.listSameRef,hSd]];decide)]
 refine ZAp (wpAny_pyIter_dict hd hm1 (ZAp (wpAny_holding ?_)))
 unfold Builtin.List.listLengthHint
 let I:Addr:=(s.heap.push L).objs.size
 let h2:Heap:=(s.heap.push L).push { cls:=.type "dict_keyiterator",data:=.fields #[.ref d,.int 0 0,.int kvs.length 0,.int ep 0] }
 have hm2:h2.DictAt knd d kvs ep:=hm1.push _
 have hT2:({ s with heap:=h2 }:Shared).TypeIs (.ref d) "dict":=hm2.dictOf.typeIs (s:={ s with heap:=h2 })
 refine ZAp (wpAny_specialOf (name:=Str.ofString "__len__") hT2 F.slot_dict_len.lookup ?_)
 generalize hid:("dict.__len__":String)=id0
 (fail_if_success (clear hid id0))
 wp_delta
 rw [show splitId id0=some ("dict","__len__") from by subst hid;decide+kernel]
 subst hid
 refine ZAp (wpAny_isInstance (b:=true) hT2 (by rw [isSubtype_type];kernel_rfl) ?_)
 rw [if_neg (by decide)]
 refine (fun (H:wpAny (model prog w) A.in1 (ite _ _ _) _ _ _)=>H) ?_
 rw [if_pos (by decide+kernel)]
 refine ZAp (wpAny_typeOf hT2 (ZAq ?_))
 rw [if_pos (by decide+kernel)]
 let S:Addr:=s.heap.objs.size
 have hSI:S≠I:=ZBj (show s.heap.objs.size<(s.heap.push L).objs.size by rw [size_push'];exact Nat.lt_succ_self _)
 have hdI:d≠I:=ZBj (show d<(s.heap.push L).objs.size by rw [size_push'];exact Nat.lt_succ_of_lt hdlt)
 have hS2:h2.get? S=some L:=ZAy _ hS
 have hS3:=Heap.get?_update_self (Obj.mapSeq (·.push Value.none)) hS2 rfl
 have hS4:=Heap.get?_update_self (Obj.mapSeq (·.pop)) hS3 rfl
 have oth:∀b o,b≠S->h2.get? b=some o->((h2.update S (Obj.mapSeq (·.push Value.none))).update S (Obj.mapSeq (·.pop))).get? b=some o:=
  fun b o hb e=>(Heap.get?_update_other _ _ (ZAl hb)).trans ((Heap.get?_update_other _ _ (ZAl hb)).trans e)
 have W:=(Walks.dictKeys (knd:=knd) (prog:=prog) (w:=w) (A:=A.in1) hh I d hdI kvs ep).toS
 have hit2:h2.IsKeyIter I d 0 kvs.length ep:=⟨_,ZBh _ rfl,rfl,rfl⟩
 refine ZAp (wpAny_rule (ZAp (show wpAny _ A.in1 (updateSeq S (·.push .none)>>=fun _=>updateSeq S (·.pop)) _ _ { s with heap:=h2 } from ZAp (wpAny_updateSeq (s:={ s with heap:=h2 }) hS2 rfl (wpAny_updateSeq (s:={ s with heap:=h2.update S (Obj.mapSeq (·.push Value.none)) }) hS3 rfl ?_)))))
 refine ZAq ⟨plainId_quiet F.plain_extend_loop _,codeAny_extend_loopS W hn S (fun z=>(ZBe.mp z).elim hSI fun z=>hSd (ZBd.mp z)) _ kvs.length 0 _ _ _ rfl (ZBa _)
  ⟨hit2.at fun o e=>oth _ _ (ZAl hSI) e,hm2.at' fun o e=>oth _ _ (ZAl hSd) e⟩ hS4 (ItemsOf.nil _) fun s' acc c hmv hS' hacc=>?_⟩
 refine (show wpAny _ A (load S>>=_) _ _ s' from ZAp (wpAny_load hS' (ZAq (hQ s' acc (fun b o e=>?_) hmv.gens hmv.drawn hmv.os hmv.toks hacc))))
 have hb:b<s.heap.objs.size:=ZBc e
 refine hmv.heap b o (fun z=>?_) (oth b o (ZBj hb) (ZAy _ (ZAy _ e)))
 rcases ZBe.mp z with z | z
 ·exact ZBj hb z
 ·have z:=ZBd.mp z
  have e2:I=s.heap.objs.size+1:=size_push' _ _
  exact ZB2 _ (ZBm hb (by rw [z,e2];exact ZAe _))
end
theorem zmw (vs:List Value):(vs.toArray.zip vs.toArray).toList=vs.map fun v=>(v,v):=by
 rw [Array.toList_zip]
 show vs.zip vs=_
 induction vs with
 | nil=>rfl
 | cons v r ih=>simp [ih]
section
variable [SK] {prog:Program} {w:World} {A:Around} {E:Value->Shared->Prop} {s:Shared}
theorem zwu {vs:List Value} {X:Array Keyed} (hp:X.Perm (vs.toArray.zip vs.toArray)) (hs:Srt X 0 (vs.toArray.zip vs.toArray).size):
 (X.map (·.2)).toList.Perm vs/\(X.map (·.2)).toList.Pairwise fun u v=>N (u,u)<=N (v,v):=by
 have hpl:=Array.perm_iff_toList_perm.mp hp
 rw [zmw] at hpl
 have hsz:X.size=(vs.toArray.zip vs.toArray).size:=hp.size_eq
 have hdiag:∀p∈X.toList,p=(p.2,p.2):=fun p hm=>by
  obtain ⟨v,_,rfl⟩:=ZBr.mp (hpl.mem_iff.mp hm)
  rfl
 rw [Array.toList_map]
 refine ⟨by simpa [List.map_map,Function.comp_def] using hpl.map (·.2),?_⟩
 rw [List.pairwise_map,ZBt]
 intro i j hi hj hij
 have hi':i<X.size:=by simpa using hi
 have hj':j<X.size:=by simpa using hj
 have:=hs i j (ZBa _) (ZBb hij) (hsz▸hj')
 rw [zgr (getElem?_pos X i hi'),zgr (getElem?_pos X j hj')] at this
 rw [<-hdiag _ (ZB3 hi),<-hdiag _ (ZB3 hj)]
 exact this
theorem zke {a:Addr} {vs:List Value} {n:Nat} {P:PySem.Fin->Shared->Prop} (ho:s.heap.get? a=some (seqObj "list" vs.toArray n)) (hz:vs.length<=sizeLine)
 (hkind:2<=vs.length->∀(h':Heap) (Q:SortKind->Shared->Prop),(∀b o,b≠a->s.heap.get? b=some o->h'.get? b=some o)->Q SK.kind { s with heap:=h' }->
  wpAny (model prog w) A (keyKind' vs.toArray) Q E { s with heap:=h' })
 (hlt:∀h':Heap,(∀b o,b≠a->s.heap.get? b=some o->h'.get? b=some o)->LtOk prog w A E { s with heap:=h' })
 (hok:∀v∈vs,isN (v,v))
 (h:∀out:Array Value,out.toList.Perm vs->(out.toList.Pairwise fun u v=>N (u,u)<=N (v,v))->P (.done (.ret .none)) { s with heap:=sortedHeap s.heap a vs out }):
 wpAny (model prog w) A (Builtin.«list.sort» ⟨[.ref a],[]⟩) P E s:=by
 rw [list_sort_plain]
 have ha:a<s.heap.objs.size:=ZBc ho
 obtain ⟨e1,ho1⟩:∃e1,(s.heap.update a (Obj.mapSeq fun _=> #[])).get? a=some (seqObj "list" #[] e1):=⟨_,get?_update_seq ho (fun _=> #[])⟩
 let h3:Heap:=((s.heap.update a (Obj.mapSeq fun _=> #[])).push (seqObj "tuple" vs.toArray 0)).push (seqObj "list" #[] 0)
 have keep:∀b o,b≠a->s.heap.get? b=some o->h3.get? b=some o:=fun b o hb e=>
  ZAy _ (ZAy _ ((Heap.get?_update_other _ _ (ZAl hb)).trans e))
 have ho3:h3.get? a=some (seqObj "list" #[] e1):=ZAy _ (ZAy _ ho1)
 have hsz:vs.toArray.size=vs.length:=by simp
 refine ZAp (listItems_at ho rfl (ZAp (listUpdate_at ho rfl (ZAp (seqEpoch_at ho1 rfl (ZAp (wpAny_newTuple (ZAp (wpAny_newList (wpAny_holding ?_) (ZBa _))) hz)))) (by rw [hsz];exact hz) (ZBa _))))
 have fin:∀st':SortSt,(arrOf st').Perm (vs.toArray.zip vs.toArray)->failedOf st'=none->Srt (arrOf st') 0 (vs.toArray.zip vs.toArray).size->
  wpAny (model prog w) A (do
   let touched:=(<-seqEpoch a) !=e1
   Builtin.List.listUpdate (.ref a) fun _=>(arrOf st').map (·.2)
   if let some e:=failedOf st' then rule "list.sort.comparison-raised";throw e
   if touched then rule "list.sort.modified";raiseError "ValueError" "list modified during sort"
   ret .none) P E { s with heap:=h3 }:=by
  intro st' hp hf hs
  obtain ⟨o1,o2⟩:=zwu hp hs
  refine ZAp (seqEpoch_at ho3 rfl (ZAp (listUpdate_at ho3 rfl ?_ (ZBa _) ?_)))
  ·rw [hf]
   simp only [bne_self_eq_false,Bool.false_eq_true,if_false]
   exact ZAq (h _ o1 o2)
  ·have:=o1.length_eq
   rw [ZAj] at this
   exact Nat.le_succ_of_le (this▸hz)
 refine (show wpAny (model prog w) A _ P E { s with heap:=h3 } from ?_)
 by_cases h2:vs.toArray.size<2
 ·dsimp only
  rw [if_pos h2,if_pos h2]
  refine ZAp (ZAq ?_)
  rw [StateT.run_pure]
  refine ZAp (ZAq (fin (SortSt.mk' general' (vs.toArray.zip vs.toArray) #[] 7 none) (Array.Perm.refl _) rfl ?_))
  intro i j _ hij hj
  obtain rfl:i=j:=by simp at hj;omega
  exact Int.le_refl _
 ·dsimp only
  rw [if_neg h2,if_neg h2]
  refine ZAp (hkind (by omega) h3 _ keep ?_)
  have:=hlt h3 keep
  refine ZAp (wpAny_mono (zt8 (s:={ s with heap:=h3 }) (a₀:=vs.toArray.zip vs.toArray) (st:=SortSt.mk' SK.kind (vs.toArray.zip vs.toArray) #[] 7 none)
   (Q:=fun _ st'=>(arrOf st').Perm (vs.toArray.zip vs.toArray)/\failedOf st'=none/\Srt (arrOf st') 0 (vs.toArray.zip vs.toArray).size)
   (fun p hp=>?_) ⟨Array.Perm.refl _,rfl,rfl⟩ rfl (by simp;omega) fun st' a1 a2 a3=>⟨a1,a2,a3⟩) ?_ fun _ _ e=>e)
  ·rw [zmw] at hp
   obtain ⟨v,hv,rfl⟩:=ZBr.mp hp
   exact hok v hv
  ·rintro ⟨⟨⟩,st'⟩ s' ⟨rfl,hp,hf,hs⟩
   exact fin st' hp hf hs
end
section
variable {prog:Program} {w:World} {A:Around} {E:Value->Shared->Prop} {s:Shared}
theorem zi5 {x:Value} {Q:Value->Shared->Prop} {R:Shared->List Value->Prop}
 (hc:wpAny (model prog w) A.in1 (collect x) (fun vs s1=>R s1 vs) E s)
 (h:∀s1 vs,R s1 vs->wpAny (model prog w) A.in1 (newList vs>>=fun l=>holding [l] (call (.builtin "list.sort") [l])>>=fun _=>ret l) (fun fin s'=>∃r,fin=.done (.ret r)/\Q r s') E s1):
 wpAny (model prog w) A (call (.builtin "sorted") [x]) Q E s:=by
 refine Calls.call_function_entry kind_sorted plain_sorted entry_sorted (args_sorted1 _) ?_
 unfold Builtin.«sorted»
 refine ZAp (m:=checkCount "sorted" 1 1 _) (ZAq ?_)
 refine ZAp (wpAny_mono hc (fun vs s1 hr=>h s1 vs hr) fun _ _ e=>e)
end
@[reducible] noncomputable def skI:SK:=⟨fun p=>numOf p.1,fun p=>∃n t,p.1=.int n t,oneType'⟩
theorem ltI {prog:Program} {w:World} {A:Around} {E:Value->Shared->Prop} {s:Shared}: @LtOk skI prog w A E s:=by
 refine @LtOk.mk skI prog w A E s ?_
 rintro st p q Q hk ⟨n,t,hp⟩ ⟨n',t',hq⟩ h
 have e1: @N skI p=n:=by show numOf p.1=n;rw [hp];rfl
 have e2: @N skI q=n':=by show numOf q.1=n';rw [hq];rfl
 rw [e1,e2] at h
 rw [lt'_eq,hp,hq]
 refine wpS_bind (wpS_get ?_)
 rw [show kindOf st=oneType' from hk,keyLt'_oneType]
 exact wpS_bind (wpS_lift (wpAny_attempt (oneLt_int ⟨rfl,wpS_pure h⟩)))
theorem zyu {prog:Program} {w:World} {A:Around} {E:Value->Shared->Prop} {s:Shared} {vs:List Value} {ns:List Int} {Q:SortKind->Shared->Prop} (hI:IntsAre vs ns) (h2:2<=vs.length) (h:Q oneType' s):wpAny (model prog w) A (keyKind' vs.toArray) Q E s:=by
 match vs,h2,hI with
 | v₁::v₂::r,_,hI=>rw [keyKind_ints hI];exact ZAq h
section
variable [SK] {prog:Program} {w:World} {A:Around} {E:Value->Shared->Prop} {s:Shared}
theorem zm9 {vs:List Value} {Q:Value->Shared->Prop} (hz:vs.length<=sizeLine)
 (hkind:2<=vs.length->∀(A:Around) (E:Value->Shared->Prop) (h':Heap) (Q:SortKind->Shared->Prop),(∀b o,s.heap.get? b=some o->h'.get? b=some o)->Q SK.kind { s with heap:=h' }->
  wpAny (model prog w) A (keyKind' vs.toArray) Q E { s with heap:=h' })
 (hlt:∀(A:Around) (E:Value->Shared->Prop) (h':Heap),(∀b o,s.heap.get? b=some o->h'.get? b=some o)->LtOk prog w A E { s with heap:=h' })
 (hok:∀v∈vs,isN (v,v))
 (h:∀(out:Array Value) (h':Heap),out.toList.Perm vs->(out.toList.Pairwise fun u v=>N (u,u)<=N (v,v))->(∀b o,s.heap.get? b=some o->h'.get? b=some o)->
  (∃e,h'.get? s.heap.objs.size=some (seqObj "list" out e))->Q (.ref s.heap.objs.size) { s with heap:=h' }):
 wpAny (model prog w) A (newList vs>>=fun l=>holding [l] (call (.builtin "list.sort") [l])>>=fun _=>ret l) (fun fin s'=>∃r,fin=.done (.ret r)/\Q r s') E s:=by
 let h1:Heap:=s.heap.push (seqObj "list" vs.toArray 0)
 have hoL:h1.get? s.heap.objs.size=some (seqObj "list" vs.toArray 0):=ZBh _ rfl
 have up:∀(h':Heap),(∀b o,b≠s.heap.objs.size->h1.get? b=some o->h'.get? b=some o)->∀b o,s.heap.get? b=some o->h'.get? b=some o:=fun h' hk b o e=>
  hk b o (ZBj (ZBc e)) (ZAy _ e)
 refine ZAp (wpAny_newList ?_ hz)
 refine ZAp (wpAny_holding (wpAny_call_entry (s:={ s with heap:=h1 }) slot_list_sort ⟨_,hoL,rfl⟩ entry_list_sort (zke hoL hz (fun h2 h' Q hk hq=>hkind h2 _ _ h' Q (up h' hk) hq) (fun h' hk=>hlt _ _ h' (up h' hk)) hok fun out o1 o2=>⟨_,rfl,?_⟩) (args_list_sort _)))
 refine ZAq ⟨_,rfl,h out _ o1 o2 (fun b o e=>?_) (sortedHeap_at hoL)⟩
 have hb:b<s.heap.objs.size:=ZBc e
 rw [sortedHeap_old (ZBj hb) (show b<h1.objs.size by show b<(s.heap.push _).objs.size;rw [size_push'];exact Nat.lt_succ_of_lt hb)]
 exact ZAy _ e
end
end TS
namespace L2
open PySem PySem.Spec PyProof.Rows TS
theorem znp:∀{us:List Value} {ns:List Int},us.length=ns.length->(∀(j:Nat) v i,us[j]?=some v->ns[j]?=some i->∃t,v=.int i t)->IntsAre us ns
 | [],[],_,_=>.nil
 | u::us,n::ns,hl,h=>by
  obtain ⟨t,rfl⟩:=h 0 u n rfl rfl
  exact .cons _ _ (znp (by simpa using hl) fun j v i e1 e2=>h (j+1) v i (by simpa using e1) (by simpa using e2))
 | [],_::_,hl,_=>by simp at hl
 | _::_,[],hl,_=>by simp at hl
theorem zfg:∀{us:List Value} {ns:List Int},IntsAre us ns->us.map numOf=ns/\∀u∈us,∃n t,u=.int n t
 | _,_,.nil=>⟨rfl,fun _ h=>nomatch h⟩
 | _,_,.cons n t h=>by
  obtain ⟨a,b⟩:=zfg h
  refine ⟨by rw [ZBf,a];rfl,fun u hu=>?_⟩
  rcases ZBe.mp hu with rfl | hu
  ·exact ⟨n,t,rfl⟩
  ·exact b u hu
theorem zky:∀{us:List Value},(∀u∈us,∃n t,u=.int n t)->zb3 ((us.map numOf).map V.int) us
 | [],_=>.nil
 | u::us,h=>by
  obtain ⟨n,t,rfl⟩:=h u ZA5
  exact .cons ⟨t,rfl⟩ (zky fun v hv=>h v (ZA4 _ hv))
theorem Inv.at_ {X:Cx} {pins:List (Addr×Obj)} {σ:St} {H:Hp} {s s1:Shared} (I:Inv X pins σ H s) (k:∀b o,s.heap.get? b=some o->s1.heap.get? b=some o) (hg:s1.gens=s.gens) (hd:s1.drawn=s.drawn) (ho:s1.os=s.os):Inv X pins σ H s1:=by
 have e:s1={ s with heap:=s1.heap,toks:=s1.toks }:=by
  obtain ⟨h1,g1,d1,t1,o1⟩:=s1
  cases hg;cases hd;cases ho
  rfl
 rw [e]
 exact I.kept (t':=s1.toks) k
section
variable {X:Cx}
theorem zlv (hc:X.calm=true):zg2 X (.builtin "sorted") (fun xs H Q=>∃(p:Addr) (kvs:List (Key×V)) (ns:List Int),xs=[.ref p]/\H p=some (.dK kvs)/\kvs.map (·.1)=ns.map Sum.inl/\
 ∀(l:Addr) (ns':List Int),H l=none->ns'.Perm ns->ns'.Pairwise (·<=·)->Q (.ref l) (upd H l (.lst (ns'.map V.int)))):=by
 intro pins s σ H xs us Q I r h
 obtain ⟨p,kvs,ns,rfl,hp,hns,q⟩:=h
 obtain ⟨u,rfl,ru⟩:=zjp r
 cases ru
 obtain ⟨hz,hs,vs,hv,hD⟩:=(show zce X.prog X.w H s.heap p (.dK kvs) from I.hok p _ hp)
 obtain ⟨ep,hat⟩:=hD.dictAt
 have hlv:kvs.length=vs.length:=Paired.length hv
 have hln:kvs.length=ns.length:=by have:=congrArg List.length hns;simpa using this
 refine zi5 (R:=fun s1 us=>Inv X pins σ H s1/\(∀b o,s.heap.get? b=some o->s1.heap.get? b=some o)/\IntsAre us ns) (zlt (I.ok.hd hc) hs hat (by omega) fun s1 acc k hg hd ho ht hi=>?_) ?_
 ·refine ⟨I.at_ k hg hd ho,k,znp (by rw [ZAj,hi.1];omega) fun j v i e1 e2=>?_⟩
  obtain ⟨key,x,g1,g2⟩:=hi.2 j v (by simpa using e1)
  have hk:(kvs.map (·.1))[j]?=some (Sum.inl i):=by rw [hns,ZA0,e2];rfl
  rw [ZA0] at hk
  cases hkv:kvs[j]? with
  | none=>rw [hkv] at hk;cases hk
  | some kv=>
   rw [hkv] at hk
   obtain ⟨y,hy,ey,_⟩:=zlg hv hkv
   rw [g1] at hy
   cases hy
   have e:kv.1=Sum.inl i:=ZA7 hk
   rw [e] at ey
   subst ey
   rcases zbu (show zmh (Sum.inl i) v=true from g2) with ⟨i',t,e3,rfl⟩ | ⟨x',t,e3,rfl⟩
   ·cases e3;exact ⟨t,rfl⟩
   ·cases e3
 ·rintro s1 us ⟨I1,k1,hI⟩
  have hul:us.length=ns.length:=by rw [<-(zfg hI).1];simp
  refine @zm9 skI X.prog X.w _ _ s1 us _ (by omega) (fun h2 A E h' Q hk hq=>zyu (s:={ s1 with heap:=h' }) hI h2 hq) (fun A E h' hk=>ltI) (fun v hv=>?_) fun out h' o1 o2 k2 he=>?_
  ·obtain ⟨n,t,e⟩:=(zfg hI).2 v hv
   exact ⟨n,t,e⟩
  ·obtain ⟨e,he⟩:=he
   have hall:∀u∈out.toList,∃n t,u=Value.int n t:=fun u hu=>(zfg hI).2 u (o1.mem_iff.mp hu)
   have fr:H s1.heap.objs.size=none:=I1.hok.fresh (ZAw _)
   have hpm:(out.toList.map numOf).Perm ns:=by rw [<-(zfg hI).1];exact o1.map numOf
   refine ⟨.ref s1.heap.objs.size,_,I1.laid (t':=s1.toks) k2 (ZAw _) (show zce X.prog X.w _ h' _ (.lst ((out.toList.map numOf).map V.int)) from ⟨?_,out.toList,e,zky hall,by rw [he]⟩),rfl,q _ _ fr hpm ?_⟩
   ·rw [ZAu,hpm.length_eq];omega
   ·rw [List.pairwise_map];exact o2
end
def tri (a b m:Int):HO:=.tup [.int a,.int b,.int m]
def cod (H:Hp):Value->Int
 | .ref q=>match H q with
  | some (.tup [.int a,.int b,_])=>a*64+b
  | _=>0
 | _=>0
@[reducible] noncomputable def skT (H:Hp) (g:Int->Int->Int):SK:=
 ⟨fun p=>cod H p.1,fun p=>∃q a b,p.1=.ref q/\H q=some (tri a b (g a b))/\0<=a/\a<64/\0<=b/\b<64,tuples' true⟩
theorem zkn {H:Hp} {q:Addr} {a b m:Int} (h:H q=some (tri a b m)):cod H (.ref q)=a*64+b:=by
 show (match H q with | some (.tup [.int a,.int b,_])=>a*64+b | _=>0)=_
 rw [h];rfl
section
variable {prog:Program} {w:World} {A:Around} {E:Value->Shared->Prop} {s:Shared} {H:Hp} {g:Int->Int->Int}
def zvp (H:Hp) (h:Heap):Prop:=∀q a b m,H q=some (tri a b m)->∃t1 t2 t3 o n,h.get? q=some o/\o.cls=.type "tuple"/\o.data=.seq #[.int a t1,.int b t2,.int m t3] n
theorem zvp.keep {h h':Heap} (x:zvp H h) (k:∀b o,h.get? b=some o->h'.get? b=some o):zvp H h':=fun q a b m e=>
 let ⟨t1,t2,t3,o,n,e1,e2⟩:=x q a b m e;⟨t1,t2,t3,o,n,k _ _ e1,e2⟩
theorem zug {P:Program} {w:World} {h:Heap} (ok:HOk P w H h):zvp H h:=fun q a b m e=>by
 obtain ⟨_,its,hv,o,e1,e2,n,e3⟩:=(show zce P w H h q (tri a b m) from ok q _ e)
 rcases hv with _ | ⟨⟨t1,rfl⟩,hv⟩
 rcases hv with _ | ⟨⟨t2,rfl⟩,hv⟩
 rcases hv with _ | ⟨⟨t3,rfl⟩,hv⟩
 cases hv
 exact ⟨t1,t2,t3,o,n,e1,e2,e3⟩
theorem ltT (ht:zvp H s.heap): @LtOk (skT H g) prog w A E s:=by
 refine @LtOk.mk (skT H g) prog w A E s ?_
 rintro st p q Q hk ⟨x,a,b,hp,hx,a0,a1,b0,b1⟩ ⟨y,a',b',hq,hy,a0',a1',b0',b1'⟩ h
 have e1: @N (skT H g) p=a*64+b:=by show cod H p.1=_;rw [hp,zkn hx]
 have e2: @N (skT H g) q=a'*64+b':=by show cod H q.1=_;rw [hq,zkn hy]
 rw [e1,e2] at h
 obtain ⟨t1,t2,t3,ox,n,ox1,_,ox2⟩:=ht x _ _ _ hx
 obtain ⟨u1,u2,u3,oy,n',oy1,_,oy2⟩:=ht y _ _ _ hy
 rw [lt'_eq,hp,hq]
 refine wpS_bind (wpS_get ?_)
 rw [show kindOf st=tuples' true from hk]
 refine wpS_bind (wpS_lift (wpAny_attempt (PySem.W.kat_lt ox1 ox2 oy1 oy2 ?_)))
 show PySem.W.KatLex prog w A true (decide (3<3)) _ [(.int a t1,.int a' u1),(.int b t2,.int b' u2),(.int (g a b) t3,.int (g a' b') u3)] 0 s
 refine PySem.W.kat_cons (wpAny_eqBool_int (PySem.W.kat_go (fun e=>PySem.W.kat_yes ?_) fun e=>PySem.W.kat_no ?_))
 ·have ea:a=a':=by simpa using e
  subst ea
  refine PySem.W.kat_cons (wpAny_eqBool_int (PySem.W.kat_go (fun e=>PySem.W.kat_yes ?_) fun e=>PySem.W.kat_no ?_))
  ·have eb:b=b':=by simpa using e
   subst eb
   refine PySem.W.kat_cons (wpAny_eqBool_int (PySem.W.kat_go (fun e=>PySem.W.kat_yes (PySem.W.kat_nil ⟨rfl,wpS_pure ?_⟩)) fun e=>absurd e (by simp)))
   have:decide (a*64+b<a*64+b)=decide (3<3):=by simp
   rw [<-this];exact h
  ·have:decide (a*64+b<a*64+b')=decide (b<b'):=by
    by_cases hb:b<b'
    ·rw [ZB8 hb,ZB8 (by lia)]
    ·rw [ZB9 hb,ZB9 (by lia)]
   rw [this] at h
   exact PySem.W.kat_one _ _ (lt_int (show _ from ⟨rfl,wpS_pure h⟩))
 ·have ea:a≠a':=by simpa using e
  have:decide (a*64+b<a'*64+b')=decide (a<a'):=by
   by_cases hb:a<a'
   ·rw [ZB8 hb,ZB8 (by lia)]
   ·rw [ZB9 hb,ZB9 (by lia)]
  rw [this] at h
  exact oneLt_int ⟨rfl,wpS_pure h⟩
theorem zhf (ht:zvp H s.heap) {vs:List Value} {Q:SortKind->Shared->Prop} (hv:∀v∈vs,@isN (skT H g) (v,v)) (h2:2<=vs.length) (h:Q (tuples' true) s):wpAny (model prog w) A (keyKind' vs.toArray) Q E s:=by
 have key:∀l:List Value,(∀v∈l,@isN (skT H g) (v,v))->∃fs,PySem.W.KatTups s.heap l fs/\fs.length=l.length/\∀f∈fs,∃n t,f=Value.int n t:=by
  intro l
  induction l with
  | nil=>exact fun _=>⟨[],PySem.W.KatTups.nil,rfl,fun _ h=>nomatch h⟩
  | cons v r ih=>
   intro hl
   obtain ⟨fs,k1,k2,k3⟩:=ih fun v hv=>hl v (ZA4 _ hv)
   obtain ⟨q,a,b,e,hq,_⟩:=hl v ZA5
   obtain rfl:v=.ref q:=e
   obtain ⟨t1,t2,t3,o,n,e1,e2,e3⟩:=ht q _ _ _ hq
   refine ⟨.int a t1::fs,PySem.W.KatTups.cons e1 e2 e3 rfl k1,by simp [k2],fun f hf=>?_⟩
   rcases ZBe.mp hf with rfl | hf
   ·exact ⟨a,t1,rfl⟩
   ·exact k3 f hf
 obtain ⟨fs,k1,k2,k3⟩:=key vs hv
 exact PySem.W.kat_kind (T:=.type "int") k1 (by lia) (fun v hv=>by obtain ⟨n,t,rfl⟩:=k3 v hv;exact PySem.W.Looks.of_pure rfl) (by decide) h
end
section
variable {X:Cx}
theorem zpo:∀{ps:List Addr} {us:List Value},zb3 (ps.map V.ref) us->us=ps.map Value.ref
 | [],_,.nil=>rfl
 | p::ps,_,.cons r t=>by
  have e:=zpo t
  cases r
  rw [ZBf,e]
theorem zkx:∀(ps:List Addr),zb3 (ps.map V.ref) (ps.map Value.ref)
 | []=>.nil
 | p::ps=>.cons rfl (zkx ps)
theorem zlu:zg2 X (.builtin "sorted") (fun xs H Q=>∃(p:Addr) (ps:List Addr) (g:Int->Int->Int),xs=[.ref p]/\H p=some (.lst (ps.map V.ref))/\
 (∀q∈ps,∃a b,H q=some (tri a b (g a b))/\0<=a/\a<64/\0<=b/\b<64)/\
 ∀(l:Addr) (ps':List Addr),H l=none->ps'.Perm ps->(ps'.Pairwise fun x y=>cod H (.ref x)<=cod H (.ref y))->Q (.ref l) (upd H l (.lst (ps'.map V.ref)))):=by
 intro pins s σ H xs us Q I r h
 obtain ⟨p,ps,g,rfl,hp,hps,q⟩:=h
 obtain ⟨u,rfl,ru⟩:=zjp r
 cases ru
 obtain ⟨hz,its,n,rv,e0⟩:=(show zce X.prog X.w H s.heap p (.lst (ps.map V.ref)) from I.hok p _ hp)
 rw [ZAu] at hz
 obtain rfl:=zpo rv
 refine zi5 (R:=fun s1 us=>Inv X pins σ H s1/\us=ps.map Value.ref) (collect_list (vs:=ps.map Value.ref) ⟨_,e0,rfl,n,rfl⟩ ⟨I.at_ (s1:={ s with heap:=_ }) (fun b o e=>?_) rfl rfl rfl,rfl⟩ (by simpa using hz)) ?_
 ·have hb:b<s.heap.objs.size:=ZBc e
  rw [Heap.get?_update_ne _ _ _ _ (ZBj hb)]
  exact ZAy _ e
 ·rintro s1 us ⟨I1,rfl⟩
  have ht:zvp H s1.heap:=zug I1.hok
  have hok:∀v∈ps.map Value.ref,@isN (skT H g) (v,v):=fun v hv=>by
   obtain ⟨x,hx,rfl⟩:=ZBr.mp hv
   obtain ⟨a,b,h1,h2⟩:=hps x hx
   exact ⟨x,a,b,rfl,h1,h2⟩
  refine @zm9 (skT H g) X.prog X.w _ _ s1 _ _ (by simpa using hz) (fun h2 A E h' Q hk hq=>zhf (s:={ s1 with heap:=h' }) (ht.keep hk) hok h2 hq) (fun A E h' hk=>ltT (s:={ s1 with heap:=h' }) (ht.keep hk)) hok fun out h' o1 o2 k2 he=>?_
  obtain ⟨e,he⟩:=he
  obtain ⟨ps',hps'⟩:∃ps':List Addr,out.toList=ps'.map Value.ref:=by
   have:∀l:List Value,(∀v∈l,v∈ps.map Value.ref)->∃ps':List Addr,l=ps'.map Value.ref:=by
    intro l
    induction l with
    | nil=>exact fun _=>⟨[],rfl⟩
    | cons v r ih=>
     intro hl
     obtain ⟨ps',e⟩:=ih fun v hv=>hl v (ZA4 _ hv)
     obtain ⟨x,_,e1⟩:=ZBr.mp (hl v ZA5)
     exact ⟨x::ps',by rw [ZBf,e,e1]⟩
   exact this _ fun v hv=>o1.mem_iff.mp hv
  rw [hps'] at o1 o2
  have hinj:Function.Injective Value.ref:=fun a b e=>by cases e;rfl
  have hpm:ps'.Perm ps:=by
   have:=o1.map (fun v:Value=>match v with | .ref a=>a | _=>0)
   simpa [List.map_map,Function.comp_def] using this
  have fr:H s1.heap.objs.size=none:=I1.hok.fresh (ZAw _)
  refine ⟨.ref s1.heap.objs.size,_,I1.laid (t':=s1.toks) k2 (ZAw _) (show zce X.prog X.w _ h' _ (.lst (ps'.map V.ref)) from ⟨?_,out.toList,e,by rw [hps'];exact zkx ps',by rw [he]⟩),rfl,q _ _ fr hpm ?_⟩
  ·rw [ZAu,hpm.length_eq];exact hz
  ·rw [List.pairwise_map] at o2;exact o2
end
open PySem PySem.Spec PyProof.Rows
def zyf:V->Option Int->Option Int->Hp->VK->Prop:=fun x lo hi H Q=>∃a xs,x=.ref a/\H a=some (.tup xs)/\
 ¬(HT.sIx xs.length 0 lo=0/\HT.sIx xs.length xs.length hi=xs.length)/\∀p,H p=none->Q (.ref p) (upd H p (.tup (zit xs lo hi)))
theorem zl7 {X:Cx}:SlR X zyf:=by
 intro pins s σ H x v vl vu lo hi sl Q I rx hs pl pu h
 obtain ⟨a,xs,e,h1,h2,q⟩:=h
 exact zna pins s σ H x v vl vu lo hi sl Q I rx hs pl pu ⟨a,xs,e,SqT.of h1,h2,q⟩
end L2
namespace Y0
open PySem L2
seal L2.PE L2.PA L2.PT L2.PS L2.PSs L2.PG L2.PGs L2.PI L2.PO
abbrev Tri:=Nat×Nat×Int
def zeb (H:Hp) (q:Addr) (x:Tri):Prop:=H q=some (tri x.1 x.2.1 x.2.2)
theorem zeb.same {H H':Hp} {q:Addr} {x:Tri} (h:zeb H q x) (s:za7 H H'):zeb H' q x:=s _ _ h
def zt4 (H:Hp) (q:Addr):Tri:=match H q with
 | some (.tup [.int a,.int b,.int v])=>(a.toNat,b.toNat,v)
 | _=>(0,0,0)
theorem zqy {H:Hp} {q:Addr} {x:Tri} (h:zeb H q x):zt4 H q=x:=by
 unfold zt4
 rw [h]
 obtain ⟨a,b,v⟩:=x
 rfl
theorem zm3 {H:Hp}:∀{ps:List Addr} {L:List Tri},Paired (zeb H) ps L->L=ps.map (zt4 H)
 | _,_,.nil=>rfl
 | _,_,.cons r t=>by rw [ZBf,<-zm3 t,zqy r]
theorem zoz {H:Hp}:∀{ps:List Addr},(∀q∈ps,zeb H q (zt4 H q))->Paired (zeb H) ps (ps.map (zt4 H))
 | [],_=>.nil
 | q::ps,h=>.cons (h q ZA5) (zoz fun r hr=>h r (ZA4 _ hr))
theorem zjf {α β:Type} {F:α->β->Prop}:∀{l:List α} {m:List β},Paired F l m->∀x∈l,∃y∈m,F x y
 | _,_,.nil,_,h=>nomatch h
 | _,_,.cons r t,x,h=>by
  rcases ZBe.mp h with rfl | h
  ·exact ⟨_,ZA5,r⟩
  ·obtain ⟨y,hy,ry⟩:=zjf t x h
   exact ⟨y,ZA4 _ hy,ry⟩
def zuz (st:MU.St) (t:Bool) (k:MU.Key):Option Tri:=if k.1=t then (MU.val st k).map fun v=>(k.2.1,k.2.2,v) else none
structure zxw (st:MU.St) (t:Bool) (L:List Tri):Prop where
 up:L.Pairwise fun x y=>((x.1:Int)*64+x.2.1)<=((y.1:Int)*64+y.2.1)
 has:∀a b v,(a,b,v)∈L↔MU.val st (t,a,b)=some v
 once:(L.map fun x=>(x.1,x.2.1)).Nodup
def ztr (C:Addr):Sp:=fun vs H Q _=>∃(p be rl bd:Addr) (n:Nat) (F:MU.zax) (st:MU.St) (t:Bool),vs=[.ref p,.str (zc4 t)]/\Clo C H p be rl bd n F st/\MU.zee n st/\n<=8/\st.rows.length<=16500000/\
 ∀l H' ps L,H l=none->za7 H H'->H' l=some (.lst (ps.map V.ref))->Paired (zeb H') ps L->zxw st t L->Q (.ref l) H'
theorem zvc {kvs:List (List Key×V)} (h:∀kv∈kvs,∃k:MU.Key,kv.1=zdb k):∃ks:List MU.Key,kvs.map (·.1)=ks.map zdb:=by
 induction kvs with
 | nil=>exact ⟨[],rfl⟩
 | cons kv r ih=>
  obtain ⟨ks,e⟩:=ih fun kv hkv=>h kv (ZA4 _ hkv)
  obtain ⟨k,e1⟩:=h kv ZA5
  exact ⟨k::ks,by rw [ZBf,ZBf,e,e1]⟩
theorem zz3 {x:MU.zar}:zit (zb6 x) (some 1) none=[V.int (x.a:Int),V.int (x.b:Int),V.int x.v]:=by
 unfold zit zb6
 rw [HT.sIx_none,show (some (1:Int))=some ((1:Nat):Int) from rfl,HT.sIx_nat]
 rfl
theorem zwz {x:MU.zar}:¬(HT.sIx (zb6 x).length 0 (some 1)=0/\HT.sIx (zb6 x).length (zb6 x).length none=(zb6 x).length):=fun z=>by
 have h:=z.1
 rw [show (some (1:Int))=some ((1:Nat):Int) from rfl,HT.sIx_nat] at h
 have e:(zb6 x).length=4:=rfl
 rw [e] at h
 cases h
theorem zg9 {α β:Type} {f:α->β}:∀{l:List α},(l.map f).Nodup->l.Nodup
 | [],_=>List.nodup_nil
 | a::l,h=>by
  rw [ZBf,List.nodup_cons] at h
  exact List.nodup_cons.mpr ⟨fun z=>h.1 (List.mem_map_of_mem z),zg9 h.2⟩
theorem zyv {a b:Bool}:decide (V.str (zc4 a)=V.str (zc4 b))=decide (a=b):=decide_eq_decide.mpr ⟨fun q=>zlj (V.str.inj q),fun q=>by rw [q]⟩
theorem zAq:zan ["self","kind"] ["self","kind"] (zag sC_Closing_best_drawn):=scm
theorem zBr:zbw (zag sC_Closing_best_drawn) ["self","kind"] (fsc [(".0",.local),("key",.local),("kind",.free),("self",.free)]) ["key","kind","self"] [none,some 1,some 0]:=com
theorem zA7:(["key","kind","self"]:List Str).Nodup:=by decide+kernel
theorem ok_best {f C:Addr} {fd:FuncData} (F:Fun K "best_drawn" "Closing.best_drawn" sC_Closing_best_drawn f fd) (T:zhg K mg C) (hS:mg "sorted"=none):zbb P w K mg base CX0 1 f fd ["self","kind"] (ztr C):=by
 refine F.ok zAq (fun _ _ _ _ h=>?_) fun _ A _ s H _ Q E hr h=>?_
 ·obtain ⟨_,_,_,_,_,_,_,_,rfl,_⟩:=h
  rfl
 ·obtain ⟨p,be,rl,bd,n,Fa,st,t,rfl,c,g,h8,hlen,k⟩:=h
  have hu:=zfh hr
  refine ⟨_,zad (zaq (zay zlu (by rfl) hS PyProof.Rows.boot_sorted (pa1 (zu2 (zcs rfl (zu0 (zcb (pv 0) rfl)) zBr (fun cl ex s0 H0=>⟨zcw 0 zA7,zf5 (zb8 zbd (ixT (pv 0)) (pv 1)),zcg zl7 (ixT (zbm zal (zfc (K:=K) rfl (pv 2) rfl) (zda hu (zfc (K:=K) rfl (pv 2) rfl) (pv 0) (fun _ _=>rfl)) (fun _ _=>rfl))) (zcy zae) zdh⟩)))))),?_⟩
  obtain ⟨dx,hp⟩:=c.ins
  obtain ⟨qs,hrl,hrows⟩:=c.rows
  obtain ⟨kvs,hbd,hkl,hkv⟩:=c.best
  obtain ⟨ks,hks⟩:=zvc hkl.2
  have hkn:kvs.length=ks.length:=by have:=congrArg List.length hks;simpa using this
  refine ⟨_,rfl,p,C,dx,_,_,rfl,hp,T.cl,T.nE,zf3,bd,kvs,rfl,hbd,fun hnd o Da hDa=>?_⟩
  rw [hks] at hnd
  have knd:ks.Nodup:=zg9 hnd
  have known:∀kk∈ks,∃j x,st.best kk=some j/\MU.wat st j=some x/\x.key=kk:=fun kk hk=>by
   have:(zfk kvs (zdb kk)).isSome=true:=by
    rw [<-zet]
    have hm:zdb kk∈kvs.map (·.1):=by rw [hks];exact List.mem_map_of_mem hk
    obtain ⟨kv,h1,h2⟩:=ZBr.mp hm
    exact List.any_eq_true.mpr ⟨kv,h1,by simpa using h2⟩
   rw [hkv] at this
   cases hb:st.best kk with
   | none=>rw [hb] at this;cases this
   | some j=>
    obtain ⟨x,h1,h2⟩:=g.at_ _ _ hb
    exact ⟨j,x,rfl,h1,h2⟩
  have bdp:bd≠p:=zba hbd hp nofun
  have bdr:bd≠rl:=zba hbd hrl nofun
  have Dbd:Da≠bd:=fun z=>by rw [z,zaa] at hDa;cases hDa
  have hDH:H Da=none:=by rwa [zai Dbd] at hDa
  refine zq3 (a:=bd) (o:=o) (kvs:=kvs) (fun i σ' H'=>∃v ps L,σ'=[v,some (.str (zc4 t)),some (.ref p)]/\H' Da=some (.lst (ps.map V.ref))/\Paired (zeb H') ps L/\L=(ks.take i).filterMap (zuz st t)/\ps.length<=i/\H' bd=some (.frz o (.dT kvs))/\∀b x,H b=some x->b≠bd->H' b=some x)
   ⟨none,[],[],rfl,zaa,.nil,rfl,ZBa _,by rw [zai (ZAl Dbd),zaa],fun b x e ne=>by rw [zai (zac e hDH),zai ne];exact e⟩ ?_ ?_ ?_
  ·rintro i σ' H2 _ ⟨v,ps,L,rfl,_,_,_,_,e,_⟩
   exact e
  ·rintro i kx vx q σ' H2 hi hq ⟨v,ps,L,rfl,e2,hps,hL,hpl,eb,kp⟩
   obtain ⟨kk,hkk,rfl⟩:∃kk,ks[i]?=some kk/\kx=zdb kk:=by
    have:=congrArg (fun l=>l[i]?) hks
    simp only [ZA0,hi] at this
    cases hk:ks[i]? with
    | none=>rw [hk] at this;cases this
    | some kk=>rw [hk] at this;exact ⟨kk,rfl,ZA7 this⟩
   have hil:i<ks.length:=(ZAv.mp hkk).1
   have et:ks.take (i+1)=ks.take i++[kk]:=by rw [ZBu,hkk];rfl
   obtain ⟨tt,a,b⟩:=kk
   obtain ⟨j,x,hbj,hx,hxk⟩:=known _ (ZA1 hkk)
   have hval:MU.val st (tt,a,b)=some x.v:=by unfold MU.val;rw [hbj];show (MU.wat st j).map _=_;rw [hx];rfl
   refine ⟨_,rfl,rdT hq rfl ⟨_,rfl,rfl,_,rfl,?_⟩⟩
   refine (show if decide (V.str (zc4 tt)=V.str (zc4 t))=true then _ else _ from ?_)
   rw [zyv]
   by_cases ht:tt=t
   ·refine zf9 ht ?_
    obtain ⟨q',r,pw,pu,g1,g2,g3,g4,g5,g6⟩:=zjz hrows hx
    have hat:atI (qs.map V.ref) (j:Int)=some (.ref q'):=zbv (by rw [ZA0,g1];rfl)
    have dg:ze5 H2 bd (.ref q) (some (.int (j:Int))):=.inr ⟨kvs,_,q,.inr ⟨o,eb⟩,rfl,hq,by rw [hkv,hbj];rfl⟩
    have tupk:∀{b:Addr} {xs:List V},H b=some (.tup xs)->H2 b=some (.tup xs):=fun e=>kp _ _ e (zba e hbd nofun)
    refine ⟨_,rfl,p,C,dx,_,_,rfl,kp _ _ hp (ZAl bdp),T.cl,T.nR,zgo,_,rfl,p,C,dx,_,_,rfl,kp _ _ hp (ZAl bdp),T.cl,T.nE,zf3,_,rfl,bd,_,rfl,dg,rl,_,_,_,rfl,rfl,kp _ _ hrl (ZAl bdr),hat,rdT (tupk g4) rfl ⟨_,rfl,pw,_,rfl,tupk g5,zwz,fun kt hkt=>?_⟩⟩
    rw [zz3]
    have hk2:=MU.zde hxk
    have e3:upd H2 kt (.tup [V.int (x.a:Int),V.int (x.b:Int),V.int x.v]) kt=some (.tup [V.int (x.a:Int),V.int (x.b:Int),V.int x.v]):=zaa
    have s3:=zab (o:=.tup [V.int (x.a:Int),V.int (x.b:Int),V.int x.v]) hkt
    generalize upd H2 kt (.tup [V.int (x.a:Int),V.int (x.b:Int),V.int x.v])=H3 at*
    have e2':=s3 _ _ e2
    have nD:∀{b:Addr} {o:HO},H3 b=some o->o≠.lst (ps.map V.ref)->upd H3 Da (.lst (ps.map V.ref++[.ref kt])) b=some o:=fun {b o} e ne=>by rw [zai (zba e e2' ne)];exact e
    have keep:∀b y,zeb H2 b y->zeb (upd H3 Da (.lst (ps.map V.ref++[.ref kt]))) b y:=fun b y e=>nD (s3 _ _ e) nofun
    refine ⟨_,e2',?_,_,ps++[kt],L++[(a,b,x.v)],rfl,?_,?_,?_,?_,?_,fun b' y e ne=>?_⟩
    ·rw [ZAu]
     have:=hkl.1
     exact Nat.lt_of_le_of_lt (show ps.length<=16500000 by lia) (by decide)
    ·rw [zaa,ZA9]
     rfl
    ·refine zas (zaj hps keep) (.cons ?_ .nil)
     have:zeb H3 kt (a,b,x.v):=by
      unfold zeb tri
      rw [e3,hk2.2.1,hk2.2.2]
     exact nD this nofun
    ·rw [et,List.filterMap_append,hL]
     have:zuz st t (tt,a,b)=some (a,b,x.v):=by
      unfold zuz
      rw [if_pos ht,hval]
      rfl
     simp [this]
    ·rw [ZA3];show ps.length+1<=i+1;lia
    ·exact nD (s3 _ _ eb) nofun
    ·rw [zai (zac e hDH)]
     exact s3 _ _ (kp _ _ e ne)
   ·refine zd6 ht ⟨_,ps,L,rfl,e2,hps,?_,by lia,eb,kp⟩
    rw [et,List.filterMap_append,hL]
    have:zuz st t (tt,a,b)=none:=if_neg ht
    simp [this]
  ·rintro σ' H2 ⟨v,ps,L,rfl,e2,hps,hL,hpl,eb,kp⟩
   refine ⟨bd,o,_,eb,fun o u z=>?_,?_⟩
   ·have z:H bd=some (.frz o u):=z
    rw [hbd] at z
    cases z
   have s3:za7 H (upd H2 bd (.dT kvs)):=fun b x e=>by
    by_cases hb:b=bd
    ·subst hb;rw [hbd] at e;cases e;exact zaa
    ·rw [zai hb];exact kp _ _ e hb
   have nb:∀{b:Addr} {x:HO},H2 b=some x->x≠.frz o (.dT kvs)->upd H2 bd (.dT kvs) b=some x:=fun {b x} e ne=>by rw [zai (zba e eb ne)];exact e
   have e3:=nb e2 nofun
   have hps3:Paired (zeb (upd H2 bd (.dT kvs))) ps L:=zaj hps fun b y e=>nb e nofun
   generalize upd H2 bd (.dT kvs)=H3 at*
   have hall:ks.take kvs.length=ks:=by rw [hkn];exact ZBi
   rw [hall] at hL
   have inL:∀a b v,(a,b,v)∈L↔MU.val st (t,a,b)=some v:=fun a b v=>by
    rw [hL,List.mem_filterMap]
    constructor
    ·rintro ⟨kk,hk,e⟩
     unfold zuz at e
     by_cases hkt:kk.1=t
     ·rw [if_pos hkt] at e
      cases hv:MU.val st kk with
      | none=>rw [hv] at e;cases e
      | some v'=>
       rw [hv] at e
       cases e
       obtain ⟨t',a',b'⟩:=kk
       cases hkt
       exact hv
     ·rw [if_neg hkt] at e;cases e
    ·intro hv
     have hb:∃j,st.best (t,a,b)=some j:=by
      unfold MU.val at hv
      cases hq:st.best (t,a,b) with
      | none=>rw [hq] at hv;cases hv
      | some j=>exact ⟨j,rfl⟩
     obtain ⟨j,hj⟩:=hb
     have:(zfk kvs (zdb (t,a,b))).isSome=true:=by rw [hkv,hj];rfl
     rw [<-zet] at this
     obtain ⟨kv,h1,h2⟩:=List.any_eq_true.mp this
     have hm:zdb (t,a,b)∈ks.map zdb:=by rw [<-hks];exact ZBr.mpr ⟨kv,h1,by simpa using h2⟩
     obtain ⟨kk,h3,h4⟩:=ZBr.mp hm
     refine ⟨(t,a,b),znm h4▸h3,?_⟩
     unfold zuz
     rw [if_pos rfl,hv]
     rfl
   have small:∀q∈ps,∃x∈L,zeb H3 q x/\x.1<8/\x.2.1<8:=fun q hq=>by
    obtain ⟨x,hx,hqx⟩:=zjf hps3 q hq
    refine ⟨x,hx,hqx,?_⟩
    obtain ⟨a,b,v⟩:=x
    have hv:=(inL a b v).mp hx
    unfold MU.val at hv
    cases hq:st.best (t,a,b) with
    | none=>rw [hq] at hv;cases hv
    | some j=>
     obtain ⟨w',h1,h2⟩:=g.at_ _ _ hq
     have h3:=g.lt _ _ h1
     have h4:=MU.zde h2
     exact ⟨by show a<8;have:=h4.2.1;lia,by show b<8;have:=h4.2.2;lia⟩
   refine ⟨Da,ps,fun a b=>(MU.val st (t,a.toNat,b.toNat)).getD 0,rfl,e3,fun q hq=>?_,fun l ps' hl hpm hup=>?_⟩
   ·obtain ⟨⟨a,b,v⟩,hx,hqx,ha,hb⟩:=small q hq
    have ha:a<8:=ha
    have hb:b<8:=hb
    refine ⟨a,b,?_,by lia,by lia,by lia,by lia⟩
    show H3 q=some (tri a b ((MU.val st (t,((a:Int)).toNat,((b:Int)).toNat)).getD 0))
    rw [ZBx,ZBx,(inL a b v).mp hx]
    exact hqx
   ·have hlH:H l=none:=by
     cases q:H l with
     | none=>rfl
     | some x=>rw [s3 _ _ q] at hl;cases hl
    have s4:=zab (o:=.lst (ps'.map V.ref)) hl
    have hdec:∀q∈ps',zeb H3 q (zt4 H3 q):=fun q hq=>by
     obtain ⟨x,_,hqx,_⟩:=small q (hpm.mem_iff.mp hq)
     rw [zqy hqx]
     exact hqx
    have hLp:(ps'.map (zt4 H3)).Perm L:=by rw [zm3 hps3];exact hpm.map _
    refine k l _ ps' (ps'.map (zt4 H3)) hlH (s3.trans s4) zaa (zaj (zoz hdec) fun q x e=>e.same s4) ⟨?_,fun a b v=>?_,?_⟩
    ·rw [List.pairwise_map]
     refine List.Pairwise.imp_of_mem (fun {x y} hx hy e=>?_) hup
     rw [zkn (hdec x hx),zkn (hdec y hy)] at e
     exact e
    ·rw [hLp.mem_iff]
     exact inL a b v
    ·refine ((hLp.map _).nodup_iff).mpr ?_
     rw [hL]
     unfold List.Nodup
     rw [List.pairwise_map]
     refine List.Pairwise.filterMap _ (fun a a' hne b hb b' hb' e=>hne ?_) knd
     unfold zuz at hb hb'
     by_cases h1:a.1=t
     ·by_cases h2:a'.1=t
      ·rw [if_pos h1] at hb
       rw [if_pos h2] at hb'
       cases hv:MU.val st a with
       | none=>rw [hv] at hb;cases hb
       | some v1=>
        cases hv':MU.val st a' with
        | none=>rw [hv'] at hb';cases hb'
        | some v2=>
         rw [hv] at hb
         rw [hv'] at hb'
         cases hb
         cases hb'
         have e:(a.2.1,a.2.2)=(a'.2.1,a'.2.2):=e
         exact Prod.ext (h1.trans h2.symm) e
      ·rw [if_neg h2] at hb';cases hb'
     ·rw [if_neg h1] at hb;cases hb
end Y0
namespace MU
def zhw (st:St):Prop:=(∀(i:Nat) (r:Row),st.rows[i]?=some r->r.used.length<=2/\∀j∈r.used,j<i)/\∀b,st.bar=some b->∃r,st.rows[b]?=some r/\zhy r.what
theorem zk3 {st:St} {w:zar} {word:Wd} {us:List Nat} (h:zhw st) (hu:us.length<=2/\∀j∈us,j<st.rows.length):zhw (take st w word us):=by
 unfold take
 split
 ·refine ⟨fun i r hr=>?_,fun b hb=>?_⟩
  ·have hr:(st.rows++[⟨w,word,us⟩])[i]?=some r:=hr
   by_cases hi:i<st.rows.length
   ·rw [ZBq hi] at hr
    exact h.1 i r hr
   ·rw [ZBk (by lia)] at hr
    cases hk:i-st.rows.length with
    | zero=>
     rw [hk] at hr
     cases hr
     exact ⟨hu.1,fun j hj=>by have:=hu.2 j hj;lia⟩
    | succ k=>rw [hk] at hr;cases hr
  ·have hb:(if st.bar=none/\zhy w then some st.rows.length else st.bar)=some b:=hb
   show ∃r,(st.rows++[(⟨w,word,us⟩:Row)])[b]?=some r/\zhy r.what
   by_cases hc:st.bar=none/\zhy w
   ·rw [if_pos hc] at hb
    cases hb
    exact ⟨_,by rw [ZBk (ZAw _),Nat.sub_self];rfl,hc.2⟩
   ·rw [if_neg hc] at hb
    obtain ⟨r,hr,hB⟩:=h.2 b hb
    exact ⟨r,by rw [ZBq (ZAv.mp hr).1];exact hr,hB⟩
 ·exact h
theorem zne {st:St} {o:Option zar} {word:Wd} {us:List Nat} (h:zhw st) (hu:∀x,o=some x->us.length<=2/\∀j∈us,j<st.rows.length):zhw (put st o word us):=by
 cases o with
 | none=>exact h
 | some x=>exact zk3 h (hu x rfl)
theorem zfx {f:zar->Option zar} {word:Wd} {i:Nat} {st:St} (h:zhw st):zhw (za6 f word i st):=by
 refine zne h fun x hx=>⟨by show 1<=2;lia,fun j hj=>?_⟩
 cases hw:wat st i with
 | none=>rw [hw] at hx;cases hx
 | some y=>rw [ZBd.mp hj];exact zeq hw
theorem zfw {f:zar->zar->Option zar} {word:Wd} {i j:Nat} {st:St} (h:zhw st):zhw (zat f word i j st):=by
 refine zne h fun x hx=>⟨ZAw 2,fun k hk=>?_⟩
 cases hw:wat st i with
 | none=>rw [hw] at hx;cases hx
 | some y=>
  rw [hw] at hx
  cases hw':wat st j with
  | none=>rw [show ((some y).bind fun p=>(wat st j).bind fun q=>f p q)=(wat st j).bind fun q=>f y q from rfl,hw'] at hx;cases hx
  | some z=>
   rcases ZBe.mp hk with rfl | hk
   ·exact zeq hw
   ·rw [ZBd.mp hk];exact zeq hw'
theorem zer {α:Type} {g:St->α->St} (hg:∀st a,zhw st->zhw (g st a)):∀(l:List α) (st:St),zhw st->zhw (l.foldl g st)
 | [],_,h=>h
 | a::l,st,h=>zer hg l _ (hg st a h)
theorem zi1 (rows:List zar) (st:St) (h:zhw st):zhw (zgc rows st):=zer (fun st w h=>zk3 h ⟨ZBa _,fun j hj=>absurd hj (by simp)⟩) rows st h
theorem zjk:zhw empty:=⟨fun i r h=>by simp [empty] at h,fun b h=>by simp [empty] at h⟩
theorem zln {n:Nat} {F:zax} {at_ a b:Nat} {st:St} (h:zhw st):zhw (zb0 n F at_ a b st):=
 zer (fun _ _ h=>zfw h) _ _ (zer (fun _ _ h=>zfw h) _ _ (zer (fun _ _ h=>zfw h) _ _ (zfx (zfx h))))
theorem zki {n:Nat} {F:zax} {at_ a:Nat} {st:St} (h:zhw st):zhw (zbc n F at_ a st):=
 zer (fun _ _ h=>zfw h) _ _ (zfx (zfx h))
theorem zjw {n:Nat} {F:zax} {st:St} (h:zhw st):∀t,zhw (run n F st t)
 | 0=>h
 | t+1=>by
  have ih:=zjw (n:=n) (F:=F) h t
  show zhw (look n F t (run n F st t))
  unfold look
  split
  ·split
   ·split
    ·exact zln ih
    ·exact zki ih
   ·exact ih
  ·exact ih
end MU
namespace L2
open PySem PySem.Spec PyProof.Rows
def Itd (hi:Int) (n:Nat):It:=⟨fun i _=>i<n,fun i H x H'=>H'=H/\x=.int (hi-i),fun i _=>n<=i⟩
theorem zj2 {prog:Program} {w:World} {A:Around} {E:Value->Shared->Prop} {s:Shared} {it:Addr} {lo:Int} {i n:Nat} {Q:Option Value->Shared->Prop} (hi:i<n) (st:IsRangeIter s.heap it (lo-(i:Nat)) ((n:Int)-(i:Nat)) (-1))
 (hQ:∀(t:Tok) h' tk,IsRangeIter h' it (lo-((i+1:Nat):Int)) ((n:Int)-((i+1:Nat):Int)) (-1)->(∀b o,b∉[it]->s.heap.get? b=some o->h'.get? b=some o)->Q (some (.int (lo-(i:Nat)) t)) { s with heap:=h',toks:=tk }):
 wpAny (model prog w) A (pyNext (.ref it)) Q E s:=by
 refine wpAny_pyNext_range_item st (by lia) fun h' st' sb=>?_
 refine hQ _ h' _ ?_ fun b o hb e=>sb.extBut b o (fun z=>hb (by simp [z])) e
 have e1:lo-((i+1:Nat):Int)=lo-(i:Int)+ -1:=by lia
 have e2:(n:Int)-((i+1:Nat):Int)=(n:Int)-(i:Int)-1:=by lia
 rw [e1,e2]
 exact st'
theorem zox {P:Program} {w:World} {K:ZCa} {tg:Expr} (it:Addr) (lo:Int) (n:Nat):zvo P w K tg (Itd lo n) [it] it (fun i h=>IsRangeIter h it (lo-(i:Nat)) ((n:Int)-(i:Nat)) (-1)) where
 mem:=by simp
 obj:=fun i h st b hb=>by
  have e:b=it:=by simpa using hb
  subst e
  exact ⟨_,st,fun v z=>by
   have z':Data.fields _=Data.cell v:=z
   cases z'⟩
 keep:=fun i h h' st k=>k it (by simp) _ st
 item:=by
  intro X hP hw hK hc i pins s σ H E I hf st hg
  subst hP hw hK
  obtain ⟨f0,f1,f2,f3,f4,f5⟩:=hf it (by simp)
  refine zj2 hg st fun t h' tk st' kk=>?_
  have I1:Inv X pins σ H { s with heap:=h',toks:=tk }:=I.turned (fun b o hb e=>kk b o (by simpa using hb) e) f0 f1 f3 f4 f5
  exact ⟨_,rfl,zsq (s:={ s with heap:=h',toks:=tk }) (n:="range_iterator") st' rfl rfl (by decide) ⟨.int (lo-i),H,I1,⟨t,rfl⟩,⟨rfl,rfl⟩,st',fun b hb=>(hf b hb).1⟩⟩
 done:=by
  intro X hP hw hK hc i pins s σ H E I hf st hg
  subst hP hw hK
  obtain ⟨f0,f1,f2,f3,f4,f5⟩:=hf it (by simp)
  exact zg6 (zoe hc I) st (by have:n<=i:=hg;lia) fun h' eb=>⟨rfl,I.turned (t':=s.toks) (fun b o hb e=>eb b o hb e) f0 f1 f3 f4 f5⟩
 self:=fun _ _ _ _ _ st h=>wpAny_pyIter_rangeiter st h
theorem zst {lo:Int} {n:Nat} {g:TG} {tb:TS} {D:zs9} {σ:St} {H:Hp} (Pv:Nat->St->Hp->Prop) (h0:Pv 0 σ H)
 (hs:∀i σ H,i<n->Pv i σ H->g (.int (lo-i)) σ H fun σ2 H2=>tb { D with nx:=Pv (i+1),ct:=Pv (i+1),bk:=D.nx } σ2 H2) (hd:∀σ H,Pv n σ H->D.nx σ H):
 ∃W:Nat->Nat->St->Hp->Prop,(∃m,W 0 m σ H)/\∀i m σ H,W i m σ H->
  ((Itd lo n).stop i H/\D.nx σ H)\/((Itd lo n).go i H/\∃N:St->Hp->Prop,(∀σ' H',N σ' H'->∃m',m'<m/\W (i+1) m' σ' H')/\∀x H',(Itd lo n).yld i H x H'->g x σ H' fun σ2 H2=>tb { D with nx:=N,ct:=N,bk:=D.nx } σ2 H2):=by
 refine ⟨fun i m σ H=>m=n-i/\i<=n/\Pv i σ H,⟨n,by simp,ZBa _,h0⟩,?_⟩
 rintro i m σ H ⟨rfl,hi,p⟩
 by_cases hlt:i<n
 ·refine .inr ⟨hlt,Pv (i+1),fun σ' H' p'=>⟨n-(i+1),by lia,rfl,hlt,p'⟩,fun x H' y=>?_⟩
  obtain ⟨e,y⟩:=y
  subst e y
  exact hs i σ _ hlt p
 ·have e:i=n:=by lia
  subst e
  exact .inl ⟨ZAw _,hd σ H p⟩
theorem zpi (n:Nat):Builtin.Range.rangeSize ((n:Int)-1) (-1) (-1)=(n:Int):=by
 unfold Builtin.Range.rangeSize
 rw [if_neg (by decide)]
 by_cases h:0<n
 ·rw [if_pos (by lia)]
  show ((n:Int)-1- -1-1) / 1+1=n
  rw [Int.ediv_one]
  lia
 ·rw [if_neg (by lia)]
  lia
theorem zry {n:Nat} (h:n<=20000000):Builtin.Range.small ((n:Int)-1) (-1) (-1)=true:=by
 unfold Builtin.Range.small
 rw [zpi]
 simp [Builtin.Range.rangeFitsLong]
 lia
section
variable {X:Cx} {tg:Expr}
def iDn (ta:TA):TI:=fun σ H R=>ta σ H fun vs H1=>∃n:Nat,vs=[.int ((n:Int)-1),.int (-1),.int (-1)]/\n<=20000000/\R (Itd ((n:Int)-1) n) H1
theorem zpv {a b c:Expr} {ta:TA} {p pos:Pos} (hg:Gl X "range") (hm:X.mg "range"=none) (ha:PA X [a,b,c] ta) (hs:starEach [a,b,c] X.env=[(false,eval a X.env),(false,eval b X.env),(false,eval c X.env)]:=by rfl) (hs2:starEach [b,c] X.env=[(false,eval b X.env),(false,eval c X.env)]:=by rfl):
 PI X tg (.Call (.Name "range" p) [a,b,c] [] pos) (iDn ta):=by
 intro pins s σ H R I h
 refine Call_ (zha I hg hm boot_range (PyProof.Rows.callWith_type1 (thn (ha pos pins s σ H _ I h) fun us s1 zz=>?_) (by rw [hs,hs2]) (by rw [hs2];rfl)))
 obtain ⟨vs,H1,I1,r1,q1⟩:=zz
 obtain ⟨n,e,hn,q⟩:=q1
 subst e
 cases r1 with
 | cons r rr=>
  cases rr with
  | cons r' rr=>
   cases rr with
   | cons r'' rr=>
    cases rr
    obtain ⟨t,rfl⟩:=r
    obtain ⟨t',rfl⟩:=r'
    obtain ⟨t'',rfl⟩:=r''
    refine call_range_3 (by decide) ?_ (Or.inl (PyProof.noPylong_small (by lia)))
    refine wpAny_pyIter_range (IsRange.new ..) (zry hn) ?_
    have I2:Inv X pins σ H1 { s1 with heap:=s1.heap.push { cls:=.type "range",data:=.fields #[.int ((n:Int)-1) t,.int (-1) t',.int (-1) t''] },toks:=s1.toks }:=I1.kept fun b o e=>ZAy _ e
    refine ⟨(s1.heap.push { cls:=.type "range",data:=.fields #[.int ((n:Int)-1) t,.int (-1) t',.int (-1) t''] }).objs.size,[(s1.heap.push { cls:=.type "range",data:=.fields #[.int ((n:Int)-1) t,.int (-1) t',.int (-1) t''] }).objs.size],_,_,H1,rfl,
     I2.kept (t':=s1.toks) fun b o e=>ZAy _ e,zox _ ((n:Int)-1) n,?_,fun b hb=>?_,q⟩
    ·show IsRangeIter _ _ (((n:Int)-1)-((0:Nat):Int)) ((n:Int)-((0:Nat):Int)) (-1)
     rw [show ((n:Int)-1)-((0:Nat):Int)=(n:Int)-1 by lia,show (n:Int)-((0:Nat):Int)=Builtin.Range.rangeSize ((n:Int)-1) (-1) (-1) by rw [zpi];lia]
     exact ZBh _ rfl
    ·have e:b=(s1.heap.push { cls:=.type "range",data:=.fields #[.int ((n:Int)-1) t,.int (-1) t',.int (-1) t''] }).objs.size:=by simpa using hb
     subst e
     exact I2.fpOk (ZAw _) (I2.hok.fresh (ZAw _))
end
end L2
namespace Y0
open PySem L2
seal L2.PE L2.PA L2.PT L2.PS L2.PSs L2.PG L2.PGs L2.PI L2.PO
def zxf (rows:List MU.Row):Prop:=∀(i:Nat) (r:MU.Row),rows[i]?=some r->r.used.length<=2/\∀j∈r.used,j<i
structure zxu (rows:List MU.Row) (last:Nat) (ns:List Nat):Prop where
 up:ns.Pairwise (·<·)
 le:∀i∈ns,i<=last
 has:last∈ns
 uses:∀i∈ns,∀r,rows[i]?=some r->∀j∈r.used,j∈ns
 why:∀i∈ns,i=last\/∃k∈ns,∃r,rows[k]?=some r/\i∈r.used
structure NI (rows:List MU.Row) (last:Nat) (P:Nat->Prop) (ks:List Nat):Prop where
 once:ks.Nodup
 le:∀k∈ks,k<=last
 has:last∈ks
 why:∀i∈ks,i=last\/∃k∈ks,∃r,rows[k]?=some r/\i∈r.used
 fin:∀k∈ks,P k->∀r,rows[k]?=some r->∀j∈r.used,j∈ks
def zvm (ks:List Nat) (j:Nat):List Nat:=if j∈ks then ks else ks++[j]
theorem zdm {ks:List Nat} {j k:Nat}:k∈zvm ks j↔k∈ks\/k=j:=by
 unfold zvm
 split
 ·exact ⟨.inl,fun h=>h.elim id fun e=>e▸‹j∈ks›⟩
 ·simp
theorem NI.add {rows:List MU.Row} {last m j:Nat} {P:Nat->Prop} {ks:List Nat} {r:MU.Row} (h:NI rows last P ks) (hm:m∈ks) (hr:rows[m]?=some r) (hj:j∈r.used) (hjm:j<=m) (hP:¬P j):NI rows last P (zvm ks j):=by
 refine ⟨?_,fun k hk=>?_,zdm.mpr (.inl h.has),fun i hi=>?_,fun k hk hp r' hr' j' hj'=>?_⟩
 ·unfold zvm
  split
  ·exact h.once
  ·rename_i hn
   exact List.nodup_append.mpr ⟨h.once,List.nodup_cons.mpr ⟨nofun,List.nodup_nil⟩,fun a ha b hb e=>hn (by rw [ZBd.mp hb] at e;rw [<-e];exact ha)⟩
 ·rcases zdm.mp hk with hk | rfl
  ·exact h.le k hk
  ·have:=h.le m hm
   lia
 ·rcases zdm.mp hi with hi | rfl
  ·rcases h.why i hi with e | ⟨k,hk,r',h1,h2⟩
   ·exact .inl e
   ·exact .inr ⟨k,zdm.mpr (.inl hk),r',h1,h2⟩
  ·exact .inr ⟨m,zdm.mpr (.inl hm),r,hr,hj⟩
 ·rcases zdm.mp hk with hk | rfl
  ·exact zdm.mpr (.inl (h.fin k hk hp r' hr' j' hj'))
  ·exact absurd hp hP
def zsl (ks:List Nat):List Key:=ks.map fun i:Nat=>Sum.inl (i:Int)
theorem zkf {ks:List Nat} {j:Nat}:(Sum.inl (j:Int):Key)∈zsl ks↔j∈ks:=by
 unfold zsl
 rw [ZBr]
 constructor
 ·rintro ⟨k,hk,e⟩
  have:=Int.ofNat.inj (Sum.inl.inj e)
  exact this▸hk
 ·exact fun h=>⟨j,h,rfl⟩
theorem zsk {kvs:List (Key×V)} {ks:List Nat} {j:Nat} {v:V} (h:kvs.map (·.1)=zsl ks):(ze9 kvs (Sum.inl (j:Int)) v).map (·.1)=zsl (zvm ks j):=by
 have hm:(kvs.any fun kv=>decide (kv.1=Sum.inl (j:Int)))=true↔j∈ks:=by
  rw [List.any_eq_true,<-zkf,<-h,ZBr]
  constructor
  ·rintro ⟨kv,h1,h2⟩
   exact ⟨kv,h1,by simpa using h2⟩
  ·rintro ⟨kv,h1,h2⟩
   exact ⟨kv,h1,by simpa using h2⟩
 unfold ze9 zvm
 by_cases hj:j∈ks
 ·rw [if_pos (hm.mpr hj),if_pos hj,<-h,List.map_map]
  refine List.map_congr_left fun kv _=>?_
  show (if kv.1=Sum.inl (j:Int) then (kv.1,v) else kv).1=kv.1
  split<;>rfl
 ·rw [if_neg (fun z=>hj (hm.mp z)),if_neg hj,ZA9,h]
  unfold zsl
  rw [ZA9]
  rfl
theorem zn1 {kvs:List (Key×V)} {ks:List Nat} {j:Nat} (h:kvs.map (·.1)=zsl ks):(zfk kvs (Sum.inl (j:Int))).isSome=decide (j∈ks):=by
 rw [<-zet]
 by_cases hj:j∈ks
 ·rw [ZB8 hj]
  have:(Sum.inl (j:Int):Key)∈kvs.map (·.1):=by rw [h];exact zkf.mpr hj
  obtain ⟨kv,h1,h2⟩:=ZBr.mp this
  exact List.any_eq_true.mpr ⟨kv,h1,by simpa using h2⟩
 ·rw [ZB9 hj]
  refine List.any_eq_false.mpr fun kv h1=>?_
  intro z
  have:(Sum.inl (j:Int):Key)∈kvs.map (·.1):=ZBr.mpr ⟨kv,h1,by simpa using z⟩
  rw [h] at this
  exact hj (zkf.mp this)
def ztm:Sp:=fun vs H Q _=>∃(rl:Addr) (qs:List Addr) (rows:List MU.Row) (last:Nat),vs=[.ref rl,.int (last:Int)]/\H rl=some (.lst (qs.map V.ref))/\Paired (zc5 H) qs rows/\zxf rows/\last<rows.length/\rows.length<=16500000/\
 ∀l H' ns,H l=none->za7 H H'->H' l=some (.lst (zct ns))->zxu rows last ns->Q (.ref l) H'
abbrev nNn:List Str:=["rows","last","needed","at","number"]
theorem zxo:zan nNn ["rows","last"] (zag sP_numbers_needed):=scm
theorem ok_needed {f:Addr} {fd:FuncData} (F:Fn K mg "numbers_needed" sP_numbers_needed ["rows","last"] f fd) (hR:mg "range"=none) (hS:mg "sorted"=none):zbb P w K mg base CX0 1 f fd ["rows","last"] ztm:=by
 refine F.F.ok zxo (fun _ _ _ _ h=>?_) fun _ A _ s H _ Q E hr h=>?_
 ·obtain ⟨_,_,_,_,rfl,_⟩:=h
  rfl
 ·obtain ⟨rl,qs,rows,last,rfl,hrl,hrows,hU,hlast,hlen,k⟩:=h
  have hu:=zfh hr
  refine ⟨_,zaf (za5 2 zxo.nd (zp0 (zj7 (pv 1) zj8 zpt) rfl rfl (by simp) (by simp)))
   (zaf (zc9 PassesOwn.never rfl (zpv rfl hR (pa3 (pv 1) (zl9 zh0 zae) (zl9 zh0 zae))) (zcw 3 zxo.nd)
    (zad (zbe (zh7 (zp1 hu (pv 3) (pv 2)) (by with_unfolding_all rfl))
     (zad (zc9 PassesOwn.never rfl (zg8 (ixT (zbm zal (pv 0) (pv 3) (fun _ _=>rfl)))) (zcw 4 zxo.nd)
      (zad (zj6 hu (pv 2) (pv 4) zj8 rfl)))) zap)))
   (zad (zaq (zay (zlv rfl) (by rfl) hS PyProof.Rows.boot_sorted (pa1 (pv 2)))))),?_⟩
  refine fun N1 c1 d hd=>⟨_,rfl,zaa,[(Sum.inl (last:Int),.bl true)],rfl,by simp,c1 _ _ ?_⟩
  rw [zl4]
  have hql:qs.length=rows.length:=Paired.length hrows
  have e1:upd H d (.dK (zgi [] [(Sum.inl (last:Int),.bl true)])) d=some (.dK [(Sum.inl (last:Int),.bl true)]):=zaa
  have s1:=zab (o:=.dK (zgi [] [(Sum.inl (last:Int),.bl true)])) hd
  generalize upd H d (.dK (zgi [] [(Sum.inl (last:Int),.bl true)]))=H1 at*
  clear c1 N1
  have ev:[V.int (last:Int),V.int (-1),V.int (-1)]=[V.int (((last+1:Nat):Int)-1),V.int (-1),V.int (-1)]:=by rw [show ((last+1:Nat):Int)-1=(last:Int) by lia]
  have dr:d≠rl:=ZAl (zac hrl hd)
  refine fun N2 c2=>⟨_,rfl,_,rfl,_,rfl,last+1,ev,by lia,?_⟩
  refine zst (fun i σ' H'=>∃v3 v4 kvs ks,σ'=[some (.ref rl),some (.int (last:Int)),some (.ref d),v3,v4]/\H' d=some (.dK kvs)/\kvs.map (·.1)=zsl ks/\NI rows last (fun k=>last<k+i) ks/\∀b o,H b=some o->H' b=some o)
   ⟨none,none,_,[last],rfl,e1,rfl,⟨List.nodup_cons.mpr ⟨nofun,List.nodup_nil⟩,fun k hk=>by rw [ZBd.mp hk];exact ZAw _,ZBd.mpr rfl,fun k hk=>.inl (ZBd.mp hk),fun k hk hp=>by have:=ZBd.mp hk;lia⟩,fun b o e=>s1 _ _ e⟩ ?_ ?_
  ·rintro i σ' H2 hi ⟨v3,v4,kvs,ks,rfl,ed,hkv,hN,kp⟩
   obtain ⟨at_,hat⟩:∃at_,at_+i=last:=⟨last-i,by lia⟩
   have ex:V.int ((((last+1:Nat):Int)-1)-(i:Int))=V.int (at_:Int):=by rw [show (((last+1:Nat):Int)-1)-(i:Int)=(at_:Int) by lia]
   rw [ex]
   have dg:ze5 H2 d (.int (at_:Int)) (zfk kvs (Sum.inl (at_:Int))):=ze5.k (k:=Sum.inl (at_:Int)) ed
   refine ⟨_,rfl,_,rfl,d,_,rfl,dg,_,rfl,?_⟩
   rw [zn1 hkv]
   by_cases hin:at_∈ks
   ·refine zf9 hin ?_
    obtain ⟨q,hq⟩:∃q,qs[at_]?=some q:=⟨_,ZAx (by lia)⟩
    obtain ⟨r,hr',pw,pu,g4,g5,g6⟩:=paired_get hrows hq
    have hatI:atI (qs.map V.ref) (at_:Int)=some (.ref q):=zbv (by rw [ZA0,hq];rfl)
    refine ⟨_,rfl,zoo rfl (kp _ _ hrl) hatI (rdT (kp _ _ g4) rfl ⟨pu,rfl,⟨_,SqT.of (kp _ _ g6)⟩,?_⟩)⟩
    refine zvf (K:=K) (a:=pu) (xs:=r.used.map fun i:Nat=>V.int (i:Int)) (fun m σ' H'=>∃v4 kvs ks,σ'=[some (.ref rl),some (.int (last:Int)),some (.ref d),some (.int (at_:Int)),v4]/\H' d=some (.dK kvs)/\kvs.map (·.1)=zsl ks/\NI rows last (fun k=>last<k+i) ks/\at_∈ks/\(∀j∈r.used.take m,j∈ks)/\∀b o,H b=some o->H' b=some o)
     ⟨v4,kvs,ks,rfl,ed,hkv,hN,hin,fun j hj=>by simp at hj,kp⟩ ?_ ?_ ?_
    ·rintro m σ' H3 _ ⟨_,_,_,rfl,_,_,_,_,_,kp3⟩
     exact SqT.of (kp3 _ _ g6)
    ·rintro m x σ' H3 hx ⟨v4,kvs,ks,rfl,ed,hkv,hN,hin,hm,kp3⟩
     rw [ZA0] at hx
     cases hj:r.used[m]? with
     | none=>rw [hj] at hx;cases hx
     | some j=>
      rw [hj] at hx
      cases hx
      have hjm:=ZA1 hj
      have hja:=(hU at_ r hr').2 j hjm
      have hl:kvs.length<=last+1:=by
       have h1:=congrArg List.length hkv
       unfold zsl at h1
       rw [ZAu,ZAu] at h1
       have:=MH.zey (last+1) ks hN.once fun z hz=>by have:=hN.le z hz;lia
       lia
      refine ⟨_,rfl,_,rfl,d,_,rfl,zrm.k (k:=Sum.inl (j:Int)) ed (zlb (by lia)),?_⟩
      refine ⟨_,_,zvm ks j,rfl,zaa,zsk hkv,hN.add hin hr' hjm (ZBb hja) (by lia),zdm.mpr (.inl hin),fun j' hj'=>?_,fun b o e=>?_⟩
      ·rw [ZBu,hj] at hj'
       rcases ZBo.mp hj' with hj' | hj'
       ·exact zdm.mpr (.inl (hm j' hj'))
       ·exact zdm.mpr (.inr (by simpa using hj'))
      ·rw [zai (zac e hd)]
       exact kp3 _ _ e
    ·rintro σ' H3 ⟨v4,kvs,ks,rfl,ed,hkv,hN,hin,hm,kp3⟩
     have hall:r.used.take (r.used.map fun i:Nat=>V.int (i:Int)).length=r.used:=by rw [ZAu];exact ZBi
     rw [hall] at hm
     refine ⟨_,_,kvs,ks,rfl,ed,hkv,⟨hN.once,hN.le,hN.has,hN.why,fun k hk hp r' hr2 j hj=>?_⟩,kp3⟩
     by_cases e:k=at_
     ·subst e
      rw [hr'] at hr2
      cases hr2
      exact hm j hj
     ·exact hN.fin k hk (by lia) r' hr2 j hj
   ·refine zd6 hin ⟨_,_,kvs,ks,rfl,ed,hkv,⟨hN.once,hN.le,hN.has,hN.why,fun k hk hp r' hr2 j hj=>?_⟩,kp⟩
    exact hN.fin k hk (by have:k≠at_:=fun e=>hin (e▸hk);lia) r' hr2 j hj
  ·rintro σ' H2 ⟨v3,v4,kvs,ks,rfl,ed,hkv,hN,kp⟩
   refine c2 _ _ ⟨_,rfl,d,kvs,ks.map fun i:Nat=>(i:Int),rfl,ed,by rw [hkv,List.map_map];rfl,fun l ns' hl hpm hup=>?_⟩
   have hlH:H l=none:=by
    cases q:H l with
    | none=>rfl
    | some x=>rw [kp _ _ q] at hl;cases hl
   have hback:∀{l:List Int},(∀z∈l,0<=z)->(l.map Int.toNat).map (fun i:Nat=>(i:Int))=l:=fun {l} h=>by
    rw [List.map_map]
    conv=>rhs;rw [<-List.map_id l]
    exact List.map_congr_left fun z hz=>ZAg (h z hz)
   have hnn:∀z∈ns',0<=z:=fun z hz=>by
    obtain ⟨k,_,rfl⟩:=ZBr.mp (hpm.mem_iff.mp hz)
    lia
   have hpn:(ns'.map Int.toNat).Perm ks:=by
    have:=hpm.map Int.toNat
    rw [List.map_map] at this
    have e:ks.map (Int.toNat ∘ fun i:Nat=>(i:Int))=ks:=by
     conv=>rhs;rw [<-List.map_id ks]
     exact List.map_congr_left fun z _=>ZBx z
    rw [e] at this
    exact this
   have s3:za7 H (upd H2 l (.lst (ns'.map V.int))):=fun b o e=>by rw [zai (zac (kp _ _ e) hl)];exact kp _ _ e
   refine k l _ (ns'.map Int.toNat) hlH s3 ?_ ⟨?_,fun i hi=>hN.le i (hpn.mem_iff.mp hi),hpn.mem_iff.mpr hN.has,fun i hi r' hr' j hj=>?_,fun i hi=>?_⟩
   ·rw [zaa]
    unfold zct
    have e:ns'.map V.int=(ns'.map Int.toNat).map fun i:Nat=>V.int (i:Int):=by
     conv=>lhs;rw [<-hback hnn]
     rw [List.map_map]
     rfl
    rw [e]
   ·have hnd:(ns'.map Int.toNat).Nodup:=hpn.nodup_iff.mpr hN.once
    have h1:(ns'.map Int.toNat).Pairwise (·<=·):=by
     rw [List.pairwise_map]
     exact hup.imp fun h=>Int.toNat_le_toNat h
    exact h1.imp₂ (fun a b h h'=>Nat.lt_of_le_of_ne h h') hnd
   ·have hi':=hpn.mem_iff.mp hi
    have:=hN.le i hi'
    exact hpn.mem_iff.mpr (hN.fin i hi' (by lia) r' hr' j hj)
   ·rcases hN.why i (hpn.mem_iff.mp hi) with e | ⟨k',hk',r',h1,h2⟩
    ·exact .inl e
    ·exact .inr ⟨k',hpn.mem_iff.mpr hk',r',h1,h2⟩
def zei (rows:List MU.Row) (ns:List Nat) (i:Nat):Option MU.Row:=(rows[i]?).map fun r=>⟨r.what,r.word,r.used.map fun j=>ns.idxOf j⟩
def zfe (rows:List MU.Row) (ns:List Nat):List MU.Row:=ns.filterMap (zei rows ns)
theorem zw9 {ns:List Nat} {m x:Nat} (hn:ns.Nodup) (h:ns[m]?=some x):ns.idxOf x=m:=by
 obtain ⟨hm,rfl⟩:=ZAv.mp h
 exact List.Nodup.idxOf_getElem hn m hm
theorem zm2 {ns:List Nat} (h:ns.Pairwise (·<·)):ns.Nodup:=h.imp fun h=>ZBj h
theorem zuf {ns:List Nat} (h:ns.Pairwise (·<·)) {m x j:Nat} (hx:ns[m]?=some x) (hj:j∈ns) (hlt:j<x):j∈ns.take m:=by
 obtain ⟨i,hi,e⟩:=ZBs hj
 obtain ⟨hm,e'⟩:=ZAv.mp hx
 have him:i<m:=ZAz fun z=>by
  rcases Nat.lt_or_eq_of_le (Nat.le_of_not_lt z) with z | z
  ·have:=ZBt.mp h m i hm hi z
   lia
  ·subst z
   lia
 rw [<-e]
 exact List.mem_take_iff_getElem.mpr ⟨i,by lia,rfl⟩
def zo7:Sp:=fun vs H Q _=>∃(rl:Addr) (qs:List Addr) (rows:List MU.Row) (last:Nat),vs=[.ref rl,.int (last:Int)]/\H rl=some (.lst (qs.map V.ref))/\Paired (zc5 H) qs rows/\zxf rows/\last<rows.length/\rows.length<=16500000/\
 ∀l H' ns ps,H l=none->za7 H H'->zxu rows last ns->H' l=some (.lst (ps.map V.ref))->Paired (zc5 H') ps (zfe rows ns)->Q (.ref l) H'
abbrev nPu:List Str:=["rows","last","places","paper","number","row"]
theorem zwj:zan nPu ["rows","last"] (zag sP_paper_up_to):=scm
theorem zBl:zbw (zag sP_paper_up_to) nPu (fsc [(".0",.local),("used",.local),("places",.free)]) ["used","places"] [none,some 2]:=com
theorem zA2:(["used","places"]:List Str).Nodup:=by decide+kernel
theorem ok_paperUp {f fN:Addr} {fd fdN:FuncData} (F:Fn K mg "paper_up_to" sP_paper_up_to ["rows","last"] f fd) (hL:mg "len"=none) (hT:mg "tuple"=none)
 (FN:Fn K mg "numbers_needed" sP_numbers_needed ["rows","last"] fN fdN) (GN:zbb P w K mg base CX0 1 fN fdN ["rows","last"] ztm):zbb P w K mg base CX0 2 f fd ["rows","last"] zo7:=by
 refine F.F.ok zwj (fun _ _ _ _ h=>?_) fun _ A _ s H _ Q E hr h=>?_
 ·obtain ⟨_,_,_,_,rfl,_⟩:=h
  rfl
 ·obtain ⟨rl,qs,rows,last,rfl,hrl,hrows,hU,hlast,hlen,k⟩:=h
  have hu:=zfh hr
  refine ⟨_,zaf (zg7 (i:=2) zwj.nd rfl (Or.inr rfl) znf)
   (zaf (za5 3 zwj.nd (zcq zdq))
   (zaf (zc9 PassesOwn.never rfl (zbt (pcl GN hr FN (pa2 (pv 0) (pv 1)))) (zcw 4 zwj.nd)
    (zaf (za5 5 zwj.nd (zbm zal (pv 0) (pv 4) (fun _ _=>rfl)))
    (zaf (zj6 hu (pv 2) (pv 4) (zay za9 (by rfl) hL ZAn (pa1 (pv 3))) rfl)
    (zad (zbj (ziu ZAr ZAs ZAt zcn (pv 3) (pa1 (zaw (pa3 (ixT (pv 5)) (ixT (pv 5)) (zcm zdy (by rfl) hT (by decide+kernel) (pa1 (zcs rfl (zg8 (ixT (pv 5))) zBl (fun cl ex s0 H0=>⟨zcw 0 zA2,zb9,zda hu (pv 1) (pv 0) (fun _ _=>rfl)⟩)))))))))))))
   (zad (zaq (pv 3))))),?_⟩
  refine fun N1 c1 d hd=>c1 _ _ ?_
  have s1:=zab (o:=.dK []) hd
  have e1:upd H d (.dK []) d=some (.dK []):=zaa
  generalize upd H d (.dK [])=H1 at*
  clear c1 N1
  refine fun N2 c2=>⟨ZBa _,fun pl hpl=>c2 _ _ ?_⟩
  have s2:=zab (o:=.lst []) hpl
  have e2:upd H1 pl (.lst []) pl=some (.lst []):=zaa
  have plH:H pl=none:=by
   cases q:H pl with
   | none=>rfl
   | some x=>rw [s1 _ _ q] at hpl;cases hpl
  have dpl:d≠pl:=zac e1 hpl
  generalize upd H1 pl (.lst [])=H2 at*
  clear c2 N2
  have s02:=s1.trans s2
  have hql:qs.length=rows.length:=Paired.length hrows
  refine fun N3 c3=>⟨_,rfl,_,rfl,rl,qs,rows,last,rfl,s02 _ _ hrl,zaj hrows fun q r e=>e.same s02,hU,hlast,hlen,fun l H3 ns hl s3 el hN=>?_⟩
  have hnd:=zm2 hN.up
  have hnl:ns.length<=last+1:=MH.zey (last+1) ns hnd fun z hz=>by have:=hN.le z hz;lia
  have s03:=s02.trans s3
  have ed3:=s3 _ _ (s2 _ _ e1)
  have ep3:=s3 _ _ e2
  have lH:H l=none:=by
   cases q:H l with
   | none=>rfl
   | some x=>rw [s02 _ _ q] at hl;cases hl
  have ld:l≠d:=ZAl (zac (s2 _ _ e1) hl)
  have lp:l≠pl:=ZAl (zac e2 hl)
  refine ⟨l,rfl,⟨_,SqL.of el⟩,?_⟩
  refine zcx (K:=K) (a:=l) (xs:=zct ns) (fun m σ' H'=>∃v4 v5 kvs ps,σ'=[some (.ref rl),some (.int (last:Int)),some (.ref d),some (.ref pl),v4,v5]/\H' d=some (.dK kvs)/\kvs.length<=m/\
   (∀j:Nat,j∈ns.take m->zfk kvs (Sum.inl (j:Int))=some (.int (ns.idxOf j:Int)))/\H' pl=some (.lst (ps.map V.ref))/\ps.length=m/\Paired (zc5 H') ps ((ns.take m).filterMap (zei rows ns))/\H' l=some (.lst (zct ns))/\za7 H H')
   ⟨none,none,[],[],rfl,ed3,ZAw _,fun j hj=>by simp at hj,ep3,rfl,.nil,el,s03⟩ ?_ ?_ ?_
  ·rintro m σ' H4 _ ⟨_,_,_,_,rfl,_,_,_,_,_,_,e,_⟩
   exact SqL.of e
  ·rintro m x σ' H4 hx ⟨v4,v5,kvs,ps,rfl,ed,hkl,hkv,ep,hpl',hps,el4,s4⟩
   unfold zct at hx
   rw [ZA0] at hx
   cases hj:ns[m]? with
   | none=>rw [hj] at hx;cases hx
   | some num=>
    rw [hj] at hx
    cases hx
    have hmn:m<ns.length:=(ZAv.mp hj).1
    have hnum:=hN.le num (ZA1 hj)
    obtain ⟨q,hq⟩:∃q,qs[num]?=some q:=⟨_,ZAx (by lia)⟩
    obtain ⟨r,hr',pw,pu,g4,g5,g6⟩:=paired_get hrows hq
    have hat:atI (qs.map V.ref) (num:Int)=some (.ref q):=zbv (by rw [ZA0,hq];rfl)
    refine fun N5 c5=>⟨_,rfl,zoo rfl (s4 _ _ hrl) hat (c5 _ _ ?_)⟩
    clear c5 N5
    refine fun N6 c6=>⟨_,rfl,pl,_,rfl,.inl (SqL.of ep),_,rfl,_,rfl,d,_,rfl,zrm.k (k:=Sum.inl (num:Int)) ed (zlb (by lia)),c6 _ _ ?_⟩
    rw [ZAu,hpl']
    clear c6 N6
    have kd:∀{b:Addr} {o:HO},H4 b=some o->b≠d->upd H4 d (.dK (ze9 kvs (Sum.inl (num:Int)) (.int (m:Int)))) b=some o:=fun e ne=>by rw [zai ne];exact e
    have ed5:upd H4 d (.dK (ze9 kvs (Sum.inl (num:Int)) (.int (m:Int)))) d=some (.dK (ze9 kvs (Sum.inl (num:Int)) (.int (m:Int)))):=zaa
    have s5:za7 H (upd H4 d (.dK (ze9 kvs (Sum.inl (num:Int)) (.int (m:Int))))):=fun b o e=>kd (s4 _ _ e) (zac e hd)
    have ep5:=kd ep (ZAl dpl)
    have el5:=kd el4 ld
    have hps5:Paired (zc5 (upd H4 d (.dK (ze9 kvs (Sum.inl (num:Int)) (.int (m:Int)))))) ps ((ns.take m).filterMap (zei rows ns)):=zaj hps fun q r ⟨pw,pu,h1,h2,h3⟩=>
     ⟨pw,pu,kd h1 (zba h1 ed nofun),kd h2 (zba h2 ed nofun),kd h3 (zba h3 ed nofun)⟩
    generalize upd H4 d (.dK (ze9 kvs (Sum.inl (num:Int)) (.int (m:Int))))=H5 at*
    have et:ns.take (m+1)=ns.take m++[num]:=by rw [ZBu,hj];rfl
    have hkv5:∀j:Nat,j∈ns.take (m+1)->zfk (ze9 kvs (Sum.inl (num:Int)) (.int (m:Int))) (Sum.inl (j:Int))=some (.int (ns.idxOf j:Int)):=fun j hj'=>by
     rw [zgb]
     by_cases e:j=num
     ·subst e
      rw [if_pos rfl,zw9 hnd hj]
     ·rw [if_neg (show ¬((Sum.inl (j:Int):Key)=Sum.inl (num:Int)) from fun z=>e (Int.ofNat.inj (Sum.inl.inj z)))]
      rw [et] at hj'
      rcases ZBo.mp hj' with h | h
      ·exact hkv j h
      ·exact absurd (ZBd.mp h) e
    have hu2:=hU num r hr'
    refine ⟨_,rfl,.inl ⟨rfl,_,SqL.of ep5⟩,_,rfl,rdT (s5 _ _ g4) rfl ⟨_,rfl,rdT (s5 _ _ g4) rfl ⟨_,rfl,rdT (s5 _ _ g4) rfl ⟨pu,rfl,⟨_,SqT.of (s5 _ _ g6)⟩,fun Da hDa=>?_⟩⟩⟩⟩
    refine zez (xs:=r.used.map fun i:Nat=>V.int (i:Int)) (fun a σ' H'=>∃v,σ'=[v,some (.ref d)]/\H' Da=some (.lst (((r.used.take a).map fun j=>ns.idxOf j).map fun i:Nat=>V.int (i:Int)))/\za7 H5 H') ⟨none,rfl,zaa,zab hDa⟩ ?_ ?_ ?_
    ·rintro a σ' H6 _ ⟨v,rfl,_,s6⟩
     exact SqT.of (s6 _ _ (s5 _ _ g6))
    ·rintro a x σ' H6 hx ⟨v,rfl,e6,s6⟩
     rw [ZA0] at hx
     cases hj2:r.used[a]? with
     | none=>rw [hj2] at hx;cases hx
     | some j=>
      rw [hj2] at hx
      cases hx
      have hjm:=ZA1 hj2
      have hjn:=hN.uses num (ZA1 hj) r hr' j hjm
      have hin:j∈ns.take (m+1):=by rw [et];exact ZAb _ (zuf hN.up hj hjn (hu2.2 j hjm))
      have dg:ze5 H6 d (.int (j:Int)) (some (.int (ns.idxOf j:Int))):=by
       have:=ze5.k (k:=Sum.inl (j:Int)) (s6 _ _ ed5)
       rw [hkv5 j hin] at this
       exact this
      refine ⟨_,rfl,_,rfl,d,_,rfl,dg,_,e6,?_,_,rfl,?_,fun b o e=>?_⟩
      ·rw [ZAu,ZAu,ZBl]
       exact zao (by lia)
      ·rw [zaa,ZBu,hj2,ZA9,ZA9]
       rfl
      ·rw [zai (zac e hDa)]
       exact s6 _ _ e
    ·rintro σ' H6 ⟨v,rfl,e6,s6⟩
     have hall:r.used.take (r.used.map fun i:Nat=>V.int (i:Int)).length=r.used:=by rw [ZAu];exact ZBi
     rw [hall] at e6
     refine ⟨Da,_,rfl,.inl ⟨SqL.of e6,fun tu htu=>⟨szl rfl,fun rt hrt=>?_⟩⟩⟩
     have s7:=zab (o:=.tup ((r.used.map fun j=>ns.idxOf j).map fun i:Nat=>V.int (i:Int))) htu
     have e7:upd H6 tu (.tup ((r.used.map fun j=>ns.idxOf j).map fun i:Nat=>V.int (i:Int))) tu=some (.tup ((r.used.map fun j=>ns.idxOf j).map fun i:Nat=>V.int (i:Int))):=zaa
     generalize upd H6 tu (.tup ((r.used.map fun j=>ns.idxOf j).map fun i:Nat=>V.int (i:Int)))=H7 at*
     have s8:=zab (o:=.tup [.ref pw,.str (zb4 r.word),.ref tu]) hrt
     have e8:upd H7 rt (.tup [.ref pw,.str (zb4 r.word),.ref tu]) rt=some (.tup [.ref pw,.str (zb4 r.word),.ref tu]):=zaa
     generalize upd H7 rt (.tup [.ref pw,.str (zb4 r.word),.ref tu])=H8 at*
     have s58:=(s6.trans s7).trans s8
     have ep8:=s58 _ _ ep5
     refine ⟨pl,_,_,rfl,rfl,ep8,by rw [ZAu,hpl'];exact zlb (by lia),?_⟩
     have kp:∀{b:Addr} {o:HO},H8 b=some o->b≠pl->upd H8 pl (.lst (ps.map V.ref++[.ref rt])) b=some o:=fun e ne=>by rw [zai ne];exact e
     have tup:∀{b:Addr} {xs:List V},H8 b=some (.tup xs)->upd H8 pl (.lst (ps.map V.ref++[.ref rt])) b=some (.tup xs):=fun e=>kp e (zba e ep8 nofun)
     refine ⟨_,_,_,ps++[rt],rfl,kp (s58 _ _ ed5) dpl,ZBg (zdi _ _ _) (by lia),hkv5,?_,by rw [ZA3,hpl'];rfl,?_,kp (s58 _ _ el5) lp,fun b o e=>kp (s58 _ _ (s5 _ _ e)) (zac e plH)⟩
     ·rw [zaa,ZA9]
      rfl
     ·rw [et,List.filterMap_append]
      refine zas (zaj hps5 fun q r' ⟨pw',pu',h1,h2,h3⟩=>⟨pw',pu',tup (s58 _ _ h1),tup (s58 _ _ h2),tup (s58 _ _ h3)⟩) ?_
      have er:zei rows ns num=some ⟨r.what,r.word,r.used.map fun j=>ns.idxOf j⟩:=by unfold zei;rw [hr'];rfl
      rw [show [num].filterMap (zei rows ns)=[⟨r.what,r.word,r.used.map fun j=>ns.idxOf j⟩] by simp [er]]
      exact .cons ⟨pw,tu,tup e8,tup (s58 _ _ (s5 _ _ g5)),tup (s8 _ _ e7)⟩ .nil
  ·rintro σ' H4 ⟨v4,v5,kvs,ps,rfl,ed,hkl,hkv,ep,hpl',hps,el4,s4⟩
   have hall:ns.take (zct ns).length=ns:=by unfold zct;rw [ZAu];exact ZBi
   rw [hall] at hps
   exact c3 _ _ ⟨_,rfl,k pl H4 ns ps plH s4 hN ep hps⟩
def fol (F:MU.zax):MU.Wd->List MU.zar->Option MU.zar
 | .sum,[x,y]=>MU.za1 x y
 | .late,[x]=>MU.zbh F x
 | .soon,[x]=>MU.zbl F x
 | .sure,[x]=>MU.zbg F x
 | .back,[x,y]=>MU.zau F x y
 | .cross,[x]=>MU.zav F x
 | _,_=>none
def zis (F:MU.zax) (x:MU.zar):Prop:=x.tie=false->∃f,F x.b=some f
def mn:MU.Wd->Nat
 | .sum=>2
 | .back=>2
 | _=>1
theorem zhf {x:MU.zar} (h:x.tie=true):zc4 x.tie="tie":=by unfold zc4;rw [if_pos h]
theorem ziv {x:MU.zar} (h:x.tie=false):zc4 x.tie="wait":=by unfold zc4;rw [if_neg (by rw [h];exact ZA6)]
theorem kd1 {t:Bool} {ks:List Str} {a b:Nat} {v:Int} (h:ks≠[zc4 t]):ks≠zc2 [⟨t,a,b,v⟩]:=h
theorem kd2 {t u:Bool} {ks:List Str} {a b a' b':Nat} {v v':Int} (h:ks≠[zc4 t,zc4 u]):ks≠zc2 [⟨t,a,b,v⟩,⟨u,a',b',v'⟩]:=h
theorem zqu {F:MU.zax} {wd:MU.Wd} {xs:List MU.zar} (hw:wd≠.told) (he:∀x∈xs,zis F x) (h2:xs.length<=2):zg3 F (zb4 wd) xs (fol F wd xs)\/fol F wd xs=none/\Mis (zb4 wd) xs:=by
 have ex:∀x,x∈xs->x.tie=false->∃f,F x.b=some f:=fun x h=>he x h
 match xs,h2,he,ex with
 | [],_,_,_=>cases wd<;>first | exact absurd rfl hw | exact .inr ⟨rfl,ZBa _,_,rfl,by decide+kernel⟩
 | [⟨tx,a,b,v⟩],_,_,ex=>
  cases wd with
  | told=>exact absurd rfl hw
  | sum=>exact .inr ⟨rfl,ZAe 1,_,rfl,kd1 (by cases tx<;>decide+kernel)⟩
  | back=>exact .inr ⟨rfl,ZAe 1,_,rfl,kd1 (by cases tx<;>decide+kernel)⟩
  | late=>
   cases tx with
   | true=>exact .inl (.late _ rfl)
   | false=>exact .inr ⟨rfl,ZAe 1,_,rfl,kd1 (by decide+kernel)⟩
  | soon=>
   cases tx with
   | true=>exact .inl (.soon _ rfl)
   | false=>exact .inr ⟨rfl,ZAe 1,_,rfl,kd1 (by decide+kernel)⟩
  | sure=>
   cases tx with
   | false=>obtain ⟨f,hf⟩:=ex _ ZA5 rfl;exact .inl (.sure _ f rfl hf)
   | true=>exact .inr ⟨rfl,ZAe 1,_,rfl,kd1 (by decide+kernel)⟩
  | cross=>
   cases tx with
   | false=>obtain ⟨f,hf⟩:=ex _ ZA5 rfl;exact .inl (.cross _ f rfl hf)
   | true=>exact .inr ⟨rfl,ZAe 1,_,rfl,kd1 (by decide+kernel)⟩
 | [⟨tx,a,b,v⟩,⟨ty,a',b',v'⟩],_,_,ex=>
  cases wd with
  | told=>exact absurd rfl hw
  | late=>exact .inr ⟨rfl,ZAw _,_,rfl,kd2 (by cases tx<;>cases ty<;>decide+kernel)⟩
  | soon=>exact .inr ⟨rfl,ZAw _,_,rfl,kd2 (by cases tx<;>cases ty<;>decide+kernel)⟩
  | sure=>exact .inr ⟨rfl,ZAw _,_,rfl,kd2 (by cases tx<;>cases ty<;>decide+kernel)⟩
  | cross=>exact .inr ⟨rfl,ZAw _,_,rfl,kd2 (by cases tx<;>cases ty<;>decide+kernel)⟩
  | sum=>
   cases tx with
   | true=>cases ty with
    | true=>exact .inl (.sum _ _ rfl rfl)
    | false=>exact .inr ⟨rfl,ZAw _,_,rfl,kd2 (by decide+kernel)⟩
   | false=>exact .inr ⟨rfl,ZAw _,_,rfl,kd2 (by cases ty<;>decide+kernel)⟩
  | back=>
   cases tx with
   | false=>cases ty with
    | true=>obtain ⟨f,hf⟩:=ex _ ZA5 rfl;exact .inl (.back _ _ f rfl rfl hf)
    | false=>exact .inr ⟨rfl,ZAw _,_,rfl,kd2 (by decide+kernel)⟩
   | true=>exact .inr ⟨rfl,ZAw _,_,rfl,kd2 (by cases ty<;>decide+kernel)⟩
 | _::_::_::_,h,_,_=>exact absurd h (by rw [ZBp,ZBp,ZBp];omega)
theorem zds {F:MU.zax} {wd:MU.Wd} {xs:List MU.zar} {y:MU.zar} (h:fol F wd xs=some y):
 (wd=.sum/\∃x z,xs=[x,z]/\x.tie=true/\z.tie=true/\x.b=z.a/\y=⟨true,x.a,z.b,x.v+z.v⟩)\/
 (wd=.late/\∃x f,xs=[x]/\x.tie=true/\x.a≠x.b/\F x.b=some f/\y=⟨false,x.a,x.b,f.2.2-x.v⟩)\/
 (wd=.soon/\∃x f,xs=[x]/\x.tie=true/\x.a≠x.b/\x.v<0/\F x.a=some f/\y=⟨true,f.1,x.b,f.2.1+x.v⟩)\/
 (wd=.sure/\∃x f,xs=[x]/\x.tie=false/\F x.b=some f/\y=⟨true,x.a,f.1,-min x.v f.2.1⟩)\/
 (wd=.back/\∃x z f,xs=[x,z]/\x.tie=false/\z.tie=true/\z.b=x.a/\z.a≠x.b/\F x.b=some f/\y=⟨false,z.a,x.b,min x.v f.2.2-z.v⟩)\/
 (wd=.cross/\∃x g f,xs=[x]/\x.tie=false/\x.a≠x.b/\0<x.v/\F x.a=some g/\F x.b=some f/\y=⟨false,g.1,x.b,min x.v f.2.2-g.2.1⟩):=by
 unfold fol at h
 split at h
 ·rename_i x z
  unfold MU.za1 at h
  by_cases c:x.tie=true/\z.tie=true/\x.b=z.a
  ·rw [if_pos c] at h
   cases h
   exact .inl ⟨rfl,x,z,rfl,c.1,c.2.1,c.2.2,rfl⟩
  ·rw [if_neg c] at h;cases h
 ·rename_i x
  unfold MU.zbh at h
  by_cases c:x.tie=true/\x.a≠x.b
  ·rw [if_pos c] at h
   cases hf:F x.b with
   | none=>rw [hf] at h;cases h
   | some f=>rw [hf] at h;cases h;exact .inr (.inl ⟨rfl,x,f,rfl,c.1,c.2,hf,rfl⟩)
  ·rw [if_neg c] at h;cases h
 ·rename_i x
  unfold MU.zbl at h
  by_cases c:x.tie=true/\x.a≠x.b/\x.v<0
  ·rw [if_pos c] at h
   cases hf:F x.a with
   | none=>rw [hf] at h;cases h
   | some f=>rw [hf] at h;cases h;exact .inr (.inr (.inl ⟨rfl,x,f,rfl,c.1,c.2.1,c.2.2,hf,rfl⟩))
  ·rw [if_neg c] at h;cases h
 ·rename_i x
  unfold MU.zbg at h
  by_cases c:x.tie=false
  ·rw [if_pos c] at h
   cases hf:F x.b with
   | none=>rw [hf] at h;cases h
   | some f=>rw [hf] at h;cases h;exact .inr (.inr (.inr (.inl ⟨rfl,x,f,rfl,c,hf,rfl⟩)))
  ·rw [if_neg c] at h;cases h
 ·rename_i x z
  unfold MU.zau at h
  by_cases c:x.tie=false/\z.tie=true/\z.b=x.a/\z.a≠x.b
  ·rw [if_pos c] at h
   cases hf:F x.b with
   | none=>rw [hf] at h;cases h
   | some f=>rw [hf] at h;cases h;exact .inr (.inr (.inr (.inr (.inl ⟨rfl,x,z,f,rfl,c.1,c.2.1,c.2.2.1,c.2.2.2,hf,rfl⟩))))
  ·rw [if_neg c] at h;cases h
 ·rename_i x
  unfold MU.zav at h
  by_cases c:x.tie=false/\x.a≠x.b/\0<x.v
  ·rw [if_pos c] at h
   cases hg:F x.a with
   | none=>rw [hg] at h;cases h
   | some g=>
    cases hf:F x.b with
    | none=>rw [hg,hf] at h;cases h
    | some f=>rw [hg,hf] at h;cases h;exact .inr (.inr (.inr (.inr (.inr ⟨rfl,x,g,f,rfl,c.1,c.2.1,c.2.2,hg,hf,rfl⟩))))
  ·rw [if_neg c] at h;cases h
 ·cases h
theorem znr {F:MU.zax} {wd:MU.Wd} {xs:List MU.zar} {y:MU.zar} (h:fol F wd xs=some y):zis F y:=by
 rcases zds h with ⟨_,x,z,_,_,_,_,rfl⟩ | ⟨_,x,f,_,_,_,hf,rfl⟩ | ⟨_,x,f,_,_,_,_,_,rfl⟩ | ⟨_,x,f,_,_,_,rfl⟩ | ⟨_,x,z,f,_,_,_,_,_,hf,rfl⟩ | ⟨_,x,g,f,_,_,_,_,_,hf,rfl⟩
 ·exact fun z=>nomatch z
 ·exact fun _=>⟨f,hf⟩
 ·exact fun z=>nomatch z
 ·exact fun z=>nomatch z
 ·exact fun _=>⟨f,hf⟩
 ·exact fun _=>⟨f,hf⟩
theorem zvg {F:MU.zax} {wd:MU.Wd} {xs:List MU.zar} {y:MU.zar} (h:fol F wd xs=some y):xs.length=mn wd:=by
 rcases zds h with ⟨rfl,x,z,rfl,_⟩ | ⟨rfl,x,f,rfl,_⟩ | ⟨rfl,x,f,rfl,_⟩ | ⟨rfl,x,f,rfl,_⟩ | ⟨rfl,x,z,f,rfl,_⟩ | ⟨rfl,x,g,f,rfl,_⟩<;>rfl
def InB (B:List (List Int)) (x:MU.zar):Prop:=x.tie=true/\[(x.a:Int),(x.b:Int),x.v]∈B
def wh (p:List MU.Row) (i:Nat):MU.zar:=((p[i]?).map (·.what)).getD ⟨true,0,0,0⟩
theorem zn0 {p:List MU.Row} {i:Nat} {r:MU.Row} (h:p[i]?=some r):wh p i=r.what:=by unfold wh;rw [h];rfl
def zgq (F:MU.zax) (B:List (List Int)) (p:List MU.Row) (m:Nat) (r:MU.Row):Prop:=
 (r.word=.told/\r.used=[]/\InB B r.what)\/(r.word≠.told/\(∀i∈r.used,i<m)/\fol F r.word (r.used.map (wh p))=some r.what)
def IsP (F:MU.zax) (B:List (List Int)) (p:List MU.Row):Prop:=(∀m r,p[m]?=some r->zgq F B p m r)/\∃r,p[p.length-1]?=some r/\MU.zhy r.what
theorem zgq.ends {F:MU.zax} {B:List (List Int)} {p:List MU.Row} {m:Nat} {r:MU.Row} (h:zgq F B p m r):zis F r.what:=by
 rcases h with ⟨_,_,h,_⟩ | ⟨_,_,h⟩
 ·exact fun z=>by rw [h] at z;cases z
 ·exact znr h
theorem ziy {wd:MU.Wd} (h:wd=.told):decide (V.str (zb4 wd)=V.str ("told":Str))=true:=by
 subst h
 decide+kernel
theorem zkw {wd:MU.Wd} (h:wd≠.told):decide (V.str (zb4 wd)=V.str ("told":Str))=false:=by
 cases wd with
 | told=>exact absurd rfl h
 | _=>decide+kernel
theorem zi8 {x:MU.zar}:(zb6 x).all zfa=true:=rfl
theorem zro {x y:MU.zar} (h:zb6 x=zb6 y):x=y:=by
 obtain ⟨t,a,b,v⟩:=x
 obtain ⟨t',a',b',v'⟩:=y
 unfold zb6 at h
 injection h with h1 h
 injection h with h2 h
 injection h with h3 h
 injection h with h4 h
 injection h1 with h1
 injection h2 with h2
 injection h3 with h3
 injection h4 with h4
 have e2:a=a':=Int.ofNat.inj h2
 have e3:b=b':=Int.ofNat.inj h3
 have e1:t=t':=by
  have h1:zc4 t=zc4 t':=h1
  clear h2 h3 h4 e2 e3
  revert h1
  cases t<;>cases t'<;>decide+kernel
 have e4:v=v':=h4
 rw [e1,e2,e3,e4]
theorem zgz {x y:MU.zar}:zeg (zb6 x) (zb6 y)=true↔x=y:=(zfi zi8 zi8).trans ⟨zro,fun e=>by rw [e]⟩
theorem zno:∀{xs ys:List Int},xs.map V.int=ys.map V.int->xs=ys
 | [],[],_=>rfl
 | x::xs,y::ys,h=>by
  rw [ZBf,ZBf,List.cons.injEq,V.int.injEq] at h
  rw [h.1,zno h.2]
 | [],_::_,h=>by cases h
 | _::_,[],h=>by cases h
theorem zja {ss:List Int}:(ss.map V.int).all zfa=true:=by rw [List.all_map];exact ZBw.mpr fun _ _=>rfl
theorem zt6 {H:Hp} {hd:List V} (ph:hd.all zfa=true) {ps:List Addr} {B:List (List Int)} (h:Paired (fun q (r:List Int)=>H q=some (.tup (hd++r.map V.int))) ps B) {x:List Int}:
 (ps.any fun b=>eqR H (hd++x.map V.int) (.ref b))=true↔x∈B:=by
 have pl:∀r:List Int,(hd++r.map V.int).all zfa=true:=fun r=>by rw [List.all_append,ph,zja];rfl
 rw [List.any_eq_true]
 constructor
 ·rintro ⟨b,hb,e⟩
  obtain ⟨i,hi,rfl⟩:=ZBs hb
  obtain ⟨r,hr,hq⟩:=paired_get h (ZAx hi)
  have e:(match H ps[i] with | some (.tup ys)=>zeg ys (hd++x.map V.int) | _=>false)=true:=e
  rw [hq] at e
  have:=zno (List.append_cancel_left ((zfi (pl r) (pl x)).mp e))
  rw [<-this]
  exact ZA1 hr
 ·intro hx
  obtain ⟨i,hi,rfl⟩:=ZBs hx
  have hl:=Paired.length h
  have hi':i<ps.length:=by omega
  obtain ⟨r,hr,hq⟩:=paired_get h (ZAx hi')
  rw [ZAx hi] at hr
  cases hr
  refine ⟨ps[i],ZB3 hi',?_⟩
  show (match H ps[i] with | some (.tup ys)=>zeg ys _ | _=>false)=true
  rw [hq]
  exact zfv (zjb (pl _))
theorem zfq {F:MU.zax} {B:List (List Int)} {p:List MU.Row} {m:Nat} {r:MU.Row} (hw:r.word=.told):zgq F B p m r↔r.used=[]/\InB B r.what:=⟨fun h=>h.elim (fun h=>h.2) fun h=>absurd hw h.1,fun h=>.inl ⟨hw,h⟩⟩
theorem zgd {F:MU.zax} {B:List (List Int)} {p:List MU.Row} {m:Nat} {r:MU.Row} (hw:r.word≠.told):zgq F B p m r↔(∀i∈r.used,i<m)/\fol F r.word (r.used.map (wh p))=some r.what:=⟨fun h=>h.elim (fun h=>absurd h.1 hw) fun h=>h.2,fun h=>.inr ⟨hw,h⟩⟩
theorem zh5 {F:MU.zax} {B:List (List Int)} {p:List MU.Row} {m:Nat} {r:MU.Row} (h:zgq F B p m r):∀i∈r.used,i<m:=by
 rcases h with ⟨_,h,_⟩ | ⟨_,h,_⟩
 ·rw [h];exact fun i hi=>nomatch hi
 ·exact h
theorem zfr {α β:Type} {P:α->β->Prop} {f:α->β}:∀{l:List α},(∀i∈l,P i (f i))->Paired P l (l.map f)
 | [],_=>.nil
 | a::l,h=>.cons (h a ZA5) (zfr fun i hi=>h i (ZA4 _ hi))
theorem zi7 {H:Hp} {qs:List Addr} {p:List MU.Row} (h:Paired (zc5 H) qs p) {z:Nat} {r:MU.Row} (e:p[z]?=some r):∃q pw pu,atI (qs.map V.ref) (z:Int)=some (.ref q)/\H q=some (.tup [.ref pw,.str (zb4 r.word),.ref pu])/\H pw=some (.tup (zb6 r.what))/\H pu=some (.tup (r.used.map fun i:Nat=>V.int (i:Int))):=by
 have hz:=(ZAv.mp e).1
 have hq:qs[z]?=some (qs[z]'(by rw [Paired.length h];exact hz)):=ZAx _
 obtain ⟨r',hr',pw,pu,h1,h2,h3⟩:=paired_get h hq
 rw [e] at hr'
 cases hr'
 exact ⟨_,pw,pu,zbv (by rw [ZA0,hq];rfl),h1,h2,h3⟩
theorem zhz {H H':Hp} {D pw:Addr} {ps:List Addr} {xs:List MU.zar} {x:MU.zar} {j:Nat} (hD:H D=none) (e:H' D=some (.lst (ps.map V.ref))) (hps:Paired (za4 H') ps (xs.take j)) (hl:ps.length=j) (s:za7 H H') (hx:xs[j]?=some x) (hw:H pw=some (.tup (zb6 x))):
 upd H' D (.lst (ps.map V.ref++[.ref pw])) D=some (.lst ((ps++[pw]).map V.ref))/\Paired (za4 (upd H' D (.lst (ps.map V.ref++[.ref pw])))) (ps++[pw]) (xs.take (j+1))/\(ps++[pw]).length=j+1/\za7 H (upd H' D (.lst (ps.map V.ref++[.ref pw]))):=by
 refine ⟨?_,?_,?_,fun b o eb=>?_⟩
 ·rw [zaa,ZA9];rfl
 ·have et:xs.take (j+1)=xs.take j++[x]:=by rw [ZBu,hx];rfl
  rw [et]
  have kp:∀b y,za4 H' b y->za4 (upd H' D (.lst (ps.map V.ref++[.ref pw]))) b y:=fun b y e'=>by
   unfold za4
   rw [zai (zba e' e nofun)]
   exact e'
  exact zas (zaj hps kp) (.cons (kp _ _ (s _ _ hw)) .nil)
 ·rw [ZA3,hl];rfl
 ·rw [zai (zac eb hD)];exact s _ _ eb
end Y0
namespace L2
open PySem PySem.Spec PyProof.Rows
theorem zq9:∀{bs:List Bool} {us:List Value} {i:Nat} {v:Value},zb3 (bs.map V.bl) us->us[i]?=some v->∃b,bs[i]?=some b/\v=.bool b
 | [],_,i,v,h,e=>by cases h;simp at e
 | b::r,_,0,v,h,e=>by
  cases h with
  | cons q tl=>simp at e;subst e;exact ⟨b,rfl,q⟩
 | b::r,_,i+1,v,h,e=>by
  cases h with
  | cons q tl=>simp at e;simpa using zq9 tl e
section
variable {X:Cx}
theorem zq8 (hc:X.calm=true):zg2 X (.builtin "all") (fun xs H Q=>∃(p:Addr) (bs:List Bool),xs=[.ref p]/\H p=some (.lst (bs.map V.bl))/\Q (.bl (bs.all id)) H):=by
 intro pins s σ H xs us Q I r h
 obtain ⟨p,bs,rfl,hp,q⟩:=h
 obtain ⟨u,rfl,ru⟩:=zjp r
 obtain rfl:u=Value.ref p:=ru
 obtain ⟨hz,its,n,rv,e⟩:=I.hok p _ hp
 have hl:s.heap.IsList p its.toArray:=⟨_,e,rfl,n,rfl⟩
 have hlt:p<s.heap.objs.size:=ZBc e
 have hh:=I.ok.hd hc
 have hlen:its.length=bs.length:=by rw [<-rv.length,ZAu]
 refine call_all_walk (wpAny_pyIter_list hl ?_)
 refine ⟨s.heap.objs.size,[s.heap.objs.size,p],[s.heap.objs.size],its.toArray.size,_,_,fun i=>(bs[i]?).getD true,rfl,Walks.list (A:=X.A.in1) hh _ p (ZBj hlt) its.toArray,
  ⟨⟨_,ZBh _ rfl,rfl,rfl⟩,hl.push _⟩,fun i v s' Q' E' hP hQ=>?_,fun h' tk hk=>?_⟩
 ·obtain ⟨b,e,rfl⟩:=zq9 rv (by simpa using hP)
  simp only [e,Option.getD_some] at hQ
  exact wpAny_truthy_bool hQ
 ·have e:((List.range its.toArray.size).all fun i=>(bs[i]?).getD true)=bs.all id:=by
   rw [ZA2,hlen];exact PyProof.Rows.LSm.range_all bs
  rw [e]
  exact ⟨.bl (bs.all id),H,I.kept (PyProof.Rows.LSm.kept_iter hk),rfl,q⟩
end
end L2
namespace Y0
open PySem L2
seal L2.PE L2.PA L2.PT L2.PS L2.PSs L2.PG L2.PGs L2.PI L2.PO
def ztj:Sp:=fun vs H Q _=>∃(tl d rl:Addr) (B:List (List Int)) (F:MU.zax) (qs:List Addr) (p:List MU.Row) (m:Nat) (r:MU.Row),vs=[.ref tl,.ref d,.ref rl,.int (m:Int)]/\zbk H tl B/\zc1 H d F/\
 H rl=some (.lst (qs.map V.ref))/\Paired (zc5 H) qs p/\p[m]?=some r/\r.used.length<=2/\(∀i r',i<m->p[i]?=some r'->zis F r'.what)/\∀H',za7 H H'->∀b,(b=true↔zgq F B p m r)->Q (.bl b) H'
abbrev nRf:List Str:=["told","falls","rows","at","row"]
theorem zzr:zan nRf ["told","falls","rows","at"] (zag sP_row_follows):=scm
theorem zy6:zbw (zag sP_row_follows) nRf (fsc [(".0",.local),("number",.local),("at",.free)]) ["number","at"] [none,some 3]:=com
theorem zy5:zbw (zag sP_row_follows) nRf (fsc [(".0",.local),("number",.local),("rows",.free)]) ["number","rows"] [none,some 2]:=com
theorem zyl:(["number","at"]:List Str).Nodup:=by decide+kernel
theorem zyk:(["number","rows"]:List Str).Nodup:=by decide+kernel
theorem ok_rowF {f fW:Addr} {fd fdW:FuncData} (F:Fn K mg "row_follows" sP_row_follows ["told","falls","rows","at"] f fd) (hall:mg "all"=none) (hlen:mg "len"=none)
 (FW:Fn K mg "what_follows" sP_what_follows ["falls","word","used"] fW fdW) (GW:zbb P w K mg base CX0 2 fW fdW ["falls","word","used"] zh4):zbb P w K mg base CX0 3 f fd ["told","falls","rows","at"] ztj:=by
 refine F.F.ok zzr (fun _ _ _ _ h=>?_) fun _ A _ s H _ Q E hr h=>?_
 ·obtain ⟨_,_,_,_,_,_,_,_,_,rfl,_⟩:=h
  rfl
 ·obtain ⟨tl,d,rl,B,Fa,qs,p,m,r,rfl,hB,hF,hrl,hrows,hm,few,hend,k⟩:=h
  have hu:=zfh hr
  refine ⟨_,zaf (za5 4 zzr.nd (zbm zal (pv 2) (pv 3) (fun _ _=>rfl)))
   (zaf (zbe (zge (zh6 (zay (zq8 rfl) (by rfl) hall (by decide+kernel) (pa1 (zcs rfl (zg8 (ixT (pv 4))) zy6 (fun cl ex s0 H0=>⟨zcw 0 zyl,zb9,zhp zfy zhe zae (pv 0) (pv 1)⟩)))))) (zad (zaq zj8)) zap)
   (zaf (zbe (zb8 zbd (ixT (pv 4)) zam)
    (zad (zaq (zfd (zl3 zbd (zay za9 (by rfl) hlen ZAn (pa1 (ixT (pv 4)))) zae)
     (zfd (zl3 zbd (ixT (ixT (pv 4))) zam)
     (zjd (zma (zwx hr.units) (zcg zl7 (ixT (pv 4)) (zcy zae) zdh) (pv 0) (by with_unfolding_all rfl))))))) zap)
   (zad (zaq (zl3 (zwy hr.units) (pcl GW hr FW (pa3 (pv 1) (ixT (pv 4)) (zcs rfl (zg8 (ixT (pv 4))) zy5 (fun cl ex s0 H0=>⟨zcw 0 zyk,zb9,ixT (zbm zal (pv 1) (pv 0) (fun _ _=>rfl))⟩)))) (ixT (pv 4))))))),?_⟩
  have hpl:m<p.length:=(ZAv.mp hm).1
  obtain ⟨q,pw,pu,hat,g1,g2,g3⟩:=zi7 hrows hm
  refine fun N1 c1=>⟨_,rfl,zoo rfl hrl hat (c1 _ _ ?_)⟩
  clear c1 N1
  refine fun N1 c1=>⟨_,rfl,rdT g1 rfl ⟨pu,rfl,⟨_,SqT.of g3⟩,fun Da hDa=>?_⟩⟩
  refine zez (xs:=r.used.map fun i:Nat=>V.int (i:Int)) (fun j σ' H'=>∃v,σ'=[v,some (.int (m:Int))]/\H' Da=some (.lst (((r.used.take j).map fun i=>decide (i<m)).map V.bl))/\za7 H H') ⟨none,rfl,zaa,zab hDa⟩ ?_ ?_ ?_
  ·rintro j σ' H2 _ ⟨v,rfl,_,s2⟩
   exact SqT.of (s2 _ _ g3)
  ·rintro j x σ' H2 hx ⟨v,rfl,e2,s2⟩
   rw [ZA0] at hx
   cases q2:r.used[j]? with
   | none=>rw [q2] at hx;cases hx
   | some i=>
    rw [q2] at hx
    cases hx
    have hj:=(ZAv.mp q2).1
    refine ⟨_,rfl,_,_,rfl,rfl,_,rfl,zf9 (by lia) ⟨_,rfl,_,_,rfl,rfl,_,e2,?_,_,rfl,?_,fun b o e=>?_⟩⟩
    ·rw [ZAu,ZAu,ZBl];exact zao (by lia)
    ·rw [zaa,ZBu,q2,ZA9,ZA9]
     show some (HO.lst (_++[V.bl (decide ((i:Int)<(m:Int)))]))=some (HO.lst (_++[V.bl (decide (i<m))]))
     rw [decide_eq_decide.mpr (show (i:Int)<(m:Int)↔i<m by lia)]
    ·rw [zai (zac e hDa)];exact s2 _ _ e
  ·rintro σ' H2 ⟨v,rfl,e2,s2⟩
   rw [ZAu,ZBi] at e2
   refine ⟨Da,_,rfl,e2,_,rfl,?_⟩
   by_cases hb:∀i∈r.used,i<m
   case neg=>
    refine zbx (show (!_)=true by rw [Bool.not_eq_true'];exact ZAk.mpr fun z=>hb fun i hi=>of_decide_eq_true (ZBw.mp z _ (List.mem_map_of_mem hi))) (k _ s2 _ ⟨nofun,fun z=>absurd (zh5 z) hb⟩)
   have ha:(r.used.map fun i=>decide (i<m)).all id=true:=ZBw.mpr fun b hb'=>by
    obtain ⟨i,hi,rfl⟩:=ZBr.mp hb'
    exact ZB8 (hb i hi)
   rw [ha]
   refine zef (c1 _ _ ?_)
   clear c1 N1
   have g1':=s2 _ _ g1
   have g2':H2 pw=some (.tup (zb6 r.what)):=s2 _ _ g2
   have g3':=s2 _ _ g3
   refine fun N1 c1=>⟨_,rfl,rdT g1' rfl ⟨rfl,_,rfl,?_⟩⟩
   by_cases hw:r.word=.told
   ·clear c1
    have k:∀H',za7 H H'->∀b,(b=true↔r.used=[]/\InB B r.what)->Q (.bl b) H':=fun H' s' b e=>k H' s' b (e.trans (zfq hw).symm)
    refine zbx (ziy hw) ⟨_,rfl,rdT g1' rfl ⟨pu,_,rfl,.inr (SqT.of g3'),rfl,_,rfl,?_⟩⟩
    by_cases u0:r.used=[]
    case neg=>
     have u1:decide (V.int (((r.used.map fun i:Nat=>V.int (i:Int)).length:Nat):Int)=V.int 0)=false:=ZB9 fun z=>u0 (by
      rw [V.int.injEq,ZAu] at z
      exact ZAi.mp (by lia))
     exact zdj u1 (zms (k _ s2 false ⟨nofun,fun z=>absurd z.1 u0⟩) rfl)
    rw [u0]
    refine zhb ⟨_,rfl,rdT g1' rfl (rdT g2' rfl ⟨rfl,_,rfl,?_⟩)⟩
    by_cases ht:r.what.tie=true
    case neg=>
     have ek:zc4 r.what.tie="wait":=ziv (ZAk.mpr ht)
     rw [ek]
     exact zdj (by decide+kernel) (zms (k _ s2 false ⟨nofun,fun z=>absurd z.2.1 ht⟩) (by decide+kernel))
    have ek:zc4 r.what.tie="tie":=zhf ht
    rw [ek]
    refine zhb ⟨_,rfl,rdT g1' rfl ⟨_,rfl,pw,_,rfl,g2',?_,fun sl hsl=>?_⟩⟩
    ·exact fun z=>absurd z.1 (show ¬HT.sIx 4 0 (some 1)=0 by decide)
    rw [zz3]
    refine ⟨_,rfl,?_⟩
    have s3:=zab (o:=.tup [V.int (r.what.a:Int),V.int (r.what.b:Int),V.int r.what.v]) hsl
    obtain ⟨ps,hps⟩:=hB
    have hps2:=zaj (G:=fun q (row:List Int)=>upd H2 sl (.tup [V.int (r.what.a:Int),V.int (r.what.b:Int),V.int r.what.v]) q=some (.tup ([]++row.map V.int))) hps.2 fun q row e=>s3 _ _ (s2 _ _ e)
    refine ⟨sl,_,tl,ps,rfl,rfl,zaa,rfl,s3 _ _ (s2 _ _ hps.1),fun b hb'=>?_,?_⟩
    ·obtain ⟨i,hi,eb⟩:=ZBs hb'
     obtain ⟨row,hrow,hb2⟩:=paired_get hps.2 (show ps[i]?=some b by rw [ZAx hi,eb])
     refine ⟨_,s3 _ _ (s2 _ _ hb2),?_⟩
     rw [List.all_map]
     exact ZBw.mpr fun _ _=>rfl
    ·refine k _ (s2.trans s3) _ ((zt6 (hd:=[]) rfl hps2 (x:=[(r.what.a:Int),(r.what.b:Int),r.what.v])).trans ⟨fun z=>⟨u0,ht,z⟩,fun z=>z.2.2⟩)
   ·refine zdj (zkw hw) (c1 _ _ ?_)
    clear c1 N1
    have hux:Paired (fun (i:Nat) (x:MU.zar)=>i<m/\∃ri,p[i]?=some ri/\ri.what=x) r.used (r.used.map (wh p)):=zfr fun i hi=>by
     have:=hb i hi
     have e:p[i]?=some p[i]:=ZAx (by lia)
     exact ⟨this,_,e,(zn0 e).symm⟩
    have ends:∀x∈r.used.map (wh p),zis Fa x:=fun x hx=>by
     obtain ⟨i,hi,rfl⟩:=ZBr.mp hx
     have:=hb i hi
     have e:p[i]?=some p[i]:=ZAx (by lia)
     rw [zn0 e]
     exact hend i _ this e
    have ask:=zqu hw ends (by rw [ZAu];exact few)
    have k:∀H',za7 H H'->∀b,(b=true↔fol Fa r.word (r.used.map (wh p))=some r.what)->Q (.bl b) H':=fun H' s' b e=>k H' s' b (e.trans ⟨fun z=>(zgd hw).mpr ⟨hb,z⟩,fun z=>((zgd hw).mp z).2⟩)
    have hul:r.used.length=(r.used.map (wh p)).length:=(ZAu ..).symm
    generalize hxs:r.used.map (wh p)=xs at*
    refine ⟨_,rfl,_,rfl,rdT g1' rfl ⟨_,rfl,rdT g1' rfl ⟨pu,rfl,⟨_,SqT.of g3'⟩,fun Db hDb=>?_⟩⟩⟩
    refine zez (xs:=r.used.map fun i:Nat=>V.int (i:Int)) (fun j σ' H'=>∃v ps,σ'=[v,some (.ref rl)]/\H' Db=some (.lst (ps.map V.ref))/\Paired (za4 H') ps (xs.take j)/\ps.length=j/\za7 H2 H') ⟨none,[],rfl,zaa,.nil,rfl,zab hDb⟩ ?_ ?_ ?_
    ·rintro j σ' H3 _ ⟨v,ps,rfl,_,_,_,s3⟩
     exact SqT.of (s3 _ _ g3')
    ·rintro j x σ' H3 hx ⟨v,ps,rfl,e3,hps,hpl,s3⟩
     rw [ZA0] at hx
     cases q2:r.used[j]? with
     | none=>rw [q2] at hx;cases hx
     | some i=>
      rw [q2] at hx
      cases hx
      have hj:=(ZAv.mp q2).1
      obtain ⟨x,hxj,hi,ri,hri,ex⟩:=paired_get hux q2
      obtain ⟨qi,pwi,pui,hati,k1,k2,k3⟩:=zi7 hrows hri
      subst ex
      have s03:=s2.trans s3
      exact ⟨_,rfl,zoo rfl (s03 _ _ hrl) hati (rdT (s03 _ _ k1) rfl ⟨_,e3,by rw [ZAu];exact zao (by omega),_,ps++[pwi],rfl,zhz hDb e3 hps hpl s3 hxj (s2 _ _ k2)⟩)⟩
    ·rintro σ' H3 ⟨v,ps,rfl,e3,hps,hpl,s3⟩
     rw [ZAu,hul,ZBi] at hps
     have s03:=s2.trans s3
     refine ⟨d,_,Db,ps,Fa,xs,_,rfl,hF.same s03,⟨e3,hps⟩,ask,⟨fun z H4 s4=>?_,fun x ex rr H4 hrr s4 hx=>?_⟩⟩
     ·have s34:=s3.trans s4
      exact ⟨_,rfl,rdT (s34 _ _ g1') rfl ⟨pw,_,rfl,s34 _ _ g2',rfl,.inl ⟨rfl,k _ (s2.trans s34) _ ⟨nofun,fun e=>by rw [z] at e;cases e⟩⟩⟩⟩
     ·have s34:=s3.trans s4
      exact ⟨_,rfl,rdT (s34 _ _ g1') rfl ⟨pw,_,rfl,s34 _ _ g2',rfl,.inr ⟨rr,_,rfl,hx,rfl,k _ (s2.trans s34) _ (zgz.trans ⟨fun e=>by rw [ex,e],fun e=>by rw [ex] at e;exact ZA7 e⟩)⟩⟩⟩
end Y0
namespace L2
theorem zs5 {α:Type} {xs:List α} {x:α} (h:xs[xs.length-1]?=some x):atI xs (-1)=some x:=by
 have hl:=(ZAv.mp h).1
 unfold atI ixN
 rw [if_neg (by decide),if_pos (by lia)]
 show xs[(-1+(xs.length:Int)).toNat]?=some x
 rw [show (-1+(xs.length:Int)).toNat=xs.length-1 by lia]
 exact h
end L2
namespace Y0
open PySem L2
seal L2.PE L2.PA L2.PT L2.PS L2.PSs L2.PG L2.PGs L2.PI L2.PO
def zwf (C:Addr):Sp:=fun vs H Q _=>∃(wb rl:Addr) (n la:Int) (T F:List (List Int)) (qs:List Addr) (p:List MU.Row),vs=[.ref wb,.ref rl]/\ze1 C H wb n la T F/\zc0 n la T F/\H rl=some (.lst (qs.map V.ref))/\Paired (zc5 H) qs p/\
 (∀r∈p,r.used.length<=2)/\p.length<=16500000/\∀H',za7 H H'->∀b,(b=true↔IsP (zak F) (zek n la T F) p)->Q (.bl b) H'
abbrev nIp:List Str:=["web","rows","told","falls","at"]
theorem zxp:zan nIp ["web","rows"] (zag sP_is_paper):=scm
theorem ok_isPaper {f C fB fE fR fS:Addr} {fd fdB fdE fdR fdS:FuncData} (F:Fn K mg "is_paper" sP_is_paper ["web","rows"] f fd) (hrange:mg "range"=none) (hlen:mg "len"=none)
 (FB:Fn K mg "told_bounds" sP_told_bounds ["web"] fB fdB) (GB:zbb P w K mg base CX0 3 fB fdB ["web"] (zo5 C))
 (FE:Fn K mg "falls_by_end" sP_falls_by_end ["web"] fE fdE) (GE:zbb P w K mg base CX0 2 fE fdE ["web"] (zl6 C))
 (FR:Fn K mg "row_follows" sP_row_follows ["told","falls","rows","at"] fR fdR) (GR:zbb P w K mg base CX0 3 fR fdR ["told","falls","rows","at"] ztj)
 (FS:Fn K mg "bars_every_hand" sP_bars_every_hand ["what"] fS fdS) (GS:zbb P w K mg base CX0 1 fS fdS ["what"] zph):zbb P w K mg base CX0 4 f fd ["web","rows"] (zwf C):=by
 refine F.F.ok zxp (fun _ _ _ _ h=>?_) fun _ A _ s H _ Q E hr h=>?_
 ·obtain ⟨_,_,_,_,_,_,_,_,rfl,_⟩:=h
  rfl
 ·obtain ⟨wb,rl,n,la,rT,rF,qs,p,rfl,W0,hok,hrl,hrows,hp,few,k⟩:=h
  have hr1:zel 1 _:=hr.mono (by decide)
  have hr2:zel 2 _:=hr.mono (by decide)
  refine ⟨_,zaf (za5 2 zxp.nd (pcl GB hr FB (pa1 (pv 0))))
   (zaf (za5 3 zxp.nd (pcl GE hr2 FE (pa1 (pv 0))))
   (zaf (zc9 PassesOwn.never rfl (zcv (by rfl) hrange (pa1 (zay za9 (by rfl) hlen ZAn (pa1 (pv 1))))) (zcw 4 zxp.nd)
    (zad (zbe (zge (zh6 (pcl GR hr FR (pa4 (pv 2) (pv 3) (pv 1) (pv 4))))) (zad (zaq zj8)) zap)))
   (zad (zaq (zfd (zl3 zp7 (zay za9 (by rfl) hlen ZAn (pa1 (pv 1))) zae)
    (zjd (pcl GS hr1 FS (pa1 (ixT (zbm zal (pv 1) (zl9 zh0 zae) (fun _ _=>rfl))))))))))),?_⟩
  have hql:qs.length=p.length:=Paired.length hrows
  refine fun N1 c1=>⟨_,rfl,wb,n,la,rT,rF,rfl,W0,hok,fun tl H1 htl s1 hB=>c1 _ _ ?_⟩
  clear c1 N1
  refine fun N1 c1=>⟨_,rfl,wb,n,la,rT,rF,rfl,W0.same s1,hok,fun d H2 hd s2 hF=>c1 _ _ ?_⟩
  clear c1 N1
  have s02:=s1.trans s2
  have hrl2:=s02 _ _ hrl
  refine fun N1 c1=>⟨_,rfl,rl,_,rfl,.inl (SqL.of hrl2),_,rfl,?_,?_,?_⟩
  ·rw [ZAu];lia
  ·rw [ZAu];lia
  refine zd7 (n:=(((qs.map V.ref).length:Nat):Int).toNat) (fun i σ' H'=>∃v,σ'=[some (.ref wb),some (.ref rl),some (.ref tl),some (.ref d),v]/\za7 H2 H'/\∀j r,j<i->p[j]?=some r->zgq (zak rF) (zek n la rT rF) p j r) ⟨none,rfl,za7.refl _,fun j _ hj=>absurd hj (ZB6 _)⟩ ?_ ?_
  ·rintro i σ' H3 hi ⟨v,rfl,s3,ok3⟩
   rw [ZBx,ZAu] at hi
   have ei:(0:Int)+(i:Int)=(i:Int):=by lia
   rw [ei]
   have s03:=s02.trans s3
   obtain ⟨r,hr'⟩:∃r,p[i]?=some r:=⟨_,ZAx (by lia)⟩
   refine ⟨_,rfl,_,rfl,_,rfl,_,rfl,tl,d,rl,_,_,qs,p,i,r,rfl,hB.same (s2.trans s3),hF.same s3,s03 _ _ hrl,zaj hrows fun q r e=>e.same s03,hr',hp r (ZA1 hr'),fun j r' hj e=>(ok3 j r' hj e).ends,fun H4 s4 b hb=>⟨_,rfl,?_⟩⟩
   cases b with
   | true=>
    refine zef ⟨_,rfl,s3.trans s4,fun j r' hj e=>?_⟩
    by_cases c:j=i
    ·subst c
     rw [hr'] at e
     cases e
     exact hb.mp rfl
    ·exact ok3 j r' (by lia) e
   | false=>exact zhb (k _ (s03.trans s4) _ ⟨nofun,fun z=>hb.mpr (z.1 i r hr')⟩)
  ·rintro σ' H3 ⟨v,rfl,s3,ok3⟩
   refine c1 _ _ ?_
   have s03:=s02.trans s3
   rw [ZBx,ZAu] at ok3
   have all:∀m r,p[m]?=some r->zgq (zak rF) (zek n la rT rF) p m r:=fun m r e=>ok3 m r (by have:=(ZAv.mp e).1;lia) e
   refine ⟨_,rfl,rl,_,rfl,.inl (SqL.of (s03 _ _ hrl)),_,_,rfl,rfl,_,rfl,?_⟩
   rw [ZAu]
   by_cases h0:0<p.length
   case neg=>
    refine zd6 (by lia) (zms (k _ s03 false ⟨nofun,fun ⟨_,r,e,_⟩=>absurd (ZAv.mp e).1 (by lia)⟩) rfl)
   obtain ⟨r,hlast⟩:∃r,p[p.length-1]?=some r:=⟨_,ZAx (by lia)⟩
   obtain ⟨q,hq⟩:∃q,qs[qs.length-1]?=some q:=⟨_,ZAx (by lia)⟩
   obtain ⟨r',hr',pw,pu,g1,g2,g3⟩:=paired_get hrows hq
   rw [hql,hlast] at hr'
   cases hr'
   have hat:atI (qs.map V.ref) (-1)=some (.ref q):=zs5 (by rw [ZAu,ZA0,hq];rfl)
   refine zf9 (by lia) ?_
   refine ⟨_,rfl,_,rfl,rl,_,_,_,rfl,rfl,s03 _ _ hrl,hat,rdT (s03 _ _ g1) rfl ⟨pw,r.what,rfl,za4.same g2 s03,?_⟩⟩
   refine k _ s03 _ (decide_eq_true_iff.trans ⟨fun z=>⟨all,r,hlast,z⟩,fun zz=>?_⟩)
   obtain ⟨_,r',e,z⟩:=zz
   rw [hlast] at e
   cases e
   exact z
end Y0
namespace L2
open PySem
theorem zcj.two {H1:Hp} {l p1 p2 q:Addr} {ps:List Addr} {rows:List (List Int)} (r1 r2:List Int) (R:zcj H1 l ps rows) (hp1:H1 p1=none) (hp2:upd H1 p1 (.tup (r1.map V.int)) p2=none) (hq:upd (upd H1 p1 (.tup (r1.map V.int))) p2 (.tup (r2.map V.int)) q=none):
 upd (upd (upd H1 p1 (.tup (r1.map V.int))) p2 (.tup (r2.map V.int))) q (.lst [V.ref p1,V.ref p2]) l=some (.lst (ps.map V.ref))/\za7 H1 (upd (upd (upd H1 p1 (.tup (r1.map V.int))) p2 (.tup (r2.map V.int))) q (.lst [V.ref p1,V.ref p2]))/\
 ∀p,upd (upd (upd H1 p1 (.tup (r1.map V.int))) p2 (.tup (r2.map V.int))) q (.lst [V.ref p1,V.ref p2]) p=none->zcj (upd (upd (upd (upd H1 p1 (.tup (r1.map V.int))) p2 (.tup (r2.map V.int))) q (.lst [V.ref p1,V.ref p2])) p (.lst (ps.map V.ref++[V.ref p1,V.ref p2]))) p (ps++[p1,p2]) (rows++[r1,r2]):=by
 have sA:=zab (o:=.tup (r1.map V.int)) hp1
 have sB:=zab (o:=.tup (r2.map V.int)) hp2
 have sC:=zab (o:=.lst [V.ref p1,V.ref p2]) hq
 have e1:=sC _ _ (sB _ _ (zaa (H:=H1) (a:=p1) (o:=.tup (r1.map V.int))))
 have e2:=sC _ _ (zaa (H:=upd H1 p1 (.tup (r1.map V.int))) (a:=p2) (o:=.tup (r2.map V.int)))
 have R':=((R.same sA).same sB).same sC
 have R2:zcj (upd (upd (upd H1 p1 (.tup (r1.map V.int))) p2 (.tup (r2.map V.int))) q (.lst [V.ref p1,V.ref p2])) q [p1,p2] [r1,r2]:=⟨zaa,.cons e1 (.cons e2 .nil)⟩
 exact ⟨R'.1,(sA.trans sB).trans sC,fun p hp=>R'.cat R2 hp⟩
end L2
namespace Y0
open PySem L2
seal L2.PE L2.PA L2.PT L2.PS L2.PSs L2.PG L2.PGs L2.PI L2.PO
structure TxtL (K:ZCa) (mg:Str->Option Value):Prop where
 range:mg "range"=none
 isi:mg "isinstance"=none
 int:mg "int"=none
 bool:mg "bool"=none
 ib:PySem.W.kitOne K (.type "int") (.type "bool")=some false
structure zdl (H:Hp) (wp ta fa:Addr) (n la:Int) (T F:List (List Int)):Prop where
 tup:H wp=some (.tup [.int n,.int la,.ref ta,.ref fa])
 t:zbk H ta T
 f:zbk H fa F
theorem zdl.same {H H':Hp} {wp ta fa:Addr} {n la:Int} {T F:List (List Int)} (h:zdl H wp ta fa n la T F) (k:za7 H H'):zdl H' wp ta fa n la T F:=⟨k _ _ h.tup,h.t.same k,h.f.same k⟩
def zh3:Sp:=fun vs H Q _=>∃wp ta fa n la T F,vs=[.ref wp]/\zdl H wp ta fa n la T F/\zc0 n la T F/\∀l H',H l=none->za7 H H'->zbk H' l (zek n la T F)->Q (.ref l) H'
theorem zg5 (a b:List (List Int)):zeu (a++b)=zeu a++zeu b:=by unfold zeu;rw [ZA9,List.flatten_append]
abbrev nLb:List Str:=["_law_w","_law_bounds_here","_law_moment","_law_one","_law_other","_law_least","_law_most"]
theorem zr1:zan nLb ["_law_w"] (zag sL_bounds):=scm
theorem ok_lbounds {f:Addr} {fd:FuncData} (F:Fn K mg "_law_bounds" sL_bounds ["_law_w"] f fd) (T:TxtL K mg):zrh P w K mg base CX0 1 f fd ["_law_w"] zh3:=by
 refine F.F.okH zr1 (fun vs H Q E h=>?_) (fun cdv A outer s H vs Q E hr hh h=>?_)
 ·obtain ⟨wp,_,_,_,_,_,_,rfl,_⟩:=h
  rfl
 ·obtain ⟨wp,ta,fa,n,la,rT,rF,rfl,D0,hok,k⟩:=h
  refine ⟨_,zah (za5 1 zr1.nd (zcq zdq))
   (zah (zl8 PassesOwn.never (.inr hh) (zlf rfl T.range (pa2 zae (ixT (pv 0)))) (zcw 2 zr1.nd)
    (zad (za5 1 zr1.nd (za2 zff (pv 1) (zcq (pa2 (zaw (pa3 zae (pv 2) (ixT (pv 0)))) (zaw (pa3 (pv 2) zae zae))))))))
   (zah (zl8 PassesOwn.never (.inr hh) (zbt (za2 zff (ixT (pv 0)) (ixT (pv 0))))
    (zu1 (K:=K) (n:=4) rfl (.inr hh) (za0 (zcw 3 zr1.nd) (za0 (zcw 4 zr1.nd) (za0 (zcw 5 zr1.nd) (za0 (zcw 6 zr1.nd) zfb)))))
    (zad (za5 1 zr1.nd (za2 zff (pv 1) (zcq (pa2 (zaw (pa3 (pv 3) (pv 4) (pv 6))) (zaw (pa3 (pv 4) (pv 3) (za2 zcc zae (pv 5))))))))))
   (zad (zaq (pv 1))))),?_⟩
  have n1:=hok.n1
  have n2:=hok.n2
  refine ⟨ZBa _,fun l0 hl0=>?_⟩
  have s0:=zab (o:=.lst []) hl0
  refine ⟨_,rfl,rdT (s0 _ _ D0.tup) rfl ⟨1,n,rfl,⟨by decide,by decide,by omega,by omega⟩,?_⟩⟩
  refine zd7 (n:=(n-1).toNat) (fun i σ' H'=>∃v l ps,σ'=[some (.ref wp),some (.ref l),v,none,none,none,none]/\zcj H' l ps (zev la i)/\za7 H H'/\H l=none) ⟨none,l0,[],rfl,⟨zaa,.nil⟩,s0,hl0⟩ ?_ ?_
  ·rintro i σ' H1 hi ⟨v,l,ps,rfl,R1,s1,hl⟩
   have e:zev la (i+1)=zev la i++[[0,1+(i:Int),la],[1+(i:Int),0,0]]:=by
    rw [Int.add_comm 1 (i:Int)]
    rfl
   rw [e]
   refine ⟨_,rfl,_,rfl,_,rfl,rdT (s1 _ _ D0.tup) rfl ⟨szl rfl,fun p1 hp1=>?_⟩⟩
   refine ⟨_,rfl,szl rfl,fun p2 hp2=>?_⟩
   refine ⟨szl rfl,fun q hq=>?_⟩
   obtain ⟨f1,f2,f3⟩:=R1.two [0,1+(i:Int),la] [1+(i:Int),0,0] hp1 hp2 hq
   refine ⟨l,q,_,_,rfl,rfl,f1,zaa,?_,fun p hp=>?_⟩
   ·rw [ZAu,R1.len,zcu]
    exact ZBb (zao (by show 2*i+2<=1000;omega))
   ·have s2:=s1.trans f2
    exact ⟨_,p,_,rfl,f3 p hp,s2.trans (zab hp),s2.free hp⟩
  ·rintro σ' H1 ⟨v,l,ps,rfl,R1,s1,hl⟩
   have D1:=D0.same s1
   obtain ⟨pt,Rt⟩:=D1.t
   obtain ⟨pf,Rf⟩:=D1.f
   have tl:=hok.tl
   have fl:=hok.fl
   refine ⟨_,rfl,rdT D1.tup rfl ⟨_,rfl,rdT D1.tup rfl ⟨ta,fa,_,_,rfl,rfl,Rt.1,Rf.1,?_,fun sl hsl=>⟨sl,rfl,⟨_,SqL.of zaa⟩,?_⟩⟩⟩⟩
   ·rw [ZAu,ZAu,Rt.len,Rf.len]
    exact ZBb (zao (by omega))
   have RS:=Rt.cat Rf hsl
   have s2:=zab (o:=.lst (pt.map V.ref++pf.map V.ref)) hsl
   have R2:=R1.same s2
   have s12:=s1.trans s2
   generalize upd H1 sl (.lst (pt.map V.ref++pf.map V.ref))=H2 at*
   have four:zt7 (rT++rF):=fun r hr=>(ZBo.mp hr).elim (hok.fourT r) (hok.fourF r)
   refine zcx (K:=K) (a:=sl) (xs:=(pt++pf).map V.ref) (fun i σ' H'=>∃v3 v4 v5 v6 l ps,σ'=[some (.ref wp),some (.ref l),v,v3,v4,v5,v6]/\zcj H' l ps (zev la (n-1).toNat++zeu ((rT++rF).take i))/\za7 H2 H'/\H l=none)
    ⟨none,none,none,none,l,ps,rfl,by rw [List.take_zero];show zcj _ _ _ (_++[]);rw [List.append_nil];exact R2,za7.refl _,hl⟩ ?_ ?_ ?_
   ·rintro i σ' H3 _ ⟨v3,v4,v5,v6,l,ps,rfl,_,s3,_⟩
    exact SqL.of (s3 _ _ RS.1)
   ·rintro i x σ' H3 hx ⟨v3,v4,v5,v6,l,ps,rfl,R3,s3,hl3⟩
    obtain ⟨q,r,rfl,hq,hr',hqt⟩:=RS.get hx
    obtain ⟨a',b',le,mo,e4⟩:=four r (ZA1 hr')
    subst e4
    have hi:i<(rT++rF).length:=(ZAv.mp hr').1
    have h4':zt7 ((rT++rF).take i):=fun r hr=>four r (List.mem_of_mem_take hr)
    have e:zev la (n-1).toNat++zeu ((rT++rF).take (i+1))=zev la (n-1).toNat++zeu ((rT++rF).take i)++[[a',b',mo],[b',a',0-le]]:=by
     rw [ZBu,hr',zg5,List.append_assoc,Int.zero_sub]
     rfl
    rw [e]
    refine ⟨q,_,rfl,SqT.of (s3 _ _ hqt),rfl,_,_,rfl,_,_,rfl,_,_,rfl,_,_,rfl,rfl,?_⟩
    refine ⟨_,rfl,_,rfl,_,rfl,_,rfl,szl rfl,fun p1 hp1=>?_⟩
    refine ⟨_,rfl,_,rfl,_,rfl,_,_,rfl,rfl,szl rfl,fun p2 hp2=>?_⟩
    refine ⟨szl rfl,fun q' hq'=>?_⟩
    obtain ⟨f1,f2,f3⟩:=R3.two [a',b',mo] [b',a',0-le] hp1 hp2 hq'
    refine ⟨l,q',_,_,rfl,rfl,f1,zaa,?_,fun p hp=>?_⟩
    ·rw [ZAu,R3.len,ZA3,zcu,zcl h4',ZBl]
     refine ZBb (zao ?_)
     rw [ZA3] at*
     show 2*(n-1).toNat+2*min i (rT.length+rF.length)+2<=1000
     omega
    ·have s4:=s3.trans f2
     exact ⟨_,_,_,_,p,_,rfl,f3 p hp,s4.trans (zab hp),s12.free (s4.free hp)⟩
   ·rintro σ' H3 ⟨v3,v4,v5,v6,l,ps,rfl,R3,s3,hl3⟩
    have hle:(rT++rF).take ((pt++pf).map V.ref).length=rT++rF:=by
     rw [ZAu,RS.len]
     exact ZBi
    rw [hle,zg5,<-List.append_assoc] at R3
    exact ⟨_,rfl,k l _ hl3 (s12.trans s3) ⟨ps,R3⟩⟩
theorem zjj {n la:Int} {T F:List (List Int)} (hok:zc0 n la T F) {e:Nat} {f:Nat×Int×Int} (h:zak F e=some f):∃t,(F.filter fun r=>decide (r[1]?=some (e:Int)))=[(f.1:Int),(e:Int),f.2.1,f.2.2]::t:=by
 unfold zak at h
 cases q:F.find? fun r=>decide (r[1]?=some (e:Int)) with
 | none=>rw [q] at h;cases h
 | some r=>
  rw [q] at h
  have hm:=List.mem_of_find?_eq_some q
  have hp:=List.find?_some q
  obtain ⟨a,b,l,m,rfl,h0,_⟩:=hok.f r hm
  have hp:decide ((some b:Option Int)=some (e:Int))=true:=hp
  rw [ZBy,ZBz] at hp
  subst hp
  have h:some (a.toNat,l,m)=some f:=h
  cases h
  rw [<-List.head?_filter] at q
  cases hf:F.filter fun r=>decide (r[1]?=some (e:Int)) with
  | nil=>rw [hf] at q;cases q
  | cons x t=>
   rw [hf] at q
   have q:some x=some [a,(e:Int),l,m]:=q
   cases q
   refine ⟨t,?_⟩
   show _=[((a.toNat:Nat):Int),(e:Int),l,m]::t
   rw [ZAg h0]
theorem at0 {x:V} {xs:List V}:atI (x::xs) 0=some x:=zbv (j:=0) rfl
theorem at1 {x y:V} {xs:List V}:atI (x::y::xs) 1=some y:=zbv (j:=1) rfl
theorem zlp {n la:Int} {T F:List (List Int)} (hok:zc0 n la T F) {e:Nat} (h:zak F e=none):(F.filter fun r=>decide (r[1]?=some (e:Int)))=[]:=by
 unfold zak at h
 cases q:F.find? fun r=>decide (r[1]?=some (e:Int)) with
 | none=>rw [List.filter_eq_nil_iff];exact fun a ha=>List.find?_eq_none.mp q a ha
 | some r=>
  rw [q] at h
  obtain ⟨a,b,l,m,rfl,_⟩:=hok.f r (List.mem_of_find?_eq_some q)
  cases h
theorem zjg {F:MU.zax} {wd:MU.Wd} {xs:List MU.zar} (h:∀y,fol F wd xs=some y->False):fol F wd xs=none:=by
 cases e:fol F wd xs with
 | none=>rfl
 | some y=>exact (h y e).elim
theorem zsw {F:MU.zax} {x:MU.zar} (h:¬(x.tie=true/\x.a≠x.b/\∃f,F x.b=some f)):fol F .late [x]=none:=zjg fun y e=>by
 rcases zds e with ⟨w,_⟩ | ⟨_,x,f,ex,h1,h2,h3,_⟩ | ⟨w,_⟩ | ⟨w,_⟩ | ⟨w,_⟩ | ⟨w,_⟩
 case inr.inl=>cases ex;exact h ⟨h1,h2,f,h3⟩
 all_goals cases w
theorem zsv {F:MU.zax} {x:MU.zar} (h:¬(x.tie=true/\x.a≠x.b/\x.v<0/\∃f,F x.a=some f)):fol F .soon [x]=none:=zjg fun y e=>by
 rcases zds e with ⟨w,_⟩ | ⟨w,_⟩ | ⟨_,x,f,ex,h1,h2,h3,h4,_⟩ | ⟨w,_⟩ | ⟨w,_⟩ | ⟨w,_⟩
 case inr.inr.inl=>cases ex;exact h ⟨h1,h2,h3,f,h4⟩
 all_goals cases w
theorem zsu {F:MU.zax} {x:MU.zar} (h:¬x.tie=false):fol F .sure [x]=none:=zjg fun y e=>by
 rcases zds e with ⟨w,_⟩ | ⟨w,_⟩ | ⟨w,_⟩ | ⟨_,x,f,ex,h1,_⟩ | ⟨w,_⟩ | ⟨w,_⟩
 case inr.inr.inr.inl=>cases ex;exact h h1
 all_goals cases w
theorem zqt {F:MU.zax} {x:MU.zar} (h:¬(x.tie=false/\x.a≠x.b/\0<x.v/\∃g,F x.a=some g)):fol F .cross [x]=none:=zjg fun y e=>by
 rcases zds e with ⟨w,_⟩ | ⟨w,_⟩ | ⟨w,_⟩ | ⟨w,_⟩ | ⟨w,_⟩ | ⟨_,x,g,f,ex,h1,h2,h3,h4,_⟩
 case inr.inr.inr.inr.inr=>cases ex;exact h ⟨h1,h2,h3,g,h4⟩
 all_goals cases w
theorem zqs {F:MU.zax} {x z:MU.zar} (h:¬(x.tie=true/\z.tie=true/\x.b=z.a)):fol F .sum [x,z]=none:=zjg fun y e=>by
 rcases zds e with ⟨_,x,z,ex,h1,h2,h3,_⟩ | ⟨w,_⟩ | ⟨w,_⟩ | ⟨w,_⟩ | ⟨w,_⟩ | ⟨w,_⟩
 case inl=>cases ex;exact h ⟨h1,h2,h3⟩
 all_goals cases w
theorem zns {F:MU.zax} {x z:MU.zar} (h:¬(x.tie=false/\z.tie=true/\z.b=x.a/\z.a≠x.b)):fol F .back [x,z]=none:=zjg fun y e=>by
 rcases zds e with ⟨w,_⟩ | ⟨w,_⟩ | ⟨w,_⟩ | ⟨w,_⟩ | ⟨_,x,z,f,ex,h1,h2,h3,h4,_⟩ | ⟨w,_⟩
 case inr.inr.inr.inr.inl=>cases ex;exact h ⟨h1,h2,h3,h4⟩
 all_goals cases w
theorem zgs {wd v:MU.Wd} (h:wd≠v):decide (V.str (zb4 wd)=V.str (zb4 v))=false:=ZB9 fun e=>h (by
 have e:=V.str.inj e
 revert e
 clear h
 cases wd<;>cases v<;>first | exact fun _=>rfl | exact fun e=>absurd e (by decide+kernel))
theorem zyt {i j:Int}:(if j<i then j else i)=min i j:=by
 split<;>lia
def zpa:Sp:=fun vs H Q _=>∃(wp ta fa ul:Addr) (n la:Int) (T F:List (List Int)) (ps:List Addr) (xs:List MU.zar) (wd:MU.Wd),vs=[.ref wp,.str (zb4 wd),.ref ul]/\zdl H wp ta fa n la T F/\zc0 n la T F/\H ul=some (.lst (ps.map V.ref))/\Paired (za4 H) ps xs/\
 xs.length=mn wd/\(∀x∈xs,zis (zak F) x)/\zfz H Q (fol (zak F) wd xs)
abbrev nLf:List Str:=["_law_w","_law_word","_law_used","_law_first","_law_falls_here","_law_mine","_law_other"]
theorem zwk:zan nLf ["_law_w","_law_word","_law_used"] (zag sL_follows):=scm
theorem zz4:zbw (zag sL_follows) nLf (fsc [(".0",.local),("_law_fall",.local),("_law_first",.free)]) ["_law_fall","_law_first"] [none,some 3]:=com
theorem zzy:(["_law_fall","_law_first"]:List Str).Nodup:=by decide+kernel
theorem ok_lfollows {f:Addr} {fd:FuncData} (Fn0:Fn K mg "_law_follows" sL_follows ["_law_w","_law_word","_law_used"] f fd) (hmin:mg "min"=none) (hlen:mg "len"=none):zbb P w K mg base CX0 1 f fd ["_law_w","_law_word","_law_used"] zpa:=by
 refine Fn0.F.ok zwk (fun _ _ _ _ h=>?_) fun _ A _ s H _ Q E hr h=>?_
 ·obtain ⟨_,_,_,_,_,_,_,_,_,_,_,rfl,_⟩:=h
  rfl
 ·obtain ⟨wp,ta,fa,ul,n,la,T,F,ps,xs,wd,rfl,D0,hok,hul,hps,hml,ends,k⟩:=h
  refine ⟨_,zaf (zg7 (i:=3) zwk.nd rfl (Or.inr rfl) (zbm zal (pv 2) zae (fun _ _=>rfl)))
   (zaf (zgw (i:=4) zwk.nd rfl rfl rfl (zbt (ixT (pv 0))) zz4 (fun cl ex s0 H0=>⟨zcw 0 zzy,zf5 (zb8 zbd (ixT (pv 0)) (ixT (pv 1))),pv 0⟩))
   (zaf (zbe (PW.pt (zcf (zb8 zbd (pv 1) zam) (zcf (zb8 zbd (ixT (pv 3)) zam) (zcf (zb8 (zj9 (K:=K) rfl hr.units) (pv 4) (zcq zdq)) (zdg (zb8 zka (ixT (pv 3)) (ixT (pv 3))))))))
    (zad (zaq (zaw (pa4 zam (ixT (pv 3)) (ixT (pv 3)) (za2 zcc (ixT (zbm zal (pv 4) zae (fun _ _=>rfl))) (ixT (pv 3))))))) zap)
   (zaf (zbe (PW.pt (zcf (zb8 zbd (pv 1) zam) (zdg (zb8 zbd (ixT (pv 3)) zam))))
    (zad (zaq (zaw (pa4 zam (ixT (pv 3)) (ixT (zbm zal (pv 4) zae (fun _ _=>rfl))) (za2 zcc zae (zay (zdt rfl) (by rfl) hmin (by decide+kernel) (pa2 (ixT (pv 3)) (ixT (zbm zal (pv 4) zae (fun _ _=>rfl)))))))))) zap)
   (zaf (zgw (i:=5) zwk.nd rfl rfl rfl (zbt (ixT (pv 0))) zz4 (fun cl ex s0 H0=>⟨zcw 0 zzy,zf5 (zb8 zbd (ixT (pv 0)) (ixT (pv 1))),pv 0⟩))
   (zaf (zbe (PW.pt (zcf (zb8 zbd (pv 1) zam) (zcf (zb8 zbd (ixT (pv 3)) zam) (zcf (zb8 (zj9 (K:=K) rfl hr.units) (pv 5) (zcq zdq)) (zcf (zb8 zhe (ixT (pv 3)) zae) (zdg (zb8 zka (ixT (pv 3)) (ixT (pv 3)))))))))
    (zad (zaq (zaw (pa4 zam (ixT (zbm zal (pv 5) zae (fun _ _=>rfl))) (ixT (pv 3)) (za2 zb5 (ixT (zbm zal (pv 5) zae (fun _ _=>rfl))) (ixT (pv 3))))))) zap)
   (zaf (zbe (PW.pt (zcf (zb8 zbd (pv 1) zam) (zcf (zb8 zbd (ixT (pv 3)) zam) (zcf (zb8 (zj9 (K:=K) rfl hr.units) (pv 5) (zcq zdq)) (zcf (zb8 zp7 (ixT (pv 3)) zae) (zdg (zb8 zka (ixT (pv 3)) (ixT (pv 3)))))))))
    (zad (zaq (zaw (pa4 zam (ixT (zbm zal (pv 5) zae (fun _ _=>rfl))) (ixT (pv 3)) (za2 zcc (zay (zdt rfl) (by rfl) hmin (by decide+kernel) (pa2 (ixT (pv 3)) (ixT (zbm zal (pv 4) zae (fun _ _=>rfl))))) (ixT (zbm zal (pv 5) zae (fun _ _=>rfl)))))))) zap)
   (zaf (zbe (PW.pt (zhd (zb8 zhe (zay za9 (by rfl) hlen ZAn (pa1 (pv 2))) zae) (zf1 (zb8 zka (ixT (zbm zal (pv 2) zae (fun _ _=>rfl))) zam)))) (zad (zaq zeh)) zap)
   (zaf (za5 6 zwk.nd (zbm zal (pv 2) zae (fun _ _=>rfl)))
   (zaf (zbe (PW.pt (zcf (zb8 zbd (pv 1) zam) (zcf (zb8 zbd (ixT (pv 3)) zam) (zdg (zb8 zbd (ixT (pv 3)) (ixT (pv 6)))))))
    (zad (zaq (zaw (pa4 zam (ixT (pv 3)) (ixT (pv 6)) (za2 zb5 (ixT (pv 3)) (ixT (pv 6))))))) zap)
   (zaf (zbe (PW.pt (zcf (zb8 zbd (pv 1) zam) (zcf (zb8 zbd (ixT (pv 3)) zam) (zcf (zb8 zbd (ixT (pv 6)) (ixT (pv 3))) (zdg (zb8 zka (ixT (pv 6)) (ixT (pv 3))))))))
    (zad (zaq (zaw (pa4 zam (ixT (pv 6)) (ixT (pv 3)) (za2 zcc (zay (zdt rfl) (by rfl) hmin (by decide+kernel) (pa2 (ixT (pv 3)) (ixT (zbm zal (pv 4) zae (fun _ _=>rfl))))) (ixT (pv 6))))))) zap)
   (zad (zaq zeh)))))))))))),?_⟩
  obtain ⟨x0,xr,rfl⟩:∃x0 xr,xs=x0::xr:=by
   cases xs with
   | nil=>exact absurd hml (by cases wd<;>decide)
   | cons x0 xr=>exact ⟨x0,xr,rfl⟩
  have hx0:x0.tie=false->∃f,zak F x0.b=some f:=ends x0 ZA5
  have one:mn wd=1->xr=[]:=fun e=>ZAi.mp (by rw [ZBp,e] at hml;lia)
  obtain ⟨q0,qr,rfl,hq0,hqr⟩:∃q0 qr,ps=q0::qr/\za4 H q0 x0/\Paired (za4 H) qr xr:=by
   cases hps with
   | cons h t=>exact ⟨_,_,rfl,h,t⟩
  have hq0:H q0=some (.tup [.str (zc4 x0.tie),.int (x0.a:Int),.int (x0.b:Int),.int x0.v]):=hq0
  refine fun N0 c0=>⟨_,rfl,rdL hul at0 (c0 _ _ ?_)⟩
  clear c0 N0
  obtain ⟨fs,hfa⟩:=D0.f
  refine fun NA cA=>⟨_,rfl,rdT ((za7.refl H) _ _ D0.tup) rfl ⟨fa,rfl,⟨_,SqL.of ((za7.refl H) _ _ hfa.1)⟩,fun DA hDA=>?_⟩⟩
  refine zdc (K:=K) (a:=fa) (xs:=fs.map V.ref) (fun j σ' H'=>∃v qs',σ'=[v,some (.ref q0)]/\H' DA=some (.lst (qs'.map V.ref))/\Paired (fun q r=>H' q=some (.tup (r.map V.int))) qs' ((F.take j).filter fun r=>decide (r[1]?=some (x0.b:Int)))/\qs'.length<=j/\za7 H H') ⟨none,[],rfl,zaa,.nil,ZAw _,zab hDA⟩ ?_ ?_ ?_
  ·rintro j σ' H' _ ⟨v,qs',rfl,_,_,_,s'⟩
   exact SqL.of (s' _ _ ((za7.refl H) _ _ hfa.1))
  ·rintro j y σ' H' hy ⟨v,qs',rfl,e',hqs,hl',s'⟩
   rw [ZA0] at hy
   cases hq:fs[j]? with
   | none=>rw [hq] at hy;cases hy
   | some q=>
    rw [hq] at hy
    cases hy
    obtain ⟨r,hr',hqr⟩:=paired_get hfa.2 hq
    have hj:j<F.length:=(ZAv.mp hr').1
    obtain ⟨a1,b1,l1,m1,er,_⟩:=hok.f r (ZA1 hr')
    subst er
    have hqr':=s' _ _ ((za7.refl H) _ _ hqr)
    have et:F.take (j+1)=F.take j++[[a1,b1,l1,m1]]:=by rw [ZBu,hr'];rfl
    refine ⟨_,rfl,rdT hqr' rfl ⟨_,rfl,rdT (s' _ _ ((za7.refl H) _ _ hq0)) rfl ⟨rfl,_,rfl,?_⟩⟩⟩
    rw [zzz]
    have hfl:([[a1,b1,l1,m1]]:List (List Int)).filter (fun r=>decide (r[1]?=some (x0.b:Int)))=if b1=(x0.b:Int) then [[a1,b1,l1,m1]] else []:=by
     by_cases c:b1=(x0.b:Int)
     ·rw [if_pos c,List.filter_cons_of_pos (by show decide (some b1=some (x0.b:Int))=true;rw [c];exact ZB8 rfl)];rfl
     ·rw [if_neg c,List.filter_cons_of_neg (by show ¬decide (some b1=some (x0.b:Int))=true;rw [ZBy,ZBz];exact c)];rfl
    by_cases c:b1=(x0.b:Int)
    ·refine zf9 c ⟨_,rfl,_,e',?_,_,qs'++[q],rfl,?_,?_,?_,fun b o e=>?_⟩
     ·rw [ZAu];have:=hok.fl;exact zao (by lia)
     ·rw [zaa,ZA9];rfl
     ·rw [et,List.filter_append,hfl,if_pos c]
      have kp:∀b (z:List Int),H' b=some (.tup (z.map V.int))->upd H' DA (.lst (qs'.map V.ref++[.ref q])) b=some (.tup (z.map V.int)):=fun b z e=>by
       rw [zai (zba e e' nofun)]
       exact e
      exact zas (zaj hqs kp) (.cons (kp _ _ hqr') .nil)
     ·rw [ZA3];show qs'.length+1<=j+1;lia
     ·rw [zai (zac e hDA)];exact s' _ _ e
    ·refine zd6 c ⟨_,qs',rfl,e',?_,by lia,s'⟩
     rw [et,List.filter_append,hfl,if_neg c,List.append_nil]
     exact hqs
  rintro σ' HA ⟨vA,qsA,rfl,eA,hqsA,hlA,sA⟩
  refine cA _ _ ?_
  clear cA NA
  have hallA:F.take (fs.map V.ref).length=F:=by rw [ZAu,Paired.length hfa.2];exact ZBi
  rw [hallA] at hqsA
  have pickA:∀f,zak F x0.b=some f->∃q t,qsA=q::t/\HA q=some (.tup [.int (f.1:Int),.int (x0.b:Int),.int f.2.1,.int f.2.2]):=fun f hf=>by
   obtain ⟨t,et⟩:=zjj hok hf
   rw [et] at hqsA
   cases hqsA with
   | cons h t'=>exact ⟨_,_,rfl,h⟩
  have hq0A:=sA _ _ hq0
  have nilA:zak F x0.b=none->qsA=[]:=fun hf=>by
   rw [zlp hok hf] at hqsA
   cases hqsA
   rfl
  refine fun N c=>?_
  suffices tl:(wd=.late->fol (zak F) wd (x0::xr)=none)->∀H2,za7 HA H2->N [some (.ref wp),some (.str (zb4 wd)),some (.ref ul),some (.ref q0),some (.ref DA),none,none] H2 by
   by_cases w1:wd=.late
   case neg=>exact ⟨_,rfl,rfl,_,rfl,zdj (zgs (v:=.late) w1) (zef (tl (fun z=>absurd z w1) _ (za7.refl _)))⟩
   subst w1
   obtain rfl:=one rfl
   have tl:=fun h=>tl fun _=>zsw h
   refine ⟨_,rfl,rfl,_,rfl,zbx (by decide+kernel) ⟨_,rfl,rdT hq0A rfl ⟨rfl,_,rfl,?_⟩⟩⟩
   by_cases ht:x0.tie=true
   case neg=>rw [ziv (ZAk.mpr ht)];exact zdj (by decide+kernel) (zef (tl (fun z=>ht z.1) _ (za7.refl _)))
   rw [zhf ht]
   refine zbx (by decide+kernel) ⟨_,rfl,ZBa _,fun E0 hE0=>⟨DA,E0,_,rfl,rfl,SqL.of (zab hE0 _ _ eA),SqL.of zaa,_,rfl,?_⟩⟩
   have sE:=zab (o:=.lst []) hE0
   have h0:=sE _ _ hq0A
   cases hf:zak F x0.b with
   | none=>rw [nilA hf];exact zef (zef (tl (fun ⟨_,_,f,z⟩=>by rw [hf] at z;cases z) _ sE))
   | some f=>
    obtain ⟨q,t,rfl,hq⟩:=pickA f hf
    refine zhb ⟨_,rfl,rdT h0 rfl ⟨_,rfl,rdT h0 rfl ⟨rfl,_,rfl,?_⟩⟩⟩
    by_cases hne:x0.a=x0.b
    ·exact zdj (by rw [zia,ZB8 hne];rfl) (tl (fun z=>z.2.1 hne) _ sE)
    refine zbx (by rw [zia,ZB9 hne];rfl) ⟨_,rfl,rdT h0 rfl ⟨_,rfl,rdT h0 rfl ⟨_,rfl,rdL (sE _ _ eA) at0 (rdT (sE _ _ hq) rfl ⟨_,rfl,rdT h0 rfl ⟨_,_,rfl,rfl,szl rfl,fun r hr'=>?_⟩⟩)⟩⟩⟩
    refine k.2 ⟨false,x0.a,x0.b,f.2.2-x0.v⟩ ?_ r _ ((sA.trans sE).free hr') ((sA.trans sE).trans (zab hr')) zaa
    show MU.zbh _ _=_
    unfold MU.zbh
    rw [if_pos ⟨ht,hne⟩,hf];rfl
  intro n1 HA s2
  refine c _ _ ?_
  clear c N
  have hq0A:=s2 _ _ hq0A
  have eA:=s2 _ _ eA
  have pickA:∀f,zak F x0.b=some f->∃q t,qsA=q::t/\HA q=some (.tup [.int (f.1:Int),.int (x0.b:Int),.int f.2.1,.int f.2.2]):=fun f hf=>by
   obtain ⟨q,t,e,hq⟩:=pickA f hf
   exact ⟨q,t,e,s2 _ _ hq⟩
  have sA:=sA.trans s2
  clear hqsA s2
  refine fun N c=>?_
  suffices tl:(wd=.sure->fol (zak F) wd (x0::xr)=none)->∀H2,za7 HA H2->N [some (.ref wp),some (.str (zb4 wd)),some (.ref ul),some (.ref q0),some (.ref DA),none,none] H2 by
   by_cases w1:wd=.sure
   case neg=>exact ⟨_,rfl,rfl,_,rfl,zdj (zgs (v:=.sure) w1) (zef (tl (fun z=>absurd z w1) _ (za7.refl _)))⟩
   subst w1
   obtain rfl:=one rfl
   refine ⟨_,rfl,rfl,_,rfl,zbx (by decide+kernel) ⟨_,rfl,rdT hq0A rfl ⟨rfl,_,rfl,?_⟩⟩⟩
   by_cases ht:x0.tie=false
   case neg=>rw [zhf (by cases h:x0.tie with | true=>rfl | false=>exact absurd h ht)];exact zdj (by decide+kernel) (tl (fun _=>zsu ht) _ (za7.refl _))
   rw [ziv ht]
   obtain ⟨f,hf⟩:=hx0 ht
   obtain ⟨q,t,rfl,hq⟩:=pickA f hf
   refine zbx (by decide+kernel) ⟨_,rfl,rdT hq0A rfl ⟨_,rfl,rdL eA at0 (rdT hq rfl ⟨_,rfl,rdT hq0A rfl ⟨_,rfl,rdL eA at0 (rdT hq rfl ⟨_,_,rfl,_,_,rfl,rfl,szl rfl,fun r hr'=>?_⟩)⟩⟩)⟩⟩
   refine k.2 ⟨true,x0.a,f.1,-min x0.v f.2.1⟩ ?_ r _ (sA.free hr') (sA.trans (zab hr')) (zaa.trans ?_)
   ·show MU.zbg _ _=_
    unfold MU.zbg
    rw [if_pos ht,hf];rfl
   ·show some (HO.tup [V.str "tie",.int (x0.a:Int),.int (f.1:Int),.int (0-(if f.2.1<x0.v then f.2.1 else x0.v))])=some (HO.tup [V.str "tie",.int (x0.a:Int),.int (f.1:Int),.int (-min x0.v f.2.1)])
    rw [zyt,Int.zero_sub]
  intro n2 HA s2
  refine c _ _ ?_
  clear c N
  have hq0A:=s2 _ _ hq0A
  have eA:=s2 _ _ eA
  have pickA:∀f,zak F x0.b=some f->∃q t,qsA=q::t/\HA q=some (.tup [.int (f.1:Int),.int (x0.b:Int),.int f.2.1,.int f.2.2]):=fun f hf=>by
   obtain ⟨q,t,e,hq⟩:=pickA f hf
   exact ⟨q,t,e,s2 _ _ hq⟩
  have sA:=sA.trans s2
  clear s2
  refine fun NB cB=>⟨_,rfl,rdT (sA _ _ D0.tup) rfl ⟨fa,rfl,⟨_,SqL.of (sA _ _ hfa.1)⟩,fun DB hDB=>?_⟩⟩
  refine zdc (K:=K) (a:=fa) (xs:=fs.map V.ref) (fun j σ' H'=>∃v qs',σ'=[v,some (.ref q0)]/\H' DB=some (.lst (qs'.map V.ref))/\Paired (fun q r=>H' q=some (.tup (r.map V.int))) qs' ((F.take j).filter fun r=>decide (r[1]?=some (x0.a:Int)))/\qs'.length<=j/\za7 HA H') ⟨none,[],rfl,zaa,.nil,ZAw _,zab hDB⟩ ?_ ?_ ?_
  ·rintro j σ' H' _ ⟨v,qs',rfl,_,_,_,s'⟩
   exact SqL.of (s' _ _ (sA _ _ hfa.1))
  ·rintro j y σ' H' hy ⟨v,qs',rfl,e',hqs,hl',s'⟩
   rw [ZA0] at hy
   cases hq:fs[j]? with
   | none=>rw [hq] at hy;cases hy
   | some q=>
    rw [hq] at hy
    cases hy
    obtain ⟨r,hr',hqr⟩:=paired_get hfa.2 hq
    have hj:j<F.length:=(ZAv.mp hr').1
    obtain ⟨a1,b1,l1,m1,er,_⟩:=hok.f r (ZA1 hr')
    subst er
    have hqr':=s' _ _ (sA _ _ hqr)
    have et:F.take (j+1)=F.take j++[[a1,b1,l1,m1]]:=by rw [ZBu,hr'];rfl
    refine ⟨_,rfl,rdT hqr' rfl ⟨_,rfl,rdT (s' _ _ (sA _ _ hq0)) rfl ⟨rfl,_,rfl,?_⟩⟩⟩
    rw [zzz]
    have hfl:([[a1,b1,l1,m1]]:List (List Int)).filter (fun r=>decide (r[1]?=some (x0.a:Int)))=if b1=(x0.a:Int) then [[a1,b1,l1,m1]] else []:=by
     by_cases c:b1=(x0.a:Int)
     ·rw [if_pos c,List.filter_cons_of_pos (by show decide (some b1=some (x0.a:Int))=true;rw [c];exact ZB8 rfl)];rfl
     ·rw [if_neg c,List.filter_cons_of_neg (by show ¬decide (some b1=some (x0.a:Int))=true;rw [ZBy,ZBz];exact c)];rfl
    by_cases c:b1=(x0.a:Int)
    ·refine zf9 c ⟨_,rfl,_,e',?_,_,qs'++[q],rfl,?_,?_,?_,fun b o e=>?_⟩
     ·rw [ZAu];have:=hok.fl;exact zao (by lia)
     ·rw [zaa,ZA9];rfl
     ·rw [et,List.filter_append,hfl,if_pos c]
      have kp:∀b (z:List Int),H' b=some (.tup (z.map V.int))->upd H' DB (.lst (qs'.map V.ref++[.ref q])) b=some (.tup (z.map V.int)):=fun b z e=>by
       rw [zai (zba e e' nofun)]
       exact e
      exact zas (zaj hqs kp) (.cons (kp _ _ hqr') .nil)
     ·rw [ZA3];show qs'.length+1<=j+1;lia
     ·rw [zai (zac e hDB)];exact s' _ _ e
    ·refine zd6 c ⟨_,qs',rfl,e',?_,by lia,s'⟩
     rw [et,List.filter_append,hfl,if_neg c,List.append_nil]
     exact hqs
  rintro σ' HB ⟨vB,qsB,rfl,eB,hqsB,hlB,sB⟩
  refine cB _ _ ?_
  clear cB NB
  have hallB:F.take (fs.map V.ref).length=F:=by rw [ZAu,Paired.length hfa.2];exact ZBi
  rw [hallB] at hqsB
  have pickB:∀f,zak F x0.a=some f->∃q t,qsB=q::t/\HB q=some (.tup [.int (f.1:Int),.int (x0.a:Int),.int f.2.1,.int f.2.2]):=fun f hf=>by
   obtain ⟨t,et⟩:=zjj hok hf
   rw [et] at hqsB
   cases hqsB with
   | cons h t'=>exact ⟨_,_,rfl,h⟩
  have sAB:=sA.trans sB
  have eAB:=sB _ _ eA
  have hq0B:=sB _ _ hq0A
  have nilB:zak F x0.a=none->qsB=[]:=fun hf=>by
   rw [zlp hok hf] at hqsB
   cases hqsB
   rfl
  have pickA:∀f,zak F x0.b=some f->∃q t,qsA=q::t/\HB q=some (.tup [.int (f.1:Int),.int (x0.b:Int),.int f.2.1,.int f.2.2]):=fun f hf=>by
   obtain ⟨q,t,e,hq⟩:=pickA f hf
   exact ⟨q,t,e,sB _ _ hq⟩
  clear hqsB
  refine fun N c=>?_
  suffices tl:(wd=.soon->fol (zak F) wd (x0::xr)=none)->∀H2,za7 HB H2->N [some (.ref wp),some (.str (zb4 wd)),some (.ref ul),some (.ref q0),some (.ref DA),some (.ref DB),none] H2 by
   by_cases w1:wd=.soon
   case neg=>exact ⟨_,rfl,rfl,_,rfl,zdj (zgs (v:=.soon) w1) (zef (tl (fun z=>absurd z w1) _ (za7.refl _)))⟩
   subst w1
   obtain rfl:=one rfl
   have tl:=fun h=>tl fun _=>zsv h
   refine ⟨_,rfl,rfl,_,rfl,zbx (by decide+kernel) ⟨_,rfl,rdT hq0B rfl ⟨rfl,_,rfl,?_⟩⟩⟩
   by_cases ht:x0.tie=true
   case neg=>rw [ziv (ZAk.mpr ht)];exact zdj (by decide+kernel) (zef (tl (fun z=>ht z.1) _ (za7.refl _)))
   rw [zhf ht]
   refine zbx (by decide+kernel) ⟨_,rfl,ZBa _,fun E0 hE0=>⟨DB,E0,_,rfl,rfl,SqL.of (zab hE0 _ _ eB),SqL.of zaa,_,rfl,?_⟩⟩
   have sE:=zab (o:=.lst []) hE0
   have h0:=sE _ _ hq0B
   cases hf:zak F x0.a with
   | none=>rw [nilB hf];exact zef (zef (tl (fun ⟨_,_,_,f,z⟩=>by rw [hf] at z;cases z) _ sE))
   | some f=>
    obtain ⟨q,t,rfl,hq⟩:=pickB f hf
    refine zhb ⟨_,rfl,rdT h0 rfl ⟨_,_,rfl,rfl,_,rfl,?_⟩⟩
    by_cases hv:x0.v<0
    case neg=>exact zd6 hv (zef (tl (fun z=>hv z.2.2.1) _ sE))
    refine zf9 hv ⟨_,rfl,rdT h0 rfl ⟨_,rfl,rdT h0 rfl ⟨rfl,_,rfl,?_⟩⟩⟩
    by_cases hne:x0.a=x0.b
    ·exact zdj (by rw [zia,ZB8 hne];rfl) (tl (fun z=>z.2.1 hne) _ sE)
    refine zbx (by rw [zia,ZB9 hne];rfl) ⟨_,rfl,rdL (sE _ _ eB) at0 (rdT (sE _ _ hq) rfl ⟨_,rfl,rdT h0 rfl ⟨_,rfl,rdL (sE _ _ eB) at0 (rdT (sE _ _ hq) rfl ⟨_,rfl,rdT h0 rfl ⟨_,_,rfl,rfl,szl rfl,fun r hr'=>?_⟩⟩)⟩⟩)⟩
    refine k.2 ⟨true,f.1,x0.b,f.2.1+x0.v⟩ ?_ r _ ((sAB.trans sE).free hr') ((sAB.trans sE).trans (zab hr')) zaa
    show MU.zbl _ _=_
    unfold MU.zbl
    rw [if_pos ⟨ht,hne,hv⟩,hf];rfl
  intro n3 HB s2
  refine c _ _ ?_
  clear c N
  have hq0B:=s2 _ _ hq0B
  have eAB:=s2 _ _ eAB
  have eB:=s2 _ _ eB
  have pickA:∀f,zak F x0.b=some f->∃q t,qsA=q::t/\HB q=some (.tup [.int (f.1:Int),.int (x0.b:Int),.int f.2.1,.int f.2.2]):=fun f hf=>by
   obtain ⟨q,t,e,hq⟩:=pickA f hf
   exact ⟨q,t,e,s2 _ _ hq⟩
  have pickB:∀f,zak F x0.a=some f->∃q t,qsB=q::t/\HB q=some (.tup [.int (f.1:Int),.int (x0.a:Int),.int f.2.1,.int f.2.2]):=fun f hf=>by
   obtain ⟨q,t,e,hq⟩:=pickB f hf
   exact ⟨q,t,e,s2 _ _ hq⟩
  have sAB:=sAB.trans s2
  clear s2 sB
  refine fun N c=>?_
  suffices tl:(wd=.cross->fol (zak F) wd (x0::xr)=none)->∀H2,za7 HB H2->N [some (.ref wp),some (.str (zb4 wd)),some (.ref ul),some (.ref q0),some (.ref DA),some (.ref DB),none] H2 by
   by_cases w1:wd=.cross
   case neg=>exact ⟨_,rfl,rfl,_,rfl,zdj (zgs (v:=.cross) w1) (zef (tl (fun z=>absurd z w1) _ (za7.refl _)))⟩
   subst w1
   obtain rfl:=one rfl
   have tl:=fun h=>tl fun _=>zqt h
   refine ⟨_,rfl,rfl,_,rfl,zbx (by decide+kernel) ⟨_,rfl,rdT hq0B rfl ⟨rfl,_,rfl,?_⟩⟩⟩
   by_cases ht:x0.tie=false
   case neg=>rw [zhf (by cases h:x0.tie with | true=>rfl | false=>exact absurd h ht)];exact zdj (by decide+kernel) (zef (tl (fun z=>ht z.1) _ (za7.refl _)))
   rw [ziv ht]
   refine zbx (by decide+kernel) ⟨_,rfl,ZBa _,fun E0 hE0=>⟨DB,E0,_,rfl,rfl,SqL.of (zab hE0 _ _ eB),SqL.of zaa,_,rfl,?_⟩⟩
   have sE:=zab (o:=.lst []) hE0
   have h0:=sE _ _ hq0B
   cases hg:zak F x0.a with
   | none=>rw [nilB hg];exact zef (zef (tl (fun ⟨_,_,_,f,z⟩=>by rw [hg] at z;cases z) _ sE))
   | some g=>
    obtain ⟨f,hf⟩:=hx0 ht
    obtain ⟨q,t,rfl,hq⟩:=pickB g hg
    obtain ⟨q',t',rfl,hq'⟩:=pickA f hf
    refine zhb ⟨_,rfl,rdT h0 rfl ⟨_,_,rfl,rfl,_,rfl,?_⟩⟩
    by_cases hv:0<x0.v
    case neg=>exact zd6 hv (zef (tl (fun z=>hv z.2.2.1) _ sE))
    refine zf9 hv ⟨_,rfl,rdT h0 rfl ⟨_,rfl,rdT h0 rfl ⟨rfl,_,rfl,?_⟩⟩⟩
    by_cases hne:x0.a=x0.b
    ·exact zdj (by rw [zia,ZB8 hne];rfl) (tl (fun z=>z.2.1 hne) _ sE)
    refine zbx (by rw [zia,ZB9 hne];rfl) ⟨_,rfl,rdL (sE _ _ eB) at0 (rdT (sE _ _ hq) rfl ⟨_,rfl,rdT h0 rfl ⟨_,rfl,rdT h0 rfl ⟨_,rfl,rdL (sE _ _ eAB) at0 (rdT (sE _ _ hq') rfl ⟨_,_,rfl,_,rfl,rdL (sE _ _ eB) at0 (rdT (sE _ _ hq) rfl ⟨_,_,rfl,rfl,szl rfl,fun r hr'=>?_⟩)⟩)⟩⟩⟩)⟩
    refine k.2 ⟨false,g.1,x0.b,min x0.v f.2.2-g.2.1⟩ ?_ r _ ((sAB.trans sE).free hr') ((sAB.trans sE).trans (zab hr')) (zaa.trans ?_)
    ·show MU.zav _ _=_
     unfold MU.zav
     rw [if_pos ⟨ht,hne,hv⟩,hg,hf];rfl
    ·show some (HO.tup [V.str "wait",.int (g.1:Int),.int (x0.b:Int),.int ((if f.2.2<x0.v then f.2.2 else x0.v)-g.2.1)])=some (HO.tup [V.str "wait",.int (g.1:Int),.int (x0.b:Int),.int (min x0.v f.2.2-g.2.1)])
     rw [zyt]
  intro n4 HB s2
  refine c _ _ ?_
  clear c N
  have hq0B:=s2 _ _ hq0B
  have eAB:=s2 _ _ eAB
  have pickA:∀f,zak F x0.b=some f->∃q t,qsA=q::t/\HB q=some (.tup [.int (f.1:Int),.int (x0.b:Int),.int f.2.1,.int f.2.2]):=fun f hf=>by
   obtain ⟨q,t,e,hq⟩:=pickA f hf
   exact ⟨q,t,e,s2 _ _ hq⟩
  have sAB:=sAB.trans s2
  clear eB pickB nilB s2
  have hulB:=sAB _ _ hul
  refine fun N c=>⟨_,rfl,ul,_,rfl,.inl (SqL.of hulB),_,_,rfl,rfl,_,rfl,?_⟩
  rw [ZAu]
  by_cases m2:mn wd=2
  case neg=>
   have m1:mn wd=1:=by cases wd<;>first | rfl | exact absurd rfl m2
   obtain rfl:=one m1
   cases hqr
   refine zf9 (by show ((1:Nat):Int)<2;lia) (k.1 ?_ _ sAB)
   cases wd with
   | told=>rfl
   | late=>exact n1 rfl
   | sure=>exact n2 rfl
   | soon=>exact n3 rfl
   | cross=>exact n4 rfl
   | sum=>exact absurd rfl m2
   | back=>exact absurd rfl m2
  obtain ⟨z,rfl⟩:∃z,xr=[z]:=by
   rw [ZBp,m2] at hml
   match xr,hml with
   | [z],_=>exact ⟨z,rfl⟩
  obtain ⟨q1,rfl,hq1⟩:∃q1,qr=[q1]/\za4 H q1 z:=by
   cases hqr with
   | cons h t=>cases t;exact ⟨_,rfl,h⟩
  have hq1:H q1=some (.tup [.str (zc4 z.tie),.int (z.a:Int),.int (z.b:Int),.int z.v]):=hq1
  have hq1B:=sAB _ _ hq1
  have ws:wd=.sum\/wd=.back:=by cases wd<;>first | exact .inl rfl | exact .inr rfl | exact absurd m2 (by decide)
  refine zd6 (by show ¬((2:Nat):Int)<2;lia) ⟨_,rfl,rdL hulB at1 (rdT hq1B rfl ⟨rfl,_,rfl,?_⟩)⟩
  by_cases zt:z.tie=true
  case neg=>
   rw [ziv (ZAk.mpr zt)]
   refine zbx (by decide+kernel) (k.1 ?_ _ sAB)
   rcases ws with rfl | rfl
   ·exact zqs fun e=>zt e.2.1
   ·exact zns fun e=>zt e.2.1
  rw [zhf zt] at hq1B ⊢
  refine zdj (by decide+kernel) (c _ _ ?_)
  clear c N
  refine fun N c=>⟨_,rfl,rdL hulB at1 (c _ _ ?_)⟩
  clear c N
  refine fun N c=>?_
  suffices tl:(wd=.sum->fol (zak F) wd [x0,z]=none)->N [some (.ref wp),some (.str (zb4 wd)),some (.ref ul),some (.ref q0),some (.ref DA),some (.ref DB),some (.ref q1)] HB by
   by_cases w1:wd=.sum
   case neg=>exact ⟨_,rfl,rfl,_,rfl,zdj (zgs (v:=.sum) w1) (zef (tl fun z=>absurd z w1))⟩
   subst w1
   have tl:=fun h=>tl fun _=>zqs h
   refine ⟨_,rfl,rfl,_,rfl,zbx (by decide+kernel) ⟨_,rfl,rdT hq0B rfl ⟨rfl,_,rfl,?_⟩⟩⟩
   by_cases ht:x0.tie=true
   case neg=>rw [ziv (ZAk.mpr ht)];exact zdj (by decide+kernel) (zef (tl fun z=>ht z.1))
   rw [zhf ht]
   refine zbx (by decide+kernel) ⟨_,rfl,rdT hq0B rfl ⟨_,rfl,rdT hq1B rfl ⟨rfl,_,rfl,?_⟩⟩⟩
   by_cases hxz:x0.b=z.a
   case neg=>exact zdj (by rw [zia,ZB9 hxz]) (tl fun z=>hxz z.2.2)
   refine zbx (by rw [zia,ZB8 hxz]) ⟨_,rfl,rdT hq0B rfl ⟨_,rfl,rdT hq1B rfl ⟨_,rfl,rdT hq0B rfl ⟨_,rfl,rdT hq1B rfl ⟨_,_,rfl,rfl,szl rfl,fun r hr'=>?_⟩⟩⟩⟩⟩
   refine k.2 ⟨true,x0.a,z.b,x0.v+z.v⟩ ?_ r _ (sAB.free hr') (sAB.trans (zab hr')) zaa
   show MU.za1 _ _=_
   unfold MU.za1
   rw [if_pos ⟨ht,zt,hxz⟩]
  intro n5
  refine c _ _ ?_
  clear c N
  refine fun N c=>?_
  suffices tl:fol (zak F) wd [x0,z]=none->N [some (.ref wp),some (.str (zb4 wd)),some (.ref ul),some (.ref q0),some (.ref DA),some (.ref DB),some (.ref q1)] HB by
   by_cases w1:wd=.back
   case neg=>exact ⟨_,rfl,rfl,_,rfl,zdj (zgs (v:=.back) w1) (zef (tl (by rcases ws with e | e;exact n5 e;exact absurd e w1)))⟩
   subst w1
   have tl:=fun h=>tl (zns h)
   refine ⟨_,rfl,rfl,_,rfl,zbx (by decide+kernel) ⟨_,rfl,rdT hq0B rfl ⟨rfl,_,rfl,?_⟩⟩⟩
   by_cases ht:x0.tie=false
   case neg=>rw [zhf (by cases h:x0.tie with | true=>rfl | false=>exact absurd h ht)];exact zdj (by decide+kernel) (zef (tl fun z=>ht z.1))
   rw [ziv ht]
   refine zbx (by decide+kernel) ⟨_,rfl,rdT hq1B rfl ⟨_,rfl,rdT hq0B rfl ⟨rfl,_,rfl,?_⟩⟩⟩
   by_cases hzb:z.b=x0.a
   case neg=>exact zdj (by rw [zia,ZB9 hzb]) (zef (tl fun z=>hzb z.2.2.1))
   refine zbx (by rw [zia,ZB8 hzb]) ⟨_,rfl,rdT hq1B rfl ⟨_,rfl,rdT hq0B rfl ⟨rfl,_,rfl,?_⟩⟩⟩
   by_cases hza:z.a=x0.b
   ·exact zdj (by rw [zia,ZB8 hza];rfl) (tl fun z=>z.2.2.2 hza)
   obtain ⟨f,hf⟩:=hx0 ht
   obtain ⟨q,t,rfl,hq⟩:=pickA f hf
   refine zbx (by rw [zia,ZB9 hza];rfl) ⟨_,rfl,rdT hq1B rfl ⟨_,rfl,rdT hq0B rfl ⟨_,rfl,rdT hq0B rfl ⟨_,rfl,rdL eAB at0 (rdT hq rfl ⟨_,_,rfl,_,rfl,rdT hq1B rfl ⟨_,_,rfl,rfl,szl rfl,fun r hr'=>?_⟩⟩)⟩⟩⟩⟩
   refine k.2 ⟨false,z.a,x0.b,min x0.v f.2.2-z.v⟩ ?_ r _ (sAB.free hr') (sAB.trans (zab hr')) (zaa.trans ?_)
   ·show MU.zau _ _ _=_
    unfold MU.zau
    rw [if_pos ⟨ht,zt,hzb,hza⟩,hf];rfl
   ·show some (HO.tup [V.str "wait",.int (z.a:Int),.int (x0.b:Int),.int ((if f.2.2<x0.v then f.2.2 else x0.v)-z.v)])=some (HO.tup [V.str "wait",.int (z.a:Int),.int (x0.b:Int),.int (min x0.v f.2.2-z.v)])
    rw [zyt]
  intro n6
  exact c _ _ (k.1 n6 _ sAB)
end Y0
namespace L2
open PySem PySem.Spec PyProof.Rows
section
variable {X:Cx}
theorem zkb {K:ZCa} (h:X.K=K):OpR X (binaryOp .Add) (zwr K):=by subst h;exact zu6
def zwq:R2:=fun x y H Q=>∃(p q:Addr) (xs:List V),x=.ref p/\y=.ref q/\H p=some (.lst xs)/\H q=some (.lst [])/\Q (.bl xs.isEmpty) H
theorem zsf (hu:X.A.units+64<cLine):OpR X (compareOp .Eq) zwq:=by
 intro pins s σ H x y v u Q I rx ry h
 obtain ⟨p,q,xs,rfl,rfl,h1,h2,hq⟩:=h
 cases rx
 cases ry
 obtain ⟨us,r1,p1,_⟩:=I.list (SqL.of h1)
 obtain ⟨vs,r2,p2,_⟩:=I.list (SqL.of h2)
 have l1:=r1.length
 have l2:=r2.length
 have v0:vs=[]:=ZAi.mp l2.symm
 subst v0
 cases xs with
 | nil=>
  have u0:us=[]:=ZAi.mp l1.symm
  subst u0
  exact SeqAt.eq_listAt (e:=fun _=>true) p1.isList p2.isList rfl (by omega) (fun j h1 _=>absurd h1 (ZB6 _)) ⟨.bl _,H,I,rfl,hq⟩
 | cons a t=>
  refine SeqAt.eq_list_lengthsAt p1.isList p2.isList ?_ (by omega) ⟨.bl _,H,I,rfl,hq⟩
  rw [ZA2,<-l1]
  rfl
end
end L2
namespace Y0
open PySem L2
seal L2.PE L2.PA L2.PT L2.PS L2.PSs L2.PG L2.PGs L2.PI L2.PO
abbrev zva:List (Key×V):=zgi [] [(Sum.inr "sum",V.int 2),(Sum.inr "back",V.int 2)]
theorem zu9 {wd:MU.Wd}:(zfk zva (Sum.inr (zb4 wd))).getD (V.int 1)=V.int (mn wd:Int):=by
 cases wd<;>with_unfolding_all rfl
def zto:Sp:=fun vs H Q _=>∃(wp ta fa rl:Addr) (n la:Int) (T F:List (List Int)) (qs:List Addr) (p:List MU.Row),vs=[.ref wp,.ref rl]/\zdl H wp ta fa n la T F/\zc0 n la T F/\H rl=some (.lst (qs.map V.ref))/\Paired (zc5 H) qs p/\
 (∀r∈p,r.used.length<=2)/\p.length<=16500000/\∀H',za7 H H'->∀b,(b=true↔IsP (zak F) (zek n la T F) p)->Q (.bl b) H'
abbrev nLi:List Str:=["_law_w","_law_rows","_law_told","_law_at","_law_said","_law_word","_law_used","_law_many","_law_last"]
theorem ztt:zan nLi ["_law_w","_law_rows"] (zag sL_is_paper):=scm
theorem zy9:zbw (zag sL_is_paper) nLi (fsc [(".0",.local),("_law_bound",.local)]) ["_law_bound"] [none]:=com
theorem zy8:zbw (zag sL_is_paper) nLi (fsc [(".0",.local),("_law_row",.local),("_law_at",.free)]) ["_law_row","_law_at"] [none,some 3]:=com
theorem zy7:zbw (zag sL_is_paper) nLi (fsc [(".0",.local),("_law_row",.local),("_law_rows",.free)]) ["_law_row","_law_rows"] [none,some 1]:=com
theorem zyo:(["_law_bound"]:List Str).Nodup:=by decide+kernel
theorem zyn:(["_law_row","_law_at"]:List Str).Nodup:=by decide+kernel
theorem zym:(["_law_row","_law_rows"]:List Str).Nodup:=by decide+kernel
theorem ok_lisP {f fB fF:Addr} {fd fdB fdF:FuncData} (Fn0:Fn K mg "_law_is_paper" sL_is_paper ["_law_w","_law_rows"] f fd) (hrange:mg "range"=none) (hlen:mg "len"=none)
 (FB:Fn K mg "_law_bounds" sL_bounds ["_law_w"] fB fdB) (GB:zbb P w K mg base CX0 1 fB fdB ["_law_w"] zh3)
 (FF:Fn K mg "_law_follows" sL_follows ["_law_w","_law_word","_law_used"] fF fdF) (GF:zbb P w K mg base CX0 1 fF fdF ["_law_w","_law_word","_law_used"] zpa):zbb P w K mg base CX0 2 f fd ["_law_w","_law_rows"] zto:=by
 refine Fn0.F.ok ztt (fun _ _ _ _ h=>?_) fun _ A _ s H _ Q E hr h=>?_
 ·obtain ⟨_,_,_,_,_,_,_,_,_,_,rfl,_⟩:=h
  rfl
 ·obtain ⟨wp,ta,fa,rl,n,la,T,F,qs,p,rfl,D0,hok,hrl,hrows,hp,few,k⟩:=h
  have hu:=zfh hr
  refine ⟨_,zaf (zgw (i:=2) ztt.nd rfl rfl rfl (zbt (pcl GB hr FB (pa1 (pv 0)))) zy9 (fun cl ex s0 H0=>⟨zcw 0 zyo,zb9,za2 (zkb (K:=K) rfl) (zaw (pa1 zam)) (pv 0)⟩))
   (zaf (zc9 PassesOwn.never rfl (zcv (by rfl) hrange (pa1 (zay za9 (by rfl) hlen ZAn (pa1 (pv 1))))) (zpx (i:=3) ztt.nd rfl (Or.inr rfl))
    (zaf (zps (zbm zal (pv 1) (pv 3) (fun _ _=>rfl)) (zpw (K:=K) (n:=3) rfl rfl (za0 (zcw 4 ztt.nd) (za0 (zcw 5 ztt.nd) (za0 (zcw 6 ztt.nd) zfb)))))
    (zad (zbe (zb8 zbd (pv 5) zam)
     (zad (zbe (PW.pt (zhd (zj4 (zp3 hr.units) (pv 4) (pv 2) (by with_unfolding_all rfl)) (zf1 (zb8 (zp4 hr.units) (pv 6) (zaw zdq))))) (zad (zaq zj8)) zap))
     (zaf (za5 7 ztt.nd (zsd hu (zp0 (zj7 zam zae (zj7 zam zae zpt)) rfl rfl (by simp) (by simp)) (pv 5) zae ⟨by rfl,by rfl,by rfl,by rfl⟩))
     (zaf (zbe (PW.pt (zhd (zb8 zka (zay za9 (by rfl) hlen ZAn (pa1 (pv 6))) (pv 7)) (zf1 (zb8 (zww hr.units) (zcs rfl (zg8 (pv 6)) zy8 (fun cl ex s0 H0=>⟨zcw 0 zyn,zf5 (zge (zj5 zfy zhe zae (pv 0) (pv 1))),pv 0⟩)) (zcq zdq))))) (zad (zaq zj8)) zap)
     (zad (zbe (zb8 (zwv hr.units) (pcl GF hr FF (pa3 (pv 0) (pv 5) (zcs rfl (zg8 (pv 6)) zy7 (fun cl ex s0 H0=>⟨zcw 0 zym,zb9,ixT (zbm zal (pv 1) (pv 0) (fun _ _=>rfl))⟩)))) (pv 4)) (zad (zaq zj8)) zap))))))))
   (zaf (zbe (zb8 (zsf hr.units) (pv 1) (zcq zdq)) (zad (zaq zj8)) zap)
   (zaf (za5 8 ztt.nd (ixT (zbm zal (pv 1) (za2 zcc (zay za9 (by rfl) hlen ZAn (pa1 (pv 1))) zae) (fun _ _=>rfl))))
   (zad (zaq (zfd (zl3 zbd (ixT (pv 8)) zam) (zfd (zl3 zbd (ixT (pv 8)) (ixT (pv 8))) (zjd (zl3 zhe (ixT (pv 8)) zae))))))))),?_⟩
  have hql:qs.length=p.length:=Paired.length hrows
  refine fun N1 c1=>⟨_,rfl,wp,ta,fa,n,la,T,F,rfl,D0,hok,fun bl H1 hbl s1 R1=>?_⟩
  obtain ⟨bs,hbs⟩:=R1
  refine ⟨bl,rfl,⟨_,SqL.of hbs.1⟩,fun tl htl=>?_⟩
  have hbn:(zek n la T F).length<=100:=by
   unfold zek
   rw [ZA3,ZA3,zcu,zcl hok.fourT,zcl hok.fourF]
   have:=hok.tl
   have:=hok.fl
   have:=hok.n2
   lia
  have hbl2:bs.length=(zek n la T F).length:=Paired.length hbs.2
  refine zdc (K:=K) (a:=bl) (xs:=bs.map V.ref) (fun j σ' H'=>∃v ts,σ'=[v]/\H' tl=some (.lst (ts.map V.ref))/\Paired (fun q (r:List Int)=>H' q=some (.tup (V.str "tie"::r.map V.int))) ts ((zek n la T F).take j)/\ts.length=j/\za7 H1 H') ⟨none,[],rfl,zaa,.nil,rfl,zab htl⟩ ?_ ?_ ?_
  ·rintro j σ' H2 _ ⟨v,ts,rfl,_,_,_,s2⟩
   exact SqL.of (s2 _ _ hbs.1)
  ·rintro j y σ' H2 hy ⟨v,ts,rfl,e2,hts,htl',s2⟩
   rw [ZA0] at hy
   cases hq:bs[j]? with
   | none=>rw [hq] at hy;cases hy
   | some q=>
    rw [hq] at hy
    cases hy
    obtain ⟨r,hr',hqr⟩:=paired_get hbs.2 hq
    have hj:j<(zek n la T F).length:=(ZAv.mp hr').1
    have et:(zek n la T F).take (j+1)=(zek n la T F).take j++[r]:=by rw [ZBu,hr'];rfl
    obtain ⟨a1,b1,v1,er,_⟩:=hok.idxN r (ZA1 hr')
    subst er
    refine ⟨szl rfl,fun t1 ht1=>⟨_,rfl,t1,q,_,_,rfl,rfl,SqT.of zaa,SqT.of (zab ht1 _ _ (s2 _ _ hqr)),nofun,szl rfl,nofun,fun _ t2 ht2=>?_⟩⟩
    have s3:=zab (o:=.tup [V.str "tie"]) ht1
    have s4:=zab (o:=.tup ([V.str "tie"]++[a1,b1,v1].map V.int)) ht2
    have s34:=s3.trans s4
    have e4:=s34 _ _ e2
    refine ⟨_,e4,?_,_,ts++[t2],rfl,?_,?_,?_,fun b o e=>?_⟩
    ·rw [ZAu];exact zao (by lia)
    ·rw [zaa,ZA9];rfl
    ·rw [et]
     have kp:∀b (z:List Int),upd (upd H2 t1 (.tup [V.str "tie"])) t2 (.tup ([V.str "tie"]++[a1,b1,v1].map V.int)) b=some (.tup (V.str "tie"::z.map V.int))->upd (upd (upd H2 t1 (.tup [V.str "tie"])) t2 (.tup ([V.str "tie"]++[a1,b1,v1].map V.int))) tl (.lst (ts.map V.ref++[.ref t2])) b=some (.tup (V.str "tie"::z.map V.int)):=fun b z e=>by
      rw [zai (zba e e4 nofun)]
      exact e
     exact zas (zaj hts fun b z e=>kp b z (s34 _ _ e)) (.cons (kp _ _ zaa) .nil)
    ·rw [ZA3,htl'];rfl
    ·rw [zai (zac e htl)];exact s34 _ _ (s2 _ _ e)
  rintro σ' H2 ⟨v,ts,rfl,e2,hts,_,s2⟩
  refine c1 _ _ ?_
  clear c1 N1
  rw [ZAu,hbl2,ZBi] at hts
  have s02:=s1.trans s2
  have hrl2:=s02 _ _ hrl
  refine fun N1 c1=>⟨_,rfl,rl,_,rfl,.inl (SqL.of hrl2),_,rfl,?_,?_,?_⟩
  ·rw [ZAu];lia
  ·rw [ZAu];lia
  refine zd7 (n:=(((qs.map V.ref).length:Nat):Int).toNat) (fun i σ' H'=>∃v3 v4 v5 v6 v7,σ'=[some (.ref wp),some (.ref rl),some (.ref tl),v3,v4,v5,v6,v7,none]/\za7 H2 H'/\∀j r,j<i->p[j]?=some r->zgq (zak F) (zek n la T F) p j r) ⟨none,none,none,none,none,rfl,za7.refl _,fun j _ hj=>absurd hj (ZB6 _)⟩ ?_ ?_
  ·rintro i σ' H3 hi ⟨v3,v4,v5,v6,v7,rfl,s3,ok3⟩
   rw [ZBx,ZAu] at hi
   have ei:(0:Int)+(i:Int)=(i:Int):=by lia
   rw [ei]
   have s03:=s02.trans s3
   obtain ⟨r,hr'⟩:∃r,p[i]?=some r:=⟨_,ZAx (by omega)⟩
   obtain ⟨q,pw,pu,hat,g1,g2,g3⟩:=zi7 hrows hr'
   have g1':=s03 _ _ g1
   have g2':H3 pw=some (.tup (zb6 r.what)):=s03 _ _ g2
   have g3':=s03 _ _ g3
   have few2:=hp r (ZA1 hr')
   have no:¬zgq (zak F) (zek n la T F) p i r->∀H',za7 H H'->Q (.bl false) H':=fun h H' s'=>k H' s' false ⟨nofun,fun z=>absurd (z.1 i r hr') h⟩
   have yes:zgq (zak F) (zek n la T F) p i r->∀j r',j<i+1->p[j]?=some r'->zgq (zak F) (zek n la T F) p j r':=fun h j r' hj e=>by
    by_cases c:j=i
    ·subst c
     rw [hr'] at e
     cases e
     exact h
    ·exact ok3 j r' (by lia) e
   refine fun N2 c2=>⟨_,rfl,zoo rfl (s03 _ _ hrl) hat ⟨q,_,rfl,SqT.of g1',rfl,_,_,rfl,_,_,rfl,_,_,rfl,rfl,c2 _ _ ?_⟩⟩
   clear c2 N2
   refine ⟨_,rfl,rfl,_,rfl,?_⟩
   by_cases hw:r.word=.told
   ·have ew:zb6 r.what=[V.str (zc4 r.what.tie)]++[(r.what.a:Int),(r.what.b:Int),r.what.v].map V.int:=rfl
    refine zbx (ziy hw) ⟨_,rfl,_,rfl,pw,_,tl,ts,rfl,rfl,g2',rfl,s3 _ _ e2,fun b hb=>?_,_,rfl,?_⟩
    ·obtain ⟨j,hj,eb⟩:=ZBs hb
     obtain ⟨row,hrow',hb2⟩:=paired_get hts (show ts[j]?=some b by rw [ZAx hj,eb])
     refine ⟨_,s3 _ _ hb2,?_⟩
     rw [List.all_cons,List.all_map]
     exact ZBw.mpr fun _ _=>rfl
    have hin:(ts.any fun b=>eqR H3 (zb6 r.what) (.ref b))=true↔InB (zek n la T F) r.what:=by
     by_cases ht:r.what.tie=true
     ·rw [ew,zhf ht]
      exact (zt6 (hd:=[V.str "tie"]) rfl (zaj hts fun q z e=>s3 _ _ e)).trans ⟨fun z=>⟨ht,z⟩,fun z=>z.2⟩
     ·refine ⟨fun z=>?_,fun z=>absurd z.1 ht⟩
      obtain ⟨b,hb,e⟩:=List.any_eq_true.mp z
      obtain ⟨j,hj,rfl⟩:=ZBs hb
      obtain ⟨row,hrow',hb2⟩:=paired_get hts (ZAx hj)
      have e:(match H3 ts[j] with | some (.tup ys)=>zeg ys (zb6 r.what) | _=>false)=true:=e
      rw [s3 _ _ hb2,ew,ziv (ZAk.mpr ht)] at e
      have e:=(zfi (show ((V.str "tie"::row.map V.int).all zfa)=true by rw [List.all_cons,zja];rfl) rfl).mp e
      injection e with e _
      injection e with e
      exact absurd e (by decide+kernel)
    by_cases hI:InB (zek n la T F) r.what
    case neg=>
     refine zbx (show (!(ts.any fun b=>_))=true by rw [Bool.not_eq_true'];exact ZAk.mpr fun z=>hI (hin.mp z)) (zhb ?_)
     exact no (fun z=>hI ((zfq hw).mp z).2) _ s03
    refine zdj (show (!(ts.any fun b=>_))=false by rw [hin.mpr hI];rfl) ?_
    refine ⟨_,rfl,ZBa _,fun E0 hE0=>⟨pu,E0,_,_,rfl,rfl,zab hE0 _ _ g3',zaa,?_,rfl,_,rfl,?_⟩⟩
    ·rw [List.all_map];exact ZBw.mpr fun _ _=>rfl
    have sE:=zab (o:=.tup []) hE0
    have hu0:zeg (r.used.map fun i:Nat=>V.int (i:Int)) []=true↔r.used=[]:=by
     rw [zfi (by rw [List.all_map];exact ZBw.mpr fun _ _=>rfl) rfl,List.map_eq_nil_iff]
    by_cases u0:r.used=[]
    case neg=>
     exact zbx (show (!zeg _ _)=true by rw [Bool.not_eq_true'];exact ZAk.mpr fun z=>u0 (hu0.mp z)) (no (fun z=>u0 ((zfq hw).mp z).1) _ (s03.trans sE))
    exact zdj (show (!zeg _ _)=false by rw [hu0.mpr u0];rfl) ⟨_,_,_,_,_,rfl,s3.trans sE,yes ((zfq hw).mpr ⟨u0,hI⟩)⟩
   ·refine zdj (zkw hw) ?_
    refine fun N2 c2 d hd=>⟨zaa,[(Sum.inr "sum",V.int 2),(Sum.inr "back",V.int 2)],rfl,by simp,d,rfl,.inl ⟨_,.inl zaa⟩,_,rfl,_,ze5.k (k:=Sum.inr (zb4 r.word)) zaa,c2 _ _ ?_⟩
    clear c2 N2
    rw [zl4,zu9]
    have s4:=zab (o:=.dK zva) hd
    have g1':=s4 _ _ g1'
    have g2':=s4 _ _ g2'
    have g3':=s4 _ _ g3'
    have s34:=s3.trans s4
    have s04:=s03.trans s4
    generalize upd H3 d (.dK zva)=H4 at*
    refine fun N2 c2=>⟨_,rfl,pu,_,rfl,.inr (SqT.of g3'),_,rfl,rfl,_,rfl,?_⟩
    rw [ZAu]
    by_cases hml:r.used.length=mn r.word
    case neg=>
     refine zbx (show (!decide (V.int _=V.int _))=true by rw [ZB9 fun z=>hml (by rw [V.int.injEq] at z;lia)];rfl) (zhb (no (fun z=>hml ?_) _ s04))
     have:=zvg ((zgd hw).mp z).2
     rwa [ZAu] at this
    refine zdj (by rw [hml,ZB8 rfl];rfl) ⟨_,rfl,pu,rfl,⟨_,SqT.of g3'⟩,fun Da hDa=>?_⟩
    refine zez (xs:=r.used.map fun i:Nat=>V.int (i:Int)) (fun j σ' H'=>∃v,σ'=[v,some (.int (i:Int))]/\H' Da=some (.lst ((((r.used.take j).filter fun z=> !decide (z<i)).map fun z:Nat=>(z:Int)).map V.int))/\za7 H4 H') ⟨none,rfl,zaa,zab hDa⟩ ?_ ?_ ?_
    ·rintro j σ' H5 _ ⟨v,rfl,_,s5⟩
     exact SqT.of (s5 _ _ g3')
    ·rintro j y σ' H5 hy ⟨v,rfl,e5,s5⟩
     rw [ZA0] at hy
     cases q2:r.used[j]? with
     | none=>rw [q2] at hy;cases hy
     | some z=>
      rw [q2] at hy
      cases hy
      have et:r.used.take (j+1)=r.used.take j++[z]:=by rw [ZBu,q2];rfl
      refine ⟨_,rfl,_,_,rfl,rfl,_,rfl,zf9 (by lia) ⟨_,rfl,_,_,rfl,rfl,_,rfl,?_⟩⟩
      by_cases hz:z<i
      ·refine zdj (show (!decide ((z:Int)<(i:Int)))=false by rw [ZB8 (by lia)];rfl) ⟨_,rfl,?_,s5⟩
       rw [et,List.filter_append,List.filter_cons_of_neg (by rw [ZB8 hz];exact ZA6),List.filter_nil,List.append_nil]
       exact e5
      ·refine zbx (show (!decide ((z:Int)<(i:Int)))=true by rw [ZB9 (by lia)];rfl) ⟨_,rfl,_,e5,?_,_,rfl,?_,fun b o e=>?_⟩
       ·rw [ZAu,ZAu]
        have:=List.length_filter_le (fun z=> !decide (z<i)) (r.used.take j)
        rw [ZBl] at this
        exact zao (by lia)
       ·rw [zaa,et,List.filter_append,List.filter_cons_of_pos (by rw [ZB9 hz];rfl),List.filter_nil,ZA9,ZA9]
        rfl
       ·rw [zai (zac e hDa)];exact s5 _ _ e
    rintro σ' H5 ⟨v,rfl,e5,s5⟩
    rw [ZAu,ZBi] at e5
    refine ⟨ZBa _,fun E0 hE0=>⟨Da,E0,_,[],rfl,rfl,SqL.of (zab hE0 _ _ e5),SqL.of zaa,_,rfl,?_⟩⟩
    have s6:=s5.trans (zab (o:=.lst []) hE0)
    by_cases hb:∀z∈r.used,z<i
    case neg=>
     have hne:((r.used.filter fun z=> !decide (z<i)).map fun z:Nat=>(z:Int))≠[]:=fun z=>hb fun x hx=>ZAz fun c=>
      List.filter_eq_nil_iff.mp (List.map_eq_nil_iff.mp z) x hx (by rw [ZB9 c];rfl)
     exact zbx (show (!decide _)=true by rw [ZB9 hne];rfl) (no (fun z=>hb (zh5 z)) _ (s04.trans s6))
    refine zdj (show (!decide _)=false by
     rw [ZB8];rfl
     rw [List.map_eq_nil_iff,List.filter_eq_nil_iff]
     exact fun x hx=>by rw [ZB8 (hb x hx)];exact ZA6) (c2 _ _ ?_)
    clear c2 N2
    have g1':=s6 _ _ g1'
    have g2':=s6 _ _ g2'
    have g3':=s6 _ _ g3'
    have s36:=s34.trans s6
    have s06:=s04.trans s6
    generalize upd H5 E0 (.lst [])=H6 at*
    have hpl:i<p.length:=by lia
    have hux:Paired (fun (z:Nat) (x:MU.zar)=>z<i/\∃ri,p[z]?=some ri/\ri.what=x) r.used (r.used.map (wh p)):=zfr fun z hz=>by
     have:=hb z hz
     have e:p[z]?=some p[z]:=ZAx (by lia)
     exact ⟨this,_,e,(zn0 e).symm⟩
    have ends:∀x∈r.used.map (wh p),zis (zak F) x:=fun x hx=>by
     obtain ⟨z,hz,rfl⟩:=ZBr.mp hx
     have:=hb z hz
     have e:p[z]?=some p[z]:=ZAx (by lia)
     rw [zn0 e]
     exact (ok3 z _ this e).ends
    have ro:=zgd (F:=zak F) (B:=zek n la T F) (p:=p) (m:=i) hw
    have hul:r.used.length=(r.used.map (wh p)).length:=(ZAu ..).symm
    generalize hxs:r.used.map (wh p)=xs at*
    refine ⟨_,rfl,_,rfl,_,rfl,pu,rfl,⟨_,SqT.of g3'⟩,fun Db hDb=>?_⟩
    refine zez (xs:=r.used.map fun i:Nat=>V.int (i:Int)) (fun j σ' H'=>∃v ps,σ'=[v,some (.ref rl)]/\H' Db=some (.lst (ps.map V.ref))/\Paired (za4 H') ps (xs.take j)/\ps.length=j/\za7 H6 H') ⟨none,[],rfl,zaa,.nil,rfl,zab hDb⟩ ?_ ?_ ?_
    ·rintro j σ' H7 _ ⟨v,ps,rfl,_,_,_,s7⟩
     exact SqT.of (s7 _ _ g3')
    ·rintro j x σ' H7 hx ⟨v,ps,rfl,e7,hps,hpl,s7⟩
     rw [ZA0] at hx
     cases q2:r.used[j]? with
     | none=>rw [q2] at hx;cases hx
     | some z=>
      rw [q2] at hx
      cases hx
      have hj:=(ZAv.mp q2).1
      obtain ⟨x,hxj,hz,ri,hri,ex⟩:=paired_get hux q2
      obtain ⟨qi,pwi,pui,hati,k1,k2,k3⟩:=zi7 hrows hri
      subst ex
      have s07:=s06.trans s7
      exact ⟨_,rfl,zoo rfl (s07 _ _ hrl) hati (rdT (s07 _ _ k1) rfl ⟨_,e7,by rw [ZAu];exact zao (by omega),_,ps++[pwi],rfl,zhz hDb e7 hps hpl s7 hxj (s06 _ _ k2)⟩)⟩
    rintro σ' H7 ⟨v,ps,rfl,e7,hps,hpl,s7⟩
    rw [ZAu,hul,ZBi] at hps
    have s07:=s06.trans s7
    refine ⟨wp,ta,fa,Db,n,la,T,F,ps,xs,_,rfl,D0.same s07,hok,e7,hps,by rw [<-hul];exact hml,ends,fun z H8 s8=>?_,fun x ex rr H8 hrr s8 hx=>?_⟩
    ·have s78:=s7.trans s8
     refine ⟨_,rfl,pw,_,rfl,s78 _ _ g2',rfl,.inl ⟨rfl,_,rfl,zhb (no (fun e=>?_) _ (s06.trans s78))⟩⟩
     have e:=(ro.mp e).2
     rw [z] at e
     cases e
    ·have s78:=s7.trans s8
     refine ⟨_,rfl,pw,_,rfl,s78 _ _ g2',rfl,.inr ⟨rr,_,rfl,hx,rfl,_,rfl,?_⟩⟩
     by_cases hx2:x=r.what
     ·refine zdj (show (!zeg (zb6 x) (zb6 r.what))=false by rw [zgz.mpr hx2];rfl) ⟨_,_,_,_,_,rfl,s36.trans s78,yes (ro.mpr ⟨hb,by rw [ex,hx2]⟩)⟩
     ·refine zbx (show (!zeg (zb6 x) (zb6 r.what))=true by rw [Bool.not_eq_true'];exact ZAk.mpr fun z=>hx2 (zgz.mp z)) (no (fun e=>hx2 ?_) _ (s06.trans s78))
      have e:=(ro.mp e).2
      rw [ex] at e
      exact ZA7 e
  ·rintro σ' H3 ⟨v3,v4,v5,v6,v7,rfl,s3,ok3⟩
   refine c1 _ _ ?_
   clear c1 N1
   have s03:=s02.trans s3
   rw [ZBx,ZAu] at ok3
   have all:∀m r,p[m]?=some r->zgq (zak F) (zek n la T F) p m r:=fun m r e=>ok3 m r (by have:=(ZAv.mp e).1;lia) e
   refine fun N2 c2=>⟨_,rfl,ZBa _,fun E0 hE0=>⟨rl,E0,_,rfl,rfl,zab hE0 _ _ (s03 _ _ hrl),zaa,_,rfl,?_⟩⟩
   have s4:=s03.trans (zab (o:=.lst []) hE0)
   by_cases h0:0<p.length
   case neg=>
    have q0:qs=[]:=ZAi.mp (by lia)
    subst q0
    exact zhb (k _ s4 false ⟨nofun,fun ⟨_,r,e,_⟩=>absurd (ZAv.mp e).1 (by lia)⟩)
   obtain ⟨r,hlast⟩:∃r,p[p.length-1]?=some r:=⟨_,ZAx (by lia)⟩
   obtain ⟨q,pw,pu,hat,g1,g2,g3⟩:=zi7 hrows hlast
   refine zdj ?_ (c2 _ _ ?_)
   ·cases qs with
    | nil=>exact absurd hql (by rw [ZB4];lia)
    | cons a t=>rfl
   clear c2 N2
   generalize upd H3 E0 (.lst [])=H4 at*
   have hat:atI (qs.map V.ref) (((qs.map V.ref).length:Int)-1)=some (.ref q):=by
    rw [ZAu,show ((qs.length:Nat):Int)-1=((p.length-1:Nat):Int) by omega]
    exact hat
   have g2':H4 pw=some (.tup (zb6 r.what)):=s4 _ _ g2
   have no:¬MU.zhy r.what->Q (.bl false) H4:=fun h=>k _ s4 false ⟨nofun,fun ⟨_,r',e,z⟩=>absurd (by rw [hlast] at e;cases e;exact z) h⟩
   refine fun N2 c2=>⟨_,rfl,_,rfl,rl,_,rfl,.inl (SqL.of (s4 _ _ hrl)),_,_,rfl,rfl,rl,_,_,_,rfl,rfl,s4 _ _ hrl,hat,rdT (s4 _ _ g1) rfl (c2 _ _ ?_)⟩
   clear c2 N2
   refine ⟨_,rfl,rdT g2' rfl ⟨rfl,_,rfl,?_⟩⟩
   by_cases b1:r.what.tie=true
   case neg=>rw [ziv (ZAk.mpr b1)];exact zdj (by decide+kernel) (zms (no fun z=>b1 z.1) (by decide+kernel))
   rw [zhf b1]
   refine zbx (by decide+kernel) ⟨_,rfl,rdT g2' rfl ⟨_,rfl,rdT g2' rfl ⟨rfl,_,rfl,?_⟩⟩⟩
   by_cases b2:r.what.a=r.what.b
   case neg=>exact zdj (by rw [zia,ZB9 b2]) (zms (no fun z=>b2 z.2.1) rfl)
   refine zbx (by rw [zia,ZB8 b2]) ⟨_,rfl,rdT g2' rfl ⟨_,_,rfl,rfl,?_⟩⟩
   exact k _ s4 _ (decide_eq_true_iff.trans ⟨fun z=>⟨all,r,hlast,b1,b2,z⟩,fun ⟨_,r',e,z⟩=>by rw [hlast] at e;cases e;exact z.2.2⟩)
end Y0
namespace L2
open PySem PySem.Spec PyProof.Rows
theorem zoc:typeLookup (.type "list_reverseiterator") "__len__"=pure none:=by rw [typeLookup_type,builtinLookup_eq_fast];kernel_rfl
theorem zsi:typeLookup (.type "list_reverseiterator") "__length_hint__"=pure (some (.builtin "list_reverseiterator.__length_hint__")):=by rw [typeLookup_type,builtinLookup_eq_fast];kernel_rfl
section
variable {prog:Program} {w:World} {A:Around} {E:Value->Shared->Prop} {s:Shared}
theorem zog {R:Result->Shared->Prop} (hh:A.handled=none) {I l:Addr} {items:Array Value} (hit:s.heap.IsRevIter I l ((items.size:Int)-1)) (hl:s.heap.IsList l items) (hlen:items.size<=sizeLine) (S:Addr) (res:Value) (c₀:Nat)
 (hS:s.heap.get? S=some { cls:=.type "list",data:=.seq #[] c₀ }) (hSl:S≠l) (hSI:S≠I) (hlI:l≠I)
 (hR:∀h' tk acc' c',(∀b o,b≠S->b≠I->s.heap.get? b=some o->h'.get? b=some o)->h'.get? S=some { cls:=.type "list",dict:=none,data:=.seq acc' c',slots:= #[] }->
  ItemsOf (fun i v=>items[items.size-1-i]?=some v) acc' items.size->R (.ok (.ret res)) { s with heap:=h',toks:=tk }):
 wpAny (model prog w) A.in1 (Builtin.List.listExtendWith (.ref S) (.ref I) res)
  (fun fin s'=>match fin with | .done f=>R (.ok f) s' | .again c'=>c'.quiet=true/\codeAny (model prog w) A c' R s') (fun e s'=>R (.error e) s') s:=by
 have W:=(Walks.listRev (prog:=prog) (w:=w) (A:=A.in1) hh I l hlI items).toS
 have hSf:S∉[I,l]:=fun hm=>by
  rcases ZBe.mp hm with e | hm
  ·exact hSI e
  ·exact hSl (ZBd.mp hm)
 unfold Builtin.List.listExtendWith
 refine ZAp (wpAny_typeOf hit.typeIs ?_)
 have h1:Builtin.List.listSameRef (.ref S) (.ref I)=false:=by simp [Builtin.List.listSameRef,hSI]
 have h2:(Value.type "list_reverseiterator"==Value.type "list")=false:=by decide
 have h3:(Value.type "list_reverseiterator"==Value.type "tuple")=false:=by decide
 simp only [h1,h2,h3,Bool.or_false,Bool.false_eq_true,if_false]
 refine ZAp (wpAny_pyIter_revIter hit ?_)
 refine ZAp (wpAny_holding ?_)
 unfold Builtin.List.listLengthHint
 refine ZAp (wpAny_specialOf hit.typeIs zoc ?_)
 show wpAny _ A.in1 (specialOf (Value.ref I) (Str.ofString "__length_hint__")>>=_) _ _ _
 refine ZAp (wpAny_specialOf hit.typeIs zsi ?_)
 generalize hid:("list_reverseiterator.__length_hint__":String)=id0
 wp_delta
 rw [show splitId id0=some ("list_reverseiterator","__length_hint__") from by subst hid;decide+kernel]
 subst hid
 refine ZAp (wpAny_isInstance (T:="list_reverseiterator") (b:=true) hit.typeIs (by rw [isSubtype_type];kernel_rfl) ?_)
 refine wpAny_ite_split (fun hab=>absurd hab (by decide)) (fun _=>?_)
 refine wpAny_ite_split (fun _=>?_) (fun hab=>absurd (by decide+kernel) hab)
 refine wpAny_ite_split (fun hab=>absurd hab (by decide+kernel)) (fun _=>?_)
 refine ZAq ?_
 rw [if_neg (by decide)]
 refine ZAq ⟨plainId_quiet F.plain_extend_loop _,codeAny_extend_loopS W hlen _ hSf _ items.size 0 _ _ _ rfl (ZBa _) ⟨ZBa _,?_,hl⟩ hS (ItemsOf.nil _) fun s' acc' c' hm hS' hacc=>?_⟩
 ·show s.heap.IsRevIter I l ((items.size:Int)-1-((0:Nat):Int))
  rw [show (items.size:Int)-1-((0:Nat):Int)=(items.size:Int)-1 by omega]
  exact hit
 rw [Moved.eq_with hm]
 refine hR s'.heap s'.toks acc' c' (fun b o hb hbI e=>hm.heap b o (fun hmem=>?_) e) hS' hacc
 rcases ZBe.mp hmem with e' | hmem
 ·exact hb e'
 ·exact hbI (ZBd.mp hmem)
theorem zsn {R:Result->Shared->Prop} (hh:A.handled=none) {I l:Addr} {items:Array Value} (hit:s.heap.IsRevIter I l ((items.size:Int)-1)) (hl:s.heap.IsList l items) (hlen:items.size<=sizeLine) (S:Addr)
 (hS:s.heap.get? S=some { cls:=.type "list",data:=.seq #[] }) (hSl:S≠l) (hSI:S≠I) (hlI:l≠I)
 (hR:∀h' tk acc' c',(∀b o,b≠S->b≠I->s.heap.get? b=some o->h'.get? b=some o)->h'.get? S=some { cls:=.type "list",dict:=none,data:=.seq acc' c',slots:= #[] }->
  ItemsOf (fun i v=>items[items.size-1-i]?=some v) acc' items.size->R (.ok (.ret .none)) { s with heap:=h',toks:=tk }):
 wpAny (model prog w) A.in1 (Builtin.«list.__init__» ⟨[.ref S,.ref I],[]⟩)
  (fun fin s'=>match fin with | .done f=>R (.ok f) s' | .again c'=>c'.quiet=true/\codeAny (model prog w) A c' R s') (fun e s'=>R (.error e) s') s:=by
 show wpAny _ _ (do let old <-Builtin.List.listItems (.ref S);Builtin.List.listUpdate (.ref S) (fun _=> #[]);letGo old.toList.reverse;Builtin.List.listExtendWith (.ref S) (.ref I) .none) _ _ s
 refine ZAp ?_
 unfold Builtin.List.listItems
 refine ZAp (wpAny_seqItems hS rfl (ZAq ?_))
 show wpAny _ _ (updateSeq S (fun _=> #[])>>=fun _=>letGo (#[]:Array Value).toList.reverse>>=fun _=>Builtin.List.listExtendWith (.ref S) (.ref I) .none) _ _ s
 refine ZAp (wpAny_updateSeq hS rfl ?_)
 have hS₂:=Heap.get?_update_self (Obj.mapSeq (fun _=>(#[]:Array Value))) hS rfl
 have oth:∀b o,b≠S->s.heap.get? b=some o->(s.heap.update S (Obj.mapSeq (fun _=>(#[]:Array Value)))).get? b=some o:=
  fun b o hb e=>(Heap.get?_update_other _ _ (ZAl hb)).trans e
 refine ZAp (wpAny_letGo ?_)
 refine zog hh (hit.at fun o e=>oth I o (ZAl hSI) e) (hl.at fun o e=>oth l o (ZAl hSl) e) hlen S .none _ hS₂ hSl hSI hlI fun h' tk acc' c' hk hS' hacc=>?_
 exact hR h' tk acc' c' (fun b o hb hbI e=>hk b o hb hbI (oth b o hb e)) hS' hacc
theorem zko {Q:Value->Shared->Prop} (hh:A.handled=none) {I l:Addr} {items:Array Value} (hit:s.heap.IsRevIter I l ((items.size:Int)-1)) (hl:s.heap.IsList l items) (hlen:items.size<=sizeLine) (hlI:l≠I)
 (hQ:∀h' tk acc' c',(∀b o,b≠I->s.heap.get? b=some o->h'.get? b=some o)->
  h'.get? s.heap.objs.size=some { cls:=.type "list",dict:=none,data:=.seq acc' c',slots:= #[] }->ItemsOf (fun i v=>items[items.size-1-i]?=some v) acc' items.size->Q (.ref s.heap.objs.size) { s with heap:=h',toks:=tk }):
 wpAny (model prog w) A (call (.type "list") [.ref I]) Q E s:=by
 refine callType_codes (Q₁:=fun obj s₁=>obj=.ref s.heap.objs.size/\s₁={ s with heap:=s.heap.push { cls:=.type "list",data:=.seq #[] } }) F.called_list (F.typeCall_list_1 _) F.entry_list_init
  (code_list_new _ ⟨rfl,rfl⟩) fun obj s₁ h₁=>?_
 obtain ⟨rfl,rfl⟩:=h₁
 have hS:(s.heap.push { cls:=.type "list",data:=.seq #[] }).get? s.heap.objs.size=some { cls:=.type "list",data:=.seq #[] }:=ZBh _ rfl
 obtain ⟨oI,hoI,_⟩:=id hit
 obtain ⟨ol,hol,_⟩:=id hl
 refine ⟨⟨_,hS,rfl⟩,F.args_list_init_2 _ _,zsn (A:=A.in1) hh (hit.at fun o e=>ZAy _ e) (hl.at fun o e=>ZAy _ e) hlen _ hS (Nat.ne_of_gt (ZBc hol)) (Nat.ne_of_gt (ZBc hoI)) hlI fun h' tk acc' c' hk hS' hacc=>?_⟩
 exact ⟨rfl,hQ h' tk acc' c' (fun b o hb e=>hk b o (ZBj (ZBc e)) hb (ZAy _ e)) hS' hacc⟩
end
section
variable {X:Cx} {a:Expr} {pos:Pos}
theorem zrs {xs:List V} {its:List Value} (r:zb3 xs its) {acc:Array Value} (h:ItemsOf (fun i v=>its.toArray[its.toArray.size-1-i]?=some v) acc its.toArray.size):zb3 xs.reverse acc.toList:=by
 have hl:=r.length
 have hn:acc.size=its.length:=h.1.trans (ZA2 ..)
 refine zos (by rw [List.length_reverse];exact hl.trans hn.symm) fun i x u e1 e2=>?_
 have h2:=h.2 i u (by simpa using e2)
 rw [ZA2] at h2
 have hi:i<its.length:=by
  have:=(ZAv.mp e2).1
  rw [ZAj,hn] at this
  exact this
 rw [List.getElem?_reverse (by omega)] at e1
 have h2:its[its.length-1-i]?=some u:=by simpa using h2
 rw [hl] at e1
 obtain ⟨u',hu',ru⟩:=r.get e1
 rw [h2] at hu'
 cases hu'
 exact ru
def zrw (ta:TA):TE:=fun σ H Q=>ta σ H fun vs H1=>∃(p:Addr) (xs:List V),vs=[.ref p]/\H1 p=some (.lst xs)/\∀l,H1 l=none->Q (.ref l) (upd H1 l (.lst xs.reverse))
theorem zn7 {ta:TA} {p p2 pos2:Pos} (hc:X.calm=true) (hg:Gl X "list") (hm:X.mg "list"=none) (hg2:Gl X "reversed") (hm2:X.mg "reversed"=none) (ha:PA X [a] ta)
 (hs:starEach [.Call (.Name "reversed" p2) [a] [] pos2] X.env=[(false,eval (.Call (.Name "reversed" p2) [a] [] pos2) X.env)]:=by rfl) (hs2:starEach [a] X.env=[(false,eval a X.env)]:=by rfl):
 PE X (.Call (.Name "list" p) [.Call (.Name "reversed" p2) [a] [] pos2] [] pos) (zrw ta):=by
 intro pins s σ H Q I h
 refine Call_ (zha I hg hm boot_list (PyProof.Rows.callWith_type1 ?_ hs rfl))
 rw [hs]
 show wpAny _ _ (spliced ((false,eval (.Call (.Name "reversed" p2) [a] [] pos2) X.env)::backTo pos [])) _ _ s
 refine Calls.spliced_cons (Call_ (zha I hg2 hm2 boot_reversed (PyProof.Rows.callWith_type1 (thn (ha pos2 pins s σ H _ I h) fun us s1 zz=>?_) hs2 rfl)))
 obtain ⟨vs,H1,I1,r1,q1⟩:=zz
 obtain ⟨q,xs,e,hq,k⟩:=q1
 subst e
 obtain ⟨u,rfl,ru⟩:=zjp r1
 cases ru
 obtain ⟨its,r,pl,hz⟩:=I1.list (SqL.of hq)
 have hl:=pl.isList
 have hlen:=r.length
 refine call_reversed_list hl ?_
 refine Calls.spliced_nil ?_
 have I2:Inv X pins σ H1 { s1 with heap:=s1.heap.push (revObj q ((its.toArray.size:Int)-1)) }:=I1.kept (t':=s1.toks) fun b o e=>ZAy _ e
 obtain ⟨ol,hol,_⟩:=id hl
 have hqI:q≠s1.heap.objs.size:=ZBj (ZBc hol)
 refine zko (I.ok.hd hc) (I:=s1.heap.objs.size) (l:=q) (items:=its.toArray) ⟨_,ZBh _ rfl,rfl,rfl⟩ (hl.at fun o e=>ZAy _ e) (by rw [ZA2];omega) hqI fun h' tk acc c' kp hl' hi=>?_
 refine ⟨.ref _,_,I1.laid (t':=tk) (o:=.lst xs.reverse) (fun b o e=>kp b o (ZBj (ZBc e)) (ZAy _ e)) (show s1.heap.objs.size<=(s1.heap.push _).objs.size by rw [Heap.size_push];exact ZAe _) ?_,rfl,k _ I2.fresh⟩
 exact ⟨by rw [List.length_reverse];exact hz,acc.toList,c',zrs r hi,by simpa using hl'⟩
end
theorem zgn {X:Cx}:zg2 X (.builtin "len") (fun xs H Q=>∃p ys,xs=[.ref p]/\H p=some (.lst ys)/\Q (.int ys.length) H):=by
 intro pins s σ H xs us Q I r h
 obtain ⟨p,ys,e,h1,q⟩:=h
 exact za9 pins s σ H xs us Q I r ⟨p,ys,e,.inl (SqL.of h1),q⟩
end L2
namespace Y0
open PySem L2
seal L2.PE L2.PA L2.PT L2.PS L2.PSs L2.PG L2.PGs L2.PI L2.PO
theorem zq2 {qs:List Addr} {i:Nat}:zit (qs.map V.ref) none (some (i:Int))=(qs.take i).map V.ref:=by
 unfold zit
 rw [HT.sIx_nat,HT.sIx_none,List.drop_zero,Nat.sub_zero,List.map_take]
 rw [<-List.take_eq_take_min]
theorem zkm {qs:List Addr} {i:Nat}:zit (qs.map V.ref) (some (i:Int)) none=(qs.drop i).map V.ref:=by
 unfold zit
 rw [HT.sIx_nat,HT.sIx_none,List.map_drop,ZAu]
 by_cases h:i<=qs.length
 ·rw [Nat.min_eq_left h]
  exact List.take_of_length_le (by rw [ZAd,ZAu];lia)
 ·rw [Nat.min_eq_right (by lia),List.drop_of_length_le (by rw [ZAu];lia),List.drop_of_length_le (by rw [ZAu];lia)]
  exact List.take_nil
theorem zvj {qs:List Addr} {i:Nat} (h:i<=qs.length):zit (qs.map V.ref) (some (i:Int)) (some ((i:Int)+2))=((qs.drop i).take 2).map V.ref:=by
 unfold zit
 rw [show (i:Int)+2=((i+2:Nat):Int) by lia,HT.sIx_nat,HT.sIx_nat,List.map_take,List.map_drop,ZAu,Nat.min_eq_left h]
 by_cases h2:i+2<=qs.length
 ·rw [Nat.min_eq_left h2,show i+2-i=2 by lia]
 ·rw [Nat.min_eq_right (by lia),List.take_of_length_le (by rw [ZAd,ZAu];lia),List.take_of_length_le (by rw [ZAd,ZAu];lia)]
theorem zd2 {α β:Type} {F:α->β->Prop}:∀{l:List α} {m:List β} (n:Nat),Paired F l m->Paired F (l.take n) (m.take n)
 | _,_,0,_=>.nil
 | _,_,_+1,.nil=>.nil
 | _,_,n+1,.cons r t=>.cons r (zd2 n t)
theorem zd3 {α β:Type} {F:α->β->Prop}:∀{l:List α} {m:List β} (n:Nat),Paired F l m->Paired F (l.drop n) (m.drop n)
 | _,_,0,h=>h
 | _,_,_+1,.nil=>.nil
 | _,_,n+1,.cons _ t=>zd3 n t
theorem zje {α β:Type} {F:α->β->Prop}:∀{l:List α} {m:List β},Paired F l m->Paired F l.reverse m.reverse
 | _,_,.nil=>.nil
 | _,_,.cons r t=>by
  rw [List.reverse_cons,List.reverse_cons]
  exact zas (zje t) (.cons r .nil)
theorem zby {d:Addr} {H H':Hp} {q:Addr} {xs ys:List V} (k:zcd d H H') (hd:H d=some (.lst ys)) (h:H q=some (.tup xs)):H' q=some (.tup xs):=k _ _ h (zba h hd nofun)
theorem za4.keep {d:Addr} {H H':Hp} {q:Addr} {x:MU.zar} {xs:List V} (h:za4 H q x) (k:zcd d H H') (hd:H d=some (.lst xs)):za4 H' q x:=k _ _ h (zba h hd nofun)
theorem zc5.keep {d:Addr} {H H':Hp} {q:Addr} {r:MU.Row} {xs:List V} (h:zc5 H q r) (k:zcd d H H') (hd:H d=some (.lst xs)):zc5 H' q r:=by
 obtain ⟨pw,pu,h1,h2,h3⟩:=h
 exact ⟨pw,pu,k _ _ h1 (zba h1 hd nofun),h2.keep k hd,k _ _ h3 (zba h3 hd nofun)⟩
theorem zvl {r:Int} (h0:0<=r) (h1:r<7):∃wd,atI [V.str "told",.str "sum",.str "late",.str "soon",.str "sure",.str "back",.str "cross"] r=some (.str (zb4 wd)):=by
 have:r=0\/r=1\/r=2\/r=3\/r=4\/r=5\/r=6:=by lia
 rcases this with rfl | rfl | rfl | rfl | rfl | rfl | rfl
 ·exact ⟨.told,rfl⟩
 ·exact ⟨.sum,rfl⟩
 ·exact ⟨.late,rfl⟩
 ·exact ⟨.soon,rfl⟩
 ·exact ⟨.sure,rfl⟩
 ·exact ⟨.back,rfl⟩
 ·exact ⟨.cross,rfl⟩
def zny (H:Hp) (l:Addr) (p:List MU.Row):Prop:=∃qs:List Addr,H l=some (.lst (qs.map V.ref))/\Paired (zc5 H) qs p/\∀r∈p,r.used.length<=2
def zk9 (K:ZCa):Sp:=fun vs H Q _=>∃(d sa rl:Addr) (mny:Int) (p:List MU.Row),vs=[.ref d,.ref rl,.int mny]/\zed K sa H d/\rl≠d/\1<=mny/\zny H rl p/\0<p.length/\p.length<=16500000/\
 ∀l p' H',zny H' l p'->p'.length<=p.length->zed K sa H' d->zcd d H H'->Q (.ref l) H'
def ChI (K:ZCa) (sa d rl:Addr) (mny way:Int) (i:Nat) (H:Hp) (σ:L2.St) (H':Hp):Prop:=∃(pw pu:Addr) (x:MU.zar) (wd:MU.Wd) (us:List Nat),σ=[some (.ref d),some (.ref rl),some (.int mny),some (.int (i:Int)),some (.ref pw),some (.str (zb4 wd)),some (.ref pu),some (.int way)]/\
 za4 H' pw x/\H' pu=some (.tup (us.map fun i:Nat=>V.int (i:Int)))/\us.length<=2/\zed K sa H' d/\zcd d H H'
abbrev nCh:List Str:=["_law_d","_law_rows","_law_many","_law_at","_law_said","_law_word","_law_used","_law_way"]
theorem zrj:zan nCh ["_law_d","_law_rows","_law_many"] (zag sL_changed):=scm
theorem zBq:zbw (zag sL_changed) nCh (fsc [(".0",.local),("_law_row",.local),("_law_next",.globalImplicit),("len",.globalImplicit),("_law_d",.free),("_law_rows",.free)]) ["_law_row","_law_d","_law_rows"] [none,some 0,some 1]:=com
theorem zA6:(["_law_row","_law_d","_law_rows"]:List Str).Nodup:=by decide+kernel
theorem ok_changed {f fN:Addr} {fd fdN:FuncData} (F:Fn K mg "_law_changed" sL_changed ["_law_d","_law_rows","_law_many"] f fd) (FN:Fn K mg "_law_next" sNext ["_law_dice","_law_many"] fN fdN)
 (GN:zbb P w K mg base CX0 1 fN fdN ["_law_dice","_law_many"] (zh2 K)) (hlen:mg "len"=none) (htup:mg "tuple"=none) (hlist:mg "list"=none) (hrev:mg "reversed"=none):zbb P w K mg base CX0 2 f fd ["_law_d","_law_rows","_law_many"] (zk9 K):=by
 refine F.F.ok zrj (fun _ _ _ _ h=>?_) fun _ A _ s H _ Q E hr h=>?_
 ·obtain ⟨_,_,_,_,_,rfl,_⟩:=h
  rfl
 ·obtain ⟨d,sa,rl,mny,p,rfl,D,rld,hmny,⟨qs,hrl,hrows,hfew⟩,hp0,hpl,k⟩:=h
  refine ⟨_,zah (za5 3 zrj.nd (pcl GN hr FN (pa2 (pv 0) (zay zgn (by rfl) hlen ZAn (pa1 (pv 1))))))
   (zah (zps (zbm zal (pv 1) (pv 3) (fun _ _=>rfl)) (zpw (K:=K) (n:=3) rfl rfl (za0 (zcw 4 zrj.nd) (za0 (zcw 5 zrj.nd) (za0 (zcw 6 zrj.nd) zfb)))))
   (zah (za5 7 zrj.nd (pcl GN hr FN (pa2 (pv 0) zae)))
   (zah (ze3 (zbe (zb8 zbd (pv 7) zae) (zad (za5 4 zrj.nd (za2 (zkb (K:=K) rfl) (zcg zl7 (pv 4) zdh (zcy zae)) (zaw (pa1 (za2 zcc (za2 zb5 (ixT (pv 4)) zae) (za2 ztw zae (pcl GN hr FN (pa2 (pv 0) zae))))))))) zap))
   (zah (ze3 (zbe (zb8 zbd (pv 7) zae) (zad (za5 4 zrj.nd (zaw (pa4 (ixT (pv 4)) (pcl GN hr FN (pa2 (pv 0) (pv 2))) (ixT (pv 4)) (ixT (pv 4)))))) zap))
   (zah (ze3 (zbe (zb8 zbd (pv 7) zae) (zad (za5 5 zrj.nd (zbm zal (zcq (zd4 zam (zd4 zam (zd4 zam (pa4 zam zam zam zam))))) (pcl GN hr FN (pa2 (pv 0) zae)) (fun _ _=>rfl)))) zap))
   (zah (ze3 (zbe (zb8 zbd (pv 7) zae) (zad (za5 6 zrj.nd (zcm zdy (by rfl) htup (by decide+kernel) (pa1 (zcs rfl (zg8 (pv 6)) zBq (fun cl ex s0 H0=>⟨zcw 0 zA6,zb9,pcl GN hr FN (pa2 (pv 1) (zay zgn (by rfl) hlen ZAn (pa1 (pv 2))))⟩)))))) zap))
   (zaf (zbe (zb8 zbd (pv 7) zae) (zad (zaq (za2 zff (zcg ze7 (pv 1) zdh (zcy (pv 3))) (zcg ze7 (pv 1) (zcy (za2 zb5 (pv 3) zae)) zdh)))) zap)
   (zaf (zbe (zb8 zbd (pv 7) zae) (zad (zaq (za2 zff (za2 zff (zcg ze7 (pv 1) zdh (zcy (pv 3))) (zn7 rfl (by rfl) hlist (by rfl) hrev (pa1 (zcg ze7 (pv 1) (zcy (pv 3)) (zcy (za2 zb5 (pv 3) zae)))))) (zcg ze7 (pv 1) (zcy (za2 zb5 (pv 3) zae)) zdh)))) zap)
   (zad (zaq (za2 zff (za2 zff (zcg ze7 (pv 1) zdh (zcy (pv 3))) (zcq (pa1 (zaw (pa3 (pv 4) (pv 5) (pv 6)))))) (zcg ze7 (pv 1) (zcy (za2 zb5 (pv 3) zae)) zdh)))))))))))),?_⟩
  have hql:qs.length=p.length:=Paired.length hrows
  have nd:∀{a:Addr},H a=none->a≠d:=fun {a} e q=>by
   subst q
   obtain ⟨o,q⟩:=D.there
   rw [e] at q
   cases q
  have dl:∀{H':Hp},zed K sa H' d->∃xs,H' d=some (.lst xs):=fun D'=>let ⟨p,e⟩:=D'.at_;⟨_,e⟩
  refine ⟨_,rfl,_,rfl,rl,_,rfl,hrl,d,sa,_,rfl,D,by rw [ZAu];lia,fun i H1 i0 i1 D1 k1=>?_⟩
  rw [ZAu] at i1
  obtain ⟨i,rfl⟩:∃j:Nat,i=j:=⟨i.toNat,by lia⟩
  have hi:i<qs.length:=by lia
  obtain ⟨q,hq⟩:∃q,qs[i]?=some q:=⟨_,ZAx hi⟩
  obtain ⟨r,hr',hrow⟩:=paired_get hrows hq
  obtain ⟨xsd,hxd⟩:=dl D
  obtain ⟨pw,pu,g1,g2,g3⟩:=hrow.keep k1 hxd
  have hat:atI (qs.map V.ref) (i:Int)=some (.ref q):=zbv (by rw [ZA0,hq];rfl)
  refine ⟨_,rfl,zoo rfl (k1 _ _ hrl rld) hat ⟨q,_,rfl,SqT.of g1,rfl,_,_,rfl,_,_,rfl,_,_,rfl,rfl,?_⟩⟩
  refine ⟨_,rfl,d,sa,_,rfl,D1,by decide,fun way H2 _ _ D2 k2=>?_⟩
  obtain ⟨xs1,hx1⟩:=dl D1
  have I2:ChI K sa d rl mny way i H [some (.ref d),some (.ref rl),some (.int mny),some (.int (i:Int)),some (.ref pw),some (.str (zb4 r.word)),some (.ref pu),some (.int way)] H2:=⟨pw,pu,r.what,r.word,r.used,rfl,g2.keep k2 hx1,zby k2 hx1 g3,hfew r (ZA1 hr'),D2,k1.trans k2⟩
  refine ⟨ChI K sa d rl mny way i H,?_,?_⟩
  ·refine ⟨_,rfl,rfl,_,rfl,ziw (fun _=>?_) (fun _=>I2)⟩
   have w2:=g2.keep k2 hx1
   have u2:=zby k2 hx1 g3
   have f2:=hfew r (ZA1 hr')
   have k2:=k1.trans k2
   generalize r.what=x at*
   refine ⟨_,rfl,_,rfl,pw,_,rfl,w2,?_,fun sl hsl=>?_⟩
   ·exact fun z=>absurd z.2 (show ¬HT.sIx 4 4 (some 3)=4 by decide)
   have s3:=zab (o:=.tup (zit (zb6 x) none (some 3))) hsl
   refine ⟨_,rfl,rdT (s3 _ _ w2) rfl ⟨_,_,rfl,rfl,_,rfl,d,sa,_,rfl,D2.same s3,by decide,fun e H4 e0 e1 D4 k4=>?_⟩⟩
   obtain ⟨_,hd3⟩:=dl (D2.same s3)
   have w4:=zby k4 hd3 (s3 _ _ w2)
   have c4:=zby k4 hd3 (show upd H2 sl (.tup (zit (zb6 x) none (some 3))) sl=_ from zaa)
   have u4:=zby k4 hd3 (s3 _ _ u2)
   refine ⟨_,_,rfl,rfl,.inl (by decide),_,_,rfl,rfl,szl rfl,fun t1 ht1=>?_⟩
   refine ⟨sl,t1,_,_,rfl,rfl,SqT.of (zab ht1 _ _ c4),SqT.of zaa,nofun,szl rfl,nofun,fun _ t2 ht2=>?_⟩
   have s5:=(zab (o:=.tup [V.int (x.v+1-2*e)]) ht1)
   have s6:=zab (o:=.tup (zit (zb6 x) none (some 3)++[V.int (x.v+1-2*e)])) ht2
   exact ⟨t2,pu,⟨x.tie,x.a,x.b,x.v+1-2*e⟩,r.word,r.used,rfl,zaa,s6 _ _ (s5 _ _ u4),f2,(D4.same s5).same s6,(((k2.trans s3.keep).trans k4).trans s5.keep).trans s6.keep⟩
  clear I2
  rintro σ' H3 I3
  refine ⟨ChI K sa d rl mny way i H,?_,?_⟩
  ·obtain ⟨pw,pu,x,wd,us,rfl,w2,u2,f2,D2,k2⟩:=id I3
   refine ⟨_,rfl,rfl,_,rfl,ziw (fun _=>?_) (fun _=>I3)⟩
   obtain ⟨_,hd3⟩:=dl D2
   refine ⟨_,rfl,rdT w2 rfl ⟨_,rfl,_,rfl,d,sa,_,rfl,D2,hmny,fun e H4 e0 e1 D4 k4=>?_⟩⟩
   have w4:=zby k4 hd3 w2
   refine ⟨_,rfl,rdT w4 rfl ⟨_,rfl,rdT w4 rfl ⟨szl rfl,fun t2 ht2=>?_⟩⟩⟩
   obtain ⟨e,rfl⟩:∃j:Nat,e=j:=⟨e.toNat,by lia⟩
   have s6:=zab (o:=.tup [V.str (zc4 x.tie),.int (e:Int),.int (x.b:Int),.int x.v]) ht2
   exact ⟨t2,pu,⟨x.tie,e,x.b,x.v⟩,wd,us,rfl,zaa,s6 _ _ (zby k4 hd3 u2),f2,D4.same s6,(k2.trans k4).trans s6.keep⟩
  clear I3
  rintro σ' H4 I4
  refine ⟨ChI K sa d rl mny way i H,?_,?_⟩
  ·obtain ⟨pw,pu,x,wd,us,rfl,w2,u2,f2,D2,k2⟩:=id I4
   refine ⟨_,rfl,rfl,_,rfl,ziw (fun _=>?_) (fun _=>I4)⟩
   refine ⟨szl rfl,fun t1 ht1=>?_⟩
   have s3:=zab (o:=.lst [V.str "told",.str "sum",.str "late",.str "soon",.str "sure",.str "back",.str "cross"]) ht1
   obtain ⟨_,hd3⟩:=dl (D2.same s3)
   refine ⟨_,rfl,d,sa,_,rfl,D2.same s3,by decide,fun e H5 e0 e1 D5 k5=>?_⟩
   obtain ⟨wd',hwd⟩:=zvl e0 e1
   obtain ⟨_,hd2⟩:=dl D2
   have t5:=k5 _ _ zaa (zac hd2 ht1).symm
   refine ⟨t1,_,_,_,rfl,rfl,t5,hwd,?_⟩
   exact ⟨pw,pu,x,wd',us,rfl,zby k5 hd3 (s3 _ _ w2),zby k5 hd3 (s3 _ _ u2),f2,D5,(k2.trans s3.keep).trans k5⟩
  clear I4
  rintro σ' H5 I5
  refine ⟨ChI K sa d rl mny way i H,?_,?_⟩
  ·obtain ⟨pw,pu,x,wd,us,rfl,w2,u2,f2,D2,k2⟩:=id I5
   refine ⟨_,rfl,rfl,_,rfl,ziw (fun _=>?_) (fun _=>I5)⟩
   refine ⟨_,rfl,pu,rfl,⟨_,SqT.of u2⟩,fun Da hDa=>?_⟩
   obtain ⟨_,hd2⟩:=dl D2
   have Dad:Da≠d:=(zac hd2 hDa).symm
   have Dar:Da≠rl:=(zac (k2 _ _ hrl rld) hDa).symm
   refine zez (xs:=us.map fun i:Nat=>V.int (i:Int)) (fun j σ' H'=>∃v,∃vs:List Nat,σ'=[v,some (.ref d),some (.ref rl)]/\vs.length=j/\H' Da=some (.lst (vs.map fun i:Nat=>V.int (i:Int)))/\zed K sa H' d/\zcd d H5 H') ⟨none,[],rfl,rfl,zaa,D2.new hDa,(zab hDa).keep⟩ ?_ ?_ ?_
   ·rintro j σ' H6 _ ⟨v,vs,rfl,_,_,D6,k6⟩
    exact SqT.of (zby k6 hd2 u2)
   ·rintro j y σ' H6 hy ⟨v,vs,rfl,hlen6,e6,D6,k6⟩
    have hj:j<us.length:=by
     have:=(ZAv.mp hy).1
     rwa [ZAu] at this
    refine ⟨_,rfl,_,rfl,rl,_,rfl,(k2.trans k6) _ _ hrl rld,d,sa,_,rfl,D6,by rw [ZAu];lia,fun e H7 e0 e1 D7 k7=>?_⟩
    obtain ⟨e,rfl⟩:∃j:Nat,e=j:=⟨e.toNat,by lia⟩
    have e7:=k7 _ _ e6 Dad
    refine ⟨_,e7,?_,_,vs++[e],rfl,by rw [ZA3,hlen6];rfl,?_,D7.upd e7 Dad,fun b o eb hb=>?_⟩
    ·rw [ZAu];exact zao (by lia)
    ·rw [zaa,ZA9];rfl
    ·rw [zai (zac eb hDa)];exact k7 _ _ (k6 _ _ eb hb) hb
   ·rintro σ' H6 ⟨v,vs,rfl,hlen6,e6,D6,k6⟩
    rw [ZAu] at hlen6
    refine ⟨Da,_,rfl,.inl ⟨SqL.of e6,fun t ht=>?_⟩⟩
    have s7:=zab (o:=.tup (vs.map fun i:Nat=>V.int (i:Int))) ht
    exact ⟨pw,t,x,wd,vs,rfl,s7 _ _ (zby k6 hd2 w2),zaa,by lia,D6.same s7,(k2.trans k6).trans s7.keep⟩
  clear I5
  rintro σ' H6 ⟨pw,pu,x,wd,us,rfl,w6,u6,f6,D6,k6⟩
  have hrl6:=k6 _ _ hrl rld
  have rows6:Paired (zc5 H6) qs p:=zaj hrows fun q r e=>e.keep k6 hxd
  have sz:∀{a:Nat},a<=16600000->a<=sizeLine:=fun h=>ZBg h (by decide)
  have lt:(qs.take i).length<=i:=List.length_take_le ..
  have i1e:(i:Int)+1=((i+1:Nat):Int):=by lia
  have i2e:(i:Int)+2=((i+2:Nat):Int):=by lia
  have ft:∀r∈p.take i,r.used.length<=2:=fun r hr=>hfew r (List.mem_of_mem_take hr)
  have fdr:∀j,∀r∈p.drop j,r.used.length<=2:=fun j r hr=>hfew r (List.mem_of_mem_drop hr)
  refine fun N1 c1=>⟨_,rfl,rfl,_,rfl,ziw (fun _=>?_) (fun _=>c1 _ _ ?_)⟩
  ·clear c1
   refine ⟨_,rfl,_,rfl,_,rfl,rl,_,rfl,SqL.of hrl6,fun l1 hl1=>?_⟩
   rw [zq2]
   have s1:=zab (o:=.lst ((qs.take i).map V.ref)) hl1
   refine ⟨_,rfl,_,rfl,_,_,rfl,rfl,_,rfl,rl,_,rfl,SqL.of (s1 _ _ hrl6),fun l2 hl2=>?_⟩
   rw [i1e,zkm]
   have s2:=zab (o:=.lst ((qs.drop (i+1)).map V.ref)) hl2
   refine ⟨l1,l2,_,_,rfl,rfl,s2 _ _ zaa,zaa,sz (by rw [ZAu,ZAu,ZAd];lia),fun l3 hl3=>?_⟩
   rw [<-ZA9]
   have s3:=zab (o:=.lst ((qs.take i++qs.drop (i+1)).map V.ref)) hl3
   have s13:=(s1.trans s2).trans s3
   refine k l3 (p.take i++p.drop (i+1)) _ ⟨_,zaa,zaj (zas (zd2 i rows6) (zd3 (i+1) rows6)) fun q r e=>e.same s13,fun r hr=>?_⟩ ?_ (D6.same s13) (k6.trans s13.keep)
   ·rcases ZBo.mp hr with h | h
    ·exact ft r h
    ·exact fdr _ r h
   ·rw [ZA3,ZBl,ZAd];lia
  clear c1 N1
  refine fun N1 c1=>⟨_,rfl,rfl,_,rfl,ziw (fun _=>?_) (fun _=>c1 _ _ ?_)⟩
  ·clear c1
   refine ⟨_,rfl,_,rfl,_,rfl,rl,_,rfl,SqL.of hrl6,fun l1 hl1=>?_⟩
   rw [zq2]
   have s1:=zab (o:=.lst ((qs.take i).map V.ref)) hl1
   refine ⟨_,rfl,_,rfl,_,rfl,_,rfl,_,_,rfl,rfl,_,rfl,rl,_,rfl,SqL.of (s1 _ _ hrl6),fun l2 hl2=>?_⟩
   rw [zvj (ZBb hi)]
   have s2:=zab (o:=.lst (((qs.drop i).take 2).map V.ref)) hl2
   refine ⟨l2,_,rfl,zaa,fun l3 hl3=>?_⟩
   rw [<-List.map_reverse]
   have s3:=zab (o:=.lst (((qs.drop i).take 2).reverse.map V.ref)) hl3
   refine ⟨l1,l3,_,_,rfl,rfl,s3 _ _ (s2 _ _ zaa),zaa,sz (by rw [ZAu,ZAu,List.length_reverse,ZBl,ZBl];lia),fun l4 hl4=>?_⟩
   rw [<-ZA9]
   have s4:=zab (o:=.lst ((qs.take i++((qs.drop i).take 2).reverse).map V.ref)) hl4
   have s14:=((s1.trans s2).trans s3).trans s4
   refine ⟨_,rfl,_,rfl,_,_,rfl,rfl,_,rfl,rl,_,rfl,SqL.of (s14 _ _ hrl6),fun l5 hl5=>?_⟩
   rw [i2e,zkm]
   have s5:=zab (o:=.lst ((qs.drop (i+2)).map V.ref)) hl5
   refine ⟨l4,l5,_,_,rfl,rfl,s5 _ _ zaa,zaa,sz (by rw [ZAu,ZAu,ZA3,List.length_reverse,ZBl,ZBl,ZAd,ZAd];lia),fun l6 hl6=>?_⟩
   rw [<-ZA9]
   have s6:=zab (o:=.lst ((qs.take i++((qs.drop i).take 2).reverse++qs.drop (i+2)).map V.ref)) hl6
   have s16:=(s14.trans s5).trans s6
   refine k l6 (p.take i++((p.drop i).take 2).reverse++p.drop (i+2)) _ ⟨_,zaa,zaj (zas (zas (zd2 i rows6) (zje (zd2 2 (zd3 i rows6)))) (zd3 (i+2) rows6)) fun q r e=>e.same s16,fun r hr=>?_⟩ ?_ (D6.same s16) (k6.trans s16.keep)
   ·rcases ZBo.mp hr with h | h
    ·rcases ZBo.mp h with h | h
     ·exact ft r h
     ·exact fdr _ r (List.mem_of_mem_take (List.mem_reverse.mp h))
    ·exact fdr _ r h
   ·rw [ZA3,ZA3,List.length_reverse,ZBl,ZBl,ZAd,ZAd];lia
  clear c1 N1
  refine ⟨_,rfl,_,rfl,_,rfl,rl,_,rfl,SqL.of hrl6,fun l1 hl1=>?_⟩
  rw [zq2]
  have s1:=zab (o:=.lst ((qs.take i).map V.ref)) hl1
  refine ⟨_,rfl,_,rfl,_,rfl,szl rfl,fun l2 hl2=>⟨szl rfl,fun l3 hl3=>?_⟩⟩
  have s2:=zab (o:=.tup [.ref pw,.str (zb4 wd),.ref pu]) hl2
  have s3:=zab (o:=.lst [.ref l2]) hl3
  refine ⟨l1,l3,_,_,rfl,rfl,s3 _ _ (s2 _ _ zaa),zaa,sz (by rw [ZAu,ZBl];show _+1<=_;lia),fun l4 hl4=>?_⟩
  have e4:(qs.take i).map V.ref++[V.ref l2]=(qs.take i++[l2]).map V.ref:=by rw [ZA9];rfl
  rw [e4]
  have s4:=zab (o:=.lst ((qs.take i++[l2]).map V.ref)) hl4
  have s14:=((s1.trans s2).trans s3).trans s4
  refine ⟨_,rfl,_,rfl,_,_,rfl,rfl,_,rfl,rl,_,rfl,SqL.of (s14 _ _ hrl6),fun l5 hl5=>?_⟩
  rw [i1e,zkm]
  have s5:=zab (o:=.lst ((qs.drop (i+1)).map V.ref)) hl5
  refine ⟨l4,l5,_,_,rfl,rfl,s5 _ _ zaa,zaa,sz (by rw [ZAu,ZAu,ZA3,ZBl,ZAd];show _+1+_<=_;lia),fun l6 hl6=>?_⟩
  rw [<-ZA9]
  have s6:=zab (o:=.lst ((qs.take i++[l2]++qs.drop (i+1)).map V.ref)) hl6
  have s16:=(s14.trans s5).trans s6
  have s36:=((s3.trans s4).trans s5).trans s6
  have row2:zc5 _ l2 ⟨x,wd,us⟩:=⟨pw,pu,s36 _ _ zaa,s16 _ _ w6,s16 _ _ u6⟩
  refine k l6 (p.take i++[⟨x,wd,us⟩]++p.drop (i+1)) _ ⟨_,zaa,zas (zas (zaj (zd2 i rows6) fun q r e=>e.same s16) (.cons row2 .nil)) (zaj (zd3 (i+1) rows6) fun q r e=>e.same s16),fun r hr=>?_⟩ ?_ (D6.same s16) (k6.trans s16.keep)
  ·rcases ZBo.mp hr with h | h
   ·rcases ZBo.mp h with h | h
    ·exact ft r h
    ·rw [ZBd.mp h];exact f6
   ·exact fdr _ r h
  ·rw [ZA3,ZA3,ZBl,ZAd];show _+1+_<=_;lia
theorem zs4 {r:Int} (h0:0<=r) (h1:r<6):∃wd,wd≠.told/\atI [V.str "sum",.str "late",.str "soon",.str "sure",.str "back",.str "cross"] r=some (.str (zb4 wd)):=by
 have:r=0\/r=1\/r=2\/r=3\/r=4\/r=5:=by lia
 rcases this with rfl | rfl | rfl | rfl | rfl | rfl
 ·exact ⟨.sum,nofun,rfl⟩
 ·exact ⟨.late,nofun,rfl⟩
 ·exact ⟨.soon,nofun,rfl⟩
 ·exact ⟨.sure,nofun,rfl⟩
 ·exact ⟨.back,nofun,rfl⟩
 ·exact ⟨.cross,nofun,rfl⟩
theorem zzi {wd:MU.Wd}:atI [V.int 1,.int 2] (if inV (V.str (zb4 wd)) [V.str "sum",.str "back"] then 1 else 0)=some (.int (mn wd:Int)):=by
 cases wd<;>with_unfolding_all rfl
theorem zqb {wd:MU.Wd}:mn wd<=2:=by cases wd<;>decide
def zkr (H H':Hp):Prop:=∀b xs,H b=some (.tup xs)->H' b=some (.tup xs)
theorem zkr.trans {H H1 H2:Hp} (x:zkr H H1) (y:zkr H1 H2):zkr H H2:=fun b xs e=>y b xs (x b xs e)
theorem za7.t {H H1:Hp} (x:za7 H H1):zkr H H1:=fun b xs e=>x b _ e
theorem zcd.t {d:Addr} {H H1:Hp} {ys:List V} (x:zcd d H H1) (hd:H d=some (.lst ys)):zkr H H1:=fun b xs e=>zby x hd e
theorem zue {H:Hp} {l:Addr} {ys:List V} {o:HO} (h:H l=some (.lst ys)):zkr H (upd H l o):=fun b xs e=>by rw [zai (zba e h nofun)];exact e
theorem zc5.t {H H':Hp} {q:Addr} {r:MU.Row} (h:zc5 H q r) (k:zkr H H'):zc5 H' q r:=by
 obtain ⟨pw,pu,h1,h2,h3⟩:=h
 exact ⟨pw,pu,k _ _ h1,k _ _ h2,k _ _ h3⟩
theorem zdl.keep {H H':Hp} {wp ta fa d:Addr} {n la:Int} {T F:List (List Int)} {xs:List V} (h:zdl H wp ta fa n la T F) (k:zcd d H H') (hd:H d=some (.lst xs)) (h1:ta≠d) (h2:fa≠d):zdl H' wp ta fa n la T F:=by
 obtain ⟨ts,ht⟩:=h.t
 obtain ⟨fs,hf⟩:=h.f
 exact ⟨zby k hd h.tup,⟨ts,ht.keep k hd h1⟩,⟨fs,hf.keep k hd h2⟩⟩
theorem zsr {H:Hp} {Q:VK} {o:Option MU.zar} (h:∀sv H',za7 H H'->((sv=.non/\o=none)\/∃r x,sv=.ref r/\o=some x/\za4 H' r x)->Q sv H'):zfz H Q o:=
 ⟨fun e H' s=>h _ _ s (.inl ⟨rfl,e⟩),fun x e r H' _ s hx=>h _ _ s (.inr ⟨r,x,rfl,e,hx⟩)⟩
def zpe (K:ZCa):Sp:=fun vs H Q _=>∃(d sa wp ta fa:Addr) (n la:Int) (T F:List (List Int)),vs=[.ref d,.ref wp]/\zed K sa H d/\zdl H wp ta fa n la T F/\ta≠d/\fa≠d/\zc0 n la T F/\2<=n/\
 ∀l p' H',zny H' l p'->p'.length<=100->zed K sa H' d->zcd d H H'->Q (.ref l) H'
abbrev nDw:List Str:=["_law_d","_law_w","_law_told","_law_k","_law_rows","_law_word","_law_used","_law_said"]
theorem ztv:zan nDw ["_law_d","_law_w"] (zag sL_drawn_rows):=scm
theorem zzd:zbw (zag sL_drawn_rows) nDw (fsc [(".0",.local),("_law_bound",.local)]) ["_law_bound"] [none]:=com
theorem zzc:zbw (zag sL_drawn_rows) nDw (fsc [(".0",.local),("_law_k",.local),("_law_next",.globalImplicit),("len",.globalImplicit),("_law_d",.free),("_law_told",.free)]) ["_law_k","_law_d","_law_told"] [none,some 0,some 2]:=com
theorem zzb:zbw (zag sL_drawn_rows) nDw (fsc [(".0",.local),("_law_j",.local),("_law_next",.globalImplicit),("len",.globalImplicit),("_law_d",.free),("_law_rows",.free)]) ["_law_j","_law_d","_law_rows"] [none,some 0,some 4]:=com
theorem zza:zbw (zag sL_drawn_rows) nDw (fsc [(".0",.local),("_law_row",.local),("_law_rows",.free)]) ["_law_row","_law_rows"] [none,some 4]:=com
theorem zys:(["_law_bound"]:List Str).Nodup:=by decide+kernel
theorem zyr:(["_law_k","_law_d","_law_told"]:List Str).Nodup:=by decide+kernel
theorem zyq:(["_law_j","_law_d","_law_rows"]:List Str).Nodup:=by decide+kernel
theorem zyp:(["_law_row","_law_rows"]:List Str).Nodup:=by decide+kernel
theorem ok_drawn {f fN fB fF:Addr} {fd fdN fdB fdF:FuncData} (Fn0:Fn K mg "_law_drawn_rows" sL_drawn_rows ["_law_d","_law_w"] f fd) (FN:Fn K mg "_law_next" sNext ["_law_dice","_law_many"] fN fdN)
 (GN:zbb P w K mg base CX0 1 fN fdN ["_law_dice","_law_many"] (zh2 K)) (hlen:mg "len"=none) (htup:mg "tuple"=none) (hrange:mg "range"=none) (hint:mg "int"=none)
 (FB:Fn K mg "_law_bounds" sL_bounds ["_law_w"] fB fdB) (GB:zbb P w K mg base CX0 1 fB fdB ["_law_w"] zh3)
 (FF:Fn K mg "_law_follows" sL_follows ["_law_w","_law_word","_law_used"] fF fdF) (GF:zbb P w K mg base CX0 1 fF fdF ["_law_w","_law_word","_law_used"] zpa):zbb P w K mg base CX0 2 f fd ["_law_d","_law_w"] (zpe K):=by
 refine Fn0.F.ok ztv (fun _ _ _ _ h=>?_) fun _ A _ s H _ Q E hr h=>?_
 ·obtain ⟨_,_,_,_,_,_,_,_,_,rfl,_⟩:=h
  rfl
 ·obtain ⟨d,sa,wp,ta,fa,n,la,T,F,rfl,D,D0,tad,fad,hok,n2,k⟩:=h
  refine ⟨_,zah (zg7 (i:=2) ztv.nd rfl (Or.inr rfl) (zcs rfl (zbt (pcl GB hr FB (pa1 (pv 1)))) zzd (fun cl ex s0 H0=>⟨zcw 0 zys,zb9,za2 (zkb (K:=K) rfl) (zaw (pa1 zam)) (pv 0)⟩)))
   (zah (zg7 (i:=4) ztv.nd rfl (Or.inr rfl) (zcs rfl (zcv (by rfl) hrange (pa1 zae)) zzc (fun cl ex s0 H0=>⟨zcw 0 zyr,zb9,zaw (pa3 (zbm zal (pv 2) (pcl GN hr FN (pa2 (pv 1) (zay zgn (by rfl) hlen ZAn (pa1 (pv 2))))) (fun _ _=>rfl)) zam (zaw zdq))⟩)))
   (zah (zc9 PassesOwn.never rfl (zcv (by rfl) hrange (pa1 (pcl GN hr FN (pa2 (pv 0) zae)))) (zcw 3 ztv.nd)
    (zah (za5 5 ztv.nd (zbm zal (zcq (zd4 zam (zd4 zam (pa4 zam zam zam zam)))) (pcl GN hr FN (pa2 (pv 0) zae)) (fun _ _=>rfl)))
    (zah (zgw (i:=6) ztv.nd rfl rfl rfl (zcv (by rfl) hrange (pa1 (zbm zal (zcq (pa2 zae zae)) (zcm zq7 (by rfl) hint (by decide+kernel) (pa1 (zma zh9 (pv 5) (zaw (pa2 zam zam)) (by with_unfolding_all rfl)))) (fun _ _=>rfl)))) zzb (fun cl ex s0 H0=>⟨zcw 0 zyq,zb9,pcl GN hr FN (pa2 (pv 1) (zay zgn (by rfl) hlen ZAn (pa1 (pv 2))))⟩))
    (zah (za5 7 ztv.nd (pcl GF hr FF (pa3 (pv 1) (pv 5) (zcs rfl (zbt (pv 6)) zza (fun cl ex s0 H0=>⟨zcw 0 zyp,zb9,ixT (zbm zal (pv 1) (pv 0) (fun _ _=>rfl))⟩)))))
    (zah (ze3 (zbe (PW.pt (zhd (zb8 zp6 (pv 7) zeh) (zf1 (zb8 zbd (pcl GN hr FN (pa2 (pv 0) zae)) zae))))
     (zad (za5 7 ztv.nd (zaw (pa4 zam (pcl GN hr FN (pa2 (pv 0) (ixT (pv 1)))) (pcl GN hr FN (pa2 (pv 0) (ixT (pv 1)))) (za2 zcc (pcl GN hr FN (pa2 (pv 0) zae)) zae))))) zap))
    (zad (zbj (ziu ZAr ZAs ZAt zcn (pv 4)
     (pa1 (zaw (pa3 (pv 7) (pv 5) (zcm zdy (by rfl) htup (by decide+kernel) (pa1 (pv 6))))))))))))))
   (zad (zaq (pv 4))))),?_⟩
  refine ⟨_,rfl,wp,ta,fa,n,la,T,F,rfl,D0,hok,fun bl H1 hbl s1 R1=>?_⟩
  obtain ⟨bs,hbs⟩:=R1
  refine ⟨bl,rfl,⟨_,SqL.of hbs.1⟩,fun tl htl=>?_⟩
  have hbn:(zek n la T F).length<=100:=by
   unfold zek
   rw [ZA3,ZA3,zcu,zcl hok.fourT,zcl hok.fourF]
   have:=hok.tl
   have:=hok.fl
   have:=hok.n2
   lia
  have hbl2:bs.length=(zek n la T F).length:=Paired.length hbs.2
  refine zdc (K:=K) (a:=bl) (xs:=bs.map V.ref) (fun j σ' H'=>∃v ts,σ'=[v]/\H' tl=some (.lst (ts.map V.ref))/\Paired (fun q (r:List Int)=>H' q=some (.tup (V.str "tie"::r.map V.int))) ts ((zek n la T F).take j)/\ts.length=j/\za7 H1 H') ⟨none,[],rfl,zaa,.nil,rfl,zab htl⟩ ?_ ?_ ?_
  ·rintro j σ' H2 _ ⟨v,ts,rfl,_,_,_,s2⟩
   exact SqL.of (s2 _ _ hbs.1)
  ·rintro j y σ' H2 hy ⟨v,ts,rfl,e2,hts,htl',s2⟩
   rw [ZA0] at hy
   cases hq:bs[j]? with
   | none=>rw [hq] at hy;cases hy
   | some q=>
    rw [hq] at hy
    cases hy
    obtain ⟨r,hr',hqr⟩:=paired_get hbs.2 hq
    have hj:j<(zek n la T F).length:=(ZAv.mp hr').1
    have et:(zek n la T F).take (j+1)=(zek n la T F).take j++[r]:=by rw [ZBu,hr'];rfl
    obtain ⟨a1,b1,v1,er,_⟩:=hok.idxN r (ZA1 hr')
    subst er
    refine ⟨szl rfl,fun t1 ht1=>⟨_,rfl,t1,q,_,_,rfl,rfl,SqT.of zaa,SqT.of (zab ht1 _ _ (s2 _ _ hqr)),nofun,szl rfl,nofun,fun _ t2 ht2=>?_⟩⟩
    have s3:=zab (o:=.tup [V.str "tie"]) ht1
    have s4:=zab (o:=.tup ([V.str "tie"]++[a1,b1,v1].map V.int)) ht2
    have s34:=s3.trans s4
    have e4:=s34 _ _ e2
    refine ⟨_,e4,?_,_,ts++[t2],rfl,?_,?_,?_,fun b o e=>?_⟩
    ·rw [ZAu];exact zao (by lia)
    ·rw [zaa,ZA9];rfl
    ·rw [et]
     have kp:∀b (z:List Int),upd (upd H2 t1 (.tup [V.str "tie"])) t2 (.tup ([V.str "tie"]++[a1,b1,v1].map V.int)) b=some (.tup (V.str "tie"::z.map V.int))->upd (upd (upd H2 t1 (.tup [V.str "tie"])) t2 (.tup ([V.str "tie"]++[a1,b1,v1].map V.int))) tl (.lst (ts.map V.ref++[.ref t2])) b=some (.tup (V.str "tie"::z.map V.int)):=fun b z e=>by
      rw [zai (zba e e4 nofun)]
      exact e
     exact zas (zaj hts fun b z e=>kp b z (s34 _ _ e)) (.cons (kp _ _ zaa) .nil)
    ·rw [ZA3,htl'];rfl
    ·rw [zai (zac e htl)];exact s34 _ _ (s2 _ _ e)
  rintro σ' H2 ⟨v,ts,rfl,e2,hts,_,s2⟩
  rw [ZAu,hbl2,ZBi] at hts
  have s02:=s1.trans s2
  have nd:∀{a:Addr},H a=none->a≠d:=fun {a} e q=>by
   subst q
   obtain ⟨o,q⟩:=D.there
   rw [e] at q
   cases q
  have dl:∀{H':Hp},zed K sa H' d->∃xs,H' d=some (.lst xs):=fun D'=>let ⟨p,e⟩:=D'.at_;⟨_,e⟩
  have D2:=D.same s02
  obtain ⟨_,hd0⟩:=dl D
  obtain ⟨_,hd2⟩:=dl D2
  have htl0:H tl=none:=s1.free htl
  have n0:0<(zek n la T F).length:=by
   unfold zek
   rw [ZA3,ZA3,zcu]
   lia
  have htsl:ts.length=(zek n la T F).length:=Paired.length hts
  refine ⟨_,rfl,by decide,by decide,fun l hl=>?_⟩
  have ld:l≠d:=(zac hd2 hl).symm
  have ltl:l≠tl:=(zac e2 hl).symm
  have hl0:H l=none:=s02.free hl
  refine zes (n:=4) (fun i σ' H'=>∃v,∃(qs:List Addr) (p:List MU.Row),σ'=[v,some (.ref d),some (.ref tl)]/\H' l=some (.lst (qs.map V.ref))/\Paired (zc5 H') qs p/\(∀r∈p,r.used.length<=2/\zis (zak F) r.what)/\p.length=i/\zed K sa H' d/\zcd d H2 H') ?_ ?_ ?_
  ·exact ⟨none,[],[],rfl,zaa,.nil,(fun r hr=>nomatch hr),rfl,D2.new hl,(zab hl).keep⟩
  ·rintro i σ' H3 hi ⟨v,qs,p,rfl,e3,hps,hfm,hlen3,D3,k3⟩
   have et3:=k3 _ _ e2 (nd htl0)
   refine ⟨_,rfl,_,rfl,_,rfl,tl,_,rfl,et3,d,sa,_,rfl,D3,by rw [ZAu];lia,fun z H4 z0 z1 D4 k4=>?_⟩
   rw [ZAu] at z1
   obtain ⟨z,rfl⟩:∃j:Nat,z=j:=⟨z.toNat,by lia⟩
   obtain ⟨q,hq⟩:∃q,ts[z]?=some q:=⟨_,ZAx (by lia)⟩
   obtain ⟨row,hrow,hqr⟩:=paired_get hts hq
   obtain ⟨a1,b1,v1,er,a0,a2,b0,b2,_⟩:=hok.idxN row (ZA1 hrow)
   subst er
   have k24:=k3.trans k4
   have hqr:H4 q=some (.tup (zb6 ⟨true,a1.toNat,b1.toNat,v1⟩)):=by
    have:=zby k24 hd2 hqr
    rw [this]
    unfold zb6
    show some (HO.tup [V.str "tie",V.int a1,V.int b1,V.int v1])=some (HO.tup [V.str "tie",V.int ((a1.toNat:Nat):Int),V.int ((b1.toNat:Nat):Int),V.int v1])
    rw [ZAg (by lia),ZAg (by lia)]
   have hat:atI (ts.map V.ref) (z:Int)=some (.ref q):=zbv (by rw [ZA0,hq];rfl)
   refine ⟨tl,_,_,_,rfl,rfl,k24 _ _ e2 (nd htl0),hat,ZBa _,fun t0 ht0=>⟨szl rfl,fun t1 ht1=>?_⟩⟩
   have s5:=zab (o:=.tup []) ht0
   have s6:=zab (o:=.tup [.ref q,.str "told",.ref t0]) ht1
   have s46:=s5.trans s6
   have e4:=k4 _ _ e3 ld
   have e6:=s46 _ _ e4
   have hd3:=dl D3
   obtain ⟨_,hd3⟩:=hd3
   refine ⟨_,e6,?_,_,qs++[t1],p++[⟨⟨true,a1.toNat,b1.toNat,v1⟩,.told,[]⟩],rfl,?_,?_,fun r hr=>?_,by rw [ZA3,hlen3];rfl,?_,?_⟩
   ·rw [ZAu,Paired.length hps];exact zao (by lia)
   ·rw [zaa,ZA9];rfl
   ·have kk:=((zcd.t k4 hd3).trans (za7.t s46)).trans (zue (o:=.lst (qs.map V.ref++[.ref t1])) e6)
    refine zas (zaj hps fun q r e=>e.t kk) (.cons ?_ .nil)
    have ku:=zue (o:=.lst (qs.map V.ref++[.ref t1])) e6
    exact ⟨q,t0,ku _ _ zaa,ku _ _ (s46 _ _ hqr),ku _ _ (s6 _ _ zaa)⟩
   ·rcases ZBo.mp hr with h | h
    ·exact hfm r h
    ·rw [ZBd.mp h]
     exact ⟨ZBa _,fun z=>nomatch z⟩
   ·exact (D4.same s46).upd e6 ld
   ·intro b o eb hb
    rw [zai (zac eb hl)]
    exact s46 _ _ (k24 _ _ eb hb)
  rintro σ' H3 ⟨v,qs,p,rfl,e3,hps,hfm,hlen3,D3,k3⟩
  have k03:zcd d H H3:=(za7.keep s02).trans k3
  clear k3 hts e2
  refine ⟨_,rfl,d,sa,_,rfl,D3,by decide,fun c H4 c0 c1 D4 k4=>?_⟩
  obtain ⟨c,rfl⟩:∃j:Nat,c=j:=⟨c.toNat,by lia⟩
  obtain ⟨_,hd3⟩:=dl D3
  refine ⟨_,rfl,by lia,by lia,zd7 (n:=c) (fun i σ' H'=>∃v3 v5 v6 v7,∃(qs:List Addr) (p:List MU.Row),σ'=[some (.ref d),some (.ref wp),some (.ref tl),v3,some (.ref l),v5,v6,v7]/\H' l=some (.lst (qs.map V.ref))/\Paired (zc5 H') qs p/\(∀r∈p,r.used.length<=2/\zis (zak F) r.what)/\p.length=4+i/\zed K sa H' d/\zcd d H H')
   ⟨none,none,none,none,qs,p,rfl,k4 _ _ e3 ld,zaj hps fun q r e=>e.t (zcd.t k4 hd3),hfm,hlen3,D4,k03.trans k4⟩ ?_ ?_⟩
  ·rintro i σ' H5 hi ⟨v3,v5,v6,v7,qs,p,rfl,e5,hps,hfm,hlen5,D5,k5⟩
   have hql:qs.length=p.length:=Paired.length hps
   obtain ⟨_,hd5⟩:=dl D5
   refine ⟨szl rfl,fun w1 hw1=>?_⟩
   have s6:=zab (o:=.lst [V.str "sum",.str "late",.str "soon",.str "sure",.str "back",.str "cross"]) hw1
   refine ⟨_,rfl,d,sa,_,rfl,D5.same s6,by decide,fun e H7 e0 e1 D7 k7=>?_⟩
   obtain ⟨wd,hwt,hwd⟩:=zs4 e0 e1
   refine ⟨w1,_,_,_,rfl,rfl,k7 _ _ zaa (zac hd5 hw1).symm,hwd,?_⟩
   have hd6:=s6 _ _ hd5
   have e7:=k7 _ _ (s6 _ _ e5) ld
   have hps7:Paired (zc5 H7) qs p:=zaj hps fun q r e=>e.t ((za7.t s6).trans (zcd.t k7 hd6))
   have k07:=(k5.trans (za7.keep s6)).trans k7
   clear hwd e5 hps k5 hd5
   clear k7 hd6 s6
   refine ⟨szl rfl,fun l1 hl1=>⟨_,rfl,szl rfl,fun l2 hl2=>?_⟩⟩
   have s8:=zab (o:=.lst [V.int 1,.int 2]) hl1
   have s9:=zab (o:=.tup [V.str "sum",.str "back"]) hl2
   have s79:=s8.trans s9
   refine ⟨l2,_,rfl,.inr (SqT.of zaa),rfl,rfl,.inr ⟨_,rfl,l1,_,_,_,rfl,rfl,s9 _ _ zaa,zzi,_,rfl,?_,?_,fun u1 hu1=>?_⟩⟩
   ·have:=zqb (wd:=wd);lia
   ·have:=zqb (wd:=wd);lia
   have k09:=k07.trans (za7.keep s79)
   have e9:=s79 _ _ e7
   have hps9:Paired (zc5 _) qs p:=zaj hps7 fun q r e=>e.same s79
   have D9:=D7.same s79
   generalize upd (upd H7 l1 (.lst [V.int 1,.int 2])) l2 (.tup [V.str "sum",.str "back"])=H9 at*
   clear s79 s8 s9 hps7 e7 D7 k07
   obtain ⟨_,hd9⟩:=dl D9
   have ud:u1≠d:=(zac hd9 hu1).symm
   have ul:u1≠l:=(zac e9 hu1).symm
   refine zes (n:=mn wd) (fun j σ' H'=>∃v,∃vs:List Nat,σ'=[v,some (.ref d),some (.ref l)]/\vs.length=j/\(∀z∈vs,z<p.length)/\H' u1=some (.lst (vs.map fun i:Nat=>V.int (i:Int)))/\zed K sa H' d/\zcd d H9 H') ⟨none,[],rfl,rfl,(fun z hz=>nomatch hz),zaa,D9.new hu1,(zab hu1).keep⟩ ?_ ?_
   ·rintro j σ' H10 hj ⟨v,vs,rfl,hlv,hvs,eu,D10,k10⟩
    refine ⟨_,rfl,_,rfl,l,_,rfl,k10 _ _ e9 ld,d,sa,_,rfl,D10,by rw [ZAu];lia,fun e H11 e0 e1 D11 k11=>?_⟩
    rw [ZAu] at e1
    obtain ⟨e,rfl⟩:∃j:Nat,e=j:=⟨e.toNat,by lia⟩
    have eu:=k11 _ _ eu ud
    refine ⟨_,eu,?_,_,vs++[e],rfl,by rw [ZA3,hlv];rfl,fun z hz=>?_,?_,D11.upd eu ud,fun b o eb hb=>?_⟩
    ·rw [ZAu];exact zao (by have:=zqb (wd:=wd);lia)
    ·rcases ZBo.mp hz with h | h
     ·exact hvs z h
     ·rw [ZBd.mp h];lia
    ·rw [zaa,ZA9];rfl
    ·rw [zai (zac eb hu1)];exact k11 _ _ (k10 _ _ eb hb) hb
   rintro σ' H10 ⟨v,vs,rfl,hlv,hvs,eu,D10,k10⟩
   have e10:=k10 _ _ e9 ld
   have hps10:Paired (zc5 H10) qs p:=zaj hps9 fun q r e=>e.t (zcd.t k10 hd9)
   have k010:=k09.trans k10
   clear k10 hps9 e9 D9 k09 hd9
   have hux:Paired (fun (z:Nat) (x:MU.zar)=>∃ri,p[z]?=some ri/\ri.what=x) vs (vs.map (wh p)):=zfr fun z hz=>by
    have hz:=hvs z hz
    have e:p[z]?=some p[z]:=ZAx hz
    exact ⟨_,e,(zn0 e).symm⟩
   have ends:∀x∈vs.map (wh p),zis (zak F) x:=fun x hx=>by
    obtain ⟨z,hz,rfl⟩:=ZBr.mp hx
    have hz:=hvs z hz
    have e:p[z]?=some p[z]:=ZAx hz
    rw [zn0 e]
    exact (hfm _ (ZA1 e)).2
   have hul:vs.length=(vs.map (wh p)).length:=(ZAu ..).symm
   generalize hxs:vs.map (wh p)=xs at*
   refine ⟨_,rfl,_,rfl,_,rfl,u1,rfl,⟨_,SqL.of eu⟩,fun Db hDb=>?_⟩
   refine zdc (K:=K) (a:=u1) (xs:=vs.map fun i:Nat=>V.int (i:Int)) (fun j σ' H'=>∃v ps,σ'=[v,some (.ref l)]/\H' Db=some (.lst (ps.map V.ref))/\Paired (za4 H') ps (xs.take j)/\ps.length=j/\za7 H10 H') ⟨none,[],rfl,zaa,.nil,rfl,zab hDb⟩ ?_ ?_ ?_
   ·rintro j σ' H11 _ ⟨v,ps,rfl,_,_,_,s11⟩
    exact SqL.of (s11 _ _ eu)
   ·rintro j x σ' H11 hx ⟨v,ps,rfl,e11,hws,hwl,s11⟩
    rw [ZA0] at hx
    cases q2:vs[j]? with
    | none=>rw [q2] at hx;cases hx
    | some z=>
     rw [q2] at hx
     cases hx
     have hj:=(ZAv.mp q2).1
     obtain ⟨x,hxj,ri,hri,ex⟩:=paired_get hux q2
     obtain ⟨qi,pwi,pui,hati,k1,k2,k3⟩:=zi7 hps10 hri
     subst ex
     exact ⟨_,rfl,zoo rfl (s11 _ _ e10) hati (rdT (s11 _ _ k1) rfl ⟨_,e11,by rw [ZAu];exact zao (by have:=zqb (wd:=wd);omega),_,ps++[pwi],rfl,zhz hDb e11 hws hwl s11 hxj k2⟩)⟩
   rintro σ' H11 ⟨v,ps,rfl,e11,hws,hwl,s11⟩
   rw [ZAu,hul,ZBi] at hws
   have k011:=k010.trans (za7.keep s11)
   have D11:=D10.same s11
   refine ⟨wp,ta,fa,Db,n,la,T,F,ps,xs,wd,rfl,D0.keep k011 hd0 tad fad,hok,e11,hws,by rw [<-hul];exact hlv,ends,zsr fun sv H12 s12 hsv=>?_⟩
   have k012:=k011.trans (za7.keep s12)
   have D12:=D11.same s12
   have s1012:=s11.trans s12
   clear e11 hws s11
   refine ⟨fun σ' H'=>∃pw x,σ'=[some (.ref d),some (.ref wp),some (.ref tl),some (.int (0+(i:Int))),some (.ref l),some (.str (zb4 wd)),some (.ref u1),some (.ref pw)]/\za4 H' pw x/\zis (zak F) x/\zed K sa H' d/\zcd d H12 H',?_,?_⟩
   ·have KK:=k012
    have DD:=D12
    have KB:=zcd.refl d H12
    rcases hsv with ⟨rfl,_⟩ | ⟨rr,x,rfl,ex,hx⟩
    ·refine ⟨_,rfl,rfl,_,rfl,zbx (by decide+kernel) (zhb ?_)⟩
     refine ⟨_,rfl,_,rfl,rdT (D0.keep KK hd0 tad fad).tup rfl ⟨d,sa,_,rfl,DD,by lia,fun a Ha a0 a1 Da ka=>?_⟩⟩
     refine ⟨_,rfl,_,rfl,rdT (D0.keep (KK.trans ka) hd0 tad fad).tup rfl ⟨d,sa,_,rfl,Da,by lia,fun b Hb b0 b1 Db kb=>?_⟩⟩
     refine ⟨_,rfl,d,sa,_,rfl,Db,by decide,fun c Hc c0 c1 Dc kc=>⟨_,_,rfl,rfl,szl rfl,fun t ht=>?_⟩⟩
     obtain ⟨a,rfl⟩:∃j:Nat,a=j:=⟨a.toNat,by lia⟩
     obtain ⟨b,rfl⟩:∃j:Nat,b=j:=⟨b.toNat,by lia⟩
     have st:=zab (o:=.tup [V.str "tie",.int (a:Int),.int (b:Int),.int (c-6)]) ht
     exact ⟨t,⟨true,a,b,c-6⟩,rfl,zaa,nofun,Dc.same st,(((KB.trans ka).trans kb).trans kc).trans st.keep⟩
    ·refine ⟨_,rfl,rfl,_,rfl,zdj (ZB9 fun z=>nomatch z) ⟨_,rfl,d,sa,_,rfl,D12,by decide,fun e H13 _ _ D13 k13=>⟨rfl,_,rfl,ziw (fun _=>?_) (fun _=>?_)⟩⟩⟩
     ·have KK:=k012.trans k13
      have DD:=D13
      have KB:=k13
      refine ⟨_,rfl,_,rfl,rdT (D0.keep KK hd0 tad fad).tup rfl ⟨d,sa,_,rfl,DD,by lia,fun a Ha a0 a1 Da ka=>?_⟩⟩
      refine ⟨_,rfl,_,rfl,rdT (D0.keep (KK.trans ka) hd0 tad fad).tup rfl ⟨d,sa,_,rfl,Da,by lia,fun b Hb b0 b1 Db kb=>?_⟩⟩
      refine ⟨_,rfl,d,sa,_,rfl,Db,by decide,fun c Hc c0 c1 Dc kc=>⟨_,_,rfl,rfl,szl rfl,fun t ht=>?_⟩⟩
      obtain ⟨a,rfl⟩:∃j:Nat,a=j:=⟨a.toNat,by lia⟩
      obtain ⟨b,rfl⟩:∃j:Nat,b=j:=⟨b.toNat,by lia⟩
      have st:=zab (o:=.tup [V.str "tie",.int (a:Int),.int (b:Int),.int (c-6)]) ht
      exact ⟨t,⟨true,a,b,c-6⟩,rfl,zaa,nofun,Dc.same st,(((KB.trans ka).trans kb).trans kc).trans st.keep⟩
     ·obtain ⟨_,hd12⟩:=dl D12
      exact ⟨rr,x,rfl,zby k13 hd12 hx,znr ex,D13,k13⟩
   rintro σ' H13 ⟨pw,x,rfl,hx,hxe,D13,k13⟩
   obtain ⟨_,hd12⟩:=dl D12
   have e13:=k13 _ _ (s1012 _ _ e10) ld
   have eu13:=k13 _ _ (s1012 _ _ eu) ud
   have k1013:zkr H10 H13:=(za7.t s1012).trans (zcd.t k13 hd12)
   refine ⟨_,rfl,.inl ⟨rfl,_,SqL.of e13⟩,?_⟩
   refine ⟨_,rfl,_,rfl,_,rfl,u1,_,rfl,.inl ⟨SqL.of eu13,fun t1 ht1=>⟨szl rfl,fun t2 ht2=>?_⟩⟩⟩
   have s14:=zab (o:=.tup (vs.map fun i:Nat=>V.int (i:Int))) ht1
   have s15:=zab (o:=.tup [.ref pw,.str (zb4 wd),.ref t1]) ht2
   have e15:=s15 _ _ (s14 _ _ e13)
   refine ⟨l,_,_,rfl,rfl,e15,?_,?_⟩
   ·rw [ZAu,hql];exact zao (by lia)
   have ku:=zue (o:=.lst (qs.map V.ref++[.ref t2])) e15
   refine ⟨_,_,_,_,qs++[t2],p++[⟨x,wd,vs⟩],rfl,?_,?_,fun r hr=>?_,?_,?_,?_⟩
   ·rw [zaa,ZA9];rfl
   ·refine zas (zaj hps10 fun q r e=>e.t ((k1013.trans (za7.t (s14.trans s15))).trans ku)) (.cons ?_ .nil)
    exact ⟨pw,t1,ku _ _ zaa,ku _ _ (s15 _ _ (s14 _ _ hx)),ku _ _ (s15 _ _ zaa)⟩
   ·rcases ZBo.mp hr with h | h
    ·exact hfm r h
    ·rw [ZBd.mp h]
     exact ⟨by show vs.length<=2;have:=zqb (wd:=wd);lia,hxe⟩
   ·rw [ZA3,hlen5];show 4+i+1=_;lia
   ·exact ((D13.same s14).same s15).upd e15 ld
   ·exact zch (((k012.trans k13).trans s14.keep).trans s15.keep) hl0
  ·rintro σ' H5 ⟨v3,v5,v6,v7,qs,p,rfl,e5,hps,hfm,hlen5,D5,k5⟩
   exact ⟨_,rfl,k l p H5 ⟨qs,e5,hps,fun r hr=>(hfm r hr).1⟩ (by lia) D5 k5⟩
def zg4 (F:MU.zax) (x:Tri):Bool:=match F x.2.1 with
 | some f=>decide (f.2.1<x.2.2) && decide (x.2.2<=f.2.2)
 | none=>false
def zo4:Sp:=fun vs H Q _=>∃(d q:Addr) (F:MU.zax) (x:Tri) (f:Nat×Int×Int),vs=[.ref d,.ref q]/\zc1 H d F/\zeb H q x/\F x.2.1=some f/\Q (.bl (zg4 F x)) H
theorem zzt:zan ["by_end","wait","fall"] ["by_end","wait"] (zag sP_is_told):=scm
theorem ok_isTold {f:Addr} {fd:FuncData} (F:Fn K mg "is_told" sP_is_told ["by_end","wait"] f fd):zbb P w K mg base CX0 1 f fd ["by_end","wait"] zo4:=by
 refine F.F.ok zzt (fun _ _ _ _ h=>?_) fun _ A _ s H _ Q E hr h=>?_
 ·obtain ⟨_,_,_,_,_,rfl,_⟩:=h
  rfl
 ·obtain ⟨d,q,Fa,x,fa,rfl,FA,hw,hf,k⟩:=h
  have hu:=zfh hr
  refine ⟨_,zah (za5 2 zzt.nd (zda hu (pv 0) (ixT (pv 1)) (fun _ _=>rfl)))
   (zad (zaq (zhp zhe zfy (ixT (pv 2)) (ixT (pv 1)) (ixT (pv 2))))),?_⟩
  obtain ⟨kvs,hd,hl,f0,f1⟩:=FA.at_
  obtain ⟨p,e1,e2⟩:=f1 _ _ hf
  have ev:zg4 Fa x=(decide (fa.2.1<x.2.2) && decide (x.2.2<=fa.2.2)):=by unfold zg4;rw [hf]
  rw [ev] at k
  refine ⟨_,rfl,_,rfl,rdT hw rfl ⟨d,_,rfl,e1▸ze5.k (k:=Sum.inl (x.2.1:Int)) hd,?_⟩⟩
  refine ⟨_,rfl,rdT e2 rfl ⟨_,rfl,rdT hw rfl ⟨_,_,rfl,rfl,_,rfl,?_⟩⟩⟩
  by_cases c:fa.2.1<x.2.2
  ·rw [ZB8 c] at k
   refine zf9 c ⟨_,rfl,rdT e2 rfl ⟨_,_,rfl,rfl,?_⟩⟩
   exact k
  ·rw [ZB9 c] at k
   exact zd6 c k
def zxg (H:Hp) (r:Addr) (st:MU.St) (F:MU.zax):Prop:=∃lt lw ps qs L M,H r=some (.tup [.str "rule",.ref lt,.ref lw])/\H lt=some (.lst (ps.map V.ref))/\Paired (zeb H) ps L/\zxw st true L/\
 H lw=some (.lst (qs.map V.ref))/\Paired (zeb H) qs (M.filter (zg4 F))/\zxw st false M
def zvs (H:Hp) (r:Addr) (st:MU.St) (b:Nat):Prop:=∃l ns ps,H r=some (.tup [.str "paper",.ref l])/\H l=some (.lst (ps.map V.ref))/\Paired (zc5 H) ps (zfe st.rows ns)/\zxu st.rows b ns
def zdf (n:Nat) (la:Int) (T F:List (List Int)) (Te:Nat):MU.St:=MU.run n (zak F) (zio n la T F) Te
def ztp (CW:Addr):Sp:=fun vs H Q _=>∃(wb:Addr) (n:Nat) (la:Int) (T F:List (List Int)) (Te:Nat),vs=[.ref wb]/\ze1 CW H wb (n:Int) la T F/\zc0 (n:Int) la T F/\zvv n (zak F) (zio n la T F) Te/\
 ∀r H',H r=none->za7 H H'->(∀b,(zdf n la T F Te).bar=some b->zvs H' r (zdf n la T F Te) b->Q (.ref r) H')/\((zdf n la T F Te).bar=none->zxg H' r (zdf n la T F Te) (zak F)->Q (.ref r) H')
theorem zyd:zan ["web","closing","waits"] ["web"] (zag sP_kept):=scm
theorem zBo:zbw (zag sP_kept) ["web","closing","waits"] (fsc [(".0",.local),("wait",.local),("is_told",.globalImplicit),("closing",.free)]) ["wait","closing"] [none,some 1]:=com
theorem zA4:(["wait","closing"]:List Str).Nodup:=by decide+kernel
theorem ok_kept {f C CW fI fA fB fP fT:Addr} {fd fdI fdA fdB fdP fdT:FuncData} (F:Fn K mg "kept" sP_kept ["web"] f fd) (T:zhg K mg C) (M:Mk K C fI) (hC:mg "Closing"=some (.ref C))
 (bI:zdd K fdI ["self","web"] []) (GI:zbb P w K mg base CX0 4 fI fdI ["self","web"] (zpg C CW))
 (mA:zks K C "draw_all" fA) (bA:zdd K fdA ["self"] []) (GA:zbb P w K mg base CX0 5 fA fdA ["self"] (zwg C))
 (mB:zks K C "best_drawn" fB) (bB:zdd K fdB ["self","kind"] []) (GB:zbb P w K mg base CX0 1 fB fdB ["self","kind"] (ztr C))
 (FP:Fn K mg "paper_up_to" sP_paper_up_to ["rows","last"] fP fdP) (GP:zbb P w K mg base CX0 2 fP fdP ["rows","last"] zo7)
 (FT:Fn K mg "is_told" sP_is_told ["by_end","wait"] fT fdT) (GT:zbb P w K mg base CX0 1 fT fdT ["by_end","wait"] zo4):zbb P w K mg base CX0 6 f fd ["web"] (ztp CW):=by
 refine F.F.ok zyd (fun _ _ _ _ h=>?_) fun _ A _ s H _ Q E hr h=>?_
 ·obtain ⟨_,_,_,_,_,_,rfl,_⟩:=h
  rfl
 ·obtain ⟨wb,n,la,rT,rF,Te,rfl,W0,hok,hE,k⟩:=h
  have hr1:zel 1 _:=hr.mono (by decide)
  have hr2:zel 2 _:=hr.mono (by decide)
  refine ⟨_,zaf (zg7 (i:=1) zyd.nd rfl (Or.inr rfl) (zpz M GI hr rfl hC bI .nil zdp (pa1 (pv 0))))
   (zaf (zbj (zho (pv 1) T.cl mA GA hr bA .nil zdp))
   (zaf (zbe (zb8 zp2 (zcb (pv 1) rfl) zeh) (zad (zaq (zaw (pa2 zam (pcl GP hr2 FP (pa2 (zcb (pv 1) rfl) (zcb (pv 1) rfl))))))) zap)
   (zaf (zgw (i:=2) zyd.nd rfl rfl rfl (zbt (zca (pv 1) T.cl mB GB hr1 bB .nil zdp (pa1 zam))) zBo (fun cl ex s0 H0=>⟨zcw 0 zA4,zf5 (zh6 (pcl GT hr1 FT (pa2 (zfc (K:=K) rfl (pv 1) rfl) (pv 0)))),pv 0⟩))
   (zad (zaq (zaw (pa3 zam (zca (pv 1) T.cl mB GB hr1 bB .nil zdp (pa1 zam)) (pv 2)))))))),?_⟩
  have n1:=hok.n1
  have n2:=hok.n2
  refine fun N1 c1=>⟨_,rfl,fun p dx hp hdx hne=>?_⟩
  have W1:ze1 CW (upd (upd H dx (.own p)) p (.ins C dx [])) wb (n:Int) la rT rF:=W0.same fun b o e=>by rw [zai (zac e hp),zai (zac e hdx)];exact e
  have keep0:∀b o,H b=some o->upd (upd H dx (.own p)) p (.ins C dx []) b=some o:=fun b o e=>by rw [zai (zac e hp),zai (zac e hdx)];exact e
  refine ⟨p,wb,dx,n,la,rT,rF,rfl,zaa,W1,hok,fun H2 be rl bd c2 hbe hrl hbd k2=>⟨rfl,c1 _ _ ?_⟩⟩
  have s2:za7 H H2:=fun b o e=>k2 _ _ (keep0 _ _ e) (zac e hp)
  have none0:∀{b:Addr},upd (upd H dx (.own p)) p (.ins C dx []) b=none->H b=none:=fun {b} e=>by
   cases q:H b with
   | none=>rfl
   | some x=>rw [keep0 _ _ q] at e;cases e
  have rlH:=none0 hrl
  have bdH:=none0 hbd
  clear c1 N1
  obtain ⟨dx2,hp2⟩:=c2.ins
  refine fun N2 c2'=>⟨_,rfl,p,dx2,_,rfl,hp2,zoi (by decide+kernel) (by decide+kernel) (by decide+kernel) (by decide+kernel) (by decide+kernel),p,be,rl,bd,n,_,_,Te,rfl,c2,zrb hok,hok.fok,by lia,hE,fun H3 c3 S3 k3=>c2' _ _ ?_⟩
  clear c2'
  have hcl:MU.run n (zak rF) (zio n la rT rF) Te=zdf n la rT rF Te:=rfl
  rw [hcl] at c3 S3
  have s3:za7 H H3:=fun b o e=>k3 _ _ (s2 _ _ e) (zac e hp) (zac e rlH) (zac e bdH)
  have hU:MU.zhw (zdf n la rT rF Te):=MU.zjw (MU.zi1 _ _ MU.zjk) Te
  have few:(zdf n la rT rF Te).rows.length<=16000000:=hE.few Te (ZAw _)
  generalize zdf n la rT rF Te=st at*
  obtain ⟨dx3,hp3⟩:=c3.ins
  obtain ⟨qs,hrl3,hrows⟩:=c3.rows
  refine fun N3 c3'=>⟨_,rfl,p,C,dx3,_,_,rfl,hp3,T.cl,T.nX,zs3,rfl,_,rfl,?_⟩
  have lastH:∀{H':Hp} {b:Addr},za7 H H'->H' b=none->H b=none:=fun {H' b} ss e=>by
   cases q:H b with
   | none=>rfl
   | some x=>rw [ss _ _ q] at e;cases e
  cases hbar:st.bar with
  | some b=>
   obtain ⟨r0,hr0,_⟩:=hU.2 b hbar
   have hb:=(ZAv.mp hr0).1
   refine zbx rfl ⟨_,rfl,p,C,dx3,_,_,rfl,hp3,T.cl,T.nR,zgo,_,rfl,p,C,dx3,_,_,rfl,hp3,T.cl,T.nX,zs3,rl,qs,st.rows,b,by rw [hbar];rfl,hrl3,hrows,hU.1,hb,by lia,fun l H4 ns ps hl s4 hN el hps=>⟨szl rfl,fun r hr'=>?_⟩⟩
   have s5:=zab (o:=.tup [.str "paper",.ref l]) hr'
   have s35:=(s3.trans s4).trans s5
   exact (k r _ (lastH (s3.trans s4) hr') s35).1 b hbar ⟨l,ns,ps,zaa,s5 _ _ el,zaj hps fun q r e=>e.same s5,hN⟩
  | none=>
   refine zdj rfl (c3' _ _ ?_)
   clear c3' N3
   have inB:∀{tt:Bool} {L:List Tri},zxw st tt L->L.length<=64/\∀x∈L,∃w',w'.tie=tt/\w'.b=x.2.1/\∃j,MU.wat st j=some w':=fun {tt L} hB=>by
    have mem:∀x∈L,∃w',w'.tie=tt/\w'.a=x.1/\w'.b=x.2.1/\∃j,MU.wat st j=some w':=fun x hx=>by
     obtain ⟨a,b,v⟩:=x
     have hv:=(hB.has a b v).mp hx
     unfold MU.val at hv
     cases hq:st.best (tt,a,b) with
     | none=>rw [hq] at hv;cases hv
     | some j=>
      obtain ⟨w',h1,h2⟩:=S3.good.at_ _ _ hq
      have h4:=MU.zde h2
      exact ⟨w',h4.1,h4.2.1,h4.2.2,j,h1⟩
    refine ⟨?_,fun x hx=>?_⟩
    ·have hnd:(L.map fun x=>x.1*8+x.2.1).Nodup:=by
      have h0:=hB.once
      unfold List.Nodup at h0 ⊢
      rw [List.pairwise_map] at h0 ⊢
      refine List.Pairwise.imp_of_mem (fun {x y} hx hy e z=>e ?_) h0
      obtain ⟨w1,_,a1,b1,j1,e1⟩:=mem x hx
      obtain ⟨w2,_,a2,b2,j2,e2⟩:=mem y hy
      have l1:=S3.good.lt _ _ e1
      have l2:=S3.good.lt _ _ e2
      exact Prod.ext (by show x.1=y.1;lia) (by show x.2.1=y.2.1;lia)
     have:=MH.zey 64 _ hnd fun z hz=>by
      obtain ⟨x,hx,rfl⟩:=ZBr.mp hz
      obtain ⟨w1,_,a1,b1,j1,e1⟩:=mem x hx
      have l1:=S3.good.lt _ _ e1
      show x.1*8+x.2.1<64
      lia
     rwa [ZAu] at this
    ·obtain ⟨w1,h1,_,h2,h3⟩:=mem x hx
     exact ⟨w1,h1,h2,h3⟩
   refine fun N4 c4=>⟨_,rfl,p,dx3,_,rfl,hp3,zoi (by decide+kernel) (by decide+kernel) (by decide+kernel) (by decide+kernel) (by decide+kernel),p,be,rl,bd,n,_,st,false,rfl,c3,S3.good,by lia,by lia,fun l H4 ps M hl s4 el hps hM=>⟨l,rfl,⟨_,SqL.of el⟩,fun Da hDa=>?_⟩⟩
   obtain ⟨hM64,hMw⟩:=inB hM
   have hpl:ps.length=M.length:=Paired.length hps
   have c4s:=c3.same s4
   refine zdc (K:=K) (a:=l) (xs:=ps.map V.ref) (fun i σ' H'=>∃v ps',σ'=[v,some (.ref p)]/\H' Da=some (.lst (ps'.map V.ref))/\Paired (zeb H') ps' ((M.take i).filter (zg4 (zak rF)))/\ps'.length<=i/\za7 H4 H') ⟨none,[],rfl,zaa,.nil,ZAw _,zab hDa⟩ ?_ ?_ ?_
   ·rintro i σ' H5 _ ⟨v,ps',rfl,_,_,_,s5⟩
    exact SqL.of (s5 _ _ el)
   ·rintro i y σ' H5 hy ⟨v,ps',rfl,e5,hps',hl',s5⟩
    rw [ZA0] at hy
    cases hq:ps[i]? with
    | none=>rw [hq] at hy;cases hy
    | some q=>
     rw [hq] at hy
     cases hy
     obtain ⟨x,hx,hqx⟩:=paired_get hps hq
     have hi:i<M.length:=(ZAv.mp hx).1
     obtain ⟨w1,t1,b1,j1,g1⟩:=hMw x (ZA1 hx)
     obtain ⟨fa,hfa⟩:=S3.ends j1 w1 g1 t1
     rw [b1] at hfa
     have c5:=c4s.same s5
     obtain ⟨dx5,hp5⟩:=c5.ins
     have et:M.take (i+1)=M.take i++[x]:=by rw [ZBu,hx];rfl
     refine ⟨_,rfl,p,C,dx5,_,_,rfl,hp5,T.cl,T.nB,zxe,_,rfl,be,q,_,x,fa,rfl,c5.falls,hqx.same s5,hfa,_,rfl,?_⟩
     cases ht:zg4 (zak rF) x with
     | true=>
      refine zhb ⟨_,rfl,_,e5,?_,_,ps'++[q],rfl,?_,?_,?_,fun b o e=>?_⟩
      ·rw [ZAu];exact zao (by lia)
      ·rw [zaa,ZA9];rfl
      ·rw [et,List.filter_append]
       have kp:∀b y,zeb H5 b y->zeb (upd H5 Da (.lst (ps'.map V.ref++[.ref q]))) b y:=fun b y e=>by
        unfold zeb
        rw [zai (zba e e5 nofun)]
        exact e
       refine zas (zaj hps' kp) ?_
       rw [show [x].filter (zg4 (zak rF))=[x] by simp [ht]]
       exact .cons (kp _ _ (hqx.same s5)) .nil
      ·rw [ZA3];show ps'.length+1<=i+1;lia
      ·rw [zai (zac e hDa)];exact s5 _ _ e
     | false=>
      refine zef ⟨_,ps',rfl,e5,?_,by lia,s5⟩
      rw [et,List.filter_append]
      rw [show [x].filter (zg4 (zak rF))=[] by simp [ht],List.append_nil]
      exact hps'
   ·rintro σ' H5 ⟨v,ps',rfl,e5,hps',hl',s5⟩
    have hall:M.take (ps.map V.ref).length=M:=by rw [ZAu,hpl];exact ZBi
    rw [hall] at hps'
    refine c4 _ _ ?_
    have c5:=c4s.same s5
    obtain ⟨dx5,hp5⟩:=c5.ins
    have s35:=(s3.trans s4).trans s5
    refine ⟨_,rfl,p,dx5,_,rfl,hp5,zoi (by decide+kernel) (by decide+kernel) (by decide+kernel) (by decide+kernel) (by decide+kernel),p,be,rl,bd,n,_,st,true,rfl,c5,S3.good,by lia,by lia,fun l6 H6 ps6 L hl6 s6 el6 hps6 hL=>⟨_,rfl,szl rfl,fun r hr'=>?_⟩⟩
    have s7:=zab (o:=.tup [.str "rule",.ref l6,.ref Da]) hr'
    have s67:=s6.trans s7
    exact (k r _ (lastH (s35.trans s6) hr') (s35.trans s67)).2 hbar ⟨l6,Da,ps6,ps',L,M,zaa,s7 _ _ el6,zaj hps6 fun q x e=>e.same s7,hL,s67 _ _ e5,zaj hps' fun q x e=>e.same s67,hM⟩
theorem scr_of {K:ZCa} {H:Hp} {a:Addr} {ns:List Int} (o:zxh H) (h:SqL K H a (ns.map V.int)):ziq K H a ns:=by
 rcases h with (h | h) | h
 ·rcases o a with z | ⟨ob,xs,z⟩
  ·rw [z] at h;cases h
  ·rw [z] at h;cases h
 ·exact .inl h
 ·exact .inr h
def spLaw (K:ZCa):Sp:=fun vs H Q _=>∃a ns,vs=[.ref a]/\ziq K H a ns/\∀H',Q (.bl true) H'
theorem zw0 {K:ZCa}:PySem.W.kitOne K (.type "bool") (.type "bool")=some true:=by
 unfold PySem.W.kitOne
 rw [if_pos (by decide+kernel)]
theorem zjy {K:ZCa} {sa d a:Addr} {H:Hp} {qs:List Addr} (D:zed K sa H d) (h:H a=some (.lst (qs.map V.ref))):a≠d:=fun e=>by
 obtain ⟨p,hd⟩:=D.at_
 subst e
 rw [h] at hd
 match qs,hd with
 | [],hd=>cases hd
 | [_],hd=>cases hd
 | _::_::_,hd=>cases hd
theorem ze1.keep {C p d:Addr} {H H':Hp} {n la:Int} {T F:List (List Int)} {K:ZCa} {sa:Addr} (h:ze1 C H p n la T F) (k:zcd d H H') (D:zed K sa H d):ze1 C H' p n la T F:=by
 obtain ⟨dx,ta,fa,h1,⟨ts,h2⟩,⟨fs,h3⟩⟩:=h
 obtain ⟨q,hd⟩:=id D.at_
 exact ⟨dx,ta,fa,k _ _ h1 (zba h1 hd nofun),⟨ts,h2.keep k hd (zjy D h2.1)⟩,⟨fs,h3.keep k hd (zjy D h3.1)⟩⟩
theorem zqi {n:Nat} {la:Int} {T F:List (List Int)} {Te b:Nat} {ns:List Nat} (hbar:(zdf n la T F Te).bar=some b) (hN:zxu (zdf n la T F Te).rows b ns):
 (∀r∈zfe (zdf n la T F Te).rows ns,r.used.length<=2)/\0<(zfe (zdf n la T F Te).rows ns).length/\(zfe (zdf n la T F Te).rows ns).length<=(zdf n la T F Te).rows.length:=by
 have hU:MU.zhw (zdf n la T F Te):=MU.zjw (MU.zi1 _ _ MU.zjk) Te
 obtain ⟨rb,hrb,bars⟩:=hU.2 b hbar
 have hb:=(ZAv.mp hrb).1
 have h1:ns.length<=b+1:=MH.zey (b+1) ns (zm2 hN.up) fun z hz=>by have:=hN.le z hz;lia
 have h2:(zfe (zdf n la T F Te).rows ns).length<=ns.length:=List.length_filterMap_le _ _
 refine ⟨fun r hr=>?_,?_,by lia⟩
 ·unfold zfe at hr
  obtain ⟨i,hi,e⟩:=List.mem_filterMap.mp hr
  unfold zei at e
  cases hq:(zdf n la T F Te).rows[i]? with
  | none=>rw [hq] at e;cases e
  | some r0=>
   rw [hq] at e
   have e:=ZA7 e
   rw [<-e]
   show (r0.used.map _).length<=2
   rw [ZAu]
   exact (hU.1 i r0 hq).1
 ·refine List.length_pos_of_mem (a:=⟨rb.what,rb.word,rb.used.map fun j=>ns.idxOf j⟩) ?_
  unfold zfe
  refine List.mem_filterMap.mpr ⟨b,hN.has,?_⟩
  unfold zei
  rw [hrb]
  rfl
abbrev n10:List Str:=["_law_script","_law_d","_law_w","_law_web_here","_law_found","_law_rows","_law_handed"]
theorem zr2:zan n10 ["_law_script"] (zag sLaw):=scm
theorem ok_law {f C fW fI fK fN fC fD fIp fP:Addr} {fd fdW fdI fdK fdN fdC fdD fdIp fdP:FuncData} (Fn0:Fn K mg "law" sLaw ["_law_script"] f fd) (hisi:mg "isinstance"=none) (hlist:mg "list"=none) (hbool:mg "bool"=none) (TC:zrk K mg C)
 (FW:Fn K mg "_law_web" sWeb ["_law_d","_law_most","_law_last","_law_wide"] fW fdW) (GW:zbb P w K mg base CX0 3 fW fdW ["_law_d","_law_most","_law_last","_law_wide"] (zwd K))
 (M:Mk K C fI) (bI:zdd K fdI ["self","many","last","ties","falls"] []) (GI:zbb P w K mg base CX0 3 fI fdI ["self","many","last","ties","falls"] (ztq C))
 (FK:Fn K mg "kept" sP_kept ["web"] fK fdK) (GK:zbb P w K mg base CX0 6 fK fdK ["web"] (ztp C))
 (FN:Fn K mg "_law_next" sNext ["_law_dice","_law_many"] fN fdN) (GN:zbb P w K mg base CX0 1 fN fdN ["_law_dice","_law_many"] (zh2 K))
 (FC:Fn K mg "_law_changed" sL_changed ["_law_d","_law_rows","_law_many"] fC fdC) (GC:zbb P w K mg base CX0 2 fC fdC ["_law_d","_law_rows","_law_many"] (zk9 K))
 (FD:Fn K mg "_law_drawn_rows" sL_drawn_rows ["_law_d","_law_w"] fD fdD) (GD:zbb P w K mg base CX0 2 fD fdD ["_law_d","_law_w"] (zpe K))
 (FIp:Fn K mg "_law_is_paper" sL_is_paper ["_law_w","_law_rows"] fIp fdIp) (GIp:zbb P w K mg base CX0 2 fIp fdIp ["_law_w","_law_rows"] zto)
 (FP:Fn K mg "is_paper" sP_is_paper ["web","rows"] fP fdP) (GP:zbb P w K mg base CX0 4 fP fdP ["web","rows"] (zwf C)):
 zbb P w K mg base CX0 7 f fd ["_law_script"] (spLaw K):=by
 refine Fn0.F.ok zr2 (fun _ _ _ _ h=>?_) fun _ A _ s H _ Q E hr h=>?_
 ·obtain ⟨a,ns,rfl,_⟩:=h
  rfl
 ·obtain ⟨a,ns,rfl,hS0,k⟩:=h
  have hr1:zel 1 _:=hr.mono (by decide)
  have hr2:zel 2 _:=hr.mono (by decide)
  have hr3:zel 3 _:=hr.mono (by decide)
  have hr4:zel 4 _:=hr.mono (by decide)
  refine ⟨_,zaf (za5 1 zr2.nd (zcq (pa2 (pv 0) zae)))
   (zaf (za5 2 zr2.nd (pcl GW hr3 FW (pa4 (pv 1) zae zae zae)))
   (zaf (za5 3 zr2.nd (zpz M GI hr4 rfl TC.mgC bI .nil zdp (pa4 (ixT (pv 2)) (ixT (pv 2)) (ixT (pv 2)) (ixT (pv 2)))))
   (zaf (za5 4 zr2.nd (pcl GK hr FK (pa1 (pv 3))))
   (zaf (ze3 (zbe (PW.pt (zcf (zb8 zbd (ixT (pv 4)) zam) (zdg (zb8 zp7 (pcl GN hr1 FN (pa2 (pv 1) zae)) zae))))
    (zad (za5 5 zr2.nd (pcl GC hr2 FC (pa3 (pv 1) (zcm zc3 (by rfl) hlist (by decide+kernel) (pa1 (ixT (pv 4)))) (ixT (pv 2))))))
    (zad (za5 5 zr2.nd (pcl GD hr2 FD (pa2 (pv 1) (pv 2)))))))
   (zaf (za5 6 zr2.nd (zcm zc3 (by rfl) hlist (by decide+kernel) (pa1 (pv 5))))
   (zaf (za5 4 zr2.nd (pcl GP hr4 FP (pa2 (pv 3) (pv 6))))
   (zad (zaq (zfd (zay zmr (by rfl) hisi (by decide+kernel) (pa2 (pv 4) (zu4 (v:=.ty "bool") rfl hbool (by decide+kernel) rfl)))
    (zfd (zl3 zbd (pv 4) (pcl GIp hr2 FIp (pa2 (pv 2) (pv 5))))
    (zjd (zl3 (zp8 hr.units) (pv 6) (pv 5))))))))))))),?_⟩
  refine fun N1 c1=>⟨_,rfl,szl rfl,fun d hd=>c1 _ _ ?_⟩
  have D1:zed K a (upd H d (.lst [.ref a,.int 0])) d:=⟨⟨0,zaa⟩,⟨ns,hS0.same (zab hd)⟩⟩
  generalize upd H d (.lst [.ref a,.int 0])=H1 at*
  clear c1 N1
  refine fun N1 c1=>⟨_,rfl,d,a,5,12,3,rfl,D1,by decide,by decide,by decide,by decide,by decide,by decide,fun wp ta fa n la rT rF H2 etup RT RF hok n2 nm lm D2 k2 tad fad few=>c1 _ _ ?_⟩
  clear c1 N1
  obtain ⟨N,rfl⟩:∃N:Nat,n=N:=⟨n.toNat,by lia⟩
  refine fun N1 c1=>⟨_,rfl,rdT etup rfl ⟨_,rfl,rdT etup rfl ⟨_,rfl,rdT etup rfl ⟨_,rfl,rdT etup rfl fun x dx nx ndx nex=>?_⟩⟩⟩⟩
  have s3:za7 H2 (upd (upd H2 dx (.own x)) x (.ins C dx [])):=fun b o e=>by
   rw [zai (zac e nx),zai (zac e ndx)]
   exact e
  refine ⟨x,dx,_,la,ta,fa,rT,rF,rfl,zaa,RT.same s3,RF.same s3,hok,fun H4 W4 k4=>⟨rfl,c1 _ _ ?_⟩⟩
  clear c1 N1
  have s4:za7 H2 H4:=fun b o e=>k4 b o (s3 b o e) (zac e nx)
  have DA4:zdl H4 wp ta fa (N:Int) la rT rF:=zdl.same ⟨etup,RT,RF⟩ s4
  have D4:=D2.same s4
  obtain ⟨Te,hE⟩:=zok hok (by lia)
  have hfew:(zdf N la rT rF Te).rows.length<=16000000:=hE.few Te (ZAw _)
  refine fun N1 c1=>⟨_,rfl,x,N,la,rT,rF,Te,rfl,W4,hok,hE,fun r H5 hr5 s5=>?_⟩
  have D5:=D4.same s5
  have W5:=W4.same s5
  have DA5:=DA4.same s5
  obtain ⟨_,hd5⟩:=id D5.at_
  suffices key:((∃l ps p,H5 r=some (.tup [.str "paper",.ref l])/\H5 l=some (.lst (ps.map V.ref))/\Paired (zc5 H5) ps p/\(∀r∈p,r.used.length<=2)/\0<p.length/\p.length<=16500000)\/∃l1 l2,H5 r=some (.tup [.str "rule",.ref l1,.ref l2]))->N1 [some (.ref a),some (.ref d),some (.ref wp),some (.ref x),some (.ref r),none,none] H5 by
   refine ⟨fun b hb hP=>key (.inl ?_),fun hb hR=>key (.inr ?_)⟩
   ·obtain ⟨l,nn,ps,g1,g2,g3,hN⟩:=hP
    obtain ⟨h1,h2,h3⟩:=zqi hb hN
    exact ⟨l,ps,_,g1,g2,g3,h1,h2,by lia⟩
   ·obtain ⟨lt,lw,ps,qs,L,MM,g1,_⟩:=hR
    exact ⟨lt,lw,g1⟩
  intro hkept
  refine c1 _ _ ?_
  clear c1 N1
  refine fun N1 c1=>⟨fun σ' H'=>∃l p',σ'=[some (.ref a),some (.ref d),some (.ref wp),some (.ref x),some (.ref r),some (.ref l),none]/\zny H' l p'/\p'.length<=16500000/\ze1 C H' x (N:Int) la rT rF/\zdl H' wp ta fa (N:Int) la rT rF,?_,?_⟩
  ·rcases hkept with ⟨l,ps,p,g1,g2,g3,h1,h2,h3⟩ | ⟨l1,l2,g1⟩
   ·refine ⟨_,rfl,rdT g1 rfl ⟨rfl,_,rfl,zbx (by decide+kernel) ⟨_,rfl,d,a,_,rfl,D5,by decide,fun e H6 _ _ D6 k6=>⟨_,_,rfl,rfl,_,rfl,ziw (fun _=>?_) (fun _=>?_)⟩⟩⟩⟩
    ·obtain ⟨_,hd6⟩:=id D6.at_
     have g16:=zby k6 hd5 g1
     have g26:=k6 _ _ g2 (zjy D5 g2)
     refine ⟨_,rfl,_,rfl,rdT g16 rfl ⟨l,_,rfl,.inl (SqL.of g26),fun cp hcp=>?_⟩⟩
     have s7:=zab (o:=.lst (ps.map V.ref)) hcp
     have D7:=D6.same s7
     have DA7:=(DA5.keep k6 hd5 tad fad).same s7
     have W7:=(W5.keep k6 D5).same s7
     refine ⟨_,rfl,rdT DA7.tup rfl ⟨d,a,cp,_,p,rfl,D7,zjy D7 zaa,by lia,⟨ps,zaa,zaj g3 fun q r e=>(e.keep k6 hd5).same s7,h1⟩,h2,h3,fun l' p' H8 hF hl D8 k8=>?_⟩⟩
     exact ⟨l',p',rfl,hF,by lia,W7.keep k8 D7,DA7.keep k8 (s7 _ _ hd6) tad fad⟩
    ·obtain ⟨_,hd6⟩:=id D6.at_
     have DA6:=DA5.keep k6 hd5 tad fad
     exact ⟨_,rfl,_,rfl,d,a,wp,ta,fa,_,la,rT,rF,rfl,D6,DA6,tad,fad,hok,n2,fun l p' H7 hF hl D7 k7=>⟨l,p',rfl,hF,by lia,(W5.keep k6 D5).keep k7 D6,DA6.keep k7 hd6 tad fad⟩⟩
   ·refine ⟨_,rfl,rdT g1 rfl ⟨rfl,_,rfl,zdj (by decide+kernel) (zef ?_)⟩⟩
    exact ⟨_,rfl,_,rfl,d,a,wp,ta,fa,_,la,rT,rF,rfl,D5,DA5,tad,fad,hok,n2,fun l p' H7 hF hl D7 k7=>⟨l,p',rfl,hF,by lia,W5.keep k7 D5,DA5.keep k7 hd5 tad fad⟩⟩
  rintro σ' H6 ⟨l,p,rfl,⟨qs,g1,g2,g3⟩,hpl,W6,DA6⟩
  refine c1 _ _ ?_
  clear c1 N1
  refine fun N1 c1=>⟨_,rfl,l,_,rfl,.inl (SqL.of g1),fun cp hcp=>c1 _ _ ?_⟩
  clear c1 N1
  have s7:=zab (o:=.lst (qs.map V.ref)) hcp
  refine fun N1 c1=>⟨_,rfl,_,rfl,x,cp,_,la,rT,rF,qs,p,rfl,W6.same s7,hok,zaa,zaj g2 fun q r e=>e.same s7,g3,hpl,fun H8 s8 b hb=>c1 _ _ ?_⟩
  clear c1 N1
  have s78:=s7.trans s8
  refine ⟨_,rfl,_,_,_,true,rfl,.bl b,zw0,_,rfl,zhb ⟨_,rfl,_,rfl,_,rfl,wp,ta,fa,l,_,la,rT,rF,qs,p,rfl,DA6.same s78,hok,s78 _ _ g1,zaj g2 fun q r e=>e.same s78,g3,hpl,fun H9 s9 b' hb'=>?_⟩⟩
  have e:b=b':=Bool.eq_iff_iff.mpr (hb.trans hb'.symm)
  subst e
  refine ⟨rfl,_,rfl,zbx (ZB8 rfl) ⟨_,rfl,_,rfl,cp,l,qs,rfl,rfl,s9 _ _ (s8 _ _ zaa),s9 _ _ (s78 _ _ g1),k _⟩⟩
section
variable {K:ZCa} {mg:Str->Option Value} {h:Heap}
theorem fn_mk {x:Str} {st:Stmt} {ps:List Str} {f:Addr} {oc:Value} {od an:Option Addr} {osl:Array (Option Value)} {kV doc pm cdv ct:Value} (X:K.In h) (G:h.Ns mainGlobals mg) (a:PySem.W.nsIn K mainGlobals x=some (some (.ref f)))
 (l:K.lookup f=some ⟨oc,od,.func (PySem.W.fnOf x x (zen st) (zdu st) (zag st) .none kV doc pm an cdv ct),osl⟩) (c:PySem.W.codeIn K cdv x=true) (k:PySem.W.keepIn K (.ref f)=true)
 (hb:∀(kV doc pm:Value) (an:Option Addr) (cdv ct:Value) (us:List Value),us.length=ps.length->bindArgs (PySem.W.fnOf x x (zen st) (zdu st) (zag st) .none kV doc pm an cdv ct) ⟨us,[]⟩=pure (ps.zip us)):
 Fn K mg x st ps f (PySem.W.fnOf x x (zen st) (zdu st) (zag st) .none kV doc pm an cdv ct):=
 have F:=zty (st:=st) l c k
 ⟨F,F.binds hb,PySem.W.mg_of X G a⟩
structure MtK (K:ZCa) (C:Addr) (m q:Str) (st:Stmt) (ps:List Str) (f:Addr) (fd:FuncData):Prop where
 F:Fun K m q st f fd
 b:zdd K fd ps []
 a:PySem.W.findIn K (.ref C) m=some (some (.ref f))
 i:PySem.W.isFn K (.ref f)=true
theorem MtK.meth {C f:Addr} {m q:Str} {st:Stmt} {ps:List Str} {fd:FuncData} (h:MtK K C m q st ps f fd):zks K C m f:=⟨h.a,h.i,h.F.kp⟩
theorem mt_mk {C:Addr} {x q:Str} {st:Stmt} {ps:List Str} {f:Addr} {oc:Value} {od an:Option Addr} {osl:Array (Option Value)} {kV doc pm cdv ct:Value} (a:PySem.W.findIn K (.ref C) x=some (some (.ref f))) (i:PySem.W.isFn K (.ref f)=true)
 (l:K.lookup f=some ⟨oc,od,.func (PySem.W.fnOf x q (zen st) (zdu st) (zag st) .none kV doc pm an cdv ct),osl⟩) (c:PySem.W.codeIn K cdv q=true) (k:PySem.W.keepIn K (.ref f)=true)
 (hb:∀(kV doc pm:Value) (an:Option Addr) (cdv ct:Value) (us:List Value),us.length=ps.length->bindArgs (PySem.W.fnOf x q (zen st) (zdu st) (zag st) .none kV doc pm an cdv ct) ⟨us,[]⟩=pure (ps.zip us)):
 MtK K C x q st ps f (PySem.W.fnOf x q (zen st) (zdu st) (zag st) .none kV doc pm an cdv ct):=
 have F:=zty (st:=st) l c k
 ⟨F,F.binds hb,a,i⟩
structure WebK (K:ZCa) (mg:Str->Option Value) (C:Addr):Prop where
 tc:zrk K mg C
 mk_:PySem.W.makesIn K C=true
 kc:PySem.W.keepIn K (.ref C)=true
theorem web_mk {C:Addr} (X:K.In h) (G:h.Ns mainGlobals mg) (aC:PySem.W.nsIn K mainGlobals "Web"=some (some (.ref C))) (pg:PySem.W.plainGet K C Str.empty=true) (hd:PySem.W.hasDictIn K C=true) (po:PySem.W.plainOver K C=true)
 (sa:PySem.W.findIn K (.ref C) "__setattr__"=some (some (.builtin "object.__setattr__"))) (mk:PySem.W.makesIn K C=true) (kc:PySem.W.keepIn K (.ref C)=true)
 (n1:PySem.W.findIn K (.ref C) "many"=some none) (n2:PySem.W.findIn K (.ref C) "last"=some none) (n3:PySem.W.findIn K (.ref C) "told_ties"=some none) (n4:PySem.W.findIn K (.ref C) "told_falls"=some none):WebK K mg C:=
 ⟨⟨⟨pg,hd,po,sa⟩,n1,n2,n3,n4,PySem.W.mg_of X G aC⟩,mk,kc⟩
theorem txtW_mk {t1 t2 t3 t4:Tok} (X:K.In h) (G:h.Ns mainGlobals mg) (m1:PySem.W.nsIn K mainGlobals "MOST_MOMENTS"=some (some (.int 8 t1))) (m2:PySem.W.nsIn K mainGlobals "LATEST_LAST"=some (some (.int 60 t2)))
 (m3:PySem.W.nsIn K mainGlobals "WIDEST_SPAN"=some (some (.int 60 t3))) (m4:PySem.W.nsIn K mainGlobals "LONGEST_FALL"=some (some (.int 60 t4))) (z:PySem.W.nsIn K mainGlobals "list"=some none):TxtW mg:=
 ⟨⟨t1,PySem.W.mg_of X G m1⟩,⟨t2,PySem.W.mg_of X G m2⟩,⟨t3,PySem.W.mg_of X G m3⟩,⟨t4,PySem.W.mg_of X G m4⟩,ZAo X G z⟩
structure CloK (K:ZCa) (mg:Str->Option Value) (C:Addr):Prop where
 tc:zhg K mg C
 mk_:PySem.W.makesIn K C=true
 kc:PySem.W.keepIn K (.ref C)=true
 g:mg "Closing"=some (.ref C)
theorem clo_mk {C:Addr} (X:K.In h) (G:h.Ns mainGlobals mg) (aC:PySem.W.nsIn K mainGlobals "Closing"=some (some (.ref C))) (pg:PySem.W.plainGet K C Str.empty=true) (hd:PySem.W.hasDictIn K C=true) (po:PySem.W.plainOver K C=true)
 (sa:PySem.W.findIn K (.ref C) "__setattr__"=some (some (.builtin "object.__setattr__"))) (mk:PySem.W.makesIn K C=true) (kc:PySem.W.keepIn K (.ref C)=true)
 (n1:PySem.W.findIn K (.ref C) "many"=some none) (n2:PySem.W.findIn K (.ref C) "by_end"=some none) (n3:PySem.W.findIn K (.ref C) "rows"=some none) (n4:PySem.W.findIn K (.ref C) "best"=some none) (n5:PySem.W.findIn K (.ref C) "bar"=some none)
 (z1:PySem.W.nsIn K mainGlobals "len"=some none) (z2:PySem.W.nsIn K mainGlobals "range"=some none):CloK K mg C:=
 ⟨⟨⟨pg,hd,po,sa⟩,n1,n2,n3,n4,n5,ZAo X G z1,ZAo X G z2⟩,mk,kc,PySem.W.mg_of X G aC⟩
theorem txtU_mk {u:Addr} (X:K.In h) (G:h.Ns mainGlobals mg) (a:PySem.W.nsIn K mainGlobals "USED_KINDS"=some (some (.ref u))) (t:zzl K u zn2) (z:PySem.W.nsIn K mainGlobals "tuple"=some none):TxtU K mg:=
 ⟨⟨u,PySem.W.mg_of X G a,t⟩,ZAo X G z⟩
end
end Y0
namespace L2
theorem zmf {α:Type} {n:Nat}:∀{us:List α},us.length=n+1->∃a t,us=a::t/\t.length=n
 | a::t,h=>⟨a,t,rfl,Nat.succ.inj h⟩
theorem zBd {α:Type} (us:List α) (h:us.length=1):∃a,us=[a]:=by
 obtain ⟨a,t0,rfl,h0⟩:=zmf h
 obtain rfl:=List.eq_nil_of_length_eq_zero h0
 exact ⟨a,rfl⟩
theorem zBc {α:Type} (us:List α) (h:us.length=2):∃a b,us=[a,b]:=by
 obtain ⟨a,t0,rfl,h0⟩:=zmf h
 obtain ⟨b,t1,rfl,h1⟩:=zmf h0
 obtain rfl:=List.eq_nil_of_length_eq_zero h1
 exact ⟨a,b,rfl⟩
theorem zBb {α:Type} (us:List α) (h:us.length=3):∃a b c,us=[a,b,c]:=by
 obtain ⟨a,t0,rfl,h0⟩:=zmf h
 obtain ⟨b,t1,rfl,h1⟩:=zmf h0
 obtain ⟨c,t2,rfl,h2⟩:=zmf h1
 obtain rfl:=List.eq_nil_of_length_eq_zero h2
 exact ⟨a,b,c,rfl⟩
theorem zBa {α:Type} (us:List α) (h:us.length=4):∃a b c d,us=[a,b,c,d]:=by
 obtain ⟨a,t0,rfl,h0⟩:=zmf h
 obtain ⟨b,t1,rfl,h1⟩:=zmf h0
 obtain ⟨c,t2,rfl,h2⟩:=zmf h1
 obtain ⟨d,t3,rfl,h3⟩:=zmf h2
 obtain rfl:=List.eq_nil_of_length_eq_zero h3
 exact ⟨a,b,c,d,rfl⟩
theorem zA9 {α:Type} (us:List α) (h:us.length=5):∃a b c d e,us=[a,b,c,d,e]:=by
 obtain ⟨a,t0,rfl,h0⟩:=zmf h
 obtain ⟨b,t1,rfl,h1⟩:=zmf h0
 obtain ⟨c,t2,rfl,h2⟩:=zmf h1
 obtain ⟨d,t3,rfl,h3⟩:=zmf h2
 obtain ⟨e,t4,rfl,h4⟩:=zmf h3
 obtain rfl:=List.eq_nil_of_length_eq_zero h4
 exact ⟨a,b,c,d,e,rfl⟩
theorem bn1 {A B C D E F V:Type} {p:A->B->C->D->E->F->List V->Prop} (h:∀a1 a2 a3 a4 a5 a6 a,p a1 a2 a3 a4 a5 a6 [a]):∀a1 a2 a3 a4 a5 a6 (us:List V),us.length=1->p a1 a2 a3 a4 a5 a6 us:=fun _ _ _ _ _ _ us hl=>by obtain ⟨a,rfl⟩:=zBd us hl;exact h _ _ _ _ _ _ _
theorem bn2 {A B C D E F V:Type} {p:A->B->C->D->E->F->List V->Prop} (h:∀a1 a2 a3 a4 a5 a6 a b,p a1 a2 a3 a4 a5 a6 [a,b]):∀a1 a2 a3 a4 a5 a6 (us:List V),us.length=2->p a1 a2 a3 a4 a5 a6 us:=fun _ _ _ _ _ _ us hl=>by obtain ⟨a,b,rfl⟩:=zBc us hl;exact h _ _ _ _ _ _ _ _
theorem bn3 {A B C D E F V:Type} {p:A->B->C->D->E->F->List V->Prop} (h:∀a1 a2 a3 a4 a5 a6 a b c,p a1 a2 a3 a4 a5 a6 [a,b,c]):∀a1 a2 a3 a4 a5 a6 (us:List V),us.length=3->p a1 a2 a3 a4 a5 a6 us:=fun _ _ _ _ _ _ us hl=>by obtain ⟨a,b,c,rfl⟩:=zBb us hl;exact h _ _ _ _ _ _ _ _ _
theorem bn4 {A B C D E F V:Type} {p:A->B->C->D->E->F->List V->Prop} (h:∀a1 a2 a3 a4 a5 a6 a b c d,p a1 a2 a3 a4 a5 a6 [a,b,c,d]):∀a1 a2 a3 a4 a5 a6 (us:List V),us.length=4->p a1 a2 a3 a4 a5 a6 us:=fun _ _ _ _ _ _ us hl=>by obtain ⟨a,b,c,d,rfl⟩:=zBa us hl;exact h _ _ _ _ _ _ _ _ _ _
theorem bn5 {A B C D E F V:Type} {p:A->B->C->D->E->F->List V->Prop} (h:∀a1 a2 a3 a4 a5 a6 a b c d e,p a1 a2 a3 a4 a5 a6 [a,b,c,d,e]):∀a1 a2 a3 a4 a5 a6 (us:List V),us.length=5->p a1 a2 a3 a4 a5 a6 us:=fun _ _ _ _ _ _ us hl=>by obtain ⟨a,b,c,d,e,rfl⟩:=zA9 us hl;exact h _ _ _ _ _ _ _ _ _ _ _
end L2
def PySem.W.Fast.tw9531682036853798425:Unit:=()
def PySem.W.Fast.tw7781932011744781417:Unit:=()
def PySem.W.Fast.tw16410578535907707643:Unit:=()
def PySem.W.Fast.tw6586145750861489815:Unit:=()
def PySem.W.Fast.tw2573459223116249771:Unit:=()
def PySem.W.Fast.tw1238148136023609811:Unit:=()
def PySem.W.Fast.tw1106879296658276608:Unit:=()
def PySem.W.Fast.tw7673497748055729858:Unit:=()
def PySem.W.Fast.tw266908542702998008:Unit:=()
def PySem.W.Fast.tw4137528271018846264:Unit:=()
def PySem.W.Fast.tw6244746033008692879:Unit:=()
def PySem.W.Fast.tw4479287203258430859:Unit:=()
def PySem.W.Fast.tw4952665793274454286:Unit:=()
def PySem.W.Fast.tw15133270684711661577:Unit:=()
def PySem.W.Fast.tw9216485358268312301:Unit:=()
def PySem.W.Fast.tw13764156778663987982:Unit:=()
def PySem.W.Fast.tw18096901156283271140:Unit:=()
def PySem.W.Fast.tw3302659821973127690:Unit:=()
def PySem.W.Fast.tw4536577101020524205:Unit:=()
def PySem.W.Fast.tw11487763467279666043:Unit:=()
def PySem.W.Fast.tw5783142346999856767:Unit:=()
def PySem.W.Fast.tw15608986930778739349:Unit:=()
def PySem.W.Fast.tw300272208088467059:Unit:=()
def PySem.W.Fast.tw12862105528520386910:Unit:=()
def PySem.W.Fast.tw6094042148285065056:Unit:=()
def PySem.W.Fast.tw14326448175169654004:Unit:=()
def PySem.W.Fast.tw14806293891283025914:Unit:=()
def PySem.W.Fast.tw5290783982272267491:Unit:=()
def PySem.W.Fast.tw16354076384738404556:Unit:=()
def PySem.W.Fast.tw2573228293988183656:Unit:=()
def PySem.W.Fast.tw4032448967843483466:Unit:=()
def PySem.W.Fast.tw7736157563960373900:Unit:=()
def PySem.W.Fast.tw15753424182553718091:Unit:=()
def PySem.W.Fast.tw6464272415706507128:Unit:=()
def PySem.W.Fast.tw1682348738394036111:Unit:=()
def PySem.W.Fast.tw10186375666172559108:Unit:=()
def PySem.W.Fast.tw3493337732364153488:Unit:=()
def PySem.W.Fast.tw17557685552721407394:Unit:=()
def PySem.W.Fast.tw578363523837225351:Unit:=()
def PySem.W.Fast.tw14474100604560865904:Unit:=()
def PySem.W.Fast.tw7239508015356629480:Unit:=()
def PySem.W.Fast.tw16401213770985496783:Unit:=()
def PySem.W.Fast.tw7708675072108717007:Unit:=()
def PySem.W.Fast.tw17559416779075206288:Unit:=()
def PySem.W.Fast.tw2007179198212174477:Unit:=()
def PySem.W.Fast.tw10080106649441715122:Unit:=()
def PySem.W.Fast.tw7477835377720595631:Unit:=()
def PySem.W.Fast.tw4222563130608739065:Unit:=()
def PySem.W.Fast.tw10977065784229358759:Unit:=()
def PySem.W.Fast.tw12976018126818817284:Unit:=()
def PySem.W.Fast.tw9094329497686424154:Unit:=()
def PySem.W.Fast.tw6088186703844242062:Unit:=()
def PySem.W.Fast.tw6278030354300333527:Unit:=()
def PySem.W.Fast.tw12762500981427720027:Unit:=()
def PySem.W.Fast.tw16129741786577312932:Unit:=()
def PySem.W.Fast.tw1724257835868405803:Unit:=()
def PySem.W.Fast.tw6188379491780233310:Unit:=()
def PySem.W.Fast.tw17441310690440264580:Unit:=()
def PySem.W.Fast.tw6755819706829704693:Unit:=()
def PySem.W.Fast.tw16022198848827916399:Unit:=()
def PySem.W.Fast.tw7488203698612685232:Unit:=()
def PySem.W.Fast.tw9211005595736213083:Unit:=()
def PySem.W.Fast.tw6154121570973577318:Unit:=()
def PySem.W.Fast.tw13734272452912632586:Unit:=()
def PySem.W.Fast.tw169762976327681385:Unit:=()
def PySem.W.Fast.tw8535997253312747025:Unit:=()
def PySem.W.Fast.tw5815179769958230581:Unit:=()
def PySem.W.Fast.tw18402029128212638575:Unit:=()
def PySem.W.Fast.tw3741275907158610990:Unit:=()
def PySem.W.Fast.tw15745551922979923942:Unit:=()
def PySem.W.Fast.tw2058041595791456902:Unit:=()
def PySem.W.Fast.tw7404418936183875552:Unit:=()
def PySem.W.Fast.tw14609300286259592657:Unit:=()
def PySem.W.Fast.tw11671788864861507610:Unit:=()
def PySem.W.Fast.tw13714449011694854857:Unit:=()
def PySem.W.Fast.tw9453757666198767930:Unit:=()
def PySem.W.Fast.tw17248074918605406422:Unit:=()
def PySem.W.Fast.tw17616877493391232886:Unit:=()
def PySem.W.Fast.tw2843449638022548844:Unit:=()
def PySem.W.Fast.tw12745998702793432796:Unit:=()
def PySem.W.Fast.tw17226640518181377126:Unit:=()
def PySem.W.Fast.tw3995139692032114916:Unit:=()
def PySem.W.Fast.tw7093433927633191886:Unit:=()
def PySem.W.Fast.tw13263532127869030110:Unit:=()
def PySem.W.Fast.tw14376325132247424563:Unit:=()
def PySem.W.Fast.tw5431893223902886783:Unit:=()
def PySem.W.Fast.tw942694170350991215:Unit:=()
def PySem.W.Fast.tw1204035805717184122:Unit:=()
def PySem.W.Fast.tw6891375319514589367:Unit:=()
def PySem.W.Fast.tw9803710336051655965:Unit:=()
def PySem.W.Fast.tw17515543579938382963:Unit:=()
def PySem.W.Fast.tw14220586404398542569:Unit:=()
def PySem.W.Fast.tw16140183004645648860:Unit:=()
def PySem.W.Fast.tw12849969515942855451:Unit:=()
def PySem.W.Fast.tw4773906043520622358:Unit:=()
def PySem.W.Fast.tw2252181710719877329:Unit:=()
def PySem.W.Fast.tw1315768744263642:Unit:=()
def PySem.W.Fast.tw708230607982514412:Unit:=()
def PySem.W.Fast.tw13309946810630129096:Unit:=()
def PySem.W.Fast.tw324096626599568752:Unit:=()
def PySem.W.Fast.tw15926419888468646287:Unit:=()
def PySem.W.Fast.tw9857272974819887869:Unit:=()
def PySem.W.Fast.tw16394559414123688362:Unit:=()
def PySem.W.Fast.tw14416398504142945117:Unit:=()
def PySem.W.Fast.tw1423913239132889990:Unit:=()
def PySem.W.Fast.tw4596162032057946503:Unit:=()
def PySem.W.Fast.tw12263379794396443830:Unit:=()
def PySem.W.Fast.tw10718461058268007861:Unit:=()
def PySem.W.Fast.tw12267780759966904171:Unit:=()
def PySem.W.Fast.tw6414203064284027393:Unit:=()
def PySem.W.Fast.tw9206994543616246325:Unit:=()
def PySem.W.Fast.tw3023425695341588564:Unit:=()
def PySem.W.Fast.tw18321668590117352707:Unit:=()
def PySem.W.Fast.tw18134082854779383625:Unit:=()
def PySem.W.Fast.tw9392289710555884726:Unit:=()
def PySem.W.Fast.tw4840007765133928175:Unit:=()
def PySem.W.Fast.tw5849793321977969539:Unit:=()
def PySem.W.Fast.tw181759765936234053:Unit:=()
def PySem.W.Fast.tw7762063248432426926:Unit:=()
open PySem PySem.W PyProof.Rows L2
set_option maxRecDepth 100000 in
set_option maxHeartbeats 0 in
theorem PySem.Challenge.cw_momentties_k10_papers_looked_over_holds : PySem.Challenge.rw_momentties_k10_papers_looked_over.Holds := by
 w_on;o_law;k_head;(case hw=>w_witness2)
 k_fill
 refine zrq (l:=PySem.Challenge.rw_momentties_k10_papers_looked_over) (n:=63) (k:=7) (x:="_law_script") (CX:=CX0) (sp:=Y0.spLaw) rfl (by decide) rfl ⟨rfl,by decide,by decide⟩ (fun w h Y=>PySem.W.kIn_of Y) ?F (fun K H a ns hl hO hS=>⟨a,ns,rfl,Y0.scr_of hO hS,fun _=>rfl⟩) (fun _ _ _ _ z=>z)
 case F=>
  intro w mg fa h KX G hmg
  obtain ⟨Ew,Ux,J5⟩:∃f fd,Y0.Fn (KOf KX) mg "room_bounds" Y0.sP_room_bounds ["web"] f fd:=by
   unfold KOf
   refine' ⟨_,_,Y0.fn_mk KX G ?a ?l ?c ?k ?b⟩
   (case a|l|c|k=>k_is);(case b=>exact bn1 fun _ _ _ _ _ _ _=>rfl)
  obtain ⟨Ez,Uz,J7⟩:∃f fd,Y0.Fn (KOf KX) mg "span_bounds" Y0.sP_span_bounds ["spans"] f fd:=by
   unfold KOf
   refine' ⟨_,_,Y0.fn_mk KX G ?a ?l ?c ?k ?b⟩
   (case a|l|c|k=>k_is);(case b=>exact bn1 fun _ _ _ _ _ _ _=>rfl)
  obtain ⟨U4,Gz,Je⟩:∃f fd,Y0.Fn (KOf KX) mg "bounds_with" Y0.sP_bounds_with ["web","ties"] f fd:=by
   unfold KOf
   refine' ⟨_,_,Y0.fn_mk KX G ?a ?l ?c ?k ?b⟩
   (case a|l|c|k=>k_is);(case b=>exact bn2 fun _ _ _ _ _ _ _ _=>rfl)
  obtain ⟨E1,U0,J8⟩:∃f fd,Y0.Fn (KOf KX) mg "told_bounds" Y0.sP_told_bounds ["web"] f fd:=by
   unfold KOf
   refine' ⟨_,_,Y0.fn_mk KX G ?a ?l ?c ?k ?b⟩
   (case a|l|c|k=>k_is);(case b=>exact bn1 fun _ _ _ _ _ _ _=>rfl)
  obtain ⟨Eb,Uc,Jl⟩:∃f fd,Y0.Fn (KOf KX) mg "falls_by_end" Y0.sP_falls_by_end ["web"] f fd:=by
   unfold KOf
   refine' ⟨_,_,Y0.fn_mk KX G ?a ?l ?c ?k ?b⟩
   (case a|l|c|k=>k_is);(case b=>exact bn1 fun _ _ _ _ _ _ _=>rfl)
  obtain ⟨U9,Ua,Jj⟩:∃f fd,Y0.Fn (KOf KX) mg "by_sum" Y0.sP_by_sum ["first","second"] f fd:=by
   unfold KOf
   refine' ⟨_,_,Y0.fn_mk KX G ?a ?l ?c ?k ?b⟩
   (case a|l|c|k=>k_is);(case b=>exact bn2 fun _ _ _ _ _ _ _ _=>rfl)
  obtain ⟨U7,G8,Jh⟩:∃f fd,Y0.Fn (KOf KX) mg "by_late" Y0.sP_by_late ["falls","tie"] f fd:=by
   unfold KOf
   refine' ⟨_,_,Y0.fn_mk KX G ?a ?l ?c ?k ?b⟩
   (case a|l|c|k=>k_is);(case b=>exact bn2 fun _ _ _ _ _ _ _ _=>rfl)
  obtain ⟨U8,G9,Ji⟩:∃f fd,Y0.Fn (KOf KX) mg "by_soon" Y0.sP_by_soon ["falls","tie"] f fd:=by
   unfold KOf
   refine' ⟨_,_,Y0.fn_mk KX G ?a ?l ?c ?k ?b⟩
   (case a|l|c|k=>k_is);(case b=>exact bn2 fun _ _ _ _ _ _ _ _=>rfl)
  obtain ⟨Ea,Ub,Jk⟩:∃f fd,Y0.Fn (KOf KX) mg "by_sure" Y0.sP_by_sure ["falls","wait"] f fd:=by
   unfold KOf
   refine' ⟨_,_,Y0.fn_mk KX G ?a ?l ?c ?k ?b⟩
   (case a|l|c|k=>k_is);(case b=>exact bn2 fun _ _ _ _ _ _ _ _=>rfl)
  obtain ⟨U5,G0,Jf⟩:∃f fd,Y0.Fn (KOf KX) mg "by_back" Y0.sP_by_back ["falls","wait","tie"] f fd:=by
   unfold KOf
   refine' ⟨_,_,Y0.fn_mk KX G ?a ?l ?c ?k ?b⟩
   (case a|l|c|k=>k_is);(case b=>exact bn3 fun _ _ _ _ _ _ _ _ _=>rfl)
  obtain ⟨U6,G7,Jg⟩:∃f fd,Y0.Fn (KOf KX) mg "by_cross" Y0.sP_by_cross ["falls","wait"] f fd:=by
   unfold KOf
   refine' ⟨_,_,Y0.fn_mk KX G ?a ?l ?c ?k ?b⟩
   (case a|l|c|k=>k_is);(case b=>exact bn2 fun _ _ _ _ _ _ _ _=>rfl)
  obtain ⟨E2,U1,J9⟩:∃f fd,Y0.Fn (KOf KX) mg "what_follows" Y0.sP_what_follows ["falls","word","used"] f fd:=by
   unfold KOf
   refine' ⟨_,_,Y0.fn_mk KX G ?a ?l ?c ?k ?b⟩
   (case a|l|c|k=>k_is);(case b=>exact bn3 fun _ _ _ _ _ _ _ _ _=>rfl)
  obtain ⟨U3,Gy,Jd⟩:∃f fd,Y0.Fn (KOf KX) mg "bars_every_hand" Y0.sP_bars_every_hand ["what"] f fd:=by
   unfold KOf
   refine' ⟨_,_,Y0.fn_mk KX G ?a ?l ?c ?k ?b⟩
   (case a|l|c|k=>k_is);(case b=>exact bn1 fun _ _ _ _ _ _ _=>rfl)
  obtain ⟨Ey,Uy,J6⟩:∃f fd,Y0.Fn (KOf KX) mg "row_follows" Y0.sP_row_follows ["told","falls","rows","at"] f fd:=by
   unfold KOf
   refine' ⟨_,_,Y0.fn_mk KX G ?a ?l ?c ?k ?b⟩
   (case a|l|c|k=>k_is);(case b=>exact bn4 fun _ _ _ _ _ _ _ _ _ _=>rfl)
  obtain ⟨Ec,Ud,Jm⟩:∃f fd,Y0.Fn (KOf KX) mg "is_paper" Y0.sP_is_paper ["web","rows"] f fd:=by
   unfold KOf
   refine' ⟨_,_,Y0.fn_mk KX G ?a ?l ?c ?k ?b⟩
   (case a|l|c|k=>k_is);(case b=>exact bn2 fun _ _ _ _ _ _ _ _=>rfl)
  have Ja:∃C,Y0.CloK (KOf KX) mg C/\PySem.W.nsIn (KOf KX) mainGlobals "Closing"=some (some (.ref C)):=by
   unfold KOf
   refine' ⟨_,Y0.clo_mk KX G ?aC ?pg ?hd ?po ?sa ?mk ?kc ?n1 ?n2 ?n3 ?n4 ?n5 ?z1 ?z2,?aD⟩
   (case aC|pg|hd|po|sa|mk|kc|n1|n2|n3|n4|n5|z1|z2|aD=>k_is)
  obtain ⟨Gv,Ja,Gr⟩:=Ja
  obtain ⟨n_init,o_init,Gk⟩:∃f fd,Y0.MtK (KOf KX) Gv "__init__" "Closing.__init__" Y0.sC_Closing_init ["self","web"] f fd:=by
   have e:∃C f fd,PySem.W.nsIn (KOf KX) mainGlobals "Closing"=some (some (.ref C))/\Y0.MtK (KOf KX) C "__init__" "Closing.__init__" Y0.sC_Closing_init ["self","web"] f fd:=by
    unfold KOf
    refine' ⟨_,_,_,?aC,Y0.mt_mk ?a ?i ?l ?c ?k ?b⟩
    (case aC|a|i|l|c|k=>k_is);(case b=>exact bn2 fun _ _ _ _ _ _ _ _=>rfl)
   obtain ⟨C,f,fd,e1,e2⟩:=e
   rw [Gr] at e1
   cases e1
   exact ⟨f,fd,e2⟩
  obtain ⟨n_is_news,o_is_news,Gm⟩:∃f fd,Y0.MtK (KOf KX) Gv "is_news" "Closing.is_news" Y0.sC_Closing_is_news ["self","what"] f fd:=by
   have e:∃C f fd,PySem.W.nsIn (KOf KX) mainGlobals "Closing"=some (some (.ref C))/\Y0.MtK (KOf KX) C "is_news" "Closing.is_news" Y0.sC_Closing_is_news ["self","what"] f fd:=by
    unfold KOf
    refine' ⟨_,_,_,?aC,Y0.mt_mk ?a ?i ?l ?c ?k ?b⟩
    (case aC|a|i|l|c|k=>k_is);(case b=>exact bn2 fun _ _ _ _ _ _ _ _=>rfl)
   obtain ⟨C,f,fd,e1,e2⟩:=e
   rw [Gr] at e1
   cases e1
   exact ⟨f,fd,e2⟩
  obtain ⟨n_take,o_take,Gp⟩:∃f fd,Y0.MtK (KOf KX) Gv "take" "Closing.take" Y0.sC_Closing_take ["self","what","word","used"] f fd:=by
   have e:∃C f fd,PySem.W.nsIn (KOf KX) mainGlobals "Closing"=some (some (.ref C))/\Y0.MtK (KOf KX) C "take" "Closing.take" Y0.sC_Closing_take ["self","what","word","used"] f fd:=by
    unfold KOf
    refine' ⟨_,_,_,?aC,Y0.mt_mk ?a ?i ?l ?c ?k ?b⟩
    (case aC|a|i|l|c|k=>k_is);(case b=>exact bn4 fun _ _ _ _ _ _ _ _ _ _=>rfl)
   obtain ⟨C,f,fd,e1,e2⟩:=e
   rw [Gr] at e1
   cases e1
   exact ⟨f,fd,e2⟩
  obtain ⟨n_draw,o_draw,Gg⟩:∃f fd,Y0.MtK (KOf KX) Gv "draw" "Closing.draw" Y0.sC_Closing_draw ["self","word","used"] f fd:=by
   have e:∃C f fd,PySem.W.nsIn (KOf KX) mainGlobals "Closing"=some (some (.ref C))/\Y0.MtK (KOf KX) C "draw" "Closing.draw" Y0.sC_Closing_draw ["self","word","used"] f fd:=by
    unfold KOf
    refine' ⟨_,_,_,?aC,Y0.mt_mk ?a ?i ?l ?c ?k ?b⟩
    (case aC|a|i|l|c|k=>k_is);(case b=>exact bn3 fun _ _ _ _ _ _ _ _ _=>rfl)
   obtain ⟨C,f,fd,e1,e2⟩:=e
   rw [Gr] at e1
   cases e1
   exact ⟨f,fd,e2⟩
  obtain ⟨n_known_of,o_known_of,Gn⟩:∃f fd,Y0.MtK (KOf KX) Gv "known_of" "Closing.known_of" Y0.sC_Closing_known_of ["self","kind","a"] f fd:=by
   have e:∃C f fd,PySem.W.nsIn (KOf KX) mainGlobals "Closing"=some (some (.ref C))/\Y0.MtK (KOf KX) C "known_of" "Closing.known_of" Y0.sC_Closing_known_of ["self","kind","a"] f fd:=by
    unfold KOf
    refine' ⟨_,_,_,?aC,Y0.mt_mk ?a ?i ?l ?c ?k ?b⟩
    (case aC|a|i|l|c|k=>k_is);(case b=>exact bn3 fun _ _ _ _ _ _ _ _ _=>rfl)
   obtain ⟨C,f,fd,e1,e2⟩:=e
   rw [Gr] at e1
   cases e1
   exact ⟨f,fd,e2⟩
  obtain ⟨n_ties_to,o_ties_to,Gq⟩:∃f fd,Y0.MtK (KOf KX) Gv "ties_to" "Closing.ties_to" Y0.sC_Closing_ties_to ["self","b"] f fd:=by
   have e:∃C f fd,PySem.W.nsIn (KOf KX) mainGlobals "Closing"=some (some (.ref C))/\Y0.MtK (KOf KX) C "ties_to" "Closing.ties_to" Y0.sC_Closing_ties_to ["self","b"] f fd:=by
    unfold KOf
    refine' ⟨_,_,_,?aC,Y0.mt_mk ?a ?i ?l ?c ?k ?b⟩
    (case aC|a|i|l|c|k=>k_is);(case b=>exact bn2 fun _ _ _ _ _ _ _ _=>rfl)
   obtain ⟨C,f,fd,e1,e2⟩:=e
   rw [Gr] at e1
   cases e1
   exact ⟨f,fd,e2⟩
  obtain ⟨n_draw_from_tie,o_draw_from_tie,Gi⟩:∃f fd,Y0.MtK (KOf KX) Gv "draw_from_tie" "Closing.draw_from_tie" Y0.sC_Closing_draw_from_tie ["self","at","a","b"] f fd:=by
   have e:∃C f fd,PySem.W.nsIn (KOf KX) mainGlobals "Closing"=some (some (.ref C))/\Y0.MtK (KOf KX) C "draw_from_tie" "Closing.draw_from_tie" Y0.sC_Closing_draw_from_tie ["self","at","a","b"] f fd:=by
    unfold KOf
    refine' ⟨_,_,_,?aC,Y0.mt_mk ?a ?i ?l ?c ?k ?b⟩
    (case aC|a|i|l|c|k=>k_is);(case b=>exact bn4 fun _ _ _ _ _ _ _ _ _ _=>rfl)
   obtain ⟨C,f,fd,e1,e2⟩:=e
   rw [Gr] at e1
   cases e1
   exact ⟨f,fd,e2⟩
  obtain ⟨n_draw_from_wait,o_draw_from_wait,Gj⟩:∃f fd,Y0.MtK (KOf KX) Gv "draw_from_wait" "Closing.draw_from_wait" Y0.sC_Closing_draw_from_wait ["self","at","a"] f fd:=by
   have e:∃C f fd,PySem.W.nsIn (KOf KX) mainGlobals "Closing"=some (some (.ref C))/\Y0.MtK (KOf KX) C "draw_from_wait" "Closing.draw_from_wait" Y0.sC_Closing_draw_from_wait ["self","at","a"] f fd:=by
    unfold KOf
    refine' ⟨_,_,_,?aC,Y0.mt_mk ?a ?i ?l ?c ?k ?b⟩
    (case aC|a|i|l|c|k=>k_is);(case b=>exact bn3 fun _ _ _ _ _ _ _ _ _=>rfl)
   obtain ⟨C,f,fd,e1,e2⟩:=e
   rw [Gr] at e1
   cases e1
   exact ⟨f,fd,e2⟩
  obtain ⟨n_draw_all,o_draw_all,Gh⟩:∃f fd,Y0.MtK (KOf KX) Gv "draw_all" "Closing.draw_all" Y0.sC_Closing_draw_all ["self"] f fd:=by
   have e:∃C f fd,PySem.W.nsIn (KOf KX) mainGlobals "Closing"=some (some (.ref C))/\Y0.MtK (KOf KX) C "draw_all" "Closing.draw_all" Y0.sC_Closing_draw_all ["self"] f fd:=by
    unfold KOf
    refine' ⟨_,_,_,?aC,Y0.mt_mk ?a ?i ?l ?c ?k ?b⟩
    (case aC|a|i|l|c|k=>k_is);(case b=>exact bn1 fun _ _ _ _ _ _ _=>rfl)
   obtain ⟨C,f,fd,e1,e2⟩:=e
   rw [Gr] at e1
   cases e1
   exact ⟨f,fd,e2⟩
  obtain ⟨n_best_drawn,o_best_drawn,Ge⟩:∃f fd,Y0.MtK (KOf KX) Gv "best_drawn" "Closing.best_drawn" Y0.sC_Closing_best_drawn ["self","kind"] f fd:=by
   have e:∃C f fd,PySem.W.nsIn (KOf KX) mainGlobals "Closing"=some (some (.ref C))/\Y0.MtK (KOf KX) C "best_drawn" "Closing.best_drawn" Y0.sC_Closing_best_drawn ["self","kind"] f fd:=by
    unfold KOf
    refine' ⟨_,_,_,?aC,Y0.mt_mk ?a ?i ?l ?c ?k ?b⟩
    (case aC|a|i|l|c|k=>k_is);(case b=>exact bn2 fun _ _ _ _ _ _ _ _=>rfl)
   obtain ⟨C,f,fd,e1,e2⟩:=e
   rw [Gr] at e1
   cases e1
   exact ⟨f,fd,e2⟩
  obtain ⟨Eu,Uv,J3⟩:∃f fd,Y0.Fn (KOf KX) mg "numbers_needed" Y0.sP_numbers_needed ["rows","last"] f fd:=by
   unfold KOf
   refine' ⟨_,_,Y0.fn_mk KX G ?a ?l ?c ?k ?b⟩
   (case a|l|c|k=>k_is);(case b=>exact bn2 fun _ _ _ _ _ _ _ _=>rfl)
  obtain ⟨Ev,Uw,J4⟩:∃f fd,Y0.Fn (KOf KX) mg "paper_up_to" Y0.sP_paper_up_to ["rows","last"] f fd:=by
   unfold KOf
   refine' ⟨_,_,Y0.fn_mk KX G ?a ?l ?c ?k ?b⟩
   (case a|l|c|k=>k_is);(case b=>exact bn2 fun _ _ _ _ _ _ _ _=>rfl)
  obtain ⟨Ed,Ue,Jn⟩:∃f fd,Y0.Fn (KOf KX) mg "is_told" Y0.sP_is_told ["by_end","wait"] f fd:=by
   unfold KOf
   refine' ⟨_,_,Y0.fn_mk KX G ?a ?l ?c ?k ?b⟩
   (case a|l|c|k=>k_is);(case b=>exact bn2 fun _ _ _ _ _ _ _ _=>rfl)
  obtain ⟨Ee,Uf,Jo⟩:∃f fd,Y0.Fn (KOf KX) mg "kept" Y0.sP_kept ["web"] f fd:=by
   unfold KOf
   refine' ⟨_,_,Y0.fn_mk KX G ?a ?l ?c ?k ?b⟩
   (case a|l|c|k=>k_is);(case b=>exact bn1 fun _ _ _ _ _ _ _=>rfl)
  obtain ⟨U2,Gx,Jc⟩:∃f fd,Y0.Fn (KOf KX) mg "are_two_moments" Y0.sP_are_two_moments ["many","one","other"] f fd:=by
   unfold KOf
   refine' ⟨_,_,Y0.fn_mk KX G ?a ?l ?c ?k ?b⟩
   (case a|l|c|k=>k_is);(case b=>exact bn3 fun _ _ _ _ _ _ _ _ _=>rfl)
  obtain ⟨Es,Ut,J1⟩:∃f fd,Y0.Fn (KOf KX) mg "look_over_size" Y0.sP_look_over_size ["many","last"] f fd:=by
   unfold KOf
   refine' ⟨_,_,Y0.fn_mk KX G ?a ?l ?c ?k ?b⟩
   (case a|l|c|k=>k_is);(case b=>exact bn2 fun _ _ _ _ _ _ _ _=>rfl)
  obtain ⟨Et,Uu,J2⟩:∃f fd,Y0.Fn (KOf KX) mg "look_over_ties" Y0.sP_look_over_ties ["many","ties"] f fd:=by
   unfold KOf
   refine' ⟨_,_,Y0.fn_mk KX G ?a ?l ?c ?k ?b⟩
   (case a|l|c|k=>k_is);(case b=>exact bn2 fun _ _ _ _ _ _ _ _=>rfl)
  obtain ⟨Er,Us,J0⟩:∃f fd,Y0.Fn (KOf KX) mg "look_over_falls" Y0.sP_look_over_falls ["many","falls"] f fd:=by
   unfold KOf
   refine' ⟨_,_,Y0.fn_mk KX G ?a ?l ?c ?k ?b⟩
   (case a|l|c|k=>k_is);(case b=>exact bn2 fun _ _ _ _ _ _ _ _=>rfl)
  have Jb:∃C,Y0.WebK (KOf KX) mg C/\PySem.W.nsIn (KOf KX) mainGlobals "Web"=some (some (.ref C)):=by
   unfold KOf
   refine' ⟨_,Y0.web_mk KX G ?aC ?pg ?hd ?po ?sa ?mk ?kc ?n1 ?n2 ?n3 ?n4,?aD⟩
   (case aC|pg|hd|po|sa|mk|kc|n1|n2|n3|n4|aD=>k_is)
  obtain ⟨Gw,Jb,Gs⟩:=Jb
  obtain ⟨m_init,e_init,Gc⟩:∃f fd,Y0.MtK (KOf KX) Gw "__init__" "Web.__init__" Y0.sC_Web_init ["self","many","last","ties","falls"] f fd:=by
   have e:∃C f fd,PySem.W.nsIn (KOf KX) mainGlobals "Web"=some (some (.ref C))/\Y0.MtK (KOf KX) C "__init__" "Web.__init__" Y0.sC_Web_init ["self","many","last","ties","falls"] f fd:=by
    unfold KOf
    refine' ⟨_,_,_,?aC,Y0.mt_mk ?a ?i ?l ?c ?k ?b⟩
    (case aC|a|i|l|c|k=>k_is);(case b=>exact bn5 fun _ _ _ _ _ _ _ _ _ _ _=>rfl)
   obtain ⟨C,f,fd,e1,e2⟩:=e
   rw [Gs] at e1
   cases e1
   exact ⟨f,fd,e2⟩
  obtain ⟨m_ties,e_ties,Gd⟩:∃f fd,Y0.MtK (KOf KX) Gw "ties" "Web.ties" Y0.sC_Web_ties ["self"] f fd:=by
   have e:∃C f fd,PySem.W.nsIn (KOf KX) mainGlobals "Web"=some (some (.ref C))/\Y0.MtK (KOf KX) C "ties" "Web.ties" Y0.sC_Web_ties ["self"] f fd:=by
    unfold KOf
    refine' ⟨_,_,_,?aC,Y0.mt_mk ?a ?i ?l ?c ?k ?b⟩
    (case aC|a|i|l|c|k=>k_is);(case b=>exact bn1 fun _ _ _ _ _ _ _=>rfl)
   obtain ⟨C,f,fd,e1,e2⟩:=e
   rw [Gs] at e1
   cases e1
   exact ⟨f,fd,e2⟩
  obtain ⟨m_falls,e_falls,Gb⟩:∃f fd,Y0.MtK (KOf KX) Gw "falls" "Web.falls" Y0.sC_Web_falls ["self"] f fd:=by
   have e:∃C f fd,PySem.W.nsIn (KOf KX) mainGlobals "Web"=some (some (.ref C))/\Y0.MtK (KOf KX) C "falls" "Web.falls" Y0.sC_Web_falls ["self"] f fd:=by
    unfold KOf
    refine' ⟨_,_,_,?aC,Y0.mt_mk ?a ?i ?l ?c ?k ?b⟩
    (case aC|a|i|l|c|k=>k_is);(case b=>exact bn1 fun _ _ _ _ _ _ _=>rfl)
   obtain ⟨C,f,fd,e1,e2⟩:=e
   rw [Gs] at e1
   cases e1
   exact ⟨f,fd,e2⟩
  obtain ⟨En,Up,Jx⟩:∃f fd,Y0.Fn (KOf KX) mg "_law_next" Y0.sNext ["_law_dice","_law_many"] f fd:=by
   unfold KOf
   refine' ⟨_,_,Y0.fn_mk KX G ?a ?l ?c ?k ?b⟩
   (case a|l|c|k=>k_is);(case b=>exact bn2 fun _ _ _ _ _ _ _ _=>rfl)
  obtain ⟨Em,Uo,Jw⟩:∃f fd,Y0.Fn (KOf KX) mg "_law_named" Y0.sNamed ["_law_moment","_law_many","_law_turn"] f fd:=by
   unfold KOf
   refine' ⟨_,_,Y0.fn_mk KX G ?a ?l ?c ?k ?b⟩
   (case a|l|c|k=>k_is);(case b=>exact bn3 fun _ _ _ _ _ _ _ _ _=>rfl)
  obtain ⟨Ej,Uk,Jt⟩:∃f fd,Y0.Fn (KOf KX) mg "_law_falls" Y0.sFalls ["_law_d","_law_many","_law_wide"] f fd:=by
   unfold KOf
   refine' ⟨_,_,Y0.fn_mk KX G ?a ?l ?c ?k ?b⟩
   (case a|l|c|k=>k_is);(case b=>exact bn3 fun _ _ _ _ _ _ _ _ _=>rfl)
  obtain ⟨Eo,Uq,Jy⟩:∃f fd,Y0.Fn (KOf KX) mg "_law_ties" Y0.sTies ["_law_d","_law_many","_law_last","_law_wide"] f fd:=by
   unfold KOf
   refine' ⟨_,_,Y0.fn_mk KX G ?a ?l ?c ?k ?b⟩
   (case a|l|c|k=>k_is);(case b=>exact bn4 fun _ _ _ _ _ _ _ _ _ _=>rfl)
  obtain ⟨Ep,Ur,Jz⟩:∃f fd,Y0.Fn (KOf KX) mg "_law_web" Y0.sWeb ["_law_d","_law_most","_law_last","_law_wide"] f fd:=by
   unfold KOf
   refine' ⟨_,_,Y0.fn_mk KX G ?a ?l ?c ?k ?b⟩
   (case a|l|c|k=>k_is);(case b=>exact bn4 fun _ _ _ _ _ _ _ _ _ _=>rfl)
  obtain ⟨Eg,Uh,Jq⟩:∃f fd,Y0.Fn (KOf KX) mg "_law_bounds" Y0.sL_bounds ["_law_w"] f fd:=by
   unfold KOf
   refine' ⟨_,_,Y0.fn_mk KX G ?a ?l ?c ?k ?b⟩
   (case a|l|c|k=>k_is);(case b=>exact bn1 fun _ _ _ _ _ _ _=>rfl)
  obtain ⟨Ek,Ul,Ju⟩:∃f fd,Y0.Fn (KOf KX) mg "_law_follows" Y0.sL_follows ["_law_w","_law_word","_law_used"] f fd:=by
   unfold KOf
   refine' ⟨_,_,Y0.fn_mk KX G ?a ?l ?c ?k ?b⟩
   (case a|l|c|k=>k_is);(case b=>exact bn3 fun _ _ _ _ _ _ _ _ _=>rfl)
  obtain ⟨El,Um,Jv⟩:∃f fd,Y0.Fn (KOf KX) mg "_law_is_paper" Y0.sL_is_paper ["_law_w","_law_rows"] f fd:=by
   unfold KOf
   refine' ⟨_,_,Y0.fn_mk KX G ?a ?l ?c ?k ?b⟩
   (case a|l|c|k=>k_is);(case b=>exact bn2 fun _ _ _ _ _ _ _ _=>rfl)
  obtain ⟨Eh,Ui,Jr⟩:∃f fd,Y0.Fn (KOf KX) mg "_law_changed" Y0.sL_changed ["_law_d","_law_rows","_law_many"] f fd:=by
   unfold KOf
   refine' ⟨_,_,Y0.fn_mk KX G ?a ?l ?c ?k ?b⟩
   (case a|l|c|k=>k_is);(case b=>exact bn3 fun _ _ _ _ _ _ _ _ _=>rfl)
  obtain ⟨Ei,Uj,Js⟩:∃f fd,Y0.Fn (KOf KX) mg "_law_drawn_rows" Y0.sL_drawn_rows ["_law_d","_law_w"] f fd:=by
   unfold KOf
   refine' ⟨_,_,Y0.fn_mk KX G ?a ?l ?c ?k ?b⟩
   (case a|l|c|k=>k_is);(case b=>exact bn2 fun _ _ _ _ _ _ _ _=>rfl)
  have Jp:∃f fd,Y0.Fn (KOf KX) mg "law" Y0.sLaw ["_law_script"] f fd/\∀(s:Shared) (u:Value),BindsTo s fd ⟨[u],[]⟩ [("_law_script",u)]:=by
   unfold KOf
   refine' ⟨_,_,Y0.fn_mk KX G ?a ?l ?c ?k ?b,?bb⟩
   (case a|l|c|k=>k_is);(case b=>exact bn1 fun _ _ _ _ _ _ _=>rfl);(case bb=>exact fun s u=>.of_eq rfl)
  obtain ⟨Ef,Ug,Jp,Gu⟩:=Jp
  have TW:Y0.TxtW mg:=by
   refine' Y0.txtW_mk KX G ?a ?b ?c ?d ?e
   (case a|b|c|d|e=>k_is)
  have TU:Y0.TxtU (KOf KX) mg:=by
   unfold KOf
   refine' Y0.txtU_mk KX G ?a ?t ?z
   (case a=>k_is);(case t=>with_unfolding_all rfl);(case z=>k_is)
  have Z:PySem.W.nsIn (KOf KX) mainGlobals "min"=some none/\PySem.W.nsIn (KOf KX) mainGlobals "max"=some none/\PySem.W.nsIn (KOf KX) mainGlobals "sorted"=some none/\PySem.W.nsIn (KOf KX) mainGlobals "isinstance"=some none/\PySem.W.nsIn (KOf KX) mainGlobals "int"=some none/\PySem.W.nsIn (KOf KX) mainGlobals "bool"=some none/\PySem.W.nsIn (KOf KX) mainGlobals "reversed"=some none/\PySem.W.nsIn (KOf KX) mainGlobals "all"=some none/\PySem.W.kitOne (KOf KX) (.type "int") (.type "bool")=some false:=by
   unfold KOf
   refine' ⟨?a,?b,?c,?d,?e,?f,?g,?h,?i⟩
   (case a|b|c|d|e|f|g|h=>k_is);(case i=>with_unfolding_all rfl)
  have zl:=Ja.tc.len
  have zr:=Ja.tc.range
  have zt:=TU.tuple
  have zm:=ZAo KX G Z.1
  have zx:=ZAo KX G Z.2.1
  have zs:=ZAo KX G Z.2.2.1
  have zi:=ZAo KX G Z.2.2.2.1
  have za:=ZAo KX G Z.2.2.2.2.2.2.2.1
  have TL:Y0.TxtL (KOf KX) mg:=⟨zr,zi,ZAo KX G Z.2.2.2.2.1,ZAo KX G Z.2.2.2.2.2.1,Z.2.2.2.2.2.2.2.2⟩
  have zrv:=ZAo KX G Z.2.2.2.2.2.2.1
  have e0:=hmg.symm.trans Jp.g
  cases e0
  refine ⟨Ug,Gu,fun base kb nb=>?gg⟩
  case gg=>
   have GN:=Y0.ok_next (P:=ZCb) (w:=w) (base:=base) Jx zl
   have GM:=Y0.ok_named (P:=ZCb) (w:=w) (base:=base) Jw
   have GF:=Y0.ok_falls Jt Jx GN zm zr
   have GT:=Y0.ok_ties Jy Jx GN zm zx zr
   have GW:=Y0.ok_web Jz Jx GN Jw GM Jt GF Jy GT
   have G2:=Y0.ok_two (P:=ZCb) (w:=w) (base:=base) Jc
   have GS:=Y0.ok_size (P:=ZCb) (w:=w) (base:=base) J1 TW
   have GLT:=Y0.ok_lties J2 TW Jc G2
   have GLF:=Y0.ok_lfalls J0 TW Jc G2
   have GI:=Y0.ok_init Gc.F TW Jb.tc J1 GS J2 GLT J0 GLF
   have Gt:=Y0.ok_tiesM (P:=ZCb) (w:=w) (base:=base) Gd.F TW Jb.tc
   have Gf:=Y0.ok_fallsM (P:=ZCb) (w:=w) (base:=base) Gb.F TW Jb.tc
   have GRo:=Y0.ok_room (P:=ZCb) (w:=w) (base:=base) J5 ⟨zr⟩ Jb.tc
   have GSp:=Y0.ok_span (P:=ZCb) (w:=w) (base:=base) J7
   have GBw:=Y0.ok_with Je Jb.tc J5 GRo J7 GSp Gb.meth Gb.b Gf
   have GTo:=Y0.ok_told J8 Jb.tc Je GBw Gd.meth Gd.b Gt
   have GBE:=Y0.ok_byEnd Jl Jb.tc Gb.meth Gb.b Gf
   have W1:=Y0.ok_sum (P:=ZCb) (w:=w) (base:=base) Jj
   have W2:=Y0.ok_late (P:=ZCb) (w:=w) (base:=base) Jh
   have W3:=Y0.ok_soon (P:=ZCb) (w:=w) (base:=base) Ji
   have W4:=Y0.ok_sure (P:=ZCb) (w:=w) (base:=base) Jk ⟨zm⟩
   have W5:=Y0.ok_back (P:=ZCb) (w:=w) (base:=base) Jf ⟨zm⟩
   have W6:=Y0.ok_cross (P:=ZCb) (w:=w) (base:=base) Jg ⟨zm⟩
   have GWf:=Y0.ok_follows J9 TU Jj W1 Jh W2 Ji W3 Jk W4 Jf W5 Jg W6
   have GBa:=Y0.ok_bars (P:=ZCb) (w:=w) (base:=base) Jd
   have GNw:=Y0.ok_news (P:=ZCb) (w:=w) (base:=base) Gm.F Ja.tc
   have GTk:=Y0.ok_take Gp.F Ja.tc Gm.meth Gm.b GNw Jd GBa
   have GDr:=Y0.ok_draw Gg.F Ja.tc Gp.meth Gp.b GTk J9 GWf
   have GKn:=Y0.ok_known (P:=ZCb) (w:=w) (base:=base) Gn.F Ja.tc
   have GTt:=Y0.ok_tiesTo (P:=ZCb) (w:=w) (base:=base) Gq.F Ja.tc
   have GFw:=Y0.ok_fromWait Gj.F Ja.tc Gg.meth Gg.b GDr Gq.meth Gq.b GTt
   have GFt:=Y0.ok_fromTie Gi.F Ja.tc Gg.meth Gg.b GDr Gq.meth Gq.b GTt Gn.meth Gn.b GKn
   have GDa:=Y0.ok_drawAll Gh.F Ja.tc Gi.meth Gi.b GFt Gj.meth Gj.b GFw
   have GCi:=Y0.ok_cinit Gk.F Ja.tc Jb.tc Gp.meth Gp.b GTk Jl GBE J8 GTo
   have GBd:=Y0.ok_best (P:=ZCb) (w:=w) (base:=base) Ge.F Ja.tc zs
   have GNn:=Y0.ok_needed (P:=ZCb) (w:=w) (base:=base) J3 zr zs
   have GPu:=Y0.ok_paperUp J4 zl zt J3 GNn
   have GIt:=Y0.ok_isTold (P:=ZCb) (w:=w) (base:=base) Jn
   have GKe:=Y0.ok_kept Jo Ja.tc ⟨Ja.mk_,Gk.a,Gk.i,Ja.kc⟩ Ja.g Gk.b GCi Gh.meth Gh.b GDa Ge.meth Ge.b GBd J4 GPu Jn GIt
   have GLB:=(Y0.ok_lbounds (P:=ZCb) (w:=w) (base:=base) Jq TL).fn
   have GFl:=Y0.ok_lfollows (P:=ZCb) (w:=w) (base:=base) Ju zm zl
   have GLP:=Y0.ok_lisP Jv zr zl Jq GLB Ju GFl
   have GRf:=Y0.ok_rowF J6 za zl J9 GWf
   have GIp:=Y0.ok_isPaper Jm zr zl J8 GTo Jl GBE J6 GRf Jd GBa
   have GCh:=Y0.ok_changed Jr Jx GN zl zt TW.list zrv
   have GDn:=Y0.ok_drawn Js Jx GN zl zt zr TL.int Jq GLB Ju GFl
   exact Y0.ok_law Jp zi TW.list TL.bool Jb.tc Jz GW ⟨Jb.mk_,Gc.a,Gc.i,Jb.kc⟩ Gc.b GI Jo GKe Jx GN Jr GCh Js GDn Jv GLP Jm GIp
